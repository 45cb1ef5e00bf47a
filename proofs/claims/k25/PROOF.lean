import PyProof.Rows.All
import Wide.All
import OpenK.AllK
import Wide.FinOn
import Lean
import PyProof.EqAt
import PyProof.EqKinds
import PyProof.TupleCall
import PyProof.EnumStmt
import PyProof.EnumMake
import PyProof.EnumFor
import PyProof.ZipIter
import PyProof.SetKind
import PyProof.Rows.SetFrom
import PyProof.CompFree
import PyProof.CompMap
import PyProof.Cells
import PyProof.ListMulRoad
import PyProof.ConsumeWalk
import PyProof.TupleOfGen
import PyProof.ListRange
import PySem.Challenge.RW_groupwalks_k25_whole_parts
set_option bootstrap.genMatcherCode false
set_option Elab.async false
set_option linter.all false
set_option maxRecDepth 100000
set_option maxHeartbeats 0
set_option compiler.postponeCompile true
set_option bootstrap.genMatcherCode false
set_option genSizeOfSpec false
set_option relaxedAutoImplicit false
set_option compiler.extract_closed false
theorem au1 (h:0=0:=by rfl):0=0:=h
theorem au2 (h:0=0:=by decide):0=0:=h
theorem au3 (h:Nat->0=0:=by intro _;rfl):0=0:=h 0
theorem au4 (h:0=0\/0=1:=by first | exact .inl rfl | exact .inr rfl | assumption):0=0:=rfl
noncomputable section
open Array renaming length_toList→dG,getElem?_eq_getElem→eP,getElem?_toList→fV,getElem?_eq_none→By,toList_append→EF
open Bool renaming and_eq_true→aB,false_ne_true→bM,false_eq_true→eE,and_true→fe,or_eq_true→nX
open Classical renaming propDecidable→bJ,byContradiction→uw
open False renaming elim→cR
open ForInStep renaming yield→dE
open Int renaming toNat_natCast→cM,ofNat_lt→fP,natCast_emod→ng,toNat→pL,emod_lt_of_pos→sh,natCast_nonneg→si,natCast_ediv→vT,emod_nonneg→xW,natCast_add→xX,eq_ofNat_of_zero_le→BH
open LT renaming lt→Ek
open List renaming getElem?_eq_some_iff→ag,range→ar,length_map→aw,getElem?_eq_getElem→ay,getElem?_append_right→aA,mem_cons_of_mem→aD,mem_map→aE,size_toArray→aF,mem_cons→aJ,getElem?_set_ne→aK,lookup_cons→aO,getElem?_append_left→aR,replicate→aU,mem_append_right→aV,getElem?_set_self→aW,length_append→aX,length_range→ba,mem_range→bb,getD_eq_getElem?_getD→bc,nodup_iff_pairwise_ne→bf,getElem?_map→bg,append_assoc→bh,mem_append→bq,mem_cons_self→br,map_cons→bA,mem_append_left→bB,all_eq_true→bC,mem_singleton→bN,find?_cons→bO,all_cons→b0,any_eq_true→ck,getElem_mem→cY,map_congr_left→de,eq_nil_of_length_eq_zero→di,mem_of_getElem?→dz,length_cons→dA,findIdx?_eq_some_iff_getElem→dC,replicate_succ→dI,range'→dJ,nil_append→dM,map_append→d0,any_cons→eh,getElem?_eq_none→eK,mem_filter→eW,flatten_cons→eX,pairwise_map→eY,map_map→fK,length_set→fQ,foldl_cons→fR,set_append_right→fX,take_add_one→gd,all_nil→gU,filterMap_cons→gY,append_nil→ij,nodup_cons→ip,length_nil→iq,lookup_append→iu,getElem?_replicate→iG,forIn_cons→jR,getElem_of_mem→j7,getElem?_range→kc,pairwise_iff_getElem→lh,getElem?_eq_none_iff→lq,foldl_append→lC,nodup_append→lD,idxOf_lt_length_iff→lJ,length_take→mS,length_eq_zero_iff→mT,take_length→mU,not_mem_nil→mV,map_nil→nA,pairwise_lt_range→nB,of_mem_zip→nU,range_succ→nY,length_replicate→n8,lookup→o4,filter_eq_self→pM,flatten_append→pN,ext_getElem?→sr,eraseIdxIfInBounds_toArray→tD,range'_succ→uu,map_id→vU,length_eraseIdx_of_lt→ya,drop_eq_getElem_cons→zi,eraseIdx_cons_succ→Bw,getElem?_cons_succ→Bz,getElem?_cons_zero→BB,filter_cons_of_pos→BC,filter_cons_of_neg→BD,drop_eq_nil_of_le→BG,filter_eq_nil_iff→BJ,dropLast_eq_take→El,length_filter_le→Ep,pairwise_flatten→Er,length→Ey,pairwise_append→EA,getElem_toArray→EE,map_eq_cons_iff→EG,range_eq_range'→EH,mem_iff_getElem→EI
open List.Pairwise renaming nil→gW,imp_of_mem→jB
open Nat renaming le_refl→aj,lt_of_lt_of_le→ao,ne_of_lt→aG,le_trans→aL,lt_of_le_of_lt→aN,le_of_lt→aQ,mod_eq_of_lt→bG,lt_trans→bK,lt_irrefl→bL,le_of_not_lt→cf,lt_succ_self→cg,add_pos_left→cn,lt_succ_of_lt→cq,zero_le→dj,ne_of_gt→dH,le_succ→dO,zero_add→ei,mul_le_mul_right→fb,lt_succ_iff_lt_or_eq→fj,le_add_right→fA,add_assoc→fY,le_succ_of_le→gg,le_of_lt_succ→gm,div_eq_of_lt→gX,succ_mul→i3,mul_comm→ky,mod_lt→kQ,lt_of_le_of_ne→kR,sub_le→kW,lt_trichotomy→lE,add_mod_right→lG,sub_sub_right→lH,sub_add_comm→nc,add_comm→nV,add_zero→nZ,mod_self→n0,mod_add_mod→n9,mul_le_mul_left→pY,eq_of_mul_eq_mul_right→zk,le_mul_of_pos_right→BI,le_of_eq→Em,sub_self→En,lt_of_succ_lt_succ→Eo
open Nat.succ renaming inj→yb
open Ne renaming symm→d7
open Option renaming bind_some→ai,map_some→aT,map_eq_some_iff→d8,isSome_iff_exists→gZ,getD_some→i7,isSome_map→qo,bind_eq_some_iff→zj,isSome_some→EC
open Option.some renaming inj→bS,injEq→eD
open PUnit renaming unit→pX
open PyProof renaming noPylong_small→zh
open PyProof.Rows renaming callWith_type1→cb,recsOf→fZ,boot_list→kz,callWith_builtin1→o3,boot_sorted→su,boot_tuple→tF
open PyProof.Rows.F renaming plain_set_update_loop→fS,entry_set_update_loop→lF
open PyProof.Rows.IsTup renaming new→tz
open PySem renaming wpAny_bind→ae,wpAny_pure→az,wpAny→aH,mem_of_lookup→bY,codeAny_builtin→cK,wpAny_newObj_type→cU,wpAny_mono→da,wpAny_truthy_bool→dr,wpAny_Call_Name_kw→dW,wpAny_call_entry→dX,wpAny_holding→dZ,wpAny_setField_rec→gf,wpAny_passesOwn→gF,wpAny_loadPart'→gG,wpAny_of_eq→ie,codeAny_mono→il,Addr→ir,wpAny_setEntries_of→iH,wpAny_callSpecial?_slot→i6,wpAny_setState_of→jt,wpAny_runValue→ju,wpAny_askSetting→j8,wpAny_pyIter_list→ny,codeAny→nz,wpAny_isInstance→oZ,wpAny_typeOf→pE,wpAny_execs_nil→pJ,wpAny_updateSeq→pK,wpAny_fieldsOf→se,PyData→sj,wpAny_attempt→ur,wpAny_load→vQ,wpAny_assign_Name→xS,codeAny_of_tree→Bx,wpAny_rule→Ej
open PySem.Around renaming under_plainId→bT,frames_deeper→BF
open PySem.AutoSeq1 renaming idx_int→qp
open PySem.Builtin.List renaming listExtendWith→fB,listSameRef→gh,listTooLong→jQ,listLengthHint→pW
open PySem.Builtin.Range renaming rangeSize→bH,rangeSize→dD,small→eN
open PySem.Builtin.Tuple renaming tupleTooMany→pV,tupleExact→sg
open PySem.Calls renaming spliced_cons→ku,call_function_entry→kT,callWith_builtin→m9,evalArgs_plain→oY,spliced_nil→r9,Name_function_global→xR
open PySem.Data renaming fields→Es,seq→ED
open PySem.F renaming plain_list_iadd→d9,plainAttrs_list→ig,entry_proto_collect→jw,plain_proto_collect→jx,args_tuple_add_2→kP,entry_tuple_add→lB,slot_tuple_add→mz,entry_list_iadd→mW,args_tuple_mul_2→tE,entry_tuple_mul→vS,slot_tuple_mul→xU,slot_tuple_index→xV,plain_set_new→Ae,slot_set_iter→Af,slot_list_pop→Ag,type_list_pop→Ah
open PySem.Heap renaming get?_push_of_some→ah,get?_push_size→ax,lt_size→aC,size_push→bw,get?_update_other→cy,get?_update_self→dP,SameBut→fI,get?_push_ne→so,ExtBut→EB
open PySem.IsL renaming update→Ei
open PySem.NameKind renaming free→aP,cell→cz
open PySem.Obj renaming mapSeq→cX
open PySem.Paired renaming length→xY
open PySem.PassesOwn renaming never→sf
open PySem.PyData renaming eqvAll→bV,eqv→cP,int→eS,eqv→eZ,canLay0→iP,depthAll→jv,depth→jS,canLayAll0→kS
open PySem.SeqAt renaming shaped→j9,notIn_tupleAt→Ez
open PySem.SeqAt.EqAt renaming int_str→Ac,str_int→Ad
open PySem.SetTable renaming below→be,grown→fW,has→xZ
open PySem.SetTable.below renaming go→gS
open PySem.SetTable.probe renaming go→xT
open PySem.Shared renaming TypeIs→ll
open PySem.Str renaming ofString→nW
open PySem.Value renaming ref→bp,none→fH,int→my,type→m8,isInt_shape→rZ,str→tu,bool→xQ
open PySem.W renaming Frag→ak,keepIn→cj,fnOf→cH,kia_one→dk,nsIn→eQ,codeIn→gc,cellsFrom_some→iF,findIn→j6,mg_of→kU,OpenLaw→mX,callWith_K→pD,methodObj→pU,instObj→tw,lookIn→vR,hideAll_size→Bu,hideAll_none→Bv,hideAll_get→BE,of_hideAll→Eh,specialIn→Et,kitx_list→Eu,kitx_dict→Ew
open Sum renaming inl→eM,inr→tq
open Sum.inl renaming inj→sk
open True renaming intro→fJ
section
namespace _L
open PySem PySem.Spec PyProof.Rows
abbrev Key:=Sum Int Str
noncomputable def rf:Key->Value->Bool
 | .inl k,v=>Value.isInt k v
 | .inr x,v=>Value.isStrOf x v
noncomputable def NA (w:World):Key->Int
 | .inl k=>hashInt k
 | .inr x=>hashStr w x
theorem dY : ∀ {k:Key}{v:Value},rf k v=true->(∃ i t,k=eM i/\v=my i t)\/(∃ x t,k=tq x/\v=tu x t)
 | .inl i,v,h=>by
   obtain⟨t,e⟩:=rZ (k:=i) (v:=v) h
   exact .inl ⟨i,t,rfl,e⟩
 | .inr x,v,h=>by
   obtain⟨t,e⟩:=Value.isStrOf_shape (x:=x) (v:=v) h
   exact .inr ⟨x,t,rfl,e⟩
theorem Bf (i:Int) (t:Tok):rf (.inl i) (.int i t)=true:=by simp [rf,Value.isInt]
theorem AQ (x:Str) (t:Tok):rf (.inr x) (.str x t)=true:=by simp [rf,Value.isStrOf]
theorem IB (a b:Int):decide ((eM a:Key)=eM b)=(a == b):=by
 by_cases e:a=b
 ·subst e;simp
 ·have h : ¬ (eM a:Key)=eM b:=fun q=>e (sk q)
  rw [decide_eq_false h]
  exact (beq_eq_false_iff_ne.mpr e).symm
theorem IM (a b:Str):decide ((tq a:Key)=tq b)=decide (a=b):=by
 by_cases e:a=b
 ·subst e;simp
 ·have h : ¬ (tq a:Key)=tq b:=fun q=>e (Sum.inr.inj q)
  rw [decide_eq_false h,decide_eq_false e]
theorem Jc (a:Int) (b:Str):decide ((eM a:Key)=tq b)=false:=decide_eq_false (fun q=>nomatch q)
theorem HA (a:Str) (b:Int):decide ((tq a:Key)=eM b)=false:=decide_eq_false (fun q=>nomatch q)
noncomputable def dQ (prog:Program) (w:World):PySem.KeyKind prog w Key where
 is:=rf
 hash:=NA w
 inj:=fun v a b ha hb=>by
  rcases dY ha with⟨i,t,rfl,rfl⟩ | ⟨x,t,rfl,rfl⟩
  ·rcases dY hb with⟨j,u,rfl,e⟩ | ⟨y,u,rfl,e⟩
   ·injection e with e1 _;rw [e1]
   ·exact nomatch e
  ·rcases dY hb with⟨j,u,rfl,e⟩ | ⟨y,u,rfl,e⟩
   ·exact nomatch e
   ·injection e with e1 _;rw [e1]
 byValue:=fun k v h=>by
  rcases dY h with⟨i,t,rfl,rfl⟩ | ⟨x,t,rfl,rfl⟩ <;> rfl
 pyHash:=fun hv h=>by
  rcases dY hv with⟨i,t,rfl,rfl⟩ | ⟨x,t,rfl,rfl⟩
  ·exact wpAny_pyHash_int h
  ·exact wpAny_pyHash_str h
 eqBool:=fun hu hv h=>by
  rcases dY hu with⟨i,t,rfl,rfl⟩ | ⟨x,t,rfl,rfl⟩
  ·rcases dY hv with⟨j,u,rfl,rfl⟩ | ⟨y,u,rfl,rfl⟩
   ·rw [IB] at h;exact wpAny_eqBool_int h
   ·rw [Jc] at h;exact Ac i t y u _ _ _ _ h
  ·rcases dY hv with⟨j,u,rfl,rfl⟩ | ⟨y,u,rfl,rfl⟩
   ·rw [HA] at h;exact Ad x t j u _ _ _ _ h
   ·rw [IM] at h;exact wpAny_eqBool_str h
 «strs»:=fun k x t v h=>by
  rcases dY h with⟨i,u,rfl,e⟩ | ⟨y,u,rfl,e⟩
  ·exact nomatch e
  ·injection e with e1 _
   subst e1
   cases v <;> rfl
theorem wb (prog:Program) (w:World) (i:Int) (t:Tok):(dQ prog w).is (.inl i) (.int i t)=true:=Bf i t
theorem wB (prog:Program) (w:World) (x:Str) (t:Tok):(dQ prog w).is (.inr x) (.str x t)=true:=AQ x t
end _L
namespace _L
open PySem PySem.Spec PyProof.Rows
inductive V where
 | non | bl (b:Bool) | int (i:Int) | str (x:Str) | byt (b:Array UInt8) | flt (b:UInt64) | ref (a:Addr) | ty (n:String)
 deriving DecidableEq
noncomputable def RelV:V->Value->Prop
 | .non,u=>u=fH
 | .bl b,u=>u=xQ b
 | .int i,u => ∃ t,u=my i t
 | .str x,u => ∃ t,u=tu x t
 | .byt b,u => ∃ t,u=Value.bytes b t
 | .flt b,u => ∃ t,u=Value.float b t
 | .ref a,u=>u=bp a
 | .ty n,u=>u=m8 n
abbrev cu:List V->List Value->Prop:=Paired RelV
theorem cu.length {xs:List V}{us:List Value} (r:cu xs us):xs.length=us.length:=xY r
theorem cu.get : ∀ {xs:List V}{us:List Value}{i:Nat}{x:V},cu xs us->xs[i]? = some x -> ∃ u,us[i]? = some u/\RelV x u
 | _,_,_,_,.nil,e=>by simp at e
 | _,_,0,_,.cons r _,e=>by simp at e;subst e;exact⟨_,rfl,r⟩
 | _,_,i+1,x,.cons _ t,e=>by
   obtain⟨u,h1,h2⟩:=cu.get (i:=i) (x:=x) t (by simpa using e)
   exact⟨u,by simpa using h1,h2⟩
theorem cu.set {x:V}{u:Value} (r:RelV x u) : ∀ {xs:List V}{us:List Value} (i:Nat),cu xs us->cu (xs.set i x) (us.set i u)
 | _,_,_,.nil => .nil
 | _,_,0,.cons _ t => .cons r t
 | _,_,i+1,.cons q t => .cons q (cu.set r i t)
theorem cu.append : ∀ {xs ys:List V}{us ws:List Value},cu xs us->cu ys ws->cu (xs++ys) (us++ws)
 | _,_,_,_,.nil,s=>s
 | _,_,_,_,.cons r t,s => .cons r (cu.append t s)
noncomputable def qT:Option V->Option Value->Prop
 | some v,some u=>RelV v u
 | none,none=>True
 | _,_=>False
noncomputable def KV {κ:Type}:List (κ×V)->List (κ×Value)->Prop:=Paired fun (p:κ×V) (q:κ×Value)=>p.1=q.1/\RelV p.2 q.2
noncomputable def kV:Key->V
 | .inl i => .int i
 | .inr x => .str x
inductive HO where
 | lst (xs:List V)
 | tup (xs:List V)
 | dK (kvs:List (Key×V)) | dT (kvs:List (List Key×V))
 | set (S:Int->Bool) (n:Nat)
 | ins (C dx:Addr) (fs:List (Str×V))
 | own (x:Addr)
 | xd (fs:List (Str×V))
 | met (f x:Addr)
 | rng (lo hi:Int)
 | frz (o:Obj) (u:HO)
 | tbl (ps:Array Value)
 | ext (φ:Heap->Prop)
abbrev Hp:=Addr->Option HO
noncomputable def upd (H:Hp) (a:Addr) (o:HO):Hp:=fun b=>if b=a then some o else H b
theorem cJ {H:Hp}{a:Addr}{o:HO}:upd H a o a=some o:=by unfold upd;rw [if_pos rfl]
theorem bE {H:Hp}{a b:Addr}{o:HO} (h:b≠a):upd H a o b=H b:=by unfold upd;rw [if_neg h]
theorem rN {H:Hp}{a b:Addr}{o u:HO} (h:H a=some o) (h':H b=some u) (d:o≠u):a≠b:=by
 intro e;subst e;rw [h] at h';exact d (bS h')
theorem bz {H:Hp}{a b:Addr}{o:HO} (h:H a=some o) (h':H b=none):a≠b:=by
 intro e;subst e;rw [h] at h';cases h'
section
variable (P:Program) (w:World)
noncomputable def d6 (H:Hp) (h:Heap) (a:Addr):HO->Prop
 | .lst xs=>xs.length<=sizeLine /\ ∃ (its:List Value) (n:Nat),cu xs its/\h.get? a=some { cls := .type "list",data := .seq its.toArray n }
 | .tup xs=>xs.length<=sizeLine /\ ∃ its:List Value,cu xs its/\IsTup h a its.toArray /\ ∃ o,h.get? a=some o/\o.dict=none
 | .dK kvs=>kvs.length<=sizeLine/\(a == sysModules)=false /\ ∃ vs,KV kvs vs/\h.DictOf (dQ P w) a vs
 | .dT kvs=>kvs.length<=sizeLine/\(a == sysModules)=false /\ ∃ xs:List (List Key×Addr×Value),
   Paired (fun (p:List Key×V) (q:List Key×Addr×Value)=>p.1=q.1/\H q.2.1=some (.tup (p.1.map kV))/\RelV p.2 q.2.2) kvs xs /\
   ∃ o es ep,h.get? a=some o/\o.ExactDict/\o.data = .dict es ep/\es.toList=xs.map (entryOfKey (tupleKind (dQ P w)))/\(xs.map (·.1)).Nodup
 | .set S n=>h.SetOf (intKind P w) a S n
 | .ins C dx fs=>H dx=some (.own a)/\fs.length<=1000/\dx≠a/\h.get? a=some (tw C dx) /\
   ∃ mA,h.Ns1 dx mA/\(∀ f,qT (fs.lookup f) (mA f))/\PySem.Within mA (fs.map (·.1))
 | .own _ => ∃ o,h.get? a=some o
 | .xd fs => ∃ mA,h.Ns1 a mA /\ ∀ f,qT (fs.lookup f) (mA f)
 | .rng lo hi => ∃ t u v,h.get? a=some { cls := .type "range",data := .fields #[.int lo t,.int hi u,.int 1 v] }
 | .frz o u=>h.get? a=some o/\d6 H h a u
 | .tbl ps=>h.get? a=some { cls := .none,data := .fields ps }
 | .met f x=>h.get? a=some (pU (.ref f) (.ref x))
 | .ext φ=>φ h/\(∃ o,h.get? a=some o) /\ ∀ h1 h2:Heap,φ h1->(∀ o,h1.get? a=some o->h2.get? a=some o)->φ h2
noncomputable def HOk (H:Hp) (h:Heap):Prop := ∀ a o,H a=some o->d6 P w H h a o
end
section
variable {P:Program}{w:World}{H H':Hp}{h h':Heap}{a:Addr}{o:HO}
theorem d6.lt (x:d6 P w H h a o):a < h.objs.size:=by
 cases o with
 | lst xs=>obtain⟨_,_,_,_,e⟩:=x;exact aC e
 | tup xs=>obtain⟨_,_,_,p⟩:=x;exact p.1.lt
 | dK kvs=>obtain⟨_,_,_,_,o,_,_,e,_⟩:=x;exact aC e
 | dT kvs=>obtain⟨_,_,_,_,o,_,_,e,_⟩:=x;exact aC e
 | set S n=>obtain⟨o,_,_,_,e,_⟩:=x;exact aC e
 | ins C dx fs=>obtain⟨_,_,_,e,_⟩:=x;exact aC e
 | own y=>obtain⟨_,e⟩:=x;exact aC e
 | xd fs=>obtain⟨_,⟨_,_,_,e,_⟩,_⟩:=x;exact aC e
 | rng lo hi=>obtain⟨_,_,_,e⟩:=x;exact aC e
 | frz ob u=>obtain⟨e,_⟩:=x;exact aC e
 | tbl ps=>exact aC (show h.get? a=some _ from x)
 | met f y=>exact aC (show h.get? a=some _ from x)
 | ext φ=>obtain⟨_,⟨_,e⟩,_⟩:=x;exact aC e
theorem Paired.mapP {α β:Type}{F G:α->β->Prop} : ∀ {l₁:List α}{l₂:List β},Paired F l₁ l₂->(∀ a b,F a b->G a b)->Paired G l₁ l₂:=by
 intro l m h f
 induction h with
 | nil=>exact .nil
 | cons r t ih=>exact .cons (f _ _ r) ih
theorem d6.stay (x:d6 P w H h a o) (k : ∀ b u,(b=a\/H b=some (.own a))->h.get? b=some u->h'.get? b=some u)
  (ho : ∀ b,H b=some (.own a)->H' b=some (.own a)) (ht : ∀ b xs,H b=some (.tup xs)->H' b=some (.tup xs)):d6 P w H' h' a o:=by
 induction o with
 | lst xs=>obtain⟨z,its,n,r,e⟩:=x;exact⟨z,its,n,r,k _ _ (.inl rfl) e⟩
 | tup xs=>obtain⟨z,its,r,⟨ob,e,c⟩,o2,e2,c2⟩:=x;exact⟨z,its,r,⟨ob,k _ _ (.inl rfl) e,c⟩,o2,k _ _ (.inl rfl) e2,c2⟩
 | dK kvs=>obtain⟨z,y,vs,r,ob,es,ep,e,c⟩:=x;exact⟨z,y,vs,r,ob,es,ep,k _ _ (.inl rfl) e,c⟩
 | dT kvs=>
   obtain⟨z,y,xs,r,ob,es,ep,e,c⟩:=x
   exact⟨z,y,xs,Paired.mapP r fun p q z=>⟨z.1,ht _ _ z.2.1,z.2.2⟩,ob,es,ep,k _ _ (.inl rfl) e,c⟩
 | set S n=>obtain⟨ob,es,ep,t,e,c⟩:=x;exact⟨ob,es,ep,t,k _ _ (.inl rfl) e,c⟩
 | ins C dx fs=>
   obtain⟨d,z,ne,e,mA,⟨od,es,ep,e2,c⟩,r⟩:=x
   exact⟨ho _ d,z,ne,k _ _ (.inl rfl) e,mA,⟨od,es,ep,k _ _ (.inr d) e2,c⟩,r⟩
 | own y=>obtain⟨ob,e⟩:=x;exact⟨ob,k _ _ (.inl rfl) e⟩
 | xd fs=>obtain⟨mA,⟨od,es,ep,e,c⟩,r⟩:=x;exact⟨mA,⟨od,es,ep,k _ _ (.inl rfl) e,c⟩,r⟩
 | rng lo hi=>obtain⟨t,u,v,e⟩:=x;exact⟨t,u,v,k _ _ (.inl rfl) e⟩
 | frz ob u ih=>obtain⟨e,q⟩:=x;exact⟨k _ _ (.inl rfl) e,ih q⟩
 | tbl ps=>
   have e:h.get? a=some { cls := .none,data := .fields ps }:=x
   show h'.get? a=some { cls := .none,data := .fields ps }
   exact k a _ (.inl rfl) e
 | met f y=>
   have e:h.get? a=some (pU (.ref f) (.ref y)):=x
   show h'.get? a=some (pU (.ref f) (.ref y))
   exact k a _ (.inl rfl) e
 | ext φ=>obtain⟨p,⟨o,e⟩,st⟩:=x;exact⟨st _ _ p fun o q=>k _ _ (.inl rfl) q,⟨o,k _ _ (.inl rfl) e⟩,st⟩
theorem HOk.lt (x:HOk P w H h) (e:H a=some o):a < h.objs.size:=(x a o e).lt
theorem HOk.fresh (x:HOk P w H h) (e:h.objs.size<=a):H a=none:=by
 cases q:H a with
 | none=>rfl
 | some u=>exact absurd (ao (x.lt q) e) (bL _)
theorem HOk.kept (x:HOk P w H h) (k : ∀ b u,h.get? b=some u->h'.get? b=some u):HOk P w H h':=fun a o e=>
 (x a o e).stay (fun b u _ q=>k b u q) (fun _ q=>q) fun _ _ q=>q
theorem HOk.laid (x:HOk P w H h) (k : ∀ b u,h.get? b=some u->h'.get? b=some u) (hp:h.objs.size<=a) (new:d6 P w (upd H a o) h' a o):HOk P w (upd H a o) h':=fun b u e=>by
 have hn:=x.fresh hp
 by_cases hb:b=a
 ·subst hb;rw [cJ] at e;cases e;exact new
 ·rw [bE hb] at e
  exact (x b u e).stay (fun c v _ q=>k c v q) (fun c q=>by rw [bE (bz q hn)];exact q) fun c xs q=>by rw [bE (bz q hn)];exact q
end
noncomputable def Rd (H:Hp) (a:Addr) (u:HO):Prop:=H a=some u \/ ∃ o,H a=some (.frz o u)
theorem Rd.ok {P:Program}{w:World}{H:Hp}{h:Heap}{a:Addr}{u:HO} (r:Rd H a u) (x:HOk P w H h):d6 P w H h a u:=by
 rcases r with r | ⟨o,r⟩
 ·exact x a u r
 ·obtain⟨_,q⟩:=x a _ r
  exact q
noncomputable def Mut:Option HO->Prop
 | some (.lst _)=>True
 | some (.dK _)=>True
 | some (.dT _)=>True
 | some (.set _ _)=>True
 | some (.ins _ _ _)=>True
 | some (.ext _)=>True
 | _=>False
section
variable {P:Program}{w:World}{H:Hp}{h h':Heap}{x e:Addr}{o':HO}
theorem HOk.write (ok:HOk P w H h) (mu:Mut (H x)) (he:e=x\/H e=some (.own x)) (k : ∀ b u,b≠e->h.get? b=some u->h'.get? b=some u) (heo : ∃ u,h'.get? e=some u)
  (new:d6 P w (upd H x o') h' x o'):HOk P w (upd H x o') h':=fun b u q=>by
 have nown : ∀ c y,H c=some (.own y)->c≠x:=fun c y r z=>by subst z;rw [r] at mu;exact mu
 have ntup : ∀ c xs,H c=some (.tup xs)->c≠x:=fun c xs r z=>by subst z;rw [r] at mu;exact mu
 by_cases hb:b=x
 ·subst hb;rw [cJ] at q;cases q;exact new
 ·rw [bE hb] at q
  by_cases hbe:b=e
  ·have q':H b=some (.own x):=by
    rcases he with z | z
    ·exact absurd (hbe.trans z) hb
    ·rw [hbe];exact z
   rw [q] at q';cases q'
   obtain⟨v,hv⟩:=heo
   exact⟨v,by rw [hbe];exact hv⟩
  ·refine (ok b u q).stay (fun c v hc r=>k c v ?_ r) (fun c r=>by rw [bE (nown c b r)];exact r) fun c xs r=>by rw [bE (ntup c xs r)];exact r
   rcases hc with rfl | hc
   ·exact hbe
   ·rintro rfl
    rcases he with z | z
    ·exact nown c b hc z
    ·rw [hc] at z;cases z;exact hb rfl
end
structure Un (fs ex:List Addr) (H H':Hp) (h h':Heap):Prop where
 keep : ∀ b o,h.get? b=some o->H b=none->b∉fs->b∉ex->h'.get? b=some o
 slot : ∀ b o,h.get? b=some o->H b=none->b∈fs->b∉ex -> ∃ sl,h'.get? b=some { o with slots:=sl }
 free : ∀ b o,h.get? b=some o->H b=none->b∉ex->H' b=none
 there : ∀ b o,h.get? b=some o->b∉ex -> ∃ o',h'.get? b=some o'
 tups : ∀ b xs,H b=some (.tup xs)->H' b=some (.tup xs)
 frzs : ∀ b o u,H b=some (.frz o u)->H' b=some (.frz o u)
 tbls : ∀ b ps,H b=some (.tbl ps) -> ∃ more,H' b=some (.tbl (ps++more))
section
variable {fs fs' ex ex':List Addr}{H H1 H2:Hp}{h h1 h2 h':Heap}{a x e:Addr}{o:HO}
theorem Un.any (u:Un fs ex H H1 h h1) {b:Addr}{ob:Obj} (q:h.get? b=some ob) (n:H b=none) (hx:b∉ex) : ∃ sl,h1.get? b=some { ob with slots:=sl }:=by
 by_cases hb:b∈fs
 ·exact u.slot b ob q n hb hx
 ·exact⟨ob.slots,u.keep b ob q n hb hx⟩
theorem Un.kept (k : ∀ b u,h.get? b=some u->h'.get? b=some u):Un fs ex H H h h':=
 ⟨fun b ob q _ _ _=>k b ob q,fun b ob q _ _ _=>⟨ob.slots,k b ob q⟩,fun _ _ _ n _=>n,fun b ob q _=>⟨ob,k b ob q⟩,fun _ _ q=>q,fun _ _ _ q=>q,fun _ ps q=>⟨#[],by rw [q];simp⟩⟩
theorem Un.refl:Un fs ex H H h h:=Un.kept fun _ _ q=>q
theorem Un.laid (k : ∀ b u,h.get? b=some u->h'.get? b=some u) (hp:h.objs.size<=a) (hn:H a=none):Un fs ex H (upd H a o) h h' where
 keep:=fun b u q _ _ _=>k b u q
 slot:=fun b u q _ _ _=>⟨u.slots,k b u q⟩
 free:=fun b u q n _=>by rw [bE (aG (ao (aC q) hp))];exact n
 there:=fun b u q _=>⟨u,k b u q⟩
 tups:=fun b xs q=>by rw [bE (bz q hn)];exact q
 frzs:=fun b u xs q=>by rw [bE (bz q hn)];exact q
 tbls:=fun b ps q=>⟨#[],by rw [bE (bz q hn),q];simp⟩
theorem Un.write (mu:Mut (H x)) (he:e=x\/H e=some (.own x)) (k : ∀ b u,b≠e->h.get? b=some u->h'.get? b=some u) (heo : ∃ u,h'.get? e=some u):Un fs ex H (upd H x o) h h':=by
 have hx : ∀ b,H b=none->b≠x:=fun b n z=>by subst z;rw [n] at mu;exact mu
 have hb : ∀ b,H b=none->b≠e:=fun b n z=>by
  subst z
  rcases he with r | r
  ·exact hx b n r
  ·rw [n] at r;cases r
 have hm : ∀ b u,H b=some u -> ¬ Mut (some u)->b≠x:=fun b u q nm z=>by subst z;rw [q] at mu;exact nm mu
 refine⟨fun b u q n _ _=>k b u (hb b n) q,fun b u q n _ _=>⟨u.slots,k b u (hb b n) q⟩,fun b u q n _=>by rw [bE (hx b n)];exact n,fun b u q _ => ?_,
  fun b xs q=>by rw [bE (hm b _ q fun z=>z)];exact q,fun b u xs q=>by rw [bE (hm b _ q fun z=>z)];exact q,fun b ps q=>⟨#[],by rw [bE (hm b _ q fun z=>z),q];simp⟩⟩
 by_cases hbe:b=e
 ·subst hbe;exact heo
 ·exact⟨u,k b u hbe q⟩
end
noncomputable def trk (h:Heap) (H:Hp):List Addr:=(ar h.objs.size).filter fun a=>(H a).isSome
noncomputable def tj (h:Heap) (H:Hp):Heap:=PySem.W.hideAll h (trk h H)
theorem tQ (h:Heap) (H:Hp):(tj h H).objs.size=h.objs.size:=Bu _ _
theorem oO {h:Heap}{H:Hp}{b:Addr}{o:Obj} (e:h.get? b=some o) (n:H b=none):(tj h H).get? b=some o:=
 BE _ e fun hm=>by
  have q:(H b).isSome=true:=(eW.mp hm).2
  rw [n] at q;simp at q
theorem zK {h:Heap}{H:Hp}{b:Addr}{o:Obj} (e:(tj h H).get? b=some o):h.get? b=some o/\H b=none:=by
 have e':h.get? b=some o:=Eh (trk h H) e
 refine⟨e',?_⟩
 cases q:H b with
 | none=>rfl
 | some x=>
   have hm:b∈trk h H:=eW.mpr ⟨bb.mpr (aC e'),by simp [q]⟩
   have z:(tj h H).get? b=none:=Bv (trk h H) hm
   rw [z] at e;cases e
noncomputable def EY (g h:Heap) (L:Addr):List (Addr×Obj):=(ar h.objs.size).filterMap fun a=>if a=L\/(g.get? a).isSome=true then none else (h.get? a).map fun o=>(a,o)
noncomputable def rest (g h:Heap) (L d:Addr):List (Addr×Obj):=(EY g h L).filter fun p=>decide (p.1≠d)
end _L
namespace _L
open PySem PySem.Spec PyProof.Rows
structure Mod (K:ak) (mg:Str->Option Value) (base:Heap):Prop where
 kin:K.In base
 glob:base.Ns mainGlobals mg
 blt : ∃ mb,base.Ns builtinsNs mb /\ ∀ x:Str,x≠"__name__"->mb x=bootBuiltins x
 nolimit:base.NoLimit
set_option genInjectivity false in
structure Cx where
 prog:Program
 w:World
 K:ak
 mg:Str->Option Value
 base:Heap
 A:Around
 N:List Str
 s₀:Shared
 H₀:Hp
 env:Env
 outer:List Env
 stack:List Env
 ex:List Addr
 fn:Str->Bool
 calm:Bool
 pn:List (Addr×Obj)
 xe:Value->Shared->Prop
noncomputable def frs (l:List Env):List Addr:=l.filterMap (·.frame)
abbrev Cx.fs (X:Cx):List Addr:=frs X.outer
noncomputable def Vis (sc:Scope) (x:Str):Prop:=sc.names.lookup x=some .local\/sc.names.lookup x=some .cell\/sc.names.lookup x=some .free
noncomputable def Loc (sc:Scope) (x:Str):Prop:=sc.names.lookup x=some .local\/sc.names.lookup x=some .cell
noncomputable def Look (env:Env) (h:Heap) (m:Str->Option Value) (x:Str) (u:Value):Prop:=
 (env.kindOf x=some .local/\m x=some u)\/((env.kindOf x=some .cell\/env.kindOf x=some .free) /\ ∃ c,env.cells.lookup x=some c/\h.IsCell c (some u))
structure Cx.Ok (X:Cx):Prop where
 mod:Mod X.K X.mg X.base
 kind:X.env.scope.kind = .function
 glob:X.env.globals=mainGlobals
 blt:X.env.builtins=builtinsNs
 above:X.s₀.heap.objs.size<=X.env.locals
 inj : ∀ x y c,X.env.cells.lookup x=some c->X.env.cells.lookup y=some c->x=y
 has : ∀ x,(X.env.kindOf x=some .cell\/X.env.kindOf x=some .free) -> ∃ c,X.env.cells.lookup x=some c
 cab : ∀ x c,X.fn x=true->X.env.cells.lookup x=some c->X.s₀.heap.objs.size<=c
 hd:X.calm=true->X.A.handled=none
 frames:X.A.frames=some X.stack
 stk:X.stack=X.outer\/(X.stack=X.env::X.outer/\X.env.frame=some X.env.locals)
 exf : ∀ b∈X.ex,b≠X.env.locals /\ ∀ x c,X.env.cells.lookup x=some c->c≠b
 bs : ∀ b o,X.base.get? b=some o->X.s₀.heap.get? b=some o/\X.H₀ b=none
 bsz:X.base.objs.size<=X.s₀.heap.objs.size
 noex : ∀ b o,X.base.get? b=some o->b∉X.ex
 exfs : ∀ b∈X.ex,b∉X.fs
 funs:X.s₀.heap.FunFrames X.base X.outer
 frf : ∀ b∈X.fs,X.H₀ b=none
structure Inv (X:Cx) (pins:List (Addr×Obj)) (σ:List (Option V)) (H:Hp) (s:Shared):Prop where
 ok:X.Ok
 os:s.os=X.s₀.os
 bare:AllBare s.gens
 base:Un X.fs X.ex X.H₀ H X.s₀.heap s.heap
 loc : ∃ m,s.heap.Ns X.env.locals m /\ ∀ (i:Nat) (x:Str) (v:V),X.N[i]? = some x->σ[i]? = some (some v)->Vis X.env.scope x -> ∃ u,RelV v u/\Look X.env s.heap m x u
 cell : ∀ x c,X.env.cells.lookup x=some c -> ∃ v,s.heap.IsCell c v
 free:H X.env.locals=none
 freeC : ∀ x c,X.env.cells.lookup x=some c->H c=none
 pin : ∀ p∈X.pn++pins,s.heap.get? p.1=some p.2/\H p.1=none/\p.1≠X.env.locals/\p.1∉X.fs /\ ∀ v,p.2.data ≠ .cell v
 hok:HOk X.prog X.w H s.heap
 len:σ.length=X.N.length
section
variable {X:Cx}{pins:List (Addr×Obj)}{σ:List (Option V)}{H H':Hp}{s:Shared}{h':Heap}
theorem Cx.Ok.nofr (ok:X.Ok) {b:Addr}{o:Obj} (e:X.base.get? b=some o):b∉X.fs:=fun hb=>by
 have:=(ok.funs.mem hb).1
 rw [e] at this;cases this
theorem Inv.bs (I:Inv X pins σ H s) : ∀ b o,X.base.get? b=some o->s.heap.get? b=some o/\H b=none:=fun b o e=>
 ⟨I.base.keep b o (I.ok.bs b o e).1 (I.ok.bs b o e).2 (I.ok.nofr e) (I.ok.noex b o e),I.base.free b o (I.ok.bs b o e).1 (I.ok.bs b o e).2 (I.ok.noex b o e)⟩
theorem Inv.bk (I:Inv X pins σ H s) : ∀ b o,X.base.get? b=some o->s.heap.get? b=some o:=fun b o e=>(I.bs b o e).1
theorem Inv.mod (I:Inv X pins σ H s):Mod X.K X.mg X.base:=I.ok.mod
theorem Inv.kIn (I:Inv X pins σ H s):X.K.In s.heap:=I.ok.mod.kin.keeps I.bk
theorem Inv.lt (I:Inv X pins σ H s):X.env.locals < s.heap.objs.size:=let ⟨_,hn,_⟩:=I.loc;hn.lt
theorem Inv.sz (I:Inv X pins σ H s):X.s₀.heap.objs.size<=s.heap.objs.size:=aL I.ok.above (aQ I.lt)
theorem Inv.nofs (I:Inv X pins σ H s) {a:Addr} (h:s.heap.objs.size<=a):a∉X.fs:=fun hb=>by
 obtain⟨_,o,ho,_⟩:=I.ok.funs.mem hb
 exact absurd (ao (aC ho) (aL I.sz h)) (bL _)
theorem Inv.cne (I:Inv X pins σ H s) : ∀ x c,X.env.cells.lookup x=some c->c≠X.env.locals:=fun x c e z=>by
 obtain⟨v,o,ho,hd⟩:=I.cell x c e
 obtain⟨m,⟨o',es,ep,ho',hd',_⟩,_⟩:=I.loc
 rw [z,ho'] at ho;cases ho;rw [hd'] at hd;cases hd
theorem Inv.funs (I:Inv X pins σ H s):s.heap.FunFrames X.base X.outer:=by
 have all : ∀ (l:List Env),(∀ b∈frs l,b∈X.fs)->X.s₀.heap.FunFrames X.base l->s.heap.FunFrames X.base l:=by
  intro l
  induction l with
  | nil=>intro _ _;trivial
  | cons env r ih=>
    intro hs hl
    obtain⟨hk,⟨L,o,hf,hn,ho,hd⟩,hr⟩:=hl
    have hL:L∈X.fs:=hs L (by unfold frs;rw [gY,hf];exact br)
    obtain⟨sl,e⟩:=I.base.slot L o ho (I.ok.frf L hL) hL fun z=>I.ok.exfs L z hL
    exact⟨hk,⟨L,_,hf,hn,e,hd⟩,ih (fun b hb=>hs b (by unfold frs;rw [gY,hf];exact aD _ hb)) hr⟩
 exact all X.outer (fun _ hb=>hb) I.ok.funs
theorem Inv.stack (I:Inv X pins σ H s):s.heap.FunFrames X.base X.stack:=by
 rcases I.ok.stk with e | ⟨e,hf⟩
 ·rw [e];exact I.funs
 ·rw [e]
  obtain⟨m,hn,_⟩:=I.loc
  refine .cons (by rw [I.ok.kind];decide) hf hn ?_ I.funs
  exact Heap.get?_none_of_le (aL I.ok.bsz I.ok.above)
theorem Inv.stkSub (I:Inv X pins σ H s) : ∀ b∈frs X.stack,b∈X.env.locals::X.fs:=fun b hb=>by
 rcases I.ok.stk with e | ⟨e,hf⟩
 ·rw [e] at hb;exact aD _ hb
 ·rw [e] at hb
  unfold frs at hb
  rw [gY,hf] at hb
  exact hb
theorem Inv.stkFree (I:Inv X pins σ H s) : ∀ b∈frs X.stack,H b=none:=fun b hb=>by
 rcases aJ.mp (I.stkSub b hb) with e | hb
 ·rw [e];exact I.free
 ·obtain⟨_,o,ho,_⟩:=I.ok.funs.mem hb
  exact I.base.free b o ho (I.ok.frf b hb) fun z=>I.ok.exfs b z hb
theorem Inv.step {g':Array GenState}{t':Nat}{d':Drawn}{ch:List Addr} (I:Inv X pins σ H s)
  (hch : ∀ b∈ch,(b∈X.ex\/X.s₀.heap.objs.size<=b)/\b≠X.env.locals/\(∀ x c,X.env.cells.lookup x=some c->c≠b) /\ ∀ p∈X.pn++pins,p.1≠b)
  (keep : ∀ b o,b≠X.env.locals->b∉X.fs->b∉ch->s.heap.get? b=some o->H b=none->h'.get? b=some o)
  (slot : ∀ b o,b≠X.env.locals->b∈X.fs->b∉ch->s.heap.get? b=some o->H b=none -> ∃ sl,h'.get? b=some { o with slots:=sl }) (free : ∀ b o,b∉ch->s.heap.get? b=some o->H b=none->H' b=none)
  (there : ∀ b o,b∉ch->s.heap.get? b=some o -> ∃ o',h'.get? b=some o')
  (tups : ∀ b xs,H b=some (.tup xs)->H' b=some (.tup xs)) (frzs : ∀ b o u,H b=some (.frz o u)->H' b=some (.frz o u)) (tbls : ∀ b ps,H b=some (.tbl ps) -> ∃ more,H' b=some (.tbl (ps++more)))
  (ns : ∀ m,s.heap.Ns X.env.locals m->h'.Ns X.env.locals m) (hok:HOk X.prog X.w H' h') (hg:AllBare g') :
  Inv X pins σ H' { s with heap:=h',gens:=g',drawn:=d',toks:=t' }:=by
 have neL : ∀ b o,X.s₀.heap.get? b=some o->b≠X.env.locals:=fun b o e=>aG (ao (aC e) I.ok.above)
 have neC : ∀ b o,X.s₀.heap.get? b=some o->b∉X.ex->b∉ch:=fun b o e hx hb=>by
  rcases (hch b hb).1 with z | z
  ·exact hx z
  ·exact absurd (ao (aC e) z) (bL _)
 have cellK : ∀ x c,X.env.cells.lookup x=some c -> ∀ v,s.heap.IsCell c v->h'.IsCell c v:=fun x c e v ⟨o,ho,hd⟩=>by
  have nch:c∉ch:=fun z=>(hch c z).2.2.1 x c e rfl
  by_cases hc:c∈X.fs
  ·obtain⟨sl,q⟩:=slot c o (I.cne x c e) hc nch ho (I.freeC x c e)
   exact⟨_,q,hd⟩
  ·exact⟨o,keep c o (I.cne x c e) hc nch ho (I.freeC x c e),hd⟩
 refine⟨I.ok,I.os,hg,⟨fun b o e n hb hx => ?_,fun b o e n hb hx => ?_,fun b o e n hx => ?_,fun b o e hx => ?_,fun b xs e=>tups b xs (I.base.tups b xs e),fun b o xs e=>frzs b o xs (I.base.frzs b o xs e),fun b ps e => ?_⟩,?_,fun x c e => ?_,?_,fun x c e => ?_,fun p hp => ?_,hok,I.len⟩
 ·exact keep b o (neL b o e) hb (neC b o e hx) (I.base.keep b o e n hb hx) (I.base.free b o e n hx)
 ·obtain⟨sl,e1⟩:=I.base.slot b o e n hb hx
  obtain⟨sl',e2⟩:=slot b _ (neL b o e) hb (neC b o e hx) e1 (I.base.free b o e n hx)
  exact⟨sl',e2⟩
 ·obtain⟨o',e1⟩:=I.base.there b o e hx
  exact free b o' (neC b o e hx) e1 (I.base.free b o e n hx)
 ·obtain⟨o',e1⟩:=I.base.there b o e hx
  exact there b o' (neC b o e hx) e1
 ·obtain⟨m1,e1⟩:=I.base.tbls b ps e
  obtain⟨m2,e2⟩:=tbls b _ e1
  exact⟨m1++m2,by rw [e2,Array.append_assoc]⟩
 ·obtain⟨m,hn,hl⟩:=I.loc
  refine⟨m,ns m hn,fun i x v e1 e2 e3 => ?_⟩
  obtain⟨u,r,l⟩:=hl i x v e1 e2 e3
  refine⟨u,r,?_⟩
  rcases l with l | ⟨k,c,e,z⟩
  ·exact .inl l
  ·exact .inr ⟨k,c,e,cellK x c e _ z⟩
 ·obtain⟨v,z⟩:=I.cell x c e
  exact⟨v,cellK x c e v z⟩
 ·obtain⟨m,⟨o,_,_,ho,_⟩,_⟩:=I.loc
  exact free _ o (fun z=>(hch _ z).2.1 rfl) ho I.free
 ·obtain⟨v,o,ho,hd⟩:=I.cell x c e
  exact free c o (fun z=>(hch c z).2.2.1 x c e rfl) ho (I.freeC x c e)
 ·obtain⟨e,n,ne,nf,d⟩:=I.pin p hp
  have nch:p.1∉ch:=fun z=>(hch p.1 z).2.2.2 p hp rfl
  exact⟨keep p.1 p.2 ne nf nch e n,free p.1 p.2 nch e n,ne,nf,d⟩
theorem Inv.un {t':Nat} (I:Inv X pins σ H s) (u:Un X.fs [] H H' s.heap h') (hok:HOk X.prog X.w H' h'):Inv X pins σ H' { s with heap:=h',toks:=t' }:=by
 obtain⟨m,⟨o,es,ep,ho,r⟩,_⟩:=id I.loc
 obtain⟨sl,hL⟩:=u.any ho I.free (by simp)
 exact I.step (g':=s.gens) (d':=s.drawn) (ch := []) (fun _ z=>nomatch z) (fun b o _ hb _ e n=>u.keep b o e n hb (by simp)) (fun b o _ hb _ e n=>u.slot b o e n hb (by simp)) (fun b o _ e n=>u.free b o e n (by simp)) (fun b o _ e=>u.there b o e (by simp)) u.tups u.frzs u.tbls (fun m' hm=>by
  obtain⟨o',es',ep',ho',r'⟩:=hm
  rw [ho] at ho';cases ho'
  exact⟨_,es',ep',hL,r'⟩) hok I.bare
theorem Inv.call {g':Array GenState}{t':Nat}{d':Drawn}{ch:List Addr} (I:Inv X pins σ H s) (u:Un (frs X.stack) ch H H' s.heap h') (hok:HOk X.prog X.w H' h') (hg:AllBare g')
  (hch : ∀ b∈ch,(b∈X.ex\/X.s₀.heap.objs.size<=b)/\b≠X.env.locals/\(∀ x c,X.env.cells.lookup x=some c->c≠b) /\ ∀ p∈X.pn++pins,p.1≠b) :
  Inv X pins σ H' { s with heap:=h',gens:=g',drawn:=d',toks:=t' }:=by
 obtain⟨m,⟨o,es,ep,ho,r⟩,_⟩:=id I.loc
 obtain⟨sl,hL⟩:=u.any ho I.free fun z=>(hch _ z).2.1 rfl
 exact I.step (ch:=ch) hch (fun b o hL hb hc e n=>u.keep b o e n (fun z=>(aJ.mp (I.stkSub b z)).elim hL hb) hc) (fun b o _ _ hc e n=>u.any e n hc) (fun b o hc e n=>u.free b o e n hc) (fun b o hc e=>u.there b o e hc) u.tups u.frzs u.tbls (fun m' hm=>by
  obtain⟨o',es',ep',ho',r'⟩:=hm
  rw [ho] at ho';cases ho'
  exact⟨_,es',ep',hL,r'⟩) hok hg
theorem Inv.turned {t':Nat}{it:Addr} (I:Inv X pins σ H s) (k : ∀ b o,b≠it->s.heap.get? b=some o->h'.get? b=some o) (hn:H it=none) (hL:it≠X.env.locals)
  (h1:it∈X.ex\/X.s₀.heap.objs.size<=it) (h2 : ∀ x c,X.env.cells.lookup x=some c->c≠it) (h3 : ∀ p∈X.pn++pins,p.1≠it):Inv X pins σ H { s with heap:=h',toks:=t' }:=by
 have nit : ∀ b u,H b=some u->b≠it:=fun b u e z=>by rw [z,hn] at e;cases e
 refine I.step (g':=s.gens) (d':=s.drawn) (ch := [it]) (fun b hb => ?_) (fun b o _ _ hc e _=>k b o (fun z=>hc (by simp [z])) e) (fun b o _ _ hc e _=>⟨o.slots,k b o (fun z=>hc (by simp [z])) e⟩) (fun _ _ _ _ n=>n)
  (fun b o hc e=>⟨o,k b o (fun z=>hc (by simp [z])) e⟩) (fun _ _ e=>e) (fun _ _ _ e=>e) (fun b ps e=>⟨#[],by rw [e];simp⟩) (fun m hm => ?_) (fun b u e => ?_) I.bare
 ·have e:b=it:=by simpa using hb
  subst e
  exact⟨h1,hL,h2,h3⟩
 ·obtain⟨o,es,ep,ho,r⟩:=hm
  exact⟨o,es,ep,k _ o (d7 hL) ho,r⟩
 ·refine (I.hok b u e).stay (fun c v hc q=>k c v ?_ q) (fun _ q=>q) fun _ _ q=>q
  rcases hc with z | z
  ·rw [z];exact nit b u e
  ·exact nit c _ z
theorem Inv.tok (I:Inv X pins σ H s) (t:Nat):Inv X pins σ H { s with toks:=t }:=I.un (h':=s.heap) (t':=t) Un.refl I.hok
theorem Inv.kept {t':Nat} (I:Inv X pins σ H s) (k : ∀ b u,s.heap.get? b=some u->h'.get? b=some u):Inv X pins σ H { s with heap:=h',toks:=t' }:=I.un (Un.kept k) (I.hok.kept k)
theorem Inv.laid {a:Addr}{o:HO}{t':Nat} (I:Inv X pins σ H s) (k : ∀ b u,s.heap.get? b=some u->h'.get? b=some u) (hp:s.heap.objs.size<=a) (new:d6 X.prog X.w (upd H a o) h' a o) :
  Inv X pins σ (upd H a o) { s with heap:=h',toks:=t' }:=I.un (Un.laid k hp (I.hok.fresh hp)) (I.hok.laid k hp new)
theorem Inv.write {x e:Addr}{o:HO}{t':Nat} (I:Inv X pins σ H s) (mu:Mut (H x)) (he:e=x\/H e=some (.own x)) (k : ∀ b u,b≠e->s.heap.get? b=some u->h'.get? b=some u) (heo : ∃ u,h'.get? e=some u)
  (new:d6 X.prog X.w (upd H x o) h' x o):Inv X pins σ (upd H x o) { s with heap:=h',toks:=t' }:=I.un (Un.write mu he k heo) (I.hok.write mu he k heo new)
theorem Inv.weak {σ':List (Option V)} (I:Inv X pins σ H s) (hl:σ'.length=σ.length) (w : ∀ (i:Nat) v,σ'[i]? = some (some v)->σ[i]? = some (some v)):Inv X pins σ' H s:=
 ⟨I.ok,I.os,I.bare,I.base,let ⟨m,hn,hl'⟩:=I.loc;⟨m,hn,fun i x v e1 e2 e3=>hl' i x v e1 (w i v e2) e3⟩,I.cell,I.free,I.freeC,I.pin,I.hok,hl.trans I.len⟩
theorem Inv.pins_of {pins':List (Addr×Obj)} (I:Inv X pins σ H s) (h : ∀ p∈pins',s.heap.get? p.1=some p.2/\H p.1=none/\p.1≠X.env.locals/\p.1∉X.fs /\ ∀ v,p.2.data ≠ .cell v):Inv X pins' σ H s:=
 ⟨I.ok,I.os,I.bare,I.base,I.loc,I.cell,I.free,I.freeC,fun p hp=>(bq.mp hp).elim (fun z=>I.pin p (bB _ z)) (h p),I.hok,I.len⟩
theorem vX {N:List Str} (hN:N.Nodup) {i j:Nat}{x:Str} (a:N[i]? = some x) (b:N[j]? = some x):i=j:=by
 obtain⟨h1,e1⟩:=ag.mp a
 obtain⟨h2,e2⟩:=ag.mp b
 exact (List.getElem_inj hN).mp (e1.trans e2.symm)
theorem t9 {M:Model}{A:Around}{E:Value->Shared->Prop}{i:Nat}{x:Str}{v:V}{u:Value}{Q:Unit->Shared->Prop} (I:Inv X pins σ H s) (hN:X.N.Nodup) (hi:X.N[i]? = some x) (hx:Loc X.env.scope x) (r:RelV v u)
  (h : ∀ s',Inv X pins (σ.set i (some v)) H s'->(∃ a,fI a s.heap s'.heap/\(a=X.env.locals\/X.env.cells.lookup x=some a))->Q () s') (hf:autoParam (X.fn x=true\/X.env.scope.names.lookup x=some .local) au4._auto_1):aH M A (storeName X.env x u) Q E s:=by
 obtain⟨m,hn,hl⟩:=id I.loc
 have hcls:(X.env.scope.kind == .class||(X.env.scope.kind == .module&&X.env.locals != X.env.globals))=false:=by rw [I.ok.kind];rfl
 have hiσ:i < σ.length:=by rw [I.len];exact (ag.mp hi).1
 have cne:=I.cne
 have tracked : ∀ {a:Addr}{h':Heap},(∃ o,s.heap.get? a=some o/\H a=none)->fI a s.heap h'->HOk X.prog X.w H h':=fun {a h'} ha hs b ob e=>by
  obtain⟨_,_,hfree⟩:=ha
  refine (I.hok b ob e).stay (fun c w' hc q=>(hs.2 c ?_).trans q) (fun _ q=>q) fun _ _ q=>q
  rintro rfl
  rcases hc with rfl | hc
  ·rw [hfree] at e;cases e
  ·rw [hfree] at hc;cases hc
 rcases hx with hk | hk
 ·refine wpAny_storeName_local hk hn (fun h' hn' hs => ?_) hcls
  obtain⟨oL,_,_,hoL,_⟩:=id hn
  refine h _ ⟨I.ok,I.os,I.bare,⟨fun b o e n hb hx => ?_,fun b o e n hb hx => ?_,I.base.free,fun b o e hx => ?_,I.base.tups,I.base.frzs,I.base.tbls⟩,⟨_,hn',fun j y v' e1 e2 e3 => ?_⟩,fun y c e => ?_,I.free,I.freeC,fun p hp => ?_,tracked ⟨oL,hoL,I.free⟩ hs,by simpa using I.len⟩ ⟨_,hs,.inl rfl⟩
  ·exact (hs.2 b (aG (ao (aC e) I.ok.above))).trans (I.base.keep b o e n hb hx)
  ·obtain⟨sl,e1⟩:=I.base.slot b o e n hb hx
   exact⟨sl,(hs.2 b (aG (ao (aC e) I.ok.above))).trans e1⟩
  ·obtain⟨o',e1⟩:=I.base.there b o e hx
   exact⟨o',(hs.2 b (aG (ao (aC e) I.ok.above))).trans e1⟩
  ·by_cases hj:j=i
   ·subst hj
    rw [hi] at e1;cases e1
    rw [aW hiσ] at e2
    cases e2
    exact⟨u,r,.inl ⟨hk,by simp⟩⟩
   ·rw [aK (d7 hj)] at e2
    obtain⟨u',r',q⟩:=hl j y v' e1 e2 e3
    refine⟨u',r',?_⟩
    rcases q with⟨k,e⟩ | ⟨k,c,e,z⟩
    ·refine .inl ⟨k,?_⟩
     have:y≠x:=fun e=>hj (vX hN e1 (e▸hi))
     simp [this,e]
    ·exact .inr ⟨k,c,e,z.sameBut hs (cne y c e)⟩
  ·obtain⟨w',z⟩:=I.cell y c e
   exact⟨w',z.sameBut hs (cne y c e)⟩
  ·obtain⟨e,n,ne,nf,d⟩:=I.pin p hp
   exact⟨(hs.2 p.1 ne).trans e,n,ne,nf,d⟩
 ·have hfn:X.fn x=true:=by
   rcases hf with z | z
   ·exact z
   ·rw [z] at hk;cases hk
  obtain⟨c,hc⟩:=I.ok.has x (.inl hk)
  obtain⟨w',z⟩:=I.cell x c hc
  refine wpAny_storeName_cell I.ok.kind hk hc z (fun h' hc' hs => ?_)
  obtain⟨oc,hoc,hocd⟩:=id z
  refine h { s with heap:=h' } ⟨I.ok,I.os,I.bare,⟨fun b o e n hb hx => ?_,fun b o e n hb hx => ?_,I.base.free,fun b o e hx => ?_,I.base.tups,I.base.frzs,I.base.tbls⟩,⟨m,hn.sameBut hs (d7 (cne x c hc)),fun j y v' e1 e2 e3 => ?_⟩,fun y c' e => ?_,I.free,I.freeC,fun p hp => ?_,tracked ⟨oc,hoc,I.freeC x c hc⟩ hs,by simpa using I.len⟩ ⟨c,hs,.inr hc⟩
  ·exact (hs.2 b (aG (ao (aC e) (I.ok.cab x c hfn hc)))).trans (I.base.keep b o e n hb hx)
  ·obtain⟨sl,e1⟩:=I.base.slot b o e n hb hx
   exact⟨sl,(hs.2 b (aG (ao (aC e) (I.ok.cab x c hfn hc)))).trans e1⟩
  ·obtain⟨o',e1⟩:=I.base.there b o e hx
   exact⟨o',(hs.2 b (aG (ao (aC e) (I.ok.cab x c hfn hc)))).trans e1⟩
  ·by_cases hj:j=i
   ·subst hj
    rw [hi] at e1;cases e1
    rw [aW hiσ] at e2
    cases e2
    exact⟨u,r,.inr ⟨.inl hk,c,hc,hc'⟩⟩
   ·rw [aK (d7 hj)] at e2
    obtain⟨u',r',q⟩:=hl j y v' e1 e2 e3
    refine⟨u',r',?_⟩
    rcases q with q | ⟨k,c',e,z'⟩
    ·exact .inl q
    ·refine .inr ⟨k,c',e,z'.sameBut hs ?_⟩
     rintro rfl
     exact hj (vX hN e1 (I.ok.inj _ _ _ e hc▸hi))
  ·by_cases hcc:c'=c
   ·subst hcc;exact⟨_,hc'⟩
   ·obtain⟨w2,z2⟩:=I.cell y c' e
    exact⟨w2,z2.sameBut hs hcc⟩
  ·obtain⟨e,n,ne,nf,d⟩:=I.pin p hp
   refine⟨(hs.2 p.1 ?_).trans e,n,ne,nf,d⟩
   intro q
   rw [q,hoc] at e
   have q':oc=p.2:=bS e
   exact d w' (by rw [<- q'];exact hocd)
theorem qR {M:Model}{A:Around}{E:Value->Shared->Prop}{i:Nat}{x:Str}{v:V}{u:Value}{Q:Unit->Shared->Prop} (I:Inv X pins σ H s) (hN:X.N.Nodup) (hi:X.N[i]? = some x) (hx:Loc X.env.scope x) (r:RelV v u)
  (h : ∀ s',Inv X pins (σ.set i (some v)) H s'->Q () s') (hf:autoParam (X.fn x=true\/X.env.scope.names.lookup x=some .local) au4._auto_1):aH M A (storeName X.env x u) Q E s:=
 t9 I hN hi hx r (fun s' I' _=>h s' I') hf
theorem Inv.call' {s':Shared}{ch:List Addr} (I:Inv X pins σ H s) (ho:s'.os=s.os) (u:Un (frs X.stack) ch H H' s.heap s'.heap) (hok:HOk X.prog X.w H' s'.heap) (hg:AllBare s'.gens)
  (hch : ∀ b∈ch,(b∈X.ex\/X.s₀.heap.objs.size<=b)/\b≠X.env.locals/\(∀ x c,X.env.cells.lookup x=some c->c≠b) /\ ∀ p∈X.pn++pins,p.1≠b):Inv X pins σ H' s':=by
 obtain⟨h',g',d',t',o'⟩:=s'
 have e:o'=s.os:=ho
 subst e
 exact I.call (g':=g') (t':=t') (d':=d') u hok hg hch
end
abbrev XK:=Value->Option Addr->Hp->Prop
abbrev St:=List (Option V)
abbrev VK:=V->Hp->Prop
abbrev TE:=St->Hp->VK->Prop
abbrev TT:=St->Hp->(Bool->Hp->Prop)->Prop
abbrev TA:=St->Hp->(List V->Hp->Prop)->Prop
structure Ends where
 nx:St->Hp->Prop
 rt:VK
 bk:St->Hp->Prop:=fun _ _=>False
 ct:St->Hp->Prop:=fun _ _=>False
abbrev TS:=Ends->St->Hp->Prop
noncomputable def EP (X:Cx) (pins:List (Addr×Obj)) (σ:St) (Q:VK) (u:Value) (s':Shared):Prop := ∃ v H',Inv X pins σ H' s'/\RelV v u/\Q v H'
noncomputable def TP (X:Cx) (pins:List (Addr×Obj)) (σ:St) (Q:Bool->Hp->Prop) (b:Bool) (s':Shared):Prop := ∃ H',Inv X pins σ H' s'/\Q b H'
noncomputable def AP (X:Cx) (pins:List (Addr×Obj)) (σ:St) (Q:List V->Hp->Prop) (us:List Value) (s':Shared):Prop := ∃ vs H',Inv X pins σ H' s'/\cu vs us/\Q vs H'
noncomputable def SP (X:Cx) (pins:List (Addr×Obj)) (D:Ends) (f:Flow) (s':Shared):Prop:=
 match f with
 | .next => ∃ σ' H',Inv X pins σ' H' s'/\D.nx σ' H'
 | .brk => ∃ σ' H',Inv X pins σ' H' s'/\D.bk σ' H'
 | .cont => ∃ σ' H',Inv X pins σ' H' s'/\D.ct σ' H'
 | .ret u => ∃ v σ' H',Inv X pins σ' H' s'/\RelV v u/\D.rt v H'
noncomputable def PE (X:Cx) (e:Expr) (t:TE):Prop:=
 ∀ (pins:List (Addr×Obj)) (s:Shared) (σ:St) (H:Hp) (Q:VK),Inv X pins σ H s->t σ H Q->aH (model X.prog X.w) X.A (eval e X.env) (EP X pins σ Q) X.xe s
noncomputable def PT (X:Cx) (e:Expr) (t:TT):Prop:=
 ∀ (pins:List (Addr×Obj)) (s:Shared) (σ:St) (H:Hp) (Q:Bool->Hp->Prop),Inv X pins σ H s->t σ H Q->aH (model X.prog X.w) X.A (isTrue e X.env (eval e X.env)) (TP X pins σ Q) X.xe s
noncomputable def PW (X:Cx) (e:Expr) (t:TT):Prop:=
 ∀ (whole:Sem Value) (pins:List (Addr×Obj)) (s:Shared) (σ:St) (H:Hp) (Q:Bool->Hp->Prop),Inv X pins σ H s->t σ H Q->aH (model X.prog X.w) X.A (isTrue e X.env whole) (TP X pins σ Q) X.xe s
theorem PW.pt {X:Cx}{e:Expr}{t:TT} (h:PW X e t):PT X e t:=h _
noncomputable def PA (X:Cx) (es:List Expr) (t:TA):Prop:=
 ∀ (pos:Pos) (pins:List (Addr×Obj)) (s:Shared) (σ:St) (H:Hp) (Q:List V->Hp->Prop),Inv X pins σ H s->t σ H Q->aH (model X.prog X.w) X.A (spliced (backTo pos (starEach es X.env))) (AP X pins σ Q) X.xe s
noncomputable def PS (X:Cx) (st:Stmt) (t:TS):Prop:=
 ∀ (pins:List (Addr×Obj)) (s:Shared) (σ:St) (H:Hp) (D:Ends),Inv X pins σ H s->t D σ H->aH (model X.prog X.w) X.A (exec st X.env) (SP X pins D) X.xe s
noncomputable def PSs (X:Cx) (st:List Stmt) (t:TS):Prop:=
 ∀ (pins:List (Addr×Obj)) (s:Shared) (σ:St) (H:Hp) (D:Ends),Inv X pins σ H s->t D σ H->aH (model X.prog X.w) X.A (execs st X.env) (SP X pins D) X.xe s
theorem thn {α:Type}{t:Sem α}{Q Q':α->Shared->Prop}{M:Model}{A:Around}{E:Value->Shared->Prop}{s:Shared} (h:aH M A t Q E s) (hQ : ∀ a s,Q a s->Q' a s):aH M A t Q' E s:=da h hQ fun _ _ x=>x
end _L
namespace _L
open PySem PySem.Spec PyProof.Rows
section
variable {X:Cx}
noncomputable def Mp (i:Nat):TE:=fun σ H Q => ∃ v,σ[i]? = some (some v)/\Q v H
noncomputable def tC (v:V):TE:=fun _ H Q=>Q v H
theorem Eg {i:Nat}{x:Str}{pos:Pos} (hN:X.N[i]? = some x) (hv:Vis X.env.scope x) (hd:autoParam ((x == ("__debug__":Str))=false) au2._auto_1) (hcd:autoParam ((x == ("__classdict__":Str))=false) au2._auto_1):PE X (.Name x pos) (Mp i):=by
 intro pins s σ H Q I h
 obtain⟨v,e,h⟩:=h
 obtain⟨m,hn,hl⟩:=I.loc
 obtain⟨u,r,l⟩:=hl i x v hN e hv
 have fin:EP X pins σ Q u s:=⟨v,H,I,r,h⟩
 rcases l with⟨hk,hm⟩ | ⟨hk,c,hc,hcell⟩
 ·exact wpAny_Name (wpAny_loadName_local I.ok.kind hk hn hm fin) hd
 ·rcases hk with hk | hk
  ·exact wpAny_Name (wpAny_loadName_cell I.ok.kind hk hc hcell fin) hd
  ·exact wpAny_Name (wpAny_loadName_free I.ok.kind hk hc hcell fin hcd) hd
theorem Jg {i j pos}:PE X (.Constant (.int i) j pos) (tC (.int i)):=fun _ _ _ H _ I h=>wpAny_Constant_int ⟨.int i,H,I.tok _,⟨_,rfl⟩,h⟩
theorem LU {b j pos}:PE X (.Constant (.bool b) j pos) (tC (.bl b)):=fun _ _ _ H _ I h=>Constant_bool ⟨.bl b,H,I,rfl,h⟩
theorem II {j pos}:PE X (.Constant .none j pos) (tC .non):=fun _ _ _ H _ I h=>Constant_none ⟨.non,H,I,rfl,h⟩
theorem JA {x j pos}:PE X (.Constant (.str x) j pos) (tC (.str x)):=fun _ _ _ H _ I h=>Calls.Constant_str ⟨.str x,H,I.tok _,⟨_,rfl⟩,h⟩
noncomputable def Gl (X:Cx) (x:Str):Prop:=X.env.kindOf x=some .globalImplicit
theorem qi {E:Value->Shared->Prop}{pins:List (Addr×Obj)}{s:Shared}{σ:St}{H:Hp}{x:Str}{u:Value}{pos:Pos}{Q:Value->Shared->Prop} (I:Inv X pins σ H s) (hg:Gl X x) (hm:X.mg x=some u) (h:Q u s)
  (hd:autoParam ((x == ("__debug__":Str))=false) au2._auto_1):aH (model X.prog X.w) X.A (eval (.Name x pos) X.env) Q E s:=
 xR I.ok.kind hg (Calls.loadGlobal_global (by rw [I.ok.glob];exact I.mod.glob.keeps I.bk) hm h) hd
theorem je {E:Value->Shared->Prop}{pins:List (Addr×Obj)}{s:Shared}{σ:St}{H:Hp}{x:Str}{u:Value}{pos:Pos}{Q:Value->Shared->Prop} (I:Inv X pins σ H s) (hg:Gl X x) (hm:X.mg x=none) (hv:bootBuiltins x=some u) (h:Q u s)
  (hn:autoParam (x≠"__name__") au2._auto_1) (hd:autoParam ((x == ("__debug__":Str))=false) au2._auto_1):aH (model X.prog X.w) X.A (eval (.Name x pos) X.env) Q E s:=by
 obtain⟨mb,h1,h2⟩:=I.mod.blt
 exact xR I.ok.kind hg (Calls.loadGlobal_builtin (by rw [I.ok.glob];exact I.mod.glob.keeps I.bk) hm (by rw [I.ok.blt];exact h1.keeps I.bk) ((h2 x hn).trans hv) h) hd
theorem FN {x:Str}{v:V}{u:Value}{pos:Pos} (hg:Gl X x) (hm:X.mg x=some u) (r:RelV v u) (hd:autoParam ((x == ("__debug__":Str))=false) au2._auto_1):PE X (.Name x pos) (tC v):=
 fun _ _ _ H _ I h=>qi I hg hm ⟨v,H,I,r,h⟩ hd
theorem E3 {x:Str}{v:V}{u:Value}{pos:Pos} (hg:Gl X x) (hm:X.mg x=none) (hv:bootBuiltins x=some u) (r:RelV v u) (hn:autoParam (x≠"__name__") au2._auto_1) (hd:autoParam ((x == ("__debug__":Str))=false) au2._auto_1):PE X (.Name x pos) (tC v):=
 fun _ _ _ H _ I h=>je I hg hm hv ⟨v,H,I,r,h⟩ hn hd
variable {a b:Expr}{ta tb:TE}{pos:Pos}
noncomputable def tB (t:TE):TT:=fun σ H Q=>t σ H fun x H1 => ∃ c,x = .bl c/\Q c H1
theorem HJ {e:Expr}{t:TE} (h:PE X e t) (he:autoParam (∀ whole,isTrue e X.env whole=(do let v <- whole;standAt e.pos;holding [v] (truthy v))) au3._auto_1):PT X e (tB t):=by
 intro pins s σ H Q I hw
 refine isTrue_plain (thn (h pins s σ H _ I hw) fun v s1 ⟨x,H1,I1,r1,q1⟩ => ?_) (he _)
 obtain⟨d,rfl,q⟩:=q1
 cases r1
 exact dr ⟨H1,I1,q⟩
variable {tA tB':TT}{rest:List Expr}
noncomputable def L0 (t u:TT):TT:=fun σ H Q=>t σ H fun c H1=>if c=true then u σ H1 Q else Q false H1
noncomputable def tOr (t u:TT):TT:=fun σ H Q=>t σ H fun c H1=>if c=true then Q true H1 else u σ H1 Q
noncomputable def M9 (t:TT):TT:=fun σ H Q=>t σ H fun c H1=>Q (!c) H1
theorem FP (ha:PT X a tA):PW X (.BoolOp .And [a] pos) tA:=by
 intro wh pins s σ H Q I h
 refine isTrue_and (thn (ha pins s σ H Q I h) fun c s1 e => ?_)
 cases c with
 | true=>exact isTrue_and_nil e
 | false=>exact e
theorem Jd (ha:PT X a tA):PW X (.BoolOp .Or [a] pos) tA:=by
 intro wh pins s σ H Q I h
 refine isTrue_or (thn (ha pins s σ H Q I h) fun c s1 e => ?_)
 cases c with
 | false=>exact isTrue_or_nil e
 | true=>exact e
theorem HH (ha:PT X a tA) (hb:PW X (.BoolOp .And (b::rest) pos) tB'):PW X (.BoolOp .And (a::b::rest) pos) (L0 tA tB'):=by
 intro wh pins s σ H Q I h
 refine isTrue_and (thn (ha pins s σ H _ I h) fun c s1 ⟨H1,I1,q1⟩ => ?_)
 cases c with
 | true=>exact hb wh pins s1 σ H1 Q I1 q1
 | false=>exact⟨H1,I1,q1⟩
theorem Ml (ha:PT X a tA) (hb:PW X (.BoolOp .Or (b::rest) pos) tB'):PW X (.BoolOp .Or (a::b::rest) pos) (tOr tA tB'):=by
 intro wh pins s σ H Q I h
 refine isTrue_or (thn (ha pins s σ H _ I h) fun c s1 ⟨H1,I1,q1⟩ => ?_)
 cases c with
 | true=>exact⟨H1,I1,q1⟩
 | false=>exact hb wh pins s1 σ H1 Q I1 q1
theorem JE (ha:PT X a tA):PT X (.UnaryOp .Not a pos) (M9 tA):=by
 intro pins s σ H Q I h
 exact isTrue_not (ha pins s σ H (fun c H1=>Q (!c) H1) I h)
noncomputable def Hx (ta tb:TE):TE:=fun σ H Q=>ta σ H fun x H1 => ∃ c,x = .bl c/\if c=true then tb σ H1 Q else Q (.bl false) H1
noncomputable def KO (ta tb:TE):TE:=fun σ H Q=>ta σ H fun x H1 => ∃ c,x = .bl c/\if c=true then Q (.bl true) H1 else tb σ H1 Q
noncomputable def G9 (ta:TE):TE:=fun σ H Q=>ta σ H fun x H1 => ∃ c,x = .bl c/\Q (.bl (!c)) H1
theorem HC {op}{t:TE} (h:PE X a t):PE X (.BoolOp op [a] pos) t:=fun pins s σ H Q I hw=>BoolOp_one (h pins s σ H Q I hw)
theorem HS (ha:PE X a ta) (hb:PE X (.BoolOp .And (b::rest) pos) tb):PE X (.BoolOp .And (a::b::rest) pos) (Hx ta tb):=by
 intro pins s σ H Q I h
 refine BoolOp_and (thn (ha pins s σ H _ I h) fun v s1 ⟨x,H1,I1,r1,q1⟩ => ?_)
 obtain⟨c,rfl,q1⟩:=q1
 cases r1
 refine dr ?_
 cases c with
 | true=>exact hb pins s1 σ H1 Q I1 q1
 | false=>exact⟨.bl false,H1,I1,rfl,q1⟩
theorem Lm (ha:PE X a ta) (hb:PE X (.BoolOp .Or (b::rest) pos) tb):PE X (.BoolOp .Or (a::b::rest) pos) (KO ta tb):=by
 intro pins s σ H Q I h
 refine BoolOp_or (thn (ha pins s σ H _ I h) fun v s1 ⟨x,H1,I1,r1,q1⟩ => ?_)
 obtain⟨c,rfl,q1⟩:=q1
 cases r1
 refine dr ?_
 cases c with
 | false=>exact hb pins s1 σ H1 Q I1 q1
 | true=>exact⟨.bl true,H1,I1,rfl,q1⟩
theorem HG (ha:PE X a ta):PE X (.UnaryOp .Not a pos) (G9 ta):=by
 intro pins s σ H Q I h
 refine UnaryOp_ (thn (ha pins s σ H _ I h) fun v s1 ⟨x,H1,I1,r1,q1⟩ => ?_)
 obtain⟨c,rfl,q1⟩:=q1
 cases r1
 exact not_of (dr ⟨.bl (!c),H1,I1,rfl,q1⟩)
end
end _L
namespace _L
open PySem PySem.Spec PyProof.Rows
noncomputable def SqL (K:ak) (H:Hp) (a:Addr) (xs:List V):Prop:=
 Rd H a (.lst xs) \/
  ∃ (o:Obj) (its:Array Value) (n:Nat),K.lookup a=some o/\o.cls = .type "list"/\o.dict=none/\o.data = .seq its n/\its.size<=sizeLine/\cu xs its.toList
noncomputable def SqT (K:ak) (H:Hp) (a:Addr) (xs:List V):Prop:=
 Rd H a (.tup xs) \/
  ∃ (o:Obj) (its:Array Value) (n:Nat),K.lookup a=some o/\o.cls = .type "tuple"/\o.data = .seq its n/\its.size<=sizeLine/\cu xs its.toList
noncomputable def NQ:Value->Option V
 | .none=>some .non
 | .bool b=>some (.bl b)
 | .int i _=>some (.int i)
 | .str x _=>some (.str x)
 | .bytes b _=>some (.byt b)
 | .float b _=>some (.flt b)
 | .ref a=>some (.ref a)
 | .type n=>some (.ty n)
 | _=>none
theorem RelV.abs {x:V}{u:Value} (r:RelV x u):NQ u=some x:=by
 cases x with
 | non=>cases r;rfl
 | bl _=>cases r;rfl
 | int _=>obtain⟨t,rfl⟩:=r;rfl
 | str _=>obtain⟨t,rfl⟩:=r;rfl
 | byt _=>obtain⟨t,rfl⟩:=r;rfl
 | flt _=>obtain⟨t,rfl⟩:=r;rfl
 | ref _=>cases r;rfl
 | ty _=>cases r;rfl
theorem RelV.inj {x y:V}{u:Value} (r:RelV x u) (q:RelV y u):x=y:=bS (r.abs.symm.trans q.abs)
theorem cu.inj : ∀ {xs ys:List V}{us:List Value},cu xs us->cu ys us->xs=ys:=by
 intro xs ys us h
 induction h generalizing ys with
 | nil=>intro q;cases q;rfl
 | cons r t ih=>intro q;cases q with | cons r' t'=>rw [r.inj r',ih t']
section
variable {X:Cx}{pins:List (Addr×Obj)}{σ:St}{H:Hp}{s:Shared}{a:Addr}{xs ys:List V}
theorem SqL.of {K:ak} (h:H a=some (.lst xs)):SqL K H a xs := .inl (.inl h)
theorem Inv.list (I:Inv X pins σ H s) (h:SqL X.K H a xs) : ∃ its:List Value,cu xs its/\PlainL s.heap a its.toArray/\xs.length<=sizeLine:=by
 rcases h with h | ⟨o,its,n,hk,hc,hd,hs,hz,r⟩
 ·obtain⟨z,its,n,r,e⟩:=h.ok I.hok
  exact⟨its,r,⟨_,n,e,rfl,rfl,rfl⟩,z⟩
 ·refine⟨its.toList,r,⟨o,n,I.kIn a o hk,hc,hd,by simpa using hs⟩,?_⟩
  have e:=r.length
  simp only [dG] at e
  omega
theorem Inv.tuple (I:Inv X pins σ H s) (h:SqT X.K H a xs) : ∃ its:List Value,cu xs its/\IsTup s.heap a its.toArray/\xs.length<=sizeLine:=by
 rcases h with h | ⟨o,its,n,hk,hc,hs,hz,r⟩
 ·obtain⟨z,its,r,p⟩:=h.ok I.hok
  exact⟨its,r,p.1,z⟩
 ·refine⟨its.toList,r,⟨o,I.kIn a o hk,hc,n,by simpa using hs⟩,?_⟩
  have e:=r.length
  simp only [dG] at e
  omega
theorem Inv.list_inj (I:Inv X pins σ H s) (h:SqL X.K H a xs) (h':SqL X.K H a ys):xs=ys:=by
 obtain⟨its,r,⟨o,n,e,_,_,d⟩,_⟩:=I.list h
 obtain⟨its',r',⟨o',n',e',_,_,d'⟩,_⟩:=I.list h'
 rw [e] at e';cases e'
 rw [d] at d'
 injection d' with d1 _
 have:its=its':=by simpa using congrArg Array.toList d1
 subst this
 exact r.inj r'
theorem Inv.tuple_inj (I:Inv X pins σ H s) (h:SqT X.K H a xs) (h':SqT X.K H a ys):xs=ys:=by
 obtain⟨its,r,⟨o,e,_,n,d⟩,_⟩:=I.tuple h
 obtain⟨its',r',⟨o',e',_,n',d'⟩,_⟩:=I.tuple h'
 rw [e] at e';cases e'
 rw [d] at d'
 injection d' with d1 _
 have:its=its':=by simpa using congrArg Array.toList d1
 subst this
 exact r.inj r'
end
abbrev Cx.wish (X:Cx) (E:Value->Shared->Prop):Cx:={ X with xe:=E }
abbrev Cx.nox (X:Cx):Cx:=X.wish fun _ _=>False
theorem Cx.Ok.wish {X:Cx} (ok:X.Ok) (E:Value->Shared->Prop):(X.wish E).Ok:=
 ⟨ok.mod,ok.kind,ok.glob,ok.blt,ok.above,ok.inj,ok.has,ok.cab,ok.hd,ok.frames,ok.stk,ok.exf,ok.bs,ok.bsz,ok.noex,ok.exfs,ok.funs,ok.frf⟩
theorem Cx.Ok.unwish {X:Cx}{E:Value->Shared->Prop} (ok:(X.wish E).Ok):X.Ok:=
 ⟨ok.mod,ok.kind,ok.glob,ok.blt,ok.above,ok.inj,ok.has,ok.cab,ok.hd,ok.frames,ok.stk,ok.exf,ok.bs,ok.bsz,ok.noex,ok.exfs,ok.funs,ok.frf⟩
section
variable {X:Cx}{pins:List (Addr×Obj)}{σ:St}{H:Hp}{s:Shared}{E:Value->Shared->Prop}
theorem Inv.wish (I:Inv X pins σ H s) (E:Value->Shared->Prop):Inv (X.wish E) pins σ H s:=⟨I.ok.wish E,I.os,I.bare,I.base,I.loc,I.cell,I.free,I.freeC,I.pin,I.hok,I.len⟩
theorem Inv.unwish (I:Inv (X.wish E) pins σ H s):Inv X pins σ H s:=⟨I.ok.unwish,I.os,I.bare,I.base,I.loc,I.cell,I.free,I.freeC,I.pin,I.hok,I.len⟩
theorem SP.unwish {D:Ends}{f:Flow}{s':Shared} (h:SP (X.wish E) pins D f s'):SP X pins D f s':=by
 cases f with
 | next=>obtain⟨σ',H',I,q⟩:=h;exact⟨σ',H',I.unwish,q⟩
 | brk=>obtain⟨σ',H',I,q⟩:=h;exact⟨σ',H',I.unwish,q⟩
 | cont=>obtain⟨σ',H',I,q⟩:=h;exact⟨σ',H',I.unwish,q⟩
 | ret u=>obtain⟨v,σ',H',I,r,q⟩:=h;exact⟨v,σ',H',I.unwish,r,q⟩
theorem PSs.nox {st:List Stmt}{t:TS} (h:PSs X.nox st t):PSs X st t:=fun pins s σ H D I hw=>
 da (h pins s σ H D (I.wish _) hw) (fun _ _ q=>q.unwish) fun _ _ z=>cR z
end
section
variable {X:Cx}{st:Stmt}{rest:List Stmt}{t u:TS}{e:Expr}{te:TE}{pos:Pos}
noncomputable def Ee:TS:=fun D σ H=>D.nx σ H
noncomputable def MB (t u:TS):TS:=fun D σ H=>t { D with nx:=u D } σ H
theorem FI:PSs X [] Ee:=fun _ _ σ H _ I h=>pJ ⟨σ,H,I,h⟩
theorem CW (h1:PS X st t) (h2:PSs X rest u):PSs X (st::rest) (MB t u):=by
 intro pins s σ H D I h
 refine wpAny_execs_cons (thn (h1 pins s σ H { D with nx:=u D } I h) fun f s1 q => ?_)
 cases f with
 | next=>
   obtain⟨σ',H',I',q⟩:=q
   exact h2 pins s1 σ' H' D I' q
 | ret v=>exact q
 | brk=>exact q
 | cont=>exact q
theorem FH (h1:PS X st t):PSs X [st] t:=by
 intro pins s σ H D I h
 refine wpAny_execs_cons (thn (h1 pins s σ H D I h) fun f s1 q => ?_)
 cases f with
 | next=>exact pJ q
 | ret v=>exact q
 | brk=>exact q
 | cont=>exact q
noncomputable def IA:TS:=fun D σ H=>D.bk σ H
noncomputable def KJ:TS:=fun D σ H=>D.ct σ H
theorem Ft:PS X (.Pass pos) Ee:=fun _ _ σ H _ I h=>wpAny_Pass ⟨σ,H,I,h⟩
theorem BP:PS X (.Break pos) IA:=fun _ _ σ H _ I h=>wpAny_Break ⟨σ,H,I,h⟩
theorem xc:PS X (.Continue pos) KJ:=fun _ _ σ H _ I h=>wpAny_Continue ⟨σ,H,I,h⟩
theorem Inv.quiet {pins:List (Addr×Obj)}{σ:St}{H:Hp}{s:Shared} (I:Inv X pins σ H s):interactive X.env=false:=by simp [interactive,I.ok.kind]
noncomputable def Hq (te:TE):TS:=fun D σ H=>te σ H fun _ H1=>D.nx σ H1
theorem Gb (he:PE X e te) (hs:autoParam (swapsWith e none pos.line X.env=pure false) au1._auto_1):PS X (.Expr e pos) (Hq te):=by
 intro pins s σ H D I h
 exact wpAny_Expr_any (thn (he pins s σ H _ I h) fun v s1 ⟨x,H1,I1,r1,q1⟩=>⟨σ,H1,I1,q1⟩) I.quiet hs
noncomputable def Kx (te:TE):TS:=fun D σ H=>te σ H D.rt
theorem JX (he:PE X e te):PS X (.Return (some e) pos) (Kx te):=by
 intro pins s σ H D I h
 exact wpAny_Return_some (thn (he pins s σ H _ I h) fun v s1 ⟨x,H1,I1,r1,q1⟩=>⟨x,σ,H1,I1,r1,q1⟩)
noncomputable def LF:TS:=fun D _ H=>D.rt .non H
theorem EK:PS X (.Return none pos) LF:=fun _ _ σ H _ I h=>wpAny_Return_none ⟨.non,σ,H,I,rfl,h⟩
noncomputable def KZ (c:TT) (t u:TS):TS:=fun D σ H=>c σ H fun b H1=>if b=true then t D σ H1 else u D σ H1
theorem My {c:Expr}{a b:List Stmt}{tc:TT} (hc:PT X c tc) (ha:PSs X a t) (hb:PSs X b u):PS X (.If c a b pos) (KZ tc t u):=by
 intro pins s σ H D I h
 refine wpAny_If (thn (hc pins s σ H _ I h) fun d s1 ⟨H1,I1,q1⟩ => ?_)
 cases d with
 | true=>exact ha pins s1 σ H1 D I1 q1
 | false=>exact hb pins s1 σ H1 D I1 q1
end
abbrev TG:=V->St->Hp->(St->Hp->Prop)->Prop
abbrev TGs:=List V->St->Hp->(St->Hp->Prop)->Prop
noncomputable def PG (X:Cx) (target:Expr) (t:TG):Prop:=
 ∀ (pins:List (Addr×Obj)) (s:Shared) (σ:St) (H:Hp) (v:V) (u:Value) (Q:St->Hp->Prop),Inv X pins σ H s->RelV v u->t v σ H Q ->
  aH (model X.prog X.w) X.A (assign target X.env u) (fun _ s' => ∃ σ' H',Inv X pins σ' H' s'/\Q σ' H') X.xe s
noncomputable def PGs (X:Cx) (ts:List Expr) (t:TGs):Prop:=
 ∀ (pins:List (Addr×Obj)) (s:Shared) (σ:St) (H:Hp) (vs:List V) (us:List Value) (Q:St->Hp->Prop),Inv X pins σ H s->cu vs us->t vs σ H Q ->
  aH (model X.prog X.w) X.A (assignInOrder ((assignEach ts X.env).map (·.2)) us) (fun _ s' => ∃ σ' H',Inv X pins σ' H' s'/\Q σ' H') X.xe s
abbrev DC:=V->V->V->Hp->(Hp->Prop)->Prop
noncomputable def Iy (X:Cx) (t:DC):Prop:=
 ∀ (pins:List (Addr×Obj)) (s:Shared) (σ:St) (H:Hp) (o i v:V) (ov iv u:Value) (Q:Hp->Prop),Inv X pins σ H s->RelV o ov->RelV i iv->RelV v u->t o i v H Q ->
  aH (model X.prog X.w) X.A (setItem ov iv u) (fun _ s' => ∃ H',Inv X pins σ H' s'/\Q H') X.xe s
section
variable {X:Cx}{pos:Pos}
noncomputable def i5 (i:Nat):TG:=fun v σ H Q=>Q (σ.set i (some v)) H
theorem zB {i:Nat}{x:Str} (hN:X.N.Nodup) (hi:X.N[i]? = some x) (hx:Loc X.env.scope x) (hf:autoParam (X.fn x=true\/X.env.scope.names.lookup x=some .local) au4._auto_1):PG X (.Name x pos) (i5 i):=by
 intro pins s σ H v u Q I r h
 exact xS (qR I hN hi hx r (fun s' I'=>⟨_,H,I',h⟩) hf)
noncomputable def L5:TGs:=fun vs σ H Q=>vs = []/\Q σ H
noncomputable def GX (t:TG) (u:TGs):TGs:=fun vs σ H Q => ∃ v r,vs=v::r/\t v σ H fun σ' H'=>u r σ' H' Q
theorem Gj:PGs X [] L5:=by
 intro pins s σ H vs us Q I r h
 obtain⟨e,h⟩:=h
 subst e
 cases r
 exact assignInOrder_nil ⟨σ,H,I,h⟩
theorem DU {e:Expr}{es:List Expr}{t:TG}{u:TGs} (h1:PG X e t) (h2:PGs X es u)
  (hs:autoParam ((assignEach (e::es) X.env).map (·.2)=assign e X.env::(assignEach es X.env).map (·.2)) au1._auto_1):PGs X (e::es) (GX t u):=by
 intro pins s σ H vs us Q I r h
 obtain⟨v,vr,e1,h⟩:=h
 subst e1
 cases r with
 | cons r rr=>
   rw [hs]
   refine assignInOrder_cons (thn (h1 pins s σ H _ _ _ I r h) fun _ s1 ⟨σ1,H1,I1,q1⟩ => ?_)
   exact h2 pins s1 σ1 H1 _ _ Q I1 rr q1
noncomputable def KA (K:ak) (n:Nat) (t:TGs):TG:=fun v σ H Q => ∃ a xs,v = .ref a/\SqT K H a xs/\xs.length=n/\t xs σ H Q
theorem Iv {es:List Expr}{k:Nat}{t:TGs}{n:Nat} (hc:X.calm=true) (h:PGs X es t)
  (hn:autoParam ((assignEach es X.env).length=n) au1._auto_1) (hst:autoParam ((assignEach es X.env).findIdx? (·.1)=none) au1._auto_1):PG X (.Tuple es k pos) (KA X.K n t):=by
 intro pins s σ H v u Q I r hw
 obtain⟨a,xs,e1,hq,hl,hw⟩:=hw
 subst e1
 cases r
 obtain⟨its,rv,ht,hz⟩:=I.tuple hq
 refine assign_Tuple_tuple (I.ok.hd hc) ht (by simp [hn,<- hl,rv.length]) hst fun h' hx => ?_
 have I1:Inv X pins σ H { s with heap:=h' }:=I.kept (t':=s.toks) fun b o e=>hx b o (aG (aC e)) e
 exact h pins _ σ H xs _ Q I1 (by simpa using rv) hw
noncomputable def MX (to ti:TE) (t:DC):TG:=fun v σ H Q=>to σ H fun o H1=>ti σ H1 fun i H2=>t o i v H2 fun H3=>Q σ H3
theorem JU {o i:Expr}{to ti:TE}{t:DC} (ho:PE X o to) (hi:PE X i ti) (hs:Iy X t)
  (ha:autoParam (∀ v,assign (.Subscript o i pos) X.env v=(do
   let ov <- holding [v] (eval o X.env)
   let iv <- holding [v,ov] (eval i X.env)
   standAt pos
   holding [v,ov,iv] (setItem ov iv v)
   release [v,ov,iv] [])) au3._auto_1):PG X (.Subscript o i pos) (MX to ti t):=by
 intro pins s σ H v u Q I r h
 rw [ha]
 refine ae (dZ (thn (ho pins s σ H _ I h) fun ov s1 ⟨x,H1,I1,r1,q1⟩ => ?_))
 refine ae (dZ (thn (hi pins s1 σ H1 _ I1 q1) fun iv s2 ⟨y,H2,I2,r2,q2⟩ => ?_))
 refine ae (wpAny_standAt (ae (dZ (thn (hs pins s2 σ H2 x y v ov iv u _ I2 r1 r2 r q2) fun _ s3 ⟨H3,I3,q3⟩ => ?_))))
 exact wpAny_release ⟨σ,H3,I3,q3⟩
noncomputable def CM (te:TE) (g:TG):TS:=fun D σ H=>te σ H fun x H1=>g x σ H1 D.nx
theorem J8 {tg e:Expr}{te:TE}{g:TG} (he:PE X e te) (hg:PG X tg g) (hs:autoParam (swapsWithSole [tg] e pos.line X.env=pure false) au1._auto_1) (hw:autoParam (swappedStores [tg] e X.env=pure none) au1._auto_1)
  (h1:autoParam ((assignEach [tg] X.env).map (·.2) = [assign tg X.env]) au1._auto_1):PS X (.Assign [tg] e pos) (CM te g):=by
 intro pins s σ H D I h
 refine wpAny_Assign_stores (thn (he pins s σ H _ I h) fun v s1 ⟨x,H1,I1,r1,q1⟩ => ?_) hs hw
 rw [h1]
 exact thn (hg pins s1 σ H1 x v _ I1 r1 q1) fun _ s2 q=>q
theorem HP {i:Nat}{x:Str}{e:Expr}{te:TE}{pos':Pos} (hN:X.N.Nodup) (hi:X.N[i]? = some x) (hx:Loc X.env.scope x) (he:PE X e te) (hs:autoParam (swapsWith e (some (.Name x pos')) pos.line X.env=pure false) au1._auto_1) (hf:autoParam (X.fn x=true\/X.env.scope.names.lookup x=some .local) au4._auto_1) :
  PS X (.Assign [.Name x pos'] e pos) (CM te (i5 i)):=by
 intro pins s σ H D I h
 refine wpAny_Assign_Name (thn (he pins s σ H _ I h) fun v s1 ⟨y,H1,I1,r1,q1⟩ => ?_) hs
 exact qR I1 hN hi hx r1 (fun s2 I2=>⟨_,H1,I2,q1⟩) hf
end
section
variable {X:Cx}{pos:Pos}
noncomputable def DS (c:TT) (tb:TS):TS:=fun D σ H => ∃ W:Nat->St->Hp->Prop,(∃ m,W m σ H) /\ ∀ m σ H,W m σ H ->
 c σ H fun b H1=>if b=true then ∃ N:St->Hp->Prop,(∀ σ' H',N σ' H' -> ∃ m',m' < m/\W m' σ' H')/\tb { D with nx:=N,ct:=N,bk:=D.nx } σ H1 else D.nx σ H1
theorem BO {c:Expr}{body:List Stmt}{tc:TT}{tb:TS} (hp:PassesOwn (model X.prog X.w) X.A X.env X.xe) (hc:PT X c tc) (hb:PSs X body tb):PS X (.While c body [] pos) (DS tc tb):=by
 intro pins s σ H D I h
 obtain⟨W,⟨m0,w0⟩,turn⟩:=h
 refine wpAny_While (codeAny_whileLoop (fun n s' => ∃ σ' H',Inv X pins σ' H' s'/\W n σ' H') ?_ m0 ⟨σ,H,I,w0⟩)
 rintro n s1 ⟨σ1,H1,I1,w1⟩
 refine gF hp (thn (hc pins s1 σ1 H1 _ I1 (turn n σ1 H1 w1)) fun b s2 ⟨H2,I2,q2⟩ => ?_)
 cases b with
 | true=>
   obtain⟨N,hN,q2⟩:=q2
   rw [if_pos rfl]
   refine gF hp (thn (hb pins s2 σ1 H2 _ I2 q2) fun f s3 q3 => ?_)
   cases f with
   | next=>
     obtain⟨σ3,H3,I3,n3⟩:=q3
     obtain⟨m',hm,w3⟩:=hN σ3 H3 n3
     exact⟨m',hm,σ3,H3,I3,w3⟩
   | cont=>
     obtain⟨σ3,H3,I3,n3⟩:=q3
     obtain⟨m',hm,w3⟩:=hN σ3 H3 n3
     exact⟨m',hm,σ3,H3,I3,w3⟩
   | brk=>exact q3
   | ret v=>exact q3
 | false=>
   rw [if_neg bM]
   exact pJ ⟨σ1,H2,I2,q2⟩
end
structure It where
 go:Nat->Hp->Prop
 yld:Nat->Hp->V->Hp->Prop
 stop:Nat->Hp->Prop
noncomputable def sM (X:Cx) (pins:List (Addr×Obj)) (H:Hp) (b:Addr):Prop:=
 H b=none/\b≠X.env.locals/\b∉X.fs/\(b∈X.ex\/X.s₀.heap.objs.size<=b)/\(∀ x c,X.env.cells.lookup x=some c->c≠b) /\ ∀ p∈X.pn++pins,p.1≠b
theorem Inv.fpOk {X:Cx}{pins:List (Addr×Obj)}{σ:St}{H H':Hp}{s:Shared}{b:Addr} (I:Inv X pins σ H s) (hb:s.heap.objs.size<=b) (hn:H' b=none):sM X pins H' b:=by
 refine⟨hn,dH (ao I.lt hb),I.nofs hb,.inr (aL I.sz hb),fun x c e z => ?_,fun p hp z => ?_⟩
 ·obtain⟨v,q⟩:=I.cell x c e
  exact absurd (ao q.lt (by rw [z];exact hb)) (bL _)
 ·exact absurd (ao (aC (I.pin p hp).1) (by rw [z];exact hb)) (bL _)
structure Turn (P:Program) (w:World) (K:ak) (tg:Expr) (J:It) (fp:List Addr) (it:Addr) (tn:Nat->Heap->Prop):Prop where
 mem:it∈fp
 obj : ∀ i h,tn i h -> ∀ b∈fp,∃ o,h.get? b=some o /\ ∀ v,o.data ≠ .cell v
 keep : ∀ i h h',tn i h->(∀ b∈fp,∀ o,h.get? b=some o->h'.get? b=some o)->tn i h'
 item : ∀ (X:Cx),X.prog=P->X.w=w->X.K=K->X.calm=true -> ∀ (i:Nat) (pins:List (Addr×Obj)) (s:Shared) (σ:St) (H:Hp) (E:Value->Shared->Prop),Inv X pins σ H s->(∀ b∈fp,sM X pins H b)->tn i s.heap->J.go i H ->
  aH (model P w) X.A (pyNext (.ref it)) (fun r s1 => ∃ u,r=some u /\
   aH (model P w) X.A (letOwnedTupleGo tg (.ref it) u) (fun _ s2 => ∃ x H',Inv X pins σ H' s2/\RelV x u/\J.yld i H x H'/\tn (i+1) s2.heap /\ ∀ b∈fp,H' b=none) E s1) E s
 done : ∀ (X:Cx),X.prog=P->X.w=w->X.K=K->X.calm=true -> ∀ (i:Nat) (pins:List (Addr×Obj)) (s:Shared) (σ:St) (H:Hp) (E:Value->Shared->Prop),Inv X pins σ H s->(∀ b∈fp,sM X pins H b)->tn i s.heap->J.stop i H ->
  aH (model P w) X.A (pyNext (.ref it)) (fun r s1=>r=none/\Inv X pins σ H s1) E s
 self : ∀ (A:Around) (i:Nat) (s:Shared) (Q:Value->Shared->Prop) (E:Value->Shared->Prop),tn i s.heap->Q (.ref it) s->aH (model P w) A (pyIter (.ref it)) Q E s
abbrev TI:=St->Hp->(It->Hp->Prop)->Prop
noncomputable def PIE (X:Cx) (pins:List (Addr×Obj)) (σ:St) (tg:Expr) (R:It->Hp->Prop) (itv:Value) (s2:Shared):Prop:=
 ∃ (it:Addr) (fp:List Addr) (tn:Nat->Heap->Prop) (J:It) (H':Hp),itv = .ref it/\Inv X pins σ H' s2/\Turn X.prog X.w X.K tg J fp it tn/\tn 0 s2.heap/\(∀ b∈fp,sM X pins H' b)/\R J H'
noncomputable def PI (X:Cx) (tg iter:Expr) (wi:TI):Prop:=
 ∀ (pins:List (Addr×Obj)) (s:Shared) (σ:St) (H:Hp) (R:It->Hp->Prop),Inv X pins σ H s->wi σ H R ->
  aH (model X.prog X.w) X.A (eval iter X.env) (fun v s1=>aH (model X.prog X.w) X.A (pyIter v) (PIE X pins σ tg R) X.xe s1) X.xe s
theorem zL {M:Model}{A:Around}{E:Value->Shared->Prop}{s:Shared}{tg:Expr}{it:Addr}{u:Value}{o:Obj}{n:String}{vs:Array Value}{Q:Unit->Shared->Prop} (ho:s.heap.get? it=some o) (hc:o.cls = .type n) (hd:o.data = .fields vs)
  (hn : ["enumerate","zip","dict_itemiterator","dict_reverseitemiterator","odict_iterator","itertools.zip_longest","itertools.pairwise"].contains n=false) (hQ:Q () s):aH M A (letOwnedTupleGo tg (.ref it) u) Q E s:=by
 unfold letOwnedTupleGo
 cases tg <;> first
  | exact az hQ
  | (cases u <;> first
    | exact az hQ
    | (refine ae (vQ ho ?_)
       rw [hc,hd]
       show aH M A (if (["enumerate","zip","dict_itemiterator","dict_reverseitemiterator","odict_iterator","itertools.zip_longest","itertools.pairwise"].contains n&&vs[0]? == some (rawInt _))=true then _ else _) Q E s
       rw [if_neg (by intro h;rw [hn,Bool.false_and] at h;cases h)]
       exact az hQ))
noncomputable def Itl (K:ak) (a:Addr):It:=
 ⟨fun i H => ∃ xs x,SqL K H a xs/\xs[i]? = some x,fun i H x H'=>H'=H /\ ∀ xs,SqL K H a xs->xs[i]? = some x,fun i H => ∃ xs,SqL K H a xs/\xs.length<=i⟩
noncomputable def Itt (K:ak) (a:Addr):It:=
 ⟨fun i H => ∃ xs x,SqT K H a xs/\xs[i]? = some x,fun i H x H'=>H'=H /\ ∀ xs,SqT K H a xs->xs[i]? = some x,fun i H => ∃ xs,SqT K H a xs/\xs.length<=i⟩
noncomputable def Itr (lo:Int) (n:Nat):It:=⟨fun i _=>i < n,fun i H x H'=>H'=H/\x = .int (lo+i),fun i _=>n<=i⟩
theorem Aj {P:Program}{w:World}{K:ak}{tg:Expr} (a it:Addr):Turn P w K tg (Itl K a) [it] it (fun i h=>h.IsListIter it a i) where
 mem:=by simp
 obj:=fun i h st b hb=>by
  have e:b=it:=by simpa using hb
  subst e
  obtain⟨o,e,c,d⟩:=st
  exact⟨o,e,fun v z=>by rw [d] at z;cases z⟩
 keep:=fun i h h' st k=>st.at fun o e=>k it (by simp) o e
 item:=by
  intro X hP hw hK hc i pins s σ H E I hf st hg
  subst hP hw hK
  obtain⟨xs,x,hq,hx⟩:=hg
  obtain⟨its,rv,p,hz⟩:=I.list hq
  obtain⟨u,hu,ru⟩:=rv.get hx
  obtain⟨f0,f1,f2,f3,f4,f5⟩:=hf it (by simp)
  refine wpAny_pyNext_list_item st p.isList (x:=u) (by simpa using hu) fun h' st' sb => ?_
  have I1:Inv X pins σ H { s with heap:=h' }:=I.turned (t':=s.toks) (fun b o hb e=>(sb.2 b hb).trans e) f0 f1 f3 f4 f5
  obtain⟨o,e,c,d⟩:=id st'
  exact⟨u,rfl,zL (s:={ s with heap:=h' }) e c d (by decide) ⟨x,H,I1,ru,⟨rfl,fun ys hy=>by rw [I.list_inj hy hq];exact hx⟩,st',fun b hb=>(hf b hb).1⟩⟩
 done:=by
  intro X hP hw hK hc i pins s σ H E I hf st hg
  subst hP hw hK
  obtain⟨xs,hq,hx⟩:=hg
  obtain⟨its,rv,p,hz⟩:=I.list hq
  obtain⟨f0,f1,f2,f3,f4,f5⟩:=hf it (by simp)
  have hl:=rv.length
  exact wpAny_pyNext_list_end (I.ok.hd hc) st p.isList (by simp;omega) fun h' eb=>⟨rfl,I.turned (t':=s.toks) (fun b o hb e=>eb b o hb e) f0 f1 f3 f4 f5⟩
 self:=fun _ _ _ _ _ st h=>wpAny_pyIter_listiter st h
theorem yF {P:Program}{w:World}{K:ak}{tg:Expr} (a it:Addr):Turn P w K tg (Itt K a) [it] it (fun i h=>h.IsTupleIter it a i) where
 mem:=by simp
 obj:=fun i h st b hb=>by
  have e:b=it:=by simpa using hb
  subst e
  obtain⟨o,e,c,d⟩:=st
  exact⟨o,e,fun v z=>by rw [d] at z;cases z⟩
 keep:=fun i h h' st k=>st.at fun o e=>k it (by simp) o e
 item:=by
  intro X hP hw hK hc i pins s σ H E I hf st hg
  subst hP hw hK
  obtain⟨xs,x,hq,hx⟩:=hg
  obtain⟨its,rv,p,hz⟩:=I.tuple hq
  obtain⟨u,hu,ru⟩:=rv.get hx
  obtain⟨f0,f1,f2,f3,f4,f5⟩:=hf it (by simp)
  refine wpAny_pyNext_tuple_item st (show s.heap.IsTuple a its.toArray from p) (x:=u) (by simpa using hu) fun h' st' sb => ?_
  have I1:Inv X pins σ H { s with heap:=h' }:=I.turned (t':=s.toks) (fun b o hb e=>(sb.2 b hb).trans e) f0 f1 f3 f4 f5
  obtain⟨o,e,c,d⟩:=id st'
  exact⟨u,rfl,zL (s:={ s with heap:=h' }) e c d (by decide) ⟨x,H,I1,ru,⟨rfl,fun ys hy=>by rw [I.tuple_inj hy hq];exact hx⟩,st',fun b hb=>(hf b hb).1⟩⟩
 done:=by
  intro X hP hw hK hc i pins s σ H E I hf st hg
  subst hP hw hK
  obtain⟨xs,hq,hx⟩:=hg
  obtain⟨its,rv,p,hz⟩:=I.tuple hq
  obtain⟨f0,f1,f2,f3,f4,f5⟩:=hf it (by simp)
  have hl:=rv.length
  exact wpAny_pyNext_tuple_end (I.ok.hd hc) st (show s.heap.IsTuple a its.toArray from p) (by simp;omega) fun h' eb=>⟨rfl,I.turned (t':=s.toks) (fun b o hb e=>eb b o hb e) f0 f1 f3 f4 f5⟩
 self:=fun _ _ _ _ _ st h=>wpAny_pyIter_tupleiter st h
theorem yh {P:Program}{w:World}{K:ak}{tg:Expr} (it:Addr) (lo:Int) (n:Nat):Turn P w K tg (Itr lo n) [it] it (fun i h=>IsRangeIter h it (lo+(i:Nat)*1) ((n:Int) - (i:Nat)) 1) where
 mem:=by simp
 obj:=fun i h st b hb=>by
  have e:b=it:=by simpa using hb
  subst e
  exact⟨_,st,fun v z=>by
   have z':Es _=Data.cell v:=z
   cases z'⟩
 keep:=fun i h h' st k=>k it (by simp) _ st
 item:=by
  intro X hP hw hK hc i pins s σ H E I hf st hg
  subst hP hw hK
  obtain⟨f0,f1,f2,f3,f4,f5⟩:=hf it (by simp)
  have W:=Walks.range (prog:=X.prog) (w:=X.w) (I.ok.hd hc) it lo 1 n
  refine W.item i s _ _ hg st fun v h' tk hv st' kk => ?_
  obtain⟨t,rfl⟩:=hv
  have I1:Inv X pins σ H { s with heap:=h',toks:=tk }:=I.turned (fun b o hb e=>kk b o (by simpa using hb) e) f0 f1 f3 f4 f5
  refine⟨_,rfl,zL (s:={ s with heap:=h',toks:=tk }) (n:="range_iterator") st' rfl rfl (by decide) ⟨.int (lo+i),H,I1,⟨t,?_⟩,⟨rfl,rfl⟩,st',fun b hb=>(hf b hb).1⟩⟩
  rw [Int.mul_one]
 done:=by
  intro X hP hw hK hc i pins s σ H E I hf st hg
  subst hP hw hK
  obtain⟨f0,f1,f2,f3,f4,f5⟩:=hf it (by simp)
  exact wpAny_pyNext_range_end (I.ok.hd hc) st (by have:n<=i:=hg;omega) fun h' eb=>⟨rfl,I.turned (t':=s.toks) (fun b o hb e=>eb b o hb e) f0 f1 f3 f4 f5⟩
 self:=fun _ _ _ _ _ st h=>wpAny_pyIter_rangeiter st h
end _L
namespace _L
open PySem PySem.Spec PyProof.Rows
section
variable {X:Cx}{tg:Expr}
noncomputable def xM (K:ak) (tl:TE):TI:=fun σ H R=>tl σ H fun x H1 => ∃ a,x = .ref a/\(∃ xs,SqL K H1 a xs)/\R (Itl K a) H1
noncomputable def CF (K:ak) (tl:TE):TI:=fun σ H R=>tl σ H fun x H1 => ∃ a,x = .ref a/\(∃ xs,SqT K H1 a xs)/\R (Itt K a) H1
theorem EV {l:Expr}{tl:TE} (hl:PE X l tl):PI X tg l (xM X.K tl):=by
 intro pins s σ H R I h
 refine thn (hl pins s σ H _ I h) fun v s1 ⟨x,H1,I1,r1,q1⟩ => ?_
 obtain⟨a,e,⟨xs,hq⟩,q⟩:=q1
 subst e
 cases r1
 obtain⟨its,rv,p,hz⟩:=I1.list hq
 refine ny p.isList ?_
 refine⟨s1.heap.objs.size,[s1.heap.objs.size],_,_,H1,rfl,I1.kept (t':=s1.toks) fun b o e=>ah _ e,Aj a _,⟨_,ax _ rfl,rfl,rfl⟩,fun b hb => ?_,q⟩
 have e:b=s1.heap.objs.size:=by simpa using hb
 subst e
 exact I1.fpOk (aj _) (I1.hok.fresh (aj _))
theorem JV {l:Expr}{tl:TE} (hl:PE X l tl):PI X tg l (CF X.K tl):=by
 intro pins s σ H R I h
 refine thn (hl pins s σ H _ I h) fun v s1 ⟨x,H1,I1,r1,q1⟩ => ?_
 obtain⟨a,e,⟨xs,hq⟩,q⟩:=q1
 subst e
 cases r1
 obtain⟨its,rv,p,hz⟩:=I1.tuple hq
 refine wpAny_pyIter_tuple (show s1.heap.IsTuple a its.toArray from p) ?_
 refine⟨s1.heap.objs.size,[s1.heap.objs.size],_,_,H1,rfl,I1.kept (t':=s1.toks) fun b o e=>ah _ e,yF a _,⟨_,ax _ rfl,rfl,rfl⟩,fun b hb => ?_,q⟩
 have e:b=s1.heap.objs.size:=by simpa using hb
 subst e
 exact I1.fpOk (aj _) (I1.hok.fresh (aj _))
theorem wZ {pins:List (Addr×Obj)}{σ:St}{H:Hp}{s:Shared}{R:It->Hp->Prop}{E:Value->Shared->Prop}{lo hi:Int}{t u v:Tok}{tk:Nat} (I:Inv X pins σ H s) (h1 : -(2 ^ 62)<=lo) (h2:lo < 2 ^ 62) (h3 : -(2 ^ 62)<=hi) (h4:hi < 2 ^ 62)
  (q:R (Itr lo (hi - lo).toNat) H):aH (model X.prog X.w) X.A (pyIter (.ref s.heap.objs.size)) (PIE X pins σ tg R) E { s with heap:=s.heap.push { cls := .type "range",data := .fields #[.int lo t,.int hi u,.int 1 v] },toks:=tk }:=by
 refine wpAny_pyIter_range (IsRange.new ..) (small_one h1 h2 h3 h4) ?_
 have I1:Inv X pins σ H { s with heap:=s.heap.push { cls := .type "range",data := .fields #[.int lo t,.int hi u,.int 1 v] },toks:=tk }:=I.kept fun b o e=>ah _ e
 refine⟨(s.heap.push { cls := .type "range",data := .fields #[.int lo t,.int hi u,.int 1 v] }).objs.size,[(s.heap.push { cls := .type "range",data := .fields #[.int lo t,.int hi u,.int 1 v] }).objs.size],_,_,H,rfl,
  I1.kept (t':=tk) fun b o e=>ah _ e,yh _ lo (hi - lo).toNat,?_,fun b hb => ?_,q⟩
 ·have e1:lo+((0:Nat):Int)*1=lo:=by simp
  have e2:(((hi - lo).toNat:Nat):Int) - ((0:Nat):Int)=bH lo hi 1:=by rw [rangeSize_one];split <;> omega
  show IsRangeIter _ _ (lo+((0:Nat):Int)*1) ((((hi - lo).toNat:Nat):Int) - ((0:Nat):Int)) 1
  rw [e1,e2]
  exact ax _ rfl
 ·have e:b=(s.heap.push { cls := .type "range",data := .fields #[.int lo t,.int hi u,.int 1 v] }).objs.size:=by simpa using hb
  subst e
  exact I1.fpOk (aj _) (I1.hok.fresh (aj _))
noncomputable def wu (ta:TA):TI:=fun σ H R=>ta σ H fun vs H1 => ∃ j:Int,vs = [.int j] /\ -(2 ^ 62)<=j/\j < 2 ^ 62/\R (Itr 0 j.toNat) H1
noncomputable def xG (ta:TA):TI:=fun σ H R=>ta σ H fun vs H1 => ∃ i j:Int,vs = [.int i,.int j]/\(-(2 ^ 62)<=i/\i < 2 ^ 62 /\ -(2 ^ 62)<=j/\j < 2 ^ 62)/\R (Itr i (j - i).toNat) H1
theorem Ba {a:Expr}{ta:TA}{p pos:Pos} (hg:Gl X "range") (hm:X.mg "range"=none) (ha:PA X [a] ta) (hs:autoParam (starEach [a] X.env = [(false,eval a X.env)]) au1._auto_1):PI X tg (.Call (.Name "range" p) [a] [] pos) (wu ta):=by
 intro pins s σ H R I h
 refine Call_ (je I hg hm boot_range (cb (thn (ha pos pins s σ H _ I h) fun us s1 ⟨vs,H1,I1,r1,q1⟩ => ?_) hs rfl))
 obtain⟨j,e,q1,q2,q⟩:=q1
 subst e
 cases r1 with
 | cons r rr=>
   cases rr
   obtain⟨t,rfl⟩:=r
   exact call_range_1 (wZ I1 (by omega) (by omega) q1 q2 (by simpa using q))
theorem Aq {a b:Expr}{ta:TA}{p pos:Pos} (hg:Gl X "range") (hm:X.mg "range"=none) (ha:PA X [a,b] ta) (hs:autoParam (starEach [a,b] X.env = [(false,eval a X.env),(false,eval b X.env)]) au1._auto_1) (hs2:autoParam (starEach [b] X.env = [(false,eval b X.env)]) au1._auto_1) :
  PI X tg (.Call (.Name "range" p) [a,b] [] pos) (xG ta):=by
 intro pins s σ H R I h
 refine Call_ (je I hg hm boot_range (cb (thn (ha pos pins s σ H _ I h) fun us s1 ⟨vs,H1,I1,r1,q1⟩ => ?_) (by rw [hs,hs2]) (by rw [hs2];rfl)))
 obtain⟨i,j,e,⟨q1,q2,q3,q4⟩,q⟩:=q1
 subst e
 cases r1 with
 | cons r rr=>
   cases rr with
   | cons r' rr=>
     cases rr
     obtain⟨t,rfl⟩:=r
     obtain⟨t',rfl⟩:=r'
     exact call_range_2 (wZ I1 q1 q2 q3 q4 q)
noncomputable def uQ (wi:TI) (g:TG) (tb:TS):TS:=fun D σ H=>wi σ H fun J H1 => ∃ W:Nat->Nat->St->Hp->Prop,(∃ m,W 0 m σ H1) /\ ∀ i m σ H,W i m σ H ->
 (J.stop i H/\D.nx σ H)\/(J.go i H /\ ∃ N:St->Hp->Prop,(∀ σ' H',N σ' H' -> ∃ m',m' < m/\W (i+1) m' σ' H') /\ ∀ x H',J.yld i H x H'->g x σ H' fun σ2 H2=>tb { D with nx:=N,ct:=N,bk:=D.nx } σ2 H2)
noncomputable def rF (fp:List Addr) (h:Heap):List (Addr×Obj):=fp.filterMap fun b=>(h.get? b).map fun o=>(b,o)
theorem kD {fp:List Addr}{h:Heap}{b:Addr}{o:Obj} (hb:b∈fp) (e:h.get? b=some o):(b,o)∈rF fp h:=List.mem_filterMap.mpr ⟨b,hb,by rw [e];rfl⟩
theorem AB {fp:List Addr}{h:Heap}{p:Addr×Obj} (hp:p∈rF fp h):p.1∈fp/\h.get? p.1=some p.2:=by
 obtain⟨b,hb,e⟩:=List.mem_filterMap.mp hp
 cases q:h.get? b with
 | none=>rw [q] at e;cases e
 | some o=>
   rw [q] at e
   have e':(b,o)=p:=bS e
   subst e'
   exact⟨hb,q⟩
theorem Inv.pinned {pins:List (Addr×Obj)}{σ:St}{H:Hp}{s:Shared}{fp:List Addr} (I:Inv X pins σ H s) (hf : ∀ b∈fp,sM X pins H b) (ho : ∀ b∈fp,∃ o,s.heap.get? b=some o /\ ∀ v,o.data ≠ .cell v):Inv X (pins++rF fp s.heap) σ H s:=
 I.pins_of fun p hp=>(bq.mp hp).elim (fun z=>I.pin p (aV _ z)) fun z=>by
  obtain⟨hb,e⟩:=AB z
  obtain⟨f0,f1,f2,_⟩:=hf p.1 hb
  obtain⟨o,e',d⟩:=ho p.1 hb
  rw [e] at e';cases e'
  exact⟨e,f0,f1,f2,d⟩
theorem Inv.unpinned {pins pl:List (Addr×Obj)}{σ:St}{H:Hp}{s:Shared} (I:Inv X (pins++pl) σ H s):Inv X pins σ H s:=I.pins_of fun p hp=>I.pin p (aV _ (bB _ hp))
theorem CN {iter:Expr}{body:List Stmt}{wi:TI}{g:TG}{tb:TS}{pos:Pos} (hp:PassesOwn (model X.prog X.w) X.A X.env X.xe) (hc:X.calm=true) (hi:PI X tg iter wi) (hg:PG X tg g) (hb:PSs X body tb)
  (hs:autoParam (∀ x,foldedSetIterable iter X.env x=pure x) au3._auto_1):PS X (.For tg iter body [] pos) (uQ wi g tb):=by
 intro pins s σ H D I h
 refine wpAny_For (thn (hi pins s σ H _ I h) fun v s1 h1=>thn h1 fun itv s2 h2 => ?_) hs
 obtain⟨it,fp,tn,J,H2,e,I2,T,st2,f2,W,⟨m0,w0⟩,turn⟩:=h2
 subst e
 have stat : ∀ {H':Hp},(∀ b∈fp,H' b=none) -> ∀ b∈fp,sM X pins H' b:=fun hn b hb=>⟨hn b hb,(f2 b hb).2⟩
 refine codeAny_forLoop_any (fun n s' => ∃ i σ' H',Inv X pins σ' H' s'/\tn i s'.heap/\(∀ b∈fp,H' b=none)/\W i n σ' H') ?_ m0 ⟨0,σ,H2,I2,st2,fun b hb=>(f2 b hb).1,w0⟩
 rintro n s3 ⟨i,σ3,H3,I3,st3,fr3,w3⟩
 rcases turn i n σ3 H3 w3 with⟨stop,qn⟩ | ⟨go,N,hN,step⟩
 ·refine gF hp (thn (T.done X rfl rfl rfl hc i pins s3 σ3 H3 X.xe I3 (stat fr3) st3 stop) fun r s4 ⟨hr,I4⟩ => ?_)
  subst hr
  exact pJ ⟨σ3,H3,I4,qn⟩
 ·refine gF hp (thn (T.item X rfl rfl rfl hc i pins s3 σ3 H3 X.xe I3 (stat fr3) st3 go) fun r s4 ⟨u,hr,h4⟩ => ?_)
  subst hr
  refine gF hp (thn h4 fun _ s5 ⟨x,H5,I5,r5,y5,st5,fr5⟩ => ?_)
  have I5':=I5.pinned (stat fr5) (T.obj _ _ st5)
  refine gF hp (thn (hg _ s5 σ3 H5 x u _ I5' r5 (step x H5 y5)) fun _ s6 ⟨σ6,H6,I6,q6⟩ => ?_)
  refine gF hp (thn (hb _ s6 σ6 H6 _ I6 q6) fun f s7 q7 => ?_)
  have again : ∀ {σ7:St}{H7:Hp},Inv X (pins++rF fp s5.heap) σ7 H7 s7->N σ7 H7 -> ∃ m,m < n /\ ∃ i σ' H',Inv X pins σ' H' s7/\tn i s7.heap/\(∀ b∈fp,H' b=none)/\W i m σ' H':=fun {σ7 H7} I7 n7=>by
   obtain⟨m',hm,w7⟩:=hN σ7 H7 n7
   refine⟨m',hm,i+1,σ7,H7,I7.unpinned,T.keep _ _ _ st5 fun b hb o e=>(I7.pin (b,o) (aV _ (aV _ (kD hb e)))).1,fun b hb => ?_,w7⟩
   obtain⟨o,e,d⟩:=T.obj _ _ st5 b hb
   exact (I7.pin (b,o) (aV _ (aV _ (kD hb e)))).2.1
  cases f with
  | next=>obtain⟨σ7,H7,I7,n7⟩:=q7;exact again I7 n7
  | cont=>obtain⟨σ7,H7,I7,n7⟩:=q7;exact again I7 n7
  | brk=>obtain⟨σ7,H7,I7,q7⟩:=q7;exact⟨σ7,H7,I7.unpinned,q7⟩
  | ret v=>obtain⟨x7,σ7,H7,I7,r7,q7⟩:=q7;exact⟨x7,σ7,H7,I7.unpinned,r7,q7⟩
end
theorem FA {K:ak}{a:Addr}{xs:List V}{g:TG}{tb:TS}{D:Ends}{σ:St}{H:Hp} (Pv:Nat->St->Hp->Prop) (h0:Pv 0 σ H) (hl : ∀ i σ H,i<=xs.length->Pv i σ H->SqT K H a xs)
  (hs : ∀ i x σ H,xs[i]? = some x->Pv i σ H->g x σ H fun σ2 H2=>tb { D with nx:=Pv (i+1),ct:=Pv (i+1),bk:=D.nx } σ2 H2) (hd : ∀ σ H,Pv xs.length σ H->D.nx σ H) :
  ∃ W:Nat->Nat->St->Hp->Prop,(∃ m,W 0 m σ H) /\ ∀ i m σ H,W i m σ H ->
   ((Itt K a).stop i H/\D.nx σ H)\/((Itt K a).go i H /\ ∃ N:St->Hp->Prop,(∀ σ' H',N σ' H' -> ∃ m',m' < m/\W (i+1) m' σ' H') /\ ∀ x H',(Itt K a).yld i H x H'->g x σ H' fun σ2 H2=>tb { D with nx:=N,ct:=N,bk:=D.nx } σ2 H2):=by
 refine⟨fun i m σ H=>m=xs.length - i/\i<=xs.length/\Pv i σ H,⟨xs.length,by simp,dj _,h0⟩,?_⟩
 rintro i m σ H ⟨rfl,hi,p⟩
 have q:=hl i σ H hi p
 by_cases hlt:i < xs.length
 ·refine .inr ⟨⟨xs,xs[i],q,by simp [hlt]⟩,Pv (i+1),fun σ' H' p'=>⟨xs.length - (i+1),by omega,rfl,hlt,p'⟩,fun x H' y => ?_⟩
  obtain⟨e,y⟩:=y
  subst e
  exact hs i x σ _ (y xs q) p
 ·have e:i=xs.length:=by omega
  subst e
  exact .inl ⟨⟨xs,q,aj _⟩,hd σ H p⟩
theorem Bl {lo:Int}{n:Nat}{g:TG}{tb:TS}{D:Ends}{σ:St}{H:Hp} (Pv:Nat->St->Hp->Prop) (h0:Pv 0 σ H)
  (hs : ∀ i σ H,i < n->Pv i σ H->g (.int (lo+i)) σ H fun σ2 H2=>tb { D with nx:=Pv (i+1),ct:=Pv (i+1),bk:=D.nx } σ2 H2) (hd : ∀ σ H,Pv n σ H->D.nx σ H) :
  ∃ W:Nat->Nat->St->Hp->Prop,(∃ m,W 0 m σ H) /\ ∀ i m σ H,W i m σ H ->
   ((Itr lo n).stop i H/\D.nx σ H)\/((Itr lo n).go i H /\ ∃ N:St->Hp->Prop,(∀ σ' H',N σ' H' -> ∃ m',m' < m/\W (i+1) m' σ' H') /\ ∀ x H',(Itr lo n).yld i H x H'->g x σ H' fun σ2 H2=>tb { D with nx:=N,ct:=N,bk:=D.nx } σ2 H2):=by
 refine⟨fun i m σ H=>m=n - i/\i<=n/\Pv i σ H,⟨n,by simp,dj _,h0⟩,?_⟩
 rintro i m σ H ⟨rfl,hi,p⟩
 by_cases hlt:i < n
 ·refine .inr ⟨hlt,Pv (i+1),fun σ' H' p'=>⟨n - (i+1),by omega,rfl,hlt,p'⟩,fun x H' y => ?_⟩
  obtain⟨e,y⟩:=y
  subst e y
  exact hs i σ _ hlt p
 ·have e:i=n:=by omega
  subst e
  exact .inl ⟨aj _,hd σ H p⟩
end _L
namespace _L
open PySem PySem.Spec PyProof.Rows
abbrev R2:=V->V->Hp->VK->Prop
noncomputable def OpR (X:Cx) (f:Value->Value->Sem Value) (r:R2):Prop:=
 ∀ (pins:List (Addr×Obj)) (s:Shared) (σ:St) (H:Hp) (x y:V) (v u:Value) (Q:VK),Inv X pins σ H s->RelV x v->RelV y u->r x y H Q ->
  aH (model X.prog X.w) X.A (f v u) (EP X pins σ Q) X.xe s
noncomputable def UnR (X:Cx) (f:Value->Sem Value) (r:V->Hp->VK->Prop):Prop:=
 ∀ (pins:List (Addr×Obj)) (s:Shared) (σ:St) (H:Hp) (x:V) (v:Value) (Q:VK),Inv X pins σ H s->RelV x v->r x H Q ->
  aH (model X.prog X.w) X.A (f v) (EP X pins σ Q) X.xe s
noncomputable def gQ (X:Cx) (f:Value) (r:List V->Hp->VK->Prop):Prop:=
 ∀ (pins:List (Addr×Obj)) (s:Shared) (σ:St) (H:Hp) (xs:List V) (us:List Value) (Q:VK),Inv X pins σ H s->cu xs us->r xs H Q ->
  aH (model X.prog X.w) X.A (call f us) (EP X pins σ Q) X.xe s
noncomputable def tOp (r:R2) (ta tb:TE):TE:=fun σ H Q=>ta σ H fun x H1=>tb σ H1 fun y H2=>r x y H2 Q
noncomputable def tUn (r:V->Hp->VK->Prop) (ta:TE):TE:=fun σ H Q=>ta σ H fun x H1=>r x H1 Q
noncomputable def rI (C:Int->Int->Prop) (g:Int->Int->V):R2:=fun x y H Q => ∃ i j,x = .int i/\y = .int j/\C i j/\Q (g i j) H
noncomputable def rI0 (g:Int->Int->V):R2:=fun x y H Q => ∃ i j,x = .int i/\y = .int j/\Q (g i j) H
noncomputable def rU (g:Int->V):V->Hp->VK->Prop:=fun x H Q => ∃ i,x = .int i/\Q (g i) H
section
variable {X:Cx}{a b c:Expr}{ta tb tc:TE}{pos:Pos}
theorem Ir (ha:PE X a ta) (hb:PE X b tb) {pins:List (Addr×Obj)}{s:Shared}{σ:St}{H:Hp}{R:V->V->Hp->Prop} (I:Inv X pins σ H s)
  (h:ta σ H fun x H1=>tb σ H1 fun y H2=>R x y H2) {Q:Value->Shared->Prop}{f:Value->Value->Sem Value}
  (hf : ∀ v u s2 x y H2,Inv X pins σ H2 s2->RelV x v->RelV y u->R x y H2->aH (model X.prog X.w) X.A (f v u) Q X.xe s2) :
  aH (model X.prog X.w) X.A (eval a X.env) (fun v s₁=>aH (model X.prog X.w) X.A (eval b X.env) (fun u s₂=>aH (model X.prog X.w) X.A (f v u) Q X.xe s₂) X.xe s₁) X.xe s:=by
 refine thn (ha pins s σ H _ I h) fun v s1 ⟨x,H1,I1,r1,q1⟩ => ?_
 refine thn (hb pins s1 σ H1 _ I1 q1) fun u s2 ⟨y,H2,I2,r2,q2⟩ => ?_
 exact hf v u s2 x y H2 I2 r1 r2 q2
theorem tO {op:Operator}{r:R2} (ho:OpR X (binaryOp op) r) (ha:PE X a ta) (hb:PE X b tb):PE X (.BinOp a op b pos) (tOp r ta tb):=by
 intro pins s σ H Q I h
 exact wpAny_BinOp (Ir ha hb I h fun v u s2 x y H2 I2 rx ry q=>ho pins s2 σ H2 x y v u Q I2 rx ry q)
theorem Nf {op:UnaryOp}{r:V->Hp->VK->Prop} (ho:UnR X (unaryOp op) r) (ha:PE X a ta):PE X (.UnaryOp op a pos) (tUn r ta):=by
 intro pins s σ H Q I h
 exact UnaryOp_ (thn (ha pins s σ H _ I h) fun v s1 ⟨x,H1,I1,r1,q1⟩=>ho pins s1 σ H1 x v Q I1 r1 q1)
theorem opI {f:Value->Value->Sem Value}{C:Int->Int->Prop}{g:Int->Int->Int}
  (rule : ∀ (i j:Int) (t u:Tok) (s:Shared) (Q:Value->Shared->Prop) (E:Value->Shared->Prop),C i j->Q (.int (g i j) s.toks) { s with toks:=s.toks+1 }->aH (model X.prog X.w) X.A (f (.int i t) (.int j u)) Q E s) :
  OpR X f (rI C fun i j => .int (g i j)):=by
 intro pins s σ H x y v u Q I rx ry h
 obtain⟨i,j,rfl,rfl,hc,q⟩:=h
 obtain⟨t,rfl⟩:=rx
 obtain⟨t',rfl⟩:=ry
 exact rule i j t t' s _ _ hc ⟨.int (g i j),H,I.tok _,⟨_,rfl⟩,q⟩
theorem KS {f:Value->Value->Sem Value}{g:Int->Int->Int}
  (rule : ∀ (i j:Int) (t u:Tok) (s:Shared) (Q:Value->Shared->Prop) (E:Value->Shared->Prop),Q (.int (g i j) s.toks) { s with toks:=s.toks+1 }->aH (model X.prog X.w) X.A (f (.int i t) (.int j u)) Q E s) :
  OpR X f (rI0 fun i j => .int (g i j)):=by
 intro pins s σ H x y v u Q I rx ry h
 obtain⟨i,j,rfl,rfl,q⟩:=h
 obtain⟨t,rfl⟩:=rx
 obtain⟨t',rfl⟩:=ry
 exact rule i j t t' s _ _ ⟨.int (g i j),H,I.tok _,⟨_,rfl⟩,q⟩
theorem E2 {f:Value->Value->Sem Value}{g:Int->Int->Bool}
  (rule : ∀ (i j:Int) (t u:Tok) (s:Shared) (Q:Value->Shared->Prop) (E:Value->Shared->Prop),Q (.bool (g i j)) s->aH (model X.prog X.w) X.A (f (.int i t) (.int j u)) Q E s) :
  OpR X f (rI0 fun i j => .bl (g i j)):=by
 intro pins s σ H x y v u Q I rx ry h
 obtain⟨i,j,rfl,rfl,q⟩:=h
 obtain⟨t,rfl⟩:=rx
 obtain⟨t',rfl⟩:=ry
 exact rule i j t t' s _ _ ⟨.bl (g i j),H,I,rfl,q⟩
noncomputable def M7 (i j:Int):Prop:=0 < j/\j < 1073741824
noncomputable def Mv (i j:Int):Prop:=0<=j/\j<=1000000/\i.natAbs < 2 ^ 64
noncomputable def F5 (i j:Int):Prop:=(-(2 ^ 64) < i/\i < 2 ^ 64)\/(-(2 ^ 64) < j/\j < 2 ^ 64)
theorem F5.ok {i j:Int} (h:F5 i j):IntMulOk i j:=by
 rcases h with⟨h1,h2⟩ | ⟨h1,h2⟩
 ·exact .of_left (intBits_le_64 h1 h2)
 ·exact .of_right (intBits_le_64 h1 h2)
theorem Jr:OpR X (binaryOp .Add) (rI0 fun i j => .int (i+j)):=KS fun _ _ _ _ _ _ _ q=>add_int q
theorem JF:OpR X (binaryOp .Sub) (rI0 fun i j => .int (i - j)):=KS fun _ _ _ _ _ _ _ q=>sub_int q
theorem Jy:OpR X (binaryOp .Mult) (rI F5 fun i j => .int (i*j)):=opI fun _ _ _ _ _ _ _ hc q=>mul_int q hc.ok
theorem FY:OpR X (binaryOp .FloorDiv) (rI M7 fun i j => .int (i / j)):=opI fun i j _ _ _ _ _ hc q=>by
 have h1:(0:Int) < j:=hc.1
 have h2:j < 1073741824:=hc.2
 exact floordiv_int (by omega) (by rw [Int.fdiv_eq_ediv_of_nonneg i (by omega)];exact q) (.inl (zh (by omega)))
theorem Ia:OpR X (binaryOp .Mod) (rI (fun _ j=>0 < j) fun i j => .int (i % j)):=opI fun i j _ _ _ _ _ hc q=>by
 have h1:(0:Int) < j:=hc
 exact mod_int' (by omega) (by rw [Int.fmod_eq_emod_of_nonneg i (by omega)];exact q)
theorem Jp:OpR X (binaryOp .Pow) (rI Mv fun i j => .int (i ^ j.toNat)):=opI fun _ _ _ _ _ _ _ hc q=>pow_int_small hc.1 hc.2.1 hc.2.2 q
theorem unI {f:Value->Sem Value}{g:Int->Int}
  (rule : ∀ (i:Int) (t:Tok) (s:Shared) (Q:Value->Shared->Prop) (E:Value->Shared->Prop),Q (.int (g i) s.toks) { s with toks:=s.toks+1 }->aH (model X.prog X.w) X.A (f (.int i t)) Q E s) :
  UnR X f (rU fun i => .int (g i)):=by
 intro pins s σ H x v Q I rx h
 obtain⟨i,rfl,q⟩:=h
 obtain⟨t,rfl⟩:=rx
 exact rule i t s _ _ ⟨.int (g i),H,I.tok _,⟨_,rfl⟩,q⟩
theorem JY:UnR X (unaryOp .USub) (rU fun i => .int (-i)):=unI fun _ _ _ _ _ q=>neg_int q
end
section
variable {X:Cx}{a b c:Expr}{ta tb tc:TE}{pos:Pos}
theorem K8:OpR X (compareOp .Lt) (rI0 fun i j => .bl (decide (i < j))):=E2 fun _ _ _ _ _ _ _ q=>lt_int q
theorem M4:OpR X (compareOp .LtE) (rI0 fun i j => .bl (decide (i<=j))):=E2 fun _ _ _ _ _ _ _ q=>le_int q
theorem Mq:OpR X (compareOp .Gt) (rI0 fun i j => .bl (decide (j < i))):=E2 fun _ _ _ _ _ _ _ q=>gt_int q
theorem LV:OpR X (compareOp .GtE) (rI0 fun i j => .bl (decide (j<=i))):=E2 fun _ _ _ _ _ _ _ q=>ge_int q
theorem OpR.or {f:Value->Value->Sem Value}{r r':R2} (h:OpR X f r) (h':OpR X f r'):OpR X f (fun x y H Q=>r x y H Q\/r' x y H Q):=by
 intro pins s σ H x y v u Q I rx ry q
 rcases q with q | q
 ·exact h pins s σ H x y v u Q I rx ry q
 ·exact h' pins s σ H x y v u Q I rx ry q
theorem Gv {op:CmpOp}{r:R2} (ho:OpR X (compareOp op) r) (ha:PE X a ta) (hb:PE X b tb) (hm:behindInMarks op b=false):PE X (.Compare a [op] [b] pos) (tOp r ta tb):=by
 intro pins s σ H Q I h
 exact wpAny_Compare1 (Ir ha hb I h fun v u s2 x y H2 I2 rx ry q=>ho pins s2 σ H2 x y v u Q I2 rx ry q) hm
noncomputable def B5 (t:TE):TT:=fun σ H Q=>t σ H fun x H' => ∃ k,x = .bl k/\Q k H'
theorem Fi {op:CmpOp}{r:R2} (ho:OpR X (compareOp op) r) (ha:PE X a ta) (hb:PE X b tb) (hm:behindInMarks op b=false):PT X (.Compare a [op] [b] pos) (B5 (tOp r ta tb)):=by
 intro pins s σ H Q I h
 refine wpAny_isTrue_Compare1 (thn (ha pins s σ H _ I h) fun v s1 ⟨x,H1,I1,r1,q1⟩=>thn (hb pins s1 σ H1 _ I1 q1) fun u s2 ⟨y,H2,I2,r2,q2⟩=>
  thn (ho pins s2 σ H2 x y v u _ I2 r1 r2 q2) fun c s3 ⟨z,H3,I3,r3,k,e,q3⟩ => ?_) hm
 subst e
 cases r3
 exact dr ⟨H3,I3,q3⟩
noncomputable def yB (r r':R2) (ta tb tc:TE):TE:=fun σ H Q=>ta σ H fun x H1=>tb σ H1 fun y H2=>r x y H2 fun z H3 => ∃ k,z = .bl k /\
 (if k=true then tc σ H3 fun w' H4=>r' y w' H4 Q else Q (.bl false) H3)
theorem BN {op op':CmpOp}{r r':R2} (ho:OpR X (compareOp op) r) (ho':OpR X (compareOp op') r') (ha:PE X a ta) (hb:PE X b tb) (hc:PE X c tc)
  (hm:lastMarks [op,op'] [b,c]=false:=by with_unfolding_all rfl):PE X (.Compare a [op,op'] [b,c] pos) (yB r r' ta tb tc):=by
 intro pins s σ H Q I h
 refine Compare_chain (thn (ha pins s σ H _ I h) fun v s1 ⟨x,H1,I1,r1,q1⟩=>chain_link (thn (hb pins s1 σ H1 _ I1 q1) fun u s2 ⟨y,H2,I2,r2,q2⟩=>
  thn (ho pins s2 σ H2 x y v u _ I2 r1 r2 q2) fun d s3 ⟨z,H3,I3,r3,k,e,q3⟩ => ?_)) hm
 subst e
 cases r3
 refine dr ?_
 cases k with
 | false=>exact ite_ff ⟨.bl false,H3,I3,rfl,q3⟩
 | true=>exact ite_tt (chain_last (thn (hc pins s3 σ H3 _ I3 q3) fun w' s4 ⟨z',H4,I4,r4,q4⟩=>ho' pins s4 σ H4 y z' u w' Q I4 r2 r4 q4))
theorem Ef {op op':CmpOp}{r r':R2} (ho:OpR X (compareOp op) r) (ho':OpR X (compareOp op') r') (ha:PE X a ta) (hb:PE X b tb) (hc:PE X c tc)
  (hm:lastMarks [op,op'] [b,c]=false:=by with_unfolding_all rfl):PT X (.Compare a [op,op'] [b,c] pos) (B5 (yB r r' ta tb tc)):=by
 intro pins s σ H Q I h
 refine isTrue_chain (thn (ha pins s σ H _ I h) fun v s1 ⟨x,H1,I1,r1,q1⟩=>test_link (thn (hb pins s1 σ H1 _ I1 q1) fun u s2 ⟨y,H2,I2,r2,q2⟩=>
  thn (ho pins s2 σ H2 x y v u _ I2 r1 r2 q2) fun d s3 ⟨z,H3,I3,r3,k,e,q3⟩ => ?_)) hm
 subst e
 cases r3
 refine dr ?_
 cases k with
 | false=>
   obtain⟨k',e',q'⟩:=q3
   cases e'
   exact ite_ff ⟨H3,I3,q'⟩
 | true=>
   refine ite_tt (test_last (thn (hc pins s3 σ H3 _ I3 q3) fun w' s4 ⟨z',H4,I4,r4,q4⟩=>thn (ho' pins s4 σ H4 y z' u w' _ I4 r2 r4 q4) fun d' s5 ⟨z2,H5,I5,r5,k2,e2,q5⟩ => ?_))
   subst e2
   cases r5
   exact dr ⟨H5,I5,q5⟩
theorem qI:(sizeLine:Nat) < 2 ^ 63:=by rw [sizeLine_eq];decide
theorem vals1 {x:V}{us:List Value} (r:cu [x] us) : ∃ u,us = [u]/\RelV x u:=by
 cases r with
 | cons r1 r2=>cases r2;exact⟨_,rfl,r1⟩
theorem vals2 {x y:V}{us:List Value} (r:cu [x,y] us) : ∃ u w',us = [u,w']/\RelV x u/\RelV y w':=by
 cases r with
 | cons r1 r2=>
   cases r2 with
   | cons r3 r4=>cases r4;exact⟨_,_,rfl,r1,r3⟩
theorem AZ (hc:X.calm=true):gQ X (.builtin "max") (fun xs H Q => ∃ i j,xs = [.int i,.int j]/\Q (.int (if j > i then j else i)) H):=by
 intro pins s σ H xs us Q I r h
 obtain⟨i,j,rfl,q⟩:=h
 obtain⟨u,w',rfl,⟨t,rfl⟩,⟨t',rfl⟩⟩:=vals2 r
 refine max_two_ints (I.ok.hd hc) fun h' tk k=>⟨_,H,I.kept k,?_,q⟩
 by_cases hj:j > i
 ·rw [if_pos hj,if_pos hj];exact⟨_,rfl⟩
 ·rw [if_neg hj,if_neg hj];exact⟨_,rfl⟩
theorem Bc (hc:X.calm=true):gQ X (.builtin "min") (fun xs H Q => ∃ i j,xs = [.int i,.int j]/\Q (.int (if j < i then j else i)) H):=by
 intro pins s σ H xs us Q I r h
 obtain⟨i,j,rfl,q⟩:=h
 obtain⟨u,w',rfl,⟨t,rfl⟩,⟨t',rfl⟩⟩:=vals2 r
 refine min_two_ints (I.ok.hd hc) fun h' tk k=>⟨_,H,I.kept k,?_,q⟩
 by_cases hj:j < i
 ·rw [if_pos hj,if_pos hj];exact⟨_,rfl⟩
 ·rw [if_neg hj,if_neg hj];exact⟨_,rfl⟩
end
end _L
namespace _L
open PySem PySem.Spec PyProof.Rows
structure IY (h:Heap) (x dx C:Addr) (mA:Str->Option Value):Prop where
 obj:h.get? x=some (tw C dx)
 ns:h.Ns1 dx mA
 ne:dx≠x
theorem Bh {h:Heap}{dx:Addr}{mA:Str->Option Value} (n:h.Ns1 dx mA) : ∃ od,h.get? dx=some od /\ ∀ name,vR name od=some (mA name):=by
 obtain⟨o,es,ep,ho,hd,hk,_,hm⟩:=n
 refine⟨o,ho,fun name => ?_⟩
 have e:=hm name
 unfold nsFind findBy at e
 rw [<- Array.find?_toList] at e
 unfold vR
 rw [hd]
 dsimp only
 split
 ·rename_i y q
  rw [q] at e
  exact congrArg some e
 ·rename_i q
  rw [q] at e
  have a:es.toList.any (·.refKey)=false:=by
   rw [List.any_eq_false]
   intro y hy
   obtain⟨z,t,hkey⟩:=hk y (Array.mem_toList_iff.mp hy)
   simp [DictEntry.refKey,hkey]
  have a' : ¬ es.toList.any (·.refKey)=true:=by rw [a];exact bM
  rw [if_neg a']
  exact congrArg some e
theorem IY.look {h:Heap}{x dx C:Addr}{mA:Str->Option Value} (I:IY h x dx C mA) : ∃ od,PySem.W.InstAt h x (tw C dx) C (some od) /\ ∀ name,vR name od=some (mA name):=
 let ⟨od,ho,hl⟩:=Bh I.ns
 ⟨od,⟨I.obj,rfl,rfl,ho⟩,hl⟩
section
variable {prog:Program}{w:World}{A:Around}{E:Value->Shared->Prop}{s:Shared}{K:ak}{x dx C f:Addr}{mA:Str->Option Value}{name:Str}{v:Value}
end
theorem qT.some_of {v:V}{o:Option Value} (r:qT (some v) o) : ∃ u,o=some u/\RelV v u:=by
 cases o with
 | none=>exact (show False from r).elim
 | some u=>exact⟨u,rfl,r⟩
section
variable {P:Program}{w:World}{H H':Hp}{h h':Heap}{a C dx:Addr}{fs fs':List (Str×V)}
theorem FK (hok:HOk P w H h) (e:H a=some (.ins C dx fs)) : ∃ mA,IY h a dx C mA/\(∀ f,qT (fs.lookup f) (mA f))/\PySem.Within mA (fs.map (·.1))/\fs.length<=1000/\H dx=some (.own a):=by
 obtain⟨d,z,ne,ob,mA,n,r,q⟩:=(show d6 P w H h a (.ins C dx fs) from hok a _ e)
 exact⟨mA,⟨ob,n,ne⟩,r,q,z,d⟩
end
structure Cls (K:ak) (C:Addr):Prop where
 pg:PySem.W.plainGet K C Str.empty=true
 hd:PySem.W.hasDictIn K C=true
 po:PySem.W.plainOver K C=true
 sa:j6 K (.ref C) "__setattr__"=some (some (.builtin "object.__setattr__"))
theorem Cls.get {K:ak}{C:Addr} (c:Cls K C) (f:Str):PySem.W.plainGet K C f=true:=c.pg
structure Con (K:ak) (C:Addr) (f:Str) (v:V) (u:Value):Prop where
 at_:j6 K (.ref C) f=some (some u)
 rel:RelV v u
 get:Et K u "__get__"=some none
 cp:PySem.W.copiedNames.contains f=false
structure N4 (K:ak) (C:Addr) (m:Str) (f:Addr):Prop where
 at_:j6 K (.ref C) m=some (some (.ref f))
 fn:PySem.W.isFn K (.ref f)=true
 kp:cj K (.ref f)=true
section
variable {X:Cx}{pins:List (Addr×Obj)}{σ:St}{H:Hp}{s:Shared}{a C dx:Addr}{fs:List (Str×V)}{f:Str}{v:V}{A:Around}{E:Value->Shared->Prop}
end
section
variable {X:Cx}{o e value:Expr}{f:Str}{pos pos' tpos:Pos}{ta tv:TE}
end
section
variable {X:Cx}{pins:List (Addr×Obj)}{σ:St}{H:Hp}{s:Shared}{A:Around}{E:Value->Shared->Prop}{Q:Value->Shared->Prop}{c:Value}{b:Bool}
inductive nO (K:ak) (H:Hp):V->Value->Prop where
 | non:nO K H .non (.type "NoneType")
 | bl (x:Bool):nO K H (.bl x) (.type "bool")
 | int (i:Int):nO K H (.int i) (.type "int")
 | str (x:Str):nO K H (.str x) (.type "str")
 | flt (x:UInt64):nO K H (.flt x) (.type "float")
 | lst {a:Addr}{xs:List V} (e:H a=some (.lst xs)):nO K H (.ref a) (.type "list")
 | frz {a:Addr}{o:Obj}{xs:List V} (e:H a=some (.frz o (.lst xs))):nO K H (.ref a) (.type "list")
 | tup {a:Addr}{xs:List V} (e:H a=some (.tup xs)):nO K H (.ref a) (.type "tuple")
 | dK {a:Addr}{kvs:List (Key×V)} (e:H a=some (.dK kvs)):nO K H (.ref a) (.type "dict")
 | dT {a:Addr}{kvs:List (List Key×V)} (e:H a=some (.dT kvs)):nO K H (.ref a) (.type "dict")
 | ins {a C dx:Addr}{fs:List (Str×V)} (e:H a=some (.ins C dx fs)) (cl:Cls K C) (ha:j6 K (.ref C) "__class__"=some (some (.builtin "object.__class__")))
   (hn:Et K (.builtin "object.__class__") "__get__"=some (some (.builtin "getset_descriptor.__get__"))) (htk:PySem.W.takesIn K (.builtin "object.__class__")=some true)
   (hm:PySem.W.mroIn K C (.type "object")=some true):nO K H (.ref a) (.ref C)
theorem Al {x:V}{u t:Value} (I:Inv X pins σ H s) (rx:RelV x u) (ty:nO X.K H x t) (e:PySem.W.kitOne X.K t c=some b) (h : ∀ tk,Q (.bool b) { s with toks:=tk }) :
  aH (model X.prog X.w) A (call (.builtin "isinstance") [u,c]) Q E s:=by
 cases ty with
 | non=>cases (show u=fH from rx);exact dk PySem.W.kitx_none I.kIn fJ e (fun z=>nomatch z) h
 | bl y=>cases (show u=xQ y from rx);exact dk PySem.W.kitx_bool I.kIn fJ e (fun z=>nomatch z) h
 | int i=>obtain⟨t,q⟩:=(show ∃ t,u=my i t from rx);cases q;exact dk PySem.W.kitx_int I.kIn fJ e (fun z=>nomatch z) h
 | str y=>obtain⟨t,q⟩:=(show ∃ t,u=tu y t from rx);cases q;exact dk PySem.W.kitx_str I.kIn fJ e (fun z=>nomatch z) h
 | flt y=>obtain⟨t,q⟩:=(show ∃ t,u=Value.float y t from rx);cases q;exact dk PySem.W.kitx_float I.kIn fJ e (fun z=>nomatch z) h
 | @lst a xs ea=>
   cases (show u=bp a from rx)
   obtain⟨_,_,n,_,h1⟩:=(show d6 X.prog X.w H s.heap a (.lst xs) from I.hok a _ ea)
   exact dk Eu I.kIn ⟨_,h1,rfl⟩ e (fun z=>nomatch z) h
 | @frz a ob xs ea=>
   cases (show u=bp a from rx)
   obtain⟨_,_,_,n,_,h1⟩:=(show d6 X.prog X.w H s.heap a (.frz ob (.lst xs)) from I.hok a _ ea)
   exact dk Eu I.kIn ⟨_,h1,rfl⟩ e (fun z=>nomatch z) h
 | @tup a xs ea=>
   cases (show u=bp a from rx)
   obtain⟨_,_,_,p⟩:=(show d6 X.prog X.w H s.heap a (.tup xs) from I.hok a _ ea)
   obtain⟨o,h1,h2,_⟩:=p.1
   exact dk PySem.W.kitx_tuple I.kIn ⟨o,h1,h2⟩ e (fun z=>nomatch z) h
 | @dK a kvs ea=>
   cases (show u=bp a from rx)
   obtain⟨_,_,vs,_,p⟩:=(show d6 X.prog X.w H s.heap a (.dK kvs) from I.hok a _ ea)
   obtain⟨o,es,ep,h1,h2,_⟩:=p
   exact dk Ew I.kIn ⟨o,h1,h2.1⟩ e (fun z=>nomatch z) h
 | @dT a kvs ea=>
   cases (show u=bp a from rx)
   obtain⟨_,_,xs,_,o,es,ep,h1,h2,_⟩:=(show d6 X.prog X.w H s.heap a (.dT kvs) from I.hok a _ ea)
   exact dk Ew I.kIn ⟨o,h1,h2.1⟩ e (fun z=>nomatch z) h
 | @ins a C dx fs ea cl ha hn htk hm=>
   cases (show u=bp a from rx)
   obtain⟨mA,O,_⟩:=FK I.hok ea
   obtain⟨od,J,_⟩:=O.look
   exact dk (PySem.W.kitx_own (cl.get _) cl.hd ha hn htk hm) I.kIn J e (fun z=>nomatch z) h
end
end _L
namespace _L
open PySem PySem.Spec PyProof.Rows
structure kl (k:Nat) (A:Around):Prop where
 hd:A.handled=none
 dp:A.depth+3*k+5 < recursionLimit
 un:A.units+16*k+200 < cLine
 gu:A.guards=some []
theorem kl.mono {j k:Nat}{A:Around} (r:kl k A) (h:j<=k):kl j A:=⟨r.hd,by have:=r.dp;omega,by have:=r.un;omega,r.gu⟩
theorem kl.deeper {k:Nat}{A:Around} (r:kl (k+1) A) (env:Env):kl k (A.deeper env):=
 ⟨r.hd,by have:=r.dp;show A.depth+1+3*k+5 < _;omega,by have:=r.un;show A.units+3+16*k+200 < _;omega,r.gu⟩
theorem kl.depth {k:Nat}{A:Around} (r:kl k A):A.depth < recursionLimit:=by have:=r.dp;omega
theorem kl.units {k:Nat}{A:Around} (r:kl k A):A.units+64 < cLine:=by have:=r.un;omega
noncomputable def yv:TA:=fun _ H Q=>Q [] H
noncomputable def rK (ta:TE) (tr:TA):TA:=fun σ H Q=>ta σ H fun x H1=>tr σ H1 fun xs H2=>Q (x::xs) H2
section
variable {X:Cx}{e:Expr}{es:List Expr}{te:TE}{t:TA}{pos:Pos}
theorem rJ:PA X [] yv:=fun _ _ _ _ H Q I h=>r9 ⟨[],H,I,.nil,h⟩
theorem mM (ha:PE X e te) (hr:PA X es t) (hs:autoParam (starEach (e::es) X.env=(false,eval e X.env)::starEach es X.env) au1._auto_1):PA X (e::es) (rK te t):=by
 intro pos pins s σ H Q I h
 rw [hs]
 show aH _ _ (spliced ((false,eval e X.env)::backTo pos (starEach es X.env))) _ _ s
 refine ku (thn (ha pins s σ H _ I h) fun u s1 ⟨x,H1,I1,r1,q1⟩ => ?_)
 exact thn (hr pos pins s1 σ H1 _ I1 q1) fun us s2 ⟨xs,H2,I2,r2,q2⟩=>⟨x::xs,H2,I2,.cons r1 r2,q2⟩
noncomputable def LO (t:TA):TE:=fun σ H Q=>t σ H fun xs H1=>xs.length<=sizeLine /\ ∀ p,H1 p=none->Q (.ref p) (upd H1 p (.tup xs))
noncomputable def Lh (t:TA):TE:=fun σ H Q=>t σ H fun xs H1=>xs.length<=sizeLine /\ ∀ p,H1 p=none->Q (.ref p) (upd H1 p (.lst xs))
theorem HE {x1} (h:PA X es t):PE X (.Tuple es x1 pos) (LO t):=by
 intro pins s σ H Q I hq
 refine wpAny_Tuple_spliced (thn (h pos pins s σ H _ I hq) fun us s1 ⟨xs,H1,I1,r,z,q⟩=>⟨by rw [<- r.length];exact z,?_⟩)
 have hf:H1 s1.heap.objs.size=none:=I1.hok.fresh (aj _)
 refine⟨.ref s1.heap.objs.size,upd H1 s1.heap.objs.size (.tup xs),I1.laid (t':=s1.toks) (fun b u e=>ah _ e) (aj _) ?_,rfl,q _ hf⟩
 exact⟨z,us,r,⟨_,ax _ rfl,rfl,_,rfl⟩,_,ax _ rfl,rfl⟩
theorem JM (h:PA X es t):PE X (.List es pos) (Lh t):=by
 intro pins s σ H Q I hq
 refine wpAny_List_spliced (thn (h pos pins s σ H _ I hq) fun us s1 ⟨xs,H1,I1,r,z,q⟩=>⟨by rw [<- r.length];exact z,?_⟩)
 have hf:H1 s1.heap.objs.size=none:=I1.hok.fresh (aj _)
 refine⟨.ref s1.heap.objs.size,upd H1 s1.heap.objs.size (.lst xs),I1.laid (t':=s1.toks) (fun b u e=>ah _ e) (aj _) ?_,rfl,q _ hf⟩
 exact⟨z,us,0,r,ax _ rfl⟩
end
abbrev Sp:=List V->Hp->VK->XK->Prop
abbrev CXT:=List Env->Hp->Shared->XK->Value->Shared->Prop
structure AC (P:Program) (w:World) (K:ak) (mg:Str->Option Value) (base:Heap) (A:Around) (outer:List Env) (s:Shared) (H:Hp):Prop where
 frames:A.frames=some outer
 mod:Mod K mg base
 bs : ∀ b o,base.get? b=some o->s.heap.get? b=some o/\H b=none
 bsz:base.objs.size<=s.heap.objs.size
 funs:s.heap.FunFrames base outer
 frf : ∀ b∈frs outer,H b=none
 hok:HOk P w H s.heap
 bare:AllBare s.gens
noncomputable def CE (outer:List Env) (P:Program) (w:World) (H:Hp) (s:Shared) (Q:VK) (u:Value) (s':Shared):Prop:=
 ∃ v H',s'.os=s.os/\AllBare s'.gens/\Un (frs outer) [] H H' s.heap s'.heap/\HOk P w H' s'.heap/\RelV v u/\Q v H'
noncomputable def CR (CX:CXT) (outer:List Env) (P:Program) (w:World) (H:Hp) (s:Shared) (Q:VK) (E:XK) (r:Result) (s':Shared):Prop:=
 match r with
 | .ok (.ret u)=>CE outer P w H s Q u s'
 | .ok _=>False
 | .error e=>CX outer H s E e s'
structure ki (P:Program) (w:World) (K:ak) (mg:Str->Option Value) (base:Heap) (CX:CXT) (k:Nat) (f:Addr) (fd:FuncData) (ps:List Str) (sp:Sp):Prop where
 len : ∀ vs H Q E,sp vs H Q E->vs.length=ps.length
 run : ∀ (A:Around) (outer:List Env) (s:Shared) (H:Hp) (args:Args) (us:List Value) (vs:List V) (Q:VK) (E:XK),kl k A->AC P w K mg base A outer s H->BindsTo s fd args (ps.zip us)->cu vs us->sp vs H Q E ->
  nz (model P w) A (.call (.ref f) args) (CR CX outer P w H s Q E) s
section
variable {X:Cx}{pins:List (Addr×Obj)}{σ:St}{H:Hp}{s s':Shared}
theorem Inv.env0 (I:Inv X pins σ H s):AC X.prog X.w X.K X.mg X.base X.A X.stack s H:=
 ⟨I.ok.frames,I.ok.mod,I.bs,aL I.ok.bsz I.sz,I.stack,I.stkFree,I.hok,I.bare⟩
theorem Inv.after {Q:VK}{u:Value} (I:Inv X pins σ H s) (h:CE X.stack X.prog X.w H s Q u s'):EP X pins σ Q u s':=by
 obtain⟨v,H',os,bare,un,hok,r,q⟩:=h
 obtain⟨hh,g,d,t,os'⟩:=s'
 obtain rfl:os'=s.os:=os
 exact⟨v,H',I.call (h':=hh) (g':=g) (d':=d) (t':=t) (ch := []) un hok bare (fun b z=>absurd z (by simp)),r,q⟩
end
noncomputable def zX (sp:Sp) (dvs:List V) (E:XK) (t:TA):TE:=fun σ H Q=>t σ H fun vs H1=>sp (vs++dvs) H1 Q E
noncomputable def Binds (K:ak) (fd:FuncData) (ps:List Str) (ds:List Value):Prop:=
 ∀ (s:Shared) (us:List Value),K.In s.heap->(us++ds).length=ps.length->BindsTo s fd ⟨us,[]⟩ (ps.zip (us++ds))
theorem Binds.all {K:ak}{fd:FuncData}{ps:List Str} (h : ∀ us:List Value,us.length=ps.length->bindArgs fd ⟨us,[]⟩=pure (ps.zip us)):Binds K fd ps []:=fun s us _ hl=>by
 rw [ij] at hl ⊢
 exact .of_eq (h us hl)
noncomputable def uT (CX:CXT) (X:Cx) (E:XK):Prop := ∀ (pins:List (Addr×Obj)) (σ:St) (H:Hp) (s:Shared) (e:Value) (s':Shared),Inv X pins σ H s->CX X.stack H s E e s'->X.xe e s'
section
variable {X:Cx}{CX:CXT}{k:Nat}{f C:Addr}{fd:FuncData}{ps:List Str}{sp:Sp}{dvs:List V}{ds:List Value}{E:XK}{x m:Str}{p pos apos:Pos}{e o:Expr}{es:List Expr}{ta:TE}{t:TA}
theorem uX {pins:List (Addr×Obj)}{σ:St}{H:Hp}{s:Shared}{Q:VK}{us:List Value}{vs:List V} (F:ki X.prog X.w X.K X.mg X.base CX k f fd ps sp) (hr:kl k X.A) (hb:Binds X.K fd ps ds) (hd:cu dvs ds) (hx:uT CX X E)
  (I:Inv X pins σ H s) (r:cu vs us) (h:sp (vs++dvs) H Q E):aH (model X.prog X.w) X.A (call (.ref f) us) (EP X pins σ Q) X.xe s:=by
 have r2:cu (vs++dvs) (us++ds):=r.append hd
 have hl:(us++ds).length=ps.length:=by rw [<- r2.length];exact F.len _ _ _ _ h
 refine wpAny_call (il (F.run X.A X.stack s H ⟨us,[]⟩ (us++ds) (vs++dvs) Q E hr I.env0 (hb s us I.kIn hl) r2 h) fun r s' hq => ?_)
 cases r with
 | error e=>exact hx pins σ H s e s' I hq
 | ok fl=>
   cases fl with
   | ret u=>exact I.after hq
   | next=>exact cR hq
   | brk=>exact cR hq
   | cont=>exact cR hq
theorem FR (F:ki X.prog X.w X.K X.mg X.base CX k f fd ps sp) (hr:kl k X.A) (hg:Gl X x) (hm:X.mg x=some (.ref f)) (hk:cj X.K (.ref f)=true) (hb:Binds X.K fd ps ds) (hd:cu dvs ds) (hx:uT CX X E)
  (ha:PA X (e::es) t) (hdb:autoParam ((x == ("__debug__":Str))=false) au2._auto_1) (he:autoParam (starEach (e::es) X.env=(false,eval e X.env)::starEach es X.env) au1._auto_1) (hpl:autoParam ((backTo pos (starEach es X.env)).any (·.1)=false) au1._auto_1) :
  PE X (.Call (.Name x p) (e::es) [] pos) (zX sp dvs E t):=by
 intro pins s σ H Q I h
 refine dW (qi I hg hm ?_ hdb)
 refine pD (h₀:=X.base) I.ok.mod.kin hk (thn (ha pos pins s σ H _ I h) fun us s1 ⟨vs,H1,I1,r,q⟩=>⟨I1.kIn,?_⟩) he hpl
 exact uX F hr hb hd hx I1 r q
theorem CH (F:ki X.prog X.w X.K X.mg X.base CX k f fd ps sp) (hr:kl k X.A) (hg:Gl X x) (hm:X.mg x=some (.ref f)) (hk:cj X.K (.ref f)=true) (hb:Binds X.K fd ps ds) (hd:cu dvs ds) (hx:uT CX X E)
  (hdb:autoParam ((x == ("__debug__":Str))=false) au2._auto_1):PE X (.Call (.Name x p) [] [] pos) (zX sp dvs E yv):=by
 intro pins s σ H Q I h
 refine dW (qi I hg hm ?_ hdb)
 exact PySem.W.callWith_K0 I.kIn hk (uX (us := []) F hr hb hd hx I .nil h)
structure Mk (K:ak) (C f:Addr):Prop where
 makes:PySem.W.makesIn K C=true
 init:j6 K (.ref C) "__init__"=some (some (.ref f))
 fn:PySem.W.isFn K (.ref f)=true
 kp:cj K (.ref C)=true
end
section
variable {X:Cx}{CX:CXT}{k:Nat}{f C:Addr}{fd:FuncData}{ps ks:List Str}{sp:Sp}{E:XK}{x m:Str}{p pos apos kpos:Pos}{e o:Expr}{es:List Expr}{kws:List Keyword}{te ta:TE}{t tk:TA}{nm:Option Str}
structure Nh (K:ak) (fd:FuncData) (ps ks:List Str) (g:List Value->List Value->List Value) (gV:List V->List V->List V):Prop where
 to : ∀ (s:Shared) (us ws:List Value),K.In s.heap->(g us ws).length=ps.length->BindsTo s fd ⟨us,ks.zip ws⟩ (ps.zip (g us ws))
 rel : ∀ {vs:List V}{us:List Value}{zs:List V}{ws:List Value},cu vs us->cu zs ws->cu (gV vs zs) (g us ws)
variable {g:List Value->List Value->List Value}{gV:List V->List V->List V}
end
structure bx (N P:List Str) (sc:Scope):Prop where
 kind:sc.kind = .function
 co:sc.isCoroutine=false
 gen:sc.isGenerator=false
 nd:N.Nodup
 pre:N.take P.length=P
 par : ∀ x∈P,sc.names.lookup x=some .local\/sc.names.lookup x=some .cell
 nofree : ∀ y∈sc.names,y.2 ≠ .free
theorem uk {kindOf:Str->Option NameKind}{x:Str} : ∀ {binds:List (Str×Value)}{m:Str->Option Value},(∀ v,(x,v)∉binds)->bindL kindOf binds m x=m x
 | [],_,_=>rfl
 | (n,v)::r,m,h=>by
   unfold bindL
   rw [uk fun w hw=>h w (aD _ hw)]
   split
   ·have:x≠n:=by rintro rfl;exact h v br
    simp [this]
   ·rfl
theorem uh {kindOf:Str->Option NameKind}{x:Str} : ∀ {binds:List (Str×Value)}{m:Str->Option Value},(∀ v,(x,v)∉binds)->bindC kindOf binds m x=m x
 | [],_,_=>rfl
 | (n,v)::r,m,h=>by
   unfold bindC
   rw [uh fun w hw=>h w (aD _ hw)]
   split
   ·rfl
   ·have:x≠n:=by rintro rfl;exact h v br
    simp [this]
theorem pd {kindOf:Str->Option NameKind}{x:Str}{v:Value} : ∀ {P:List Str}{vs:List Value}{i:Nat}{m:Str->Option Value},P.Nodup->P[i]? = some x->vs[i]? = some v->kindOf x=some .local ->
  bindL kindOf (P.zip vs) m x=some v
 | [],_,_,_,_,h,_,_=>by simp at h
 | _::_,[],_,_,_,_,h,_=>by simp at h
 | p::P,w::vs,0,m,nd,h1,h2,hk=>by
   simp at h1 h2;subst h1;subst h2
   show bindL kindOf ((p,w)::P.zip vs) m p=_
   unfold bindL
   rw [uk fun v hv=>(ip.mp nd).1 (nU hv).1,if_pos hk]
   simp
 | p::P,w::vs,i+1,m,nd,h1,h2,hk=>by
   show bindL kindOf ((p,w)::P.zip vs) m x=_
   unfold bindL
   exact pd (i:=i) (ip.mp nd).2 (by simpa using h1) (by simpa using h2) hk
theorem pj {kindOf:Str->Option NameKind}{x:Str}{v:Value} : ∀ {P:List Str}{vs:List Value}{i:Nat}{m:Str->Option Value},P.Nodup->P[i]? = some x->vs[i]? = some v->kindOf x≠some .local ->
  bindC kindOf (P.zip vs) m x=some v
 | [],_,_,_,_,h,_,_=>by simp at h
 | _::_,[],_,_,_,_,h,_=>by simp at h
 | p::P,w::vs,0,m,nd,h1,h2,hk=>by
   simp at h1 h2;subst h1;subst h2
   show bindC kindOf ((p,w)::P.zip vs) m p=_
   unfold bindC
   rw [uh fun v hv=>(ip.mp nd).1 (nU hv).1,if_neg hk]
   simp
 | p::P,w::vs,i+1,m,nd,h1,h2,hk=>by
   show bindC kindOf ((p,w)::P.zip vs) m x=_
   unfold bindC
   exact pj (i:=i) (ip.mp nd).2 (by simpa using h1) (by simpa using h2) hk
noncomputable def start (N:List Str) (vs:List V):St:=vs.map some++aU (N.length - vs.length) none
noncomputable def yA (CX:CXT) (P:Program) (w:World) (K:ak) (mg:Str->Option Value) (base:Heap) (N:List Str) (qual:Str) (scope:Scope) (f:Addr) (cd:Value) (A:Around) (outer:List Env) (s:Shared) (H:Hp) (E:XK):Cx where
 prog:=P
 w:=w
 K:=K
 mg:=mg
 base:=base
 A:=A.deeper (envOfC qual scope s.heap.objs.size f cd)
 N:=N
 s₀:=s
 H₀:=H
 env:=envOfC qual scope s.heap.objs.size f cd
 outer:=outer
 stack:=envOfC qual scope s.heap.objs.size f cd::outer
 ex := []
 calm:=true
 fn:=fun _=>true
 pn := []
 xe:=fun e s'=>aH (model P w) (A.deeper (envOfC qual scope s.heap.objs.size f cd)) (leaving (envOfC qual scope s.heap.objs.size f cd) e) (fun _ s''=>CX outer H s E e s'') (fun e' s''=>CX outer H s E e' s'') s'
theorem ji {sc:Scope}{n:Nat}{x:Str} (h:sc.names.lookup x=some .cell) : ∃ c,(cellsFrom n sc.names []).lookup x=some c:=by
 have q:=iF sc.names n [] (.inl h)
 exact gZ.mp q
theorem Az {CX:CXT}{P:Program}{w:World}{K:ak}{mg:Str->Option Value}{base:Heap}{N ps:List Str}{qual:Str}{scope:Scope}{f:Addr}{cd:Value}{A:Around}{outer:List Env}{s s1:Shared}{H:Hp}{E:XK}{us:List Value}{vs:List V}
  (S:bx N ps scope) (hd:A.handled=none) (e0:AC P w K mg base A outer s H) (hl:vs.length=ps.length) (r:cu vs us)
  (x:InCallC s s.heap.objs.size (bindL (envOfC qual scope s.heap.objs.size f cd).kindOf (ps.zip us) fun _=>none) (cellsFrom (s.heap.objs.size+1) scope.names []) (bindC (envOfC qual scope s.heap.objs.size f cd).kindOf (ps.zip us) fun _=>none) s1) :
  Inv (yA CX P w K mg base N qual scope f cd A outer s H E) [] (start N vs) H s1:=by
 have hpl:ps.length<=N.length:=by have:=congrArg Ey S.pre;rw [mS] at this;omega
 obtain⟨h1,tk,rfl,hk⟩:=x.done
 have noA : ∀ b:Addr,b∉(yA CX P w K mg base N qual scope f cd A outer s H E).ex:=fun b z=>absurd (show b∈([]:List Addr) from z) (by simp)
 refine⟨⟨e0.mod,S.kind,rfl,rfl,aj _,fun y z c h1 h2 => ?_,fun y hy => ?_,fun y c _ h => ?_,fun _=>hd,BF e0.frames,.inr ⟨rfl,rfl⟩,fun b z=>absurd z (noA b),e0.bs,e0.bsz,fun b _ _=>noA b,fun b z=>absurd z (noA b),e0.funs,e0.frf⟩,
  rfl,e0.bare,Un.kept hk,⟨_,x.toInCall.ns,fun i y v h1 h2 h3 => ?_⟩,fun y c h=>⟨_,x.cell y c h⟩,e0.hok.fresh (aj _),fun y c h => ?_,fun p hp=>absurd (show p∈([]:List (Addr×Obj)) from hp) (by simp),e0.hok.kept hk,?_⟩
 ·exact name_of_addr x.apart (bY h1) (bY h2)
 ·have hy:scope.names.lookup y=some .cell\/scope.names.lookup y=some .free:=hy
  rcases hy with hy | hy
  ·exact ji hy
  ·exact absurd rfl (S.nofree _ (bY hy))
 ·exact aQ (x.above y c (bY h))
 ·have hi:i < vs.length:=by
   unfold start at h2
   by_cases hi:i < vs.length
   ·exact hi
   ·rw [aA (by simpa using hi)] at h2
    rw [iG] at h2
    split at h2 <;> cases h2
  have ha:vs[i]? = some v:=by
   unfold start at h2
   rw [aR (by simpa using hi),bg] at h2
   cases e:vs[i]? with
   | none=>rw [e] at h2;cases h2
   | some a=>rw [e] at h2;cases h2;rfl
  obtain⟨u,hu,rv⟩:=r.get ha
  have hp:ps[i]? = some y:=by
   rw [<- S.pre,List.getElem?_take_of_lt (by omega)];exact h1
  have ndP:ps.Nodup:=by rw [<- S.pre];exact S.nd.sublist (List.take_sublist _ _)
  refine⟨u,rv,?_⟩
  rcases S.par y (dz hp) with k | k
  ·exact .inl ⟨k,pd ndP hp hu k⟩
  ·obtain⟨c,e⟩:=ji (n:=s.heap.objs.size+1) k
   refine .inr ⟨.inl k,c,e,?_⟩
   have q:=x.cell y c e
   rw [pj ndP hp hu (by show scope.names.lookup y≠_;rw [k];decide)] at q
   exact q
 ·exact e0.hok.fresh (aQ (x.above y c (bY h)))
 ·unfold start
  show _=N.length
  rw [aX,aw,n8]
  omega
theorem zJ {CX:CXT}{P:Program}{w:World}{K:ak}{mg:Str->Option Value}{base:Heap}{k:Nat}{f:Addr}{name qual:Str}{params:Arguments}{body:List Stmt}{scope:Scope}{dV kV doc pm cdv ct oc:Value}{an od:Option Addr}
  {osl:Array (Option Value)}{N ps:List Str}{sp:Sp} (lk:K.lookup f=some ⟨oc,od,.func (cH name qual params body scope dV kV doc pm an cdv ct),osl⟩) (hcd:gc K cdv qual=true) (S:bx N ps scope)
  (len : ∀ vs H Q E,sp vs H Q E->vs.length=ps.length)
  (hbody : ∀ (A:Around) (outer:List Env) (s:Shared) (H:Hp) (vs:List V) (Q:VK) (E:XK),kl k (A.deeper (envOfC qual scope s.heap.objs.size f cdv))->sp vs H Q E ->
   ∃ t,PSs (yA CX P w K mg base N qual scope f cdv A outer s H E) body t/\t { nx:=fun _ H'=>Q .non H',rt:=Q } (start N vs) H) :
  ki P w K mg base CX (k+1) f (cH name qual params body scope dV kV doc pm an cdv ct) ps sp:=by
 refine⟨len,fun A outer s H args us vs Q E hr e0 hb r hsp => ?_⟩
 have hl:=len _ _ _ _ hsp
 have KX:K.In s.heap:=e0.mod.kin.keeps fun b o e=>(e0.bs b o e).1
 have lim:s.heap.NoLimit:=e0.mod.nolimit.keeps fun b o e=>(e0.bs b o e).1
 have hkind : ∀ y∈ps.zip us,scope.names.lookup y.1=some .local\/(scope.names.lookup y.1=some .cell/\((cellsFrom (s.heap.objs.size+1) scope.names []).lookup y.1).isSome=true):=fun⟨n,v⟩ hy=>by
  rcases S.par n (nU hy).1 with q | q
  ·exact .inl q
  ·exact .inr ⟨q,iF _ _ _ (.inl q)⟩
 refine codeAny_call_function hr.depth (KX _ _ lk) rfl S.co S.gen rfl (PySem.W.codeRec_of KX hcd) (hb _ _ _ _ ?_)
 refine wpAny_newFunctionEnv_cells S.kind hkind fun env he s1 x => ?_
 subst he
 refine⟨lim.keeps x.toInCall.keep,codeAny_func ?_⟩
 obtain⟨t,ht,hq⟩:=hbody A outer s H vs Q E (hr.deeper _) hsp
 have I:Inv (yA CX P w K mg base N qual scope f cdv A outer s H E) [] (start N vs) H s1:=Az S hr.hd e0 hl r x
 refine da (ht [] s1 (start N vs) H _ I hq) (fun fl s' hs => ?_) fun e s' hs=>hs
 have fin : ∀ {σ':St}{H':Hp}{v:V}{u:Value},Inv (yA CX P w K mg base N qual scope f cdv A outer s H E) [] σ' H' s'->RelV v u->Q v H'->CE outer P w H s Q u s':=
  fun {σ' H' v u} J rv q=>⟨v,H',J.os,J.bare,J.base,J.hok,rv,q⟩
 cases fl with
 | ret u=>
   obtain⟨v,σ',H',J,rv,q⟩:=hs
   exact fin J rv q
 | next=>
   obtain⟨σ',H',J,q⟩:=hs
   exact fin (v:=V.non) (u:=fH) J rfl q
 | brk=>
   obtain⟨_,_,_,q⟩:=hs
   exact cR q
 | cont=>
   obtain⟨_,_,_,q⟩:=hs
   exact cR q
end _L
namespace _L
open PySem PySem.Spec PyProof.Rows
section
variable {X:Cx}{x:Str}{p pos:Pos}{e:Expr}{es:List Expr}{t:TA}{id T:String}{r:List V->Hp->VK->Prop}
noncomputable def tCB (r:List V->Hp->VK->Prop) (t:TA):TE:=fun σ H Q=>t σ H fun vs H1=>r vs H1 Q
theorem jl (hc:gQ X (.builtin id) r) (hg:Gl X x) (hm:X.mg x=none) (hv:bootBuiltins x=some (.builtin id)) (ha:PA X (e::es) t) (hn:autoParam (x≠"__name__") au2._auto_1) (hdb:autoParam ((x == ("__debug__":Str))=false) au2._auto_1)
  (he:autoParam (starEach (e::es) X.env=(false,eval e X.env)::starEach es X.env) au1._auto_1) (hpl:autoParam ((backTo pos (starEach es X.env)).any (·.1)=false) au1._auto_1):PE X (.Call (.Name x p) (e::es) [] pos) (tCB r t):=by
 intro pins s σ H Q I h
 refine dW (je I hg hm hv ?_ hn hdb)
 exact o3 (thn (ha pos pins s σ H _ I h) fun us s1 ⟨vs,H1,I1,r1,q1⟩=>hc pins s1 σ H1 vs us Q I1 r1 q1) he hpl
theorem ke (hc:gQ X (.type T) r) (hg:Gl X x) (hm:X.mg x=none) (hv:bootBuiltins x=some (.type T)) (ha:PA X (e::es) t) (hn:autoParam (x≠"__name__") au2._auto_1) (hdb:autoParam ((x == ("__debug__":Str))=false) au2._auto_1)
  (he:autoParam (starEach (e::es) X.env=(false,eval e X.env)::starEach es X.env) au1._auto_1) (hpl:autoParam ((backTo pos (starEach es X.env)).any (·.1)=false) au1._auto_1):PE X (.Call (.Name x p) (e::es) [] pos) (tCB r t):=by
 intro pins s σ H Q I h
 refine dW (je I hg hm hv ?_ hn hdb)
 exact cb (thn (ha pos pins s σ H _ I h) fun us s1 ⟨vs,H1,I1,r1,q1⟩=>hc pins s1 σ H1 vs us Q I1 r1 q1) he hpl
end
end _L
namespace HT
open PySem PyProof.Rows
section
open PySem.SeqAt
open PySem.AutoSeq1 (wpAny_loadPart')
open PySem.MeetsSeq PySem.MeetsSeq2 PySem.MeetsSeq3
end
section
variable {prog:Program}{w:World}{A:Around}{E:Value->Shared->Prop}{s:Shared}
theorem cat_tup {t b:Addr}{vs ws:List Value}{Q:Value->Shared->Prop} (ht:IsTup s.heap t vs.toArray) (hb:IsTup s.heap b ws.toArray) (hv:vs ≠ [])
  (h1:ws = []->Q (.ref t) s) (h2:ws ≠ []->Q (.ref s.heap.objs.size) { s with heap:=s.heap.push { cls := .type "tuple",data := .seq (vs++ws).toArray } })
  (hsz:vs.length+ws.length<=sizeLine):aH (model prog w) A (binaryOp .Add (.ref t) (.ref b)) Q E s:=by
 obtain⟨⟨cls,dd,data,sl⟩,ho,hc,n,hd⟩:=id ht
 obtain⟨⟨cls2,dd2,data2,sl2⟩,ho2,hc2,n2,hd2⟩:=id hb
 simp only at hc hd hc2 hd2
 subst hc hd hc2 hd2
 have e:vs.toArray++ws.toArray=(vs++ws).toArray:=by simp
 by_cases hw:ws = []
 ·exact concat_meets ⟨_,ho,rfl⟩ ⟨_,ho2,rfl⟩ noFill_tuple_add seq_tuple_add mz lB (kP _ _)
   (tuple_addW1 t b vs.toArray ws.toArray n n2 dd dd2 sl sl2 (by simpa using hv) (by simp [hw])) ⟨ho,ho2,h1 hw⟩
 ·refine concat_meets ⟨_,ho,rfl⟩ ⟨_,ho2,rfl⟩ noFill_tuple_add seq_tuple_add mz lB (kP _ _)
   (tuple_addW2 t b vs.toArray ws.toArray n n2 dd dd2 sl sl2 (by simpa using hv) (by simpa using hw) (by rw [aF,aF];exact hsz)) ⟨ho,ho2,?_⟩
  rw [e]
  exact h2 hw
end
end HT
namespace _L
open PySem PySem.Spec PyProof.Rows
abbrev TO:=St->Hp->(Option Int->Hp->Prop)->Prop
section
variable {X:Cx}{e:Expr}{te:TE}{lo hi:Option Expr}{tl th:TO}{pos p2:Pos}
noncomputable def Hr (K:ak):R2:=fun x y H Q => ∃ a b xs ys,x = .ref a/\y = .ref b/\SqT K H a xs/\SqT K H b ys/\xs ≠ []/\xs.length+ys.length<=sizeLine /\
 (ys = []->Q (.ref a) H)/\(ys ≠ [] -> ∀ p,H p=none->Q (.ref p) (upd H p (.tup (xs++ys))))
theorem cu.nil_iff {xs:List V}{us:List Value} (r:cu xs us):us = []↔xs = []:=by
 cases r with
 | nil=>simp
 | cons _ _=>simp
theorem FV:OpR X (binaryOp .Add) (Hr X.K):=by
 intro pins s σ H x y v u Q I rx ry h
 obtain⟨a,b,xs,ys,rfl,rfl,ha,hb,hx,hz,q1,q2⟩:=h
 cases rx
 cases ry
 obtain⟨its,r1,p1,_⟩:=I.tuple ha
 obtain⟨its2,r2,p2,_⟩:=I.tuple hb
 refine HT.cat_tup p1 p2 (fun z=>hx (r1.nil_iff.mp z)) (fun z=>⟨.ref a,H,I,rfl,q1 (r2.nil_iff.mp z)⟩) (fun z => ?_) (by rw [<- r1.length,<- r2.length];exact hz)
 refine⟨.ref s.heap.objs.size,_,I.laid (t':=s.toks) (o := .tup (xs++ys)) (fun b ob q=>ah _ q) (aj _) ?_,rfl,q2 (fun w=>z (r2.nil_iff.mpr w)) _ (I.hok.fresh (aj _))⟩
 exact⟨by rw [aX];exact hz,_,r1.append r2,tz _ _,_,ax _ rfl,rfl⟩
end
end _L
namespace _L
open PySem PySem.Spec PyProof.Rows
noncomputable def ixN (n:Nat) (i:Int):Option Nat:=if 0<=i then (if i < n then some i.toNat else none) else if -(n:Int)<=i then some (i+n).toNat else none
noncomputable def atI {α:Type} (xs:List α) (i:Int):Option α:=(ixN xs.length i).bind fun j=>xs[j]?
theorem zH {n:Nat}{i:Int}{j:Nat} (h:ixN n i=some j):seqIndex? i n=some j/\j < n /\ -(n:Int)<=i/\i < n:=by
 unfold ixN at h
 by_cases h0:0<=i
 ·rw [if_pos h0] at h
  by_cases h1:i < n
  ·rw [if_pos h1] at h
   have e:i.toNat=j:=bS h
   exact⟨by rw [seqIndex_of h0 h1,e],by omega,by omega,h1⟩
  ·rw [if_neg h1] at h;cases h
 ·rw [if_neg h0] at h
  by_cases h1 : -(n:Int)<=i
  ·rw [if_pos h1] at h
   have e:(i+n).toNat=j:=bS h
   exact⟨by rw [seqIndex_neg (by omega) h1,e],by omega,h1,by omega⟩
  ·rw [if_neg h1] at h;cases h
theorem vO {α:Type}{xs:List α}{i:Int}{v:α} (h:atI xs i=some v) : ∃ j,seqIndex? i xs.length=some j/\xs[j]? = some v/\j < xs.length /\ -(xs.length:Int)<=i/\i < xs.length:=by
 unfold atI at h
 cases e:ixN xs.length i with
 | none=>rw [e] at h;cases h
 | some j=>
   rw [e] at h
   obtain⟨h1,h2,h3,h4⟩:=zH e
   exact⟨j,h1,h,h2,h3,h4⟩
noncomputable def vC (b:Expr):Prop := ∀ o i,subscripted b false o i=operate [o,i] (getItem o i)
noncomputable def IxR (X:Cx) (r:R2):Prop:=
 ∀ (value slice:Expr) (pins:List (Addr×Obj)) (s:Shared) (σ:St) (H:Hp) (x y:V) (v u:Value) (Q:VK),Inv X pins σ H s->RelV x v->RelV y u->r x y H Q ->
  subscripted slice false v u=operate [v,u] (getItem v u)->aH (model X.prog X.w) X.A (subscriptTail value slice v u) (EP X pins σ Q) X.xe s
noncomputable def MtR (X:Cx) (id:String) (r:V->List V->Hp->VK->Prop):Prop:=
 ∀ (pins:List (Addr×Obj)) (s:Shared) (σ:St) (H:Hp) (x:V) (xs:List V) (v:Value) (us:List Value) (Q:VK),Inv X pins σ H s->RelV x v->cu xs us->r x xs H Q ->
  aH (model X.prog X.w) X.A (call (.builtin id) (v::us)) (EP X pins σ Q) X.xe s
section
variable {X:Cx}{a b:Expr}{ta tb:TE}{pos:Pos}
theorem IxR.or {r r':R2} (h:IxR X r) (h':IxR X r'):IxR X (fun x y H Q=>r x y H Q\/r' x y H Q):=by
 intro value slice pins s σ H x y v u Q I rx ry q hs
 rcases q with q | q
 ·exact h value slice pins s σ H x y v u Q I rx ry q hs
 ·exact h' value slice pins s σ H x y v u Q I rx ry q hs
theorem L4 {r:R2} (hr:IxR X r) (ha:PE X a ta) (hb:PE X b tb) (hs:vC b):PE X (.Subscript a b pos) (tOp r ta tb):=by
 intro pins s σ H Q I h
 exact Subscript_ (Ir ha hb I h fun v u s2 x y H2 I2 rx ry q=>hr a b pins s2 σ H2 x y v u Q I2 rx ry q (hs _ _))
noncomputable def Nb (K:ak):R2:=fun x y H Q => ∃ p xs i v,x = .ref p/\y = .int i/\SqL K H p xs/\atI xs i=some v/\Q v H
noncomputable def KM (K:ak):R2:=fun x y H Q => ∃ p xs i v,x = .ref p/\y = .int i/\SqT K H p xs/\atI xs i=some v/\Q v H
noncomputable def Mn:R2:=fun x y H Q => ∃ z i c,x = .str z/\y = .int i/\z.length<=sizeLine/\atI z.cps.toList i=some c/\Q (.str ⟨#[c]⟩) H
theorem Gw:IxR X (Nb X.K):=by
 intro value slice pins s σ H x y v u Q I rx ry h hs
 obtain⟨p,xs,i,z,rfl,rfl,hq,he,q⟩:=h
 cases rx
 obtain⟨t,rfl⟩:=ry
 obtain⟨its,r,pl,hz⟩:=I.list hq
 obtain⟨j,h1,h2,h3,h4,h5⟩:=vO he
 obtain⟨w,ew,rw'⟩:=r.get h2
 have hl:=r.length
 have hn:=qI
 have fin:EP X pins σ Q w s:=⟨z,H,I,rw',q⟩
 by_cases h0:0<=i
 ·have hj:i.toNat=j:=by
   rw [seqIndex_of h0 h5] at h1
   exact bS h1
  exact item_listR pl.isList h0 (by omega) (by rw [hj];simpa using ew) fin hs
 ·have hj:(i+(its.toArray.size:Int)).toNat=j:=by
   rw [seqIndex_neg (by omega) h4] at h1
   rw [aF,<- hl]
   exact bS h1
  exact subscriptTail_builtinR (x:=w) pl.isList.typeIs slot_list_getitem.lookup
   (wpAny_getItem_list_neg (Q:=fun r s'=>r=w/\EP X pins σ Q r s') pl.isList (by omega) (by rw [aF] <;> omega) (by omega) (by rw [hj];simpa using ew) ⟨rfl,fin⟩) hs
theorem Jq:IxR X (KM X.K):=by
 intro value slice pins s σ H x y v u Q I rx ry h hs
 obtain⟨p,xs,i,z,rfl,rfl,hq,he,q⟩:=h
 cases rx
 obtain⟨t,rfl⟩:=ry
 obtain⟨its,r,pl,hz⟩:=I.tuple hq
 obtain⟨j,h1,h2,h3,h4,h5⟩:=vO he
 obtain⟨w,ew,rw'⟩:=r.get h2
 have hl:=r.length
 have hn:=qI
 have fin:EP X pins σ Q w s:=⟨z,H,I,rw',q⟩
 exact subscriptTail_builtinR (x:=w) pl.typeIs slot_tuple_getitem.lookup
  (getItem_tuple (j:=j) (Q:=fun r s'=>r=w/\EP X pins σ Q r s') pl (by omega) (by omega) (by rw [aF,<- hl];exact h1) (by simpa using ew) ⟨rfl,fin⟩) hs
theorem HK:IxR X Mn:=by
 intro value slice pins s σ H x y v u Q I rx ry h hs
 obtain⟨z,i,c,rfl,rfl,hz,he,q⟩:=h
 obtain⟨t,rfl⟩:=rx
 obtain⟨t',rfl⟩:=ry
 obtain⟨j,h1,h2,h3,h4,h5⟩:=vO he
 have hl:z.cps.toList.length=z.length:=by simp [Str.length]
 rw [hl] at h1 h4 h5
 have hn:=qI
 exact tail_any (typeIs_str s z t) slot_str_getitem.lookup (getItem_str (c:=c) (by
  have e1:decide (i < -(2 ^ 63:Int))=false:=decide_eq_false (by omega)
  have e2:decide (i >= 2 ^ 63)=false:=decide_eq_false (by omega)
  rw [e1,e2,Bool.or_false]) (by rw [h1];simpa using h2) ⟨.str ⟨#[c]⟩,H,I.tok _,⟨_,rfl⟩,q⟩) hs
noncomputable def rIx (K:ak):R2:=fun x y H Q=>Nb K x y H Q\/KM K x y H Q\/Mn x y H Q
theorem Iq:IxR X (rIx X.K):=Gw.or (Jq.or HK)
theorem zg (its:List Value) (n j:Nat) (u:Value):cX (·.setIfInBounds j u) { cls := .type "list",data := .seq its.toArray n }={ cls := .type "list",data := .seq (its.set j u).toArray n }:=by
 simp [cX]
theorem Inv.lst {pins:List (Addr×Obj)}{σ:St}{H:Hp}{s:Shared}{p:Addr}{xs:List V} (I:Inv X pins σ H s) (h:H p=some (.lst xs)) :
  ∃ (its:List Value) (n:Nat),cu xs its/\s.heap.get? p=some { cls := .type "list",data := .seq its.toArray n }/\xs.length<=sizeLine:=by
 obtain⟨z,its,n,r,e⟩:=I.hok p _ h
 exact⟨its,n,r,e,z⟩
theorem Inv.lstUpd {pins:List (Addr×Obj)}{σ:St}{H:Hp}{s:Shared}{p:Addr}{xs ys:List V}{its its':List Value}{n n':Nat}{f:Obj->Obj} (I:Inv X pins σ H s) (h:H p=some (.lst xs))
  (ho:s.heap.get? p=some { cls := .type "list",data := .seq its.toArray n }) (hf:f { cls := .type "list",data := .seq its.toArray n }={ cls := .type "list",data := .seq its'.toArray n' }) (r:cu ys its') (hz:ys.length<=sizeLine) (t:Nat) :
  Inv X pins σ (upd H p (.lst ys)) { s with heap:=s.heap.update p f,toks:=t }:=by
 have e:(s.heap.update p f).get? p=some { cls := .type "list",data := .seq its'.toArray n' }:=by
  rw [dP f ho (by rw [hf] <;> rfl),hf]
 refine I.write (x:=p) (e:=p) (by rw [h];trivial) (.inl rfl) (fun b u hb q=>(cy _ _ (d7 hb)).trans q) ⟨_,e⟩ ?_
 exact⟨hz,its',n',r,e⟩
noncomputable def Hd:V->V->V->Hp->(Hp->Prop)->Prop:=fun o i v H Q => ∃ p xs k j,o = .ref p/\i = .int k/\H p=some (.lst xs)/\ixN xs.length k=some j/\Q (upd H p (.lst (xs.set j v)))
theorem set_list:Iy X Hd:=by
 intro pins s σ H o i v ov iv u Q I ro ri rv h
 obtain⟨p,xs,k,j,rfl,rfl,hp,hj,q⟩:=h
 cases ro
 obtain⟨t,rfl⟩:=ri
 obtain⟨its,n,r,ho,hz⟩:=I.lst hp
 obtain⟨h1,h2,h3,h4⟩:=zH hj
 have hl:=r.length
 have hn:=qI
 have I':Inv X pins σ (upd H p (.lst (xs.set j v))) { s with heap:=s.heap.update p (cX (·.setIfInBounds j u)) }:=
  I.lstUpd hp ho (zg its n j u) (r.set rv j) (by rw [fQ];exact hz) s.toks
 by_cases h0:0<=k
 ·have hk:k.toNat=j:=by
   rw [seqIndex_of h0 h4] at h1
   exact bS h1
  exact PySem.W.ki_setAt ho h0 (by omega) (by rw [aF,<- hl];exact h4) (by rw [hk];exact⟨_,I',q⟩)
 ·have hk:(k+(its.toArray.size:Int)).toNat=j:=by
   rw [seqIndex_neg (by omega) h3] at h1
   rw [aF,<- hl]
   exact bS h1
  exact PySem.W.ki_setBack ho (by omega) (by rw [aF,<- hl];exact h3) (by omega) (by rw [hk];exact⟨_,I',q⟩)
noncomputable def ni:V->Bool
 | .non=>true
 | .bl _=>true
 | .int _=>true
 | .str _=>true
 | _=>false
noncomputable def eqV:V->V->Bool
 | .non,.non=>true
 | .bl a,.bl b=>a == b
 | .bl a,.int b=>(if a then 1 else 0) == b
 | .int a,.bl b=>a == (if b then 1 else 0)
 | .int a,.int b=>a == b
 | .str a,.str b=>a == b
 | _,_=>false
theorem IF {A:Around}{s:Shared}{y x:V}{u v:Value} (ry:RelV y u) (rx:RelV x v) (fy:ni y=true) (fx:ni x=true):SeqAt.EqAt A s u v (eqV y x):=by
 cases y with
 | non=>
   cases ry
   cases x with
   | non=>cases rx;exact SeqAt.EqAt.same _
   | bl b=>cases rx;exact SeqAt.EqAt.none_bool b
   | int b=>obtain⟨t,rfl⟩:=rx;exact SeqAt.EqAt.none_int b t
   | str b=>obtain⟨t,rfl⟩:=rx;exact SeqAt.EqAt.none_str b t
   | _=>exact absurd (show false=true from fx) bM
 | bl a=>
   cases ry
   cases x with
   | non=>cases rx;exact SeqAt.EqAt.bool_none a
   | bl b=>cases rx;exact SeqAt.EqAt.bool_bool a b
   | int b=>obtain⟨t,rfl⟩:=rx;exact SeqAt.EqAt.bool_int a b t
   | str b=>obtain⟨t,rfl⟩:=rx;exact SeqAt.EqAt.bool_str a b t
   | _=>exact absurd (show false=true from fx) bM
 | int a=>
   obtain⟨t',rfl⟩:=ry
   cases x with
   | non=>cases rx;exact SeqAt.EqAt.int_none a t'
   | bl b=>cases rx;exact SeqAt.EqAt.int_bool a t' b
   | int b=>obtain⟨t,rfl⟩:=rx;exact SeqAt.EqAt.int_int a t' b t
   | str b=>obtain⟨t,rfl⟩:=rx;exact Ac a t' b t
   | _=>exact absurd (show false=true from fx) bM
 | str a=>
   obtain⟨t',rfl⟩:=ry
   cases x with
   | non=>cases rx;exact SeqAt.EqAt.str_none a t'
   | bl b=>cases rx;exact SeqAt.EqAt.str_bool a t' b
   | int b=>obtain⟨t,rfl⟩:=rx;exact Ad a t' b t
   | str b=>obtain⟨t,rfl⟩:=rx;exact SeqAt.EqAt.str_str a t' b t
   | _=>exact absurd (show false=true from fx) bM
 | _=>exact absurd (show false=true from fy) bM
noncomputable def eqU (x:V) (u:Value):Bool:=match u with
 | .none=>eqV .non x
 | .bool b=>eqV (.bl b) x
 | .int i _=>eqV (.int i) x
 | .str z _=>eqV (.str z) x
 | _=>false
theorem B3 {x y:V}{u:Value} (r:RelV y u) (f:ni y=true):eqU x u=eqV y x:=by
 cases y with
 | non=>cases r;rfl
 | bl b=>cases r;rfl
 | int i=>obtain⟨t,rfl⟩:=r;rfl
 | str z=>obtain⟨t,rfl⟩:=r;rfl
 | _=>exact absurd (show false=true from f) bM
theorem uP {x:V} : ∀ {xs:List V}{us:List Value},cu xs us->xs.all ni=true->us.any (eqU x)=xs.any fun y=>eqV y x
 | _,_,.nil,_=>rfl
 | y::xs,u::us,.cons r t,f=>by
   rw [b0,aB] at f
   rw [eh,eh,B3 r f.1,uP t f.2]
theorem rP {A:Around}{s:Shared}{x:V}{v:Value} (rx:RelV x v) (fx:ni x=true) : ∀ {xs:List V}{us:List Value},cu xs us->xs.all ni=true -> ∀ u∈us,SeqAt.EqAt A s u v (eqU x u)
 | _,_,.nil,_=>fun u hu=>by cases hu
 | y::xs,u::us,.cons r t,f=>fun u' hu=>by
   rw [b0,aB] at f
   rcases aJ.mp hu with rfl | hu
   ·rw [B3 r f.1];exact IF r rx f.1 fx
   ·exact rP rx fx t f.2 u' hu
noncomputable def inV (x:V) (xs:List V):Bool:=xs.any fun y=>eqV y x
noncomputable def rIn (K:ak) (neg:Bool):R2:=fun x y H Q => ∃ p xs,y = .ref p/\(SqL K H p xs\/SqT K H p xs)/\ni x=true/\xs.all ni=true/\Q (.bl (if neg then !inV x xs else inV x xs)) H
theorem vN:OpR X (compareOp .NotIn) (rIn X.K true):=by
 intro pins s σ H x y v u Q I rx ry h
 obtain⟨p,xs,rfl,hq,fx,fs,q⟩:=h
 cases ry
 rcases hq with hq | hq
 ·obtain⟨its,r,pl,hz⟩:=I.list hq
  refine SeqAt.notIn_listAt (eqU x) pl.isList (fun w hw=>rP rx fx r fs w (by simpa using hw)) ⟨.bl _,H,I,rfl,?_⟩
  rw [show its.toArray.any (eqU x)=its.any (eqU x) by simp,uP r fs]
  exact q
 ·obtain⟨its,r,pl,hz⟩:=I.tuple hq
  refine Ez (eqU x) pl (fun w hw=>rP rx fx r fs w (by simpa using hw)) ⟨.bl _,H,I,rfl,?_⟩
  rw [show its.toArray.any (eqU x)=its.any (eqU x) by simp,uP r fs]
  exact q
theorem vv:gQ X (.builtin "len") (fun xs H Q => ∃ p ys,xs = [.ref p]/\(SqL X.K H p ys\/SqT X.K H p ys)/\Q (.int ys.length) H):=by
 intro pins s σ H xs us Q I r h
 obtain⟨p,ys,rfl,hq,q⟩:=h
 obtain⟨u,rfl,rx⟩:=vals1 r
 cases rx
 have hn:=qI
 rcases hq with hq | hq
 ·obtain⟨its,r',pl,hz⟩:=I.list hq
  have hlen:=r'.length
  exact Calls.call_len_list pl.isList (by simp only [aF] <;> omega) ⟨.int ys.length,H,I.tok _,⟨s.toks+1,by rw [aF,hlen]⟩,q⟩
 ·obtain⟨its,r',pl,hz⟩:=I.tuple hq
  have hlen:=r'.length
  exact len_tuple pl (by simp only [aF] <;> omega) ⟨.int ys.length,H,I.tok _,⟨s.toks+1,by rw [aF,hlen]⟩,q⟩
theorem gQ.or {f:Value}{r r':List V->Hp->VK->Prop} (h:gQ X f r) (h':gQ X f r'):gQ X f (fun xs H Q=>r xs H Q\/r' xs H Q):=by
 intro pins s σ H xs us Q I rs q
 rcases q with q | q
 ·exact h pins s σ H xs us Q I rs q
 ·exact h' pins s σ H xs us Q I rs q
theorem uK:gQ X (.type "list") (fun xs H Q => ∃ p ys,xs = [.ref p]/\(SqL X.K H p ys\/SqT X.K H p ys) /\ ∀ l,H l=none->Q (.ref l) (upd H l (.lst ys))):=by
 intro pins s σ H xs us Q I r h
 obtain⟨p,ys,rfl,hq,q⟩:=h
 obtain⟨u,rfl,rx⟩:=vals1 r
 cases rx
 have fin : ∀ (its:List Value),cu ys its->ys.length<=sizeLine -> ∀ (h':Heap) (c':Nat),(∀ b o',s.heap.get? b=some o'->h'.get? b=some o') ->
   h'.get? s.heap.objs.size=some { cls := .type "list",dict:=none,data := .seq its.toArray c',slots := #[] }->EP X pins σ Q (.ref s.heap.objs.size) { s with heap:=h' }:=fun its r' hz h' c' kp e=>
  ⟨.ref s.heap.objs.size,_,I.laid (t':=s.toks) kp (aj _) (show d6 X.prog X.w _ h' _ (.lst ys) from⟨hz,its,c',r',e⟩),rfl,q _ (I.hok.fresh (aj _))⟩
 rcases hq with hq | hq
 ·obtain⟨its,r',pl,hz⟩:=I.list hq
  have hlen:=r'.length
  obtain⟨o,ho,hc,n,hd⟩:=pl.isList
  exact call_list_seq p (.inl rfl) ho hc hd (fun h' c' kp e=>fin its r' hz h' c' kp e) (by simp only [aF] <;> omega)
 ·obtain⟨its,r',pl,hz⟩:=I.tuple hq
  have hlen:=r'.length
  obtain⟨o,ho,hc,n,hd⟩:=pl
  exact call_list_seq p (.inr rfl) ho hc hd (fun h' c' kp e=>fin its r' hz h' c' kp e) (by simp only [aF] <;> omega)
theorem sD:gQ X (.type "tuple") (fun xs H Q => ∃ p ys,xs = [.ref p]/\((SqL X.K H p ys /\ ∀ l,H l=none->Q (.ref l) (upd H l (.tup ys)))\/(SqT X.K H p ys/\Q (.ref p) H))):=by
 intro pins s σ H xs us Q I r h
 obtain⟨p,ys,rfl,h⟩:=h
 obtain⟨u,rfl,rx⟩:=vals1 r
 cases rx
 rcases h with⟨hq,q⟩ | ⟨hq,q⟩
 ·obtain⟨its,r',pl,hz⟩:=I.list hq
  have hlen:=r'.length
  refine call_tuple_list pl.isList (fun h' kp => ?_) (by simp only [aF] <;> omega)
  have I1:Inv X pins σ H { s with heap:=h' }:=I.kept (t':=s.toks) kp
  have I2:Inv X pins σ (upd H h'.objs.size (.tup ys)) { s with heap:=h'.push { cls := .type "tuple",data := .seq its.toArray } }:=
   I1.laid (t':=s.toks) (fun b o e=>ah _ e) (aj _) (show d6 X.prog X.w _ _ _ (.tup ys) from⟨hz,its,r',tz _ _,_,ax _ rfl,rfl⟩)
  exact⟨.ref h'.objs.size,_,I2,rfl,q _ (I1.hok.fresh (aj _))⟩
 ·obtain⟨its,r',pl,hz⟩:=I.tuple hq
  exact call_tuple_same pl ⟨.ref p,H,I,rfl,q⟩
noncomputable def tyV (K:ak) (T:String) (x:V) (H:Hp):Prop:=match x with
 | .str _=>T="str"
 | .int _=>T="int"
 | .ref p=>(T="list" /\ ∃ xs,SqL K H p xs)\/(T="tuple" /\ ∃ o,K.lookup p=some o/\o.cls = .type "tuple"/\o.dict=none) \/
   (T="dict"/\((∃ kvs,H p=some (.dK kvs)) \/ ∃ kvs,H p=some (.dT kvs)))\/(T="set" /\ ∃ S n,H p=some (.set S n))
 | _=>False
theorem Dp {pins:List (Addr×Obj)}{σ:St}{H:Hp}{s:Shared}{T:String}{x:V}{v:Value} (I:Inv X pins σ H s) (r:RelV x v) (ty:tyV X.K T x H) :
  s.TypeIs v T /\ ∀ a,v = .ref a -> ∃ ob,s.heap.get? a=some ob/\ob.dict=none:=by
 cases x with
 | str z=>
   obtain⟨t,rfl⟩:=r
   cases (show T="str" from ty)
   exact⟨typeIs_str s z t,fun _ e=>nomatch e⟩
 | int i=>
   obtain⟨t,rfl⟩:=r
   cases (show T="int" from ty)
   exact⟨typeIs_int s i t,fun _ e=>nomatch e⟩
 | ref p=>
   cases r
   rcases ty with⟨rfl,xs,hq⟩ | ⟨rfl,o,hk,hc,hd⟩ | ⟨rfl,hk⟩ | ⟨rfl,S,n,hk⟩
   ·obtain⟨its,_,pl,_⟩:=I.list hq
    refine⟨pl.isList.typeIs,fun a e => ?_⟩
    cases e
    obtain⟨o,n,e,c,hd,_⟩:=pl
    exact⟨o,e,hd⟩
   ·refine⟨⟨o,I.kIn p o hk,hc⟩,fun a e => ?_⟩
    cases e
    exact⟨o,I.kIn _ o hk,hd⟩
   ·have z : ∃ o,s.heap.get? p=some o/\o.ExactDict:=by
     rcases hk with⟨kvs,hk⟩ | ⟨kvs,hk⟩
     ·obtain⟨_,_,_,_,o,_,_,e,ex,_⟩:=I.hok p _ hk
      exact⟨o,e,ex⟩
     ·obtain⟨_,_,_,_,o,_,_,e,ex,_⟩:=I.hok p _ hk
      exact⟨o,e,ex⟩
    obtain⟨o,e,ex⟩:=z
    refine⟨⟨o,e,ex.1⟩,fun a e2 => ?_⟩
    cases e2
    exact⟨o,e,ex.2.1⟩
   ·obtain⟨o,_,_,_,e,ex,_⟩:=I.hok p _ hk
    refine⟨⟨o,e,ex.1⟩,fun a e2 => ?_⟩
    cases e2
    exact⟨o,e,ex.2.1⟩
 | _=>exact cR ty
noncomputable def Li (K:ak) (T:String) (r:V->List V->Hp->VK->Prop) (to:TE):TE:=fun σ H Q=>to σ H fun x H1=>tyV K T x H1/\r x [] H1 Q
noncomputable def tBM (K:ak) (T:String) (r:V->List V->Hp->VK->Prop) (to:TE) (t:TA):TE:=fun σ H Q=>to σ H fun x H1=>tyV K T x H1/\t σ H1 fun xs H2=>r x xs H2 Q
variable {o e:Expr}{es:List Expr}{to:TE}{t:TA}{name:Str}{apos cpos:Pos}{T id:String}{r:V->List V->Hp->VK->Prop}
theorem J5 (pa:PlainAttrs T) (slot:Slot T name id) (hty:typeOf (.builtin id)=pure (.type "method_descriptor")) (hm:MtR X id r) (ho:PE X o to)
  (hbase:autoParam (attributeBase o name X.env (eval o X.env)=eval o X.env) au1._auto_1) (hline:autoParam ((apos.endLine == cpos.line)=true) au1._auto_1):PE X (.Call (.Attribute o name apos) [] [] cpos) (Li X.K T r to):=by
 intro pins s σ H Q I h
 refine wpAny_Call_method0_late hbase hline (thn (ho pins s σ H _ I h) fun v s1 ⟨x,H1,I1,r1,ty,q1⟩ => ?_)
 obtain⟨h1,h2⟩:=Dp I1 r1 ty
 exact⟨T,id,pa,slot,hty,h1,h2,m9 rfl (PySem.evalArgs_none (hm pins s1 σ H1 x [] v [] Q I1 r1 .nil q1))⟩
theorem BW (pa:PlainAttrs T) (slot:Slot T name id) (hty:typeOf (.builtin id)=pure (.type "method_descriptor")) (hm:MtR X id r) (ho:PE X o to) (ha:PA X (e::es) t)
  (hbase:autoParam (attributeBase o name X.env (eval o X.env)=eval o X.env) au1._auto_1)
  (hfew:autoParam (((backTo cpos (starEach (e::es) X.env)).all (fun x => !x.1)&&(backToKw cpos (keywordEach [] X.env)).all (fun x=>x.1.isSome)
   && decide ((e::es).length+([]:List Keyword).length+(if ([]:List Keyword).isEmpty then 0 else 1) < 30))=true) au1._auto_1)
  (hline:autoParam ((apos.endLine == cpos.line)=true) au1._auto_1) (hs:autoParam (starEach (e::es) X.env=(false,eval e X.env)::starEach es X.env) au1._auto_1) (hplain:autoParam ((backTo cpos (starEach es X.env)).any (·.1)=false) au1._auto_1) :
  PE X (.Call (.Attribute o name apos) (e::es) [] cpos) (tBM X.K T r to t):=by
 intro pins s σ H Q I h
 refine wpAny_Call_method_late hbase hfew hline rfl (thn (ho pins s σ H _ I h) fun v s1 ⟨x,H1,I1,r1,ty,q1⟩ => ?_)
 obtain⟨h1,h2⟩:=Dp I1 r1 ty
 refine⟨T,id,pa,slot,hty,h1,h2,?_⟩
 have hA:=ha cpos pins s1 σ H1 _ I1 q1
 rw [hs] at hA ⊢
 refine m9 (by show (false||(backTo cpos (starEach es X.env)).any (·.1))=false;rw [hplain] <;> rfl) (oY ?_)
 exact thn hA fun us s2 ⟨vs,H2,I2,r2,q2⟩=>hm pins s2 σ H2 x vs v us Q I2 r1 r2 q2
end
end _L
namespace _L
open PySem PySem.Spec PyProof.Rows
noncomputable def MtM (X:Cx) (id:String) (r:V->List V->Hp->VK->Prop):Prop:=
 ∀ (pins:List (Addr×Obj)) (s:Shared) (σ:St) (H:Hp) (x:V) (xs:List V) (v:Value) (us:List Value) (Q:VK),Inv X pins σ H s->RelV x v->cu xs us->r x xs H Q ->
  aH (model X.prog X.w) X.A (call (.builtin id) (v::us)) (EP X pins σ Q) X.xe s
theorem cu.one : ∀ {x:V}{us:List Value},cu [x] us -> ∃ u,us = [u]/\RelV x u:=by
 intro x us h
 cases h with | cons r t=>cases t;exact⟨_,rfl,r⟩
theorem cu.zero : ∀ {us:List Value},cu [] us->us = []
 | _,.nil=>rfl
theorem cu.dropLast {xs:List V}{us:List Value} (h:cu xs us):cu xs.dropLast us.dropLast:=by
 induction h with
 | nil=>exact .nil
 | cons r t ih=>
   cases t with
   | nil=>exact .nil
   | cons q t'=>exact .cons r ih
theorem cu.eraseIdx : ∀ {xs:List V}{us:List Value} (i:Nat),cu xs us->cu (xs.eraseIdx i) (us.eraseIdx i)
 | _,_,_,.nil => .nil
 | _,_,0,.cons _ t=>t
 | _,_,i+1,.cons r t => .cons r (cu.eraseIdx i t)
theorem cu.rep {xs:List V}{us:List Value} (h:cu xs us) : ∀ k:Nat,cu (aU k xs).flatten (aU k us).flatten
 | 0 => .nil
 | k+1=>by
   rw [dI,dI,eX,eX]
   exact cu.append h (cu.rep h k)
theorem yS {α:Type} (l:List α):l.eraseIdx (l.length - 1)=l.dropLast:=by
 induction l with
 | nil=>rfl
 | cons a r ih=>
   cases r with
   | nil=>rfl
   | cons b r=>
     have e:(a::b::r).length - 1=((b::r).length - 1)+1:=by
      have h1:(a::b::r).length=r.length+2:=rfl
      have h2:(b::r).length=r.length+1:=rfl
      omega
     rw [e,Bw,ih]
     all_goals rfl
theorem ui {α:Type} : ∀ (l:List α) (i:Nat),(l.eraseIdx i).length<=l.length
 | [],_=>aj _
 | _::_,0=>dO _
 | _::r,i+1=>Nat.succ_le_succ (ui r i)
section
variable {X:Cx}{pins:List (Addr×Obj)}{σ:St}{H:Hp}{s:Shared}{l b:Addr}{xs ys zs:List V}
theorem Inv.lset {its its':List Value}{n:Nat}{f:Array Value->Array Value}{t':Nat} (I:Inv X pins σ H s) (hH:H l=some (.lst xs))
  (e:s.heap.get? l=some { cls := .type "list",data := .seq its.toArray n }) (hf:f its.toArray=its'.toArray) (hv:cu ys its') (hz:ys.length<=sizeLine) :
  Inv X pins σ (upd H l (.lst ys)) { s with heap:=s.heap.update l (cX f),toks:=t' }:=by
 have q:=Ei e f
 rw [hf] at q
 refine I.write (x:=l) (e:=l) (by rw [hH];exact trivial) (.inl rfl) (fun b' u hb hu=>(cy s.heap (cX f) (d7 hb)).trans hu) ⟨_,q⟩ ?_
 exact⟨hz,its',_,hv,q⟩
theorem Inv.lnew {its:List Value}{t':Nat} (I:Inv X pins σ H s) (hv:cu ys its) (hz:ys.length<=sizeLine) :
  Inv X pins σ (upd H s.heap.objs.size (.lst ys)) { s with heap:=s.heap.push { cls := .type "list",data := .seq its.toArray },toks:=t' }:=
 I.laid (fun _ _ q=>ah _ q) (aj _) ⟨hz,its,0,hv,ax _ rfl⟩
theorem Inv.fresh (I:Inv X pins σ H s):H s.heap.objs.size=none:=I.hok.fresh (aj _)
theorem Inv.lstM (I:Inv X pins σ H s) (hH:H l=some (.lst xs)):xs.length<=sizeLine /\ ∃ (its:List Value) (n:Nat),cu xs its/\xs.length=its.length/\s.heap.get? l=some { cls := .type "list",data := .seq its.toArray n }:=by
 obtain⟨z,its,n,r,e⟩:=I.hok l _ hH
 exact⟨z,its,n,r,r.length,e⟩
theorem Dy {n:Nat} (h:n<=sizeLine):jQ n=false:=by
 unfold jQ
 exact decide_eq_false (by omega)
end
section
variable {X:Cx}
noncomputable def zz:V->List V->Hp->VK->Prop:=fun x vs H Q => ∃ l xs y,x = .ref l/\vs = [y]/\H l=some (.lst xs)/\xs.length < sizeLine/\Q .non (upd H l (.lst (xs ++ [y])))
theorem Bq:MtM X "list.append" zz:=by
 intro pins s σ H x vs v us Q I rx rv h
 obtain⟨l,xs,y,rfl,rfl,hH,hz,q⟩:=h
 cases rx
 obtain⟨u,rfl,ru⟩:=rv.one
 obtain⟨z,its,n,r,hl,e⟩:=I.lstM hH
 refine call_meets F.slot_list_append ⟨_,e,rfl⟩ F.entry_list_append (F.args_list_append_2 _ _) (PySem.list_append l its.toArray n u (by rw [aF];omega)) ⟨e,?_⟩
 refine⟨.non,_,I.lset (its':=its ++ [u]) hH e (by simp) (r.append (.cons ru .nil)) ?_,rfl,q⟩
 rw [aX,List.length_singleton]
 omega
noncomputable def zA:V->List V->Hp->VK->Prop:=fun x vs H Q => ∃ l b xs zs,x = .ref l/\vs = [.ref b]/\H l=some (.lst xs)/\H b=some (.lst zs)/\xs.length+zs.length<=sizeLine/\Q .non (upd H l (.lst (xs++zs)))
theorem AD:MtM X "list.extend" zA:=by
 intro pins s σ H x vs v us Q I rx rv h
 obtain⟨l,b,xs,zs,rfl,rfl,hH,hB,hz,q⟩:=h
 cases rx
 obtain⟨u,rfl,ru⟩:=rv.one
 cases ru
 obtain⟨z,its,n,r,hl,e⟩:=I.lstM hH
 obtain⟨z2,its2,n2,r2,hl2,e2⟩:=I.lstM hB
 have hsz:its.toArray.size+its2.toArray.size<=sizeLine:=by rw [aF,aF];omega
 have hlong : ¬ (!its.toArray.isEmpty&&jQ (its.toArray.size+its2.toArray.size))=true:=by
  rw [Dy hsz,Bool.and_false]
  exact bM
 refine call_meets F.slot_list_extend ⟨_,e,rfl⟩ F.entry_list_extend (F.args_list_extend_2 _ _)
  (AutoSeq1.list_extend_list_list_0 l its.toArray n b its2.toArray n2 hlong (by rw [aF];omega) (by omega)) ⟨e,e2,?_⟩
 refine⟨.non,_,I.lset (its':=its++its2) hH e (by simp) (r.append r2) ?_,rfl,q⟩
 rw [aX]
 omega
noncomputable def LB:V->List V->Hp->VK->Prop:=fun x vs H Q => ∃ l xs y,x = .ref l/\vs = []/\H l=some (.lst xs)/\xs[xs.length - 1]? = some y/\Q y (upd H l (.lst xs.dropLast))
theorem HD:MtM X "list.pop" LB:=by
 intro pins s σ H x vs v us Q I rx rv h
 obtain⟨l,xs,y,rfl,rfl,hH,hy,q⟩:=h
 cases rx
 have hus:=rv.zero
 subst hus
 obtain⟨z,its,n,r,hl,e⟩:=I.lstM hH
 obtain⟨u,hu,ru⟩:=r.get hy
 have hy':its.toArray[its.toArray.size - 1]? = some u:=by
  show its.toArray[its.length - 1]? = some u
  rw [<- fV,<- hl]
  exact hu
 refine call_meets F.slot_list_pop ⟨_,e,rfl⟩ F.entry_list_pop (F.args_list_pop_1 _) (MeetsSeq.list_pop_last l its.toArray n u hy' (by rw [aF];omega)) ⟨e,?_⟩
 refine⟨y,_,I.lset (its':=its.dropLast) hH e ?_ r.dropLast ?_,ru,q⟩
 ·show its.toArray.eraseIdxIfInBounds (its.toArray.size - 1)=its.dropLast.toArray
  rw [aF,tD,yS]
 ·rw [List.length_dropLast]
  omega
noncomputable def BR:V->List V->Hp->VK->Prop:=fun x vs H Q => ∃ l xs i k y,x = .ref l/\vs = [.int i]/\H l=some (.lst xs) /\ -(2 ^ 63)<=i/\i < 2 ^ 63/\seqIndex? i xs.length=some k/\xs[k]? = some y/\Q y (upd H l (.lst (xs.eraseIdx k)))
theorem B0:MtM X "list.pop" BR:=by
 intro pins s σ H x vs v us Q I rx rv h
 obtain⟨l,xs,i,k,y,rfl,rfl,hH,h1,h2,hk,hy,q⟩:=h
 cases rx
 obtain⟨u,rfl,ru⟩:=rv.one
 obtain⟨t,rfl⟩:=ru
 obtain⟨z,its,n,r,hl,e⟩:=I.lstM hH
 obtain⟨w,hw,rw'⟩:=r.get hy
 refine call_meets F.slot_list_pop ⟨_,e,rfl⟩ F.entry_list_pop (F.args_list_pop_2 _ _)
  (MeetsSeq.list_pop_at l its.toArray n i t k w (fitsIndex_both h1 h2) (by rw [aF,<- hl];exact hk) (by rw [<- fV];exact hw) (by rw [aF];omega)) ⟨e,?_⟩
 refine⟨y,_,I.lset (its':=its.eraseIdx k) hH e ?_ (r.eraseIdx k) ?_,rw',q⟩
 ·show its.toArray.eraseIdxIfInBounds k=(its.eraseIdx k).toArray
  rw [tD]
 ·have:=ui xs k
  omega
noncomputable def MU:R2:=fun x y H Q => ∃ l b xs zs,x = .ref l/\y = .ref b/\H l=some (.lst xs)/\H b=some (.lst zs)/\xs.length+zs.length<=sizeLine /\ ∀ p,H p=none->Q (.ref p) (upd H p (.lst (xs++zs)))
theorem IQ:OpR X (binaryOp .Add) MU:=by
 intro pins s σ H x y v u Q I rx ry h
 obtain⟨l,b,xs,zs,rfl,rfl,hH,hB,hz,q⟩:=h
 cases rx
 cases ry
 obtain⟨z,its,n,r,hl,e⟩:=I.lstM hH
 obtain⟨z2,its2,n2,r2,hl2,e2⟩:=I.lstM hB
 refine PySem.P.add_list e e2 ?_ (by rw [aF,aF];omega)
 have ea:its.toArray++its2.toArray=(its++its2).toArray:=by simp
 rw [ea]
 exact⟨.ref _,_,I.lnew (t':=s.toks) (r.append r2) (by rw [aX];omega),rfl,q _ I.fresh⟩
theorem len_rep {α:Type} (xs:List α) (k:Nat):(aU k xs).flatten.length=k*xs.length:=by
 induction k with
 | zero=>simp
 | succ k ih=>rw [dI,eX,aX,ih,i3,nV]
end
section
variable {prog:Program}{w:World}{A:Around}{E:Value->Shared->Prop}{s:Shared}
end
section
variable {X:Cx}
end
end _L
namespace Att
open PySem PySem.W PySem.Calls PyProof.Rows
theorem pS {P:Params}{h:Heap} : ∀ (ns:List Int) (vs:List Value),WellAll P h vs (ns.map WData.int)->IntsAre vs ns:=by
 intro ns
 induction ns with
 | nil=>
   intro vs w
   rw [nA] at w
   cases w
   exact .nil
 | cons n ns ih=>
   intro vs w
   rw [bA] at w
   cases w with
   | cons a b=>
     cases a
     exact .cons _ _ (ih _ b)
theorem Bj {l:OpenLaw}{n:Nat} (hn:l.most=some n) {P:Params}{h:Heap}{args:List WData}{vals:List Value}
  (hpre:l.row.toRowW.claim.pre args=true) (hwl:WellAll P h vals args) :
  ∃ a vs ns,vals = [bp a]/\args = [WData.list (ns.map WData.int)]/\h.get? a=some { cls := .type "list",data := .seq vs.toArray }/\IntsAre vs ns/\ns.length<=n:=by
 have hsh:WShape.hasAll [] args [.list .int]=true:=(pre_splitW hpre).1
 have hc:l.pre.holds [] { args:=args }=true:=(pre_splitW hpre).2
 obtain⟨d,r,rfl,h1,h2⟩:=hasAllW_cons hsh
 obtain rfl:=hasAllW_nil h2
 obtain⟨xs,rfl,h3⟩:=hasW_list h1
 obtain⟨ns,rfl⟩:=items_int h3
 have hlen:ns.length<=n:=by
  unfold OpenLaw.pre at hc
  have h4:(WTm.not (.lt (.lit (.int (n:Int))) (.len (.arg 0)))).holds [] { args := [.list (ns.map .int)] }=true:=by
   have h4:=(holds_andW hc).1
   rw [hn] at h4
   exact h4
  have h5:=condW_of h4 (w_not (w_lt w_lit (w_len_list (w_arg rfl))))
  rw [aw] at h5
  refine cf fun q => ?_
  have q':(n:Int) < ((ns.length:Nat):Int):=by omega
  first
   | (rw [decide_eq_true q'] at h5;exact absurd h5 (by decide))
   | (simp at h5;omega)
 cases hwl with
 | cons w1 w2=>
   cases w2
   cases w1 with
   | list ho hall=>exact⟨_,_,ns,rfl,rfl,ho,pS ns _ hall,hlen⟩
theorem AS (l:OpenLaw) (args:List WData):l.row.toRowW.claim.post args (.bool true) args=true:=
 postW_of (r:=l.row.toRowW) (X:=(true == true))
  (show WShape.has [] (.bool true) .bool=true by first | rfl | decide | simp [WShape.has,WShape.arms,WShape.armsAll])
  (show (WTm.eq .res (.lit (.bool true))).value [] { args:=args,res:=some (.bool true),after:=args }=some (.bool (true == true)) from w_eq_bool (w_res rfl) w_lit) rfl
theorem attach_call {l:OpenLaw}{n:Nat}{q:Program}{loose:List Str}{XP:(Str->Option Value)->Heap->Prop}{YP:World->Heap->Prop}{d:DefRec}
  (hn:l.most=some n) (hdf:d.params.defaults = [])
  (call : ∀ (w:World) (s₀ s₁:Shared) (mg mb:Str->Option Value) (fa:Addr) (o:Obj) (pm cd doc:Value) (a:Addr) (vs:List Value) (ns:List Int),
   Ground q loose [] XP w s₀ mg mb s₁.heap->YP w s₁.heap ->
   s₁.heap.get? fa=some o->o.data = .func (docDef d.name d.params d.body d.scope pm cd doc)->s₁.heap.CodeRec cd d.name->mg d.name=some (.ref fa) ->
   s₁.heap.get? a=some { cls := .type "list",data := .seq vs.toArray }->IntsAre vs ns->ns.length<=n->s₁.gens = #[] ->
   nz (model l.prog w) callerA (.call (.ref fa) ⟨[.ref a],[]⟩) (fun r s'=>r = .ok (.ret (.bool true))/\OldK s₁.heap s'.heap/\s'.os=s₁.os/\AllBare s'.gens) s₁) :
  WalkO q loose XP YP l.row.toRowW d [] (fun f vs=>PySem.call f vs):=by
 intro w s₀ s₁ mg mb G Y fa o pm cd doc dV kV ho hd hcd hD hmg hg args vals as hpre hlay hrd hwl hlo
 obtain rfl:dV = .none:=Dflts.none hD hdf
 obtain rfl:kV = .none:=Dflts.noKw hD
 obtain⟨a,vs,ns,rfl,rfl,hobj,hints,hlen⟩:=Bj hn hpre hwl
 refine enter_call (il (call w s₀ s₁ mg mb fa o pm cd doc a vs ns G Y ho (fd_plain hd) hcd hmg hobj hints hlen hg) fun r s' hq => ?_)
 obtain⟨rfl,h2,h3,h4⟩:=hq
 exact⟨.inl ⟨.bool true,.bool true,[],rfl,fun _=>rfl,.bool true,AS l _,fun _=>⟨gW,fun _ hm=>(nomatch hm)⟩⟩,h2,h3,h4⟩
section
variable {prog:Program}{w:World}{A:Around}{E:Value->Shared->Prop}{s:Shared}{K:Frag}
end
end Att
namespace _L
open PySem PySem.Spec PyProof.Rows
end _L
namespace _L
open PySem PySem.Spec PyProof.Rows
abbrev KOf {K:ak}{h:Heap} (_:K.In h):ak:=K
end _L
namespace _L
open PySem PySem.Spec PyProof.Rows
noncomputable def fD (s:Stmt):Arguments:=match s with
 | .FunctionDef _ a _ _ _ _ _ _ _ _=>a
 | _=>{ posonlyargs := [],args := [],vararg:=none,kwonlyargs := [],kw_defaults := [],kwarg:=none,defaults := [] }
noncomputable def aY (s:Stmt):List Stmt:=match s with
 | .FunctionDef _ _ b _ _ _ _ _ _ _=>b
 | _ => []
noncomputable def av (s:Stmt):Scope:=match s with
 | .FunctionDef _ _ _ _ _ _ sc _ _ _=>sc
 | _=>{ kind := .function,names := [],isGenerator:=false,isCoroutine:=false }
abbrev CX0:CXT:=fun _ _ _ _ _ _=>False
abbrev E0:XK:=fun _ _ _=>False
theorem zD {X:Cx}:uT CX0 X E0:=fun _ _ _ _ _ _ _ h=>h.elim
structure Fun (K:ak) (x qual:Str) (st:Stmt) (f:Addr) (fd:FuncData):Prop where
 ex : ∃ (oc:Value) (od:Option Addr) (kV doc pm:Value) (an:Option Addr) (cdv ct:Value) (osl:Array (Option Value)),
  fd=cH x qual (fD st) (aY st) (av st) .none kV doc pm an cdv ct/\K.lookup f=some ⟨oc,od,.func fd,osl⟩/\gc K cdv qual=true
 kp:cj K (.ref f)=true
section
variable {P:Program}{w:World}{K:ak}{mg:Str->Option Value}{base:Heap}
theorem Fun.ok {x qual:Str}{st:Stmt}{f:Addr}{fd:FuncData}{N ps:List Str}{k:Nat}{sp:Sp} (F:Fun K x qual st f fd) (S:bx N ps (av st)) (len : ∀ vs H Q E,sp vs H Q E->vs.length=ps.length)
  (hbody : ∀ (cdv:Value) (A:Around) (outer:List Env) (s:Shared) (H:Hp) (vs:List V) (Q:VK) (E:XK),kl k (A.deeper (envOfC qual (av st) s.heap.objs.size f cdv))->sp vs H Q E ->
   ∃ t,PSs (yA CX0 P w K mg base N qual (av st) f cdv A outer s H E).nox (aY st) t/\t { nx:=fun _ H'=>Q .non H',rt:=Q } (start N vs) H):ki P w K mg base CX0 (k+1) f fd ps sp:=by
 obtain⟨oc,od,kV,doc,pm,an,cdv,ct,osl,rfl,lk,hcd⟩:=F.ex
 refine zJ lk hcd S len fun A outer s H vs Q E hr hsp => ?_
 obtain⟨t,h,q⟩:=hbody cdv A outer s H vs Q E hr hsp
 exact⟨t,h.nox,q⟩
theorem Fun.binds {x qual:Str}{st:Stmt}{f:Addr}{fd:FuncData}{ps:List Str} (F:Fun K x qual st f fd)
  (h : ∀ (kV doc pm:Value) (an:Option Addr) (cdv ct:Value) (us:List Value),us.length=ps.length->bindArgs (cH x qual (fD st) (aY st) (av st) .none kV doc pm an cdv ct) ⟨us,[]⟩=pure (ps.zip us)):Binds K fd ps []:=by
 obtain⟨oc,od,kV,doc,pm,an,cdv,ct,osl,rfl,lk,hcd⟩:=F.ex
 exact .all (h kV doc pm an cdv ct)
theorem JB {x qual:Str}{st:Stmt}{f:Addr}{oc:Value}{od an:Option Addr}{osl:Array (Option Value)}{kV doc pm cdv ct:Value} (l:K.lookup f=some ⟨oc,od,.func (cH x qual (fD st) (aY st) (av st) .none kV doc pm an cdv ct),osl⟩)
  (c:gc K cdv qual=true) (k:cj K (.ref f)=true):Fun K x qual st f (cH x qual (fD st) (aY st) (av st) .none kV doc pm an cdv ct):=⟨⟨oc,od,kV,doc,pm,an,cdv,ct,osl,rfl,l,c⟩,k⟩
end
section
variable {X:Cx}
end
end _L
end
section
namespace _L
open PySem PySem.Spec PyProof.Rows
noncomputable def Itk (lo c:Int) (n:Nat):It:=⟨fun i _=>i < n,fun i H x H'=>H'=H/\x = .int (lo+i*c),fun i _=>n<=i⟩
theorem wH {P:Program}{w:World}{K:ak}{tg:Expr} (it:Addr) (lo c:Int) (n:Nat):Turn P w K tg (Itk lo c n) [it] it (fun i h=>IsRangeIter h it (lo+(i:Nat)*c) ((n:Int) - (i:Nat)) c) where
 mem:=by simp
 obj:=fun i h st b hb=>by
  have e:b=it:=by simpa using hb
  subst e
  exact⟨_,st,fun v z=>by
   have z':Es _=Data.cell v:=z
   cases z'⟩
 keep:=fun i h h' st k=>k it (by simp) _ st
 item:=by
  intro X hP hw hK hc i pins s σ H E I hf st hg
  subst hP hw hK
  obtain⟨f0,f1,f2,f3,f4,f5⟩:=hf it (by simp)
  have W:=Walks.range (prog:=X.prog) (w:=X.w) (I.ok.hd hc) it lo c n
  refine W.item i s _ _ hg st fun v h' tk hv st' kk => ?_
  obtain⟨t,rfl⟩:=hv
  have I1:Inv X pins σ H { s with heap:=h',toks:=tk }:=I.turned (fun b o hb e=>kk b o (by simpa using hb) e) f0 f1 f3 f4 f5
  exact⟨_,rfl,zL (s:={ s with heap:=h',toks:=tk }) (n:="range_iterator") st' rfl rfl (by decide) ⟨.int (lo+i*c),H,I1,⟨t,rfl⟩,⟨rfl,rfl⟩,st',fun b hb=>(hf b hb).1⟩⟩
 done:=by
  intro X hP hw hK hc i pins s σ H E I hf st hg
  subst hP hw hK
  obtain⟨f0,f1,f2,f3,f4,f5⟩:=hf it (by simp)
  exact wpAny_pyNext_range_end (I.ok.hd hc) st (by have:n<=i:=hg;omega) fun h' eb=>⟨rfl,I.turned (t':=s.toks) (fun b o hb e=>eb b o hb e) f0 f1 f3 f4 f5⟩
 self:=fun _ _ _ _ _ st h=>wpAny_pyIter_rangeiter st h
section
variable {X:Cx}{tg:Expr}
theorem A6 {pins:List (Addr×Obj)}{σ:St}{H:Hp}{s:Shared}{R:It->Hp->Prop}{E:Value->Shared->Prop}{lo hi c:Int}{n:Nat}{t u v:Tok}{tk:Nat} (I:Inv X pins σ H s) (h1:eN lo hi c=true) (h2:bH lo hi c=(n:Int))
  (q:R (Itk lo c n) H):aH (model X.prog X.w) X.A (pyIter (.ref s.heap.objs.size)) (PIE X pins σ tg R) E { s with heap:=s.heap.push { cls := .type "range",data := .fields #[.int lo t,.int hi u,.int c v] },toks:=tk }:=by
 refine wpAny_pyIter_range (IsRange.new ..) h1 ?_
 have I1:Inv X pins σ H { s with heap:=s.heap.push { cls := .type "range",data := .fields #[.int lo t,.int hi u,.int c v] },toks:=tk }:=I.kept fun b o e=>ah _ e
 refine⟨(s.heap.push { cls := .type "range",data := .fields #[.int lo t,.int hi u,.int c v] }).objs.size,[(s.heap.push { cls := .type "range",data := .fields #[.int lo t,.int hi u,.int c v] }).objs.size],_,_,H,rfl,
  I1.kept (t':=tk) fun b o e=>ah _ e,wH _ lo c n,?_,fun b hb => ?_,q⟩
 ·have e1:lo+((0:Nat):Int)*c=lo:=by simp
  have e2:(n:Int) - ((0:Nat):Int)=bH lo hi c:=by rw [h2];simp
  show IsRangeIter _ _ (lo+((0:Nat):Int)*c) ((n:Int) - ((0:Nat):Int)) c
  rw [e1,e2]
  exact ax _ rfl
 ·have e:b=(s.heap.push { cls := .type "range",data := .fields #[.int lo t,.int hi u,.int c v] }).objs.size:=by simpa using hb
  subst e
  exact I1.fpOk (aj _) (I1.hok.fresh (aj _))
noncomputable def xn (ta:TA):TI:=fun σ H R=>ta σ H fun vs H1 => ∃ (i j c:Int) (n:Nat),vs = [.int i,.int j,.int c]/\((0 < c/\c < 1073741824)/\eN i j c=true/\bH i j c=(n:Int))/\R (Itk i c n) H1
theorem Ai {a b d:Expr}{ta:TA}{p pos:Pos} (hg:Gl X "range") (hm:X.mg "range"=none) (ha:PA X [a,b,d] ta) (hs:starEach [a,b,d] X.env = [(false,eval a X.env),(false,eval b X.env),(false,eval d X.env)]) (hs2:starEach [b,d] X.env = [(false,eval b X.env),(false,eval d X.env)]) :
  PI X tg (.Call (.Name "range" p) [a,b,d] [] pos) (xn ta):=by
 intro pins s σ H R I h
 refine Call_ (je I hg hm boot_range (cb (thn (ha pos pins s σ H _ I h) fun us s1 ⟨vs,H1,I1,r1,q1⟩ => ?_) (by rw [hs,hs2]) (by rw [hs2];rfl)))
 obtain⟨i,j,c,n,e,⟨q1,q2,q3⟩,q⟩:=q1
 subst e
 cases r1 with
 | cons r rr=>
   cases rr with
   | cons r' rr=>
     cases rr with
     | cons r'' rr=>
       cases rr
       obtain⟨t,rfl⟩:=r
       obtain⟨t',rfl⟩:=r'
       obtain⟨t'',rfl⟩:=r''
       exact call_range_3 (by omega) (A6 I1 q2 q3 q) (Or.inl (zh (by omega)))
end
end _L
end
section
namespace PySem
namespace GR
noncomputable def ye (h:Heap) (a t:Addr) (i:Int):Prop := ∃ o,h.get? a=some o/\o.cls = .type "reversed"/\o.data = .fields #[.ref t,rawInt i]
theorem ye.at {h h':Heap}{a t:Addr}{i:Int} (x:ye h a t i) (e : ∀ o,h.get? a=some o->h'.get? a=some o):ye h' a t i:=let ⟨o,ho,r⟩:=x;⟨o,e _ ho,r⟩
open PyProof.Rows in
section
variable {prog:Program}{w:World}{A:Around}{E:Value->Shared->Prop}{s:Shared}
open PyProof.Rows
end
end GR
end PySem
namespace _L
open PySem PySem.Spec PyProof.Rows
section
variable {X:Cx}{tg:Expr}
end
end _L
end
section
namespace PySem
namespace GE
open AutoSeq1 (wpAny_loadPart')
section
variable {prog:Program}{w:World}{A:Around}{E:Value->Shared->Prop}{s:Shared}
end
end GE
end PySem
namespace _L
open PySem PySem.Spec PyProof.Rows
theorem Inv.turnNew {X:Cx}{pins:List (Addr×Obj)}{σ:St}{H:Hp}{s:Shared}{h':Heap}{t':Nat}{fp:List Addr}{T:Addr}{o:HO} (I:Inv X pins σ H s) (hf : ∀ b∈fp,sM X pins H b) (k : ∀ b u,b∉fp->s.heap.get? b=some u->h'.get? b=some u)
  (hT:s.heap.objs.size<=T) (new:d6 X.prog X.w (upd H T o) h' T o):Inv X pins σ (upd H T o) { s with heap:=h',toks:=t' }:=by
 have hn:H T=none:=I.hok.fresh hT
 have neT : ∀ b u,s.heap.get? b=some u->b≠T:=fun b u e z=>absurd (ao (aC e) (by rw [z];exact hT)) (bL _)
 have nfp : ∀ b u,H b=some u->b∉fp:=fun b u e z=>by rw [(hf b z).1] at e;cases e
 refine I.step (g':=s.gens) (d':=s.drawn) (ch:=fp) (fun b hb=>⟨(hf b hb).2.2.2.1,(hf b hb).2.1,(hf b hb).2.2.2.2.1,(hf b hb).2.2.2.2.2⟩) (fun b o _ _ hc e _=>k b o hc e) (fun b o _ _ hc e _=>⟨o.slots,k b o hc e⟩)
  (fun b o _ e n=>by rw [bE (neT b o e)];exact n) (fun b o hc e=>⟨o,k b o hc e⟩) (fun b xs e=>by rw [bE (bz e hn)];exact e) (fun b o u e=>by rw [bE (bz e hn)];exact e) (fun b ps e=>⟨#[],by rw [bE (bz e hn),e];simp⟩) (fun m hm => ?_) (fun b u e => ?_) I.bare
 ·obtain⟨o,es,ep,ho,r⟩:=hm
  exact⟨o,es,ep,k _ o (fun z=>(hf _ z).2.1 rfl) ho,r⟩
 ·by_cases hb:b=T
  ·subst hb;rw [cJ] at e;cases e;exact new
  ·rw [bE hb] at e
   refine (I.hok b u e).stay (fun c v hc q=>k c v ?_ q) (fun c q=>by rw [bE (bz q hn)];exact q) fun c xs q=>by rw [bE (bz q hn)];exact q
   rcases hc with z | z
   ·rw [z];exact nfp b u e
   ·exact nfp c _ z
noncomputable def AM (K:ak) (a:Addr):It:=
 ⟨fun i H => ∃ xs x,SqL K H a xs/\xs[i]? = some x,fun i H x H' => ∃ T u,(∀ xs,SqL K H a xs->xs[i]? = some u)/\H T=none/\x = .ref T/\H'=upd H T (.tup [.int i,u]),fun i H => ∃ xs,SqL K H a xs/\xs.length<=i⟩
theorem yZ {P:Program}{w:World}{K:ak}{ts:List Expr}{kt:Nat}{pt:Pos} (a e it:Addr) (hne:e≠it):Turn P w K (.Tuple ts kt pt) (AM K a) [e,it] e (fun i h=>(∃ old,IsEnum h e it (i:Nat) old)/\h.IsListIter it a i) where
 mem:=by simp
 obj:=fun i h st b hb=>by
  obtain⟨⟨old,he⟩,o,ho,c,d⟩:=st
  rcases aJ.mp hb with z | z
  ·subst z;exact⟨_,he,fun v y=>by have y':Es _=Data.cell v:=y;cases y'⟩
  ·have z:b=it:=by simpa using z
   subst z;exact⟨o,ho,fun v y=>by rw [d] at y;cases y⟩
 keep:=fun i h h' st k=>by
  obtain⟨⟨old,he⟩,o,ho,r⟩:=st
  exact⟨⟨old,k e (by simp) _ he⟩,o,k it (by simp) _ ho,r⟩
 item:=by
  intro X hP hw hK hc i pins s σ H E I hf st hg
  subst hP hw hK
  obtain⟨xs,x,hq,hx⟩:=hg
  obtain⟨its,rv,p,hz⟩:=I.list hq
  obtain⟨u,hu,ru⟩:=rv.get hx
  obtain⟨⟨old,he⟩,hit⟩:=st
  have hel:=aC he
  have hil:it < s.heap.objs.size:=by obtain⟨o,ho,_⟩:=hit;exact aC ho
  refine wpAny_pyNext_enum_item he hit p.isList (x:=u) (by simpa using hu) hne fun h' ho hit' hT hsz hk => ?_
  refine⟨_,rfl,wpAny_letOwnedTupleGo_enum (s:={ s with heap:=h',toks:=s.toks+1 }) ho fun h2 he2 hs2 => ?_⟩
  have hT2:h2.get? s.heap.objs.size=some { cls := .type "tuple",data := .seq #[.int i s.toks,u] }:=(hs2.2 _ (dH hel)).trans hT
  have k : ∀ b o,b ∉ [e,it]->s.heap.get? b=some o->h2.get? b=some o:=fun b o hb eo=>by
   have hb1:b≠e:=fun z=>hb (by simp [z])
   have hb2:b≠it:=fun z=>hb (by simp [z])
   exact (hs2.2 b hb1).trans (hk b o hb1 hb2 eo)
  have new:d6 X.prog X.w (upd H s.heap.objs.size (.tup [.int i,x])) h2 s.heap.objs.size (.tup [.int i,x]):=⟨by rw [sizeLine_eq];show 2<=16777216;decide,[.int i s.toks,u],.cons ⟨s.toks,rfl⟩ (.cons ru .nil),⟨_,hT2,rfl,_,rfl⟩,_,hT2,rfl⟩
  have it2:h2.IsListIter it a (i+1):=hit'.extBut hs2.extBut (d7 hne)
  exact⟨.ref s.heap.objs.size,_,I.turnNew (t':=s.toks+1) hf k (aj _) new,rfl,⟨_,x,fun ys hy=>by rw [I.list_inj hy hq];exact hx,I.hok.fresh (aj _),rfl,rfl⟩,⟨⟨u,by simpa using he2⟩,it2⟩,fun b hb=>by
   have hb0:=(hf b hb).1
   rw [bE (fun z => ?_)]
   ·exact hb0
   ·rcases aJ.mp hb with y | y
    ·exact absurd (y.symm.trans z) (aG hel)
    ·have y:b=it:=by simpa using y
     exact absurd (y.symm.trans z) (aG hil)⟩
 done:=by
  intro X hP hw hK hc i pins s σ H E I hf st hg
  subst hP hw hK
  obtain⟨xs,hq,hx⟩:=hg
  obtain⟨its,rv,p,hz⟩:=I.list hq
  obtain⟨⟨old,he⟩,hit⟩:=st
  obtain⟨f0,f1,f2,f3,f4,f5⟩:=hf it (by simp)
  have hl:=rv.length
  exact wpAny_pyNext_enum_end (I.ok.hd hc) he hit p.isList (by simp;omega) fun h' eb=>⟨rfl,I.turned (t':=s.toks) (fun b o hb e=>eb b o hb e) f0 f1 f3 f4 f5⟩
 self:=fun _ _ _ _ _ st h=>by
  obtain⟨⟨old,he⟩,_⟩:=st
  exact wpAny_pyIter_enum he h
section
variable {X:Cx}
noncomputable def vn (K:ak) (ta:TA):TI:=fun σ H R=>ta σ H fun vs H1=>False \/ ∃ a xs,vs = [.ref a]/\SqL K H1 a xs/\R (AM K a) H1
theorem E4 {a:Expr}{ta:TA}{p pos:Pos}{ts:List Expr}{kt:Nat}{pt:Pos} (hg:Gl X "enumerate") (hm:X.mg "enumerate"=none) (ha:PA X [a] ta) (hs:autoParam (starEach [a] X.env = [(false,eval a X.env)]) au1._auto_1):PI X (.Tuple ts kt pt) (.Call (.Name "enumerate" p) [a] [] pos) (vn X.K ta):=by
 intro pins s σ H R I h
 refine Call_ (je I hg hm boot_enumerate (cb (thn (ha pos pins s σ H _ I h) fun us s1 ⟨vs,H1,I1,r1,q1⟩ => ?_) hs rfl))
 rcases q1 with q1 | q1
 ·exact q1.elim
 ·obtain⟨b,xs,e,hq,q⟩:=q1
  subst e
  cases r1 with
  | cons r rr=>
    cases rr
    cases r
    obtain⟨its,rv,pt,hz⟩:=I1.list hq
    refine call_enumerate_list pt.isList fun h' he hit hsz hk => ?_
    have I2:Inv X pins σ H1 { s1 with heap:=h',toks:=s1.toks }:=I1.kept hk
    refine wpAny_pyIter_enum (s:={ s1 with heap:=h' }) he ?_
    refine⟨s1.heap.objs.size+1,[s1.heap.objs.size+1,s1.heap.objs.size],_,_,H1,rfl,I2,yZ b _ _ (Nat.succ_ne_self _),⟨⟨_,he⟩,hit⟩,fun c hc => ?_,q⟩
    rcases aJ.mp hc with z | z
    ·subst z;exact I1.fpOk (dO _) (I1.hok.fresh (dO _))
    ·have z:c=s1.heap.objs.size:=by simpa using z
     subst z;exact I1.fpOk (aj _) (I1.hok.fresh (aj _))
end
end _L
end
section
namespace PySem
namespace GE
section
variable {prog:Program}{w:World}{A:Around}{E:Value->Shared->Prop}{s:Shared}
end
section
variable {prog:Program}{w:World}{A:Around}{E:Value->Shared->Prop}{s:Shared}
end
end GE
end PySem
namespace _L
open PySem PySem.Spec PyProof.Rows
section
variable {X:Cx}
end
end _L
end
section
namespace _L
open PySem PyProof.Rows
noncomputable def DJ (off:List Addr) (h h':Heap):Prop := ∀ b o,b∉off->h.get? b=some o->h'.get? b=some o
section
variable {prog:Program}{w:World}{A:Around}{E:Value->Shared->Prop}{s:Shared}{I S:Addr}{fp wr:List Addr}{n:Nat}{P:Nat->Value->Prop}{St:Nat->Heap->Prop}{h0:Heap}{v0:Value}{R:Result->Shared->Prop}
end
end _L
end
section
namespace _L
open PySem PyProof.Rows
noncomputable def oR (xs:Array Nat):Prop:=xs.toList.Pairwise (· < ·)
theorem oR.lt {xs:Array Nat} (r:oR xs) {i j:Nat} (h:i < j) (hj:j < xs.size):xs[i]'(bK h hj) < xs[j]:=by
 have:=(lh.mp r) i j (by simpa using bK h hj) (by simpa using hj) h
 simpa using this
theorem rO {xs:Array Nat} (r:oR xs) {j:Nat} : ∀ (f lo hi:Nat),lo<=hi->hi<=xs.size->hi - lo<=f->(∀ i (h:i < xs.size),i < lo->xs[i] < j)->(∀ i (h:i < xs.size),hi<=i->j<=xs[i]) ->
  gS xs j f lo hi<=xs.size/\(∀ i (h:i < xs.size),i < gS xs j f lo hi->xs[i] < j) /\ ∀ i (h:i < xs.size),gS xs j f lo hi<=i->j<=xs[i]
 | 0,lo,hi,h1,h2,h3,a,b=>by
   unfold gS
   have:lo=hi:=by omega
   subst this
   exact⟨h2,a,b⟩
 | f+1,lo,hi,h1,h2,h3,a,b=>by
   unfold gS
   by_cases h:lo < hi
   ·rw [if_pos h]
    dsimp only
    have hm:(lo+hi) / 2 < xs.size:=by omega
    have em:xs.getD ((lo+hi) / 2) j=xs[(lo+hi) / 2]:=by simp [Array.getD,hm]
    rw [em]
    by_cases q:xs[(lo+hi) / 2] < j
    ·rw [if_pos q]
     refine rO r f _ _ (by omega) h2 (by omega) (fun i hi' hl => ?_) b
     by_cases z:i=(lo+hi) / 2
     ·subst z;exact q
     ·exact bK (r.lt (show i < (lo+hi) / 2 by omega) hm) q
    ·rw [if_neg q]
     refine rO r f _ _ (by omega) (by omega) (by omega) a (fun i hi' hl => ?_)
     by_cases z:i=(lo+hi) / 2
     ·subst z;omega
     ·have:=r.lt (show (lo+hi) / 2 < i by omega) hi'
      omega
   ·rw [if_neg h]
    have:lo=hi:=by omega
    subst this
    exact⟨h2,a,b⟩
theorem nN {xs:Array Nat} (r:oR xs) (j:Nat):be xs j<=xs.size/\(∀ i (h:i < xs.size),i < be xs j->xs[i] < j) /\ ∀ i (h:i < xs.size),be xs j<=i->j<=xs[i]:=
 rO r _ _ _ (dj _) (aj _) (aj _) (fun i _ h=>absurd h (Nat.not_lt_zero i)) fun i h1 h2=>absurd h1 (Nat.not_lt.mpr h2)
theorem yj {xs:Array Nat} (r:oR xs) {i:Nat} (hi:i < xs.size):be xs (xs[i]+1)=i+1:=by
 obtain⟨h1,h2,h3⟩:=nN r (xs[i]+1)
 rcases lE (be xs (xs[i]+1)) (i+1) with z | z | z
 ·have:=h3 i hi (by omega);omega
 ·exact z
 ·have hs:i+1 < xs.size:=by omega
  have:=h2 (i+1) hs z
  have:=r.lt (show i < i+1 by omega) hs
  omega
theorem zc {xs:Array Nat} (r:oR xs):be xs 0=0:=by
 obtain⟨h1,h2,h3⟩:=nN r 0
 by_cases z:be xs 0=0
 ·exact z
 ·have:=h2 0 (by omega) (by omega);omega
theorem BQ {xs:Array Nat} (r:oR xs) {j:Nat} (h:xs[be xs j]? ≠ some j):oR (SetTable.insertAt xs (be xs j) j):=by
 obtain⟨h1,h2,h3⟩:=nN r j
 unfold oR
 rw [SetTable.toList_insertAt]
 have rl:xs.toList.Pairwise (· < ·):=r
 have lt : ∀ x∈xs.toList.take (be xs j),x < j:=fun x hx=>by
  obtain⟨i,hi,rfl⟩:=j7 hx
  rw [mS,dG] at hi
  have:=h2 i (by omega) (by omega)
  simpa using this
 have gt : ∀ x∈xs.toList.drop (be xs j),j < x:=fun x hx=>by
  obtain⟨i,hi,rfl⟩:=j7 hx
  rw [List.length_drop,dG] at hi
  have hb:be xs j+i < xs.size:=by omega
  have:=h3 (be xs j+i) hb (by omega)
  have e:(xs.toList.drop (be xs j))[i]'(by rw [List.length_drop,dG];exact hi)=xs[be xs j+i]:=by simp
  rw [e]
  rcases Nat.lt_or_eq_of_le this with z | z
  ·exact z
  ·exfalso
   by_cases i0:i=0
   ·subst i0
    exact h (by rw [eP (by omega)];simpa using z.symm)
   ·have a:=h3 (be xs j) (by omega) (aj _)
    have b:=r.lt (show be xs j < be xs j+i by omega) hb
    omega
 refine EA.mpr ⟨rl.sublist (List.take_sublist _ _),List.pairwise_cons.mpr ⟨gt,rl.sublist (List.drop_sublist _ _)⟩,fun a ha b hb => ?_⟩
 rcases aJ.mp hb with rfl | hb
 ·exact lt a ha
 ·exact bK (lt a ha) (gt b hb)
structure jy (t:SetTable) (led:Bool):Prop where
 r:oR t.place
 d:t.dummies = #[]
 l:t.led=led
theorem jy.fresh (led:Bool):jy (.fresh 0 0 led) led:=⟨.nil,rfl,rfl⟩
theorem jy.stand {t:SetTable}{led:Bool} (n:Nat) (h:jy t led):jy (t.standIn n) led:=⟨by
 show (Array.range n).toList.Pairwise (· < ·)
 rw [Array.toList_range];exact nB,rfl,h.l⟩
theorem GI {t:SetTable}{led:Bool} (h:jy t led) (j:Nat):t.slot j ≠ .dummy:=by
 have:xZ t.dummies j=false:=by rw [h.d];rfl
 unfold SetTable.slot
 dsimp only
 split
 ·exact fun z=>by cases z
 ·rw [this];exact fun z=>by cases z
theorem yo {t:SetTable}{j:Nat} (h:t.slot j = .empty):t.place[be t.place j]? ≠ some j:=fun z=>by
 unfold SetTable.slot at h
 dsimp only at h
 rw [if_pos (by rw [z];exact beq_self_eq_true _)] at h
 cases h
theorem we {t:SetTable}{led:Bool} (ht:jy t led) {hash:Nat->Int}{h:Int} : ∀ (f:Nat) (p:SetTable.Probe) {j:Nat}{d:Option Nat},p.dummy=none->xT t hash h f p=some (.empty j d)->t.slot j = .empty/\d=none
 | 0,p,j,d,_,e=>by cases e
 | f+1,p,j,d,hd,e=>by
   unfold xT at e
   have adv:(t.advance p).dummy=none:=by unfold SetTable.advance;split <;> exact hd
   split at e
   ·rename_i q;cases e;exact⟨q,hd⟩
   ·rename_i q;exact absurd q (GI ht _)
   ·split at e
    ·cases e
    ·exact we ht f _ adv e
theorem A3 {t:SetTable}{led:Bool} (ht:jy t led) {h:Int}{j:Nat}{b:Bool} (e:t.freeSlot h=some (j,b)):t.place[be t.place j]? ≠ some j:=by
 unfold SetTable.freeSlot at e
 split at e
 ·rename_i j' d q
  obtain⟨q1,q2⟩:=we ht _ _ rfl q
  subst q2
  cases e
  exact yo q1
 ·cases e
theorem jy.put {t:SetTable}{led:Bool} (ht:jy t led) {j:Nat} (h:t.place[be t.place j]? ≠ some j):jy (t.put j).1 led:=by
 refine⟨BQ ht.r h,?_,ht.l⟩
 show (if xZ t.dummies j then _ else t.dummies) = #[]
 rw [if_neg (by rw [ht.d];simp [xZ])];exact ht.d
theorem jy.orStand {t:SetTable}{led:Bool} (n:Nat) (h:jy t led):jy (t.orStandIn n) led:=by
 unfold SetTable.orStandIn
 split
 ·exact h
 ·exact h.stand n
theorem jy.lay {t:SetTable}{led:Bool} (ht:jy t led) (es:Array (Int×Value)) (h:Int) (x:Value):jy (layNew t es h x).2.1 led:=by
 unfold layNew
 split
 ·rename_i j b e;exact (ht.put (A3 ht e)).orStand _
 ·exact ht.stand _
theorem jy.relay {t:SetTable}{led:Bool} (ht:jy t led) (es:Array (Int×Value)) (n:Nat):jy (relayAll t es n).2.1 led:=by
 unfold relayAll
 split
 ·rename_i t' order e
  dsimp only
  split
  ·unfold SetTable.relaid SetTable.laid at e
   simp only [bind,Option.bind] at e
   split at e
   ·cases e
   ·cases e
    refine⟨?_,rfl,ht.l⟩
    show List.Pairwise _ _
    rw [List.toList_toArray]
    refine eY.mpr (List.pairwise_filterMap.mpr (List.pairwise_lt_range.imp fun {a b} hab x hx y hy => ?_))
    obtain⟨_,_,rfl⟩:=d8.mp hx
    obtain⟨_,_,rfl⟩:=d8.mp hy
    exact hab
  ·exact ht.stand _
 ·exact ht.stand _
theorem iB {α:Type} : ∀ (l:List α) (i:Nat) (h:i < l.length),(l[i]::l.eraseIdx i).Perm l
 | x::l,0,h => .refl _
 | x::l,i+1,h=>(List.Perm.swap x _ _).trans (.cons x (iB l i (by simpa using h)))
theorem zq {α:Type}{next:Nat->Nat} : ∀ (f k:Nat) (left:List α) (out:Array α),f=left.length->(pickOrder.go next f k left out).toList.Perm (out.toList++left)
 | 0,k,left,out,h=>by
   rw [mT.mp h.symm]
   show out.toList.Perm (out.toList ++ [])
   rw [ij]
 | f+1,k,left,out,h=>by
   unfold pickOrder.go
   have hl:next k % left.length < left.length:=kQ _ (by omega)
   rw [ay hl]
   dsimp only
   refine (zq f (k+1) _ _ (by rw [ya hl];omega)).trans ?_
   rw [Array.toList_push,bh]
   refine List.Perm.append_left _ ?_
   exact iB left _ hl
theorem A0 {α:Type} (next:Nat->Nat) (xs:Array α):(pickOrder next xs).toList.Perm xs.toList:=by
 have:=zq (next:=next) xs.size 0 xs.toList #[] (by simp)
 simpa [pickOrder] using this
theorem wp_choose {M:Model}{A:Around}{E:Value->Shared->Prop}{s:Shared}{src:Source}{n:Nat}{Q:Nat->Shared->Prop} (hn:n≠0) (h : ∀ i d,i < n->Q i { s with drawn:=d }):aH M A (choose src n) Q E s:=fun Γ p _=>by
 unfold choose;rw [Sem.wp_choose];exact⟨hn,h _ _ (kQ _ (Nat.pos_of_ne_zero hn))⟩
theorem xI {M:Model}{A:Around}{E:Value->Shared->Prop}{α:Type} : ∀ (n:Nat) (xs:List α) (s:Shared) {Q:List α->Shared->Prop},n=xs.length->(∀ l d,l.Perm xs->Q l { s with drawn:=d })->aH M A (drawOrder n xs) Q E s
 | 0,xs,s,Q,hn,h=>by
   rw [mT.mp hn.symm] at h ⊢
   exact az (h [] s.drawn (.refl _))
 | n+1,[],s,Q,hn,h=>by cases hn
 | n+1,x::xs,s,Q,hn,h=>by
   unfold drawOrder
   refine ae (wp_choose (by simp) fun i d hi => ?_)
   rw [ay hi];dsimp only
   refine ae (xI n _ _ (by rw [ya hi];omega) fun l d' hl=>az ?_)
   exact h _ d' ((List.Perm.cons _ hl).trans (iB _ i hi))
noncomputable def IL:Value->Int
 | .int i _=>i
 | _=>0
theorem xt : ∀ {vs:List Value},(∀ v∈vs,∃ i t,v = .int i t)->IntsAre vs (vs.map IL)
 | [],_ => .nil
 | v::vs,h=>by
   obtain⟨i,t,rfl⟩:=h v (by simp)
   exact .cons i t (xt fun w hw=>h w (aD _ hw))
noncomputable def ly (es:Array (Int×Value)) (ep:Nat) (t:SetTable):Obj:={ cls := .type "set",dict:=none,data := .set es ep t,slots := #[] }
structure uB (prog:Program) (w:World) (led:Bool) (ns:List Int) (es:Array (Int×Value)) (t:SetTable):Prop where
 fit:t.fits es.size=true
 tab:jy t led
 el:ElemsOf (intKind prog w) es.toList
 sm:es.size < scanBound
 pm:(es.toList.map fun e=>IL e.2).Perm ns
noncomputable def qQ (prog:Program) (w:World) (h:Heap) (a:Addr) (led:Bool) (ns:List Int):Prop := ∃ es ep t,h.get? a=some (ly es ep t)/\uB prog w led ns es t
section
variable {prog:Program}{w:World}{A:Around}{E:Value->Shared->Prop}{s:Shared}{led:Bool}{ns:List Int}
theorem uB.len {es:Array (Int×Value)}{t:SetTable} (h:uB prog w led ns es t):es.size=ns.length:=by have:=h.pm.length_eq;simpa using this
theorem uB.int {es:Array (Int×Value)}{t:SetTable} (h:uB prog w led ns es t) {e:Int×Value} (he:e∈es.toList) : ∃ i u,e.2 = .int i u:=by
 obtain⟨⟨k,hk,_⟩,_⟩:=h.el e he
 obtain⟨u,hu⟩:=rZ (k:=k) (v:=e.2) hk
 exact⟨k,u,hu⟩
theorem tW {a:Addr}{es es':Array (Int×Value)}{ep:Nat}{t t':SetTable}{Q:Unit->Shared->Prop} (ho:s.heap.get? a=some (ly es ep t)) (hz:es'.size < scanBound)
  (h : ∀ h',fI a s.heap h'->h'.get? a=some (ly es' (ep+1) t')->Q () { s with heap:=h' }):aH (model prog w) A (storeSet a es' t') Q E s:=by
 refine wpAny_storeSet_of ho rfl (h _ (Heap.SameBut.update ..) ?_) (fits_of_scanBound hz)
 have g:=dP (Obj.putSet es' t') ho (by rw [putSet_of es' t' rfl];rfl)
 rw [putSet_of es' t' rfl] at g;exact g
theorem xE {g:Bool->Sem Unit} (hg : ∀ (b:Bool) (s₁:Shared) (Q':Unit->Shared->Prop),Q' () s₁->aH (model prog w) A (g b) Q' E s₁) {a:Addr}{es es1:Array (Int×Value)}{ep:Nat}{t t2:SetTable} (ho:s.heap.get? a=some (ly es ep t)) (he:uB prog w led ns es1 t2)
  {wd:Bool}{R:Option Bool->Shared->Prop} (h : ∀ h',fI a s.heap h'->qQ prog w h' a led ns->R (some true) { s with heap:=h' }) :
  aH (model prog w) A (storeSet a es1 t2 >>= fun _=>if (!wd&&t2.tooFull)=true then (g (relayAll t2 es1 (fW es1.size)).2.2 >>= fun _=>storeSet a (relayAll t2 es1 (fW es1.size)).1 (relayAll t2 es1 (fW es1.size)).2.1 >>= fun _=>pure (some true)) else pure (some true)) R E s:=by
 refine ae (tW ho he.sm fun h1 s1 g1 => ?_)
 split
 ·have hp:=relayAll_perm t2 es1 (fW es1.size);have hf:=relayAll_fits t2 es1 (fW es1.size);have ht:=he.tab.relay es1 (fW es1.size)
  have hsz:(relayAll t2 es1 (fW es1.size)).1.size=es1.size:=by have:=hp.length_eq;simpa using this
  refine ae (hg _ _ _ (ae (tW g1 (by rw [hsz];exact he.sm) fun h2 s2 g2=>az ?_)))
  exact h h2 (s1.trans s2) ⟨_,_,_,g2,hf,ht,he.el.perm hp,by rw [hsz];exact he.sm,(hp.map _).trans he.pm⟩
 ·exact az (h h1 s1 ⟨_,_,_,g1,he⟩)
theorem Gm {a:Addr}{i:Int}{u:Tok}{Q:Bool->Shared->Prop} (hS:qQ prog w s.heap a led ns) (hr:ns.length+1 < scanBound)
  (h : ∀ h',fI a s.heap h'->qQ prog w h' a led (if i∈ns then ns else ns ++ [i]) -> ∀ b,Q b { s with heap:=h' }):aH (model prog w) A (setAddHashed a (.int i u) ((intKind prog w).hash i)) Q E s:=by
 obtain⟨es,ep,t,ho,he⟩:=hS
 have hkey:(intKind prog w).is i (.int i u)=true:=intKind_is _ _ _ _
 have hsc:(my i u).scannable=true:=rfl
 have mem:i∈ns ↔ ∃ e∈es.toList,(intKind prog w).is i e.2=true:=by
  rw [<- he.pm.mem_iff,aE]
  constructor
  ·rintro ⟨e,m,q⟩
   obtain⟨j,u',hu⟩:=he.int m
   rw [hu] at q
   have q:j=i:=q
   subst q
   exact⟨e,m,by rw [hu];exact intKind_is _ _ _ _⟩
  ·rintro ⟨e,m,q⟩
   obtain⟨u',hu⟩:=rZ (k:=i) (v:=e.2) q
   exact⟨e,m,by rw [hu];rfl⟩
 unfold setAddHashed setAddHashedIn;refine dZ (ae (jt ho rfl he.fit ?_));dsimp only;rw [byScan_of hsc he.sm he.el];simp only [↓reduceIte]
 unfold setAddByScan;refine ae (ae (Ej (ae (wpAny_setScan_of hkey ho rfl he.fit he.el ?_))))
 cases hq:List.findIdx? (fun e=>(intKind prog w).is i e.2) es.toList with
 | some j=>
   dsimp only
   obtain⟨hj,hpj,_⟩:=dC.mp hq
   have hin:i∈ns:=mem.mpr ⟨es.toList[j],cY hj,hpj⟩
   refine az (az ?_)
   rw [if_pos hin] at h
   exact h s.heap (Heap.SameBut.refl a s.heap) ⟨es,ep,t,ho,he⟩ _
 | none=>
   dsimp only
   have hin:i∉ns:=fun z=>by
    obtain⟨e,m,q⟩:=mem.mp z
    have:=List.findIdx?_eq_none_iff.mp hq e m
    rw [q] at this;cases this
   rw [if_neg hin] at h
   have hp:=layNew_perm t es ((intKind prog w).hash i) (.int i u);have hf:=layNew_fits t es ((intKind prog w).hash i) (.int i u);have ht:=he.tab.lay es ((intKind prog w).hash i) (.int i u)
   generalize layNew t es ((intKind prog w).hash i) (.int i u)=L at hp hf ht ⊢
   obtain⟨es1,t1,wd,gave⟩:=L
   dsimp only at hp hf ht ⊢
   rw [Array.toList_push] at hp
   have hsz:es1.size=es.size+1:=by have:=hp.length_eq;simpa using this
   have he1:uB prog w led (ns ++ [i]) es1 t1:=⟨hf,ht,(he.el.push hkey hsc).perm hp,by rw [hsz,he.len];exact hr,(hp.map _).trans (by rw [d0];exact he.pm.append_right _)⟩
   have hg : ∀ (b:Bool) (s₁:Shared) (Q':Unit->Shared->Prop),Q' () s₁->aH (model prog w) A (match b with | true=>rule "set.scan.the-table-gave-way" | false=>pure ()) Q' E s₁:=fun b s₁ Q' q=>by cases b <;> first | exact az q | exact Ej q
   refine ae (hg _ _ _ ?_)
   have fin : ∀ h',fI a s.heap h'->qQ prog w h' a led (ns ++ [i])->Q true { s with heap:=h' }:=fun h' x y=>h h' x y _
   split
   ·refine ae ?_;rw [hashByValue_scannable 8 hsc];refine az ?_
    refine xE (led:=led) (ns:=ns ++ [i]) hg ho ?_ fun h' x y => ?_
    ·exact he1
    ·dsimp only;exact az (fin h' x y)
   ·refine ae (az ?_);simp only [↓reduceIte]
    refine xE hg ho he1 fun h' x y => ?_
    dsimp only;exact az (fin h' x y)
noncomputable def ddp (l:List Int):List Int:=l.foldl (fun acc x=>if x∈acc then acc else acc ++ [x]) []
theorem Dd (l:List Int) (x:Int):ddp (l ++ [x])=if x∈ddp l then ddp l else ddp l ++ [x]:=by unfold ddp;rw [lC];rfl
theorem wk : ∀ (l acc:List Int),(l.foldl (fun acc x=>if x∈acc then acc else acc ++ [x]) acc).length<=acc.length+l.length
 | [],acc=>by simp
 | x::l,acc=>by
   have:=wk l (if x∈acc then acc else acc ++ [x])
   have h:(if x∈acc then acc else acc ++ [x]).length<=acc.length+1:=by split <;> simp
   simp only [fR,dA]
   omega
theorem GK (l:List Int):(ddp l).length<=l.length:=by have:=wk l [];simpa [ddp] using this
theorem wN {R:Result->Shared->Prop}{I S:Addr}{fp wr:List Addr}{vs:List Int}{P:Nat->Value->Prop}{St:Nat->Heap->Prop} (W:Walks prog w A.in1 I fp wr vs.length P St) (hf:S∉fp)
  (hv : ∀ i v,P i v -> ∃ t,v = .int (vs.getD i 0) t) (hb:vs.length+1 < scanBound) : ∀ (k i:Nat) (s:Shared),i+k=vs.length->St i s.heap->qQ prog w s.heap S led (ddp (vs.take i)) ->
   (∀ h' tk,DJ (S::wr) s.heap h'->qQ prog w h' S led (ddp vs)->R (.ok (.ret .none)) { s with heap:=h',toks:=tk })->nz (model prog w) A (.builtin "set.update.loop" ⟨[.ref S,.ref I],[]⟩) R s:=by
 have hw:S∉wr:=fun h=>hf (W.sub _ h)
 intro k
 induction k with
 | zero=>
   intro i s e st hS hR;refine cK lF ?_;rw [bT fS _];show aH _ A.in1 (pyNext (.ref I) >>= _) _ _ s
   have e:i=vs.length:=e
   subst e
   refine ae (W.done s _ _ st fun h' tk hk => ?_);show aH _ A.in1 (ret fH) _ _ _;refine az (hR h' tk (fun b o hb e=>hk b o (fun q=>hb (aD _ q)) e) ?_)
   rw [mU] at hS
   obtain⟨es,ep,t,ho,he⟩:=hS
   exact⟨es,ep,t,hk S _ hw ho,he⟩
 | succ k ih=>
   intro i s e st hS hR;refine cK lF ?_;rw [bT fS _];show aH _ A.in1 (pyNext (.ref I) >>= _) _ _ s
   refine ae (W.item i s _ _ (by omega) st fun v h' tk hP st' hk => ?_)
   obtain⟨u,rfl⟩:=hv i v hP
   have hS':qQ prog w h' S led (ddp (vs.take i)):=by
    obtain⟨es,ep,t,ho,he⟩:=hS
    exact⟨es,ep,t,hk S _ hw ho,he⟩
   have hl:=GK (vs.take i)
   rw [mS] at hl
   have hi:i < vs.length:=by omega
   have ev:vs.getD i 0=vs[i]:=by simp [List.getD,hi]
   have tk1:ddp (vs.take (i+1))=if vs.getD i 0∈ddp (vs.take i) then ddp (vs.take i) else ddp (vs.take i) ++ [vs.getD i 0]:=by rw [gd,ay hi,ev];exact Dd _ _
   show aH _ A.in1 (holding [my (vs.getD i 0) u] (setAdd S (.int (vs.getD i 0) u)) >>= _) _ _ _;refine ae (dZ ?_);unfold setAdd;refine dZ (ae ((intKind prog w).pyHash (k:=vs.getD i 0) (intKind_is _ _ _ _) ?_))
   refine Gm (led:=led) hS' (by omega) fun h2 s2 hS2 b => ?_
   rw [<- tk1] at hS2
   refine az ⟨plainId_quiet fS _,ih (i+1) _ (by omega) (W.frame _ _ _ st' fun b hb o e => ?_) hS2 fun h3 tk3 hd hS3=>hR h3 tk3 (fun b o hb e=>hd b o hb ?_) hS3⟩
   ·rw [s2.2 b (fun q:b=S=>hf (by rw [<- q];exact hb))];exact e
   ·rw [s2.2 b (fun q:b=S=>hb (by rw [q];exact br))];exact hk b o (fun q=>hb (aD _ q)) e
theorem EN (a:Value) {Q₁:Value->Shared->Prop} (h:Q₁ (.ref s.heap.objs.size) { s with heap:=s.heap.push (ly #[] 0 (.fresh 0 0 (!w.params.followText "set-order"))) }):nz (model prog w) A (.call (.builtin "set.__new__") ⟨[.type "set",a],[]⟩) (wants Q₁ E) s:=by
 refine Bx ?_;show aH _ A.in1 (do checkBuiltinCall "set.__new__" ⟨[.type "set",a],[]⟩;again (.builtin "set.__new__" ⟨[.type "set",a],[]⟩)) _ _ s
 refine ae (ie (PySem.F.newCall_set_1 a) (az ⟨plainId_quiet Ae _,cK PySem.F.entry_set_new ?_⟩));rw [bT Ae _];unfold Builtin.«set.__new__» Builtin.Frozenset.newClass
 have hsub:=sub_set_self
 obtain⟨hp,g,d,tk,os⟩:=s;dsimp only;wp_walk;refine j8 (az ?_);dsimp only;simp only [newObj];refine ae (wpAny_alloc (az ?_));exact az h
set_option maxHeartbeats 8000000 in
theorem BZ {l:Addr}{T:String}{items:Array Value}{nl:Nat}{vs:List Int}{Q:Value->Shared->Prop} (hT:T="list"\/T="tuple") (hh:A.handled=none) {od:Option Addr}{osl:Array (Option Value)} (hol:s.heap.get? l=some { cls := .type T,dict:=od,data := .seq items nl,slots:=osl }) (hi:IntsAre items.toList vs) (hb:vs.length+1 < scanBound)
  (h : ∀ (h':Heap) (tk:Nat),qQ prog w h' s.heap.objs.size (!w.params.followText "set-order") (ddp vs)->DJ [] s.heap h'->Q (.ref s.heap.objs.size) { s with heap:=h',toks:=tk }):aH (model prog w) A (call (.type "set") [.ref l]) Q E s:=by
 obtain⟨c,tl,hmro⟩:=PySem.F.called_set.mro
 have hmade:=PySem.F.called_set.made;have hsub:=PySem.F.called_set.sub
 have hvl:items.size=vs.length:=by have:=hi.length;simpa using this
 refine wpAny_call (Bx ?_);show aH _ _ (callAny (.type "set") _) _ _ _;refine az ⟨Code.quiet_builtin _ (by decide +kernel),cK PySem.F.entry_type_call ?_⟩;rw [Around.under_plain (weight_type_call_type "set" [.ref l] []) rfl]
 have h1:=PySem.F.called_set.notType;have h2:=PySem.F.called_set.canCreate;have hct:=PySem.F.typeCall_set_1 (.ref l)
 repeat (any_goals (first | assumption | wp_step))
 generalize hled:(!w.params.followText "set-order")=led at h
 refine il (EN (.ref l) (E:=E) (Q₁:=fun obj s₁=>obj = .ref s.heap.objs.size/\s₁={ s with heap:=s.heap.push (ly #[] 0 (.fresh 0 0 led)) }) (by rw [hled];exact⟨rfl,rfl⟩)) fun r s₁ hr => ?_
 cases r with
 | error e=>exact hr
 | ok fl=>
   cases fl with
   | ret obj=>
     obtain⟨rfl,rfl⟩:=hr
     generalize hg:s.heap.push (ly #[] 0 (.fresh 0 0 led))=g
     have gz:g.objs.size=s.heap.objs.size+1:=by rw [<- hg];exact bw ..
     have hS:g.get? s.heap.objs.size=some (ly #[] 0 (.fresh 0 0 led)):=by rw [<- hg];exact ax _ rfl
     have hk : ∀ b o,s.heap.get? b=some o->g.get? b=some o:=fun b o e=>by rw [<- hg];exact ah _ e
     have hTS:ll { s with heap:=g } (.ref s.heap.objs.size) "set":=⟨_,hS,rfl⟩
     have hli:=PySem.F.called_set.init.lookup;have hbi:=PySem.F.called_set.init.bind (.ref s.heap.objs.size)
     repeat (any_goals (first | assumption | wp_step))
     refine il (codeAny_call_builtin (R:=wants (fun r s₂=>r = .none /\ ∃ h' tk,s₂={ s with heap:=h',toks:=tk }/\qQ prog w h' s.heap.objs.size led (ddp vs)/\DJ [] s.heap h') E) PySem.F.called_set.init.plain PySem.F.entry_set_init (check_set_init_1 hTS ?_)) fun r₂ s₂ hr₂ => ?_
     ·have hol':=hk _ _ hol
      have hls:isSubtype (.type T) (.type "set")=pure false:=by rcases hT with rfl | rfl <;> first | exact PySem.F.sub_list_set | exact sub_tup_set
      have hlf:isSubtype (.type T) (.type "frozenset")=pure false:=by rcases hT with rfl | rfl <;> first | exact PySem.F.sub_list_frozenset | exact sub_tup_frz
      have hne:(m8 T == m8 "dict")=false:=by rcases hT with rfl | rfl <;> decide
      unfold Builtin.«set.__init__» noKeywords Builtin.Frozenset.updateFrom
      generalize hPI:pyIter=PI
      unfold ly at hS
      wp_walk
      subst hPI
      have lS : @Ek Nat _ l s.heap.objs.size:=aC hol
      have lI:l≠g.objs.size:=fun q=>by have q' : @Eq Nat l g.objs.size:=q;omega
      have hf:s.heap.objs.size ∉ [g.objs.size,l]:=fun q=>by
       rcases aJ.mp q with q | q
       ·have q' : @Eq Nat s.heap.objs.size g.objs.size:=q;omega
       ·have q' : @Eq Nat s.heap.objs.size l:=bN.mp q;omega
      have hv : ∀ (i:Nat) (v:Value),items[i]? = some v -> ∃ t,v = .int (vs.getD i 0) t:=fun i v hv=>PyProof.Rows.IntsAre.int_at hi i v (by rw [fV];exact hv)
      have hh3:A.in1.in1.in1.handled=none:=by simp [hh]
      have fr:uB prog w led (ddp []) #[] (.fresh 0 0 led):=⟨rfl,jy.fresh led,fun e he=>by simp at he,by decide,by exact .refl _⟩
      have fin : ∀ (io:Obj) (h':Heap),DJ [s.heap.objs.size,g.objs.size] (g.push io) h'->DJ [] s.heap h':=fun io h' hd b o _ e=>by
       have lb : @Ek Nat _ b s.heap.objs.size:=aC e
       refine hd b o (fun q => ?_) (ah _ (hk b o e))
       rcases aJ.mp q with q | q
       ·have q' : @Eq Nat b s.heap.objs.size:=q;omega
       ·have q' : @Eq Nat b g.objs.size:=bN.mp q;omega
      rcases hT with rfl | rfl
      ·have hl1:g.IsList l items:=⟨_,hol',rfl,nl,rfl⟩
       refine ny hl1 (ae (ju ?_))
       have W:=Walks.list (prog:=prog) (w:=w) (A:=A.in1.in1.in1) hh3 g.objs.size l lI items
       rw [hvl] at W
       exact wN (led:=led) W hf hv hb vs.length 0 _ (by omega) ⟨⟨_,ax _ rfl,rfl,rfl⟩,hl1.push _⟩ ⟨_,_,_,ah _ hS,fr⟩ fun h' tk hd hS'=>az (az ⟨rfl,h',tk,rfl,hS',fin _ h' hd⟩)
      ·have hl1:g.IsTuple l items:=⟨_,hol',rfl,nl,rfl⟩
       refine wpAny_pyIter_tuple hl1 (ae (ju ?_))
       have W:=Walks.tuple (prog:=prog) (w:=w) (A:=A.in1.in1.in1) hh3 g.objs.size l lI items
       rw [hvl] at W
       exact wN (led:=led) W hf hv hb vs.length 0 _ (by omega) ⟨⟨_,ax _ rfl,rfl,rfl⟩,hl1.push _⟩ ⟨_,_,_,ah _ hS,fr⟩ fun h' tk hd hS'=>az (az ⟨rfl,h',tk,rfl,hS',fin _ h' hd⟩)
     ·cases r₂ with
      | error e=>exact hr₂
      | ok fl₂=>
        cases fl₂ with
        | ret r=>
          obtain⟨rfl,h',tk,rfl,hS',hd⟩:=hr₂
          repeat (any_goals (first | assumption | wp_step))
          exact h _ _ hS' hd
        | _=>exact hr₂.elim
   | _=>exact hr.elim
end
end _L
end
section
namespace PySem
namespace GS
theorem wC:Manifest.owners.lookup (String.ofList ['r','o','t','a','r','e','t','i','_','t','e','s'].reverse)=some Manifest.sig_set_iterator:=by kernel_rfl
theorem slot_si:Slot "set_iterator" "__next__" "set_iterator.__next__":=
 .of (owner:="set_iterator") (n:="__next__") (by rw [typeLookup_type,builtinLookup_eq_fast];kernel_rfl) (by decide +kernel) (by decide +kernel) (by decide +kernel) (by first | exact .inl (by decide +kernel) | exact .inr (by decide +kernel)) (by rw [isSubtype_type];kernel_rfl)
theorem entry_si:entryFor table "set_iterator.__next__"=some Builtin.«set_iterator.__next__»:=entryFor_of_tree (by kernel_rfl)
theorem args_si (a:Value):argsOk "set_iterator.__next__" ⟨[a],[]⟩:=by
 unfold argsOk;rw [signature?_of (id:="set_iterator.__next__") (n := ['_','_','t','x','e','n','_','_']) (o := ['r','o','t','a','r','e','t','i','_','t','e','s']) (by kernel_rfl) wC];kernel_rfl
theorem slot_sii:Slot "set_iterator" "__iter__" "set_iterator.__iter__":=
 .of (owner:="set_iterator") (n:="__iter__") (by rw [typeLookup_type,builtinLookup_eq_fast];kernel_rfl) (by decide +kernel) (by decide +kernel) (by decide +kernel) (by first | exact .inl (by decide +kernel) | exact .inr (by decide +kernel)) (by rw [isSubtype_type];kernel_rfl)
theorem args_sii (a:Value):argsOk "set_iterator.__iter__" ⟨[a],[]⟩:=by
 unfold argsOk;rw [signature?_of (id:="set_iterator.__iter__") (n := ['_','_','r','e','t','i','_','_']) (o := ['r','o','t','a','r','e','t','i','_','t','e','s']) (by kernel_rfl) wC];kernel_rfl
theorem entry_sii:entryFor table "set_iterator.__iter__"=some Builtin.«dict_keyiterator.__iter__»:=
 entryFor_alias (id':="dict_keyiterator.__iter__") (by kernel_rfl) (by first | rfl | decide +kernel | (unfold String.splitOn;simp +decide [String.splitOnAux])) (by decide +kernel) (by kernel_rfl)
theorem entry_seti:entryFor table "set.__iter__"=some Builtin.«frozenset.__iter__»:=
 entryFor_alias (id':="frozenset.__iter__") (by kernel_rfl) (by first | rfl | decide +kernel | (unfold String.splitOn;simp +decide [String.splitOnAux])) (by decide +kernel) (by kernel_rfl)
end GS
end PySem
namespace _L
open PySem PyProof.Rows
noncomputable def pQ (first:Value) (i:Nat) (a:Addr) (n ep:Nat):Obj:={ cls := .type "set_iterator",data := .fields #[first,rawInt i,.ref a,rawInt n,rawInt ep] }
section
variable {prog:Program}{w:World}{A:Around}{E:Value->Shared->Prop}{s:Shared}{I a:Addr}{es:Array (Int×Value)}{ep:Nat}{t:SetTable}
theorem xf {first:Value}{i n:Nat}{Q:Value->Shared->Prop} (h:s.heap.get? I=some (pQ first i a n ep)) (q:Q (.ref I) s):aH (model prog w) A (pyIter (.ref I)) Q E s:=by
 have hT:s.TypeIs (.ref I) "set_iterator":=⟨_,h,rfl⟩
 refine wpAny_pyIter_slot hT GS.slot_sii (dX GS.slot_sii hT GS.entry_sii ?_ (GS.args_sii _));show aH _ _ (ret (.ref I)) _ _ s;exact az ⟨_,rfl,"set_iterator",_,hT,GS.slot_si.lookup,q⟩
noncomputable def rL (w:World) (a:Addr) (ep:Nat) (es:Array (Int×Value)):List (Int×Value):=if w.params.followText "set-order"=true then (pickOrder (w.params.setOrder a ep) es).toList else es.toList
theorem mQ:(rL w a ep es).Perm es.toList:=by
 unfold rL
 split
 ·exact A0 _ _
 ·exact .refl _
theorem z9 {slot i:Nat}{Q:Option (Value×Nat)->Shared->Prop} (ho:s.heap.get? a=some (ly es ep t)) (hf:t.fits es.size=true) (hr:oR t.place) (hl:w.params.followText "set-order"=false->t.led=true/\(t.plain=true\/es.size<=1)/\be t.place slot=i)
  (hq : ∀ j,(w.params.followText "set-order"=false -> ∀ h:i < t.place.size,j=t.place[i]+1)->Q (((rL w a ep es)[i]?).map fun e=>(e.2,j)) s):aH (model prog w) A (setNext a slot i ep) Q E s:=by
 have hz:t.place.size=es.size:=by simp only [SetTable.fits,aB,beq_iff_eq] at hf;exact hf.1
 unfold setNext;refine ae (jt ho rfl hf ?_);dsimp only;unfold setsByText;refine ae (ae (j8 (az ?_)))
 cases hb:w.params.followText "set-order" with
 | true=>
   have hb':(model prog w).w.params.followText "set-order"=true:=hb
   simp only [hb',if_true,bne_self_eq_false,eE,if_false]
   unfold setWalk;refine ae (ae (jt ho rfl hf ?_));(try dsimp only);unfold setsByText;refine ae (ae (j8 (az ?_)));simp only [hb',if_true];refine ae (j8 (az (az ?_)))
   have:=hq slot (fun z=>by rw [hb] at z;cases z)
   unfold rL at this
   rw [if_pos hb,fV] at this
   exact this
 | false=>
   have hb':(model prog w).w.params.followText "set-order"=false:=hb
   obtain⟨h1,h2,h3⟩:=hl hb
   simp only [hb',eE,if_false]
   refine wpAny_ite_split (fun z => ?_) (fun _ => ?_)
   ·have z':(!t.plain&&decide (es.size > 1))=true:=z
    rw [aB] at z'
    rcases h2 with h2 | h2
    ·rw [h2] at z';exact absurd z'.1 (by decide)
    ·have:=of_decide_eq_true z'.2;omega
   ·refine ae ?_;show aH _ _ (if (!t.led && !es.isEmpty)=true then unsupported "set:maker-not-led" else pure ()) _ _ s;rw [h1,if_neg (by simp)];refine az ?_;(try dsimp only);rw [h3]
    have ho':(rL w a ep es)[i]? = es[i]? := by unfold rL;rw [if_neg (by rw [hb];decide),fV]
    rw [ho'] at hq
    by_cases hi:i < es.size
    ·have hi2:i < t.place.size:=by omega
     rw [eP hi,eP hi2]
     have:=hq (t.place[i]+1) (fun _ _=>rfl)
     rw [eP hi] at this
     exact az this
    ·rw [By (by omega)]
     have:=hq 0 (fun _ h=>by omega)
     rw [By (by omega)] at this
     exact az this
theorem yl {slot i:Nat}{v:Value}{Q:Option Value->Shared->Prop} (hI:s.heap.get? I=some (pQ (rawInt slot) i a es.size ep)) (ho:s.heap.get? a=some (ly es ep t)) (hf:t.fits es.size=true) (hr:oR t.place)
  (hl:w.params.followText "set-order"=false->t.led=true/\(t.plain=true\/es.size<=1)/\be t.place slot=i) (hv:((rL w a ep es)[i]?).map (·.2)=some v)
  (hQ : ∀ (h':Heap) (slot':Nat),h'.get? I=some (pQ (rawInt slot') (i+1) a es.size ep)->(w.params.followText "set-order"=false->be t.place slot'=i+1)->fI I s.heap h'->Q (some v) { s with heap:=h' }):aH (model prog w) A (pyNext (.ref I)) Q E s:=by
 have hT:s.TypeIs (.ref I) "set_iterator":=⟨_,hI,rfl⟩
 have hz:t.place.size=es.size:=by simp only [SetTable.fits,aB,beq_iff_eq] at hf;exact hf.1
 unfold pyNext;refine ae (ur (i6 (name:=nW "__next__") hT GS.slot_si (dX GS.slot_si hT GS.entry_si ?_ (GS.args_si _))));unfold Builtin.«set_iterator.__next__»;refine ae (ie (a:=(bp I,[])) rfl ?_);(try dsimp only);refine ae (se hI rfl ?_)
 show aH _ _ (setEntries a >>= _) _ _ s;refine ae (iH ho rfl hf ?_);rw [if_neg (by simp)];show aH _ _ (setNext a ((slot:Int)).toNat ((i:Int)).toNat ((ep:Int)).toNat >>= _) _ _ s;rw [cM,cM,cM]
 refine ae (z9 ho hf hr hl fun j hj => ?_)
 obtain⟨e,he,rfl⟩:=d8.mp hv
 rw [he]
 have hi:i < es.size:=by have:=(ag.mp he).1;rw [(mQ (w:=w) (a:=a) (ep:=ep) (es:=es)).length_eq] at this;simpa using this
 show aH _ _ (setField (.ref I) 0 (rawInt j) >>= _) _ _ s;refine ae (gf hI (by simp) fun h1 g1 s1 => ?_);refine ae (gf g1 (by simp) fun h2 g2 s2 => ?_)
 refine az ⟨_,rfl,az (hQ h2 j ?_ (fun hb => ?_) (s1.trans s2))⟩
 ·exact g2
 ·rw [hj hb (by omega)];exact yj hr _
theorem Bt {slot:Nat}{Q:Option Value->Shared->Prop} (hh:A.handled=none) (hI:s.heap.get? I=some (pQ (rawInt slot) es.size a es.size ep)) (ho:s.heap.get? a=some (ly es ep t)) (hf:t.fits es.size=true) (hr:oR t.place)
  (hl:w.params.followText "set-order"=false->t.led=true/\(t.plain=true\/es.size<=1)/\be t.place slot=es.size) (hQ : ∀ h',EB I s.heap h'->Q none { s with heap:=h' }):aH (model prog w) A (pyNext (.ref I)) Q E s:=by
 have hT:s.TypeIs (.ref I) "set_iterator":=⟨_,hI,rfl⟩
 unfold pyNext;refine ae (ur (i6 (name:=nW "__next__") hT GS.slot_si (dX GS.slot_si hT GS.entry_si ?_ (GS.args_si _))));unfold Builtin.«set_iterator.__next__»;refine ae (ie (a:=(bp I,[])) rfl ?_);(try dsimp only);refine ae (se hI rfl ?_)
 show aH _ _ (setEntries a >>= _) _ _ s;refine ae (iH ho rfl hf ?_);rw [if_neg (by simp)];show aH _ _ (setNext a ((slot:Int)).toNat ((es.size:Int)).toNat ((ep:Int)).toNat >>= _) _ _ s;rw [cM,cM,cM]
 refine ae (z9 ho hf hr hl fun j hj => ?_)
 rw [eK (by rw [(mQ (w:=w) (a:=a) (ep:=ep) (es:=es)).length_eq];simp)]
 show aH _ _ (setField (.ref I) 2 .none >>= _) _ _ s;refine ae (gf hI (by simp) fun h1 g1 s1 => ?_)
 show aH _ _ (newExc (.type "StopIteration") [] >>= _) _ _ _;refine ae ?_;simp only [newExc,newTuple];refine ae (cU ?_ (by size_fits));refine ae (m:=firstArgMember _ _) (ie (a:=fH) (by first | rfl | (simp only [firstArgMember];rfl)) ?_);refine cU ?_ (by size_fits);simp only [raiseNew];refine ae (wpAny_handled ?_)
 first | rw [show A.in1.handled=none from hh] | rw [hh]
 refine ae (az (wpAny_throw ?_));refine ae (oZ (T:="StopIteration") (b:=true) ⟨_,ax _ rfl,rfl⟩ isSubtype_stop ?_);exact az (hQ _ ((s1.extBut.push _).push _))
noncomputable def tupI (idx:List Nat):Obj:={ cls := .type "tuple",data := .seq (idx.map fun (k:Nat)=>rawInt k).toArray }
theorem yd {F:Addr}{idx:List Nat}{i k:Nat}{e:Int×Value}{Q:Option Value->Shared->Prop} (hI:s.heap.get? I=some (pQ (.ref F) i a es.size ep)) (ho:s.heap.get? a=some (ly es ep t)) (hF:s.heap.get? F=some (tupI idx)) (hf:t.fits es.size=true) (hk:idx[i]? = some k) (he:es[k]? = some e)
  (hQ : ∀ h',h'.get? I=some (pQ (.ref F) (i+1) a es.size ep)->fI I s.heap h'->Q (some e.2) { s with heap:=h' }):aH (model prog w) A (pyNext (.ref I)) Q E s:=by
 have hT:s.TypeIs (.ref I) "set_iterator":=⟨_,hI,rfl⟩
 unfold pyNext;refine ae (ur (i6 (name:=nW "__next__") hT GS.slot_si (dX GS.slot_si hT GS.entry_si ?_ (GS.args_si _))));unfold Builtin.«set_iterator.__next__»;refine ae (ie (a:=(bp I,[])) rfl ?_);(try dsimp only);refine ae (se hI rfl ?_)
 show aH _ _ (setEntries a >>= _) _ _ s;refine ae (iH ho rfl hf ?_);rw [if_neg (by simp)];show aH _ _ (seqItems? (.ref F) >>= _) _ _ s;refine ae (wpAny_seqItems hF rfl ?_);(try dsimp only);rw [cM]
 have h1:((idx.map fun (k:Nat)=>rawInt k).toArray)[i]? = some (rawInt k):=by simp [hk]
 rw [h1];show aH _ _ (setNextDrawn a ((k:Int)).toNat ((ep:Int)).toNat >>= _) _ _ s;rw [cM,cM];unfold setNextDrawn
 refine ae (ae (jt ho rfl hf ?_));dsimp only;rw [if_neg (by simp),he];refine az ?_
 refine ae (gf hI (by simp) fun h2 g2 s2 => ?_)
 exact az ⟨_,rfl,az (hQ h2 g2 s2)⟩
theorem A7 {F:Addr}{idx:List Nat}{Q:Option Value->Shared->Prop} (hh:A.handled=none) (hI:s.heap.get? I=some (pQ (.ref F) idx.length a es.size ep)) (ho:s.heap.get? a=some (ly es ep t)) (hF:s.heap.get? F=some (tupI idx)) (hf:t.fits es.size=true)
  (hQ : ∀ h',EB I s.heap h'->Q none { s with heap:=h' }):aH (model prog w) A (pyNext (.ref I)) Q E s:=by
 have hT:s.TypeIs (.ref I) "set_iterator":=⟨_,hI,rfl⟩
 unfold pyNext;refine ae (ur (i6 (name:=nW "__next__") hT GS.slot_si (dX GS.slot_si hT GS.entry_si ?_ (GS.args_si _))));unfold Builtin.«set_iterator.__next__»;refine ae (ie (a:=(bp I,[])) rfl ?_);(try dsimp only);refine ae (se hI rfl ?_)
 show aH _ _ (setEntries a >>= _) _ _ s;refine ae (iH ho rfl hf ?_);rw [if_neg (by simp)];show aH _ _ (seqItems? (.ref F) >>= _) _ _ s;refine ae (wpAny_seqItems hF rfl ?_);(try dsimp only);rw [cM]
 have h1:((idx.map fun (k:Nat)=>rawInt k).toArray)[idx.length]? = none:=by simp
 rw [h1];show aH _ _ (setField (.ref I) 0 (rawInt 0) >>= _) _ _ s;refine ae (gf hI (by simp) fun h2 g2 s2 => ?_);refine ae (gf g2 (by simp) fun h3 g3 s3 => ?_)
 show aH _ _ (newExc (.type "StopIteration") [] >>= _) _ _ _;refine ae ?_;simp only [newExc,newTuple];refine ae (cU ?_ (by size_fits));refine ae (m:=firstArgMember _ _) (ie (a:=fH) (by first | rfl | (simp only [firstArgMember];rfl)) ?_);refine cU ?_ (by size_fits);simp only [raiseNew];refine ae (wpAny_handled ?_)
 first | rw [show A.in1.handled=none from hh] | rw [hh]
 refine ae (az (wpAny_throw ?_));refine ae (oZ (T:="StopIteration") (b:=true) ⟨_,ax _ rfl,rfl⟩ isSubtype_stop ?_);exact az (hQ _ (((s2.extBut.trans s3.extBut).push _).push _))
end
end _L
end
section
namespace _L
open PySem PyProof.Rows
section
variable {prog:Program}{w:World}{A:Around}{E:Value->Shared->Prop}{s:Shared}{I a:Addr}{es:Array (Int×Value)}{ep:Nat}{t:SetTable}
theorem MR (hh:A.handled=none) (hne:a≠I) (hf:t.fits es.size=true) (hr:oR t.place) (hl:w.params.followText "set-order"=false->t.led=true/\(t.plain=true\/es.size<=1)) :
  Walks prog w A I [I,a] [I] es.size (fun i v=>((rL w a ep es).map (·.2))[i]? = some v) (fun i h => ∃ slot:Nat,h.get? I=some (pQ (rawInt slot) i a es.size ep)/\h.get? a=some (ly es ep t)/\(w.params.followText "set-order"=false->be t.place slot=i)) where
 sub:=fun b hb=>by simp at hb;simp [hb]
 frame:=fun _ _ _ ⟨slot,g1,g2,g3⟩ hk=>⟨slot,hk I (by simp) _ g1,hk a (by simp) _ g2,g3⟩
 item:=fun i s Q E hi ⟨slot,g1,g2,g3⟩ hQ=>by
  have hl2:i < (rL w a ep es).length:=by rw [mQ.length_eq];simpa using hi
  refine yl (v:=(rL w a ep es)[i].2) g1 g2 hf hr (fun hb=>⟨(hl hb).1,(hl hb).2,g3 hb⟩) (by rw [ay hl2];rfl) fun h' slot' q1 q2 q3 => ?_
  exact hQ _ h' s.toks (by rw [bg,ay hl2];rfl) ⟨slot',q1,(q3.2 a hne).trans g2,q2⟩ fun b o hb e=>(q3.2 b (fun z=>hb (by simp [z]))).trans e
 done:=fun s Q E ⟨slot,g1,g2,g3⟩ hQ=>Bt hh g1 g2 hf hr (fun hb=>⟨(hl hb).1,(hl hb).2,g3 hb⟩) fun h' he'=>hQ h' s.toks fun b o hb e=>he' b o (fun z=>hb (by simp [z])) e
 self:=fun _ _ _ _ ⟨_,g1,_,_⟩ hQ=>xf g1 hQ
theorem vG : ∀ (l:List Nat),(∀ k∈l,k < es.size)->(l.filterMap fun k=>(es[k]?).map (·.2))=l.map fun k=>(es[k]?.getD default).2
 | [],_=>rfl
 | k::l,h=>by
   have hk:=h k (by simp)
   rw [List.filterMap_cons_some (b:=(es[k]?.getD default).2) (by simp [hk]),bA,vG l fun j hj=>h j (aD _ hj)]
theorem CK {idx:List Nat}{n:Nat} (hp:idx.Perm (ar n)):idx.length=n:=by have:=hp.length_eq;simpa using this
theorem M0 {F:Addr}{idx:List Nat} (hh:A.handled=none) (hne:a≠I) (hnF:F≠I) (hf:t.fits es.size=true) (hp:idx.Perm (ar es.size)) :
  Walks prog w A I [I,a,F] [I] es.size (fun i v=>(idx.filterMap fun k=>(es[k]?).map (·.2))[i]? = some v) (fun i h=>h.get? I=some (pQ (.ref F) i a es.size ep)/\h.get? a=some (ly es ep t)/\h.get? F=some (tupI idx)) where
 sub:=fun b hb=>by simp at hb;simp [hb]
 frame:=fun _ _ _ st hk=>⟨hk I (by simp) _ st.1,hk a (by simp) _ st.2.1,hk F (by simp) _ st.2.2⟩
 item:=fun i s Q E hi st hQ=>by
  have hl:idx.length=es.size:=by have:=hp.length_eq;simpa using this
  have hi2:i < idx.length:=by omega
  have hk:idx[i] < es.size:=bb.mp (hp.mem_iff.mp (cY hi2))
  refine yd (k:=idx[i]) (e:=es[idx[i]]) st.1 st.2.1 st.2.2 hf (ay hi2) (eP hk) fun h' q1 q3 => ?_
  refine hQ _ h' s.toks ?_ ⟨q1,(q3.2 a hne).trans st.2.1,(q3.2 F hnF).trans st.2.2⟩ fun b o hb e=>(q3.2 b (fun z=>hb (by simp [z]))).trans e
  have e:(idx.filterMap fun k=>(es[k]?).map (·.2))=idx.map fun k=>(es[k]?.getD default).2:=by
   exact vG idx fun k hk'=>bb.mp (hp.mem_iff.mp hk')
  rw [e,bg,ay hi2]
  simp [hk]
 done:=fun s Q E st hQ=>A7 hh ((CK hp).symm▸st.1) st.2.1 st.2.2 hf fun h' he'=>hQ h' s.toks fun b o hb e=>he' b o (fun z=>hb (by simp [z])) e
 self:=fun _ _ _ _ st hQ=>xf st.1 hQ
theorem Cb {ns:List Int}{Q:Value->Shared->Prop} (ho:s.heap.get? a=some (ly es ep t)) (he:uB prog w (!w.params.followText "set-order") ns es t) (hz:es.size<=sizeLine)
  (hQ : ∀ (I:Addr) (fp:List Addr) (St:Nat->Heap->Prop) (L:List Value) h' d,(∀ A':Around,A'.handled=none->Walks prog w A' I fp [I] es.size (fun i v=>L[i]? = some v) St)->St 0 h'->(∀ b∈fp,b < h'.objs.size)->L.Perm (es.toList.map (·.2))->(∀ b o,s.heap.get? b=some o->h'.get? b=some o)->s.heap.objs.size<=I->(∀ b∈fp,b=a\/s.heap.objs.size<=b)->Q (.ref I) { s with heap:=h',drawn:=d }) :
  aH (model prog w) A (pyIter (.ref a)) Q E s:=by
 have hT:s.TypeIs (.ref a) "set":=⟨_,ho,rfl⟩
 have la : @Ek Nat _ a s.heap.objs.size:=aC ho
 refine wpAny_pyIter_slot hT Af (dX Af hT GS.entry_seti ?_ (PySem.F.args_set_iter_1 _));unfold Builtin.«frozenset.__iter__»;refine ae (ie (a:=a) rfl ?_);unfold Builtin.Frozenset.sizeOf;refine ae (ae (iH ho rfl he.fit (az ?_)))
 unfold setDrawn;refine ae (ae (jt ho rfl he.fit ?_));dsimp only;unfold setsByText;refine ae (ae (j8 (az (az ?_))))
 have fin : ∀ (first:Value) (h1:Heap) d (fp:List Addr) (St:Nat->Heap->Prop) (L:List Value),(∀ b o,s.heap.get? b=some o->h1.get? b=some o) -> @LE.le Nat _ s.heap.objs.size h1.objs.size->(∀ A':Around,A'.handled=none->Walks prog w A' h1.objs.size fp [h1.objs.size] es.size (fun i v=>L[i]? = some v) St)->St 0 (h1.push (pQ first 0 a es.size ep)) ->
   (∀ b∈fp,b=h1.objs.size\/(@Ek Nat _ b h1.objs.size/\(b=a \/ @LE.le Nat _ s.heap.objs.size b)))->L.Perm (es.toList.map (·.2))->aH (model prog w) A.in1 (setEpoch a >>= fun e=>newFields "set_iterator" [first,rawInt 0,.ref a,rawInt es.size,rawInt e] >>= fun v=>ret v) (fun f s' => ∃ v,f = .done (.ret v) /\ ∃ T' r,s'.TypeIs v T'/\typeLookup (.type T') (nW "__next__")=pure (some r)/\Q v s') E { s with heap:=h1,drawn:=d }:=by
  intro first h1 d fp St L hk hle W st hfp hL
  refine ae (wpAny_setEpoch_of (s:={ s with heap:=h1,drawn:=d }) (hk _ _ ho) rfl he.fit ?_);unfold newFields;refine ae (cU ?_ (by size_fits))
  have sz:(h1.push (pQ first 0 a es.size ep)).objs.size=h1.objs.size+1:=bw ..
  refine az ⟨_,rfl,"set_iterator",_,⟨_,ax _ rfl,rfl⟩,GS.slot_si.lookup,hQ h1.objs.size fp St L _ d W st (fun b hb => ?_) hL (fun b o e=>ah _ (hk b o e)) hle fun b hb => ?_⟩
  ·show @Ek Nat _ b (h1.push (pQ first 0 a es.size ep)).objs.size
   rw [sz]
   rcases hfp b hb with z | z
   ·rw [z];exact cg _
   ·exact cq z.1
  ·rcases hfp b hb with z | z
   ·rw [z];exact .inr hle
   ·exact z.2
 have ne:a≠s.heap.objs.size:=aG la
 refine wpAny_ite_split (fun z => ?_) (fun z => ?_)
 ·have z':(!w.params.followText "set-order"&&(!t.plain&&decide (es.size > 1)))=true:=z
  refine ae (xI _ _ _ (by simp) fun idx d hp => ?_)
  have hl:idx.length=es.size:=by have:=hp.length_eq;simpa using this
  refine ae (wpAny_newTuple ?_ (by rw [aw,hl];exact hz))
  have sz:(s.heap.push (tupI idx)).objs.size=s.heap.objs.size+1:=bw ..
  have n1:a≠(s.heap.push (tupI idx)).objs.size:=aG (by rw [sz];exact cq la)
  have n2:s.heap.objs.size≠(s.heap.push (tupI idx)).objs.size:=aG (by rw [sz];exact cg _)
  refine fin (.ref s.heap.objs.size) (s.heap.push (tupI idx)) d [(s.heap.push (tupI idx)).objs.size,a,s.heap.objs.size] _ (idx.filterMap fun k=>(es[k]?).map (·.2)) (fun b o e=>ah _ e) (by rw [sz];exact dO _) (fun A' hh=>M0 (ep:=ep) (t:=t) hh n1 n2 he.fit hp) ⟨ax _ rfl,ah _ (ah _ ho),ah _ (ax _ rfl)⟩ (fun b hb => ?_) ?_
  ·rcases aJ.mp hb with q | hb
   ·exact .inl q
   ·rcases aJ.mp hb with q | hb
    ·exact .inr ⟨by rw [q,sz];exact cq la,.inl q⟩
    ·have q:=bN.mp hb
     exact .inr ⟨by rw [q,sz];exact cg _,.inr (by rw [q];exact aj _)⟩
  ·rw [vG idx fun k hk=>bb.mp (hp.mem_iff.mp hk)]
   refine (hp.map _).trans ?_
   rw [<- vG (ar es.size) fun k hk=>bb.mp hk,<- List.map_filterMap,filterMap_getElem?_range]
 ·have z' : ¬ (!w.params.followText "set-order"&&(!t.plain&&decide (es.size > 1)))=true:=z
  refine ae (az ?_)
  refine fin (rawInt (0:Nat)) s.heap s.drawn [s.heap.objs.size,a] _ ((rL w a ep es).map (·.2)) (fun b o e=>e) (aj _) (fun A' hh=>MR (ep:=ep) hh ne he.fit he.tab.r fun hb => ?_) ⟨0,ax _ rfl,ah _ ho,fun _=>zc he.tab.r⟩ (fun b hb => ?_) (mQ.map _)
  ·refine⟨by rw [he.tab.l,hb];rfl,?_⟩
   rw [hb] at z'
   by_cases p:t.plain=true
   ·exact .inl p
   ·right
    rw [Bool.not_eq_true] at p
    rw [p] at z'
    simpa using z'
  ·rcases aJ.mp hb with q | hb
   ·exact .inl q
   ·have q:=bN.mp hb
    exact .inr ⟨by rw [q];exact la,.inl q⟩
end
end _L
end
section
namespace _L
open PySem PySem.Spec PyProof.Rows
section
variable {κ:Type} [DecidableEq κ]
noncomputable def mm (kvs:List (κ×V)) (k:κ):Option V:=(kvs.find? fun kv=>decide (kv.1=k)).map (·.2)
noncomputable def putK (kvs:List (κ×V)) (k:κ) (v:V):List (κ×V):=
 if (kvs.any fun kv=>decide (kv.1=k))=true then kvs.map (fun kv=>if kv.1=k then (kv.1,v) else kv) else kvs ++ [(k,v)]
theorem lQ {p:κ×V}{r:List (κ×V)}{k:κ} (e:p.1=k):mm (p::r) k=some p.2:=by simp [mm,bO,e]
theorem lK {p:κ×V}{r:List (κ×V)}{k:κ} (e : ¬ p.1=k):mm (p::r) k=mm r k:=by simp [mm,bO,e]
theorem wI (k:κ) : ∀ kvs:List (κ×V),(kvs.any fun kv=>decide (kv.1=k))=(mm kvs k).isSome
 | []=>rfl
 | p::r=>by
   rw [eh]
   by_cases e:p.1=k
   ·simp only [lQ e,decide_eq_true e,Bool.true_or,EC]
   ·rw [lK e,decide_eq_false e,Bool.false_or];exact wI k r
theorem lV (kvs:List (κ×V)) (k:κ) (v:V):(putK kvs k v).length<=kvs.length+1:=by
 unfold putK
 split
 ·rw [aw];omega
 ·rw [aX,dA,iq];omega
theorem qT.isSome_eq {o:Option V}{u:Option Value} (r:qT o u):o.isSome=u.isSome:=by
 cases o with
 | none=>cases u with
   | none=>rfl
   | some _=>exact (show False from r).elim
 | some _=>cases u with
   | none=>exact (show False from r).elim
   | some _=>rfl
theorem KV.val {kvs:List (κ×V)}{vs:List (κ×Value)} (r:KV kvs vs) (k:κ):qT (mm kvs k) (valueAt vs k):=by
 unfold KV at r
 induction r with
 | nil=>exact fJ
 | @cons p q ps qs h t ih=>
   obtain⟨h1,h2⟩:=h
   by_cases e:p.1=k
   ·have e':q.1=k:=h1.symm.trans e
    have b:valueAt (q::qs) k=some q.2:=by simp [valueAt,bO,e']
    rw [lQ e,b];exact h2
   ·have e' : ¬ q.1=k:=fun z=>e (h1.trans z)
    have b:valueAt (q::qs) k=valueAt qs k:=by simp [valueAt,bO,e']
    rw [lK e,b];exact ih
theorem KV.any {kvs:List (κ×V)}{vs:List (κ×Value)} (r:KV kvs vs) (k:κ):(kvs.any fun kv=>decide (kv.1=k))=vs.any fun kv=>decide (kv.1=k):=by
 unfold KV at r
 induction r with
 | nil=>rfl
 | cons h t ih=>rw [eh,eh,ih,h.1]
theorem KV.repl {kvs:List (κ×V)}{vs:List (κ×Value)} (r:KV kvs vs) (k:κ) {y:V}{u:Value} (ry:RelV y u) :
  KV (kvs.map fun kv=>if kv.1=k then (kv.1,y) else kv) (vs.map fun kv=>if kv.1=k then (kv.1,u) else kv):=by
 unfold KV at r ⊢
 induction r with
 | nil=>exact .nil
 | @cons p q ps qs h t ih=>
   rw [bA,bA]
   refine .cons ?_ ih
   obtain⟨h1,h2⟩:=h
   by_cases e:p.1=k
   ·rw [if_pos e,if_pos (h1.symm.trans e)];exact⟨h1,ry⟩
   ·rw [if_neg e,if_neg (fun z=>e (h1.trans z))];exact⟨h1,h2⟩
theorem KV.put {kvs:List (κ×V)}{vs:List (κ×Value)} (r:KV kvs vs) (k:κ) {y:V}{u:Value} (ry:RelV y u):KV (putK kvs k y) (stored vs k u):=by
 unfold putK stored
 rw [r.any k]
 by_cases e:(vs.any fun kv=>decide (kv.1=k))=true
 ·rw [if_pos e,if_pos e];exact r.repl k ry
 ·rw [if_neg e,if_neg e];exact Paired.snoc r ⟨rfl,ry⟩
theorem KV.length {kvs:List (κ×V)}{vs:List (κ×Value)} (r:KV kvs vs):kvs.length=vs.length:=xY r
end
theorem wL {P:Program}{w:World}{k:Key}{u:Value} (r:RelV (kV k) u):(dQ P w).is k u=true:=by
 cases k with
 | inl i=>obtain⟨t,e⟩:=(show ∃ t,u=my i t from r);subst e;exact wb P w i t
 | inr x=>obtain⟨t,e⟩:=(show ∃ t,u=tu x t from r);subst e;exact wB P w x t
theorem tX {P:Program}{w:World} : ∀ {ks:List Key}{us:List Value},cu (ks.map kV) us->ItemsAre (dQ P w) ks us
 | [],_,r=>by rw [nA] at r;cases r;exact .nil
 | k::ks,_,r=>by
   rw [bA] at r
   cases r with
   | cons h t=>exact .cons (wL h) (tX t)
abbrev KT (H:Hp):List (List Key×V)->List (List Key×Addr×Value)->Prop:=Paired fun p q=>p.1=q.1/\H q.2.1=some (.tup (p.1.map kV))/\RelV p.2 q.2.2
theorem KT.val {H:Hp}{kvs:List (List Key×V)}{xs:List (List Key×Addr×Value)} (r:KT H kvs xs) (k:List Key):qT (mm kvs k) ((atKey xs k).map (·.2)):=by
 induction r with
 | nil=>exact fJ
 | @cons p q ps qs h t ih=>
   obtain⟨h1,_,h2⟩:=h
   by_cases e:p.1=k
   ·have e':q.1=k:=h1.symm.trans e
    have b:atKey (q::qs) k=some q.2:=by simp [atKey,bO,e']
    rw [lQ e,b];exact h2
   ·have e' : ¬ q.1=k:=fun z=>e (h1.trans z)
    have b:atKey (q::qs) k=atKey qs k:=by simp [atKey,bO,e']
    rw [lK e,b];exact ih
theorem KT.repl {H:Hp}{kvs:List (List Key×V)}{xs:List (List Key×Addr×Value)} (r:KT H kvs xs) (k:List Key) {y:V}{u:Value} (ry:RelV y u) :
  KT H (kvs.map fun kv=>if kv.1=k then (kv.1,y) else kv) (xs.map (putAt k u)):=by
 induction r with
 | nil=>exact .nil
 | @cons p q ps qs h t ih=>
   rw [bA,bA]
   refine .cons ?_ ih
   obtain⟨h1,h2,h3⟩:=h
   unfold putAt
   by_cases e:p.1=k
   ·rw [if_pos e,if_pos (h1.symm.trans e)];exact⟨h1,h2,ry⟩
   ·rw [if_neg e,if_neg (fun z=>e (h1.trans z))];exact⟨h1,h2,h3⟩
theorem KT.put {H:Hp}{kvs:List (List Key×V)}{xs:List (List Key×Addr×Value)} (r:KT H kvs xs) (k:List Key) {b:Addr}{y:V}{u:Value} (hb:H b=some (.tup (k.map kV))) (ry:RelV y u) :
  KT H (putK kvs k y) (storedH xs k b u):=by
 have e:(kvs.any fun kv=>decide (kv.1=k))=(atKey xs k).isSome:=by
  rw [wI,(r.val k).isSome_eq,qo]
 unfold putK storedH
 rw [e]
 by_cases q:(atKey xs k).isSome=true
 ·rw [if_pos q,if_pos q];exact r.repl k ry
 ·rw [if_neg q,if_neg q];exact Paired.snoc r ⟨rfl,hb,ry⟩
theorem KT.keeps {H H':Hp}{kvs:List (List Key×V)}{xs:List (List Key×Addr×Value)} (r:KT H kvs xs) (ht : ∀ b ys,H b=some (.tup ys)->H' b=some (.tup ys)):KT H' kvs xs:=
 Paired.mapP r fun _ _ z=>⟨z.1,ht _ _ z.2.1,z.2.2⟩
section
variable {P:Program}{w:World}{H:Hp}{h:Heap}{a:Addr}
theorem Hz {u:HO} (ok:HOk P w H h) (e:Rd H a u):d6 P w H h a u:=e.ok ok
theorem vV {kvs:List (Key×V)} (ok:HOk P w H h) (e:Rd H a (.dK kvs)):kvs.length<=sizeLine/\(a == sysModules)=false /\ ∃ vs,KV kvs vs/\h.DictOf (dQ P w) a vs:=
 show d6 P w H h a (.dK kvs) from Hz ok e
theorem G6 {kvs:List (Key×V)} (ok:HOk P w H h) (e:H a=some (.dK kvs)):kvs.length<=sizeLine/\(a == sysModules)=false /\ ∃ vs,KV kvs vs/\h.DictOf (dQ P w) a vs:=vV ok (.inl e)
theorem vf {ks:List Key} (ok:HOk P w H h) (e:H a=some (.tup (ks.map kV))):(tupleKind (dQ P w)).is h ks a:=by
 obtain⟨_,its,r,⟨o,h1,h2,n,h3⟩,_⟩:=(show d6 P w H h a (.tup (ks.map kV)) from ok a _ e)
 exact⟨o,its.toArray,n,h1,h2,h3,by simpa using tX r⟩
theorem zw {kvs:List (List Key×V)} (ok:HOk P w H h) (e:Rd H a (.dT kvs)):kvs.length<=sizeLine/\(a == sysModules)=false /\
  ∃ xs,KT H kvs xs/\h.DictOfH (tupleKind (dQ P w)) a xs:=by
 obtain⟨z,y,xs,r,o,es,ep,h1,h2,h3,h4,h5⟩:=(show d6 P w H h a (.dT kvs) from Hz ok e)
 refine⟨z,y,xs,r,o,es,ep,h1,h2,h3,h4,fun x hx => ?_,h5⟩
 have all : ∀ {l:List (List Key×V)}{m:List (List Key×Addr×Value)},KT H l m -> ∀ x∈m,(tupleKind (dQ P w)).is h x.1 x.2.1:=by
  intro l m q
  induction q with
  | nil=>intro x hx;exact nomatch hx
  | @cons p q ps qs hq t ih=>
    intro x hx
    rcases aJ.mp hx with e | hx
    ·subst e
     exact vf ok (by rw [<- hq.1];exact hq.2.1)
    ·exact ih x hx
 exact all r x hx
theorem LY {kvs:List (List Key×V)} (ok:HOk P w H h) (e:H a=some (.dT kvs)):kvs.length<=sizeLine/\(a == sysModules)=false /\
  ∃ xs,KT H kvs xs/\h.DictOfH (tupleKind (dQ P w)) a xs:=zw ok (.inl e)
end
noncomputable def uA (H:Hp) (a:Addr) (y:V) (r:Option V):Prop:=
 (∃ kvs k,Rd H a (.dK kvs)/\y=kV k/\r=mm kvs k) \/ ∃ kvs k b,Rd H a (.dT kvs)/\y = .ref b/\H b=some (.tup (k.map kV))/\r=mm kvs k
noncomputable def AW (H:Hp) (a:Addr) (y v:V) (H':Hp):Prop:=
 (∃ kvs k,H a=some (.dK kvs)/\y=kV k/\kvs.length < sizeLine/\H'=upd H a (.dK (putK kvs k v))) \/
 ∃ kvs k b,H a=some (.dT kvs)/\y = .ref b/\H b=some (.tup (k.map kV))/\kvs.length < sizeLine/\H'=upd H a (.dT (putK kvs k v))
theorem uA.k {H:Hp}{a:Addr}{kvs:List (Key×V)}{k:Key} (e:H a=some (.dK kvs)):uA H a (kV k) (mm kvs k) := .inl ⟨kvs,k,.inl e,rfl,rfl⟩
theorem uA.t {H:Hp}{a b:Addr}{kvs:List (List Key×V)}{k:List Key} (e:H a=some (.dT kvs)) (eb:H b=some (.tup (k.map kV))):uA H a (.ref b) (mm kvs k) := .inr ⟨kvs,k,b,.inl e,rfl,eb,rfl⟩
theorem AW.k {H:Hp}{a:Addr}{kvs:List (Key×V)}{k:Key}{v:V} (e:H a=some (.dK kvs)) (hl:kvs.length < sizeLine):AW H a (kV k) v (upd H a (.dK (putK kvs k v))) := .inl ⟨kvs,k,e,rfl,hl,rfl⟩
theorem AW.t {H:Hp}{a b:Addr}{kvs:List (List Key×V)}{k:List Key}{v:V} (e:H a=some (.dT kvs)) (eb:H b=some (.tup (k.map kV))) (hl:kvs.length < sizeLine) :
  AW H a (.ref b) v (upd H a (.dT (putK kvs k v))) := .inr ⟨kvs,k,b,e,rfl,eb,hl,rfl⟩
section
variable {X:Cx}{pins:List (Addr×Obj)}{σ:St}{H:Hp}{s:Shared}{a:Addr}{y v:V}{u r:Value}{o:Option V}{A:Around}{E:Value->Shared->Prop}
theorem Inv.big (I:Inv X pins σ H s):sysModules < s.heap.objs.size:=by
 have h:mainGlobals < s.heap.objs.size:=(I.mod.glob.keeps I.bk).lt
 exact bK (by decide) h
theorem Bb {Q:Value->Shared->Prop} (hu:A.units+1 < cLine) (I:Inv X pins σ H s) (g:uA H a y (some v)) (ry:RelV y u) (h : ∀ w' s',Inv X pins σ H s'->RelV v w'->Q w' s') :
  aH (model X.prog X.w) A (getItem (.ref a) u) Q E s:=by
 rcases g with⟨kvs,k,e,ey,l⟩ | ⟨kvs,k,b,e,ey,eb,l⟩
 ·subst ey
  obtain⟨z,hd,vs,rel,dd⟩:=vV I.hok e
  obtain⟨w',hw,rw'⟩:=qT.some_of (v:=v) (o:=valueAt vs k) (by rw [l];exact rel.val k)
  exact wpAny_getItem_of (wL ry) dd.mapOf hw (h w' _ (I.tok _) rw')
 ·subst ey
  cases (show u=bp b from ry)
  obtain⟨z,hd,xs,rel,dd⟩:=zw I.hok e
  obtain⟨w',hw,rw'⟩:=qT.some_of (v:=v) (o:=(atKey xs k).map (·.2)) (by rw [l];exact rel.val k)
  obtain⟨p,hp,hp2⟩:=d8.mp hw
  refine wpAny_getItem_heap (tupleKind_room_in1 hu) (vf I.hok eb) dd hp ?_
  rw [hp2]
  exact h w' _ (I.tok _) rw'
theorem GD {Q:Value->Shared->Prop} (hu:A.units+1 < cLine) (I:Inv X pins σ H s) (g:uA H a y o) (ry:RelV y u) (h : ∀ s',Inv X pins σ H s'->Q (.bool (!o.isSome)) s') :
  aH (model X.prog X.w) A (compareOp .NotIn u (.ref a)) Q E s:=by
 rcases g with⟨kvs,k,e,ey,l⟩ | ⟨kvs,k,b,e,ey,eb,l⟩
 ·subst ey
  obtain⟨z,hd,vs,rel,dd⟩:=vV I.hok e
  refine wpAny_notIn_of (wL ry) hd dd.mapOf ?_
  rw [<- (rel.val k).isSome_eq,<- l]
  exact h _ (I.tok _)
 ·subst ey
  cases (show u=bp b from ry)
  obtain⟨z,hd,xs,rel,dd⟩:=zw I.hok e
  refine wpAny_notIn_heap (tupleKind_room_in1 hu) (vf I.hok eb) hd dd ?_
  have q:=(rel.val k).isSome_eq
  rw [qo] at q
  rw [<- q,<- l]
  exact h _ (I.tok _)
theorem uM {h':Heap}{t':Nat}{ob:HO} (I:Inv X pins σ H s) (mu:Mut (H a)) (hs:fI a s.heap h') (he : ∃ q,h'.get? a=some q) (new:d6 X.prog X.w (upd H a ob) h' a ob) :
  Inv X pins σ (upd H a ob) { s with heap:=h',toks:=t' }:=
 I.write (x:=a) (e:=a) mu (.inl rfl) (fun b q hb z=>(hs.2 b hb).trans z) he new
theorem Dz {P:Program}{w:World}{H':Hp}{h':Heap}{kvs:List (Key×V)}{vs:List (Key×Value)} (z:kvs.length<=sizeLine) (hd:(a == sysModules)=false) (rel:KV kvs vs) (dd:h'.DictOf (dQ P w) a vs) :
  d6 P w H' h' a (.dK kvs):=⟨z,hd,vs,rel,dd⟩
theorem Au {H':Hp}{Q:Unit->Shared->Prop} (hu:A.units+1 < cLine) (I:Inv X pins σ H s) (g:AW H a y v H') (ry:RelV y u) (rv:RelV v r) (h : ∀ s',Inv X pins σ H' s'->Q () s') :
  aH (model X.prog X.w) A (setItem (.ref a) u r) Q E s:=by
 rcases g with⟨kvs,k,e,ey,l,eH⟩ | ⟨kvs,k,b,e,ey,eb,l,eH⟩
 ·subst ey eH
  obtain⟨z,hd,vs,rel,dd⟩:=G6 I.hok e
  have hz:vs.length<=sizeLine:=by rw [<- rel.length];exact z
  have hl:(putK kvs k v).length<=sizeLine:=by have:=lV kvs k v;omega
  refine wpAny_setItem_pairs (hsz:=hz) (wL ry) dd fun h' dd' hs=>h _ ?_
  have he : ∃ q,h'.get? a=some q:=let ⟨q,_,_,hq,_⟩:=dd';⟨q,hq⟩
  exact uM I (by rw [e];exact fJ) hs he (Dz hl hd (rel.put k rv) dd')
 ·subst ey eH
  cases (show u=bp b from ry)
  obtain⟨z,hd,xs,rel,dd⟩:=LY I.hok e
  have hz:xs.length<=sizeLine:=by rw [<- xY rel];exact z
  have hl:(putK kvs k v).length<=sizeLine:=by have:=lV kvs k v;omega
  refine wpAny_setItem_heap (hsz:=hz) (tupleKind_room_in1 hu) (vf I.hok eb) dd fun h' dd' hs=>h _ ?_
  obtain⟨q,es,ep,hq,h2,h3,h4,_,h5⟩:=dd'
  refine uM I (by rw [e];exact fJ) hs ⟨q,hq⟩ ⟨hl,hd,_,(rel.put k eb rv).keeps fun c ys ec => ?_,q,es,ep,hq,h2,h3,h4,h5⟩
  rw [bE (rN ec e (fun z=>nomatch z))]
  exact ec
end
section
variable {X:Cx}{pins:List (Addr×Obj)}{σ:St}{H:Hp}{s:Shared}{a:Addr}{kvs:List (Key×V)}{k:Key}{u:Value}{A:Around}{E:Value->Shared->Prop}
theorem CS {Q:Value->Shared->Prop} (I:Inv X pins σ H s) (e:Rd H a (.dK kvs)) (h : ∀ t s',Inv X pins σ H s'->Q (.int kvs.length t) s'):aH (model X.prog X.w) A (call (.builtin "len") [.ref a]) Q E s:=by
 obtain⟨z,hd,vs,rel,dd⟩:=vV I.hok e
 refine call_len_dict hd dd (by rw [<- rel.length];rw [sizeLine_eq] at z;omega) ?_
 rw [<- rel.length]
 exact h _ _ (I.tok _)
end
theorem wK {X:Cx}{pins:List (Addr×Obj)}{σ:St}{H:Hp}{s:Shared}{a:Addr}{y:V}{o:Option V} (I:Inv X pins σ H s) (g:uA H a y o):s.TypeIs (.ref a) "dict":=by
 rcases g with⟨kvs,k,e,_,_⟩ | ⟨kvs,k,b,e,_,_,_⟩
 ·obtain⟨_,_,vs,_,dd⟩:=vV I.hok e
  exact dd.typeIs
 ·obtain⟨_,_,xs,_,dd⟩:=zw I.hok e
  exact dd.typeIs
section
variable {X:Cx}{o i e value:Expr}{pos pos' tpos:Pos}{td ty tv:TE}
end
theorem xN {P:Program}{w:World}{H:Hp} (h:Heap) (hb:sysModules < h.objs.size):d6 P w H (h.push { cls := .type "dict",data := .dict #[] }) h.objs.size (.dK []):=
 ⟨dj _,beq_eq_false_iff_ne.mpr (d7 (aG hb)),[],.nil,Heap.DictOf.new h⟩
noncomputable def Cr:TE:=fun _ H Q => ∀ p,H p=none->Q (.ref p) (upd H p (.dK []))
section
variable {X:Cx}{pos:Pos}
theorem CP:PE X (.Dict [] [] pos) Cr:=fun pins s σ H Q I h=>
 wpAny_Dict_empty ⟨.ref s.heap.objs.size,_,I.laid (a:=s.heap.objs.size) (o := .dK []) (t':=s.toks) (fun _ _ q=>ah _ q) (aj _) (xN s.heap I.big),rfl,h _ (I.hok.fresh (aj _))⟩
end
noncomputable def yM:List (TE×TE)->St->Hp->(List (V×V)->Hp->Prop)->Prop
 | [],_,H,Q=>Q [] H
 | (tk,tv)::r,σ,H,Q=>tk σ H fun x H1=>tv σ H1 fun y H2=>yM r σ H2 fun ps H3=>Q ((x,y)::ps) H3
abbrev VV:List (V×V)->List (Value×Value)->Prop:=Paired fun p q=>RelV p.1 q.1/\RelV p.2 q.2
noncomputable def PPs (X:Cx) (pos:Pos) (keys:List (Option Expr)) (values:List Expr) (trs:List (TE×TE)):Prop:=
 ∀ (pins:List (Addr×Obj)) (s:Shared) (σ:St) (H:Hp) (Q:List (V×V)->Hp->Prop),Inv X pins σ H s->yM trs σ H Q ->
  aH (model X.prog X.w) X.A (evalPairs (pairTrees keys values X.env pos)) (fun vs s' => ∃ ps H',Inv X pins σ H' s'/\VV ps vs/\Q ps H') X.xe s
theorem GJ {X:Cx}{pos:Pos}:PPs X pos [] [] []:=fun pins s σ H Q I h=>pairTrees_nil_walk ⟨[],H,I,.nil,h⟩
theorem CU {X:Cx}{pos:Pos}{k v:Expr}{ks:List (Option Expr)}{vs:List Expr}{tk tv:TE}{trs:List (TE×TE)} (hk:PE X k tk) (hv:PE X v tv) (hr:PPs X pos ks vs trs) :
  PPs X pos (some k::ks) (v::vs) ((tk,tv)::trs):=fun pins s σ H Q I h=>
 pairTrees_cons_walk (thn (hk pins s σ H _ I h) fun u s1 ⟨x,H1,I1,rx,q1⟩=>thn (hv pins s1 σ H1 _ I1 q1) fun w2 s2 ⟨y,H2,I2,ry,q2⟩=>
  thn (hr pins s2 σ H2 _ I2 q2) fun ws s3 ⟨ps,H3,I3,rel,q3⟩=>⟨(x,y)::ps,H3,I3,.cons ⟨rx,ry⟩ rel,q3⟩)
noncomputable def pk (kvs more:List (Key×V)):List (Key×V):=more.foldl (fun acc kv=>putK acc kv.1 kv.2) kvs
theorem KV.merge : ∀ {more:List (Key×V)}{rs:List (Key×Value)}{kvs:List (Key×V)}{vs:List (Key×Value)},KV more rs->KV kvs vs->KV (pk kvs more) (merged vs rs):=by
 intro more rs kvs vs r
 unfold KV at r
 induction r generalizing kvs vs with
 | nil=>intro q;exact q
 | @cons p q ps qs h t ih=>
   intro r0
   have e:KV (putK kvs p.1 p.2) (stored vs q.1 q.2):=by
    have:=r0.put p.1 h.2
    rw [<- h.1];exact this
   exact ih e
theorem nr : ∀ (more kvs:List (Key×V)),(pk kvs more).length<=kvs.length+more.length
 | [],kvs=>by show kvs.length<=kvs.length+0;omega
 | p::r,kvs=>by
   have h1:=nr r (putK kvs p.1 p.2)
   have h2:=lV kvs p.1 p.2
   show (pk (putK kvs p.1 p.2) r).length<=_
   rw [dA];omega
theorem qN {P:Program}{w:World} : ∀ {kvs:List (Key×V)}{ws:List (Value×Value)},VV (kvs.map fun kv=>(kV kv.1,kv.2)) ws -> ∃ rs,Carries (dQ P w) ws rs/\KV kvs rs
 | [],_,r=>by rw [nA] at r;cases r;exact⟨[],fJ,.nil⟩
 | p::kvs,_,r=>by
   rw [bA] at r
   cases r with
   | @cons a b as bs h t=>
     obtain⟨rs,c,q⟩:=qN (P:=P) (w:=w) t
     obtain⟨b1,b2⟩:=b
     exact⟨(p.1,b2)::rs,⟨wL h.1,rfl,c⟩,.cons ⟨rfl,h.2⟩ q⟩
noncomputable def Hu (trs:List (TE×TE)):TE:=fun σ H Q => ∀ p,H p=none->yM trs σ (upd H p (.dK [])) fun ps H2=>H2 p=some (.dK []) /\ ∃ kvs:List (Key×V),ps=kvs.map (fun kv=>(kV kv.1,kv.2))/\kvs.length<=15/\Q (.ref p) (upd H2 p (.dK (pk [] kvs)))
theorem FB {X:Cx}{pos:Pos}{keys:List (Option Expr)}{values:List Expr}{trs:List (TE×TE)} (h:PPs X pos keys values trs) (hall:keys.all (·.isSome)=true) (hl:keys.length=values.length) (h0:keys ≠ [])
  (h15:keys.length<=15):PE X (.Dict keys values pos) (Hu trs):=by
 intro pins s σ H Q I q
 have hn:=I.hok.fresh (aj s.heap.objs.size)
 have I1:=I.laid (a:=s.heap.objs.size) (o := .dK []) (h':=s.heap.push { cls := .type "dict",data := .dict #[] }) (t':=s.toks) (fun _ _ q=>ah _ q) (aj _) (xN s.heap I.big)
 refine wpAny_Dict_walk (knd:=dQ X.prog X.w) hall hl h0 h15 (thn (h pins _ σ _ _ I1 (q _ hn)) fun ws s2 ⟨ps,H2,I2,rel,e,kvs,ep,lk,q2⟩ => ?_)
 subst ep
 obtain⟨rs,c,rk⟩:=qN (P:=X.prog) (w:=X.w) rel
 obtain⟨z,hd,vs0,r0,dd⟩:=G6 I2.hok e
 cases r0
 refine⟨rs,c,dd,fun h' dd' hs=>⟨.ref s.heap.objs.size,_,?_,rfl,q2⟩⟩
 have hz:(pk [] kvs).length<=sizeLine:=by
  have h1:=nr kvs []
  rw [iq] at h1
  rw [sizeLine_eq];omega
 have he : ∃ q,h'.get? s.heap.objs.size=some q:=let ⟨q,_,_,hq,_⟩:=dd';⟨q,hq⟩
 exact uM I2 (by rw [e];exact fJ) hs he (Dz hz hd (rk.merge .nil) dd')
structure M1 (X:Cx) (o:Expr) (m:Str) (apos:Pos) (e:Expr) (cpos:Pos):Prop where
 base:attributeBase o m X.env (eval o X.env)=eval o X.env
 few:((backTo cpos (starEach [e] X.env)).all (fun x => !x.1)&&(backToKw cpos (keywordEach [] X.env)).all (fun x=>x.1.isSome)
  && decide (([e]:List Expr).length+([]:List Keyword).length+(if ([]:List Keyword).isEmpty then 0 else 1) < 30))=true
 line:(apos.endLine == cpos.line)=true
 trees:backTo cpos (starEach [e] X.env) = [(false,eval e X.env)]
structure M2 (X:Cx) (o:Expr) (m:Str) (apos:Pos) (e f:Expr) (cpos:Pos):Prop where
 base:attributeBase o m X.env (eval o X.env)=eval o X.env
 few:((backTo cpos (starEach [e,f] X.env)).all (fun x => !x.1)&&(backToKw cpos (keywordEach [] X.env)).all (fun x=>x.1.isSome)
  && decide (([e,f]:List Expr).length+([]:List Keyword).length+(if ([]:List Keyword).isEmpty then 0 else 1) < 30))=true
 line:(apos.endLine == cpos.line)=true
 trees:backTo cpos (starEach [e,f] X.env) = [(false,eval e X.env),(false,eval f X.env)]
section
variable {X:Cx}{pins:List (Addr×Obj)}{σ:St}{H:Hp}{s:Shared}{a:Addr}{y d:V}{u r:Value}{o:Option V}{A:Around}{E:Value->Shared->Prop}
end
section
variable {X:Cx}{o e f:Expr}{apos cpos:Pos}{td ty tx:TE}
end
section
variable {X:Cx}{pins:List (Addr×Obj)}{σ:St}{H:Hp}{s:Shared}{a:Addr}{kvs:List (Key×V)}{A:Around}{E:Value->Shared->Prop}
end
section
variable {X:Cx}{pins:List (Addr×Obj)}{σ:St}{H:Hp}{s:Shared}{a:Addr}{y:V}{u:Value}{A:Around}{E:Value->Shared->Prop}
end
end _L
namespace _L
open PySem PySem.Spec PyProof.Rows
section
variable {X:Cx}
theorem Br:gQ X (.builtin "len") (fun xs H Q => ∃ a kvs,xs = [V.ref a]/\H a=some (.dK kvs)/\Q (.int kvs.length) H):=by
 intro pins s σ H xs us Q I r h
 obtain⟨a,kvs,rfl,ha,q⟩:=h
 obtain⟨u,rfl,ru⟩:=vals1 r
 cases ru
 exact CS I (.inl ha) fun t s' I'=>⟨.int kvs.length,H,I',⟨t,rfl⟩,q⟩
end
section
variable {κ:Type} [DecidableEq κ]
end
end _L
end
section
namespace PySem
open Sem (wp)
noncomputable def jz (env:Env):List (Str×NameKind)->List (Str×Addr)->List (Str×Addr)
 | [],acc=>acc
 | (n,k)::r,acc=>if k == .free then jz env r ((n,(env.cells.lookup n).getD 0)::acc) else jz env r acc
theorem kX {scope:Scope}{env:Env} (h : ∀ y∈scope.names,y.2 = .free -> ∃ c,env.cells.lookup y.1=some c):closureFor scope env=pure (jz env scope.names []):=by
 simp only [closureFor]
 have go : ∀ (names:List (Str×NameKind)) (acc:List (Str×Addr)),(∀ y∈names,y.2 = .free -> ∃ c,env.cells.lookup y.1=some c) ->
   (forIn (m:=Sem) names acc fun x r=>if (x.2 == aP)=true then cellOf env x.1 >>= fun a=>pure (dE ((x.1,a)::r)) else pure (dE r))=pure (jz env names acc):=by
  intro names
  induction names with
  | nil=>intro acc _;rfl
  | cons y r ih=>
    intro acc hy
    obtain⟨n,k⟩:=y
    rw [jR]
    by_cases hk:k = .free
    ·subst hk
     obtain⟨c,hc⟩:=hy (n,.free) br rfl
     have e1:cellOf env n=pure c:=by unfold cellOf;rw [hc]
     have e2:jz env ((n,aP)::r) acc=jz env r ((n,c)::acc):=by
      show (if (aP == aP)=true then _ else _)=_
      rw [if_pos (by decide),hc];rfl
     rw [e2,<- ih _ fun z hz=>hy z (aD _ hz)]
     simp only [beq_self_eq_true,if_true,e1]
     rfl
    ·have hb:(k == aP)=false:=by simpa using hk
     have e2:jz env ((n,k)::r) acc=jz env r acc:=by
      show (if (k == aP)=true then _ else _)=_
      rw [if_neg (by rw [hb];decide)]
     rw [e2,<- ih _ fun z hz=>hy z (aD _ hz)]
     simp only [hb,eE,if_false]
     rfl
 exact (congrArg (fun z=>z >>= pure) (go scope.names [] h)).trans rfl
theorem oA {env:Env} : ∀ (names:List (Str×NameKind)) (acc:List (Str×Addr)),(∀ y∈names,y.2 = .free -> ∃ c,env.cells.lookup y.1=some c) -> ∀ x c,(jz env names acc).lookup x=some c->env.cells.lookup x=some c\/acc.lookup x=some c
 | [],_,_,_,_,h => .inr h
 | (n,k)::r,acc,hy,x,c,h=>by
   unfold jz at h
   split at h
   ·rename_i hk
    have hk':k = .free:=by simpa using hk
    subst hk'
    obtain⟨d,hd⟩:=hy (n,.free) br rfl
    rcases oA r _ (fun z hz=>hy z (aD _ hz)) x c h with e | e
    ·exact .inl e
    ·rw [aO] at e
     cases hb:x == n with
     | true=>
       rw [hb] at e
       rw [beq_iff_eq.mp hb,hd]
       rw [hd] at e
       exact .inl e
     | false=>rw [hb] at e;exact .inr e
   ·exact oA r acc (fun z hz=>hy z (aD _ hz)) x c h
theorem oM {env:Env}{x:Str} : ∀ (names:List (Str×NameKind)) (acc:List (Str×Addr)),(names.lookup x=some .free\/(acc.lookup x).isSome=true)->((jz env names acc).lookup x).isSome=true
 | [],_,h=>h.elim (fun e=>by cases e) id
 | (y,k)::r,acc,h=>by
   unfold jz
   by_cases hk:(k == .free)=true
   ·rw [if_pos hk]
    refine oM r ((y,(env.cells.lookup y).getD 0)::acc) ?_
    by_cases hy:(x == y)=true
    ·exact .inr (by rw [aO,hy];rfl)
    ·refine h.imp (fun e => ?_) fun e => ?_
     ·rw [aO] at e;simpa only [hy] using e
     ·rw [aO];simpa only [hy] using e
   ·rw [if_neg hk]
    refine oM r acc ?_
    refine h.imp (fun e => ?_) id
    rw [aO] at e
    cases hb:x == y with
    | true=>rw [hb] at e;cases e;exact absurd rfl hk
    | false=>rw [hb] at e;exact e
theorem ft : ∀ (names:List (Str×NameKind)) (n:Nat) (acc:List (Str×Addr)),cellsFrom n names acc=cellsFrom n names []++acc
 | [],_,_=>rfl
 | (y,k)::r,n,acc=>by
   unfold cellsFrom
   split
   ·rw [ft r (n+1) ((y,n)::acc),ft r (n+1) [(y,n)],bh];rfl
   ·exact ft r n acc
theorem jV {x:Str} : ∀ (names:List (Str×NameKind)) (n:Nat) (acc:List (Str×Addr)) (c:Addr),(cellsFrom n names acc).lookup x=some c->(∃ k∈names,k.1=x/\k.2 = .cell)\/acc.lookup x=some c
 | [],_,_,_,h => .inr h
 | (y,k)::r,n,acc,c,h=>by
   unfold cellsFrom at h
   split at h
   ·rename_i hk
    rcases jV r _ _ c h with⟨z,hz,e⟩ | e
    ·exact .inl ⟨z,aD _ hz,e⟩
    ·rw [aO] at e
     cases hb:x == y with
     | true=>exact .inl ⟨(y,k),br,(beq_iff_eq.mp hb).symm,by simpa using hk⟩
     | false=>rw [hb] at e;exact .inr e
   ·rcases jV r _ _ c h with⟨z,hz,e⟩ | e
    ·exact .inl ⟨z,aD _ hz,e⟩
    ·exact .inr e
section
variable {M:Model}{A:Around}{E:Value->Shared->Prop}{s:Shared}
theorem oG {scope:Scope}{globals:Addr}{cl:List (Str×Addr)}{qual:Str}{env:Env}{Q:Env->Shared->Prop}
  (hQ:Q { scope:=scope,locals:=s.heap.objs.size,globals:=globals,cells:=cellsFrom (s.heap.objs.size+1) scope.names cl,qual:=qual,func:=none,code:=env.code,frame:=env.frame,builtins:=env.builtins }
   { s with heap:=pushCells (s.heap.push { cls := .type "dict",data := .dict #[] }) scope.names }) :
  aH M A (newFunctionEnv scope globals cl [] qual none .none (some env)) Q E s:=by
 simp only [newFunctionEnv,EC,if_true]
 refine ae (wpAny_alloc ?_)
 refine ae (wpAny_layCells _ (fun name kind cells=>by cases hkc:kind == cz <;> simp [hkc]) _ _ _ _ ?_)
 rw [show ({ s with heap:=s.heap.push { cls := .type "dict",data := .dict #[] } }:Shared).heap.objs.size=s.heap.objs.size+1 from bw ..]
 exact az hQ
end
section
variable {prog:Program}{w:World}{A:Around}{R:Result->Shared->Prop}{s:Shared}
theorem lW {elt target iter:Expr}{ifs:List Expr}{scope:Scope}{pos:Pos}{it acc:Value}{env:Env} (I:Nat->Shared->Prop)
  (turn : ∀ n s,I n s->aH (model prog w) A (pyNext it) (fun r s₁=>match r with
   | none=>R (.ok .next) s₁
   | some v=>aH (model prog w) A (letOwnedTupleGo target it v) (fun _ s₁=>aH (model prog w) A (assign target env v) (fun _ s₂=>
     aH (model prog w) A (forIn ifs true fun c r=>if r=true then do let ok <- isTrue c env (eval c env);pure (dE ok) else pure (dE r)) (fun ok s₃=>
      if ok=true then aH (model prog w) A (eval elt env) (fun x s₄=>
       aH (model prog w) A (call (.builtin "list.append") [acc,x]) (fun _ s₅ => ∃ m,m < n/\I m s₅) (fun _ _=>False) s₄) (fun _ _=>False) s₃
      else ∃ m,m < n/\I m s₃) (fun _ _=>False) s₂) (fun _ _=>False) s₁) (fun _ _=>False) s₁) (fun _ _=>False) s)
  (n:Nat) (h:I n s) :
  nz (model prog w) A (.compLoop (.ListComp elt [⟨target,iter,ifs,0⟩] scope pos) 0 it acc env) R s:=by
 refine codeAny_loop rfl I (fun n s hI => ?_) n h
 show aH _ A ((compTurn (.ListComp elt [⟨target,iter,ifs,0⟩] scope pos) 0 it acc env).onRaise (fun x=>do noteFrame x env;theTreesLotGoes x)) _ _ s
 refine wpAny_noted ?_
 rw [compTurn_list]
 refine ae (wpAny_standAt (ae (da (turn n s hI) (fun r s₁ h₁ => ?_) fun _ _ h'=>h'.elim)))
 cases r with
 | none=>exact az h₁
 | some v=>
   refine ae (da h₁ (fun _ s₁ h₁ => ?_) fun _ _ h'=>h'.elim)
   refine ae (da h₁ (fun _ s₂ h₂=>ae (da h₂ (fun ok s₃ h₃ => ?_) fun _ _ h'=>h'.elim)) fun _ _ h'=>h'.elim)
   cases ok with
   | false=>exact az ⟨rfl,h₃⟩
   | true=>
     exact ae (ae (da h₃ (fun x s₄ h₄=>ae (da h₄ (fun _ s₅ h₅=>az (az ⟨rfl,h₅⟩)) fun _ _ h'=>h'.elim)) fun _ _ h'=>h'.elim))
end
end PySem
end
section
namespace _G
open PySem
section
inductive U where
 | non | bl (b:Bool) | int (i:Int) | str (x:Str) | tup (us:List U) | ref (n:Nat) | obj (a:Addr)
 deriving Inhabited
inductive Cell where
 | lst (us:List U)
 | frz (us:List U)
 | dic (kvs:List (_L.Key×U))
 deriving Inhabited
abbrev Sto:=List Cell
abbrev Rho:=List (Option U)
abbrev Res (α:Type):=Option (α×Sto)
abbrev ME:=Rho->Sto->Res U
abbrev MT:=Rho->Sto->Res Bool
abbrev MA:=Rho->Sto->Res (List U)
abbrev MF:=List U->Sto->Res U
noncomputable def bnd {α β:Type} (r:Option (α×Sto)) (k:α->Sto->Option β):Option β:=match r with
 | none=>none
 | some p=>k p.1 p.2
theorem aI {α β:Type}{a:α}{S:Sto}{k:α->Sto->Option β}:bnd (some (a,S)) k=k a S:=rfl
theorem bj {α β:Type}{r:Option (α×Sto)}{k:α->Sto->Option β}{b:β} (h:bnd r k=some b) : ∃ a S,r=some (a,S)/\k a S=some b:=by
 cases r with
 | none=>cases h
 | some p=>exact⟨p.1,p.2,rfl,h⟩
noncomputable def big:Nat:=16777216
noncomputable def getL (S:Sto) (n:Nat):Option (List U):=match S[n]? with
 | some (.lst us)=>some us
 | some (.frz us)=>some us
 | some (.dic _)=>none
 | none=>none
abbrev F2:=U->U->Sto->Res U
noncomputable def cZ:F2:=fun x y S=>match x,y with
 | .int i,.int j=>some (.int (i+j),S)
 | .tup xs,.tup ys=>if xs.length+ys.length<=big then some (.tup (xs++ys),S) else none
 | .ref n,.ref m=>match S[n]?,S[m]? with
   | some (.lst xs),some (.lst ys)=>if xs.length+ys.length<=big then some (.ref S.length,S ++ [.lst (xs++ys)]) else none
   | _,_=>none
 | _,_=>none
noncomputable def uF:F2:=fun x y S=>match x,y with
 | .int i,.int j=>some (.int (i - j),S)
 | _,_=>none
noncomputable def jE (i j:Int):Prop:=(-(2 ^ 64) < i/\i < 2 ^ 64)\/(-(2 ^ 64) < j/\j < 2 ^ 64)
noncomputable instance (i j:Int):Decidable (jE i j):=bJ _
noncomputable def CB (n:Nat) (k:Int):Prop:=0<=k/\k < 1000/\0 < n/\n < 1000
noncomputable instance (n:Nat) (k:Int):Decidable (CB n k):=bJ _
noncomputable def fG:F2:=fun x y S=>match x,y with
 | .int i,.int j=>if jE i j then some (.int (i*j),S) else none
 | .tup xs,.int k=>if CB xs.length k then some (.tup (aU k.toNat xs).flatten,S) else none
 | _,_=>none
noncomputable def rB (j:Int):Prop:=0 < j/\j < 1073741824
noncomputable instance (j:Int):Decidable (rB j):=bJ _
noncomputable def oDiv:F2:=fun x y S=>match x,y with
 | .int i,.int j=>if rB j then some (.int (i / j),S) else none
 | _,_=>none
noncomputable def oMod:F2:=fun x y S=>match x,y with
 | .int i,.int j=>if 0 < j then some (.int (i % j),S) else none
 | _,_=>none
noncomputable def Hw (i j:Int):Prop:=0<=j/\j<=1000000/\i.natAbs < 2 ^ 64
noncomputable instance (i j:Int):Decidable (Hw i j):=bJ _
noncomputable def uW:F2:=fun x y S=>match x,y with
 | .int i,.int j=>if Hw i j then some (.int (i ^ j.toNat),S) else none
 | _,_=>none
noncomputable def Ap (p:Int->Int->Bool):F2:=fun x y S=>match x,y with
 | .int i,.int j=>some (.bl (p i j),S)
 | _,_=>none
abbrev oLt:F2:=Ap fun i j=>decide (i < j)
abbrev oLe:F2:=Ap fun i j=>decide (i<=j)
abbrev oGt:F2:=Ap fun i j=>decide (j < i)
abbrev oGe:F2:=Ap fun i j=>decide (j<=i)
noncomputable def dS (S:Sto):U->Option (List U)
 | .tup us=>some us
 | .ref n=>getL S n
 | _=>none
noncomputable def dw {α β:Type} (f:α->Option β):List α->Option (List β)
 | []=>some []
 | x::xs=>(f x).bind fun y=>(dw f xs).map fun ys=>y::ys
noncomputable def toD (S:Sto):Nat->U->Option PyData
 | 0,_=>none
 | _+1,.non=>some .none
 | _+1,.bl b=>some (.bool b)
 | _+1,.int i=>some (.int i)
 | _+1,.str x=>if iP (.str x)=true then some (.str x) else none
 | f+1,.tup us=>(dw (toD S f) us).map .tuple
 | f+1,.ref n=>(getL S n).bind fun us=>(dw (toD S f) us).map .list
 | _+1,.obj _=>none
noncomputable def eqU (S:Sto) (x y:U):Option Bool:=(toD S 40 x).bind fun a=>(toD S 40 y).map fun b=>eZ a b
noncomputable def oEq:F2:=fun x y S=>(eqU S x y).map fun b=>(.bl b,S)
noncomputable def oNe:F2:=fun x y S=>(eqU S x y).map fun b=>(.bl (!b),S)
noncomputable def keyOf:U->Option _L.Key
 | .int i=>some (.inl i)
 | .str x=>some (.inr x)
 | _=>none
noncomputable def jA (kvs:List (_L.Key×U)) (k:_L.Key):Option U:=(kvs.find? fun kv=>decide (kv.1=k)).map (·.2)
noncomputable def j0 (kvs:List (_L.Key×U)) (k:_L.Key) (u:U):List (_L.Key×U):=
 if (kvs.any fun kv=>decide (kv.1=k))=true then kvs.map (fun kv=>if kv.1=k then (kv.1,u) else kv) else kvs ++ [(k,u)]
noncomputable def gw (S:Sto):U->Option (List (_L.Key×U))
 | .ref n=>match S[n]? with
   | some (.dic kvs)=>some kvs
   | _=>none
 | _=>none
noncomputable def oIx:F2:=fun x y S=>match gw S x with
 | some kvs=>(keyOf y).bind fun k=>(jA kvs k).map fun u=>(u,S)
 | none=>match y with
   | .int i=>((dS S x).bind fun us=>_L.atI us i).map fun u=>(u,S)
   | _=>none
noncomputable def ab (i:Nat):ME:=fun ρ S=>match ρ[i]? with
 | some (some u)=>some (u,S)
 | _=>none
noncomputable def mC (u:U):ME:=fun _ S=>some (u,S)
noncomputable def m1 (f:U->Sto->Res U) (a:ME):ME:=fun ρ S=>bnd (a ρ S) fun x S1=>f x S1
noncomputable def m2 (f:F2) (a b:ME):ME:=fun ρ S=>bnd (a ρ S) fun x S1=>bnd (b ρ S1) fun y S2=>f x y S2
noncomputable def af:MA:=fun _ S=>some ([],S)
noncomputable def aa (a:ME) (r:MA):MA:=fun ρ S=>bnd (a ρ S) fun x S1=>bnd (r ρ S1) fun xs S2=>some (x::xs,S2)
noncomputable def mY (a:MA):ME:=fun ρ S=>bnd (a ρ S) fun xs S1=>if xs.length<=big then some (.tup xs,S1) else none
noncomputable def cQ (a:MA):ME:=fun ρ S=>bnd (a ρ S) fun xs S1=>if xs.length<=big then some (.ref S1.length,S1 ++ [.lst xs]) else none
noncomputable def mFn (f:MF) (a:MA):ME:=fun ρ S=>bnd (a ρ S) fun xs S1=>f xs S1
noncomputable def yk:U->Sto->Res U:=fun x S=>match x with
 | .int i=>some (.int (-i),S)
 | _=>none
noncomputable def cOf (a:ME):MT:=fun ρ S=>bnd (a ρ S) fun x S1=>match x with
 | .bl b=>some (b,S1)
 | _=>none
noncomputable def lu (a b:MT):MT:=fun ρ S=>bnd (a ρ S) fun k S1=>if k then b ρ S1 else some (false,S1)
noncomputable def cOr (a b:MT):MT:=fun ρ S=>bnd (a ρ S) fun k S1=>if k then some (true,S1) else b ρ S1
noncomputable def eG (a:MT):MT:=fun ρ S=>bnd (a ρ S) fun k S1=>some (!k,S1)
noncomputable def cTT:MT:=fun _ S=>some (true,S)
inductive Src where
 | imm (us:List U)
 | mut (n:Nat)
 | enl (n:Nat)
 | zlt (n:Nat) (us:List U)
abbrev MI:=Rho->Sto->Option (Src×Sto)
noncomputable def okR (i:Int):Prop := -(2 ^ 62)<=i/\i < 2 ^ 62
noncomputable instance (i:Int):Decidable (okR i):=bJ _
noncomputable def bo (i:Int) (n:Nat):List U:=(ar n).map fun (k:Nat) => .int (i+k)
noncomputable def iR1 (a:MA):MI:=fun ρ S=>bnd (a ρ S) fun xs S1=>match xs with
 | [.int j]=>if okR j then some (.imm (bo 0 j.toNat),S1) else none
 | _=>none
noncomputable def iR2 (a:MA):MI:=fun ρ S=>bnd (a ρ S) fun xs S1=>match xs with
 | [.int i,.int j]=>if okR i/\okR j then some (.imm (bo i (j - i).toNat),S1) else none
 | _=>none
noncomputable def dq (a:ME):MI:=fun ρ S=>bnd (a ρ S) fun x S1=>match x with
 | .tup us=>some (.imm us,S1)
 | .ref n=>(getL S1 n).map fun _=>(.mut n,S1)
 | _=>none
noncomputable def rR (a:MA):MI:=fun ρ S=>bnd (a ρ S) fun xs S1=>match xs with
 | [.ref n]=>(getL S1 n).map fun _=>(.enl n,S1)
 | _=>none
noncomputable def hG (t:MT) (e:ME) (ρ:Rho):List U->List U->Sto->Res (List U)
 | [],acc,S=>some (acc,S)
 | x::xs,acc,S=>bnd (t (ρ ++ [some x]) S) fun k S1=>if k then bnd (e (ρ ++ [some x]) S1) fun y S2=>hG t e ρ xs (acc ++ [y]) S2 else hG t e ρ xs acc S1
noncomputable def jM (t:MT) (e:ME) (ρ:Rho) (n:Nat):Nat->Nat->List U->Sto->Res (List U)
 | 0,_,_,_=>none
 | f+1,i,acc,S=>(getL S n).bind fun us=>match us[i]? with
   | none=>some (acc,S)
   | some x=>bnd (t (ρ ++ [some x]) S) fun k S1=>if k then bnd (e (ρ ++ [some x]) S1) fun y S2=>jM t e ρ n f (i+1) (acc ++ [y]) S2 else jM t e ρ n f (i+1) acc S1
noncomputable def fuel:Nat:=100000
noncomputable def B9 (t:MT) (e:ME) (ρ:Rho):Src->Sto->Res (List U)
 | .imm us,S=>hG t e ρ us [] S
 | .mut n,S=>jM t e ρ n fuel 0 [] S
 | _,_=>none
noncomputable def bR (it:MI) (t:MT) (e:ME):ME:=fun ρ S=>bnd (it ρ S) fun src S1=>bnd (B9 t e ρ src S1) fun ys S2=>if ys.length < big then some (.ref S2.length,S2 ++ [.lst ys]) else none
inductive Fl where
 | nx | rt (u:U) | bk | ct
abbrev MS:=Rho->Sto->Option (Fl×Rho×Sto)
noncomputable def bX:MS:=fun ρ S=>some (.nx,ρ,S)
noncomputable def aZ (a b:MS):MS:=fun ρ S=>match a ρ S with
 | some (.nx,ρ1,S1)=>b ρ1 S1
 | r=>r
noncomputable def bI (i:Nat) (e:ME):MS:=fun ρ S=>bnd (e ρ S) fun x S1=>some (.nx,ρ.set i (some x),S1)
noncomputable def eF (o i e:ME):MS:=fun ρ S=>bnd (e ρ S) fun x S1=>bnd (o ρ S1) fun p S2=>bnd (i ρ S2) fun j S3=>match p with
 | .ref n=>match S3[n]? with
   | some (.lst us)=>(match j with
     | .int k=>(_L.ixN us.length k).map fun m=>(.nx,ρ,S3.set n (.lst (us.set m x)))
     | _=>none)
   | some (.dic kvs)=>(keyOf j).bind fun k=>if kvs.length < big then some (.nx,ρ,S3.set n (.dic (j0 kvs k x))) else none
   | _=>none
 | _=>none
noncomputable def eg (e:ME):MS:=fun ρ S=>bnd (e ρ S) fun _ S1=>some (.nx,ρ,S1)
noncomputable def bU (e:ME):MS:=fun ρ S=>bnd (e ρ S) fun x S1=>some (.rt x,ρ,S1)
noncomputable def sIf (c:MT) (a b:MS):MS:=fun ρ S=>bnd (c ρ S) fun k S1=>if k then a ρ S1 else b ρ S1
noncomputable def aft (r:Option (Fl×Rho×Sto)) (k:MS):Option (Fl×Rho×Sto):=match r with
 | some (.nx,ρ1,S1)=>k ρ1 S1
 | some (.ct,ρ1,S1)=>k ρ1 S1
 | some (.bk,ρ1,S1)=>some (.nx,ρ1,S1)
 | r=>r
noncomputable def lA (i:Nat) (b:MS):List U->MS
 | [],ρ,S=>some (.nx,ρ,S)
 | x::xs,ρ,S=>aft (b (ρ.set i (some x)) S) (lA i b xs)
noncomputable def forL (i:Nat) (b:MS) (n:Nat):Nat->Nat->MS
 | 0,_,_,_=>none
 | f+1,k,ρ,S=>(getL S n).bind fun us=>match us[k]? with
   | none=>some (.nx,ρ,S)
   | some x=>aft (b (ρ.set i (some x)) S) (forL i b n f (k+1))
noncomputable def Nt (i:Nat) (b:MS):Src->MS
 | .imm us=>lA i b us
 | .mut n=>forL i b n fuel 0
 | _=>fun _ _=>none
noncomputable def dF (i:Nat) (it:MI) (b:MS):MS:=fun ρ S=>bnd (it ρ S) fun src S1=>Nt i b src ρ S1
noncomputable def whl (c:MT) (b:MS):Nat->MS
 | 0,_,_=>none
 | f+1,ρ,S=>bnd (c ρ S) fun k S1=>if k then aft (b ρ S1) (whl c b f) else some (.nx,ρ,S1)
noncomputable def ph (c:MT) (b:MS):MS:=whl c b fuel
noncomputable def run (k n:Nat) (b:MS):MF:=fun us S=>if us.length=k then match b (us.map some++aU (n - k) none) S with
  | some (.rt u,_,S1)=>some (u,S1)
  | some (.nx,_,S1)=>some (.non,S1)
  | _=>none
 else none
noncomputable def bD:MF:=fun us S=>match us with
 | [x]=>(match gw S x with
   | some kvs=>some (.int kvs.length,S)
   | none=>(dS S x).map fun xs=>(.int xs.length,S))
 | _=>none
noncomputable def b9:MF:=fun us S=>match us with
 | [x]=>(dS S x).map fun xs=>(.tup xs,S)
 | _=>none
noncomputable def lT:MF:=fun us S=>match us with
 | [x]=>(dS S x).map fun xs=>(.ref S.length,S ++ [.lst xs])
 | _=>none
noncomputable def xq:MF:=fun us S=>match us with
 | [.int i,.int j]=>some (.int (if j > i then j else i),S)
 | _=>none
noncomputable def wX:MF:=fun us S=>match us with
 | [.int i,.int j]=>some (.int (if j < i then j else i),S)
 | _=>none
noncomputable def hZ (it:MI):ME:=fun ρ S=>bnd (it ρ S) fun src S1=>match src with
 | .imm us=>if us.length<=big then some (.ref S1.length,S1 ++ [.lst us]) else none
 | _=>none
noncomputable def qz (it:MI):ME:=fun ρ S=>bnd (it ρ S) fun src S1=>match src with
 | .imm us=>if us.length<=big then some (.tup us,S1) else none
 | _=>none
noncomputable def tyU (S:Sto):U->Option String
 | .non=>some "NoneType"
 | .bl _=>some "bool"
 | .int _=>some "int"
 | .str _=>some "str"
 | .tup _=>some "tuple"
 | .ref n=>match S[n]? with
   | some (.lst _)=>some "list"
   | some (.dic _)=>some "dict"
   | _=>none
 | .obj _=>none
noncomputable def Ik (d:PyData):Prop:=d.showable=true/\d.shown.length<=sizeLine
noncomputable instance (d:PyData):Decidable (Ik d):=bJ _
noncomputable def EJ (t T:String):Bool:=t == T||(t == "bool"&&T == "int")
noncomputable def lU (T:String):U->Sto->Res U:=fun x S=>(tyU S x).map fun t=>(.bl (EJ t T),S)
noncomputable def mML (f:Nat->List U->Sto->Res U) (o:ME) (a:MA):ME:=fun ρ S=>bnd (o ρ S) fun p S1=>match p with
 | .ref n=>(getL S1 n).bind fun _=>bnd (a ρ S1) fun xs S2=>f n xs S2
 | _=>none
noncomputable def dn:Nat->List U->Sto->Res U:=fun n xs S=>match xs with
 | [x]=>match S[n]? with
   | some (.lst us)=>if us.length < big then some (.non,S.set n (.lst (us ++ [x]))) else none
   | _=>none
 | _=>none
noncomputable def md:Nat->List U->Sto->Res U:=fun n xs S=>match xs with
 | [.int i]=>match S[n]? with
   | some (.lst us)=>if okR i then (_L.ixN us.length i).bind fun j=>us[j]?.map fun y=>(y,S.set n (.lst (us.eraseIdx j))) else none
   | _=>none
 | _=>none
noncomputable def uR:Nat->List U->Sto->Res U:=fun n xs S=>match xs with
 | []=>match S[n]? with
   | some (.lst us)=>us[us.length - 1]?.map fun y=>(y,S.set n (.lst us.dropLast))
   | _=>none
 | _=>none
noncomputable def mMT (f:List U->List U->Sto->Res U) (o:ME) (a:MA):ME:=fun ρ S=>bnd (o ρ S) fun p S1=>match p with
 | .tup us=>bnd (a ρ S1) fun xs S2=>f us xs S2
 | _=>none
end
end _G
end
section
namespace _L
open PySem PySem.Spec PyProof.Rows
noncomputable def blk (X:Cx) (N':List Str) (scope:Scope) (s₂:Shared) (H₂:Hp) (fp:List Addr):Cx:=
 { X with
  N:=N'
  s₀:=s₂
  H₀:=H₂
  env:={ scope:=relabel scope X.env,locals:=s₂.heap.objs.size+1,globals:=X.env.globals,cells:=cellsFrom (s₂.heap.objs.size+2) scope.names (jz X.env scope.names []),qual:=X.env.qual,func:=none,code:=X.env.code,frame:=X.env.frame,builtins:=X.env.builtins }
  outer:=X.stack
  ex:=fp
  fn:=fun x=>scope.names.lookup x == some .cell
  pn := []
  xe:=fun _ _=>False }
structure iX (X:Cx) (N':List Str) (scope:Scope) (xs:List Str):Prop where
 kind:scope.kind = .function
 nd:(scope.names.map (·.1)).Nodup
 free : ∀ y∈scope.names,y.2 = .free->X.env.kindOf y.1=some .cell\/X.env.kindOf y.1=some .free
 own : ∀ x∈xs,scope.names.lookup x=some .local\/scope.names.lookup x=some .cell
 ndN:N'.Nodup
 len:N'.length=X.N.length+xs.length
 last : ∀ (j:Nat) (x:Str),xs[j]? = some x->N'[X.N.length+j]? = some x
 vis : ∀ (i:Nat) (y:Str),i < X.N.length->N'[i]? = some y->(scope.names.lookup y=some .local\/scope.names.lookup y=some .cell\/scope.names.lookup y=some .free)->X.N[i]? = some y/\scope.names.lookup y=some .free
theorem hX {env:Env} : ∀ {names:List (Str×NameKind)}{x:Str}{k:NameKind},
  (names.map fun (n,k)=>if (k == aP&&env.scope.kind == .function&&env.kindOf n == some .cell) then (n,cz) else (n,k)).lookup x=some k ->
  names.lookup x=some k\/(names.lookup x=some .free/\k = .cell)
 | [],_,_,h=>by simp at h
 | (n,k')::r,x,k,h=>by
   have ih := @hX env r x k
   have h':o4 x ((if (k' == aP&&env.scope.kind == .function&&env.kindOf n == some .cell)=true then (n,cz) else (n,k'))::(r.map fun (n,k)=>if (k == aP&&env.scope.kind == .function&&env.kindOf n == some .cell) then (n,cz) else (n,k)))=some k:=h
   by_cases hc:(k' == aP&&env.scope.kind == .function&&env.kindOf n == some .cell)=true
   ·rw [if_pos hc] at h'
    rw [aO] at h' ⊢
    cases hx:x == n with
    | true=>
      rw [hx] at h'
      have hk:k' = .free:=by
       rw [aB,aB] at hc
       simpa using hc.1.1
      subst hk
      exact .inr ⟨rfl,(bS h').symm⟩
    | false=>rw [hx] at h';exact ih h'
   ·rw [if_neg hc] at h'
    rw [aO] at h' ⊢
    cases hx:x == n with
    | true=>rw [hx] at h';exact .inl h'
    | false=>rw [hx] at h';exact ih h'
theorem kO {env:Env} : ∀ {names:List (Str×NameKind)}{x:Str},names.lookup x=some .cell ->
  (names.map fun (n,k)=>if (k == aP&&env.scope.kind == .function&&env.kindOf n == some .cell) then (n,cz) else (n,k)).lookup x=some .cell
 | [],_,h=>by simp at h
 | (n,k')::r,x,h=>by
   have ih := @kO env r x
   show o4 x ((if (k' == aP&&env.scope.kind == .function&&env.kindOf n == some .cell)=true then (n,cz) else (n,k'))::_)=_
   rw [aO] at h
   cases hx:x == n with
   | true=>
     rw [hx] at h
     cases h
     simp [aO,hx]
   | false=>
     rw [hx] at h
     by_cases hc:(k' == aP&&env.scope.kind == .function&&env.kindOf n == some .cell)=true
     ·rw [if_pos hc];simp only [aO,hx];exact ih h
     ·rw [if_neg hc];simp only [aO,hx];exact ih h
theorem kM {env:Env} : ∀ {names:List (Str×NameKind)}{x:Str},names.lookup x=some .free ->
  (names.map fun (n,k)=>if (k == aP&&env.scope.kind == .function&&env.kindOf n == some .cell) then (n,cz) else (n,k)).lookup x=some .cell \/
  (names.map fun (n,k)=>if (k == aP&&env.scope.kind == .function&&env.kindOf n == some .cell) then (n,cz) else (n,k)).lookup x=some .free
 | [],_,h=>by simp at h
 | (n,k')::r,x,h=>by
   have ih := @kM env r x
   show o4 x ((if (k' == aP&&env.scope.kind == .function&&env.kindOf n == some .cell)=true then (n,cz) else (n,k'))::_)=_\/o4 x ((if (k' == aP&&env.scope.kind == .function&&env.kindOf n == some .cell)=true then (n,cz) else (n,k'))::_)=_
   rw [aO] at h
   by_cases hc:(k' == aP&&env.scope.kind == .function&&env.kindOf n == some .cell)=true
   ·rw [if_pos hc]
    cases hx:x == n with
    | true=>exact .inl (by simp [aO,hx])
    | false=>
      rw [hx] at h
      simp only [aO,hx];exact ih h
   ·rw [if_neg hc]
    cases hx:x == n with
    | true=>rw [hx] at h;cases h;exact .inr (by simp [aO,hx])
    | false=>
      rw [hx] at h
      simp only [aO,hx];exact ih h
theorem oV {env:Env} : ∀ {names:List (Str×NameKind)}{x:Str},names.lookup x=some .globalImplicit ->
  (names.map fun (n,k)=>if (k == aP&&env.scope.kind == .function&&env.kindOf n == some .cell) then (n,cz) else (n,k)).lookup x=some .globalImplicit
 | [],_,h=>by simp at h
 | (n,k')::r,x,h=>by
   have ih := @oV env r x
   show o4 x ((if (k' == aP&&env.scope.kind == .function&&env.kindOf n == some .cell)=true then (n,cz) else (n,k'))::_)=_
   rw [aO] at h
   cases hx:x == n with
   | true=>
     rw [hx] at h
     cases h
     simp [aO,hx]
   | false=>
     rw [hx] at h
     by_cases hc:(k' == aP&&env.scope.kind == .function&&env.kindOf n == some .cell)=true
     ·rw [if_pos hc];simp only [aO,hx];exact ih h
     ·rw [if_neg hc];simp only [aO,hx];exact ih h
theorem mL : ∀ {names:List (Str×NameKind)}{x:Str}{k:NameKind},(names.map (·.1)).Nodup->(x,k)∈names->names.lookup x=some k
 | [],_,_,_,h=>by simp at h
 | (n,k')::r,x,k,nd,h=>by
   rw [bA,ip] at nd
   rw [aO]
   rcases aJ.mp h with e | h2
   ·cases e;simp
   ·have hne:x≠n:=by
     intro e
     subst e
     exact nd.1 (aE.mpr ⟨(x,k),h2,rfl⟩)
    have hb:(x == n)=false:=beq_eq_false_iff_ne.mpr hne
    rw [hb]
    exact mL nd.2 h2
theorem kn {X:Cx}{scope:Scope}{n:Nat} (hf : ∀ y∈scope.names,y.2 = .free -> ∃ c,X.env.cells.lookup y.1=some c) {x:Str}{c:Addr}
  (h:(cellsFrom n scope.names (jz X.env scope.names [])).lookup x=some c):(cellsFrom n scope.names []).lookup x=some c\/X.env.cells.lookup x=some c:=by
 rw [ft,iu] at h
 cases q:(cellsFrom n scope.names []).lookup x with
 | some d=>rw [q] at h;exact .inl h
 | none=>
   rw [q] at h
   have h':(jz X.env scope.names []).lookup x=some c:=h
   rcases oA scope.names [] hf x c h' with e | e
   ·exact .inr e
   ·cases e
section
variable {X:Cx}{pins:List (Addr×Obj)}{σ:St}{H₂:Hp}{s₂:Shared}{N':List Str}{scope:Scope}{xs:List Str}{fp:List Addr}
theorem iX.frees (C:iX X N' scope xs) (ok:X.Ok) : ∀ y∈scope.names,y.2 = .free -> ∃ c,X.env.cells.lookup y.1=some c:=fun y hy e=>ok.has y.1 (C.free y hy e)
theorem FG (C:iX X N' scope xs) {y:Str}{n:Nat} (h:scope.names.lookup y=some .cell\/scope.names.lookup y=some .free) : ∃ c,(cellsFrom n scope.names (jz X.env scope.names [])).lookup y=some c:=by
 refine gZ.mp (iF scope.names n _ ?_)
 rcases h with h | h
 ·exact .inl h
 ·exact .inr (oM scope.names [] (.inl h))
theorem JW (I:Inv X pins σ H₂ s₂) (C:iX X N' scope xs) (hfp : ∀ b∈fp,sM X pins H₂ b) (hlt : ∀ b∈fp,b < s₂.heap.objs.size):(blk X N' scope s₂ H₂ fp).Ok:=by
 have own : ∀ y c,(cellsFrom (s₂.heap.objs.size+2) scope.names []).lookup y=some c->s₂.heap.objs.size+2<=c:=fun y c h=>by
  have ok:=cellsFrom_ok scope.names ((s₂.heap.push default).push default) (s₂.heap.objs.size+2) [] ⟨fun _ _ hm=>(nomatch hm),gW⟩ (by rw [bw,bw];exact aj _)
  rw [bw,bw] at ok
  exact (ok.empty y c (bY h)).2
 have apart:(cellsFrom (s₂.heap.objs.size+2) scope.names []).Pairwise fun x y=>x.2≠y.2:=by
  have ok:=cellsFrom_ok scope.names ((s₂.heap.push default).push default) (s₂.heap.objs.size+2) [] ⟨fun _ _ hm=>(nomatch hm),gW⟩ (by rw [bw,bw];exact aj _)
  rw [bw,bw] at ok
  exact ok.apart
 have old : ∀ y c,X.env.cells.lookup y=some c->c < s₂.heap.objs.size:=fun y c h=>by obtain⟨v,z⟩:=I.cell y c h;exact z.lt
 refine⟨I.ok.mod,C.kind,I.ok.glob,I.ok.blt,dO _,fun y z c h1 h2 => ?_,fun y hy => ?_,fun y c hy h => ?_,I.ok.hd,I.ok.frames,.inl rfl,fun b hb=>⟨?_,fun y c h z => ?_⟩,I.bs,aL I.ok.bsz I.sz,fun b o e hb => ?_,fun b hb z => ?_,I.stack,I.stkFree⟩
 ·rcases kn (C.frees I.ok) h1 with a | a <;> rcases kn (C.frees I.ok) h2 with b | b
  ·exact name_of_addr apart (bY a) (bY b)
  ·exact absurd (ao (old z c b) (aL (fA _ 2) (own y c a))) (bL _)
  ·exact absurd (ao (old y c a) (aL (fA _ 2) (own z c b))) (bL _)
  ·exact I.ok.inj y z c a b
 ·have hy:(relabel scope X.env).names.lookup y=some .cell\/(relabel scope X.env).names.lookup y=some .free:=hy
  refine FG C ?_
  rcases hy with hy | hy
  ·rcases hX hy with e | ⟨e,_⟩
   ·exact .inl e
   ·exact .inr e
  ·rcases hX hy with e | ⟨e,_⟩
   ·exact .inr e
   ·exact .inr e
 ·have hy':scope.names.lookup y=some .cell:=by simpa [blk] using hy
  have h':(cellsFrom (s₂.heap.objs.size+2) scope.names (jz X.env scope.names [])).lookup y=some c:=h
  rw [ft,iu] at h'
  have q:=gZ.mp (iF scope.names (s₂.heap.objs.size+2) [] (.inl hy'))
  obtain⟨d,hd⟩:=q
  rw [hd] at h'
  have e:d=c:=bS h'
  subst e
  have:=own y d hd
  show s₂.heap.objs.size<=d
  omega
 ·have:=hlt b hb
  exact aG (cq this)
 ·have:=hlt b hb
  rcases kn (C.frees I.ok) h with a | a
  ·exact absurd (ao this (aL (fA _ 2) (z▸own y c a))) (bL _)
  ·exact (hfp b hb).2.2.2.2.1 y c a z
 ·have z:=(hfp b hb).2.2.2.1
  rcases z with z | z
  ·exact I.ok.noex b o e z
  ·exact absurd (ao (aC e) (aL I.ok.bsz z)) (bL _)
 ·rcases aJ.mp (I.stkSub b z) with e | e
  ·exact (hfp b hb).2.1 e
  ·exact (hfp b hb).2.2.1 e
theorem Be (I:Inv X pins σ H₂ s₂) (C:iX X N' scope xs) (hfp : ∀ b∈fp,sM X pins H₂ b) (hlt : ∀ b∈fp,b < s₂.heap.objs.size) {lo do':Obj} (hdo:do'.data = .dict #[]) (hdo2:do'.isFreed=false) (hlo:lo.isFreed=false) :
  Inv (blk X N' scope s₂ H₂ fp) [] (σ++aU xs.length none) H₂ { s₂ with heap:=pushCells ((s₂.heap.push lo).push do') scope.names }:=by
 have sz:((s₂.heap.push lo).push do').objs.size=s₂.heap.objs.size+2:=by rw [bw,bw]
 have okc:=cellsFrom_ok scope.names ((s₂.heap.push lo).push do') (s₂.heap.objs.size+2) [] ⟨fun _ _ hm=>(nomatch hm),gW⟩ (by rw [sz];exact aj _)
 rw [sz] at okc
 have kp : ∀ b o,s₂.heap.get? b=some o->(pushCells ((s₂.heap.push lo).push do') scope.names).get? b=some o:=fun b o e=>pushCells_keeps _ _ b o (ah _ (ah _ e))
 have hL:(pushCells ((s₂.heap.push lo).push do') scope.names).get? (s₂.heap.objs.size+1)=some do':=pushCells_keeps _ _ _ _ (by
  have e:s₂.heap.objs.size+1=(s₂.heap.push lo).objs.size:=by rw [bw]
  rw [e];exact ax _ hdo2)
 refine⟨JW I C hfp hlt,rfl,I.bare,Un.kept kp,⟨fun _=>none,⟨do',#[],_,hL,hdo,fun e he=>by simp at he,fun _=>rfl⟩,fun i y v h1 h2 h3 => ?_⟩,fun y c h => ?_,I.hok.fresh (dO _),fun y c h => ?_,fun p hp=>absurd (show p∈([]:List (Addr×Obj)) from hp) (by simp),I.hok.kept kp,?_⟩
 ·have hi:i < X.N.length:=by
   by_cases hi:i < X.N.length
   ·exact hi
   ·rw [aA (by rw [I.len];exact cf (by assumption)),iG] at h2
    split at h2 <;> simp at h2
  rw [aR (by rw [I.len];exact hi)] at h2
  have hv:scope.names.lookup y=some .local\/scope.names.lookup y=some .cell\/scope.names.lookup y=some .free:=by
   rcases h3 with h3 | h3 | h3 <;> rcases hX h3 with e | ⟨e,e'⟩
   ·exact .inl e
   ·cases e'
   ·exact .inr (.inl e)
   ·exact .inr (.inr e)
   ·exact .inr (.inr e)
   ·cases e'
  obtain⟨hN,hfr⟩:=C.vis i y hi h1 hv
  have hmem:(y,aP)∈scope.names:=bY hfr
  have hk:=C.free _ hmem rfl
  have vis:Vis X.env.scope y := .inr hk
  obtain⟨m,hn,hl⟩:=I.loc
  obtain⟨u,r,l⟩:=hl i y v hN h2 vis
  refine⟨u,r,.inr ⟨kM hfr,?_⟩⟩
  rcases l with⟨hk',_⟩ | ⟨_,c,hc,hcell⟩
  ·rcases hk with hk | hk
   ·rw [hk] at hk';cases hk'
   ·rw [hk] at hk';cases hk'
  ·have nown:(cellsFrom (s₂.heap.objs.size+2) scope.names []).lookup y=none:=by
    cases q:(cellsFrom (s₂.heap.objs.size+2) scope.names []).lookup y with
    | none=>rfl
    | some d=>
      rcases jV scope.names _ _ d q with⟨z,hz,e1,e2⟩ | e
      ·obtain⟨z1,z2⟩:=z
       simp only at e1 e2
       subst e1;subst e2
       exact absurd (mL C.nd hz) (by rw [hfr];simp)
      ·cases e
   obtain⟨d,hd⟩:=gZ.mp (oM (env:=X.env) (x:=y) scope.names [] (.inl hfr))
   have hd':X.env.cells.lookup y=some d:=by
    rcases oA scope.names [] (C.frees I.ok) y d hd with e | e
    ·exact e
    ·cases e
   rw [hc] at hd';cases hd'
   refine⟨c,?_,hcell.keeps kp⟩
   show (cellsFrom (s₂.heap.objs.size+2) scope.names (jz X.env scope.names [])).lookup y=some c
   rw [ft,iu,nown]
   exact hd
 ·rcases kn (C.frees I.ok) h with a | a
  ·exact⟨none,(okc.empty y c (bY a)).1⟩
  ·obtain⟨v,z⟩:=I.cell y c a
   exact⟨v,z.keeps kp⟩
 ·rcases kn (C.frees I.ok) h with a | a
  ·exact I.hok.fresh (aL (fA _ 2) (okc.empty y c (bY a)).2)
  ·exact I.freeC y c a
 ·show (σ++aU xs.length none).length=N'.length
  rw [aX,n8,I.len,C.len]
end
noncomputable def PTs (X:Cx) (ifs:List Expr) (t:TT):Prop:=
 ∀ (pins:List (Addr×Obj)) (s:Shared) (σ:St) (H:Hp) (Q:Bool->Hp->Prop),Inv X pins σ H s->t σ H Q ->
  aH (model X.prog X.w) X.A (forIn ifs true fun c r=>if r=true then do let ok <- isTrue c X.env (eval c X.env);pure (dE ok) else pure (dE r)) (TP X pins σ Q) X.xe s
theorem Fh {X:Cx}:PTs X [] (fun _ H Q=>Q true H):=fun pins s σ H Q I h=>by
 rw [List.forIn_nil]
 exact az ⟨H,I,h⟩
theorem EX {X:Cx}{c:Expr}{t:TT} (h:PT X c t):PTs X [c] t:=fun pins s σ H Q I q=>by
 rw [jR]
 simp only [if_true]
 refine ae (ae (thn (h pins s σ H Q I q) fun b s1 e=>az ?_))
 show aH _ _ (forIn [] b _) _ _ _
 rw [List.forIn_nil]
 exact az e
noncomputable def oa (wi:TI) (tt:TT) (te:TE):TE:=fun σ H Q=>wi σ H fun J H1 => ∃ W:Nat->Nat->List V->Hp->Prop,(∃ m,W 0 m [] H1) /\ ∀ i m ys H,W i m ys H->ys.length < sizeLine /\
 ((J.stop i H /\ ∀ D,H D=none->Q (.ref D) (upd H D (.lst ys))) \/
  (J.go i H /\ ∀ x H',J.yld i H x H'->tt (σ ++ [some x]) H' fun b H3=>if b=true then te (σ ++ [some x]) H3 fun y H4 => ∃ m',m' < m/\W (i+1) m' (ys ++ [y]) H4 else ∃ m',m' < m/\W (i+1) m' ys H3))
theorem HOk.track {P:Program}{w:World}{H:Hp}{h:Heap}{a:Addr}{o:HO} (x:HOk P w H h) (hn:H a=none) (new:d6 P w (upd H a o) h a o):HOk P w (upd H a o) h:=fun b u e=>by
 by_cases hb:b=a
 ·subst hb;rw [cJ] at e;cases e;exact new
 ·rw [bE hb] at e
  exact (x b u e).stay (fun c v _ q=>q) (fun c q=>by rw [bE (bz q hn)];exact q) fun c xs q=>by rw [bE (bz q hn)];exact q
theorem HOk.but {P:Program}{w:World}{H:Hp}{h h':Heap}{a:Addr} (x:HOk P w H h) (hn:H a=none) (k : ∀ b o,b≠a->h.get? b=some o->h'.get? b=some o):HOk P w H h':=fun b u e=>by
 refine (x b u e).stay (fun c v hc q=>k c v ?_ q) (fun _ q=>q) fun _ _ q=>q
 rcases hc with rfl | hc
 ·exact bz e hn
 ·exact bz hc hn
noncomputable def J0 (gT:V->Hp->(St->Hp->Prop)->Prop) (wi:TI) (tt:TT) (te:TE):TE:=fun σ H Q=>wi σ H fun J H1 => ∃ W:Nat->Nat->List V->Hp->Prop,(∃ m,W 0 m [] H1) /\ ∀ i m ys H,W i m ys H->ys.length < sizeLine /\
 ((J.stop i H /\ ∀ D,H D=none->Q (.ref D) (upd H D (.lst ys))) \/
  (J.go i H /\ ∀ x H',J.yld i H x H'->gT x H' fun τ H2=>tt (σ++τ) H2 fun b H3=>if b=true then te (σ++τ) H3 fun y H4 => ∃ m',m' < m/\W (i+1) m' (ys ++ [y]) H4 else ∃ m',m' < m/\W (i+1) m' ys H3))
noncomputable def gT1:V->Hp->(St->Hp->Prop)->Prop:=fun v H Q=>Q [some v] H
section
variable {X:Cx}{N':List Str}{scope:Scope}{x:Str}{xs:List Str}{tg:Expr}{gT:V->Hp->(St->Hp->Prop)->Prop}{px pos:Pos}{elt iter:Expr}{ifs:List Expr}{wi:TI}{tt:TT}{te:TE}
theorem tY {use:Option (Value->Sem Unit)}{Qf:Value->Shared->Prop} (hc:X.calm=true) (C:iX X N' scope xs) (hi:PI X tg iter wi)
  (ht : ∀ s₂ H₂ fp,PTs (blk X N' scope s₂ H₂ fp) ifs tt) (he : ∀ s₂ H₂ fp,PE (blk X N' scope s₂ H₂ fp) elt te) {pins:List (Addr×Obj)}{s:Shared}{σ:St}{H:Hp}{Q:VK} (I:Inv X pins σ H s) (h:J0 gT wi tt te σ H Q)
  (htg : ∀ (s₂:Shared) (H₂:Hp) (fp:List Addr) (pl:List (Addr×Obj)) (s:Shared) (H:Hp) (v:V) (u:Value) (Q:St->Hp->Prop),Inv (blk X N' scope s₂ H₂ fp) pl (σ++aU xs.length none) H s->RelV v u->gT v H Q ->
   aH (model X.prog X.w) X.A (assign tg (blk X N' scope s₂ H₂ fp).env u) (fun _ s' => ∃ τ H',τ.length=xs.length/\Inv (blk X N' scope s₂ H₂ fp) pl (σ++τ) H' s'/\Q τ H') (fun _ _=>False) s)
  (hfin : ∀ (s':Shared) (L D:Addr) (H':Hp) (ml:Str->Option Value),s'.heap.Ns L ml->Inv X pins σ H' s'->H' L=none->L≠X.env.locals->X.s₀.heap.objs.size<=L->(∀ y c,X.env.cells.lookup y=some c->c≠L)->(∀ p∈X.pn++pins,p.1≠L) ->
   Q (.ref D) H'->compPost (model X.prog X.w) X.A X.xe use Qf (.ref D) L (.ok .next) s') :
  aH (model X.prog X.w) X.A (eval iter X.env) (fun xv s₁=>aH (model X.prog X.w) X.A (pyIter xv) (fun it s₂=>aH (model X.prog X.w) X.A (newList []) (fun acc s₃=>
   aH (model X.prog X.w) X.A (newFunctionEnv scope X.env.globals (jz X.env scope.names []) [] X.env.qual none .none (some X.env)) (fun cenv s₄=>
    nz (model X.prog X.w) X.A (.compStart (.ListComp elt [⟨tg,iter,ifs,0⟩] scope pos) 0 it acc { cenv with scope:=relabel scope X.env }) (compPost (model X.prog X.w) X.A X.xe use Qf acc cenv.locals) s₄) X.xe s₃) X.xe s₂) X.xe s₁) X.xe s:=by
 refine thn (hi pins s σ H _ I h) fun v s1 h1=>thn h1 fun itv s2 h2 => ?_
 obtain⟨it,fp,tn,J,H2,e,I2,T,st2,f2,W,⟨m0,w0⟩,turn⟩:=h2
 subst e
 have hlt : ∀ b∈fp,b < s2.heap.objs.size:=fun b hb=>by obtain⟨o,ho,_⟩:=T.obj _ _ st2 b hb;exact aC ho
 refine cU (oG ?_)
 dsimp only
 have I4:Inv (blk X N' scope s2 H2 fp) [] (σ++aU xs.length none) H2 { s2 with heap:=pushCells ((s2.heap.push { cls := .type "list",dict:=none,data := .seq ([]:List Value).toArray }).push { cls := .type "dict",data := .dict #[] }) scope.names }:=
  Be I2 C f2 hlt rfl rfl rfl
 generalize hXb:blk X N' scope s2 H2 fp=Xb at I4
 have hD4:(pushCells ((s2.heap.push { cls := .type "list",dict:=none,data := .seq ([]:List Value).toArray }).push { cls := .type "dict",data := .dict #[] }) scope.names).get? s2.heap.objs.size=some { cls := .type "list",data := .seq ([]:List Value).toArray }:=
  pushCells_keeps _ _ _ _ (ah _ (ax _ rfl))
 have st4:tn 0 (pushCells ((s2.heap.push { cls := .type "list",dict:=none,data := .seq ([]:List Value).toArray }).push { cls := .type "dict",data := .dict #[] }) scope.names):=
  T.keep _ _ _ st2 fun b hb o e=>pushCells_keeps _ _ b o (ah _ (ah _ e))
 have henv:({ scope:=relabel scope X.env,locals:=(s2.heap.push { cls := .type "list",dict:=none,data := .seq ([]:List Value).toArray }).objs.size,globals:=X.env.globals,cells:=cellsFrom ((s2.heap.push { cls := .type "list",dict:=none,data := .seq ([]:List Value).toArray }).objs.size+1) scope.names (jz X.env scope.names []),qual:=X.env.qual,func:=none,code:=X.env.code,frame:=X.env.frame,builtins:=X.env.builtins }:Env)=Xb.env:=by
  rw [<- hXb,bw];rfl
 generalize hs4:({ s2 with heap:=pushCells ((s2.heap.push { cls := .type "list",dict:=none,data := .seq ([]:List Value).toArray }).push { cls := .type "dict",data := .dict #[] }) scope.names }:Shared)=s4 at I4
 have hD4':s4.heap.get? s2.heap.objs.size=some { cls := .type "list",data := .seq ([]:List Value).toArray }:=by rw [<- hs4];exact hD4
 have st4':tn 0 s4.heap:=by rw [<- hs4];exact st4
 have hL:Xb.env.locals=s2.heap.objs.size+1:=by rw [<- hXb];rfl
 have hex:Xb.ex=fp:=by rw [<- hXb];rfl
 have hs0:Xb.s₀=s2:=by rw [<- hXb];rfl
 have hH0:Xb.H₀=H2:=by rw [<- hXb];rfl
 have hfs:Xb.fs=frs X.stack:=by rw [<- hXb];rfl
 have hpn:Xb.pn = []:=by rw [<- hXb];rfl
 have hK:Xb.K=X.K:=by rw [<- hXb];rfl
 have hP:Xb.prog=X.prog:=by rw [<- hXb];rfl
 have hw:Xb.w=X.w:=by rw [<- hXb];rfl
 have hA:Xb.A=X.A:=by rw [<- hXb];rfl
 have hxe:Xb.xe=fun _ _=>False:=by rw [<- hXb];rfl
 have hcb:Xb.calm=true:=by rw [<- hXb];exact hc
 have hNb:Xb.N=N':=by rw [<- hXb];rfl
 have hfn : ∀ y,scope.names.lookup y=some .cell->Xb.fn y=true:=fun y hy=>by rw [<- hXb];show (scope.names.lookup y == some .cell)=true;rw [hy];rfl
 have htb:PTs Xb ifs tt:=by rw [<- hXb];exact ht _ _ _
 have heb:PE Xb elt te:=by rw [<- hXb];exact he _ _ _
 have hgb : ∀ (pl:List (Addr×Obj)) (s:Shared) (H:Hp) (v:V) (u:Value) (Q:St->Hp->Prop),Inv Xb pl (σ++aU xs.length none) H s->RelV v u->gT v H Q ->
   aH (model X.prog X.w) X.A (assign tg Xb.env u) (fun _ s' => ∃ τ H',τ.length=xs.length/\Inv Xb pl (σ++τ) H' s'/\Q τ H') (fun _ _=>False) s:=by
  rw [<- hXb];exact htg _ _ _
 have cellne : ∀ y c,Xb.env.cells.lookup y=some c->c≠s2.heap.objs.size:=fun y c e z=>by
  obtain⟨v,o,ho,hd⟩:=I4.cell y c e
  rw [z,hD4'] at ho
  cases ho
  cases hd
 have stat : ∀ {H':Hp}{pl:List (Addr×Obj)},(∀ b∈fp,H' b=none)->(∀ p∈pl,p.1=s2.heap.objs.size) -> ∀ b∈fp,sM Xb pl H' b:=fun {H' pl} hn hpl b hb=>by
  refine⟨hn b hb,?_,?_,.inl (by rw [hex];exact hb),fun y c e z => ?_,fun p hp z => ?_⟩
  ·rw [hL];exact aG (cq (hlt b hb))
  ·exact I4.ok.exfs b (by rw [hex];exact hb)
  ·exact (I4.ok.exf b (by rw [hex];exact hb)).2 y c e z
  ·rw [hpn] at hp
   have h1:=hpl p (by simpa using hp)
   have h2:=hlt b hb
   exact absurd h2 (by rw [<- z,h1];exact bL _)
 have Dfs:s2.heap.objs.size∉Xb.fs:=by
  rw [hfs]
  intro z
  rcases aJ.mp (I2.stkSub _ z) with e | e
  ·exact absurd I2.lt (by rw [<- e];exact bL _)
  ·exact I2.nofs (aj _) e
 have fin : ∀ (s':Shared) (i m:Nat) (ys:List V) (its:List Value) (n:Nat) (H':Hp) (σ':St),Inv Xb [] σ' H' s'->H' s2.heap.objs.size=none->s'.heap.get? s2.heap.objs.size=some { cls := .type "list",data := .seq its.toArray n }->cu ys its->ys.length < sizeLine ->
   (∀ D,H' D=none->Q (.ref D) (upd H' D (.lst ys)))->compPost (model X.prog X.w) X.A X.xe use Qf (.ref s2.heap.objs.size) Xb.env.locals (.ok .next) s':=by
  intro s' i m ys its n H' σ' I' hDn hDo rv hz q
  obtain⟨ml,hml,_⟩:=I'.loc
  have kb : ∀ b o,b≠Xb.env.locals->s'.heap.get? b=some o->s'.heap.get? b=some o:=fun b o _ e=>e
  have hDL:s2.heap.objs.size≠Xb.env.locals:=by rw [hL];exact aG (cg _)
  have hok1:HOk X.prog X.w H' s'.heap:=by
   have:=I'.hok.but I'.free kb
   rw [hP,hw] at this;exact this
  have hok2:HOk X.prog X.w (upd H' s2.heap.objs.size (.lst ys)) s'.heap:=hok1.track hDn ⟨aQ hz,its,n,rv,kb _ _ hDL hDo⟩
  have base:=I'.base
  rw [hs0,hH0,hex,hfs] at base
  have un:Un (frs X.stack) fp H2 (upd H' s2.heap.objs.size (.lst ys)) s2.heap s'.heap:=by
   have ltL : ∀ b o,s2.heap.get? b=some o->b≠Xb.env.locals:=fun b o e=>by rw [hL];exact aG (cq (aC e))
   have ltD : ∀ b o,s2.heap.get? b=some o->b≠s2.heap.objs.size:=fun b o e=>aG (aC e)
   refine⟨fun b o e n hb hx=>kb b o (ltL b o e) (base.keep b o e n hb hx),fun b o e n hb hx => ?_,fun b o e n hx => ?_,fun b o e hx => ?_,fun b xs e => ?_,fun b o u e => ?_,fun b ps e => ?_⟩
   ·obtain⟨sl,q⟩:=base.slot b o e n hb hx
    exact⟨sl,kb b _ (ltL b o e) q⟩
   ·rw [bE (ltD b o e)];exact base.free b o e n hx
   ·obtain⟨o',q⟩:=base.there b o e hx
    exact⟨o',kb b _ (ltL b o e) q⟩
   ·have q:=base.tups b xs e
    rw [bE (bz q hDn)];exact q
   ·have q:=base.frzs b o u e
    rw [bE (bz q hDn)];exact q
   ·obtain⟨more,q⟩:=base.tbls b ps e
    exact⟨more,by rw [bE (bz q hDn)];exact q⟩
  have os:s'.os=s2.os:=by rw [I'.os,hs0]
  have If:=I2.call' (s':=s') os un hok2 I'.bare fun b hb=>⟨(f2 b hb).2.2.2.1,(f2 b hb).2.1,(f2 b hb).2.2.2.2.1,(f2 b hb).2.2.2.2.2⟩
  refine hfin s' _ _ _ ml hml If ?_ ?_ ?_ ?_ ?_ (q _ hDn)
  ·rw [bE (d7 hDL)];exact I'.free
  ·rw [hL];exact dH (cq I2.lt)
  ·rw [hL];exact gg I2.sz
  ·intro y c e z
   obtain⟨v,o,ho,_⟩:=I2.cell y c e
   have:=aC ho
   rw [z,hL] at this;exact absurd (Nat.lt_of_succ_lt this) (bL _)
  ·intro p hp z
   have:=aC (I2.pin p hp).1
   rw [z,hL] at this;exact absurd (Nat.lt_of_succ_lt this) (bL _)
 have loop : ∀ it':Addr,it'=it->nz (model X.prog X.w) X.A (.compLoop (.ListComp elt [⟨tg,iter,ifs,0⟩] scope pos) 0 (.ref it') (.ref s2.heap.objs.size) Xb.env) (compPost (model X.prog X.w) X.A X.xe use Qf (.ref s2.heap.objs.size) Xb.env.locals) s4:=by
  rintro it' rfl
  refine lW (fun n s' => ∃ (i:Nat) (ys:List V) (its:List Value) (nn:Nat) (H':Hp),Inv Xb [] (σ++aU xs.length none) H' s'/\tn i s'.heap/\(∀ b∈fp,H' b=none)/\H' s2.heap.objs.size=none /\
   s'.heap.get? s2.heap.objs.size=some { cls := .type "list",data := .seq its.toArray nn }/\cu ys its/\W i n ys H') ?_ m0 ⟨0,[],[],_,H2,I4,st4',fun b hb=>(f2 b hb).1,I2.hok.fresh (aj _),hD4',.nil,w0⟩
  rintro n s3 ⟨i,ys,its,nn,H3,I3,st3,fr3,hD3,hDo3,rv3,w3⟩
  obtain⟨hz,turn⟩:=turn i n ys H3 w3
  have pinD : ∀ {s':Shared}{H':Hp}{σ':St}{oD:Obj},Inv Xb [] σ' H' s'->H' s2.heap.objs.size=none->s'.heap.get? s2.heap.objs.size=some oD->(∀ v,oD.data ≠ .cell v)->Inv Xb [(s2.heap.objs.size,oD)] σ' H' s':=fun {s' H' σ' oD} I' hn ho hd=>
   I'.pins_of fun p hp=>by
    have e:p=(s2.heap.objs.size,oD):=by simpa using hp
    subst e
    exact⟨ho,hn,by rw [hL];show s2.heap.objs.size≠_;exact aG (cg _),Dfs,hd⟩
  have I3p:=pinD I3 hD3 hDo3 (fun v z=>by cases z)
  have hpl : ∀ p ∈ [(s2.heap.objs.size,({ cls := .type "list",data := .seq its.toArray nn }:Obj))],p.1=s2.heap.objs.size:=fun p hp=>by
   have e:=bN.mp hp
   rw [e]
  rcases turn with⟨stop,qn⟩ | ⟨go,step⟩
  ·have q:=T.done Xb hP hw hK hcb i _ s3 _ H3 (fun _ _=>False) I3p (stat fr3 hpl) st3 stop
   rw [hA] at q
   refine da q (fun r s5 ⟨hr,I5⟩ => ?_) fun _ _ z=>cR z
   subst hr
   exact fin s5 i n ys its nn H3 _ (I5.pins_of fun p hp=>absurd hp (by simp)) hD3 (I5.pin _ (aV _ (bN.mpr rfl))).1 rv3 hz qn
  ·have q:=T.item Xb hP hw hK hcb i _ s3 _ H3 (fun _ _=>False) I3p (stat fr3 hpl) st3 go
   rw [hA] at q
   refine da q (fun r s45 ⟨u,hr,h5⟩ => ?_) fun _ _ z=>cR z
   subst hr
   refine da h5 (fun _ s5 ⟨y5,H5,I5,r5,yl5,st5,fr5⟩ => ?_) fun _ _ z=>cR z
   have hD5:=(I5.pin _ (aV _ (bN.mpr rfl)))
   have I5':=I5.pinned (stat fr5 hpl) (T.obj _ _ st5)
   refine da (hgb _ s5 H5 y5 _ _ I5' r5 (step y5 H5 yl5)) (fun _ s6 ⟨τ,H6,hτ,I6,q6⟩ => ?_) fun _ _ z=>cR z
   have qt:=htb _ s6 _ H6 _ I6 q6
   rw [hP,hw,hA,hxe] at qt
   refine da qt (fun b s7 ⟨H7,I7,q7⟩ => ?_) fun _ _ z=>cR z
   have again : ∀ {s8:Shared}{H8:Hp}{σ8:St},Inv Xb ([(s2.heap.objs.size,({ cls := .type "list",data := .seq its.toArray nn }:Obj))]++rF fp s5.heap) σ8 H8 s8->tn (i+1) s8.heap/\(∀ b∈fp,H8 b=none)/\H8 s2.heap.objs.size=none/\s8.heap.get? s2.heap.objs.size=some { cls := .type "list",data := .seq its.toArray nn }:=fun {s8 H8 σ8} I8=>by
    refine⟨T.keep _ _ _ st5 fun b hb o e=>(I8.pin (b,o) (aV _ (aV _ (kD hb e)))).1,fun b hb => ?_,?_,?_⟩
    ·obtain⟨o,e,d⟩:=T.obj _ _ st5 b hb
     exact (I8.pin (b,o) (aV _ (aV _ (kD hb e)))).2.1
    ·exact (I8.pin _ (aV _ (bB _ (bN.mpr rfl)))).2.1
    ·exact (I8.pin _ (aV _ (bB _ (bN.mpr rfl)))).1
   have forget : ∀ {s8:Shared}{H8:Hp}{pl:List (Addr×Obj)},Inv Xb pl (σ++τ) H8 s8->Inv Xb [] (σ++aU xs.length none) H8 s8:=fun {s8 H8 pl} I8=>
    (I8.pins_of (pins' := []) fun p hp=>absurd hp (by simp)).weak (by simp [hτ]) fun j v hj=>by
     by_cases hjs:j < σ.length
     ·rw [aR hjs] at hj ⊢;exact hj
     ·rw [aA (by exact cf (by assumption)),iG] at hj
      split at hj <;> simp at hj
   cases b with
   | false=>
     have q7' : ∃ m',m' < n/\W (i+1) m' ys H7:=q7
     obtain⟨m',hm,w7⟩:=q7'
     obtain⟨a1,a2,a3,a4⟩:=again I7
     exact⟨m',hm,i+1,ys,its,nn,H7,forget I7,a1,a2,a3,a4,rv3,w7⟩
   | true=>
     have q7':te (σ++τ) H7 fun y H4 => ∃ m',m' < n/\W (i+1) m' (ys ++ [y]) H4:=q7
     have qe:=heb _ s7 _ H7 _ I7 q7'
     rw [hP,hw,hA,hxe] at qe
     refine da qe (fun uv s8 ⟨y8,H8,I8,r8,m',hm,w8⟩ => ?_) fun _ _ z=>cR z
     obtain⟨a1,a2,a3,a4⟩:=again I8
     have I9:=forget I8
     have hl3:=rv3.length
     refine call_meets F.slot_list_append ⟨_,a4,rfl⟩ F.entry_list_append (F.args_list_append_2 _ _) (PySem.list_append s2.heap.objs.size its.toArray nn uv (by rw [aF];omega)) ⟨a4,?_⟩
     have hup:=Ei a4 (·.push uv)
     have e1:(its.toArray.push uv)=(its ++ [uv]).toArray:=by simp
     rw [e1] at hup
     have I10:Inv Xb [] (σ++aU xs.length none) H8 { s8 with heap:=s8.heap.update s2.heap.objs.size (cX (·.push uv)) }:=
      I9.turned (t':=s8.toks) (fun b' u hb hu=>(cy s8.heap (cX (·.push uv)) (d7 hb)).trans hu) a3 (by rw [hL];exact aG (cg _)) (.inr (by rw [hs0];exact aj _)) cellne (fun p hp=>by rw [hpn] at hp;exact absurd hp (by simp))
     refine⟨m',hm,i+1,ys ++ [y8],its ++ [uv],_,H8,I10,T.keep _ _ _ a1 fun b hb o e => ?_,a2,a3,hup,rv3.append (.cons r8 .nil),w8⟩
     exact (cy s8.heap (cX (·.push uv)) (by first | exact dH (hlt b hb) | exact aG (hlt b hb))).trans e
 have start:=codeAny_compStart_list (loop it rfl) (T.self X.A 0 s4 _ _ st4' (loop it rfl))
 rw [henv]
 have eL:(s2.heap.push { cls := .type "list",dict:=none,data := .seq ([]:List Value).toArray }).objs.size=Xb.env.locals:=by rw [bw,hL]
 rw [eL]
 exact start
theorem zN (C:iX X N' scope [x]) {σ:St} (s₂:Shared) (H₂:Hp) (fp:List Addr) (pl:List (Addr×Obj)) (s:Shared) (H:Hp) (v:V) (u:Value) (Q:St->Hp->Prop) (I:Inv (blk X N' scope s₂ H₂ fp) pl (σ++aU [x].length none) H s) (r:RelV v u) (q:gT1 v H Q) :
  aH (model X.prog X.w) X.A (assign (.Name x px) (blk X N' scope s₂ H₂ fp).env u) (fun _ s' => ∃ τ H',τ.length = [x].length/\Inv (blk X N' scope s₂ H₂ fp) pl (σ++τ) H' s'/\Q τ H') (fun _ _=>False) s:=by
 have hl:σ.length=X.N.length:=by
  have:=I.len
  rw [show (blk X N' scope s₂ H₂ fp).N=N' from rfl,C.len,aX,n8] at this
  omega
 have hlocx:Loc (blk X N' scope s₂ H₂ fp).env.scope x:=by
  rcases C.own x (by simp) with e | e
  ·exact .inl (lookup_relabel_local e)
  ·exact .inr (kO e)
 have hfx:(blk X N' scope s₂ H₂ fp).fn x=true\/(blk X N' scope s₂ H₂ fp).env.scope.names.lookup x=some .local:=by
  rcases C.own x (by simp) with e | e
  ·right;exact lookup_relabel_local e
  ·left;show (scope.names.lookup x == some .cell)=true;rw [e];rfl
 refine xS (qR I C.ndN (i:=X.N.length) (C.last 0 x rfl) hlocx r (fun s6 I6 => ?_) hfx)
 have hset:(σ++aU [x].length none).set X.N.length (some v)=σ ++ [some v]:=by
  rw [<- hl,fX _ _ (aj _)];simp
 rw [hset] at I6
 exact⟨[some v],H,rfl,I6,q⟩
theorem E8 (hc:X.calm=true) (C:iX X N' scope [x]) (hi:PI X (.Name x px) iter wi)
  (ht : ∀ s₂ H₂ fp,PTs (blk X N' scope s₂ H₂ fp) ifs tt) (he : ∀ s₂ H₂ fp,PE (blk X N' scope s₂ H₂ fp) elt te)
  (hs:autoParam (∀ x,foldedSetIterable iter X.env x=pure x) au3._auto_1) :
  PE X (.ListComp elt [⟨.Name x px,iter,ifs,0⟩] scope pos) (oa wi tt te):=by
 intro pins s σ H Q I h
 rw [eval_ListComp]
 refine wpAny_comprehension_free (use:=none) (cl:=jz X.env scope.names []) rfl hs (kX (C.frees I.ok)) C.kind (fun y hy e=>mL C.nd (by rw [<- e];exact hy)) ?_
 refine tY (gT:=gT1) hc C hi ht he I h (zN C) fun s' L D H' ml hml I' hn h1 h2 h3 h4 q => ?_
 exact⟨ml,hml,fun h' hsb=>⟨.ref D,H',I'.turned (t':=s'.toks) (fun b o hb e=>(hsb.2 b hb).trans e) hn h1 (.inr h2) h3 h4,rfl,q⟩⟩
theorem Fg {i:Nat}{y:Str}{py spos:Pos} (hN:X.N.Nodup) (hi':X.N[i]? = some y) (hy:Loc X.env.scope y) (hc:X.calm=true) (C:iX X N' scope [x]) (hi:PI X (.Name x px) iter wi)
  (ht : ∀ s₂ H₂ fp,PTs (blk X N' scope s₂ H₂ fp) ifs tt) (he : ∀ s₂ H₂ fp,PE (blk X N' scope s₂ H₂ fp) elt te)
  (hsw:swapsWith (.ListComp elt [⟨.Name x px,iter,ifs,0⟩] scope pos) (some (.Name y py)) spos.line X.env=pure true)
  (hs:autoParam (∀ x,foldedSetIterable iter X.env x=pure x) au3._auto_1) (hf:autoParam (X.fn y=true\/X.env.scope.names.lookup y=some .local) au4._auto_1) :
  PS X (.Assign [.Name y py] (.ListComp elt [⟨.Name x px,iter,ifs,0⟩] scope pos) spos) (CM (oa wi tt te) (i5 i)):=by
 intro pins s σ H D I h
 rw [exec_Assign_Name_used _ _ _ _ hsw]
 refine ae (wpAny_standAt (ae ?_))
 show aH _ X.A (do let _ <- comprehension (.ListComp elt [⟨.Name x px,iter,ifs,0⟩] scope pos) scope X.env _ (newList []) false (eval iter X.env) (some (assign (.Name y py) X.env))) _ _ s
 refine ae (da (wpAny_comprehension_free (use:=some (assign (.Name y py) X.env)) (Q:=fun _ s'=>SP X pins D .next s') (cl:=jz X.env scope.names []) rfl hs (kX (C.frees I.ok)) C.kind (fun y hy e=>mL C.nd (by rw [<- e];exact hy))
  (tY (gT:=gT1) (Q:=fun v H1=>i5 i v σ H1 D.nx) hc C hi ht he I h (zN C) fun s' L D' H' ml hml I' hn h1 h2 h3 h4 q => ?_)) (fun _ s' hq=>az (az hq)) fun _ _ e=>e)
 show aH _ X.A (assign (.Name y py) X.env (.ref D')) _ _ _
 refine xS (t9 (v := .ref D') I' hN hi' hy rfl (fun s6 I6 hsb => ?_) hf)
 obtain⟨a,hsb,ha⟩:=hsb
 have haL:L≠a:=by
  rcases ha with e | e
  ·rw [e];exact h1
  ·exact d7 (h3 _ _ e)
 refine⟨ml,hml.sameBut hsb haL,fun h' hsb' => ?_⟩
 exact⟨_,H',I6.turned (t':=s6.toks) (fun b o hb e=>(hsb'.2 b hb).trans e) hn h1 (.inr h2) h3 h4,q⟩
inductive q9:List Expr->List Str->Prop
 | nil:q9 [] []
 | cons (x:Str) (p:Pos) {es xs}:q9 es xs->q9 (.Name x p::es) (x::xs)
end
end _L
end
section
namespace HT
open PySem PyProof.Rows
open PySem.SeqAt
open PySem.AutoSeq1 (wpAny_loadPart')
open PySem.MeetsSeq PySem.MeetsSeq2 PySem.MeetsSeq3
section
variable {prog:Program}{w:World}{A:Around}{E:Value->Shared->Prop}{s:Shared}
theorem cat_tup0 {t b:Addr}{ws:List Value}{Q:Value->Shared->Prop} (ht:IsTup s.heap t ([]:List Value).toArray) (hb:IsTup s.heap b ws.toArray) (h:Q (.ref b) s):aH (model prog w) A (binaryOp .Add (.ref t) (.ref b)) Q E s:=by
 obtain⟨⟨cls,dd,data,sl⟩,ho,hc,n,hd⟩:=id ht
 obtain⟨⟨cls2,dd2,data2,sl2⟩,ho2,hc2,n2,hd2⟩:=id hb
 simp only at hc hd hc2 hd2
 subst hc hd hc2 hd2
 exact concat_meets ⟨_,ho,rfl⟩ ⟨_,ho2,rfl⟩ noFill_tuple_add seq_tuple_add mz lB (kP _ _)
   (tuple_addW0 t b #[] ws.toArray n n2 dd dd2 sl sl2 (by simp)) ⟨ho,ho2,h⟩
end
end HT
end
section
namespace _G
open PySem PySem.SeqAt
open PySem.AutoSeq1 (wpAny_loadPart')
open PySem.MeetsSeq PySem.MeetsSeq2 PySem.MeetsSeq3
theorem sH (l:Addr) (items:Array Value) (n:Nat) (dd:Option Addr) (sl:Array (Option Value)) (x:Value) (e:Value->Bool) (j:Nat) (hj:j < items.size)
  (hit:e items[j]=true) (hno : ∀ m (hm:m < items.size),m < j->e items[m]=false) :
  Meets (Builtin.«tuple.index» ⟨[.ref l,x],[]⟩)
   (fun A R s=>s.heap.get? l=some { cls := .type "tuple",dict:=dd,data := .seq items n,slots:=sl }/\(∀ y,y∈items->EqAt A.in1 s y x (e y))/\R (.ok (.ret (.int j s.toks))) { s with toks:=s.toks+1 }):=
 .of_wp fun prog w A R s h=>by
  obtain⟨hp,g,d,tk,os⟩:=s;obtain⟨hl,he,h⟩:=h
  simp only [Builtin.«tuple.index»,Std.Legacy.Range.forIn_eq_forIn_range']
  wp_walk using gG hl,wpAny_forIn_list _ (fun rest b s'=>b.1=none/\s'=⟨hp,g,d,tk,os⟩ /\ ∃ i,i<=j/\rest=dJ i (items.size - i)) _
  case turn=>
   rintro y rest b s' ⟨hb,rfl,i,hij,hrest⟩
   have hlt:i < items.size:=by
    rcases Nat.lt_or_ge i items.size with q | q
    ·exact q
    ·exact aN (by assumption) (by assumption)
   obtain⟨k,hk⟩ : ∃ k,items.size - i=k+1:=⟨items.size - i - 1,by omega⟩
   rw [hk,uu] at hrest
   injection hrest with h1 h2
   subst h1
   have hg:items[y]? = some items[y]:=by simp [hlt]
   rw [hg]
   refine ae (he _ (Array.getElem_mem hlt) prog w _ _ ?_)
   by_cases hyj:y=j
   ·subst hyj
    rw [hit]
    wp_walk
    exact⟨_,rfl,h⟩
   ·rw [hno y hlt (by exact kR (by assumption) (by assumption))]
    wp_walk
    exact⟨rfl,rfl,y+1,by exact kR (by assumption) (by assumption),by rw [h2];congr 1;omega⟩
  case fin=>
   rintro ⟨b1,b2⟩ s' ⟨hb,rfl,i,hij,hrest⟩
   exfalso
   have h3:=congrArg Ey hrest
   simp at h3
   omega
  case h=>
   exact⟨rfl,rfl,0,dj _,by simp⟩
end _G
end
section
namespace _G
open PySem PySem.SeqAt
open PySem.AutoSeq1 (wpAny_loadPart')
open PySem.MeetsSeq PySem.MeetsSeq2 PySem.MeetsSeq3
theorem pe:fillsNumberSlot (.type "tuple") "mul"=pure false:=
 fillsNumberSlot_seq (id:="tuple.__mul__") (r:=some (.builtin "tuple.__rmul__")) F.slot_tuple_mul.lookup (by decide +kernel) F.slot_tuple_rmul.lookup (by decide +kernel)
theorem vP:seqRepeat? (.type "tuple")=pure (some (.builtin "tuple.__mul__")):=by
 unfold seqRepeat?
 rw [seqSlot_of (T:="tuple") (name:="__mul__") (id:="tuple.__mul__") F.slot_tuple_mul.lookup (by decide +kernel),seqSlot_of (T:="tuple") (name:="__rmul__") (id:="tuple.__rmul__") F.slot_tuple_rmul.lookup (by decide +kernel)]
 rfl
theorem qy (a:Int) (t:Tok) (l:Addr) (items:Array Value) (n:Nat) (dd:Option Addr) (sl:Array (Option Value)) :
  Meets (Builtin.«int.__rmul__» ⟨[.int a t,.ref l],[]⟩) (fun _ R s=>s.heap.get? l=some { cls := .type "tuple",dict:=dd,data := .seq items n,slots:=sl }/\R (.ok (.ret Value.notImplemented)) s):=
 .of_wp fun prog w A R s h=>by obtain⟨hp,g,d,tk,os⟩:=s;obtain⟨hl,h⟩:=h;wp_walk;exact⟨_,rfl,h⟩
theorem sN (l:Addr) (items:Array Value) (n:Nat) (dd:Option Addr) (sl:Array (Option Value)) (t:Tok) :
  Meets (Builtin.«tuple.__mul__» ⟨[.ref l,.int 1 t],[]⟩) (fun _ R s=>s.heap.get? l=some { cls := .type "tuple",dict:=dd,data := .seq items n,slots:=sl }/\R (.ok (.ret (bp l))) { s with toks:=s.toks }):=
 .of_wp fun prog w A R s h=>by
  obtain⟨hp,g,d,tk,os⟩:=s;obtain⟨hl,h⟩:=h
  have f1:=qp
  have hno : ¬ ((decide ((1:Int) < -2 ^ 63)||decide ((1:Int) >= 2 ^ 63))=true):=by decide
  have hyes:(items.isEmpty||(1:Int) == 1)=true:=by simp
  wp_walk using gG hl
  exact⟨_,rfl,h⟩
theorem yi (l:Addr) (items:Array Value) (n:Nat) (dd:Option Addr) (sl:Array (Option Value)) (t:Tok) (he:items.isEmpty=false) :
  Meets (Builtin.«tuple.__mul__» ⟨[.ref l,.int 0 t],[]⟩) (fun _ R s=>s.heap.get? l=some { cls := .type "tuple",dict:=dd,data := .seq items n,slots:=sl }/\R (.ok (.ret (bp s.heap.objs.size))) { s with heap:=s.heap.push { cls:=m8 "tuple",data:=ED #[] },toks:=s.toks }):=
 .of_wp fun prog w A R s h=>by
  obtain⟨hp,g,d,tk,os⟩:=s;obtain⟨hl,h⟩:=h
  have f1:=qp
  have hno : ¬ ((decide ((0:Int) < -2 ^ 63)||decide ((0:Int) >= 2 ^ 63))=true):=by decide
  have hno1 : ¬ ((items.isEmpty||(0:Int) == 1)=true):=by rw [he];decide
  have hyes:(decide ((0:Int)<=0)||items.isEmpty)=true:=by simp
  wp_walk using gG hl
  exact⟨_,rfl,h⟩
theorem yC (l:Addr) (items:Array Value) (n:Nat) (dd:Option Addr) (sl:Array (Option Value)) (k:Int) (t:Tok) (h1 : ¬ (items.isEmpty||k == 1)=true) (h0:0 < k) (hk:k < 1000) (hz:items.size < 1000) :
  Meets (Builtin.«tuple.__mul__» ⟨[.ref l,.int k t],[]⟩) (fun _ R s=>s.heap.get? l=some { cls := .type "tuple",dict:=dd,data := .seq items n,slots:=sl } /\
   R (.ok (.ret (bp s.heap.objs.size))) { s with heap:=s.heap.push { cls:=m8 "tuple",data:=ED ((aU k.toNat items).foldl (· ++ ·) #[]) },toks:=s.toks }):=
 .of_wp fun prog w A R s h=>by
  obtain⟨hp,g,d,tk,os⟩:=s;obtain⟨hl,h⟩:=h
  have f1:=qp
  have hno : ¬ ((decide (k < -2 ^ 63)||decide (k >= 2 ^ 63))=true):=by
   rw [nX,decide_eq_true_eq,decide_eq_true_eq];omega
  have he:items.isEmpty=false:=by
   cases q:items.isEmpty with
   | false=>rfl
   | true=>rw [q] at h1;simp at h1
  have hno2 : ¬ ((decide (k<=0)||items.isEmpty)=true):=by
   rw [he,Bool.or_false,decide_eq_true_eq];omega
  have hp1:(items.size:Int)*k<=1000000:=by
   have a1:(items.size:Int)*k<=1000*k:=Int.mul_le_mul_of_nonneg_right (by omega) (by omega)
   omega
  have hm1 : ¬ ((items.size:Int)*k > (2 ^ 63 - 1) / 8):=by omega
  have hm2 : ¬ (pV ((items.size:Int)*k)=true):=by
   unfold pV
   simp only [sizeLine_eq,decide_eq_true_eq,gt_iff_lt]
   omega
  have hsz:(List.foldl (fun x1 x2=>x1++x2) #[] (aU k.toNat items)).size<=sizeLine:=by
   have e : ∀ (m:Nat) (a:Array Value),(List.foldl (fun x1 x2=>x1++x2) a (aU m items)).size=a.size+m*items.size:=by
    intro m
    induction m with
    | zero=>intro a;simp
    | succ m ih=>intro a;rw [dI,fR,ih];simp;rw [i3];omega
   rw [e]
   have a2:k.toNat*items.size<=1000*items.size:=fb _ (by omega)
   rw [sizeLine_eq]
   simp;omega
  wp_walk using gG hl
  rw [if_neg hno]
  wp_walk using gG hl
  rw [if_neg h1]
  wp_walk using gG hl
  rw [if_neg hm1]
  wp_walk using gG hl
  all_goals first | exact⟨_,rfl,h⟩ | skip
end _G
end
section
namespace _G
open PySem PySem.Spec _L
open PyProof.Rows hiding St
mutual
noncomputable def RU (H:Hp) (μ:List Addr):U->V->Prop
 | .non,v=>v = .non
 | .bl b,v=>v = .bl b
 | .int i,v=>v = .int i
 | .str x,v=>v = .str x
 | .tup us,v => ∃ a vs,v = .ref a/\H a=some (.tup vs)/\RUs H μ us vs
 | .ref n,v => ∃ a,v = .ref a/\μ[n]? = some a
 | .obj a,v=>v = .ref a
noncomputable def RUs (H:Hp) (μ:List Addr):List U->List V->Prop
 | [],vs=>vs = []
 | u::us,vs => ∃ v r,vs=v::r/\RU H μ u v/\RUs H μ us r
end
noncomputable def bF (H H':Hp):Prop := ∀ a vs,H a=some (.tup vs)->H' a=some (.tup vs)
noncomputable def Pre (μ μ':List Addr):Prop := ∃ t,μ'=μ++t
theorem bF.refl (H:Hp):bF H H:=fun _ _ h=>h
theorem bF.trans {H H1 H2:Hp} (a:bF H H1) (b:bF H1 H2):bF H H2:=fun c vs h=>b c vs (a c vs h)
theorem Pre.refl (μ:List Addr):Pre μ μ:=⟨[],by simp⟩
theorem Pre.trans {μ μ1 μ2:List Addr} (a:Pre μ μ1) (b:Pre μ1 μ2):Pre μ μ2:=by
 obtain⟨t,rfl⟩:=a
 obtain⟨u,rfl⟩:=b
 exact⟨t++u,by simp⟩
theorem Pre.get {μ μ':List Addr} (p:Pre μ μ') {n:Nat}{a:Addr} (h:μ[n]? = some a):μ'[n]? = some a:=by
 obtain⟨t,rfl⟩:=p
 have hn:n < μ.length:=(ag.mp h).1
 rw [aR hn];exact h
theorem bF.new {H:Hp}{p:Addr}{o:HO} (h:H p=none):bF H (upd H p o):=fun a vs e=>by rw [bE (bz e h)];exact e
theorem bF.wr {H:Hp}{p:Addr}{xs ys:List V} (h:H p=some (.lst xs)):bF H (upd H p (.lst ys)):=fun a vs e=>by
 rw [bE (rN e h (by intro z;cases z))];exact e
mutual
theorem RU.mono {H H':Hp}{μ μ':List Addr} (k:bF H H') (p:Pre μ μ') : ∀ (u:U) (v:V),RU H μ u v->RU H' μ' u v
 | .non,_,h=>by simpa [RU] using h
 | .bl _,_,h=>by simpa [RU] using h
 | .int _,_,h=>by simpa [RU] using h
 | .str _,_,h=>by simpa [RU] using h
 | .obj _,_,h=>by simpa [RU] using h
 | .ref n,v,h=>by
   simp only [RU] at h ⊢
   obtain⟨a,e,q⟩:=h
   exact⟨a,e,p.get q⟩
 | .tup us,v,h=>by
   simp only [RU] at h ⊢
   obtain⟨a,vs,e,q,r⟩:=h
   exact⟨a,vs,e,k a vs q,RUs.mono k p us vs r⟩
theorem RUs.mono {H H':Hp}{μ μ':List Addr} (k:bF H H') (p:Pre μ μ') : ∀ (us:List U) (vs:List V),RUs H μ us vs->RUs H' μ' us vs
 | [],_,h=>by simpa [RUs] using h
 | u::us,vs,h=>by
   simp only [RUs] at h ⊢
   obtain⟨v,r,e,a,b⟩:=h
   exact⟨v,r,e,RU.mono k p u v a,RUs.mono k p us r b⟩
end
section
variable {H:Hp}{μ:List Addr}
theorem RUs.nil:RUs H μ [] []:=by simp [RUs]
theorem RUs.cons {u:U}{us:List U}{v:V}{vs:List V} (a:RU H μ u v) (b:RUs H μ us vs):RUs H μ (u::us) (v::vs):=by
 simp only [RUs];exact⟨v,vs,rfl,a,b⟩
theorem RUs.inv {u:U}{us:List U}{vs:List V} (h:RUs H μ (u::us) vs) : ∃ v r,vs=v::r/\RU H μ u v/\RUs H μ us r:=by simpa only [RUs] using h
theorem RUs.nil_inv {vs:List V} (h:RUs H μ [] vs):vs = []:=by simpa only [RUs] using h
theorem RUs.len : ∀ {us:List U}{vs:List V},RUs H μ us vs->us.length=vs.length
 | [],vs,h=>by rw [h.nil_inv];rfl
 | u::us,vs,h=>by
   obtain⟨v,r,rfl,_,b⟩:=h.inv
   simp [b.len]
theorem RUs.get : ∀ {us:List U}{vs:List V}{i:Nat}{u:U},RUs H μ us vs->us[i]? = some u -> ∃ v,vs[i]? = some v/\RU H μ u v
 | [],vs,i,u,h,e=>by simp at e
 | x::us,vs,0,u,h,e=>by
   obtain⟨v,r,rfl,a,b⟩:=h.inv
   simp at e;subst e
   exact⟨v,rfl,a⟩
 | x::us,vs,i+1,u,h,e=>by
   obtain⟨v,r,rfl,a,b⟩:=h.inv
   obtain⟨w,h1,h2⟩:=RUs.get (i:=i) b (by simpa using e)
   exact⟨w,by simpa using h1,h2⟩
theorem RUs.append : ∀ {us ws:List U}{vs xs:List V},RUs H μ us vs->RUs H μ ws xs->RUs H μ (us++ws) (vs++xs)
 | [],ws,vs,xs,h,g=>by rw [h.nil_inv];exact g
 | u::us,ws,vs,xs,h,g=>by
   obtain⟨v,r,rfl,a,b⟩:=h.inv
   exact .cons a (b.append g)
theorem RUs.set {u:U}{v:V} (q:RU H μ u v) : ∀ {us:List U}{vs:List V} (i:Nat),RUs H μ us vs->RUs H μ (us.set i u) (vs.set i v)
 | [],vs,i,h=>by rw [h.nil_inv];simpa using RUs.nil
 | x::us,vs,0,h=>by
   obtain⟨w,r,rfl,a,b⟩:=h.inv
   exact .cons q b
 | x::us,vs,i+1,h=>by
   obtain⟨w,r,rfl,a,b⟩:=h.inv
   exact .cons a (RUs.set q i b)
theorem RUs.eraseIdx : ∀ {us:List U}{vs:List V} (i:Nat),RUs H μ us vs->RUs H μ (us.eraseIdx i) (vs.eraseIdx i)
 | [],vs,i,h=>by rw [h.nil_inv];simpa using RUs.nil
 | x::us,vs,0,h=>by
   obtain⟨w,r,rfl,a,b⟩:=h.inv
   exact b
 | x::us,vs,i+1,h=>by
   obtain⟨w,r,rfl,a,b⟩:=h.inv
   exact .cons a (RUs.eraseIdx i b)
theorem RUs.take : ∀ {us:List U}{vs:List V} (i:Nat),RUs H μ us vs->RUs H μ (us.take i) (vs.take i)
 | us,vs,0,h=>by simpa using RUs.nil
 | [],vs,i+1,h=>by rw [h.nil_inv];simpa using RUs.nil
 | x::us,vs,i+1,h=>by
   obtain⟨w,r,rfl,a,b⟩:=h.inv
   exact .cons a (RUs.take i b)
theorem RUs.dropLast {us:List U}{vs:List V} (h:RUs H μ us vs):RUs H μ us.dropLast vs.dropLast:=by
 rw [El,El,h.len];exact h.take _
theorem RUs.ints : ∀ (ns:List Int),RUs H μ (ns.map U.int) (ns.map V.int)
 | [] => .nil
 | n::ns => .cons (by simp [RU]) (RUs.ints ns)
end
structure KX where
 K:ak
 caps:List U
 capv:List V
 cds:List (Addr×Obj)
 tabs:List (Addr×Str)
noncomputable instance:Coe KX ak:=⟨KX.K⟩
noncomputable def fz:HO := .ext fun _=>True
noncomputable def y3 (H:Hp) (P:Addr) (q:Str):Prop := ∃ ps:Array Value,H P=some (.tbl ps)/\TriplesOk ps.toList /\
 ∀ pos cv,codeAmong pos ps.toList=some cv -> ∃ c oc vs t,cv = .ref c/\H c=some (.frz oc fz)/\oc.data = .fields vs/\vs[1]? = some (.str q t)
structure HX (K:KX) (μ:List Addr) (H:Hp):Prop where
 cap:RUs H μ K.caps K.capv
 cds : ∀ q∈K.cds,H q.1=some (.frz q.2 fz)
 tab : ∀ q∈K.tabs,y3 H q.1 q.2
theorem HX.upd {K:KX}{μ μ':List Addr}{H:Hp}{p:Addr}{o':HO} (h:HX K μ H) (kp:bF H (upd H p o')) (pre:Pre μ μ') (nf : ∀ o,H p=some o->(∀ o' u,o ≠ .frz o' u) /\ ∀ ps,o ≠ .tbl ps):HX K μ' (upd H p o'):=by
 have f : ∀ a o u,H a=some (.frz o u)->_L.upd H p o' a=some (.frz o u):=fun a o u e=>by
  rw [bE]
  ·exact e
  ·rintro rfl
   exact (nf _ e).1 o u rfl
 refine⟨RUs.mono kp pre _ _ h.cap,fun q hq=>f _ _ _ (h.cds q hq),fun q hq => ?_⟩
 obtain⟨ps,e,tr,al⟩:=h.tab q hq
 refine⟨ps,?_,tr,fun pos cv hc => ?_⟩
 ·rw [bE]
  ·exact e
  ·intro z
   rw [z] at e
   exact (nf _ e).2 ps rfl
 ·obtain⟨c,oc,vs,t,e1,e2,e3,e4⟩:=al pos cv hc
  exact⟨c,oc,vs,t,e1,f _ _ _ e2,e3,e4⟩
noncomputable def dV (kvs:List (Key×U)) (vs:List V):List (Key×V):=(kvs.map (·.1)).zip vs
noncomputable def nh (K:KX) (H:Hp) (μ:List Addr) (a:Addr):Cell->Prop
 | .lst us => ∃ vs,H a=some (.lst vs)/\RUs H μ us vs
 | .frz us => ∃ vs,((∃ o,H a=some (.frz o (.lst vs)))\/SqL K (fun _=>none) a vs)/\RUs H μ us vs
 | .dic kvs => ∃ vs,H a=some (.dK (dV kvs vs))/\RUs H μ (kvs.map (·.2)) vs
noncomputable def Cell.own:Cell->Bool
 | .frz _=>false
 | _=>true
structure HR (K:KX) (μ:List Addr) (S:Sto) (H:Hp):Prop where
 len:μ.length=S.length
 inj : ∀ (n m:Nat) (c d:Cell),S[n]? = some c->S[m]? = some d->c.own=true->d.own=true->μ[n]? = μ[m]? -> n=m
 cell : ∀ (n:Nat) (c:Cell) (a:Addr),S[n]? = some c->μ[n]? = some a->nh K H μ a c
 ext:HX K μ H
structure ER (H:Hp) (μ:List Addr) (ρ:Rho) (σ:St):Prop where
 len:ρ.length=σ.length
 get : ∀ (i:Nat) (u:U),ρ[i]? = some (some u) -> ∃ v,σ[i]? = some (some v)/\RU H μ u v
theorem ER.mono {H H':Hp}{μ μ':List Addr}{ρ:Rho}{σ:St} (e:ER H μ ρ σ) (k:bF H H') (p:Pre μ μ'):ER H' μ' ρ σ:=
 ⟨e.len,fun i u h=>let ⟨v,a,b⟩:=e.get i u h;⟨v,a,RU.mono k p u v b⟩⟩
theorem ER.set {H:Hp}{μ:List Addr}{ρ:Rho}{σ:St} (e:ER H μ ρ σ) {u:U}{v:V} (r:RU H μ u v) (i:Nat):ER H μ (ρ.set i (some u)) (σ.set i (some v)):=by
 refine⟨by simpa using e.len,fun j w h => ?_⟩
 by_cases hj:i=j
 ·subst hj
  rw [List.getElem?_set] at h
  simp only [if_true] at h
  split at h
  ·rename_i hl
   cases h
   refine⟨v,?_,r⟩
   rw [aW (by rw [<- e.len];exact hl)]
  ·cases h
 ·rw [aK hj] at h
  obtain⟨x,a,b⟩:=e.get j w h
  exact⟨x,by rw [aK hj];exact a,b⟩
theorem ER.push {H:Hp}{μ:List Addr}{ρ:Rho}{σ:St} (e:ER H μ ρ σ) {u:U}{v:V} (r:RU H μ u v):ER H μ (ρ ++ [some u]) (σ ++ [some v]):=by
 refine⟨by simp [e.len],fun j w h => ?_⟩
 by_cases hj:j < ρ.length
 ·rw [aR hj] at h
  obtain⟨x,a,b⟩:=e.get j w h
  exact⟨x,by rw [aR (by rw [<- e.len];exact hj)];exact a,b⟩
 ·have hj':j=ρ.length:=by
   have:=(ag.mp h).1
   simp at this;omega
  subst hj'
  rw [aA (aj _)] at h
  simp at h;subst h
  refine⟨v,?_,r⟩
  rw [e.len,aA (aj _)];simp
section
variable {K:KX}{H:Hp}{μ:List Addr}{S:Sto}
theorem nh.mono {H':Hp}{μ':List Addr}{a:Addr}{c:Cell} (h:nh K H μ a c) (k:bF H H') (p:Pre μ μ') (l:c.own=true->H' a=H a) (f : ∀ o u,H a=some (.frz o u)->H' a=some (.frz o u)):nh K H' μ' a c:=by
 cases c with
 | lst us=>
   obtain⟨vs,e,r⟩:=h
   exact⟨vs,(l rfl).trans e,RUs.mono k p us vs r⟩
 | dic kvs=>
   obtain⟨vs,e,r⟩:=h
   exact⟨vs,(l rfl).trans e,RUs.mono k p _ vs r⟩
 | frz us=>
   obtain⟨vs,e,r⟩:=h
   refine⟨vs,?_,RUs.mono k p us vs r⟩
   rcases e with⟨o,e⟩ | e
   ·exact .inl ⟨o,f o _ e⟩
   ·exact .inr e
theorem nh.has {a:Addr}{c:Cell} (h:nh K H μ a c) (ho:c.own=true) : ∃ o,H a=some o/\(∀ vs,o ≠ .tup vs)/\(∀ o' u,o ≠ .frz o' u) /\ ∀ ps,o ≠ .tbl ps:=by
 cases c with
 | lst us=>obtain⟨vs,e,r⟩:=h;exact⟨_,e,fun _ z=>(by cases z),fun _ _ z=>(by cases z),fun _ z=>(by cases z)⟩
 | dic kvs=>obtain⟨vs,e,r⟩:=h;exact⟨_,e,fun _ z=>(by cases z),fun _ _ z=>(by cases z),fun _ z=>(by cases z)⟩
 | frz us=>cases ho
theorem bF.wrG {H:Hp}{p:Addr}{o o':HO} (h:H p=some o) (ht : ∀ vs,o ≠ .tup vs):bF H (upd H p o'):=fun a vs e=>by
 rw [bE (rN e h (d7 (ht vs)))];exact e
theorem HR.get (h:HR K μ S H) {n:Nat}{c:Cell} (e:S[n]? = some c) : ∃ a,μ[n]? = some a/\nh K H μ a c:=by
 have hn:n < μ.length:=by rw [h.len];exact (ag.mp e).1
 exact⟨μ[n],by simp [hn],h.cell n c _ e (by simp [hn])⟩
theorem HR.wrC (h:HR K μ S H) {n:Nat}{c d:Cell}{a:Addr}{o':HO} (e:S[n]? = some c) (ea:μ[n]? = some a) (hc:c.own=true) (hd:d.own=true) (r:nh K (upd H a o') μ a d):HR K μ (S.set n d) (upd H a o'):=by
 obtain⟨o,e0,nt,nf,nb⟩:=(h.cell n _ a e ea).has hc
 have kp:bF H (upd H a o'):=bF.wrG e0 nt
 have hn:n < S.length:=(ag.mp e).1
 have pick : ∀ (m:Nat) (c':Cell),(S.set n d)[m]? = some c'->c'.own=true -> ∃ c'',S[m]? = some c''/\c''.own=true:=fun m c' q hq=>by
  by_cases hm:n=m
  ·subst hm;exact⟨c,e,hc⟩
  ·rw [aK hm] at q;exact⟨c',q,hq⟩
 refine⟨by rw [fQ];exact h.len,fun i j u1 u2 q1 q2 o1 o2 q3 => ?_,fun m c' b q1 q2 => ?_,h.ext.upd kp (Pre.refl _) fun o1 q=>by rw [e0] at q;cases q;exact⟨nf,nb⟩⟩
 ·obtain⟨w1,z1,y1⟩:=pick i u1 q1 o1
  obtain⟨w2,z2,y2⟩:=pick j u2 q2 o2
  exact h.inj i j w1 w2 z1 z2 y1 y2 q3
 ·by_cases hm:n=m
  ·subst hm
   rw [aW hn] at q1
   cases q1
   rw [ea] at q2;cases q2
   exact r
  ·rw [aK hm] at q1
   refine (h.cell m c' b q1 q2).mono kp (Pre.refl _) (fun hc' => ?_) fun o u hf => ?_
   ·refine bE ?_
    rintro rfl
    exact hm (h.inj n m c c' e q1 hc hc' (ea.trans q2.symm))
   ·rw [bE (rN hf e0 (d7 (nf o u)))];exact hf
theorem HR.wr (h:HR K μ S H) {n:Nat}{us ws:List U}{vs:List V}{a:Addr} (e:S[n]? = some (.lst us)) (ea:μ[n]? = some a) (r:RUs H μ ws vs):HR K μ (S.set n (.lst ws)) (upd H a (.lst vs)):=by
 obtain⟨vs0,e0,r0⟩:=h.cell n _ a e ea
 exact h.wrC e ea rfl rfl ⟨vs,cJ,RUs.mono (bF.wr e0) (Pre.refl _) ws vs r⟩
theorem HR.newC (h:HR K μ S H) {d:Cell}{p:Addr}{o':HO} (hp:H p=none) (hd:d.own=true) (r:nh K (upd H p o') (μ ++ [p]) p d):HR K (μ ++ [p]) (S ++ [d]) (upd H p o'):=by
 have kp:bF H (upd H p o'):=bF.new hp
 have pre:Pre μ (μ ++ [p]):=⟨[p],rfl⟩
 have old : ∀ (n:Nat) (c:Cell),n < S.length->(S ++ [d])[n]? = some c->S[n]? = some c:=fun n c hn q=>by rwa [aR hn] at q
 have last : ∀ (n:Nat) (c:Cell),¬ n < S.length->(S ++ [d])[n]? = some c->n=S.length:=fun n c hn q=>by
  have:=(ag.mp q).1
  simp at this;omega
 have fresh : ∀ (n:Nat) (c:Cell),S[n]? = some c->c.own=true -> ∀ a,μ[n]? = some a->a≠p:=fun n c q hc a qa=>by
  obtain⟨o,e,_⟩:=(h.cell n _ a q qa).has hc
  exact bz e hp
 have mulast:(μ ++ [p])[S.length]? = some p:=by rw [<- h.len,aA (aj _)];simp
 have muold : ∀ (n:Nat),n < S.length->(μ ++ [p])[n]? = μ[n]? := fun n hn=>aR (by rw [h.len];exact hn)
 refine⟨by simp [h.len],fun i j u1 u2 q1 q2 o1 o2 q3 => ?_,fun m c b q1 q2 => ?_,h.ext.upd kp pre fun o1 q=>by rw [hp] at q;cases q⟩
 ·by_cases hi:i < S.length
  ·by_cases hj:j < S.length
   ·rw [muold i hi,muold j hj] at q3
    exact h.inj i j u1 u2 (old i _ hi q1) (old j _ hj q2) o1 o2 q3
   ·have e:=last j _ hj q2
    subst e
    obtain⟨a,ha,_⟩:=h.get (old i _ hi q1)
    rw [muold i hi,mulast,ha] at q3
    exact absurd (bS q3) (fresh i u1 (old i _ hi q1) o1 a ha)
  ·have e:=last i _ hi q1
   subst e
   by_cases hj:j < S.length
   ·obtain⟨a,ha,_⟩:=h.get (old j _ hj q2)
    rw [muold j hj,mulast,ha] at q3
    exact absurd (bS q3).symm (fresh j u2 (old j _ hj q2) o2 a ha)
   ·exact (last j _ hj q2).symm
 ·by_cases hm:m < S.length
  ·rw [muold m hm] at q2
   refine (h.cell m c b (old m c hm q1) q2).mono kp pre (fun hc => ?_) fun o u hf => ?_
   ·exact bE (fresh m c (old m _ hm q1) hc b q2)
   ·rw [bE (bz hf hp)];exact hf
  ·have e:=last m c hm q1
   subst e
   rw [mulast] at q2;cases q2
   rw [aA (aj _)] at q1
   simp at q1;subst q1
   exact r
theorem HR.new (h:HR K μ S H) {us:List U}{vs:List V}{p:Addr} (hp:H p=none) (r:RUs H μ us vs):HR K (μ ++ [p]) (S ++ [.lst us]) (upd H p (.lst vs)):=
 h.newC hp rfl ⟨vs,cJ,RUs.mono (bF.new hp) ⟨[p],rfl⟩ us vs r⟩
theorem HR.tup (h:HR K μ S H) {vs:List V}{p:Addr} (hp:H p=none):HR K μ S (upd H p (.tup vs)):=by
 have kp:bF H (upd H p (.tup vs)):=bF.new hp
 refine⟨h.len,h.inj,fun m c b q1 q2=>(h.cell m c b q1 q2).mono kp (Pre.refl _) (fun hc => ?_) fun o u hf => ?_,h.ext.upd kp (Pre.refl _) fun o1 q=>by rw [hp] at q;cases q⟩
 ·obtain⟨o,e,_⟩:=(h.cell m _ b q1 q2).has hc
  exact bE (bz e hp)
 ·rw [bE (bz hf hp)];exact hf
theorem HR.sq (h:HR K μ S H) {n:Nat}{us:List U} (e:getL S n=some us) : ∃ a vs,μ[n]? = some a/\SqL K H a vs/\RUs H μ us vs:=by
 unfold getL at e
 split at e
 ·rename_i ws q
  cases e
  obtain⟨a,ha,vs,e1,r⟩:=h.get q
  exact⟨a,vs,ha,SqL.of e1,r⟩
 ·rename_i ws q
  cases e
  obtain⟨a,ha,vs,e1,r⟩:=h.get q
  refine⟨a,vs,ha,?_,r⟩
  rcases e1 with⟨o,e1⟩ | e1
  ·exact .inl (.inr ⟨o,e1⟩)
  ·rcases e1 with (e1 | ⟨o,e1⟩) | e1
   ·cases e1
   ·cases e1
   ·exact .inr e1
 ·cases e
 ·cases e
end
noncomputable def Aft (K:KX) (μ:List Addr) (H:Hp) (u:U) (S':Sto) (Q:VK):Prop := ∀ μ' v H',Pre μ μ'->bF H H'->HR K μ' S' H'->RU H' μ' u v->Q v H'
noncomputable def tM (K:KX) (m:ME):TE:=fun σ H Q => ∃ μ S ρ u S',HR K μ S H/\ER H μ ρ σ/\m ρ S=some (u,S')/\Aft K μ H u S' Q
noncomputable def tMT (K:KX) (m:MT):TT:=fun σ H Q => ∃ μ S ρ b S',HR K μ S H/\ER H μ ρ σ/\m ρ S=some (b,S') /\ ∀ μ' H',Pre μ μ'->bF H H'->HR K μ' S' H'->Q b H'
noncomputable def tMA (K:KX) (m:MA):TA:=fun σ H Q => ∃ μ S ρ us S',HR K μ S H/\ER H μ ρ σ/\m ρ S=some (us,S') /\ ∀ μ' vs H',Pre μ μ'->bF H H'->HR K μ' S' H'->RUs H' μ' us vs->Q vs H'
noncomputable def FlP (K:KX) (μ:List Addr) (H:Hp) (D:Ends):Fl×Rho×Sto->Prop
 | (.nx,ρ',S') => ∀ μ' σ' H',Pre μ μ'->bF H H'->HR K μ' S' H'->ER H' μ' ρ' σ'->D.nx σ' H'
 | (.bk,ρ',S') => ∀ μ' σ' H',Pre μ μ'->bF H H'->HR K μ' S' H'->ER H' μ' ρ' σ'->D.bk σ' H'
 | (.ct,ρ',S') => ∀ μ' σ' H',Pre μ μ'->bF H H'->HR K μ' S' H'->ER H' μ' ρ' σ'->D.ct σ' H'
 | (.rt u,_,S')=>Aft K μ H u S' D.rt
noncomputable def tMS (K:KX) (m:MS):TS:=fun D σ H => ∃ μ S ρ r,HR K μ S H/\ER H μ ρ σ/\m ρ S=some r/\FlP K μ H D r
theorem Aft.mono {K:KX}{μ μ1:List Addr}{H H1:Hp}{u:U}{S':Sto}{Q:VK} (a:Aft K μ H u S' Q) (p:Pre μ μ1) (k:bF H H1):Aft K μ1 H1 u S' Q:=
 fun μ' v H' p' k'=>a μ' v H' (p.trans p') (k.trans k')
theorem FlP.mono {K:KX}{μ μ1:List Addr}{H H1:Hp}{D:Ends}{r:Fl×Rho×Sto} (a:FlP K μ H D r) (p:Pre μ μ1) (k:bF H H1):FlP K μ1 H1 D r:=by
 obtain⟨f,ρ',S'⟩:=r
 cases f with
 | nx=>exact fun μ' σ' H' p' k'=>a μ' σ' H' (p.trans p') (k.trans k')
 | bk=>exact fun μ' σ' H' p' k'=>a μ' σ' H' (p.trans p') (k.trans k')
 | ct=>exact fun μ' σ' H' p' k'=>a μ' σ' H' (p.trans p') (k.trans k')
 | rt u=>exact Aft.mono a p k
end _G
end
section
namespace _G
open PySem PySem.Spec _L
open PyProof.Rows hiding St
section
variable {K:KX}{σ:St}{H:Hp}{Q:VK}
theorem rh {A B:Prop} (h:A):if true=true then A else B:=by rw [if_pos rfl];exact h
theorem qF {A B:Prop} (h:B):if false=true then A else B:=by rw [if_neg bM];exact h
theorem LR {i:Nat} (h:tM K (ab i) σ H Q):Mp i σ H Q:=by
 obtain⟨μ,S,ρ,u,S',hr,er,e,k⟩:=h
 unfold ab at e
 split at e
 ·rename_i w q
  cases e
  obtain⟨v,hv,ru⟩:=er.get i _ q
  exact⟨v,hv,k μ v H (Pre.refl _) (bF.refl _) hr ru⟩
 ·cases e
theorem r_c {u:U}{v:V} (hv : ∀ H μ,RU H μ u v) (h:tM K (mC u) σ H Q):tC v σ H Q:=by
 obtain⟨μ,S,ρ,u',S',hr,er,e,k⟩:=h
 cases e
 exact k μ v H (Pre.refl _) (bF.refl _) hr (hv _ _)
noncomputable def OpU (K:KX) (r:R2) (f:F2):Prop := ∀ (μ:List Addr) (S:Sto) (H:Hp) (x y:U) (vx vy:V) (u:U) (S':Sto) (Q:VK),HR K μ S H->RU H μ x vx->RU H μ y vy->f x y S=some (u,S')->Aft K μ H u S' Q->r vx vy H Q
theorem uJ {r:R2}{f:F2}{a b:ME} (o:OpU K r f) (h:tM K (m2 f a b) σ H Q):tOp r (tM K a) (tM K b) σ H Q:=by
 obtain⟨μ,S,ρ,u,S',hr,er,e,k⟩:=h
 obtain⟨x,S1,e1,e⟩:=bj e
 obtain⟨y,S2,e2,e⟩:=bj e
 refine⟨μ,S,ρ,x,S1,hr,er,e1,fun μ1 vx H1 p1 k1 hr1 rx => ?_⟩
 refine⟨μ1,S1,ρ,y,S2,hr1,er.mono k1 p1,e2,fun μ2 vy H2 p2 k2 hr2 ry => ?_⟩
 exact o μ2 S2 H2 x y vx vy u S' Q hr2 (RU.mono k2 p2 x vx rx) ry e (k.mono (p1.trans p2) (k1.trans k2))
noncomputable def UnU (K:KX) (r:V->Hp->VK->Prop) (f:U->Sto->Res U):Prop := ∀ (μ:List Addr) (S:Sto) (H:Hp) (x:U) (vx:V) (u:U) (S':Sto) (Q:VK),HR K μ S H->RU H μ x vx->f x S=some (u,S')->Aft K μ H u S' Q->r vx H Q
theorem NZ {r:V->Hp->VK->Prop}{f:U->Sto->Res U}{a:ME} (o:UnU K r f) (h:tM K (m1 f a) σ H Q):tUn r (tM K a) σ H Q:=by
 obtain⟨μ,S,ρ,u,S',hr,er,e,k⟩:=h
 obtain⟨x,S1,e1,e⟩:=bj e
 refine⟨μ,S,ρ,x,S1,hr,er,e1,fun μ1 vx H1 p1 k1 hr1 rx => ?_⟩
 exact o μ1 S1 H1 x vx u S' Q hr1 rx e (k.mono p1 k1)
theorem Aft.now {μ:List Addr}{S:Sto}{u:U}{v:V} (k:Aft K μ H u S Q) (hr:HR K μ S H) (r:RU H μ u v):Q v H:=k μ v H (Pre.refl _) (bF.refl _) hr r
theorem eI {μ:List Addr}{i:Int}:RU H μ (.int i) (.int i):=by simp [RU]
theorem jD {μ:List Addr}{b:Bool}:RU H μ (.bl b) (.bl b):=by simp [RU]
theorem pz {μ:List Addr}:RU H μ .non .non:=by simp [RU]
theorem jY {μ:List Addr}{us:List U}{vs:List V}{a:Addr} (e:H a=some (.tup vs)) (r:RUs H μ us vs):RU H μ (.tup us) (.ref a):=by
 simp only [RU];exact⟨a,vs,rfl,e,r⟩
theorem qU {μ:List Addr}{n:Nat}{a:Addr} (e:μ[n]? = some a):RU H μ (.ref n) (.ref a):=by
 simp only [RU];exact⟨a,rfl,e⟩
theorem dg {μ:List Addr}{i:Int}{v:V} (h:RU H μ (.int i) v):v = .int i:=by simpa only [RU] using h
theorem kZ {μ:List Addr}{b:Bool}{v:V} (h:RU H μ (.bl b) v):v = .bl b:=by simpa only [RU] using h
theorem jU {μ:List Addr}{us:List U}{v:V} (h:RU H μ (.tup us) v) : ∃ a vs,v = .ref a/\H a=some (.tup vs)/\RUs H μ us vs:=by simpa only [RU] using h
theorem fO {μ:List Addr}{n:Nat}{v:V} (h:RU H μ (.ref n) v) : ∃ a,v = .ref a/\μ[n]? = some a:=by simpa only [RU] using h
theorem zF {g:Int->Int->V}{f:F2}{k:Int->Int->U} (hf : ∀ x y S u S',f x y S=some (u,S') -> ∃ i j,x = .int i/\y = .int j/\u=k i j/\S'=S) (hg : ∀ H μ i j,RU H μ (k i j) (g i j)):OpU K (rI0 g) f:=by
 intro μ S H x y vx vy u S' Q hr rx ry e a
 obtain⟨i,j,rfl,rfl,rfl,rfl⟩:=hf x y S u S' e
 exact⟨i,j,dg rx,dg ry,a.now hr (hg _ _ _ _)⟩
theorem yf {C:Int->Int->Prop}{g:Int->Int->V}{f:F2}{k:Int->Int->U} (hf : ∀ x y S u S',f x y S=some (u,S') -> ∃ i j,x = .int i/\y = .int j/\C i j/\u=k i j/\S'=S) (hg : ∀ H μ i j,RU H μ (k i j) (g i j)):OpU K (rI C g) f:=by
 intro μ S H x y vx vy u S' Q hr rx ry e a
 obtain⟨i,j,rfl,rfl,c,rfl,rfl⟩:=hf x y S u S' e
 exact⟨i,j,dg rx,dg ry,c,a.now hr (hg _ _ _ _)⟩
theorem HW:OpU K (rI0 fun i j => .int (i - j)) uF:=zF (k:=fun i j => .int (i - j)) (fun x y S u S' h=>by
 unfold uF at h;split at h <;> simp at h;obtain⟨rfl,rfl⟩:=h;exact⟨_,_,rfl,rfl,rfl,rfl⟩) fun _ _ _ _=>eI
noncomputable def G5 (K:ak):R2:=fun x y H Q => ∃ l k xs,x = .ref l/\y = .int k/\H l=some (.tup xs)/\CB xs.length k/\(k=1->Q (.ref l) H)/\(k≠1 -> ∀ p,H p=none->Q (.ref p) (upd H p (.tup (aU k.toNat xs).flatten)))
theorem rT (its:List Value) : ∀ (m:Nat) (a:List Value),List.foldl (fun x1 x2=>x1++x2) a.toArray (aU m its.toArray)=(a++(aU m its).flatten).toArray
 | 0,a=>by simp
 | m+1,a=>by
   rw [dI,fR,List.append_toArray,rT its m (a++its),dI,eX,bh]
theorem RUs.rep {H:Hp}{μ:List Addr}{us:List U}{vs:List V} (r:RUs H μ us vs) : ∀ (m:Nat),RUs H μ (aU m us).flatten (aU m vs).flatten
 | 0=>by simpa using RUs.nil
 | m+1=>by
   rw [dI,eX,dI,eX]
   exact r.append (RUs.rep r m)
theorem FM {X:Cx}:OpR X (binaryOp .Mult) (G5 X.K):=by
 intro pins s σ H x y v u Q I rx ry h
 obtain⟨l,k,xs,rfl,rfl,hH,⟨h1,h2,h3,h4⟩,q1,q2⟩:=h
 cases (show v=bp l from rx)
 obtain⟨t,rfl⟩:=ry
 obtain⟨z,its,r,⟨⟨cls,dd,data,sl⟩,e,c,n,d⟩,_⟩:=I.hok l _ hH
 simp only at c d
 subst c d
 have hl:its.length=xs.length:=r.length.symm
 refine wpAny_binaryOp_repeat_ref (T:="tuple") (U:="int") (by decide) ⟨_,e,rfl⟩ (fun s'=>typeIs_int s' k t) pe F.fills_int_mul F.slot_int_rmul vP F.slot_int_index.lookup
  (call_meets F.slot_int_rmul (typeIs_int s k t) F.entry_int_rmul (F.args_int_rmul_2 _ _) (qy k t l its.toArray n dd sl) ⟨e,rfl,⟨_,e,rfl⟩,?_⟩)
 by_cases hk:k=1
 ·subst hk
  exact call_meets xU ⟨_,e,rfl⟩ vS (tE _ _) (sN l its.toArray n dd sl t) ⟨e,⟨.ref l,H,I,rfl,q1 rfl⟩⟩
 ·by_cases hk0:k=0
  ·subst hk0
   refine call_meets xU ⟨_,e,rfl⟩ vS (tE _ _) (yi l its.toArray n dd sl t ?_) ⟨e,?_⟩
   ·cases its with
    | nil=>simp at hl;omega
    | cons a b=>rfl
   ·exact⟨.ref s.heap.objs.size,_,I.laid (t':=s.toks) (o := .tup []) (fun b ob q=>ah _ q) (aj _) ⟨dj _,[],.nil,tz _ _,_,ax _ rfl,rfl⟩,rfl,by simpa using q2 hk _ (I.hok.fresh (aj _))⟩
  refine call_meets xU ⟨_,e,rfl⟩ vS (tE _ _) (yC l its.toArray n dd sl k t ?_ (by omega) h2 (by rw [aF];omega)) ⟨e,?_⟩
  ·intro w
   rw [nX] at w
   rcases w with w | w
   ·have:its = []:=by simpa using w
    rw [this] at hl;simp at hl;omega
   ·exact hk (by simpa using w)
  ·rw [show (#[]:Array Value)=([]:List Value).toArray from rfl,rT its k.toNat [],dM]
   refine⟨.ref s.heap.objs.size,_,I.laid (t':=s.toks) (o := .tup (aU k.toNat xs).flatten) (fun b ob q=>ah _ q) (aj _) ?_,rfl,q2 hk _ (I.hok.fresh (aj _))⟩
   refine⟨?_,_,r.rep k.toNat,tz _ _,_,ax _ rfl,rfl⟩
   rw [len_rep,sizeLine_eq]
   have:k.toNat*xs.length<=1000*xs.length:=fb _ (by omega)
   omega
theorem Ii:OpU K (fun x y H Q=>rI F5 (fun i j => .int (i*j)) x y H Q\/G5 K x y H Q) fG:=by
 intro μ S H x y vx vy u S' Q hr rx ry e a
 unfold fG at e
 split at e
 ·split at e
  ·rename_i hc
   simp at e;obtain⟨rfl,rfl⟩:=e
   exact .inl ⟨_,_,dg rx,dg ry,hc,a.now hr eI⟩
  ·cases e
 ·rename_i xs k
  split at e
  ·rename_i hc
   simp at e;obtain⟨rfl,rfl⟩:=e
   obtain⟨p,vs,rfl,hp,r1⟩:=jU rx
   refine .inr ⟨p,k,vs,rfl,dg ry,hp,by rw [<- r1.len];exact hc,fun hk => ?_,fun hk t ht => ?_⟩
   ·subst hk
    have e1:(aU (1:Int).toNat xs).flatten=xs:=by simp
    rw [e1] at a
    exact a.now hr (jY hp r1)
   ·exact a μ _ _ (Pre.refl _) (bF.new ht) (hr.tup ht) (jY cJ (RUs.mono (bF.new ht) (Pre.refl _) _ _ (r1.rep _)))
  ·cases e
 ·cases e
theorem Ki:OpU K (rI M7 fun i j => .int (i / j)) oDiv:=yf (k:=fun i j => .int (i / j)) (fun x y S u S' h=>by
 unfold oDiv at h;split at h
 ·split at h
  ·rename_i hc;simp at h;obtain⟨rfl,rfl⟩:=h;exact⟨_,_,rfl,rfl,hc,rfl,rfl⟩
  ·cases h
 ·cases h) fun _ _ _ _=>eI
theorem Jz:OpU K (rI (fun _ j=>0 < j) fun i j => .int (i % j)) oMod:=yf (k:=fun i j => .int (i % j)) (fun x y S u S' h=>by
 unfold oMod at h;split at h
 ·split at h
  ·rename_i hc;simp at h;obtain⟨rfl,rfl⟩:=h;exact⟨_,_,rfl,rfl,hc,rfl,rfl⟩
  ·cases h
 ·cases h) fun _ _ _ _=>eI
theorem Je:OpU K (rI Mv fun i j => .int (i ^ j.toNat)) uW:=yf (k:=fun i j => .int (i ^ j.toNat)) (fun x y S u S' h=>by
 unfold uW at h;split at h
 ·split at h
  ·rename_i hc;simp at h;obtain⟨rfl,rfl⟩:=h;exact⟨_,_,rfl,rfl,hc,rfl,rfl⟩
  ·cases h
 ·cases h) fun _ _ _ _=>eI
theorem vJ {p:Int->Int->Bool}:OpU K (rI0 fun i j => .bl (p i j)) (Ap p):=zF (k:=fun i j => .bl (p i j)) (fun x y S u S' h=>by
 unfold Ap at h;split at h <;> simp at h;obtain⟨rfl,rfl⟩:=h;exact⟨_,_,rfl,rfl,rfl,rfl⟩) fun _ _ _ _=>jD
noncomputable def Ha (K:ak):R2:=fun x y H Q => ∃ a b ys,x = .ref a/\y = .ref b/\SqT K H a []/\SqT K H b ys/\Q (.ref b) H
theorem FS {X:Cx}:OpR X (binaryOp .Add) (Ha X.K):=by
 intro pins s σ H x y v u Q I rx ry h
 obtain⟨a,b,ys,rfl,rfl,h1,h2,q⟩:=h
 cases (show v=bp a from rx)
 cases (show u=bp b from ry)
 obtain⟨its,r1,p1,_⟩:=I.tuple h1
 obtain⟨its2,r2,p2,_⟩:=I.tuple h2
 cases r1
 exact HT.cat_tup0 p1 p2 ⟨.ref b,H,I,rfl,q⟩
theorem Im:OpU K (fun x y H Q=>rI0 (fun i j => .int (i+j)) x y H Q\/Hr K x y H Q\/Ha K x y H Q\/MU x y H Q) cZ:=by
 intro μ S H x y vx vy u S' Q hr rx ry e a
 unfold cZ at e
 split at e
 ·simp at e;obtain⟨rfl,rfl⟩:=e
  exact .inl ⟨_,_,dg rx,dg ry,a.now hr eI⟩
 ·rename_i xs ys
  split at e
  ·rename_i hc
   simp at e;obtain⟨rfl,rfl⟩:=e
   obtain⟨p,vs,rfl,hp,r1⟩:=jU rx
   obtain⟨q,ws,rfl,hq,r2⟩:=jU ry
   by_cases hx:xs = []
   ·subst hx
    have hv:vs = []:=by have:=r1.len;exact di (by simpa using this.symm)
    subst hv
    exact .inr (.inr (.inl ⟨p,q,ws,rfl,rfl,.inl (.inl hp),.inl (.inl hq),a.now hr (jY hq r2)⟩))
   refine .inr (.inl ⟨p,q,vs,ws,rfl,rfl,.inl (.inl hp),.inl (.inl hq),?_,?_,fun z => ?_,fun z t ht => ?_⟩)
   ·intro z;subst z;have:=r1.len;exact hx (di (by simpa using this))
   ·have h1:=r1.len;have h2:=r2.len;unfold big at hc;rw [sizeLine_eq];omega
   ·subst z
    have:ys = []:=by have:=r2.len;exact di (by simpa using this)
    subst this
    rw [ij] at a
    exact a.now hr (jY hp r1)
   ·refine a μ _ _ (Pre.refl _) (bF.new ht) (hr.tup ht) ?_
    have kp:bF H (upd H t (.tup (vs++ws))):=bF.new ht
    exact jY cJ ((RUs.mono kp (Pre.refl _) _ _ r1).append (RUs.mono kp (Pre.refl _) _ _ r2))
  ·cases e
 ·rename_i n m
  split at e
  ·rename_i xs ys q1 q2
   split at e
   ·rename_i hc
    simp at e;obtain⟨rfl,rfl⟩:=e
    obtain⟨p,rfl,hp⟩:=fO rx
    obtain⟨q,rfl,hq⟩:=fO ry
    obtain⟨vs,e1,r1⟩:=hr.cell n _ p q1 hp
    obtain⟨ws,e2,r2⟩:=hr.cell m _ q q2 hq
    refine .inr (.inr (.inr ⟨p,q,vs,ws,rfl,rfl,e1,e2,?_,fun t ht => ?_⟩))
    ·have h1:=r1.len;have h2:=r2.len;unfold big at hc;rw [sizeLine_eq];omega
    ·refine a (μ ++ [t]) _ _ ⟨[t],rfl⟩ (bF.new ht) (hr.new ht (r1.append r2)) (qU ?_)
     rw [<- hr.len,aA (aj _)];simp
   ·cases e
  ·cases e
 ·cases e
theorem HR.seq {μ:List Addr}{S:Sto}{x:U}{v:V}{us:List U} (hr:HR K μ S H) (r:RU H μ x v) (e:dS S x=some us) : ∃ a vs,v = .ref a/\(SqL K H a vs\/SqT K H a vs)/\RUs H μ us vs:=by
 unfold dS at e
 split at e
 ·cases e
  obtain⟨a,vs,rfl,h,q⟩:=jU r
  exact⟨a,vs,rfl,.inr (.inl (.inl h)),q⟩
 ·obtain⟨a,rfl,ha⟩:=fO r
  obtain⟨a',vs,ha',hs,q⟩:=hr.sq e
  rw [ha] at ha';cases ha'
  exact⟨a,vs,rfl,.inl hs,q⟩
 ·cases e
theorem Fj {μ:List Addr}{us:List U}{vs:List V}{i:Int}{u:U} (r:RUs H μ us vs) (e:atI us i=some u) : ∃ v,atI vs i=some v/\RU H μ u v:=by
 unfold atI at e ⊢
 rw [<- r.len]
 cases q:ixN us.length i with
 | none=>rw [q] at e;cases e
 | some j=>
   rw [q] at e
   exact r.get e
theorem qb {μ:List Addr}{y:U}{v:V}{k:Key} (r:RU H μ y v) (e:keyOf y=some k):v=kV k:=by
 cases y <;> simp only [keyOf,eD,reduceCtorEq] at e <;> subst e <;> (simp only [RU] at r;exact r)
theorem zr {μ:List Addr}{k:Key}{u:U} : ∀ {kvs:List (Key×U)}{vs:List V},RUs H μ (kvs.map (·.2)) vs->jA kvs k=some u -> ∃ v,mm (dV kvs vs) k=some v/\RU H μ u v
 | [],vs,r,e=>by cases e
 | (j,x)::kvs,vs,r,e=>by
   obtain⟨v,r',rfl,a,b⟩:=r.inv
   show ∃ w,mm ((j,v)::dV kvs r') k=some w/\_
   by_cases h:j=k
   ·rw [lQ h]
    simp [jA,bO,h] at e
    subst e
    exact⟨v,rfl,a⟩
   ·rw [lK h]
    refine zr b ?_
    simpa [jA,bO,h] using e
theorem xh {k:Key} : ∀ {kvs:List (Key×U)}{vs:List V},kvs.length=vs.length->(mm (dV kvs vs) k).isSome=(jA kvs k).isSome
 | [],vs,_=>by simp [dV,mm,jA]
 | (j,x)::kvs,[],h=>by simp at h
 | (j,x)::kvs,v::vs,h=>by
   show (mm ((j,v)::dV kvs vs) k).isSome=_
   by_cases hj:j=k
   ·rw [lQ hj];simp [jA,bO,hj]
   ·rw [lK hj,xh (by simpa using h)];simp [jA,bO,hj]
theorem Cq {k:Key} : ∀ {kvs:List (Key×U)}{vs:List V},kvs.length=vs.length->((dV kvs vs).any fun kv=>decide (kv.1=k))=kvs.any fun kv=>decide (kv.1=k)
 | [],vs,_=>by simp [dV]
 | (j,x)::kvs,[],h=>by simp at h
 | (j,x)::kvs,v::vs,h=>by
   show (((j,v)::dV kvs vs).any fun kv=>decide (kv.1=k))=_
   rw [eh,eh,Cq (by simpa using h)]
theorem CC {kvs:List (Key×U)}{vs:List V} (h:kvs.length=vs.length):(dV kvs vs).length=kvs.length:=by
 simp [dV,h]
theorem zC {μ:List Addr}{k:Key}{u:U}{v:V} (ru:RU H μ u v) : ∀ {kvs:List (Key×U)}{vs:List V},RUs H μ (kvs.map (·.2)) vs ->
  ∃ ws,dV (kvs.map fun kv=>if kv.1=k then (kv.1,u) else kv) ws=(dV kvs vs).map (fun kv=>if kv.1=k then (kv.1,v) else kv)/\RUs H μ ((kvs.map fun kv=>if kv.1=k then (kv.1,u) else kv).map (·.2)) ws
 | [],vs,r=>⟨[],by simp [dV],.nil⟩
 | (j,x)::kvs,vs,r=>by
   obtain⟨w,r',rfl,a,b⟩:=r.inv
   obtain⟨ws,e,q⟩:=zC ru b
   show ∃ ws',dV ((if j=k then (j,u) else (j,x))::kvs.map fun kv=>if kv.1=k then (kv.1,u) else kv) ws'=(if j=k then (j,v) else (j,w))::(dV kvs r').map (fun kv=>if kv.1=k then (kv.1,v) else kv)/\RUs H μ (((if j=k then (j,u) else (j,x))::kvs.map fun kv=>if kv.1=k then (kv.1,u) else kv).map (·.2)) ws'
   by_cases h:j=k
   ·rw [if_pos h,if_pos h]
    exact⟨v::ws,by rw [<- e];rfl,.cons ru q⟩
   ·rw [if_neg h,if_neg h]
    exact⟨w::ws,by rw [<- e];rfl,.cons a q⟩
theorem Gy {μ:List Addr}{k:Key}{u:U}{v:V}{kvs:List (Key×U)}{vs:List V} (ru:RU H μ u v) (r:RUs H μ (kvs.map (·.2)) vs) : ∃ ws,dV (j0 kvs k u) ws=putK (dV kvs vs) k v/\RUs H μ ((j0 kvs k u).map (·.2)) ws:=by
 have hl:kvs.length=vs.length:=by have:=r.len;rwa [aw] at this
 unfold j0 putK
 rw [Cq hl]
 split
 ·exact zC ru r
 ·refine⟨vs ++ [v],?_,by rw [d0];exact r.append (.cons ru .nil)⟩
  unfold dV
  rw [d0,List.zip_append (by simpa using hl)]
  rfl
theorem HR.dic {μ:List Addr}{S:Sto}{x:U}{v:V}{kvs:List (Key×U)} (hr:HR K μ S H) (r:RU H μ x v) (e:gw S x=some kvs) : ∃ a vs,v = .ref a/\H a=some (.dK (dV kvs vs))/\RUs H μ (kvs.map (·.2)) vs:=by
 unfold gw at e
 split at e
 ·split at e
  ·rename_i q
   cases e
   obtain⟨a,rfl,ha⟩:=fO r
   obtain⟨vs,e1,r1⟩:=hr.cell _ _ a q ha
   exact⟨a,vs,rfl,e1,r1⟩
  ·cases e
 ·cases e
noncomputable def Kz:R2:=fun x y H Q => ∃ a v,x = .ref a/\uA H a y (some v)/\Q v H
noncomputable def N1 (K:ak):R2:=fun x y H Q=>rIx K x y H Q\/Kz x y H Q
theorem JT {X:Cx} (hu:X.A.units+1 < cLine):IxR X Kz:=by
 intro value slice pins s σ H x y v u Q I rx ry h hs
 obtain⟨a,w,rfl,g,q⟩:=h
 obtain rfl:v=bp a:=rx
 exact tail_any (wK I g) PySem.F.slot_dict_getitem.lookup (Bb hu I g ry fun w' s3 I3 rw'=>⟨w,H,I3,rw',q⟩) hs
theorem Mu:OpU K (N1 K) oIx:=by
 intro μ S H x y vx vy u S' Q hr rx ry e a
 unfold oIx at e
 split at e
 ·rename_i kvs qd
  cases qk:keyOf y with
  | none=>rw [qk] at e;cases e
  | some kk=>
    rw [qk] at e
    simp only [ai] at e
    cases qv:jA kvs kk with
    | none=>rw [qv] at e;cases e
    | some w=>
      rw [qv] at e
      simp at e;obtain⟨rfl,rfl⟩:=e
      obtain⟨p,vs,rfl,hp,r⟩:=hr.dic rx qd
      obtain⟨v,hv,rv⟩:=zr r qv
      rw [qb ry qk]
      exact .inr ⟨p,v,rfl,.inl ⟨_,kk,.inl hp,rfl,hv.symm⟩,a.now hr rv⟩
 split at e
 ·rename_i i
  refine .inl ?_
  cases q:dS S x with
  | none=>rw [q] at e;cases e
  | some us=>
    rw [q] at e
    simp only [ai] at e
    cases z:atI us i with
    | none=>rw [z] at e;cases e
    | some w=>
      rw [z] at e
      simp at e;obtain⟨rfl,rfl⟩:=e
      obtain⟨p,vs,rfl,hs,r⟩:=hr.seq rx q
      obtain⟨v,hv,rv⟩:=Fj r z
      rcases hs with hs | hs
      ·exact .inl ⟨p,vs,i,v,rfl,dg ry,hs,hv,a.now hr rv⟩
      ·exact .inr (.inl ⟨p,vs,i,v,rfl,dg ry,hs,hv,a.now hr rv⟩)
 ·cases e
theorem Kl:UnU K (rU fun i => .int (-i)) yk:=by
 intro μ S H x vx u S' Q hr rx e a
 unfold yk at e
 split at e
 ·cases e
  exact⟨_,dg rx,a.now hr eI⟩
 ·cases e
theorem KW {Q:List V->Hp->Prop} (h:tMA K af σ H Q):yv σ H Q:=by
 obtain⟨μ,S,ρ,us,S',hr,er,e,k⟩:=h
 cases e
 exact k μ [] H (Pre.refl _) (bF.refl _) hr .nil
theorem IJ {a:ME}{r:MA}{Q:List V->Hp->Prop} (h:tMA K (aa a r) σ H Q):rK (tM K a) (tMA K r) σ H Q:=by
 obtain⟨μ,S,ρ,us,S',hr,er,e,k⟩:=h
 obtain⟨x,S1,e1,e⟩:=bj e
 obtain⟨xs,S2,e2,e⟩:=bj e
 cases e
 refine⟨μ,S,ρ,x,S1,hr,er,e1,fun μ1 vx H1 p1 k1 hr1 rx => ?_⟩
 refine⟨μ1,S1,ρ,xs,_,hr1,er.mono k1 p1,e2,fun μ2 vs H2 p2 k2 hr2 rs => ?_⟩
 exact k μ2 _ H2 (p1.trans p2) (k1.trans k2) hr2 (.cons (RU.mono k2 p2 x vx rx) rs)
theorem Mm {a:MA} (h:tM K (mY a) σ H Q):LO (tMA K a) σ H Q:=by
 obtain⟨μ,S,ρ,u,S',hr,er,e,k⟩:=h
 obtain⟨xs,S1,e1,e⟩:=bj e
 split at e
 ·rename_i hc
  cases e
  refine⟨μ,S,ρ,xs,_,hr,er,e1,fun μ1 vs H1 p1 k1 hr1 rs=>⟨?_,fun p hp => ?_⟩⟩
  ·have:=rs.len;unfold big at hc;rw [sizeLine_eq];omega
  ·exact k μ1 _ _ p1 (k1.trans (bF.new hp)) (hr1.tup hp) (jY cJ (RUs.mono (bF.new hp) (Pre.refl _) _ _ rs))
 ·cases e
theorem jP {μ:List Addr}{S:Sto}{us:List U}{vs:List V}{p:Addr} (k:Aft K μ H (.ref S.length) (S ++ [.lst us]) Q) (hr:HR K μ S H) (rs:RUs H μ us vs) (hp:H p=none):Q (.ref p) (upd H p (.lst vs)):=by
 refine k (μ ++ [p]) _ _ ⟨[p],rfl⟩ (bF.new hp) (hr.new hp rs) (qU ?_)
 rw [<- hr.len,aA (aj _)];simp
theorem KR {a:MA} (h:tM K (cQ a) σ H Q):Lh (tMA K a) σ H Q:=by
 obtain⟨μ,S,ρ,u,S',hr,er,e,k⟩:=h
 obtain⟨xs,S1,e1,e⟩:=bj e
 split at e
 ·rename_i hc
  cases e
  refine⟨μ,S,ρ,xs,S1,hr,er,e1,fun μ1 vs H1 p1 k1 hr1 rs=>⟨?_,fun p hp => ?_⟩⟩
  ·have:=rs.len;unfold big at hc;rw [sizeLine_eq];omega
  ·exact jP (k.mono p1 k1) hr1 rs hp
 ·cases e
noncomputable def nu (K:KX) (r:List V->Hp->VK->Prop) (f:MF):Prop := ∀ (μ:List Addr) (S:Sto) (H:Hp) (us:List U) (vs:List V) (u:U) (S':Sto) (Q:VK),HR K μ S H->RUs H μ us vs->f us S=some (u,S')->Aft K μ H u S' Q->r vs H Q
theorem vh {r:List V->Hp->VK->Prop}{f:MF}{a:MA} (o:nu K r f) (h:tM K (mFn f a) σ H Q):tCB r (tMA K a) σ H Q:=by
 obtain⟨μ,S,ρ,u,S',hr,er,e,k⟩:=h
 obtain⟨xs,S1,e1,e⟩:=bj e
 refine⟨μ,S,ρ,xs,S1,hr,er,e1,fun μ1 vs H1 p1 k1 hr1 rs => ?_⟩
 exact o μ1 S1 H1 xs vs u S' Q hr1 rs e (k.mono p1 k1)
noncomputable def spM (K:KX) (m:MF):Sp:=fun vs H Q _ => ∃ μ S us u S',HR K μ S H/\RUs H μ us vs/\m us S=some (u,S')/\Aft K μ H u S' Q
theorem CA {f:MF}{a:MA}{E:XK} (h:tM K (mFn f a) σ H Q):zX (spM K f) [] E (tMA K a) σ H Q:=by
 obtain⟨μ,S,ρ,u,S',hr,er,e,k⟩:=h
 obtain⟨xs,S1,e1,e⟩:=bj e
 refine⟨μ,S,ρ,xs,S1,hr,er,e1,fun μ1 vs H1 p1 k1 hr1 rs => ?_⟩
 show spM K f (vs ++ []) H1 Q E
 rw [ij]
 exact⟨μ1,S1,xs,u,S',hr1,rs,e,k.mono p1 k1⟩
theorem Jm:nu K (fun xs H Q=>(∃ p ys,xs = [.ref p]/\(SqL K H p ys\/SqT K H p ys)/\Q (.int ys.length) H) \/ ∃ a kvs,xs = [V.ref a]/\H a=some (.dK kvs)/\Q (.int kvs.length) H) bD:=by
 intro μ S H us vs u S' Q hr rs e a
 unfold bD at e
 split at e
 ·rename_i x
  obtain⟨v,r,rfl,rx,rn⟩:=rs.inv
  rw [rn.nil_inv]
  split at e
  ·rename_i kvs qd
   cases e
   obtain⟨p,ws,rfl,hp,r'⟩:=hr.dic rx qd
   refine .inr ⟨p,_,rfl,hp,?_⟩
   have hl:kvs.length=ws.length:=by have:=r'.len;rwa [aw] at this
   rw [CC hl]
   exact a.now hr eI
  cases q:dS S x with
  | none=>rw [q] at e;cases e
  | some ws=>
    rw [q] at e;cases e
    obtain⟨p,ys,rfl,hs,r'⟩:=hr.seq rx q
    refine .inl ⟨p,ys,rfl,hs,?_⟩
    rw [<- r'.len]
    exact a.now hr eI
 ·cases e
theorem Dg:nu K (fun xs H Q => ∃ p ys,xs = [.ref p]/\((SqL K H p ys /\ ∀ l,H l=none->Q (.ref l) (upd H l (.tup ys)))\/(SqT K H p ys/\Q (.ref p) H))) b9:=by
 intro μ S H us vs u S' Q hr rs e a
 unfold b9 at e
 split at e
 ·rename_i x
  obtain⟨v,r,rfl,rx,rn⟩:=rs.inv
  rw [rn.nil_inv]
  unfold dS at e
  split at e
  ·cases e
   obtain⟨p,ys,rfl,hp,r'⟩:=jU rx
   exact⟨p,ys,rfl,.inr ⟨.inl (.inl hp),a.now hr (jY hp r')⟩⟩
  ·rename_i n
   cases q:getL S n with
   | none=>rw [q] at e;cases e
   | some ws=>
     rw [q] at e;cases e
     obtain⟨p,rfl,hp⟩:=fO rx
     obtain⟨p',ys,hp',hs,r'⟩:=hr.sq q
     rw [hp] at hp';cases hp'
     refine⟨p,ys,rfl,.inl ⟨hs,fun l hl => ?_⟩⟩
     exact a μ _ _ (Pre.refl _) (bF.new hl) (hr.tup hl) (jY cJ (RUs.mono (bF.new hl) (Pre.refl _) _ _ r'))
  ·cases e
 ·cases e
theorem EU:nu K (fun xs H Q => ∃ p ys,xs = [.ref p]/\(SqL K H p ys\/SqT K H p ys) /\ ∀ l,H l=none->Q (.ref l) (upd H l (.lst ys))) lT:=by
 intro μ S H us vs u S' Q hr rs e a
 unfold lT at e
 split at e
 ·rename_i x
  obtain⟨v,r,rfl,rx,rn⟩:=rs.inv
  rw [rn.nil_inv]
  cases q:dS S x with
  | none=>rw [q] at e;cases e
  | some ws=>
    rw [q] at e;cases e
    obtain⟨p,ys,rfl,hs,r'⟩:=hr.seq rx q
    exact⟨p,ys,rfl,hs,fun l hl=>jP a hr r' hl⟩
 ·cases e
theorem J6:nu K (fun xs H Q => ∃ i j,xs = [.int i,.int j]/\Q (.int (if j > i then j else i)) H) xq:=by
 intro μ S H us vs u S' Q hr rs e a
 unfold xq at e
 split at e
 ·cases e
  obtain⟨v,r,rfl,rx,rs⟩:=rs.inv
  obtain⟨w,r,rfl,ry,rn⟩:=rs.inv
  rw [rn.nil_inv,dg rx,dg ry]
  exact⟨_,_,rfl,a.now hr eI⟩
 ·cases e
noncomputable def Lf (K:ak):List V->Hp->VK->Prop:=fun xs H Q=>((∃ i j,xs = [.int i,.int j]/\Q (.int (if j < i then j else i)) H))
theorem AX {X:Cx} (hc:X.calm=true) (hu:X.A.units+64 < cLine):gQ X (.builtin "min") (Lf X.K):=by
 intro pins s σ H xs us Q I rs h
 exact Bc hc pins s σ H xs us Q I rs h
theorem Js:nu K (Lf K) wX:=by
 intro μ S H us vs u S' Q hr rs e a
 unfold wX at e
 split at e
 ·cases e
  obtain⟨v,r,rfl,rx,rs⟩:=rs.inv
  obtain⟨w,r,rfl,ry,rn⟩:=rs.inv
  rw [rn.nil_inv,dg rx,dg ry]
  exact⟨_,_,rfl,a.now hr eI⟩
 ·cases e
noncomputable def MtU (K:KX) (r:V->List V->Hp->VK->Prop) (f:Nat->List U->Sto->Res U):Prop := ∀ (μ:List Addr) (S:Sto) (H:Hp) (n:Nat) (p:Addr) (us:List U) (vs:List V) (u:U) (S':Sto) (Q:VK),HR K μ S H->μ[n]? = some p->RUs H μ us vs->f n us S=some (u,S')->Aft K μ H u S' Q->r (.ref p) vs H Q
theorem IW {r:V->List V->Hp->VK->Prop}{f:Nat->List U->Sto->Res U}{o:ME}{a:MA} (m:MtU K r f) (h:tM K (mML f o a) σ H Q):tBM K "list" r (tM K o) (tMA K a) σ H Q:=by
 obtain⟨μ,S,ρ,u,S',hr,er,e,k⟩:=h
 obtain⟨x,S1,e1,e⟩:=bj e
 split at e
 ·rename_i n
  cases q:getL S1 n with
  | none=>rw [q] at e;cases e
  | some ws=>
    rw [q] at e
    obtain⟨xs,S2,e2,e⟩:=bj e
    refine⟨μ,S,ρ,_,S1,hr,er,e1,fun μ1 vx H1 p1 k1 hr1 rx => ?_⟩
    obtain⟨p,rfl,hp⟩:=fO rx
    obtain⟨p',ys,hp',hs,r'⟩:=hr1.sq q
    rw [hp] at hp';cases hp'
    refine⟨.inl ⟨rfl,ys,hs⟩,μ1,S1,ρ,xs,S2,hr1,er.mono k1 p1,e2,fun μ2 vs H2 p2 k2 hr2 rs => ?_⟩
    exact m μ2 S2 H2 n p xs vs u S' Q hr2 (p2.get hp) rs e (k.mono (p1.trans p2) (k1.trans k2))
 ·cases e
theorem L3 {r:V->List V->Hp->VK->Prop}{f:Nat->List U->Sto->Res U}{o:ME} (m:MtU K r f) (h:tM K (mML f o af) σ H Q):Li K "list" r (tM K o) σ H Q:=by
 obtain⟨μ,S,ρ,u,S',hr,er,e,k⟩:=h
 obtain⟨x,S1,e1,e⟩:=bj e
 split at e
 ·rename_i n
  cases q:getL S1 n with
  | none=>rw [q] at e;cases e
  | some ws=>
    rw [q] at e
    refine⟨μ,S,ρ,_,S1,hr,er,e1,fun μ1 vx H1 p1 k1 hr1 rx => ?_⟩
    obtain⟨p,rfl,hp⟩:=fO rx
    obtain⟨p',ys,hp',hs,r'⟩:=hr1.sq q
    rw [hp] at hp';cases hp'
    exact⟨.inl ⟨rfl,ys,hs⟩,m μ1 S1 H1 n p [] [] u S' Q hr1 hp .nil e (k.mono p1 k1)⟩
 ·cases e
theorem u9 {μ:List Addr}{S:Sto}{n:Nat}{us ws:List U}{vs:List V}{p:Addr}{u:U}{v:V} (k:Aft K μ H u (S.set n (.lst ws)) Q) (hr:HR K μ S H) (e:S[n]? = some (.lst us)) (hp:μ[n]? = some p) (rs:RUs H μ ws vs) (ru:RU H μ u v) :
  Q v (upd H p (.lst vs)):=by
 obtain⟨vs0,e0,_⟩:=hr.cell n _ p e hp
 exact k μ _ _ (Pre.refl _) (bF.wr e0) (hr.wr e hp rs) (RU.mono (bF.wr e0) (Pre.refl _) _ _ ru)
theorem Aw:MtU K zz dn:=by
 intro μ S H n p us vs u S' Q hr hp rs e a
 unfold dn at e
 split at e
 ·split at e
  ·rename_i ws q
   split at e
   ·rename_i hc
    cases e
    obtain⟨v,r,rfl,rx,rn⟩:=rs.inv
    rw [rn.nil_inv]
    obtain⟨xs,e0,r0⟩:=hr.cell n _ p q hp
    refine⟨p,xs,v,rfl,rfl,e0,?_,u9 a hr q hp (r0.append (.cons rx .nil)) pz⟩
    have:=r0.len;unfold big at hc;rw [sizeLine_eq];omega
   ·cases e
  ·cases e
 ·cases e
theorem Il {n:Nat}{i:Int}{j:Nat} (h:ixN n i=some j):j < n /\ -(n:Int)<=i/\i < n:=by
 unfold ixN at h
 split at h
 ·split at h
  ·cases h;omega
  ·cases h
 ·split at h
  ·cases h;omega
  ·cases h
theorem F3 {n:Nat}{i:Int}{j:Nat} (h:ixN n i=some j):seqIndex? i n=some j:=by
 unfold ixN at h
 unfold seqIndex?
 split at h
 ·split at h
  ·cases h
   rename_i h0 h1
   simp only [show ¬ i < 0 by omega,if_false]
   first
    | (rw [if_pos (by omega)])
    | (simp;omega)
  ·cases h
 ·split at h
  ·cases h
   rename_i h0 h1
   simp only [show i < 0 by omega,if_true]
   first
    | (rw [if_pos (by omega)])
    | (simp;omega)
  ·cases h
theorem JL:MtU K LB uR:=by
 intro μ S H n p us vs u S' Q hr hp rs e a
 unfold uR at e
 split at e
 ·split at e
  ·rename_i ws q
   cases z:ws[ws.length - 1]? with
   | none=>rw [z] at e;cases e
   | some y=>
     rw [z] at e;cases e
     rw [rs.nil_inv]
     obtain⟨xs,e0,r0⟩:=hr.cell n _ p q hp
     obtain⟨v,hv,rv⟩:=r0.get z
     exact⟨p,xs,v,rfl,rfl,e0,by rw [<- r0.len];exact hv,u9 a hr q hp r0.dropLast rv⟩
  ·cases e
 ·cases e
theorem Ea:MtU K BR md:=by
 intro μ S H n p us vs u S' Q hr hp rs e a
 unfold md at e
 split at e
 ·rename_i i
  split at e
  ·rename_i ws q
   split at e
   rotate_left
   ·cases e
   rename_i hR
   cases z:ixN ws.length i with
   | none=>rw [z] at e;cases e
   | some j=>
     rw [z] at e
     simp only [ai] at e
     cases z2:ws[j]? with
     | none=>rw [z2] at e;cases e
     | some y=>
       rw [z2] at e;cases e
       obtain⟨v,r,rfl,rx,rn⟩:=rs.inv
       rw [rn.nil_inv,dg rx]
       obtain⟨xs,e0,r0⟩:=hr.cell n _ p q hp
       obtain⟨w,hw,rw'⟩:=r0.get z2
       have hl:=Il z
       have hlen:=r0.len
       refine⟨p,xs,i,j,w,rfl,rfl,e0,?_,?_,?_,hw,u9 a hr q hp (r0.eraseIdx j) rw'⟩
       ·have:=hR.1;omega
       ·have:=hR.2;omega
       ·rw [<- hlen];exact F3 z
  ·cases e
 ·cases e
theorem yL {t:TE}{m:ME}{Q:Bool->Hp->Prop} (ht : ∀ Q,tM K m σ H Q->t σ H Q) (h:tMT K (cOf m) σ H Q):B5 t σ H Q:=by
 obtain⟨μ,S,ρ,b,S',hr,er,e,k⟩:=h
 obtain⟨x,S1,e1,e⟩:=bj e
 split at e
 ·cases e
  refine ht _ ⟨μ,S,ρ,_,_,hr,er,e1,fun μ1 vx H1 p1 k1 hr1 rx => ?_⟩
  exact⟨_,kZ rx,k μ1 H1 p1 k1 hr1⟩
 ·cases e
theorem NW {t:TE}{m:ME}{Q:Bool->Hp->Prop} (ht : ∀ Q,tM K m σ H Q->t σ H Q) (h:tMT K (cOf m) σ H Q):tB t σ H Q:=yL ht h
theorem ML {a b:MT}{Q:Bool->Hp->Prop} (h:tMT K (lu a b) σ H Q):_L.L0 (tMT K a) (tMT K b) σ H Q:=by
 obtain⟨μ,S,ρ,c,S',hr,er,e,k⟩:=h
 obtain⟨x,S1,e1,e⟩:=bj e
 refine⟨μ,S,ρ,x,S1,hr,er,e1,fun μ1 H1 p1 k1 hr1 => ?_⟩
 cases x with
 | true=>exact rh ⟨μ1,S1,ρ,c,S',hr1,er.mono k1 p1,e,fun μ2 H2 p2 k2=>k μ2 H2 (p1.trans p2) (k1.trans k2)⟩
 | false=>
   have e':some (false,S1)=some (c,S'):=e
   cases e'
   exact qF (k μ1 H1 p1 k1 hr1)
theorem NT {a b:MT}{Q:Bool->Hp->Prop} (h:tMT K (cOr a b) σ H Q):_L.tOr (tMT K a) (tMT K b) σ H Q:=by
 obtain⟨μ,S,ρ,c,S',hr,er,e,k⟩:=h
 obtain⟨x,S1,e1,e⟩:=bj e
 refine⟨μ,S,ρ,x,S1,hr,er,e1,fun μ1 H1 p1 k1 hr1 => ?_⟩
 cases x with
 | true=>
   have e':some (true,S1)=some (c,S'):=e
   cases e'
   exact rh (k μ1 H1 p1 k1 hr1)
 | false=>exact qF ⟨μ1,S1,ρ,c,S',hr1,er.mono k1 p1,e,fun μ2 H2 p2 k2=>k μ2 H2 (p1.trans p2) (k1.trans k2)⟩
theorem MH {a:MT}{Q:Bool->Hp->Prop} (h:tMT K (eG a) σ H Q):_L.M9 (tMT K a) σ H Q:=by
 obtain⟨μ,S,ρ,c,S',hr,er,e,k⟩:=h
 obtain⟨x,S1,e1,e⟩:=bj e
 cases e
 exact⟨μ,S,ρ,x,_,hr,er,e1,fun μ1 H1 p1 k1 hr1=>k μ1 H1 p1 k1 hr1⟩
section
variable {D:Ends}
theorem Dm (h:tMS K bX D σ H):Ee D σ H:=by
 obtain⟨μ,S,ρ,r,hr,er,e,k⟩:=h
 cases e
 exact k μ σ H (Pre.refl _) (bF.refl _) hr er
theorem M6 {a b:MS} (h:tMS K (aZ a b) D σ H):MB (tMS K a) (tMS K b) D σ H:=by
 obtain⟨μ,S,ρ,r,hr,er,e,k⟩:=h
 unfold aZ at e
 split at e
 ·rename_i ρ1 S1 q
  refine⟨μ,S,ρ,_,hr,er,q,fun μ1 σ1 H1 p1 k1 hr1 er1 => ?_⟩
  exact⟨μ1,S1,ρ1,r,hr1,er1,e,k.mono p1 k1⟩
 ·rename_i q
  refine⟨μ,S,ρ,r,hr,er,e,?_⟩
  obtain⟨f,ρ',S'⟩:=r
  cases f with
  | nx=>exact absurd e (q ρ' S')
  | bk=>exact k
  | ct=>exact k
  | rt u=>exact k
theorem Hb {i:Nat}{m:ME} (h:tMS K (bI i m) D σ H):CM (tM K m) (i5 i) D σ H:=by
 obtain⟨μ,S,ρ,r,hr,er,e,k⟩:=h
 obtain⟨x,S1,e1,e⟩:=bj e
 cases e
 exact⟨μ,S,ρ,x,S1,hr,er,e1,fun μ1 vx H1 p1 k1 hr1 rx=>k μ1 _ H1 p1 k1 hr1 ((er.mono k1 p1).set rx i)⟩
noncomputable def LQ:DC:=fun o i v H Q => ∃ a H',o = .ref a/\AW H a i v H'/\Q H'
noncomputable def Ht:DC:=fun o i v H Q=>Hd o i v H Q\/LQ o i v H Q
theorem EM {X:Cx} (hu:X.A.units+1 < cLine):Iy X Ht:=by
 intro pins s σ H o i v ov iv u Q I ro ri rv h
 rcases h with h | ⟨a,H',rfl,g,q⟩
 ·exact set_list pins s σ H o i v ov iv u Q I ro ri rv h
 ·obtain rfl:ov=bp a:=ro
  exact Au hu I g ri rv fun s4 I4=>⟨H',I4,q⟩
theorem GF {o i m:ME} (h:tMS K (eF o i m) D σ H):CM (tM K m) (MX (tM K o) (tM K i) Ht) D σ H:=by
 obtain⟨μ,S,ρ,r,hr,er,e,k⟩:=h
 obtain⟨x,S1,e1,e⟩:=bj e
 obtain⟨p,S2,e2,e⟩:=bj e
 obtain⟨j,S3,e3,e⟩:=bj e
 cases p with
 | ref n=>
   simp only at e
   split at e
   ·rename_i us q
    split at e
    rotate_left
    ·cases e
    rename_i kk
    cases z:ixN us.length kk with
    | none=>rw [z] at e;cases e
    | some m'=>
      rw [z] at e;cases e
      refine⟨μ,S,ρ,x,S1,hr,er,e1,fun μ1 vx H1 p1 k1 hr1 rx => ?_⟩
      refine⟨μ1,S1,ρ,_,S2,hr1,er.mono k1 p1,e2,fun μ2 vo H2 p2 k2 hr2 ro => ?_⟩
      refine⟨μ2,S2,ρ,_,S3,hr2,er.mono (k1.trans k2) (p1.trans p2),e3,fun μ3 vi H3 p3 k3 hr3 ri => ?_⟩
      obtain⟨a,rfl,ha⟩:=fO ro
      have ha3:=p3.get ha
      obtain⟨vs,e0,r0⟩:=hr3.cell n _ a q ha3
      have rx3:RU H3 μ3 x vx:=RU.mono (k2.trans k3) (p2.trans p3) _ _ rx
      refine .inl ⟨a,vs,kk,m',rfl,dg ri,e0,by rw [<- r0.len];exact z,?_⟩
      have kw:bF H3 (upd H3 a (.lst (vs.set m' vx))):=bF.wr e0
      exact k μ3 _ _ (p1.trans (p2.trans p3)) (k1.trans (k2.trans (k3.trans kw))) (hr3.wr q ha3 (r0.set rx3 m')) (er.mono (k1.trans (k2.trans (k3.trans kw))) (p1.trans (p2.trans p3)))
   ·rename_i kvs q
    cases qk:keyOf j with
    | none=>rw [qk] at e;cases e
    | some kk=>
      rw [qk] at e
      simp only [ai] at e
      split at e
      ·rename_i hz
       cases e
       refine⟨μ,S,ρ,x,S1,hr,er,e1,fun μ1 vx H1 p1 k1 hr1 rx => ?_⟩
       refine⟨μ1,S1,ρ,_,S2,hr1,er.mono k1 p1,e2,fun μ2 vo H2 p2 k2 hr2 ro => ?_⟩
       refine⟨μ2,S2,ρ,_,S3,hr2,er.mono (k1.trans k2) (p1.trans p2),e3,fun μ3 vi H3 p3 k3 hr3 ri => ?_⟩
       obtain⟨a,rfl,ha⟩:=fO ro
       have ha3:=p3.get ha
       obtain⟨vs,e0,r0⟩:=hr3.cell n _ a q ha3
       have rx3:RU H3 μ3 x vx:=RU.mono (k2.trans k3) (p2.trans p3) _ _ rx
       have hl:kvs.length=vs.length:=by have:=r0.len;rwa [aw] at this
       obtain⟨ws,ew,rw'⟩:=Gy (k:=kk) rx3 r0
       have kw:bF H3 (upd H3 a (.dK (putK (dV kvs vs) kk vx))):=bF.wrG e0 fun _ z=>by cases z
       refine .inr ⟨a,_,rfl,.inl ⟨_,kk,e0,qb ri qk,by rw [CC hl,sizeLine_eq];exact hz,rfl⟩,?_⟩
       exact k μ3 _ _ (p1.trans (p2.trans p3)) (k1.trans (k2.trans (k3.trans kw))) (hr3.wrC q ha3 rfl rfl ⟨ws,by rw [ew];exact cJ,RUs.mono kw (Pre.refl _) _ _ rw'⟩) (er.mono (k1.trans (k2.trans (k3.trans kw))) (p1.trans (p2.trans p3)))
      ·cases e
   ·cases e
 | _=>cases e
theorem Kj {m:ME} (h:tMS K (eg m) D σ H):Hq (tM K m) D σ H:=by
 obtain⟨μ,S,ρ,r,hr,er,e,k⟩:=h
 obtain⟨x,S1,e1,e⟩:=bj e
 cases e
 exact⟨μ,S,ρ,x,S1,hr,er,e1,fun μ1 vx H1 p1 k1 hr1 rx=>k μ1 σ H1 p1 k1 hr1 (er.mono k1 p1)⟩
theorem Mx {m:ME} (h:tMS K (bU m) D σ H):Kx (tM K m) D σ H:=by
 obtain⟨μ,S,ρ,r,hr,er,e,k⟩:=h
 obtain⟨x,S1,e1,e⟩:=bj e
 cases e
 exact⟨μ,S,ρ,x,S1,hr,er,e1,k⟩
theorem NL {c:MT}{a b:MS} (h:tMS K (sIf c a b) D σ H):KZ (tMT K c) (tMS K a) (tMS K b) D σ H:=by
 obtain⟨μ,S,ρ,r,hr,er,e,k⟩:=h
 obtain⟨x,S1,e1,e⟩:=bj e
 refine⟨μ,S,ρ,x,S1,hr,er,e1,fun μ1 H1 p1 k1 hr1 => ?_⟩
 cases x with
 | true=>exact rh ⟨μ1,S1,ρ,r,hr1,er.mono k1 p1,e,k.mono p1 k1⟩
 | false=>exact qF ⟨μ1,S1,ρ,r,hr1,er.mono k1 p1,e,k.mono p1 k1⟩
theorem mH {b:MS}{ρ:Rho}{S:Sto}{μ μ0:List Addr}{H0:Hp}{k:MS}{r:Fl×Rho×Sto}{N:St->Hp->Prop} (hr:HR K μ S H) (er:ER H μ ρ σ) (e:aft (b ρ S) k=some r) (p:Pre μ0 μ) (kp:bF H0 H) (fl:FlP K μ0 H0 D r)
  (hN : ∀ μ1 σ1 H1 ρ1 S1,Pre μ0 μ1->bF H0 H1->HR K μ1 S1 H1->ER H1 μ1 ρ1 σ1->k ρ1 S1=some r->N σ1 H1):tMS K b { D with nx:=N,ct:=N,bk:=D.nx } σ H:=by
 unfold aft at e
 split at e
 ·rename_i ρ1 S1 q
  exact⟨μ,S,ρ,_,hr,er,q,fun μ1 σ1 H1 p1 k1 hr1 er1=>hN μ1 σ1 H1 ρ1 S1 (p.trans p1) (kp.trans k1) hr1 er1 e⟩
 ·rename_i ρ1 S1 q
  exact⟨μ,S,ρ,_,hr,er,q,fun μ1 σ1 H1 p1 k1 hr1 er1=>hN μ1 σ1 H1 ρ1 S1 (p.trans p1) (kp.trans k1) hr1 er1 e⟩
 ·rename_i ρ1 S1 q
  cases e
  exact⟨μ,S,ρ,_,hr,er,q,fun μ1 σ1 H1 p1 k1 hr1 er1=>fl μ1 σ1 H1 (p.trans p1) (kp.trans k1) hr1 er1⟩
 ·rename_i q1 q2 q3
  refine⟨μ,S,ρ,r,hr,er,e,?_⟩
  obtain⟨f,ρ',S'⟩:=r
  cases f with
  | nx=>exact absurd e (q1 ρ' S')
  | ct=>exact absurd e (q2 ρ' S')
  | bk=>exact absurd e (q3 ρ' S')
  | rt u=>exact Aft.mono fl p kp
theorem drop_cons {α:Type}{l:List α}{i:Nat}{x:α} (h:l[i]? = some x):l.drop i=x::l.drop (i+1):=by
 obtain⟨hi,e⟩:=ag.mp h
 rw [zi hi,e]
theorem J1 {i:Nat}{b:MS}{us:List U}{vs:List V}{ρ:Rho}{S:Sto}{μ:List Addr}{a:Addr}{r:Fl×Rho×Sto} (hr:HR K μ S H) (er:ER H μ ρ σ) (e:lA i b us ρ S=some r) (fl:FlP K μ H D r) (ha:H a=some (.tup vs)) (ru:RUs H μ us vs) :
  ∃ W:Nat->Nat->St->Hp->Prop,(∃ m,W 0 m σ H) /\ ∀ k m σ H,W k m σ H ->
   ((Itt K a).stop k H/\D.nx σ H)\/((Itt K a).go k H /\ ∃ N:St->Hp->Prop,(∀ σ' H',N σ' H' -> ∃ m',m' < m/\W (k+1) m' σ' H') /\ ∀ x H',(Itt K a).yld k H x H'->i5 i x σ H' fun σ2 H2=>tMS K b { D with nx:=N,ct:=N,bk:=D.nx } σ2 H2):=by
 refine FA (xs:=vs) (fun k σ1 H1 => ∃ μ1 S1 ρ1,Pre μ μ1/\bF H H1/\HR K μ1 S1 H1/\ER H1 μ1 ρ1 σ1/\lA i b (us.drop k) ρ1 S1=some r) ⟨μ,S,ρ,Pre.refl _,bF.refl _,hr,er,e⟩ ?_ ?_ ?_
 ·rintro k σ1 H1 _ ⟨μ1,S1,ρ1,p1,k1,_⟩
  exact .inl (.inl (k1 a vs ha))
 ·rintro k x σ1 H1 hx ⟨μ1,S1,ρ1,p1,k1,hr1,er1,e1⟩
  have hk:k < us.length:=by rw [ru.len];exact (ag.mp hx).1
  have hu:us[k]? = some us[k]:=by simp [hk]
  obtain⟨v,hv,rv⟩:=ru.get hu
  rw [hx] at hv;cases hv
  rw [drop_cons hu] at e1
  have rv1:RU H1 μ1 us[k] x:=RU.mono k1 p1 _ _ rv
  exact mH hr1 (er1.set rv1 i) e1 p1 k1 fl fun μ2 σ2 H2 ρ2 S2 p2 k2 hr2 er2 e2=>⟨μ2,S2,ρ2,p2,k2,hr2,er2,e2⟩
 ·rintro σ1 H1 ⟨μ1,S1,ρ1,p1,k1,hr1,er1,e1⟩
  rw [<- ru.len,List.drop_length] at e1
  cases e1
  exact fl μ1 σ1 H1 p1 k1 hr1 er1
theorem Ec {i:Nat}{b:MS}{lo:Int}{n:Nat}{ρ:Rho}{S:Sto}{μ:List Addr}{r:Fl×Rho×Sto} (hr:HR K μ S H) (er:ER H μ ρ σ) (e:lA i b (bo lo n) ρ S=some r) (fl:FlP K μ H D r) :
  ∃ W:Nat->Nat->St->Hp->Prop,(∃ m,W 0 m σ H) /\ ∀ k m σ H,W k m σ H ->
   ((Itr lo n).stop k H/\D.nx σ H)\/((Itr lo n).go k H /\ ∃ N:St->Hp->Prop,(∀ σ' H',N σ' H' -> ∃ m',m' < m/\W (k+1) m' σ' H') /\ ∀ x H',(Itr lo n).yld k H x H'->i5 i x σ H' fun σ2 H2=>tMS K b { D with nx:=N,ct:=N,bk:=D.nx } σ2 H2):=by
 refine Bl (fun k σ1 H1 => ∃ μ1 S1 ρ1,Pre μ μ1/\bF H H1/\HR K μ1 S1 H1/\ER H1 μ1 ρ1 σ1/\lA i b ((bo lo n).drop k) ρ1 S1=some r) ⟨μ,S,ρ,Pre.refl _,bF.refl _,hr,er,e⟩ ?_ ?_
 ·rintro k σ1 H1 hk ⟨μ1,S1,ρ1,p1,k1,hr1,er1,e1⟩
  have hu:(bo lo n)[k]? = some (.int (lo+k)):=by simp [bo,hk]
  rw [drop_cons hu] at e1
  exact mH hr1 (er1.set eI i) e1 p1 k1 fl fun μ2 σ2 H2 ρ2 S2 p2 k2 hr2 er2 e2=>⟨μ2,S2,ρ2,p2,k2,hr2,er2,e2⟩
 ·rintro σ1 H1 ⟨μ1,S1,ρ1,p1,k1,hr1,er1,e1⟩
  have hl:(bo lo n).length=n:=by simp [bo]
  rw [BG (by exact Em (by assumption))] at e1
  cases e1
  exact fl μ1 σ1 H1 p1 k1 hr1 er1
theorem ID {i:Nat}{b:MS}{n f:Nat}{ρ:Rho}{S:Sto}{μ:List Addr}{a:Addr}{r:Fl×Rho×Sto} (hr:HR K μ S H) (er:ER H μ ρ σ) (e:forL i b n f 0 ρ S=some r) (fl:FlP K μ H D r) (ha:μ[n]? = some a) :
  ∃ W:Nat->Nat->St->Hp->Prop,(∃ m,W 0 m σ H) /\ ∀ k m σ H,W k m σ H ->
   ((Itl K a).stop k H/\D.nx σ H)\/((Itl K a).go k H /\ ∃ N:St->Hp->Prop,(∀ σ' H',N σ' H' -> ∃ m',m' < m/\W (k+1) m' σ' H') /\ ∀ x H',(Itl K a).yld k H x H'->i5 i x σ H' fun σ2 H2=>tMS K b { D with nx:=N,ct:=N,bk:=D.nx } σ2 H2):=by
 refine⟨fun k m σ1 H1 => ∃ μ1 S1 ρ1,Pre μ μ1/\bF H H1/\HR K μ1 S1 H1/\ER H1 μ1 ρ1 σ1/\forL i b n m k ρ1 S1=some r,⟨f,μ,S,ρ,Pre.refl _,bF.refl _,hr,er,e⟩,?_⟩
 rintro k m σ1 H1 ⟨μ1,S1,ρ1,p1,k1,hr1,er1,e1⟩
 cases m with
 | zero=>cases e1
 | succ m=>
   unfold forL at e1
   cases q:getL S1 n with
   | none=>rw [q] at e1;cases e1
   | some us=>
     rw [q] at e1
     simp only [ai] at e1
     obtain⟨a',vs,ha',hs,rs⟩:=hr1.sq q
     rw [p1.get ha] at ha';cases ha'
     cases z:us[k]? with
     | none=>
       rw [z] at e1
       cases e1
       refine .inl ⟨⟨vs,hs,?_⟩,fl μ1 σ1 H1 p1 k1 hr1 er1⟩
       rw [<- rs.len];exact lq.mp z
     | some u=>
       rw [z] at e1
       obtain⟨v,hv,rv⟩:=rs.get z
       refine .inr ⟨⟨vs,v,hs,hv⟩,fun σ2 H2 => ∃ μ2 S2 ρ2,Pre μ μ2/\bF H H2/\HR K μ2 S2 H2/\ER H2 μ2 ρ2 σ2/\forL i b n m (k+1) ρ2 S2=some r,fun σ' H' w=>⟨m,cg _,w⟩,fun x H' y => ?_⟩
       obtain⟨e',y⟩:=y
       subst e'
       have hx:=y vs hs
       rw [hv] at hx;cases hx
       exact mH hr1 (er1.set rv i) e1 p1 k1 fl fun μ2 σ2 H2 ρ2 S2 p2 k2 hr2 er2 e2=>⟨μ2,S2,ρ2,p2,k2,hr2,er2,e2⟩
theorem Fv {c:MT}{b:MS} (h:tMS K (ph c b) D σ H):DS (tMT K c) (tMS K b) D σ H:=by
 obtain⟨μ,S,ρ,r,hr,er,e,fl⟩:=h
 refine⟨fun m σ1 H1 => ∃ μ1 S1 ρ1,Pre μ μ1/\bF H H1/\HR K μ1 S1 H1/\ER H1 μ1 ρ1 σ1/\whl c b m ρ1 S1=some r,⟨fuel,μ,S,ρ,Pre.refl _,bF.refl _,hr,er,e⟩,?_⟩
 rintro m σ1 H1 ⟨μ1,S1,ρ1,p1,k1,hr1,er1,e1⟩
 cases m with
 | zero=>cases e1
 | succ m=>
   unfold whl at e1
   obtain⟨x,S2,e2,e1⟩:=bj e1
   refine⟨μ1,S1,ρ1,x,S2,hr1,er1,e2,fun μ2 H2 p2 k2 hr2 => ?_⟩
   cases x with
   | true=>
     refine rh ⟨fun σ3 H3 => ∃ μ3 S3 ρ3,Pre μ μ3/\bF H H3/\HR K μ3 S3 H3/\ER H3 μ3 ρ3 σ3/\whl c b m ρ3 S3=some r,fun σ' H' w=>⟨m,cg _,w⟩,?_⟩
     exact mH hr2 (er1.mono k2 p2) e1 (p1.trans p2) (k1.trans k2) fl fun μ3 σ3 H3 ρ3 S3 p3 k3 hr3 er3 e3=>⟨μ3,S3,ρ3,p3,k3,hr3,er3,e3⟩
   | false=>
     have e':some (Fl.nx,ρ1,S2)=some r:=e1
     cases e'
     exact qF (fl μ2 σ1 H2 (p1.trans p2) (k1.trans k2) hr2 (er1.mono k2 p2))
end
end
end _G
end
section
namespace _G
open PySem PySem.Spec _L
open PyProof.Rows hiding St
section
variable {K:KX}{σ:St}{H:Hp}{Q:VK}{D:Ends}
theorem G8 {a:MA}{R:It->Hp->Prop}{μ:List Addr}{S S1:Sto}{ρ:Rho}{src:Src} (hr:HR K μ S H) (er:ER H μ ρ σ) (e:iR1 a ρ S=some (src,S1))
  (hR : ∀ μ1 H1 n,Pre μ μ1->bF H H1->HR K μ1 S1 H1->src = .imm (bo 0 n)->R (Itr 0 n) H1):wu (tMA K a) σ H R:=by
 obtain⟨xs,S2,e1,e⟩:=bj e
 split at e
 ·rename_i j
  split at e
  ·rename_i hj
   cases e
   refine⟨μ,S,ρ,_,_,hr,er,e1,fun μ1 vs H1 p1 k1 hr1 rs => ?_⟩
   obtain⟨v,r,rfl,rx,rn⟩:=rs.inv
   rw [rn.nil_inv,dg rx]
   exact⟨j,rfl,hj.1,hj.2,hR μ1 H1 _ p1 k1 hr1 rfl⟩
  ·cases e
 ·cases e
theorem G7 {a:MA}{R:It->Hp->Prop}{μ:List Addr}{S S1:Sto}{ρ:Rho}{src:Src} (hr:HR K μ S H) (er:ER H μ ρ σ) (e:iR2 a ρ S=some (src,S1))
  (hR : ∀ μ1 H1 lo n,Pre μ μ1->bF H H1->HR K μ1 S1 H1->src = .imm (bo lo n)->R (Itr lo n) H1):xG (tMA K a) σ H R:=by
 obtain⟨xs,S2,e1,e⟩:=bj e
 split at e
 ·rename_i i j
  split at e
  ·rename_i hj
   cases e
   refine⟨μ,S,ρ,_,_,hr,er,e1,fun μ1 vs H1 p1 k1 hr1 rs => ?_⟩
   obtain⟨v,r,rfl,rx,rs⟩:=rs.inv
   obtain⟨w,r,rfl,ry,rn⟩:=rs.inv
   rw [rn.nil_inv,dg rx,dg ry]
   exact⟨i,j,rfl,⟨hj.1.1,hj.1.2,hj.2.1,hj.2.2⟩,hR μ1 H1 _ _ p1 k1 hr1 rfl⟩
  ·cases e
 ·cases e
theorem CJ {a:ME}{R:It->Hp->Prop}{μ:List Addr}{S S1:Sto}{ρ:Rho}{src:Src} (hr:HR K μ S H) (er:ER H μ ρ σ) (e:dq a ρ S=some (src,S1))
  (hT : ∀ μ1 H1 us p vs,Pre μ μ1->bF H H1->HR K μ1 S1 H1->src = .imm us->H1 p=some (.tup vs)->RUs H1 μ1 us vs->R (Itt K p) H1)
  (hL : ∀ μ1 H1 n p,Pre μ μ1->bF H H1->HR K μ1 S1 H1->src = .mut n->μ1[n]? = some p->R (Itl K p) H1):xM K (tM K a) σ H R\/CF K (tM K a) σ H R:=by
 obtain⟨x,S2,e1,e⟩:=bj e
 split at e
 ·cases e
  refine .inr ⟨μ,S,ρ,_,_,hr,er,e1,fun μ1 vx H1 p1 k1 hr1 rx => ?_⟩
  obtain⟨p,vs,rfl,hp,r⟩:=jU rx
  exact⟨p,rfl,⟨vs,.inl (.inl hp)⟩,hT μ1 H1 _ p vs p1 k1 hr1 rfl hp r⟩
 ·rename_i n
  cases q:getL S2 n with
  | none=>rw [q] at e;cases e
  | some ws=>
    rw [q] at e;cases e
    refine .inl ⟨μ,S,ρ,_,_,hr,er,e1,fun μ1 vx H1 p1 k1 hr1 rx => ?_⟩
    obtain⟨p,rfl,hp⟩:=fO rx
    obtain⟨p',ys,hp',hs,r'⟩:=hr1.sq q
    rw [hp] at hp';cases hp'
    exact⟨p,rfl,⟨ys,hs⟩,hL μ1 H1 n p p1 k1 hr1 rfl hp⟩
 ·cases e
theorem M3 {i:Nat}{a:MA}{b:MS} (h:tMS K (dF i (iR1 a) b) D σ H):uQ (wu (tMA K a)) (i5 i) (tMS K b) D σ H:=by
 obtain⟨μ,S,ρ,r,hr,er,e,fl⟩:=h
 obtain⟨src,S1,e1,e⟩:=bj e
 refine G8 hr er e1 fun μ1 H1 n p1 k1 hr1 hs => ?_
 subst hs
 exact Ec hr1 (er.mono k1 p1) e (fl.mono p1 k1)
theorem Mh {i:Nat}{a:MA}{b:MS} (h:tMS K (dF i (iR2 a) b) D σ H):uQ (xG (tMA K a)) (i5 i) (tMS K b) D σ H:=by
 obtain⟨μ,S,ρ,r,hr,er,e,fl⟩:=h
 obtain⟨src,S1,e1,e⟩:=bj e
 refine G7 hr er e1 fun μ1 H1 lo n p1 k1 hr1 hs => ?_
 subst hs
 exact Ec hr1 (er.mono k1 p1) e (fl.mono p1 k1)
theorem NJ {i:Nat}{a:ME}{b:MS} (h:tMS K (dF i (dq a) b) D σ H):uQ (fun σ H R=>xM K (tM K a) σ H R\/CF K (tM K a) σ H R) (i5 i) (tMS K b) D σ H:=by
 obtain⟨μ,S,ρ,r,hr,er,e,fl⟩:=h
 obtain⟨src,S1,e1,e⟩:=bj e
 refine CJ hr er e1 (fun μ1 H1 us p vs p1 k1 hr1 hs hp rs => ?_) fun μ1 H1 n p p1 k1 hr1 hs hp => ?_
 ·subst hs
  exact J1 hr1 (er.mono k1 p1) e (fl.mono p1 k1) hp rs
 ·subst hs
  exact ID hr1 (er.mono k1 p1) e (fl.mono p1 k1) hp
theorem o9 {t:MT}{e:ME}{ρ:Rho} : ∀ {us acc ys:List U}{S S':Sto},hG t e ρ us acc S=some (ys,S')->acc.length<=ys.length
 | [],acc,ys,S,S',h=>by cases h;exact aj _
 | x::us,acc,ys,S,S',h=>by
   obtain⟨k,S1,e1,h⟩:=bj h
   cases k with
   | true=>
     obtain⟨y,S2,e2,h⟩:=bj (show bnd (e (ρ ++ [some x]) S1) (fun y S2=>hG t e ρ us (acc ++ [y]) S2)=some (ys,S') from h)
     have:=o9 h
     simp at this;exact aQ (by assumption)
   | false=>exact o9 (show hG t e ρ us acc S1=some (ys,S') from h)
theorem pq {t:MT}{e:ME}{ρ:Rho}{n:Nat} : ∀ {f i:Nat}{acc ys:List U}{S S':Sto},jM t e ρ n f i acc S=some (ys,S')->acc.length<=ys.length
 | 0,i,acc,ys,S,S',h=>by cases h
 | f+1,i,acc,ys,S,S',h=>by
   unfold jM at h
   cases q:getL S n with
   | none=>rw [q] at h;cases h
   | some us=>
     rw [q] at h
     simp only [ai] at h
     cases z:us[i]? with
     | none=>rw [z] at h;cases h;exact aj _
     | some x=>
       rw [z] at h
       obtain⟨k,S1,e1,h⟩:=bj h
       cases k with
       | true=>
         obtain⟨y,S2,e2,h⟩:=bj (show bnd (e (ρ ++ [some x]) S1) (fun y S2=>jM t e ρ n f (i+1) (acc ++ [y]) S2)=some (ys,S') from h)
         have:=pq h
         simp at this;exact aQ (by assumption)
       | false=>exact pq (show jM t e ρ n f (i+1) acc S1=some (ys,S') from h)
noncomputable def zv (J:It) (σ:St) (tt:TT) (te:TE) (H1:Hp) (Q:VK):Prop := ∃ W:Nat->Nat->List V->Hp->Prop,(∃ m,W 0 m [] H1) /\ ∀ i m ys H,W i m ys H->ys.length < sizeLine /\
 ((J.stop i H /\ ∀ D,H D=none->Q (.ref D) (upd H D (.lst ys))) \/
  (J.go i H /\ ∀ x H',J.yld i H x H'->tt (σ ++ [some x]) H' fun b H3=>if b=true then te (σ ++ [some x]) H3 fun y H4 => ∃ m',m' < m/\W (i+1) m' (ys ++ [y]) H4 else ∃ m',m' < m/\W (i+1) m' ys H3))
theorem uj {t:MT}{e:ME}{ρ':Rho}{σ':St}{H1:Hp}{μ1:List Addr}{S1 S':Sto}{au ys:List U}{acc:List V}{next:List U->Sto->Res (List U)} (W:List V->Hp->Prop) (hr1:HR K μ1 S1 H1) (er1:ER H1 μ1 ρ' σ') (ra:RUs H1 μ1 au acc)
  (e1:bnd (t ρ' S1) (fun k S2=>if k then bnd (e ρ' S2) fun y S3=>next (au ++ [y]) S3 else next au S2)=some (ys,S'))
  (hW : ∀ μ2 S2 au2 acc2 H2,Pre μ1 μ2->bF H1 H2->HR K μ2 S2 H2->RUs H2 μ2 au2 acc2->next au2 S2=some (ys,S')->W acc2 H2) :
  tMT K t σ' H1 fun b H3=>if b=true then tM K e σ' H3 fun y H4=>W (acc ++ [y]) H4 else W acc H3:=by
 obtain⟨b,S2,e2,e1⟩:=bj e1
 refine⟨μ1,S1,_,b,S2,hr1,er1,e2,fun μ2 H2 p2 k2 hr2 => ?_⟩
 have ra2:=RUs.mono k2 p2 _ _ ra
 cases b with
 | true=>
   obtain⟨y',S3,e3,e1⟩:=bj (show bnd (e ρ' S2) (fun y S2=>next (au ++ [y]) S2)=some (ys,S') from e1)
   exact rh ⟨μ2,S2,_,y',S3,hr2,er1.mono k2 p2,e3,fun μ3 v3 H3 p3 k3 hr3 rv3=>hW μ3 S3 _ _ H3 (p2.trans p3) (k2.trans k3) hr3 ((RUs.mono k3 p3 _ _ ra2).append (.cons rv3 .nil)) e1⟩
 | false=>exact qF (hW μ2 S2 _ _ H2 p2 k2 hr2 ra2 e1)
theorem rX {J:It}{t:MT}{e:ME}{ρ:Rho}{us ys:List U}{μ:List Addr}{S S':Sto} (hr:HR K μ S H) (er:ER H μ ρ σ) (h:hG t e ρ us [] S=some (ys,S')) (hz:ys.length < big) (k:Aft K μ H (.ref S'.length) (S' ++ [.lst ys]) Q)
  (hstop : ∀ H',bF H H'->J.stop us.length H') (hgo : ∀ (i:Nat) H',i < us.length->bF H H'->J.go i H')
  (hy : ∀ (i:Nat) H' x H'' (u:U),us[i]? = some u->bF H H'->J.yld i H' x H''->H''=H'/\RU H μ u x):zv J σ (tMT K t) (tM K e) H Q:=by
 have hz':ys.length < sizeLine:=by unfold big at hz;rw [sizeLine_eq];exact hz
 refine⟨fun i m acc H1=>m=us.length - i/\i<=us.length /\ ∃ μ1 S1 au,Pre μ μ1/\bF H H1/\HR K μ1 S1 H1/\RUs H1 μ1 au acc/\hG t e ρ (us.drop i) au S1=some (ys,S'),⟨_,rfl,dj _,μ,S,[],Pre.refl _,bF.refl _,hr,.nil,h⟩,?_⟩
 rintro i m acc H1 ⟨rfl,hi,μ1,S1,au,p1,k1,hr1,ra,e1⟩
 have hl:=o9 e1
 have hl2:=ra.len
 refine⟨by omega,?_⟩
 by_cases hlt:i < us.length
 ·have hu:us[i]? = some us[i]:=by simp [hlt]
  rw [drop_cons hu] at e1
  refine .inr ⟨hgo i H1 hlt k1,fun x H' y => ?_⟩
  obtain⟨rfl,rx⟩:=hy i H1 x H' us[i] hu k1 y
  have er1:ER H' μ1 (ρ ++ [some us[i]]) (σ ++ [some x]):=(er.mono k1 p1).push (RU.mono k1 p1 _ _ rx)
  exact uj (next:=hG t e ρ (us.drop (i+1))) (fun acc H1 => ∃ m',m' < us.length - i/\m'=us.length - (i+1)/\i+1<=us.length /\ ∃ μ1 S1 au,Pre μ μ1/\bF H H1/\HR K μ1 S1 H1/\RUs H1 μ1 au acc/\hG t e ρ (us.drop (i+1)) au S1=some (ys,S')) hr1 er1 ra e1 fun μ2 S2 au2 acc2 H2 p2 k2 hr2 ra2 q=>⟨us.length - (i+1),by omega,rfl,hlt,μ2,S2,au2,p1.trans p2,k1.trans k2,hr2,ra2,q⟩
 ·have e:i=us.length:=by omega
  subst e
  rw [List.drop_length] at e1
  cases e1
  exact .inl ⟨hstop H1 k1,fun D hD=>jP (k.mono p1 k1) hr1 ra hD⟩
theorem Dn {t:MT}{e:ME}{ρ:Rho}{n f:Nat}{ys:List U}{μ:List Addr}{S S':Sto}{p:Addr} (hr:HR K μ S H) (er:ER H μ ρ σ) (h:jM t e ρ n f 0 [] S=some (ys,S')) (hz:ys.length < big) (k:Aft K μ H (.ref S'.length) (S' ++ [.lst ys]) Q)
  (hp:μ[n]? = some p):zv (Itl K p) σ (tMT K t) (tM K e) H Q:=by
 have hz':ys.length < sizeLine:=by unfold big at hz;rw [sizeLine_eq];exact hz
 refine⟨fun i m acc H1 => ∃ μ1 S1 au,Pre μ μ1/\bF H H1/\HR K μ1 S1 H1/\RUs H1 μ1 au acc/\jM t e ρ n m i au S1=some (ys,S'),⟨f,μ,S,[],Pre.refl _,bF.refl _,hr,.nil,h⟩,?_⟩
 rintro i m acc H1 ⟨μ1,S1,au,p1,k1,hr1,ra,e1⟩
 have hl:=pq e1
 have hl2:=ra.len
 refine⟨by omega,?_⟩
 cases m with
 | zero=>cases e1
 | succ m=>
   unfold jM at e1
   cases q:getL S1 n with
   | none=>rw [q] at e1;cases e1
   | some us=>
     rw [q] at e1
     simp only [ai] at e1
     obtain⟨a',vs,ha',hs,rs⟩:=hr1.sq q
     rw [p1.get hp] at ha';cases ha'
     cases z:us[i]? with
     | none=>
       rw [z] at e1
       cases e1
       exact .inl ⟨⟨vs,hs,by rw [<- rs.len];exact lq.mp z⟩,fun D hD=>jP (k.mono p1 k1) hr1 ra hD⟩
     | some u=>
       rw [z] at e1
       obtain⟨v,hv,rv⟩:=rs.get z
       refine .inr ⟨⟨vs,v,hs,hv⟩,fun x H' y => ?_⟩
       obtain⟨e',y⟩:=y
       subst e'
       have hx:=y vs hs
       rw [hv] at hx;cases hx
       exact uj (next:=jM t e ρ n m (i+1)) (fun acc H1 => ∃ m',m' < m+1 /\ ∃ μ1 S1 au,Pre μ μ1/\bF H H1/\HR K μ1 S1 H1/\RUs H1 μ1 au acc/\jM t e ρ n m' (i+1) au S1=some (ys,S')) hr1 ((er.mono k1 p1).push rv) ra e1 fun μ2 S2 au2 acc2 H2 p2 k2 hr2 ra2 q=>⟨m,cg _,μ2,S2,au2,p1.trans p2,k1.trans k2,hr2,ra2,q⟩
theorem wo {lo:Int}{n:Nat}{t:MT}{e:ME}{ρ:Rho}{ys:List U}{μ:List Addr}{S S':Sto} (hr:HR K μ S H) (er:ER H μ ρ σ) (h:hG t e ρ (bo lo n) [] S=some (ys,S')) (hz:ys.length < big) (k:Aft K μ H (.ref S'.length) (S' ++ [.lst ys]) Q) :
  zv (Itr lo n) σ (tMT K t) (tM K e) H Q:=by
 have hl:(bo lo n).length=n:=by simp [bo]
 refine rX hr er h hz k (fun H' _=>by rw [hl];exact aj _) (fun i H' hi _=>by rw [hl] at hi;exact hi) fun i H' x H'' u hu _ y => ?_
 obtain⟨rfl,rfl⟩:=y
 have hi:i < n:=by rw [<- hl];exact (ag.mp hu).1
 have e2:(bo lo n)[i]? = some (.int (lo+i)):=by simp [bo,hi]
 rw [e2] at hu;cases hu
 exact⟨rfl,eI⟩
theorem DL {us:List U}{vs:List V}{p:Addr}{t:MT}{e:ME}{ρ:Rho}{ys:List U}{μ:List Addr}{S S':Sto} (hr:HR K μ S H) (er:ER H μ ρ σ) (h:hG t e ρ us [] S=some (ys,S')) (hz:ys.length < big) (k:Aft K μ H (.ref S'.length) (S' ++ [.lst ys]) Q)
  (hp:H p=some (.tup vs)) (rs:RUs H μ us vs):zv (Itt K p) σ (tMT K t) (tM K e) H Q:=by
 refine rX hr er h hz k (fun H' kp=>⟨vs,.inl (.inl (kp p vs hp)),by rw [rs.len];exact aj _⟩) (fun i H' hi kp => ?_) fun i H' x H'' u hu kp y => ?_
 ·have hi':i < vs.length:=by rw [<- rs.len];exact hi
  exact⟨vs,vs[i],.inl (.inl (kp p vs hp)),by simp [hi']⟩
 ·obtain⟨rfl,y⟩:=y
  obtain⟨v,hv,rv⟩:=rs.get hu
  have:=y vs (.inl (.inl (kp p vs hp)))
  rw [hv] at this;cases this
  exact⟨rfl,rv⟩
theorem MJ {a:MA}{t:MT}{e:ME} (h:tM K (bR (iR1 a) t e) σ H Q):oa (wu (tMA K a)) (tMT K t) (tM K e) σ H Q:=by
 obtain⟨μ,S,ρ,u,S',hr,er,e0,k⟩:=h
 obtain⟨src,S1,e1,e0⟩:=bj e0
 obtain⟨ys,S2,e2,e0⟩:=bj e0
 split at e0
 ·rename_i hz
  cases e0
  refine G8 hr er e1 fun μ1 H1 n p1 k1 hr1 hs => ?_
  subst hs
  exact wo hr1 (er.mono k1 p1) e2 hz (k.mono p1 k1)
 ·cases e0
theorem Mc {a:MA}{t:MT}{e:ME} (h:tM K (bR (iR2 a) t e) σ H Q):oa (xG (tMA K a)) (tMT K t) (tM K e) σ H Q:=by
 obtain⟨μ,S,ρ,u,S',hr,er,e0,k⟩:=h
 obtain⟨src,S1,e1,e0⟩:=bj e0
 obtain⟨ys,S2,e2,e0⟩:=bj e0
 split at e0
 ·rename_i hz
  cases e0
  refine G7 hr er e1 fun μ1 H1 lo n p1 k1 hr1 hs => ?_
  subst hs
  exact wo hr1 (er.mono k1 p1) e2 hz (k.mono p1 k1)
 ·cases e0
theorem NU {a:ME}{t:MT}{e:ME} (h:tM K (bR (dq a) t e) σ H Q):oa (fun σ H R=>xM K (tM K a) σ H R\/CF K (tM K a) σ H R) (tMT K t) (tM K e) σ H Q:=by
 obtain⟨μ,S,ρ,u,S',hr,er,e0,k⟩:=h
 obtain⟨src,S1,e1,e0⟩:=bj e0
 obtain⟨ys,S2,e2,e0⟩:=bj e0
 split at e0
 ·rename_i hz
  cases e0
  refine CJ hr er e1 (fun μ1 H1 us p vs p1 k1 hr1 hs hp rs => ?_) fun μ1 H1 n p p1 k1 hr1 hs hp => ?_
  ·subst hs
   exact DL hr1 (er.mono k1 p1) e2 hz (k.mono p1 k1) hp rs
  ·subst hs
   exact Dn hr1 (er.mono k1 p1) e2 hz (k.mono p1 k1) hp
 ·cases e0
end
end _G
end
section
namespace _G
open PySem PySem.Spec _L
open PyProof.Rows hiding St
section
variable {K:KX}{σ:St}{H:Hp}{Q:VK}{D:Ends}
end
end _G
end
section
namespace _G
open PySem PySem.Spec _L
open PyProof.Rows hiding St
theorem PE.con {X:Cx}{e:Expr}{t t':TE} (h:PE X e t) (hm : ∀ σ H Q,t' σ H Q->t σ H Q):PE X e t':=fun pins s σ H Q I q=>h pins s σ H Q I (hm σ H Q q)
theorem PT.con {X:Cx}{e:Expr}{t t':TT} (h:PT X e t) (hm : ∀ σ H Q,t' σ H Q->t σ H Q):PT X e t':=fun pins s σ H Q I q=>h pins s σ H Q I (hm σ H Q q)
theorem PW.con {X:Cx}{e:Expr}{t t':TT} (h:PW X e t) (hm : ∀ σ H Q,t' σ H Q->t σ H Q):PW X e t':=fun wh pins s σ H Q I q=>h wh pins s σ H Q I (hm σ H Q q)
theorem PA.con {X:Cx}{e:List Expr}{t t':TA} (h:PA X e t) (hm : ∀ σ H Q,t' σ H Q->t σ H Q):PA X e t':=fun pos pins s σ H Q I q=>h pos pins s σ H Q I (hm σ H Q q)
theorem PS.con {X:Cx}{e:Stmt}{t t':TS} (h:PS X e t) (hm : ∀ D σ H,t' D σ H->t D σ H):PS X e t':=fun pins s σ H D I q=>h pins s σ H D I (hm D σ H q)
theorem PSs.con {X:Cx}{e:List Stmt}{t t':TS} (h:PSs X e t) (hm : ∀ D σ H,t' D σ H->t D σ H):PSs X e t':=fun pins s σ H D I q=>h pins s σ H D I (hm D σ H q)
theorem PTs.con {X:Cx}{e:List Expr}{t t':TT} (h:PTs X e t) (hm : ∀ σ H Q,t' σ H Q->t σ H Q):PTs X e t':=fun pins s σ H Q I q=>h pins s σ H Q I (hm σ H Q q)
theorem PI.or {X:Cx}{tg it:Expr}{w1 w2:TI} (h1:PI X tg it w1) (h2:PI X tg it w2):PI X tg it (fun σ H R=>w1 σ H R\/w2 σ H R):=fun pins s σ H R I q=>by
 rcases q with q | q
 ·exact h1 pins s σ H R I q
 ·exact h2 pins s σ H R I q
structure Mo where
 P:Program
 w:World
 K:KX
 mg:Str->Option Value
 base:Heap
 mkr:Option (Addr×Str)
noncomputable def sP (ns:List (Str×NameKind)) (x:Str):Bool:=match ns.lookup x with
 | some .local=>true
 | some .cell=>true
 | some .free=>true
 | _=>false
noncomputable def qL (ns:List (Str×NameKind)) (x:Str):Bool:=match ns.lookup x with
 | some .local=>true
 | some .cell=>true
 | _=>false
noncomputable def eO (ns:List (Str×NameKind)) (x:Str):Bool:=match ns.lookup x with
 | some .globalImplicit=>true
 | _=>false
structure Sc (M:Mo) (X:Cx) (k:Nat) (N:List Str) (ns:List (Str×NameKind)):Prop where
 hP:X.prog=M.P
 hw:X.w=M.w
 hK:X.K=M.K
 hm:X.mg=M.mg
 hb:X.base=M.base
 hN:X.N=N
 nd:N.Nodup
 calm:X.calm=true
 loc : ∀ y,ns.lookup y=some .local->X.env.scope.names.lookup y=some .local
 cel : ∀ y,ns.lookup y=some .cell->X.env.scope.names.lookup y=some .cell/\X.fn y=true
 fre : ∀ y,ns.lookup y=some .free->X.env.scope.names.lookup y=some .cell\/X.env.scope.names.lookup y=some .free
 glo : ∀ y,ns.lookup y=some .globalImplicit->X.env.scope.names.lookup y=some .globalImplicit
 room:kl k X.A
 own:PassesOwn (model X.prog X.w) X.A X.env X.xe
 cod : ∀ c q,M.mkr=some (c,q)->X.env.code = .ref c/\X.env.qual=q
section
variable {M:Mo}{X:Cx}{k:Nat}{N:List Str}{ns:List (Str×NameKind)}
theorem Sc.vis (S:Sc M X k N ns) {x:Str} (h:sP ns x=true):Vis X.env.scope x:=by
 unfold sP at h
 split at h
 ·rename_i e;exact .inl (S.loc x e)
 ·rename_i e;exact .inr (.inl (S.cel x e).1)
 ·rename_i e;exact .inr (S.fre x e)
 ·cases h
theorem Sc.lo (S:Sc M X k N ns) {x:Str} (h:qL ns x=true):Loc X.env.scope x/\(X.fn x=true\/X.env.scope.names.lookup x=some .local):=by
 unfold qL at h
 split at h
 ·rename_i e;exact⟨.inl (S.loc x e),.inr (S.loc x e)⟩
 ·rename_i e;exact⟨.inr (S.cel x e).1,.inl (S.cel x e).2⟩
 ·cases h
theorem Sc.gl (S:Sc M X k N ns) {x:Str} (h:eO ns x=true):Gl X x:=by
 unfold eO at h
 split at h
 ·rename_i e;exact S.glo x e
 ·cases h
variable {a b c e:Expr}{es:List Expr}{ma mb mc:ME}{mt:MT}{mas:MA}{pos p1 p2:Pos}{x:Str}
theorem L1 (S:Sc M X k N ns) (i:Nat) (hi:N[i]? = some x) (hv:sP ns x=true) (hd:(x == ("__debug__":Str))=false) (hcd:(x == ("__classdict__":Str))=false):PE X (.Name x pos) (tM M.K (ab i)):=
 PE.con (Eg (by rw [S.hN];exact hi) (S.vis hv) hd hcd) fun _ _ _ h=>LR h
theorem MC {i:Int}{j}:PE X (.Constant (.int i) j pos) (tM M.K (mC (.int i))):=PE.con Jg fun _ _ _ h=>r_c (fun _ _=>eI) h
theorem N2 {i:Bool}{j}:PE X (.Constant (.bool i) j pos) (tM M.K (mC (.bl i))):=PE.con LU fun _ _ _ h=>r_c (fun _ _=>jD) h
theorem Mr {j}:PE X (.Constant .none j pos) (tM M.K (mC .non)):=PE.con II fun _ _ _ h=>r_c (fun _ _=>pz) h
theorem JH {u:U}{v:V}{g:Value} (S:Sc M X k N ns) (hg:eO ns x=true) (hm:M.mg x=some g) (r:RelV v g) (hv : ∀ H μ,RU H μ u v) (hd:(x == ("__debug__":Str))=false):PE X (.Name x pos) (tM M.K (mC u)):=
 PE.con (FN (S.gl hg) (by rw [S.hm];exact hm) r hd) fun _ _ _ h=>r_c hv h
theorem MN (S:Sc M X k N ns) (ha:PE X a (tM M.K ma)) (hb:PE X b (tM M.K mb)):PE X (.BinOp a .Add b pos) (tM M.K (m2 cZ ma mb)):=
 PE.con (tO (Jr.or (OpR.or (S.hK▸FV) (OpR.or (S.hK▸FS) IQ))) ha hb) fun _ _ _ h=>uJ Im h
theorem Lb (ha:PE X a (tM M.K ma)) (hb:PE X b (tM M.K mb)):PE X (.BinOp a .Sub b pos) (tM M.K (m2 uF ma mb)):=PE.con (tO JF ha hb) fun _ _ _ h=>uJ HW h
theorem MW (S:Sc M X k N ns) (ha:PE X a (tM M.K ma)) (hb:PE X b (tM M.K mb)):PE X (.BinOp a .Mult b pos) (tM M.K (m2 fG ma mb)):=PE.con (tO (Jy.or (S.hK▸FM)) ha hb) fun _ _ _ h=>uJ Ii h
theorem Lx (ha:PE X a (tM M.K ma)) (hb:PE X b (tM M.K mb)):PE X (.BinOp a .FloorDiv b pos) (tM M.K (m2 oDiv ma mb)):=PE.con (tO FY ha hb) fun _ _ _ h=>uJ Ki h
theorem K2 (ha:PE X a (tM M.K ma)) (hb:PE X b (tM M.K mb)):PE X (.BinOp a .Mod b pos) (tM M.K (m2 oMod ma mb)):=PE.con (tO Ia ha hb) fun _ _ _ h=>uJ Jz h
theorem KG (ha:PE X a (tM M.K ma)) (hb:PE X b (tM M.K mb)):PE X (.BinOp a .Pow b pos) (tM M.K (m2 uW ma mb)):=PE.con (tO Jp ha hb) fun _ _ _ h=>uJ Je h
theorem Ll (ha:PE X a (tM M.K ma)):PE X (.UnaryOp .USub a pos) (tM M.K (m1 yk ma)):=PE.con (Nf JY ha) fun _ _ _ h=>NZ Kl h
theorem NK (S:Sc M X k N ns) (ha:PE X a (tM M.K ma)) (hb:PE X b (tM M.K mb)) (hs:vC b):PE X (.Subscript a b pos) (tM M.K (m2 oIx ma mb)):=
 PE.con (L4 (IxR.or (S.hK▸Iq) (JT (by have:=S.room.units;omega))) ha hb hs) fun _ _ _ h=>uJ Mu h
theorem Mt:PA X [] (tMA M.K af):=PA.con rJ fun _ _ _ h=>KW h
theorem Jl (ha:PE X a (tM M.K ma)) (hr:PA X es (tMA M.K mas)) (hs:autoParam (starEach (a::es) X.env=(false,eval a X.env)::starEach es X.env) au1._auto_1):PA X (a::es) (tMA M.K (aa ma mas)):=
 PA.con (mM ha hr hs) fun _ _ _ h=>IJ h
theorem La {x1} (h:PA X es (tMA M.K mas)):PE X (.Tuple es x1 pos) (tM M.K (mY mas)):=PE.con (HE h) fun _ _ _ h=>Mm h
theorem Ky (h:PA X es (tMA M.K mas)):PE X (.List es pos) (tM M.K (cQ mas)):=PE.con (JM h) fun _ _ _ h=>KR h
theorem MM (ha:PT X a (tMT M.K mt)) {mt':MT} (hb:PW X (.BoolOp .And (b::es) pos) (tMT M.K mt')):PW X (.BoolOp .And (a::b::es) pos) (tMT M.K (lu mt mt')):=PW.con (HH ha hb) fun _ _ _ h=>ML h
theorem Nj (ha:PT X a (tMT M.K mt)) {mt':MT} (hb:PW X (.BoolOp .Or (b::es) pos) (tMT M.K mt')):PW X (.BoolOp .Or (a::b::es) pos) (tMT M.K (cOr mt mt')):=PW.con (Ml ha hb) fun _ _ _ h=>NT h
theorem JJ (ha:PT X a (tMT M.K mt)):PW X (.BoolOp .And [a] pos) (tMT M.K mt):=FP ha
theorem Lo (ha:PT X a (tMT M.K mt)):PW X (.BoolOp .Or [a] pos) (tMT M.K mt):=Jd ha
theorem Lk (ha:PT X a (tMT M.K mt)):PT X (.UnaryOp .Not a pos) (tMT M.K (eG mt)):=PT.con (JE ha) fun _ _ _ h=>MH h
theorem LI (ha:PE X a (tM M.K ma)) (he:autoParam (∀ whole,isTrue a X.env whole=(do let v <- whole;standAt a.pos;holding [v] (truthy v))) au3._auto_1):PT X a (tMT M.K (cOf ma)):=PT.con (HJ ha he) fun _ _ _ h=>NW (fun _ q=>q) h
theorem CS (S:Sc M X k N ns) (hg:eO ns "len"=true) (hm:M.mg "len"=none) (ha:PA X (e::es) (tMA M.K mas)) (he:autoParam (starEach (e::es) X.env=(false,eval e X.env)::starEach es X.env) au1._auto_1) (hpl:autoParam ((backTo pos (starEach es X.env)).any (·.1)=false) au1._auto_1) :
  PE X (.Call (.Name "len" p1) (e::es) [] pos) (tM M.K (mFn bD mas)):=
 PE.con (jl (gQ.or (S.hK▸vv) Br) (S.gl hg) (by rw [S.hm];exact hm) PySem.boot_len ha (by decide) (by decide) he hpl) fun _ _ _ h=>vh Jm h
theorem EZ (S:Sc M X k N ns) (hg:eO ns "tuple"=true) (hm:M.mg "tuple"=none) (ha:PA X (e::es) (tMA M.K mas)) (he:autoParam (starEach (e::es) X.env=(false,eval e X.env)::starEach es X.env) au1._auto_1) (hpl:autoParam ((backTo pos (starEach es X.env)).any (·.1)=false) au1._auto_1) :
  PE X (.Call (.Name "tuple" p1) (e::es) [] pos) (tM M.K (mFn b9 mas)):=
 PE.con (ke (S.hK▸sD) (S.gl hg) (by rw [S.hm];exact hm) tF ha (by decide) (by decide) he hpl) fun _ _ _ h=>vh Dg h
theorem Kt (S:Sc M X k N ns) (hg:eO ns "max"=true) (hm:M.mg "max"=none) (ha:PA X (e::es) (tMA M.K mas)) (he:autoParam (starEach (e::es) X.env=(false,eval e X.env)::starEach es X.env) au1._auto_1) (hpl:autoParam ((backTo pos (starEach es X.env)).any (·.1)=false) au1._auto_1) :
  PE X (.Call (.Name "max" p1) (e::es) [] pos) (tM M.K (mFn xq mas)):=
 PE.con (jl (AZ S.calm) (S.gl hg) (by rw [S.hm];exact hm) PyProof.Rows.boot_max ha (by decide) (by decide) he hpl) fun _ _ _ h=>vh J6 h
theorem Mf (S:Sc M X k N ns) (hg:eO ns "min"=true) (hm:M.mg "min"=none) (ha:PA X (e::es) (tMA M.K mas)) (he:autoParam (starEach (e::es) X.env=(false,eval e X.env)::starEach es X.env) au1._auto_1) (hpl:autoParam ((backTo pos (starEach es X.env)).any (·.1)=false) au1._auto_1) :
  PE X (.Call (.Name "min" p1) (e::es) [] pos) (tM M.K (mFn wX mas)):=
 PE.con (jl (S.hK▸AX S.calm (by have:=S.room.units;assumption)) (S.gl hg) (by rw [S.hm];exact hm) PyProof.Rows.boot_min ha (by decide) (by decide) he hpl) fun _ _ _ h=>vh Js h
structure Fn (M:Mo) (x:Str) (k:Nat) (ps:List Str) (m:MF):Prop where
 ex : ∃ (f:Addr) (fd:FuncData),M.mg x=some (.ref f)/\cj M.K (.ref f)=true/\Binds M.K fd ps []/\ki M.P M.w M.K M.mg M.base CX0 k f fd ps (spM M.K m)
theorem Ib {mf:MF}{ps:List Str}{k':Nat} (S:Sc M X k N ns) (F:Fn M x k' ps mf) (hk:k'<=k) (hg:eO ns x=true) (ha:PA X (e::es) (tMA M.K mas)) (hd:(x == ("__debug__":Str))=false) (he:autoParam (starEach (e::es) X.env=(false,eval e X.env)::starEach es X.env) au1._auto_1) (hpl:autoParam ((backTo pos (starEach es X.env)).any (·.1)=false) au1._auto_1) :
  PE X (.Call (.Name x p1) (e::es) [] pos) (tM M.K (mFn mf mas)):=by
 obtain⟨f,fd,hm,hkp,hb,F⟩:=F.ex
 rw [<- S.hP,<- S.hw,<- S.hK,<- S.hm,<- S.hb] at F
 rw [<- S.hm] at hm
 rw [<- S.hK] at hkp hb
 exact PE.con (FR F (S.room.mono hk) (S.gl hg) hm hkp hb .nil zD ha hd he hpl) fun _ _ _ h=>CA h
theorem GC {mf:MF}{ps:List Str}{k':Nat} (S:Sc M X k N ns) (F:Fn M x k' ps mf) (hk:k'<=k) (hg:eO ns x=true) (hd:(x == ("__debug__":Str))=false) :
  PE X (.Call (.Name x p1) [] [] pos) (tM M.K (mFn mf af)):=by
 obtain⟨f,fd,hm,hkp,hb,F⟩:=F.ex
 rw [<- S.hP,<- S.hw,<- S.hK,<- S.hm,<- S.hb] at F
 rw [<- S.hm] at hm
 rw [<- S.hK] at hkp hb
 refine PE.con (CH F (S.room.mono hk) (S.gl hg) hm hkp hb .nil zD hd) fun σ H Q h => ?_
 obtain⟨μ,S,ρ,u,S',hr,er,e,kk⟩:=h
 exact⟨μ,S,[],u,S',hr,.nil,e,kk⟩
theorem Dh (S:Sc M X k N ns) (ho:PE X a (tM M.K ma)) (ha:PA X (e::es) (tMA M.K mas)) (hbase:autoParam (attributeBase a "append" X.env (eval a X.env)=eval a X.env) au1._auto_1)
  (hfew:autoParam (((backTo pos (starEach (e::es) X.env)).all (fun x => !x.1)&&(backToKw pos (keywordEach [] X.env)).all (fun x=>x.1.isSome)
   && decide ((e::es).length+([]:List Keyword).length+(if ([]:List Keyword).isEmpty then 0 else 1) < 30))=true) au1._auto_1)
  (hline:autoParam ((p1.endLine == pos.line)=true) au1._auto_1) (hs:autoParam (starEach (e::es) X.env=(false,eval e X.env)::starEach es X.env) au1._auto_1) (hpl:autoParam ((backTo pos (starEach es X.env)).any (·.1)=false) au1._auto_1) :
  PE X (.Call (.Attribute a "append" p1) (e::es) [] pos) (tM M.K (mML dn ma mas)):=by
 exact PE.con (BW ig PySem.F.slot_list_append PySem.F.type_list_append Bq ho ha hbase hfew hline hs hpl) fun _ _ _ h=>S.hK▸IW Aw h
theorem GH (S:Sc M X k N ns) (ho:PE X a (tM M.K ma)) (ha:PA X (e::es) (tMA M.K mas)) (hbase:autoParam (attributeBase a "pop" X.env (eval a X.env)=eval a X.env) au1._auto_1)
  (hfew:autoParam (((backTo pos (starEach (e::es) X.env)).all (fun x => !x.1)&&(backToKw pos (keywordEach [] X.env)).all (fun x=>x.1.isSome)
   && decide ((e::es).length+([]:List Keyword).length+(if ([]:List Keyword).isEmpty then 0 else 1) < 30))=true) au1._auto_1)
  (hline:autoParam ((p1.endLine == pos.line)=true) au1._auto_1) (hs:autoParam (starEach (e::es) X.env=(false,eval e X.env)::starEach es X.env) au1._auto_1) (hpl:autoParam ((backTo pos (starEach es X.env)).any (·.1)=false) au1._auto_1) :
  PE X (.Call (.Attribute a "pop" p1) (e::es) [] pos) (tM M.K (mML md ma mas)):=by
 exact PE.con (BW ig Ag Ah B0 ho ha hbase hfew hline hs hpl) fun _ _ _ h=>S.hK▸IW Ea h
theorem KQ {tg:Expr} (S:Sc M X k N ns) (hg:eO ns "range"=true) (hm:M.mg "range"=none) (ha:PA X [a] (tMA M.K mas)) (hs:autoParam (starEach [a] X.env = [(false,eval a X.env)]) au1._auto_1):PI X tg (.Call (.Name "range" p1) [a] [] pos) (wu (tMA M.K mas)):=
 Ba (S.gl hg) (by rw [S.hm];exact hm) ha hs
theorem LW {tg:Expr} (S:Sc M X k N ns) (hg:eO ns "range"=true) (hm:M.mg "range"=none) (ha:PA X [a,b] (tMA M.K mas)) (hs:autoParam (starEach [a,b] X.env = [(false,eval a X.env),(false,eval b X.env)]) au1._auto_1) (hs2:autoParam (starEach [b] X.env = [(false,eval b X.env)]) au1._auto_1):PI X tg (.Call (.Name "range" p1) [a,b] [] pos) (xG (tMA M.K mas)):=
 Aq (S.gl hg) (by rw [S.hm];exact hm) ha hs hs2
theorem Nx {tg:Expr} (S:Sc M X k N ns) (ha:PE X a (tM M.K ma)):PI X tg a (fun σ H R=>xM M.K (tM M.K ma) σ H R\/CF M.K (tM M.K ma) σ H R):=by
 have h:=PI.or (EV (tg:=tg) ha) (JV ha)
 rw [S.hK] at h
 exact h
noncomputable def uS (N N':List Str) (ns names:List (Str×NameKind)) (xs:List Str):Bool:=
 decide ((names.map (·.1)).Nodup)&&names.all (fun y=>if y.2 == .free then (match ns.lookup y.1 with | some .cell=>true | some .free=>true | _=>false) else true)&&xs.all (qL names)&&decide N'.Nodup &&
 (N'.length == N.length+xs.length)&&((ar xs.length).all fun j=>N'[N.length+j]? == xs[j]?)&&(ar N.length).all fun i=>match N'[i]? with
  | none=>true
  | some y=>if sP names y then N[i]? == some y&&names.lookup y == some .free else true
noncomputable def mK (N N':List Str) (ns names:List (Str×NameKind)) (x:Str):Bool:=uS N N' ns names [x]
theorem yH {N':List Str}{scope:Scope}{xs:List Str} (S:Sc M X k N ns) (hk:scope.kind = .function) (h:uS N N' ns scope.names xs=true):iX X N' scope xs:=by
 unfold uS at h
 simp only [aB] at h
 obtain⟨⟨⟨⟨⟨⟨h1,h2⟩,h3⟩,h4⟩,h5⟩,h6⟩,h7⟩:=h
 refine⟨hk,of_decide_eq_true h1,fun y hy e => ?_,fun x hx => ?_,of_decide_eq_true h4,?_,fun j x hj => ?_,fun i y hi e hv => ?_⟩
 ·have:=bC.mp h2 y hy
  rw [if_pos (by rw [e];rfl)] at this
  split at this
  ·rename_i q;exact .inl (S.cel y.1 q).1
  ·rename_i q;exact S.fre y.1 q
  ·cases this
 ·have h3:=bC.mp h3 x hx
  unfold qL at h3
  split at h3
  ·rename_i q;exact .inl q
  ·rename_i q;exact .inr q
  ·cases h3
 ·rw [S.hN];exact eq_of_beq h5
 ·have hl:=(ag.mp hj).1
  have:=bC.mp h6 j (bb.mpr hl)
  rw [S.hN,eq_of_beq this];exact hj
 ·rw [S.hN] at hi ⊢
  have:=bC.mp h7 i (bb.mpr hi)
  rw [e] at this
  simp only at this
  have hvb:sP scope.names y=true:=by
   unfold sP
   rcases hv with q | q | q <;> rw [q]
  rw [if_pos hvb,aB] at this
  exact⟨eq_of_beq this.1,eq_of_beq this.2⟩
theorem tJ {N':List Str}{scope:Scope} (S:Sc M X k N ns) (hk:scope.kind = .function) (h:mK N N' ns scope.names x=true):iX X N' scope [x]:=yH S hk h
theorem uI {N':List Str}{scope:Scope}{xs:List Str} (S:Sc M X k N ns) (C:iX X N' scope xs) (s₂:Shared) (H₂:Hp) (fp:List Addr):Sc M (blk X N' scope s₂ H₂ fp) k N' scope.names where
 hP:=S.hP
 hw:=S.hw
 hK:=S.hK
 hm:=S.hm
 hb:=S.hb
 hN:=rfl
 nd:=C.ndN
 calm:=S.calm
 loc:=fun y h=>lookup_relabel_local h
 cel:=fun y h=>⟨kO h,by show (scope.names.lookup y == some .cell)=true;rw [h];rfl⟩
 fre:=fun y h=>kM h
 glo:=fun y h=>oV h
 room:=S.room
 own:=sf
 cod:=S.cod
theorem Cc {N':List Str}{scope:Scope}{px:Pos}{iter elt:Expr}{ifs:List Expr}{wi:TI}{mi:MI} (S:Sc M X k N ns) (hk:scope.kind = .function) (ok:mK N N' ns scope.names x=true) (hi:PI X (.Name x px) iter wi)
  (ht : ∀ X',Sc M X' k N' scope.names->PTs X' ifs (tMT M.K mt)) (he : ∀ X',Sc M X' k N' scope.names->PE X' elt (tM M.K mc)) (hr : ∀ σ H Q,tM M.K (bR mi mt mc) σ H Q->oa wi (tMT M.K mt) (tM M.K mc) σ H Q)
  (hs:autoParam (∀ x,foldedSetIterable iter X.env x=pure x) au3._auto_1):PE X (.ListComp elt [⟨.Name x px,iter,ifs,0⟩] scope pos) (tM M.K (bR mi mt mc)):=by
 have C:=tJ S hk ok
 exact PE.con (E8 S.calm C hi (fun s₂ H₂ fp=>ht _ (uI S C s₂ H₂ fp)) (fun s₂ H₂ fp=>he _ (uI S C s₂ H₂ fp)) hs) hr
theorem Ke:PTs X [] (tMT M.K cTT):=PTs.con Fh fun σ H Q h=>by
 obtain⟨μ,S,ρ,b,S',hr,er,e,kk⟩:=h
 cases e
 exact kk μ H (Pre.refl _) (bF.refl _) hr
theorem Mz (h:PT X c (tMT M.K mt)):PTs X [c] (tMT M.K mt):=EX h
variable {st:Stmt}{sts:List Stmt}{ms ms':MS}
theorem MD:PSs X [] (tMS M.K bX):=PSs.con FI fun _ _ _ h=>Dm h
theorem L6 (h1:PS X st (tMS M.K ms)) (h2:PSs X sts (tMS M.K ms')):PSs X (st::sts) (tMS M.K (aZ ms ms')):=PSs.con (CW h1 h2) fun _ _ _ h=>M6 h
theorem MZ (h1:PS X st (tMS M.K ms)):PSs X [st] (tMS M.K ms):=FH h1
theorem GZ (S:Sc M X k N ns) (i:Nat) (hi:N[i]? = some x) (ho:qL ns x=true) (he:PE X e (tM M.K ma)) (hs:autoParam (swapsWith e (some (.Name x p1)) pos.line X.env=pure false) au1._auto_1):PS X (.Assign [.Name x p1] e pos) (tMS M.K (bI i ma)):=
 PS.con (HP (by rw [S.hN];exact S.nd) (by rw [S.hN];exact hi) (S.lo ho).1 he hs (S.lo ho).2) fun _ _ _ h=>Hb h
theorem E9 (S:Sc M X k N ns) (ho:PE X a (tM M.K ma)) (hi:PE X b (tM M.K mb)) (he:PE X e (tM M.K mc)) (hs:autoParam (swapsWithSole [.Subscript a b p1] e pos.line X.env=pure false) au1._auto_1) (hw:autoParam (swappedStores [.Subscript a b p1] e X.env=pure none) au1._auto_1)
  (h1:autoParam ((assignEach [.Subscript a b p1] X.env).map (·.2) = [assign (.Subscript a b p1) X.env]) au1._auto_1)
  (hasn:autoParam (∀ v,assign (.Subscript a b p1) X.env v=(do
   let ov <- holding [v] (eval a X.env)
   let iv <- holding [v,ov] (eval b X.env)
   standAt p1
   holding [v,ov,iv] (setItem ov iv v)
   release [v,ov,iv] [])) au3._auto_1):PS X (.Assign [.Subscript a b p1] e pos) (tMS M.K (eF ma mb mc)):=
 PS.con (J8 he (JU ho hi (EM (by have:=S.room.units;omega)) hasn) hs hw h1) fun _ _ _ h=>GF h
theorem Jf (he:PE X e (tM M.K ma)) (hs:autoParam (swapsWith e none pos.line X.env=pure false) au1._auto_1):PS X (.Expr e pos) (tMS M.K (eg ma)):=PS.con (Gb he hs) fun _ _ _ h=>Kj h
theorem Lu (he:PE X e (tM M.K ma)):PS X (.Return (some e) pos) (tMS M.K (bU ma)):=PS.con (JX he) fun _ _ _ h=>Mx h
theorem ND {sts':List Stmt} (hc:PT X c (tMT M.K mt)) (ha:PSs X sts (tMS M.K ms)) (hb:PSs X sts' (tMS M.K ms')):PS X (.If c sts sts' pos) (tMS M.K (sIf mt ms ms')):=PS.con (My hc ha hb) fun _ _ _ h=>NL h
theorem LG {iter:Expr}{wi:TI}{mi:MI} (S:Sc M X k N ns) (i:Nat) (hi:N[i]? = some x) (ho:qL ns x=true) (hit:PI X (.Name x p1) iter wi) (hb:PSs X sts (tMS M.K ms)) (hr : ∀ D σ H,tMS M.K (dF i mi ms) D σ H->uQ wi (i5 i) (tMS M.K ms) D σ H)
  (hs:autoParam (∀ x,foldedSetIterable iter X.env x=pure x) au3._auto_1):PS X (.For (.Name x p1) iter sts [] pos) (tMS M.K (dF i mi ms)):=
 PS.con (CN S.own S.calm hit (zB (by rw [S.hN];exact S.nd) (by rw [S.hN];exact hi) (S.lo ho).1 (S.lo ho).2) hb hs) hr
theorem FU (S:Sc M X k N ns) (hc:PT X c (tMT M.K mt)) (hb:PSs X sts (tMS M.K ms)):PS X (.While c sts [] pos) (tMS M.K (ph mt ms)):=PS.con (BO S.own hc hb) fun _ _ _ h=>Fv h
end
theorem Sc.def {M:Mo}{N ps:List Str}{qual:Str}{scope:Scope}{f:Addr}{cdv:Value}{A:Around}{outer:List Env}{s:Shared}{H:Hp}{E:XK}{k:Nat} (S:bx N ps scope) (hr:kl k (A.deeper (envOfC qual scope s.heap.objs.size f cdv))) (h0 : ∀ c q,M.mkr=some (c,q)->cdv = .ref c/\qual++".<locals>."=q) :
  Sc M (yA CX0 M.P M.w M.K M.mg M.base N qual scope f cdv A outer s H E).nox k N scope.names:=
 ⟨rfl,rfl,rfl,rfl,rfl,rfl,S.nd,rfl,fun _ h=>h,fun _ h=>⟨h,rfl⟩,fun _ h => .inr h,fun _ h=>h,hr,sf,h0⟩
theorem uf {H:Hp}{μ:List Addr}{N:List Str}{us:List U}{vs:List V} (r:RUs H μ us vs):ER H μ (us.map some++aU (N.length - us.length) none) (_L.start N vs):=by
 unfold _L.start
 refine⟨by simp [r.len],fun i u h => ?_⟩
 by_cases hi:i < us.length
 ·rw [aR (by simpa using hi),bg] at h
  cases e:us[i]? with
  | none=>rw [e] at h;cases h
  | some w=>
    rw [e] at h;cases h
    obtain⟨v,hv,rv⟩:=r.get e
    refine⟨v,?_,rv⟩
    rw [aR (by simpa [<- r.len] using hi),bg,hv];rfl
 ·rw [aA (by simpa using hi)] at h
  rw [iG] at h
  split at h <;> cases h
theorem Cu {M:Mo} (h0:M.mkr=none) {x qual:Str}{st:Stmt}{f:Addr}{fd:FuncData}{N ps:List Str}{k:Nat}{ms:MS} (F:Fun M.K x qual st f fd) (S:bx N ps (av st))
  (hb : ∀ X,Sc M X k N (av st).names->PSs X (aY st) (tMS M.K ms)):ki M.P M.w M.K M.mg M.base CX0 (k+1) f fd ps (spM M.K (run ps.length N.length ms)):=by
 refine F.ok S (fun vs H Q E h => ?_) fun cdv A outer s H vs Q E hr h=>⟨tMS M.K ms,hb _ (Sc.def S hr fun c q h=>by rw [h0] at h;cases h),?_⟩
 ·obtain⟨μ,S',us,u,S'',hr,rs,e,_⟩:=h
  unfold run at e
  split at e
  ·rename_i hl;rw [<- rs.len];exact hl
  ·cases e
 ·obtain⟨μ,S1,us,u,S2,hr,rs,e,ka⟩:=h
  unfold run at e
  split at e
  ·rename_i hl
   have er:=uf (N:=N) rs
   rw [hl] at er
   split at e
   ·rename_i w ρ' S3 q
    cases e
    exact⟨μ,S1,_,_,hr,er,q,ka⟩
   ·rename_i ρ' S3 q
    cases e
    exact⟨μ,S1,_,_,hr,er,q,fun μ' σ' H' p' k' hr' er'=>ka μ' _ H' p' k' hr' pz⟩
   ·cases e
  ·cases e
end _G
end
section
namespace _G
open PySem PySem.Spec _L
open PyProof.Rows hiding St
mutual
inductive pC (K:ak) (H:Hp):V->PyData->Prop where
 | non:pC K H .non .none
 | bl (b:Bool):pC K H (.bl b) (.bool b)
 | int (i:Int):pC K H (.int i) (.int i)
 | str (x:Str):pC K H (.str x) (.str x)
 | tup {a:Addr}{vs:List V}{ds:List PyData}:SqT K H a vs->kY K H vs ds->pC K H (.ref a) (.tuple ds)
 | lst {a:Addr}{vs:List V}{ds:List PyData}:SqL K H a vs->kY K H vs ds->pC K H (.ref a) (.list ds)
inductive kY (K:ak) (H:Hp):List V->List PyData->Prop where
 | nil:kY K H [] []
 | cons {v:V}{vs:List V}{d:PyData}{ds:List PyData}:pC K H v d->kY K H vs ds->kY K H (v::vs) (d::ds)
end
section
variable {X:Cx}{pins:List (Addr×Obj)}{σ:St}{H:Hp}{s:Shared}
mutual
theorem pC.reads (I:Inv X pins σ H s) : ∀ {v:V}{d:PyData}{w:Value},pC X.K H v d->RelV v w -> ∃ as,Reads s.heap w d as
 | _,_,_,.non,r=>⟨[],by cases (show _=fH from r);exact .none⟩
 | _,_,_,.bl b,r=>⟨[],by cases (show _=xQ b from r);exact .bool b⟩
 | _,_,_,.int i,r=>by
   obtain⟨t,e⟩:=(show ∃ t,_=my i t from r)
   subst e;exact⟨[],.int i t⟩
 | _,_,_,.str x,r=>by
   obtain⟨t,e⟩:=(show ∃ t,_=tu x t from r)
   subst e;exact⟨[],.str x t⟩
 | _,_,_,.tup (a:=a) h rs,r=>by
   cases (show _=bp a from r)
   obtain⟨its,rv,⟨o,e,c,n,dt⟩,_⟩:=I.tuple h
   obtain⟨as,q⟩:=kY.reads I rs rv
   exact⟨as,.tuple e c dt q⟩
 | _,_,_,.lst (a:=a) h rs,r=>by
   cases (show _=bp a from r)
   obtain⟨its,rv,⟨o,n,e,c,dd,dt⟩,_⟩:=I.list h
   obtain⟨as,q⟩:=kY.reads I rs rv
   exact⟨a::as,.list e c dt q⟩
theorem kY.reads (I:Inv X pins σ H s) : ∀ {vs:List V}{ds:List PyData}{ws:List Value},kY X.K H vs ds->cu vs ws -> ∃ as,ReadsAll s.heap ws ds as
 | _,_,_,.nil,r=>by cases r;exact⟨[],.nil⟩
 | _,_,_,.cons h rs,r=>by
   cases r with
   | cons r1 r2=>
     obtain⟨as,q⟩:=pC.reads I h r1
     obtain⟨bs,q'⟩:=kY.reads I rs r2
     exact⟨as++bs,.cons q q'⟩
end
end
theorem oi {α β:Type}{f:α->Option β}{P:α->β->Prop} (hf : ∀ x y,f x=some y->P x y) : ∀ {xs:List α}{ys:List β},dw f xs=some ys->Paired P xs ys
 | [],ys,h=>by cases h;exact .nil
 | x::xs,ys,h=>by
   unfold dw at h
   cases e:f x with
   | none=>rw [e] at h;cases h
   | some y=>
     rw [e] at h
     simp only [ai] at h
     cases e2:dw f xs with
     | none=>rw [e2] at h;cases h
     | some zs=>
       rw [e2] at h;cases h
       exact .cons (hf x y e) (oi hf e2)
theorem qj {f:Nat} : ∀ {us:List U}{ds:List PyData},Paired (fun (_:U) (d:PyData)=>d.canLay0=true/\d.depth<=f) us ds->kS ds=true/\jv ds<=f
 | _,_,.nil=>⟨by simp [kS],by simp [jv]⟩
 | _,_,.cons h t=>by
   obtain⟨a,b⟩:=qj t
   exact⟨by simp [kS,h.1,a],by simp only [jv];exact Nat.max_le.mpr ⟨h.2,b⟩⟩
section
variable {K:KX}{H:Hp}{μ:List Addr}{S:Sto}
theorem qf {f:Nat} (hr:HR K μ S H) (ih : ∀ (u:U) (d:PyData),toD S f u=some d -> ∀ v,RU H μ u v->pC K H v d) : ∀ {us:List U}{ds:List PyData},dw (toD S f) us=some ds -> ∀ {vs:List V},RUs H μ us vs->kY K H vs ds
 | [],ds,h,vs,r=>by cases h;rw [r.nil_inv];exact .nil
 | u::us,ds,h,vs,r=>by
   unfold dw at h
   cases e:toD S f u with
   | none=>rw [e] at h;cases h
   | some y=>
     rw [e] at h
     simp only [ai] at h
     cases e2:dw (toD S f) us with
     | none=>rw [e2] at h;cases h
     | some zs=>
       rw [e2] at h;cases h
       obtain⟨v,r',rfl,a,b⟩:=r.inv
       exact .cons (ih u y e v a) (qf hr ih e2 b)
theorem p8 (hr:HR K μ S H) : ∀ (f:Nat) (u:U) (d:PyData),toD S f u=some d -> ∀ v,RU H μ u v->pC K H v d
 | 0,u,d,h,v,r=>by cases u <;> cases h
 | f+1,.non,d,h,v,r=>by cases h;rw [show v = .non by simpa only [RU] using r];exact .non
 | f+1,.bl b,d,h,v,r=>by cases h;rw [kZ r];exact .bl b
 | f+1,.int i,d,h,v,r=>by cases h;rw [dg r];exact .int i
 | f+1,.str x,d,h,v,r=>by
   unfold toD at h
   split at h
   ·cases h;rw [show v = .str x by simpa only [RU] using r];exact .str x
   ·cases h
 | f+1,.tup us,d,h,v,r=>by
   unfold toD at h
   cases e:dw (toD S f) us with
   | none=>rw [e] at h;cases h
   | some ds=>
     rw [e] at h;cases h
     obtain⟨a,vs,rfl,ha,rs⟩:=jU r
     exact .tup (.inl (.inl ha)) (qf hr (p8 hr f) e rs)
 | f+1,.ref n,d,h,v,r=>by
   unfold toD at h
   cases e0:getL S n with
   | none=>rw [e0] at h;cases h
   | some us=>
     rw [e0] at h
     simp only [ai] at h
     cases e:dw (toD S f) us with
     | none=>rw [e] at h;cases h
     | some ds=>
       rw [e] at h;cases h
       obtain⟨a,rfl,ha⟩:=fO r
       obtain⟨a',vs,ha',hs,rs⟩:=hr.sq e0
       rw [ha] at ha';cases ha'
       exact .lst hs (qf hr (p8 hr f) e rs)
 | f+1,.obj a,d,h,v,r=>by cases h
end
theorem qc (S:Sto) : ∀ (f:Nat) (u:U) (d:PyData),toD S f u=some d->d.canLay0=true/\d.depth<=f
 | 0,u,d,h=>by cases u <;> cases h
 | f+1,.non,d,h=>by cases h;exact⟨by simp [iP],by simp [jS]⟩
 | f+1,.bl b,d,h=>by cases h;exact⟨by simp [iP],by simp [jS]⟩
 | f+1,.int i,d,h=>by cases h;exact⟨by simp [iP],by simp [jS]⟩
 | f+1,.str x,d,h=>by
   unfold toD at h
   split at h
   ·rename_i q;cases h;exact⟨q,by simp [jS]⟩
   ·cases h
 | f+1,.tup us,d,h=>by
   unfold toD at h
   cases e:dw (toD S f) us with
   | none=>rw [e] at h;cases h
   | some ds=>
     rw [e] at h;cases h
     obtain⟨a,b⟩:=qj (oi (fun x y q=>qc S f x y q) e)
     exact⟨by simpa [iP] using a,by simp only [jS];exact Nat.lt_succ_of_le (by assumption)⟩
 | f+1,.ref n,d,h=>by
   unfold toD at h
   cases e0:getL S n with
   | none=>rw [e0] at h;cases h
   | some us=>
     rw [e0] at h
     simp only [ai] at h
     cases e:dw (toD S f) us with
     | none=>rw [e] at h;cases h
     | some ds=>
       rw [e] at h;cases h
       obtain⟨a,b⟩:=qj (oi (fun x y q=>qc S f x y q) e)
       exact⟨by simpa [iP] using a,by simp only [jS];exact Nat.lt_succ_of_le (by assumption)⟩
 | f+1,.obj a,d,h=>by cases h
noncomputable def lg (K:ak) (H:Hp) (v:V) (d:PyData):Prop:=pC K H v d/\d.canLay0=true/\d.depth<=40
noncomputable def Lw (K:ak):R2:=fun x y H Q => ∃ a b,lg K H x a/\lg K H y b/\Q (.bl (eZ a b)) H
noncomputable def Lq (K:ak):R2:=fun x y H Q => ∃ a b,lg K H x a/\lg K H y b/\Q (.bl (!eZ a b)) H
theorem fT {K:ak}{H:Hp}{v:V}{d:PyData} (h:lg K H v d):j9 d=true:=by
 unfold j9
 rw [h.2.1,decide_eq_true (aL h.2.2 (by decide))];rfl
section
variable {X:Cx}
theorem J3 (hu:X.A.units+64 < cLine):OpR X (compareOp .Eq) (Lw X.K):=by
 intro pins s σ H x y v u Q I rx ry h
 obtain⟨a,b,ha,hb,q⟩:=h
 obtain⟨as,r1⟩:=ha.1.reads I rx
 obtain⟨bs,r2⟩:=hb.1.reads I ry
 exact SeqAt.compareEq_shaped r1 r2 (fT ha) (fT hb) hu ⟨.bl _,H,I,rfl,q⟩
theorem J9 (hu:X.A.units+64 < cLine):OpR X (compareOp .NotEq) (Lq X.K):=by
 intro pins s σ H x y v u Q I rx ry h
 obtain⟨a,b,ha,hb,q⟩:=h
 obtain⟨as,r1⟩:=ha.1.reads I rx
 obtain⟨bs,r2⟩:=hb.1.reads I ry
 exact SeqAt.compareNe_shaped r1 r2 (fT ha) (fT hb) hu ⟨.bl _,H,I,rfl,q⟩
end
section
variable {K:KX}{μ:List Addr}{S:Sto}{H:Hp}
theorem rV {u:U}{v:V}{d:PyData} (hr:HR K μ S H) (r:RU H μ u v) (h:toD S 40 u=some d):lg K H v d:=⟨p8 hr 40 u d h v r,qc S 40 u d h⟩
theorem zo {x y:U}{b:Bool} (h:eqU S x y=some b) : ∃ a c,toD S 40 x=some a/\toD S 40 y=some c/\b=eZ a c:=by
 unfold eqU at h
 cases e1:toD S 40 x with
 | none=>rw [e1] at h;cases h
 | some a=>
   rw [e1] at h
   simp only [ai] at h
   cases e2:toD S 40 y with
   | none=>rw [e2] at h;cases h
   | some c=>rw [e2] at h;cases h;exact⟨a,c,rfl,rfl,rfl⟩
theorem Lg:OpU K (Lw K) oEq:=by
 intro μ S H x y vx vy u S' Q hr rx ry e a
 unfold oEq at e
 cases q:eqU S x y with
 | none=>rw [q] at e;cases e
 | some b=>
   rw [q] at e;cases e
   obtain⟨d1,d2,e1,e2,rfl⟩:=zo q
   exact⟨d1,d2,rV hr rx e1,rV hr ry e2,a.now hr jD⟩
theorem Mw:OpU K (Lq K) oNe:=by
 intro μ S H x y vx vy u S' Q hr rx ry e a
 unfold oNe at e
 cases q:eqU S x y with
 | none=>rw [q] at e;cases e
 | some b=>
   rw [q] at e;cases e
   obtain⟨d1,d2,e1,e2,rfl⟩:=zo q
   exact⟨d1,d2,rV hr rx e1,rV hr ry e2,a.now hr jD⟩
end
end _G
end
section
namespace _G
open PySem PySem.Spec _L
open PyProof.Rows hiding St
section
section
variable {K:KX}{σ:St}{H:Hp}{Q:VK}
end
section
variable {M:Mo}{X:Cx}{k:Nat}{N:List Str}{ns:List (Str×NameKind)}{a b c e:Expr}{es:List Expr}{ma mb mc:ME}{mt:MT}{mas:MA}{pos p1 p2:Pos}{x:Str}
inductive vH (M:Mo) (X:Cx):Option Expr->Option ME->Prop where
 | none:vH M X .none .none
 | some {e:Expr}{m:ME}:PE X e (tM M.K m)->vH M X (.some e) (.some m)
end
noncomputable def jX (a b:ME):ME:=fun ρ S=>bnd (a ρ S) fun x S1=>match x with
 | .bl true=>b ρ S1
 | .bl false=>some (.bl false,S1)
 | _=>none
noncomputable def mOr (a b:ME):ME:=fun ρ S=>bnd (a ρ S) fun x S1=>match x with
 | .bl true=>some (.bl true,S1)
 | .bl false=>b ρ S1
 | _=>none
noncomputable def qW:U->Sto->Res U:=fun x S=>match x with
 | .bl b=>some (.bl (!b),S)
 | _=>none
section
variable {K:KX}{σ:St}{H:Hp}{Q:VK}
theorem HV {a b:ME} (h:tM K (jX a b) σ H Q):Hx (tM K a) (tM K b) σ H Q:=by
 obtain⟨μ,S,ρ,u,S',hr,er,e,k⟩:=h
 obtain⟨x,S1,e1,e⟩:=bj e
 refine⟨μ,S,ρ,x,S1,hr,er,e1,fun μ1 vx H1 p1 k1 hr1 rx => ?_⟩
 split at e
 ·exact⟨true,kZ rx,rh ⟨μ1,S1,ρ,u,S',hr1,er.mono k1 p1,e,k.mono p1 k1⟩⟩
 ·cases e
  exact⟨false,kZ rx,qF (k μ1 _ H1 p1 k1 hr1 jD)⟩
 ·cases e
theorem Ko {a b:ME} (h:tM K (mOr a b) σ H Q):KO (tM K a) (tM K b) σ H Q:=by
 obtain⟨μ,S,ρ,u,S',hr,er,e,k⟩:=h
 obtain⟨x,S1,e1,e⟩:=bj e
 refine⟨μ,S,ρ,x,S1,hr,er,e1,fun μ1 vx H1 p1 k1 hr1 rx => ?_⟩
 split at e
 ·cases e
  exact⟨true,kZ rx,rh (k μ1 _ H1 p1 k1 hr1 jD)⟩
 ·exact⟨false,kZ rx,qF ⟨μ1,S1,ρ,u,S',hr1,er.mono k1 p1,e,k.mono p1 k1⟩⟩
 ·cases e
theorem Jb {a:ME} (h:tM K (m1 qW a) σ H Q):G9 (tM K a) σ H Q:=by
 obtain⟨μ,S,ρ,u,S',hr,er,e,k⟩:=h
 obtain⟨x,S1,e1,e⟩:=bj e
 refine⟨μ,S,ρ,x,S1,hr,er,e1,fun μ1 vx H1 p1 k1 hr1 rx => ?_⟩
 unfold qW at e
 split at e
 ·cases e
  exact⟨_,kZ rx,k μ1 _ H1 p1 k1 hr1 jD⟩
 ·cases e
end
section
variable {X:Cx}{a b:Expr}{ta:TA}{p pos:Pos}
noncomputable def Dc (ta:TA):TE:=fun σ H Q=>ta σ H fun vs H1 => ∃ j:Int,vs = [.int j] /\ -(2 ^ 62)<=j/\j < 2 ^ 62 /\ ∀ r,H1 r=none->Q (.ref r) (upd H1 r (.rng 0 j))
noncomputable def He (ta:TA):TE:=fun σ H Q=>ta σ H fun vs H1 => ∃ i j:Int,vs = [.int i,.int j]/\(-(2 ^ 62)<=i/\i < 2 ^ 62 /\ -(2 ^ 62)<=j/\j < 2 ^ 62) /\ ∀ r,H1 r=none->Q (.ref r) (upd H1 r (.rng i j))
theorem xm {pins:List (Addr×Obj)}{σ:St}{H:Hp}{s:Shared}{Q:VK}{lo hi:Int}{t u v:Tok}{tk:Nat} (I:Inv X pins σ H s) (q : ∀ r,H r=none->Q (.ref r) (upd H r (.rng lo hi))) :
  EP X pins σ Q (.ref s.heap.objs.size) { s with heap:=s.heap.push { cls := .type "range",data := .fields #[.int lo t,.int hi u,.int 1 v] },toks:=tk }:=by
 refine⟨.ref s.heap.objs.size,_,I.laid (t':=tk) (o := .rng lo hi) (fun b ob q=>ah _ q) (aj _) ?_,rfl,q _ (I.hok.fresh (aj _))⟩
 exact⟨t,u,v,ax _ rfl⟩
theorem z8 (hg:Gl X "range") (hm:X.mg "range"=none) (ha:PA X [a] ta) (hs:autoParam (starEach [a] X.env = [(false,eval a X.env)]) au1._auto_1):PE X (.Call (.Name "range" p) [a] [] pos) (Dc ta):=by
 intro pins s σ H Q I h
 refine Call_ (je I hg hm boot_range (cb (thn (ha pos pins s σ H _ I h) fun us s1 ⟨vs,H1,I1,r1,q1⟩ => ?_) (by rw [hs];rfl) rfl))
 obtain⟨j,e,q1,q2,q⟩:=q1
 subst e
 cases r1 with
 | cons r rr=>
   cases rr
   obtain⟨t,rfl⟩:=r
   exact call_range_1 (xm I1 q)
theorem Fd (hg:Gl X "range") (hm:X.mg "range"=none) (ha:PA X [a,b] ta) (hs:autoParam (starEach [a,b] X.env = [(false,eval a X.env),(false,eval b X.env)]) au1._auto_1) (hs2:autoParam (starEach [b] X.env = [(false,eval b X.env)]) au1._auto_1) :
  PE X (.Call (.Name "range" p) [a,b] [] pos) (He ta):=by
 intro pins s σ H Q I h
 refine Call_ (je I hg hm boot_range (cb (thn (ha pos pins s σ H _ I h) fun us s1 ⟨vs,H1,I1,r1,q1⟩ => ?_) (by rw [hs,hs2]) (by rw [hs2];rfl)))
 obtain⟨i,j,e,⟨q1,q2,q3,q4⟩,q⟩:=q1
 subst e
 cases r1 with
 | cons r rr=>
   cases rr with
   | cons r' rr=>
     cases rr
     obtain⟨t,rfl⟩:=r
     obtain⟨t',rfl⟩:=r'
     exact call_range_2 (xm I1 q)
theorem vm : ∀ {xs:List V}{us:List Value},xs.length=us.length->(∀ (i:Nat) (x:V) (u:Value),xs[i]? = some x->us[i]? = some u->RelV x u)->cu xs us
 | [],[],_,_ => .nil
 | [],_::_,h,_=>by simp at h
 | _::_,[],h,_=>by simp at h
 | x::xs,u::us,h,k => .cons (k 0 x u rfl rfl) (vm (by simpa using h) fun i y w h1 h2=>k (i+1) y w (by simpa using h1) (by simpa using h2))
noncomputable def lx (i:Int) (n:Nat):List V:=(ar n).map fun (k:Nat) => .int (i+k)
theorem nk (hc:X.calm=true):gQ X (.type "list") (fun xs H Q => ∃ r lo hi,xs = [.ref r]/\H r=some (.rng lo hi)/\(-(2 ^ 62)<=lo/\lo < 2 ^ 62 /\ -(2 ^ 62)<=hi/\hi < 2 ^ 62)/\(hi - lo).toNat<=sizeLine /\ ∀ l,H l=none->Q (.ref l) (upd H l (.lst (lx lo (hi - lo).toNat)))):=by
 intro pins s σ H xs us Q I rs h
 obtain⟨r,lo,hi,rfl,hr,⟨h1,h2,h3,h4⟩,hz,q⟩:=h
 cases rs with
 | cons r1 rr=>
   cases rr
   cases (show _=bp r from r1)
   obtain⟨t,u,v,e⟩:=I.hok r _ hr
   have hn:bH lo hi 1=((hi - lo).toNat:Nat):=by rw [rangeSize_one];split <;> omega
   refine call_list_range (n:=(hi - lo).toNat) (I.ok.hd hc) e (small_one h1 h2 h3 h4) hn (by rw [sizeLine_eq] at hz;exact hz) fun h' tk acc c' hk hl hacc => ?_
   obtain⟨hsz,hit⟩:=hacc
   refine⟨.ref s.heap.objs.size,_,I.laid (t':=tk) (o := .lst (lx lo (hi - lo).toNat)) hk (aj _) ?_,rfl,q _ (I.hok.fresh (aj _))⟩
   refine⟨by rw [lx,aw,ba];exact hz,acc.toList,c',?_,by simpa using hl⟩
   refine vm (by rw [lx,aw,ba,dG,hsz]) fun i x w h5 h6 => ?_
   have hlt:i < (hi - lo).toNat:=by
    have:=(ag.mp h5).1
    rwa [lx,aw,ba] at this
   have hx:(lx lo (hi - lo).toNat)[i]? = some (.int (lo+i)):=by simp [lx,hlt]
   rw [hx] at h5;cases h5
   obtain⟨t',e'⟩:=hit i w (by simpa using h6)
   exact⟨t',by rw [e'];simp⟩
end
end
end _G
end
section
namespace _G
open PySem PySem.Spec _L
open PyProof.Rows hiding St
section
theorem zl {H:Hp}{μ:List Addr} (i:Int) (n:Nat):RUs H μ (bo i n) (lx i n):=by
 unfold bo lx
 induction n with
 | zero=>simpa using RUs.nil
 | succ n ih=>rw [nY,d0,d0];exact ih.append (.cons eI .nil)
section
variable {K:KX}{σ:St}{H:Hp}{Q:VK}
noncomputable def rLR:List V->Hp->VK->Prop:=fun xs H Q => ∃ r lo hi,xs = [.ref r]/\H r=some (.rng lo hi)/\(-(2 ^ 62)<=lo/\lo < 2 ^ 62 /\ -(2 ^ 62)<=hi/\hi < 2 ^ 62)/\(hi - lo).toNat<=sizeLine /\ ∀ l,H l=none->Q (.ref l) (upd H l (.lst (lx lo (hi - lo).toNat)))
theorem HR.rng {μ:List Addr}{S:Sto}{p:Addr}{i j:Int} (h:HR K μ S H) (hp:H p=none):HR K μ S (upd H p (.rng i j)):=by
 have kp:bF H (upd H p (.rng i j)):=bF.new hp
 refine⟨h.len,h.inj,fun m c b q1 q2=>(h.cell m c b q1 q2).mono kp (Pre.refl _) (fun hc => ?_) fun o u hf => ?_,h.ext.upd kp (Pre.refl _) fun o1 q=>by rw [hp] at q;cases q⟩
 ·obtain⟨o,e,_⟩:=(h.cell m _ b q1 q2).has hc
  exact bE (bz e hp)
 ·rw [bE (bz hf hp)];exact hf
theorem zp {μ:List Addr}{S1:Sto}{i j:Int}{r:Addr} (hr1:HR K μ S1 H) (ho:okR i/\okR j) (hz:(bo i (j - i).toNat).length<=big) (k:Aft K μ H (.ref S1.length) (S1 ++ [.lst (bo i (j - i).toNat)]) Q) (hrn:H r=none):rLR [.ref r] (upd H r (.rng i j)) Q:=by
 refine⟨r,i,j,rfl,cJ,⟨ho.1.1,ho.1.2,ho.2.1,ho.2.2⟩,?_,fun l hl => ?_⟩
 ·unfold bo big at hz;rw [aw,ba] at hz;rw [sizeLine_eq];exact hz
 ·exact jP (k.mono (Pre.refl _) (bF.new hrn)) (hr1.rng hrn) (zl _ _) hl
theorem Cf {a:MA} (h:tM K (hZ (iR1 a)) σ H Q):tCB rLR (rK (Dc (tMA K a)) yv) σ H Q:=by
 obtain⟨μ,S,ρ,u,S',hr,er,e,k⟩:=h
 obtain⟨src,S1,e1,e⟩:=bj e
 obtain⟨xs,S2,e2,e1⟩:=bj e1
 refine⟨μ,S,ρ,xs,S2,hr,er,e2,fun μ1 vs H1 p1 k1 hr1 rs => ?_⟩
 split at e1
 ·rename_i j
  split at e1
  ·rename_i hj
   cases e1
   simp only at e
   split at e
   ·rename_i hz
    cases e
    obtain⟨v,r,rfl,rx,rn⟩:=rs.inv
    rw [rn.nil_inv,dg rx]
    refine⟨j,rfl,hj.1,hj.2,fun r hrn => ?_⟩
    have ez:(j - 0).toNat=j.toNat:=by simp
    exact zp (i:=0) hr1 ⟨⟨by decide,by decide⟩,hj⟩ (by rw [ez];exact hz) (by rw [ez];exact k.mono p1 k1) hrn
   ·cases e
  ·cases e1
 ·cases e1
theorem Ca {a:MA} (h:tM K (hZ (iR2 a)) σ H Q):tCB rLR (rK (He (tMA K a)) yv) σ H Q:=by
 obtain⟨μ,S,ρ,u,S',hr,er,e,k⟩:=h
 obtain⟨src,S1,e1,e⟩:=bj e
 obtain⟨xs,S2,e2,e1⟩:=bj e1
 refine⟨μ,S,ρ,xs,S2,hr,er,e2,fun μ1 vs H1 p1 k1 hr1 rs => ?_⟩
 split at e1
 ·rename_i i j
  split at e1
  ·rename_i hj
   cases e1
   simp only at e
   split at e
   ·rename_i hz
    cases e
    obtain⟨v,r,rfl,rx,rs⟩:=rs.inv
    obtain⟨w,r,rfl,ry,rn⟩:=rs.inv
    rw [rn.nil_inv,dg rx,dg ry]
    exact⟨i,j,rfl,⟨hj.1.1,hj.1.2,hj.2.1,hj.2.2⟩,fun r hrn=>zp hr1 hj hz (k.mono p1 k1) hrn⟩
   ·cases e
  ·cases e1
 ·cases e1
end
noncomputable def oy:List String := ["NoneType","bool","int","str","list","tuple","dict"]
noncomputable def kG:List String := ["bool","int","str","list","tuple","dict"]
theorem Iu (K:ak) {t T:String} (ht:t∈oy) (hT:T∈kG):PySem.W.kitOne K (.type t) (.type T)=some (EJ t T):=by
 simp only [oy,kG,aJ,mV,or_false] at ht hT
 rcases ht with rfl | rfl | rfl | rfl | rfl | rfl | rfl <;> rcases hT with rfl | rfl | rfl | rfl | rfl | rfl <;> first | rfl | kernel_rfl
theorem DV {X:Cx}:gQ X (.builtin "isinstance") (fun xs H Q => ∃ x t T,xs = [x,.ty T]/\nO X.K H x (.type t)/\t∈oy/\T∈kG/\Q (.bl (EJ t T)) H):=by
 intro pins s σ H xs us Q I rs h
 obtain⟨x,t,T,rfl,ty,ht,hT,q⟩:=h
 cases rs with
 | cons r1 rr=>
   cases rr with
   | cons r2 rr=>
     cases rr
     cases (show _=m8 T from r2)
     exact Al I r1 ty (Iu X.K ht hT) fun tk=>⟨.bl _,H,I.tok _,rfl,q⟩
theorem KP {K:KX}{μ:List Addr}{S:Sto}{H:Hp}{x:U}{v:V}{t:String} (hr:HR K μ S H) (r:RU H μ x v) (e:tyU S x=some t):nO K H v (.type t)/\t∈oy:=by
 unfold tyU at e
 split at e
 ·cases e;rw [show v = .non by simpa only [RU] using r];exact⟨.non,by decide⟩
 ·cases e;rw [kZ r];exact⟨.bl _,by decide⟩
 ·cases e;rw [dg r];exact⟨.int _,by decide⟩
 ·cases e;rw [show v = .str _ by simpa only [RU] using r];exact⟨.str _,by decide⟩
 ·cases e;obtain⟨a,vs,rfl,ha,_⟩:=jU r;exact⟨.tup ha,by decide⟩
 ·split at e
  ·rename_i q
   cases e
   obtain⟨a,rfl,ha⟩:=fO r
   obtain⟨vs,e1,_⟩:=hr.cell _ _ a q ha
   exact⟨.lst e1,by decide⟩
  ·rename_i q
   cases e
   obtain⟨a,rfl,ha⟩:=fO r
   obtain⟨vs,e1,_⟩:=hr.cell _ _ a q ha
   exact⟨.dK e1,by decide⟩
  ·cases e
 ·cases e
theorem Ms {K:KX}{σ:St}{H:Hp}{Q:VK}{a:ME}{T:String} (hT:T∈kG) (h:tM K (m1 (lU T) a) σ H Q) :
  tCB (fun xs H Q => ∃ x t T,xs = [x,.ty T]/\nO K H x (.type t)/\t∈oy/\T∈kG/\Q (.bl (EJ t T)) H) (rK (tM K a) (rK (tC (.ty T)) yv)) σ H Q:=by
 obtain⟨μ,S,ρ,u,S',hr,er,e,k⟩:=h
 obtain⟨x,S1,e1,e⟩:=bj e
 refine⟨μ,S,ρ,x,S1,hr,er,e1,fun μ1 vx H1 p1 k1 hr1 rx => ?_⟩
 unfold lU at e
 cases q:tyU S1 x with
 | none=>rw [q] at e;cases e
 | some t=>
   rw [q] at e;cases e
   obtain⟨ty,ht⟩:=KP hr1 rx q
   exact⟨vx,t,T,rfl,ty,ht,hT,k μ1 _ H1 p1 k1 hr1 jD⟩
noncomputable def Da (S:Sto) (x:U) (us:List U):Option Nat:=(dw (toD S 39) us).bind fun ds=>(toD S 40 x).bind fun d=>ds.findIdx? fun y=>eZ y d
noncomputable def iI:List U->List U->Sto->Res U:=fun us xs S=>match xs with
 | [x]=>(Da S x us).map fun k=>(.int k,S)
 | _=>none
noncomputable def I0 (K:ak) (to:TE) (t:TA):TE:=fun σ H Q=>to σ H fun x H1=>(∃ p ys,x = .ref p/\H1 p=some (.tup ys))/\t σ H1 fun xs H2 => ∃ p ys v ds d j,x = .ref p/\xs = [v]/\H2 p=some (.tup ys) /\
 kY K H2 ys ds/\kS ds=true/\jv ds<=40/\lg K H2 v d/\ds.findIdx? (fun y=>eZ y d)=some j/\Q (.int j) H2
theorem DQ {X:Cx}{o e:Expr}{es:List Expr}{to:TE}{t:TA}{apos cpos:Pos} (hu:X.A.units+64 < cLine) (ho:PE X o to) (ha:PA X (e::es) t)
  (hbase:autoParam (attributeBase o "index" X.env (eval o X.env)=eval o X.env) au1._auto_1)
  (hfew:autoParam (((backTo cpos (starEach (e::es) X.env)).all (fun x => !x.1)&&(backToKw cpos (keywordEach [] X.env)).all (fun x=>x.1.isSome)
   && decide ((e::es).length+([]:List Keyword).length+(if ([]:List Keyword).isEmpty then 0 else 1) < 30))=true) au1._auto_1)
  (hline:autoParam ((apos.endLine == cpos.line)=true) au1._auto_1) (hs:autoParam (starEach (e::es) X.env=(false,eval e X.env)::starEach es X.env) au1._auto_1) (hplain:autoParam ((backTo cpos (starEach es X.env)).any (·.1)=false) au1._auto_1) :
  PE X (.Call (.Attribute o "index" apos) (e::es) [] cpos) (I0 X.K to t):=by
 intro pins s σ H Q I h
 refine wpAny_Call_method_late hbase hfew hline rfl (thn (ho pins s σ H _ I h) fun v s1 ⟨x,H1,I1,r1,⟨p,ys,hx,hp⟩,q1⟩ => ?_)
 subst hx
 cases (show v=bp p from r1)
 obtain⟨_,its,rv,⟨o1,e1,c1,n1,d1⟩,o2,e2,c2⟩:=I1.hok p _ hp
 refine⟨"tuple",_,PySem.F.plainAttrs_tuple,xV,PySem.F.type_tuple_index,⟨o1,e1,c1⟩,fun a ea=>by cases ea;exact⟨o2,e2,c2⟩,?_⟩
 have hA:=ha cpos pins s1 σ H1 _ I1 q1
 rw [hs] at hA ⊢
 refine m9 (by show (false||(backTo cpos (starEach es X.env)).any (·.1))=false;rw [hplain] <;> rfl) (oY ?_)
 refine thn hA fun us s2 ⟨vs,H2,I2,r2,q2⟩ => ?_
 obtain⟨p',ys',v',ds,d,j,hx,hxs,hp',rd,hl,hdp,hd,hj,q⟩:=q2
 cases hx
 subst hxs
 cases r2 with
 | cons ra rr=>
   cases rr
   obtain⟨_,its2,rv2,⟨⟨cls,dd,data,sl⟩,e3,c3,n3,d3⟩,_⟩:=I2.hok p _ hp'
   simp only at c3 d3
   subst c3 d3
   obtain⟨as,rds⟩:=rd.reads I2 rv2
   obtain⟨bs,rdv⟩:=hd.1.reads I2 ra
   have hlen:its2.length=ds.length:=SeqAt.ReadsAll.length _ _ _ rds
   have hjl:j < ds.length:=by
    obtain⟨h1,_⟩:=dC.mp hj
    exact h1
   have hmap:=SeqAt.readsAll_map ds _ _ hl rds
   have hget : ∀ (m:Nat) (h1:m < its2.length) (h2:m < ds.length),SeqAt.readOf s2.heap its2[m]=ds[m]:=fun m h1 h2=>by
    have:=congrArg (fun l=>l[m]?) hmap
    simp [h1,h2] at this
    exact this
   have heq:=SeqAt.items_eqAt (A:=X.A) (vs:=its2.toArray) (by simpa using rds) rdv hl hd.2.1 (by have:=Nat.min_le_left (jv ds) d.depth;omega)
   obtain⟨h1,h2,h3⟩:=dC.mp hj
   refine call_meets xV ⟨_,e3,rfl⟩ PySem.F.entry_tuple_index (PySem.F.args_tuple_index_2 _ _)
    (sH p its2.toArray n3 dd sl _ (fun y=>eZ (SeqAt.readOf s2.heap y) d) j (by rw [aF];omega) ?_ ?_) ⟨e3,heq,?_⟩
   ·have:=hget j (by omega) hjl
    simp only [EE,this];exact h2
   ·intro m hm hmj
    rw [aF] at hm
    have:=hget m hm (by exact bK (by assumption) (by assumption))
    simp only [EE,this]
    simpa using h3 m hmj
   ·exact⟨.int j,H2,I2.tok _,⟨_,rfl⟩,q⟩
theorem Fp {K:KX}{σ:St}{H:Hp}{Q:VK}{o:ME}{a:MA} (h:tM K (mMT iI o a) σ H Q):I0 K (tM K o) (tMA K a) σ H Q:=by
 obtain⟨μ,S,ρ,u,S',hr,er,e,k⟩:=h
 obtain⟨x,S1,e1,e⟩:=bj e
 refine⟨μ,S,ρ,x,S1,hr,er,e1,fun μ1 vx H1 p1 k1 hr1 rx => ?_⟩
 cases x with
 | tup us=>
   obtain⟨xs,S2,e2,e⟩:=bj e
   obtain⟨p,vs,rfl,hp,rs⟩:=jU rx
   refine⟨⟨p,vs,rfl,hp⟩,μ1,S1,ρ,xs,S2,hr1,er.mono k1 p1,e2,fun μ2 ws H2 p2 k2 hr2 rws => ?_⟩
   unfold iI at e
   split at e
   ·rename_i x
    obtain⟨v,r,rfl,rx',rn⟩:=rws.inv
    rw [rn.nil_inv]
    cases q:Da S2 x us with
    | none=>rw [q] at e;cases e
    | some j=>
      rw [q] at e;cases e
      unfold Da at q
      cases q1:dw (toD S' 39) us with
      | none=>rw [q1] at q;cases q
      | some ds=>
        rw [q1] at q
        simp only [ai] at q
        cases q2:toD S' 40 x with
        | none=>rw [q2] at q;cases q
        | some d=>
          rw [q2] at q
          simp only [ai] at q
          obtain⟨l1,l2⟩:=qj (oi (fun x y z=>qc S' 39 x y z) q1)
          exact⟨p,vs,v,ds,d,j,rfl,rfl,k2 p vs hp,qf hr2 (p8 hr2 39) q1 (RUs.mono k2 p2 _ _ rs),l1,by exact aL (by assumption) (by decide),rV hr2 rx' q2,q,k μ2 _ H2 (p1.trans p2) (k1.trans k2) hr2 eI⟩
   ·cases e
 | _=>cases e
end
end _G
end
section
namespace _G
open PySem PySem.Spec _L
open PyProof.Rows hiding St
section
theorem zZ {h h':Heap}{o:Obj} (hk : ∀ b x,b ∉ [h.objs.size]->(h.push o).get? b=some x->h'.get? b=some x) : ∀ b x,h.get? b=some x->h'.get? b=some x:=
 fun b x e=>hk b x (fun hm=>by rw [bN.mp hm] at e;exact bL _ (aC e)) (ah _ e)
theorem zd (bs:List Bool):((ar bs.length).all fun i=>(bs[i]?).getD true)=bs.all id:=by
 rw [Bool.eq_iff_iff,bC,bC]
 constructor
 ·intro h b hb
  obtain⟨i,hi,rfl⟩:=j7 hb
  have:=h i (bb.mpr hi)
  simpa [ay hi] using this
 ·intro h i hi
  have hi':=bb.mp hi
  simp only [ay hi',i7]
  exact h _ (cY hi')
theorem yI (bs:List Bool):((ar bs.length).any fun i=>(bs[i]?).getD false)=bs.any id:=by
 rw [Bool.eq_iff_iff,ck,ck]
 constructor
 ·rintro ⟨i,hi,e⟩
  have hi':=bb.mp hi
  simp only [ay hi',i7] at e
  exact⟨_,cY hi',e⟩
 ·rintro ⟨b,hb,e⟩
  obtain⟨i,hi,rfl⟩:=j7 hb
  exact⟨i,bb.mpr hi,by simp only [ay hi,i7];exact e⟩
theorem uc {bs:List Bool} : ∀ {us:List Value}{i:Nat}{v:Value},cu (bs.map V.bl) us->us[i]? = some v -> ∃ b,bs[i]? = some b/\v = .bool b:=fun {us i v} r h=>by
 have hl:=r.length
 rw [aw] at hl
 have hi:i < bs.length:=by rw [hl];exact (ag.mp h).1
 obtain⟨u,hu,ru⟩:=r.get (i:=i) (x := .bl bs[i]) (by simp [hi])
 rw [h] at hu;cases hu
 exact⟨bs[i],by simp [hi],ru⟩
section
variable {X:Cx}
theorem Ao (hc:X.calm=true):gQ X (.builtin "all") (fun xs H Q => ∃ (p:Addr) (bs:List Bool),xs = [.ref p]/\SqL X.K H p (bs.map V.bl)/\Q (.bl (bs.all id)) H):=by
 intro pins s σ H xs us Q I rs h
 obtain⟨p,bs,rfl,hS,q⟩:=h
 cases rs with
 | cons r1 rr=>
   cases rr
   cases (show _=bp p from r1)
   obtain⟨its,rv,pl,_⟩:=I.list hS
   have hl:=pl.isList
   have hlt:p < s.heap.objs.size:=by obtain⟨_,e,_⟩:=hl;exact aC e
   refine call_all_walk (ny hl ?_)
   refine⟨s.heap.objs.size,[s.heap.objs.size,p],[s.heap.objs.size],its.toArray.size,_,_,fun i=>(bs[i]?).getD true,rfl,Walks.list (A:=X.A.in1) (I.ok.hd hc) _ p (aG hlt) its.toArray,
    ⟨⟨_,ax _ rfl,rfl,rfl⟩,hl.push _⟩,fun i v s' Q' E' hP hQ => ?_,fun h' tk hk => ?_⟩
   ·obtain⟨b,e,rfl⟩:=uc rv (by simpa using hP)
    simp only [e,i7] at hQ
    exact dr hQ
   ·have e:((ar its.toArray.size).all fun i=>(bs[i]?).getD true)=bs.all id:=by
     rw [aF,<- rv.length,aw];exact zd bs
    rw [e]
    exact⟨.bl _,H,I.kept (zZ hk),rfl,q⟩
theorem A1 (hc:X.calm=true):gQ X (.builtin "any") (fun xs H Q => ∃ (p:Addr) (bs:List Bool),xs = [.ref p]/\SqL X.K H p (bs.map V.bl)/\Q (.bl (bs.any id)) H):=by
 intro pins s σ H xs us Q I rs h
 obtain⟨p,bs,rfl,hS,q⟩:=h
 cases rs with
 | cons r1 rr=>
   cases rr
   cases (show _=bp p from r1)
   obtain⟨its,rv,pl,_⟩:=I.list hS
   have hl:=pl.isList
   have hlt:p < s.heap.objs.size:=by obtain⟨_,e,_⟩:=hl;exact aC e
   refine call_any_walk (ny hl ?_)
   refine⟨s.heap.objs.size,[s.heap.objs.size,p],[s.heap.objs.size],its.toArray.size,_,_,fun i=>(bs[i]?).getD false,rfl,Walks.list (A:=X.A.in1) (I.ok.hd hc) _ p (aG hlt) its.toArray,
    ⟨⟨_,ax _ rfl,rfl,rfl⟩,hl.push _⟩,fun i v s' Q' E' hP hQ => ?_,fun h' tk hk => ?_⟩
   ·obtain⟨b,e,rfl⟩:=uc rv (by simpa using hP)
    simp only [e,i7] at hQ
    exact dr hQ
   ·have e:((ar its.toArray.size).any fun i=>(bs[i]?).getD false)=bs.any id:=by
     rw [aF,<- rv.length,aw];exact yI bs
    rw [e]
    exact⟨.bl _,H,I.kept (zZ hk),rfl,q⟩
end
noncomputable def iE:U->Option Bool
 | .bl b=>some b
 | _=>none
noncomputable def lr:MF:=fun us S=>match us with
 | [.ref n]=>(getL S n).bind fun xs=>(dw iE xs).map fun bs=>(.bl (bs.all id),S)
 | _=>none
noncomputable def yN:MF:=fun us S=>match us with
 | [.ref n]=>(getL S n).bind fun xs=>(dw iE xs).map fun bs=>(.bl (bs.any id),S)
 | _=>none
theorem qH {H:Hp}{μ:List Addr} : ∀ {us:List U}{vs:List V}{bs:List Bool},RUs H μ us vs->dw iE us=some bs->vs=bs.map V.bl
 | [],vs,bs,r,e=>by cases e;rw [r.nil_inv];rfl
 | u::us,vs,bs,r,e=>by
   obtain⟨v,r',rfl,a,b⟩:=r.inv
   unfold dw at e
   cases u with
   | bl x=>
     simp only [iE,ai] at e
     cases q:dw iE us with
     | none=>rw [q] at e;cases e
     | some cs=>
       rw [q] at e;cases e
       rw [kZ a,qH b q];rfl
   | _=>cases e
section
variable {K:KX}
theorem JK:nu K (fun xs H Q => ∃ (p:Addr) (bs:List Bool),xs = [.ref p]/\SqL K H p (bs.map V.bl)/\Q (.bl (bs.all id)) H) lr:=by
 intro μ S H us vs u S' Q hr rs e a
 unfold lr at e
 split at e
 ·rename_i n
  obtain⟨v,r,rfl,rx,rn⟩:=rs.inv
  rw [rn.nil_inv]
  cases q:getL S n with
  | none=>rw [q] at e;cases e
  | some xs=>
    rw [q] at e
    simp only [ai] at e
    cases q2:dw iE xs with
    | none=>rw [q2] at e;cases e
    | some bs=>
      rw [q2] at e;cases e
      obtain⟨p,rfl,hp⟩:=fO rx
      obtain⟨p',ys,hp',hs,r'⟩:=hr.sq q
      rw [hp] at hp';cases hp'
      rw [qH r' q2] at hs
      exact⟨p,bs,rfl,hs,a.now hr jD⟩
 ·cases e
theorem HU:nu K (fun xs H Q => ∃ (p:Addr) (bs:List Bool),xs = [.ref p]/\SqL K H p (bs.map V.bl)/\Q (.bl (bs.any id)) H) yN:=by
 intro μ S H us vs u S' Q hr rs e a
 unfold yN at e
 split at e
 ·rename_i n
  obtain⟨v,r,rfl,rx,rn⟩:=rs.inv
  rw [rn.nil_inv]
  cases q:getL S n with
  | none=>rw [q] at e;cases e
  | some xs=>
    rw [q] at e
    simp only [ai] at e
    cases q2:dw iE xs with
    | none=>rw [q2] at e;cases e
    | some bs=>
      rw [q2] at e;cases e
      obtain⟨p,rfl,hp⟩:=fO rx
      obtain⟨p',ys,hp',hs,r'⟩:=hr.sq q
      rw [hp] at hp';cases hp'
      rw [qH r' q2] at hs
      exact⟨p,bs,rfl,hs,a.now hr jD⟩
 ·cases e
end
end
end _G
end
section
namespace _G
open PySem PySem.Spec _L
open PyProof.Rows hiding St
section
noncomputable def g8:U->Option V
 | .non=>some .non
 | .bl b=>some (.bl b)
 | .int i=>some (.int i)
 | .str x=>some (.str x)
 | _=>none
noncomputable def inT (x y:U) (S:Sto):Option Bool:=(toD S 40 x).bind fun d=>(dS S y).bind fun ys=>(dw (toD S 40) ys).map fun ds=>ds.any fun e=>eZ e d
noncomputable def eJ:F2:=fun x y S=>match gw S y with
 | some kvs=>(keyOf x).map fun k=>(.bl (!(jA kvs k).isSome),S)
 | none=>((g8 x).bind fun vx=>(dS S y).bind fun ys=>(dw g8 ys).map fun vs=>(.bl (!inV vx vs),S)).or ((inT x y S).map fun b=>(.bl (!b),S))
theorem Ab {H:Hp}{μ:List Addr}{u:U}{v w:V} (e:g8 u=some v) (r:RU H μ u w):w=v/\ni v=true:=by
 cases u <;> simp only [g8,eD,reduceCtorEq] at e <;> subst e <;> exact⟨by simpa only [RU] using r,rfl⟩
theorem xa {H:Hp}{μ:List Addr} : ∀ {us:List U}{vs ws:List V},dw g8 us=some vs->RUs H μ us ws->ws=vs/\vs.all ni=true
 | [],vs,ws,e,r=>by cases e;rw [r.nil_inv];exact⟨rfl,rfl⟩
 | u::us,vs,ws,e,r=>by
   obtain⟨v,r',rfl,a,b⟩:=r.inv
   unfold dw at e
   cases q1:g8 u with
   | none=>rw [q1] at e;cases e
   | some x=>
     cases q2:dw g8 us with
     | none=>rw [q1,q2] at e;cases e
     | some xs=>
       rw [q1,q2] at e;cases e
       obtain⟨e1,f1⟩:=Ab q1 a
       obtain⟨e2,f2⟩:=xa q2 b
       exact⟨by rw [e1,e2],by rw [b0,f1,f2];rfl⟩
section
variable {K:KX}
noncomputable def Ks (K:ak) (neg:Bool):R2:=fun y x H Q=>rIn K neg y x H Q \/ ∃ a o,x = .ref a/\uA H a y o/\Q (.bl (if neg then !o.isSome else o.isSome)) H
theorem AR {X:Cx} (hu:X.A.units+1 < cLine):OpR X (compareOp .NotIn) (Ks X.K true):=by
 intro pins s σ H x y v u Q I rx ry h
 rcases h with h | ⟨a,o,rfl,g,q⟩
 ·exact vN pins s σ H x y v u Q I rx ry h
 ·obtain rfl:u=bp a:=ry
  exact GD hu I g rx fun s3 I3=>⟨.bl (!o.isSome),H,I3,rfl,q⟩
noncomputable def Ny (K:ak):R2:=fun x y H Q => ∃ p xs d ds,y = .ref p/\(SqL K H p xs\/SqT K H p xs)/\lg K H x d/\Paired (lg K H) xs ds/\Q (.bl (!ds.any fun e=>eZ e d)) H
section
variable {X:Cx}{pins:List (Addr×Obj)}{σ:St}{H:Hp}{s:Shared}
open Classical in
noncomputable def eqR (s:Shared) (d:PyData) (u:Value):Bool:=if h : ∃ d',∃ as,Reads s.heap u d' as/\j9 d'=true then eZ h.choose d else false
theorem Dk {d d':PyData}{u:Value}{as:List Addr} (r:Reads s.heap u d' as) (hs:j9 d'=true):eqR s d u=eZ d' d:=by
 have h : ∃ d',∃ as,Reads s.heap u d' as/\j9 d'=true:=⟨d',as,r,hs⟩
 unfold eqR
 rw [dif_pos h]
 obtain⟨as',r',_⟩:=h.choose_spec
 rw [(PySem.Reads.unique r _ _ r').1]
theorem vd {d:PyData} (I:Inv X pins σ H s) : ∀ {xs:List V}{us:List Value}{ds:List PyData},cu xs us->Paired (lg X.K H) xs ds->us.any (eqR s d)=ds.any fun e=>eZ e d
 | _,_,_,.nil,.nil=>rfl
 | _,_,_,.cons r t,.cons p q=>by
   obtain⟨as,rd⟩:=p.1.reads I r
   rw [eh,eh,Dk rd (fT p),vd I t q]
theorem uN {d:PyData}{v:Value}{bs:List Addr}{A:Around} (I:Inv X pins σ H s) (rv:Reads s.heap v d bs) (hd:j9 d=true) (hu:A.in1.units+64 < cLine) : ∀ {xs:List V}{us:List Value}{ds:List PyData},cu xs us->Paired (lg X.K H) xs ds -> ∀ u∈us,SeqAt.EqAt A.in1 s u v (eqR s d u)
 | _,_,_,.nil,.nil=>fun u hu=>by cases hu
 | _,_,_,.cons r t,.cons p q=>fun u' hu'=>by
   rcases aJ.mp hu' with rfl | hu'
   ·obtain⟨as,rd⟩:=p.1.reads I r
    rw [Dk rd (fT p)]
    exact PySem.W.keq_at rd rv (fT p) hd hu
   ·exact uN I rv hd hu t q u' hu'
end
noncomputable def zt (K:ak):R2:=fun x y H Q=>Ks K true x y H Q\/Ny K x y H Q
theorem Bp {X:Cx} (hu:X.A.units+1 < cLine) (hu2:X.A.in1.units+64 < cLine):OpR X (compareOp .NotIn) (zt X.K):=by
 intro pins s σ H x y v u Q I rx ry h
 rcases h with h | ⟨p,xs,d,ds,rfl,hq,hd,hp,q⟩
 ·exact AR hu pins s σ H x y v u Q I rx ry h
 ·cases ry
  obtain⟨bs,rv⟩:=hd.1.reads I rx
  rcases hq with hq | hq
  ·obtain⟨its,r,pl,hz⟩:=I.list hq
   refine SeqAt.notIn_listAt (eqR s d) pl.isList (fun w hw=>uN I rv (fT hd) hu2 r hp w (by simpa using hw)) ⟨.bl _,H,I,rfl,?_⟩
   rw [show its.toArray.any (eqR s d)=its.any (eqR s d) by simp,vd I r hp]
   exact q
  ·obtain⟨its,r,pl,hz⟩:=I.tuple hq
   refine Ez (eqR s d) pl (fun w hw=>uN I rv (fT hd) hu2 r hp w (by simpa using hw)) ⟨.bl _,H,I,rfl,?_⟩
   rw [show its.toArray.any (eqR s d)=its.any (eqR s d) by simp,vd I r hp]
   exact q
theorem Dw {K:KX}{μ:List Addr}{S:Sto}{H:Hp} (hr:HR K μ S H) : ∀ {us:List U}{ds:List PyData},dw (toD S 40) us=some ds -> ∀ {vs:List V},RUs H μ us vs->Paired (lg K H) vs ds
 | [],ds,h,vs,r=>by cases h;rw [r.nil_inv];exact .nil
 | u::us,ds,h,vs,r=>by
   unfold dw at h
   cases e:toD S 40 u with
   | none=>rw [e] at h;cases h
   | some y=>
     rw [e] at h
     simp only [ai] at h
     cases e2:dw (toD S 40) us with
     | none=>rw [e2] at h;cases h
     | some zs=>
       rw [e2] at h;cases h
       obtain⟨v,r',rfl,a,b⟩:=r.inv
       exact .cons (rV hr a e) (Dw hr e2 b)
theorem B6:OpU K (zt K) eJ:=by
 intro μ S H x y vx vy u S' Q hr rx ry e a
 unfold eJ at e
 split at e
 ·rename_i kvs qd
  cases qk:keyOf x with
  | none=>rw [qk] at e;cases e
  | some kk=>
    rw [qk] at e;cases e
    obtain⟨p,vs,rfl,hp,r⟩:=hr.dic ry qd
    have hl:kvs.length=vs.length:=by have:=r.len;rwa [aw] at this
    refine .inl (.inr ⟨p,_,rfl,.inl ⟨_,kk,.inl hp,qb rx qk,rfl⟩,?_⟩)
    simp only [if_true]
    rw [xh hl]
    exact a.now hr jD
 rcases Option.or_eq_some_iff.mp e with e | ⟨_,e⟩
 ·refine .inl (.inl ?_)
  cases q1:g8 x with
  | none=>rw [q1] at e;cases e
  | some fx=>
    cases q2:dS S y with
    | none=>rw [q1,q2] at e;cases e
    | some ys=>
      cases q3:dw g8 ys with
      | none=>rw [q1,q2] at e;simp only [ai,q3] at e;cases e
      | some vs=>
        rw [q1,q2] at e;simp only [ai,q3] at e;cases e
        obtain⟨rfl,f1⟩:=Ab q1 rx
        obtain⟨p,zs,rfl,hs,r'⟩:=hr.seq ry q2
        obtain⟨rfl,f2⟩:=xa q3 r'
        exact⟨p,zs,rfl,hs,f1,f2,a.now hr jD⟩
 ·cases q0:inT x y S with
  | none=>rw [q0] at e;cases e
  | some b=>
    rw [q0] at e;cases e
    unfold inT at q0
    obtain⟨d,q1,q0⟩:=zj.mp q0
    obtain⟨ys,q2,q0⟩:=zj.mp q0
    obtain⟨ds,q3,rfl⟩:=d8.mp q0
    obtain⟨p,zs,rfl,hs,r'⟩:=hr.seq ry q2
    exact .inr ⟨p,zs,d,ds,rfl,hs,rV hr rx q1,Dw hr q3 r',a.now hr jD⟩
noncomputable def mCh (f g:F2) (a b c:ME):ME:=fun ρ S=>bnd (a ρ S) fun x S1=>bnd (b ρ S1) fun y S2=>bnd (f x y S2) fun z S3=>match z with
 | .bl true=>bnd (c ρ S3) fun w S4=>g y w S4
 | .bl false=>some (.bl false,S3)
 | _=>none
theorem zM {σ:St}{H:Hp}{Q:VK}{r r':R2}{f g:F2}{a b c:ME} (o:OpU K r f) (o':OpU K r' g) (h:tM K (mCh f g a b c) σ H Q):yB r r' (tM K a) (tM K b) (tM K c) σ H Q:=by
 obtain⟨μ,S,ρ,u,S',hr,er,e,k⟩:=h
 obtain⟨x,S1,e1,e⟩:=bj e
 obtain⟨y,S2,e2,e⟩:=bj e
 obtain⟨z,S3,e3,e⟩:=bj e
 refine⟨μ,S,ρ,x,S1,hr,er,e1,fun μ1 vx H1 p1 k1 hr1 rx => ?_⟩
 refine⟨μ1,S1,ρ,y,S2,hr1,er.mono k1 p1,e2,fun μ2 vy H2 p2 k2 hr2 ry => ?_⟩
 refine o μ2 S2 H2 x y vx vy z S3 _ hr2 (RU.mono k2 p2 x vx rx) ry e3 fun μ3 vz H3 p3 k3 hr3 rz => ?_
 split at e
 ·refine⟨true,kZ rz,?_⟩
  rw [if_pos rfl]
  obtain⟨w,S4,e4,e⟩:=bj e
  refine⟨μ3,S3,ρ,w,S4,hr3,er.mono ((k1.trans k2).trans k3) ((p1.trans p2).trans p3),e4,fun μ4 vw H4 p4 k4 hr4 rw' => ?_⟩
  exact o' μ4 S4 H4 y w vy vw u S' Q hr4 (RU.mono (k3.trans k4) (p3.trans p4) y vy ry) rw' e (k.mono (((p1.trans p2).trans p3).trans p4) (((k1.trans k2).trans k3).trans k4))
 ·cases e
  refine⟨false,kZ rz,?_⟩
  rw [if_neg bM]
  exact k μ3 _ H3 ((p1.trans p2).trans p3) ((k1.trans k2).trans k3) hr3 jD
 ·cases e
noncomputable def iN:Nat->List U->Sto->Res U:=fun n xs S=>match xs with
 | [.ref m]=>match S[n]?,S[m]? with
   | some (.lst us),some (.lst ws)=>if us.length+ws.length<=big then some (.non,S.set n (.lst (us++ws))) else none
   | _,_=>none
 | _=>none
theorem AV:MtU K zA iN:=by
 intro μ S H n p us vs u S' Q hr hp rs e a
 unfold iN at e
 split at e
 ·rename_i m
  split at e
  ·rename_i xs ws q q2
   split at e
   ·rename_i hc
    cases e
    obtain⟨v,r,rfl,rx,rn⟩:=rs.inv
    rw [rn.nil_inv]
    obtain⟨b,rfl,hb⟩:=fO rx
    obtain⟨ys,e0,r0⟩:=hr.cell n _ p q hp
    obtain⟨zs,e1,r1⟩:=hr.cell m _ b q2 hb
    refine⟨p,b,ys,zs,rfl,rfl,e0,e1,?_,u9 a hr q hp (r0.append r1) pz⟩
    have:=r0.len;have:=r1.len;unfold big at hc;rw [sizeLine_eq];omega
   ·cases e
  ·cases e
 ·cases e
end
noncomputable def mx (ns:List Int):List Int:=ns.mergeSort fun i j=>decide (i<=j)
noncomputable def oj:U->Option Int
 | .int i=>some i
 | _=>none
noncomputable def yY (n:Nat):Prop:=n < 64
noncomputable instance (n:Nat):Decidable (yY n):=bJ _
noncomputable def nT:_L.Key×U->Option Int
 | (.inl i,_)=>some i
 | _=>none
noncomputable def tP (S:Sto) (x:U):Option (List Int):=match gw S x with
 | some kvs=>dw nT kvs
 | none=>(dS S x).bind fun xs=>dw oj xs
noncomputable def eR:MF:=fun us S=>match us with
 | [x]=>(tP S x).bind fun ns=>if yY ns.length then some (.ref S.length,S ++ [.lst ((mx ns).map U.int)]) else none
 | _=>none
theorem iy (ns:List Int):(mx ns).Perm ns:=List.mergeSort_perm _ _
theorem rQ (ns:List Int):(mx ns).Pairwise (· <= ·):=by
 have h:=List.pairwise_mergeSort (le:=fun (i j:Int)=>decide (i<=j)) (fun a b c h1 h2=>by simp at *;omega) (fun a b=>by simp;omega) ns
 exact h.imp fun h=>by simpa using h
theorem pI : ∀ {as bs:List Int},as.Perm bs->as.Pairwise (· <= ·)->bs.Pairwise (· <= ·)->as=bs
 | [],bs,p,_,_=>by rw [List.nil_perm.mp p]
 | a::as,[],p,_,_=>by cases List.perm_nil.mp p
 | a::as,b::bs,p,h1,h2=>by
   rw [List.pairwise_cons] at h1 h2
   have e:a=b:=by
    have m1:a∈b::bs:=p.subset (by simp)
    have m2:b∈a::as:=p.symm.subset (by simp)
    rcases aJ.mp m1 with e | m1
    ·exact e
    ·rcases aJ.mp m2 with e | m2
     ·exact e.symm
     ·have:=h1.1 b m2;have:=h2.1 a m1;omega
   subst e
   rw [pI (List.perm_cons _ |>.mp p) h1.2 h2.2]
theorem ow {ns ms:List Int} (p:ms.Perm ns) (h:ms.Pairwise (· <= ·)):ms=mx ns:=pI (p.trans (iy ns).symm) h (rQ ns)
theorem u0 {H:Hp}{μ:List Addr} : ∀ {us:List U}{vs:List V}{ns:List Int},RUs H μ us vs->dw oj us=some ns->vs=ns.map V.int
 | [],vs,ns,r,e=>by cases e;rw [r.nil_inv];rfl
 | u::us,vs,ns,r,e=>by
   obtain⟨v,r',rfl,a,b⟩:=r.inv
   unfold dw at e
   cases u with
   | int x=>
     simp only [oj,ai] at e
     cases q:dw oj us with
     | none=>rw [q] at e;cases e
     | some cs=>
       rw [q] at e;cases e
       rw [dg a,u0 b q];rfl
   | _=>cases e
theorem intsAre_of : ∀ {ns:List Int}{us:List Value},cu (ns.map V.int) us->IntsAre us ns
 | [],us,r=>by cases r;exact .nil
 | n::ns,us,r=>by
   cases r with
   | cons a b=>
     obtain⟨t,rfl⟩:=a
     exact .cons n t (intsAre_of b)
theorem mE : ∀ {ns:List Int}{us:List Value},IntsAre us ns->cu (ns.map V.int) us
 | _,_,.nil => .nil
 | _,_,.cons n t r => .cons ⟨t,rfl⟩ (mE r)
theorem iR : ∀ {ns:List Int}{us:List Value},IntsAre us ns->us.length=ns.length
 | _,_,.nil=>rfl
 | _,_,.cons n t r=>by simp [iR r]
theorem yR {prog:Program}{w:World}{A:Around}{E:Value->Shared->Prop}{s:Shared}{Q:List Value->Shared->Prop} (it:Addr) {T:String}{o:Obj}{items:Array Value}{n:Nat} (hT:T="list"\/T="tuple")
  (ho:s.heap.get? it=some o) (hc:o.cls = .type T) (hd:o.data = .seq items n) (hsz:items.size<=sizeLine)
  (hQ : ∀ h',(∀ b o',s.heap.get? b=some o'->h'.get? b=some o')->s.heap.objs.size<=h'.objs.size->Q items.toList { s with heap:=h' }) :
  aH (model prog w) A (collect (.ref it)) Q E s:=by
 unfold collect
 refine ae (ju (cK jw ?_))
 rw [bT jx _]
 show aH _ A.in1 (newList [] >>= fun l=>again (.builtin "list.__iadd__" ⟨[l,.ref it],[]⟩)) _ _ s
 refine ae (cU (az ⟨plainId_quiet d9 _,cK mW ?_⟩))
 rw [bT d9 _]
 have hS:(s.heap.push { cls := .type "list",data := .seq ([]:List Value).toArray }).get? s.heap.objs.size=some { cls := .type "list",data := .seq #[] 0 }:=ax _ rfl
 have hS₂:=dP (cX (· ++ items)) hS rfl
 refine da (wpAny_extend_seq (hsz:=hsz) (A:=A) (R:=fun r s'=>r = .ok (.ret (.ref s.heap.objs.size))/\s'={ s with heap:=(s.heap.push { cls := .type "list",data := .seq ([]:List Value).toArray }).update s.heap.objs.size (cX (· ++ items)) })
  (s:={ s with heap:=s.heap.push { cls := .type "list",data := .seq ([]:List Value).toArray } }) _ it _ 0 hT hS (ah _ ho) hc hd ⟨rfl,rfl⟩) (fun fin s' h => ?_) (fun e s' h=>absurd h.1 (by simp))
 have fin':aH (model prog w) A (match bp s.heap.objs.size with
   | bp a=>do
     match (<- load a).data with
      | ED xs _=>pure xs.toList
      | _=>unsupported "internal:collect"
   | _=>unsupported "internal:collect") Q E { s with heap:=(s.heap.push { cls := .type "list",data := .seq ([]:List Value).toArray }).update s.heap.objs.size (cX (· ++ items)) }:=by
  show aH _ A (load s.heap.objs.size >>= _) _ _ _
  refine ae (vQ hS₂ (az ?_))
  show Q ((#[]:Array Value)++items).toList _
  rw [show ((#[]:Array Value)++items).toList=items.toList by simp]
  exact hQ _ (fun b o' hb=>(cy _ _ (dH (aC hb))).trans (ah _ hb)) (by rw [Heap.size_update,size_push'];exact dO _)
 cases fin with
 | done f=>
   obtain⟨e,rfl⟩:=h
   cases e
   exact fin'
 | again c'=>exact⟨h.1,il h.2 fun r s'' hr=>by obtain⟨rfl,rfl⟩:=hr;exact fin'⟩
theorem qu {prog:Program}{w:World}{A:Around}{E:Value->Shared->Prop}{s:Shared}{l:Addr}{T:String}{o:Obj}{n:Nat}{vs:List Value}{ns:List Int}{Q:Value->Shared->Prop} (hT:T="list"\/T="tuple")
  (ho:s.heap.get? l=some o) (hc:o.cls = .type T) (hd:o.data = .seq vs.toArray n) (hI:IntsAre vs ns) (h64:vs.length < 64)
  (h : ∀ (out:Array Value) (ns':List Int) (a:Addr) (e:Nat) (h':Heap),IntsAre out.toList ns'->ns'.Perm ns->ns'.Pairwise (· <= ·)->s.heap.objs.size<=a->(∀ b o',s.heap.get? b=some o'->h'.get? b=some o') ->
   h'.get? a=some (seqObj "list" out e)->Q (.ref a) { s with heap:=h' }) :
  aH (model prog w) A (call (.builtin "sorted") [.ref l]) Q E s:=by
 refine kT kind_sorted plain_sorted entry_sorted (args_sorted1 _) ?_
 unfold Builtin.«sorted»
 refine ae (m:=checkCount "sorted" 1 1 _) (az ?_)
 refine ae (yR l hT ho hc hd (by rw [aF,sizeLine_eq];omega) fun h1 hk hle => ?_)
 refine ae (wpAny_newList ?_)
 have hoL:(h1.push (seqObj "list" vs.toArray 0)).get? h1.objs.size=some (seqObj "list" vs.toArray 0):=ax _ rfl
 show aH _ _ _ _ _ { s with heap:=h1.push (seqObj "list" vs.toArray 0) }
 refine ae (dZ (dX slot_list_sort ⟨_,hoL,rfl⟩ entry_list_sort (list_sort_tree hoL hI h64 fun out ns' a1 a2 a3=>⟨_,rfl,?_⟩) (args_list_sort _)))
 obtain⟨e,he⟩:=sortedHeap_at (out:=out) hoL
 exact az ⟨_,rfl,h out ns' _ e _ a1 a2 a3 hle (fun b o' hb=>by
  have hb1:=hk b o' hb
  have hlt:=aC hb1
  rw [sortedHeap_old (aG hlt) (by rw [size_push'];exact cq hlt),so _ _ _ (aG hlt)]
  exact hb1) he⟩
theorem vq {prog:Program}{w:World}{A:Around}{E:Value->Shared->Prop}{s:Shared}{Q:List Value->Shared->Prop}{d:Addr}{vs:List (Key×Value)}{ep:Nat} (hh:A.handled=none) (hS:(d == sysModules)=false) (hm:s.heap.DictAt (dQ prog w) d vs ep) (hn:vs.length<=sizeLine)
  (hQ : ∀ s' acc,(∀ b o,s.heap.get? b=some o->s'.heap.get? b=some o)->s'.gens=s.gens->s'.drawn=s.drawn->s'.os=s.os->ItemsOf (fun i v => ∃ k x,vs[i]? = some (k,x)/\(dQ prog w).is k v=true) acc vs.length->s.heap.objs.size<=s'.heap.objs.size->Q acc.toList s'):aH (model prog w) A (collect (.ref d)) Q E s:=by
 have hdl:d < s.heap.objs.size:=hm.lt_size
 let lo:Obj:={ cls := .type "list",data := .seq ([]:List Value).toArray }
 let io:Obj:={ cls := .type "dict_keyiterator",data := .fields #[.ref d,.int 0 0,.int vs.length 0,.int ep 0] }
 have hm1:(s.heap.push lo).DictAt (dQ prog w) d vs ep:=hm.push lo
 have hT1:ll { s with heap:=s.heap.push lo } (.ref d) "dict":=hm1.dictOf.typeIs
 unfold collect
 refine ae (ju (cK jw ?_))
 rw [bT jx _]
 show aH _ A.in1 (newList [] >>= fun l=>again (.builtin "list.__iadd__" ⟨[l,.ref d],[]⟩)) _ _ s
 refine ae (cU (az ⟨plainId_quiet d9 _,cK mW ?_⟩))
 rw [bT d9 _]
 show aH _ A.in1 (fB (.ref s.heap.objs.size) (.ref d) (.ref s.heap.objs.size)) _ _ _
 unfold fB
 refine ae (pE hT1 ?_)
 have hne:gh (.ref s.heap.objs.size) (.ref d)=false:=by simp [gh];exact dH hdl
 rw [if_neg (by rw [hne];decide)]
 refine ae (wpAny_pyIter_dict hS hm1 ?_)
 refine ae (dZ ?_)
 unfold pW
 have hT2:ll { s with heap:=(s.heap.push lo).push io } (.ref d) "dict":=(hm1.push io).dictOf.typeIs
 refine ae (wpAny_specialOf hT2 PySem.F.slot_dict_len.lookup ?_)
 generalize hid:("dict.__len__":String)=id0
 wp_delta
 rw [show splitId id0=some ("dict","__len__") from by subst hid;decide +kernel]
 subst hid
 refine ae (oZ (b:=true) hT2 (by rw [isSubtype_type];kernel_rfl) ?_)
 simp only [Bool.not_true,eE,if_false]
 rw [if_pos (by decide +kernel)]
 refine ae (pE hT2 (az ?_))
 rw [if_pos (by decide +kernel)]
 refine ae (Ej (ae ?_))
 have hne2:s.heap.objs.size≠(s.heap.push lo).objs.size:=by rw [bw];exact aG (cg _)
 have hL1:((s.heap.push lo).push io).get? s.heap.objs.size=some lo:=ah _ (ax _ rfl)
 show aH _ A.in1 (updateSeq s.heap.objs.size (·.push .none) >>= fun _=>updateSeq s.heap.objs.size (·.pop)) _ _ _
 refine ae (pK hL1 rfl ?_)
 have hL2:=dP (cX (·.push fH)) hL1 rfl
 refine pK hL2 rfl ?_
 have hL3:=dP (cX (·.pop)) hL2 rfl
 have oth : ∀ b o,b≠s.heap.objs.size->((s.heap.push lo).push io).get? b=some o->((((s.heap.push lo).push io).update s.heap.objs.size (cX (·.push fH))).update s.heap.objs.size (cX (·.pop))).get? b=some o:=
  fun b o hb e=>(cy _ _ (d7 hb)).trans ((cy _ _ (d7 hb)).trans e)
 have hI:(s.heap.push lo).objs.size=s.heap.objs.size+1:=bw ..
 have hdI:d≠(s.heap.push lo).objs.size:=by rw [hI];exact aG (cq hdl)
 have W:=(Walks.dictKeys (prog:=prog) (w:=w) (A:=A.in1) (knd:=dQ prog w) hh (s.heap.push lo).objs.size d hdI vs ep).toS
 have hSf:s.heap.objs.size ∉ [(s.heap.push lo).objs.size,d]:=by
  rw [hI]
  intro z
  rcases aJ.mp z with z | z
  ·omega
  ·rw [bN] at z;exact absurd z (dH hdl)
 have it0:((s.heap.push lo).push io).IsKeyIter (s.heap.push lo).objs.size d 0 vs.length ep:=⟨io,ax _ rfl,rfl,rfl⟩
 refine az ⟨plainId_quiet F.plain_extend_loop _,codeAny_extend_loopS W hn s.heap.objs.size hSf _ vs.length 0 _ _ _ rfl (dj _) ?_ hL3 (ItemsOf.nil _) fun s' acc' c' hmv hS' hacc => ?_⟩
 ·exact⟨it0.at fun o e=>oth _ o (d7 hne2) e,(hm1.push io).at' fun o e=>oth _ o (aG hdl) e⟩
 ·show aH _ A (load s.heap.objs.size >>= _) _ _ s'
  refine ae (vQ hS' (az (hQ s' acc' (fun b o e => ?_) hmv.gens hmv.drawn hmv.os hacc (aQ (aC hS')))))
  have hb:b < s.heap.objs.size:=aC e
  refine hmv.heap b o ?_ (oth b o (aG hb) (ah _ (ah _ e)))
  rw [hI]
  intro z
  rcases aJ.mp z with z | z
  ·exact absurd z (aG hb)
  ·rw [bN] at z;exact absurd z (aG (cq hb))
theorem ud : ∀ {l:List Value}{ns:List Int},l.length=ns.length->(∀ (j:Nat) (v:Value),l[j]? = some v -> ∃ i t,ns[j]? = some i/\v = .int i t)->IntsAre l ns
 | [],[],_,_ => .nil
 | [],_::_,h,_=>by simp at h
 | _::_,[],h,_=>by simp at h
 | v::l,n::ns,h,k=>by
   obtain⟨i,t,e,rfl⟩:=k 0 v rfl
   simp at e;subst e
   exact .cons n t (ud (by simpa using h) fun j w hj=>by simpa using k (j+1) w (by simpa using hj))
theorem wq {prog:Program}{w:World}{A:Around}{E:Value->Shared->Prop}{s:Shared}{d:Addr}{vs:List (Key×Value)}{ns:List Int}{Q:Value->Shared->Prop} (hh:A.handled=none) (hS:(d == sysModules)=false) (hm:s.heap.DictOf (dQ prog w) d vs) (hk:vs.map (·.1)=ns.map eM) (h64:ns.length < 64)
  (h : ∀ (out:Array Value) (ns':List Int) (a:Addr) (e:Nat) (h':Heap) (tk:Nat),IntsAre out.toList ns'->ns'.Perm ns->ns'.Pairwise (· <= ·)->s.heap.objs.size<=a->(∀ b o',s.heap.get? b=some o'->h'.get? b=some o') ->
   h'.get? a=some (seqObj "list" out e)->Q (.ref a) { s with heap:=h',toks:=tk }) :
  aH (model prog w) A (call (.builtin "sorted") [.ref d]) Q E s:=by
 obtain⟨ep,hm⟩:=hm.dictAt
 have hlen:vs.length=ns.length:=by have:=congrArg Ey hk;simpa using this
 refine kT kind_sorted plain_sorted entry_sorted (args_sorted1 _) ?_
 unfold Builtin.«sorted»
 refine ae (m:=checkCount "sorted" 1 1 _) (az (ae (vq hh hS hm (by rw [hlen,sizeLine_eq];omega) fun s1 acc hk1 hg hdr hos hacc hle => ?_)))
 have hI:IntsAre acc.toList ns:=ud (by rw [<- hlen,<- hacc.1];simp) fun j v hj=>by
  obtain⟨k,x,e,ik⟩:=hacc.2 j v (by simpa using hj)
  have e2:(vs.map (·.1))[j]? = some k:=by rw [bg,e];rfl
  rw [hk,bg] at e2
  cases q:ns[j]? with
  | none=>rw [q] at e2;cases e2
  | some i=>
    rw [q] at e2
    have e3:eM i=k:=bS e2
    subst e3
    rcases dY (show rf (eM i) v=true from ik) with⟨i',t,e4,e5⟩ | ⟨y,t,e4,_⟩
    ·cases e4;exact⟨_,t,rfl,e5⟩
    ·cases e4
 have hal:acc.toList.length < 64:=by rw [iR hI];exact h64
 refine ae (wpAny_newList ?_)
 have hoL:(s1.heap.push (seqObj "list" acc 0)).get? s1.heap.objs.size=some (seqObj "list" acc.toList.toArray 0):=ax _ rfl
 show aH _ _ _ _ _ { s1 with heap:=s1.heap.push (seqObj "list" acc 0) }
 refine ae (dZ (dX slot_list_sort ⟨_,hoL,rfl⟩ entry_list_sort (list_sort_tree hoL hI hal fun out ns' a1 a2 a3=>⟨_,rfl,?_⟩) (args_list_sort _)))
 obtain⟨e,he⟩:=sortedHeap_at (out:=out) hoL
 have hq:=h out ns' _ e _ s1.toks a1 a2 a3 hle (fun b o' hb=>by
  have hb1:=hk1 b o' hb
  have hlt:=aC hb1
  rw [sortedHeap_old (aG hlt) (by rw [size_push'];exact cq hlt),so _ _ _ (aG hlt)]
  exact hb1) he
 rw [<- hg,<- hdr,<- hos] at hq
 exact az ⟨_,rfl,hq⟩
section
variable {X:Cx}
noncomputable def zW (K:ak):List V->Hp->VK->Prop:=fun xs H Q => ∃ (p:Addr) (ns:List Int),xs = [.ref p]/\((SqL K H p (ns.map V.int)\/SqT K H p (ns.map V.int)) \/ ∃ kvs,H p=some (.dK kvs)/\kvs.map (·.1)=ns.map eM)/\ns.length < 64 /\ ∀ l,H l=none->Q (.ref l) (upd H l (.lst ((mx ns).map V.int)))
theorem Gf {kvs:List (Key×V)}{vs:List (Key×Value)} (h:KV kvs vs):vs.map (·.1)=kvs.map (·.1):=by
 induction h with
 | nil=>rfl
 | cons a _ ih=>rw [bA,bA,ih,a.1]
theorem wg (hc:X.calm=true):gQ X (.builtin "sorted") (zW X.K):=by
 intro pins s σ H xs us Q I rs h
 obtain⟨p,ns,rfl,hS,h64,q⟩:=h
 cases rs with
 | cons r1 rr=>
   cases rr
   cases (show _=bp p from r1)
   have fin : ∀ (out:Array Value) (ns':List Int) (a:Addr) (e:Nat) (h':Heap) (tk:Nat),IntsAre out.toList ns'->ns'.Perm ns->ns'.Pairwise (· <= ·)->s.heap.objs.size<=a->(∀ b o',s.heap.get? b=some o'->h'.get? b=some o') ->
    h'.get? a=some (seqObj "list" out e)->EP X pins σ Q (.ref a) { s with heap:=h',toks:=tk }:=by
    intro out ns' a e h' tk a1 a2 a3 hle hk he
    have e':=ow a2 a3
    subst e'
    refine⟨.ref a,_,I.laid (t':=tk) (o := .lst ((mx ns).map V.int)) hk hle ?_,rfl,q _ (I.hok.fresh hle)⟩
    refine⟨by rw [aw,(iy ns).length_eq,sizeLine_eq];omega,out.toList,e,mE a1,?_⟩
    rw [he]
   rcases hS with (hS | hS) | ⟨kvs,hp,hks⟩
   ·obtain⟨its,rv,pl,_⟩:=I.list hS
    have hl:=pl.isList
    obtain⟨o,ho,hc,n,hd⟩:=hl
    have hI:=intsAre_of rv
    exact qu (.inl rfl) ho hc hd hI (by rw [iR hI];exact h64) fun out ns' a e h'=>fin out ns' a e h' s.toks
   ·obtain⟨its,rv,pl,_⟩:=I.tuple hS
    obtain⟨o,ho,hc,n,hd⟩:=pl
    have hI:=intsAre_of rv
    exact qu (.inr rfl) ho hc hd hI (by rw [iR hI];exact h64) fun out ns' a e h'=>fin out ns' a e h' s.toks
   ·obtain⟨_,hsm,vs,rel,dd⟩:=(show d6 X.prog X.w H s.heap p (.dK kvs) from I.hok p _ hp)
    exact wq (I.ok.hd hc) hsm dd (by rw [Gf rel];exact hks) h64 fin
end
section
variable {K:KX}
theorem oS {H:Hp}{μ:List Addr} : ∀ ns:List Int,RUs H μ (ns.map U.int) (ns.map V.int)
 | [] => .nil
 | n::ns => .cons eI (oS ns)
theorem z5 : ∀ {kvs:List (Key×U)}{vs:List V},kvs.length=vs.length->(dV kvs vs).map (·.1)=kvs.map (·.1)
 | [],_,_=>rfl
 | _::_,[],h=>by simp at h
 | kv::kvs,v::vs,h=>by
   show kv.1::(dV kvs vs).map (·.1)=kv.1::kvs.map (·.1)
   rw [z5 (by simpa using h)]
theorem ub : ∀ {kvs:List (Key×U)}{ns:List Int},dw nT kvs=some ns->kvs.map (·.1)=ns.map eM
 | [],ns,h=>by cases h;rfl
 | (k,u)::kvs,ns,h=>by
   unfold dw at h
   cases k with
   | inr x=>cases h
   | inl i=>
     simp only [nT,ai] at h
     cases q:dw nT kvs with
     | none=>rw [q] at h;cases h
     | some ms=>
       rw [q] at h;cases h
       rw [bA,ub q];rfl
theorem Bg:nu K (zW K) eR:=by
 intro μ S H us vs u S' Q hr rs e a
 unfold eR at e
 split at e
 ·rename_i x
  obtain⟨v,r,rfl,rx,rn⟩:=rs.inv
  rw [rn.nil_inv]
  cases q:tP S x with
  | none=>rw [q] at e;cases e
  | some ns=>
    rw [q] at e;simp only [ai] at e
    split at e
    rotate_left
    ·cases e
    rename_i hc
    cases e
    unfold tP at q
    split at q
    ·rename_i kvs qd
     obtain⟨p,ws,rfl,hp,r'⟩:=hr.dic rx qd
     have hl:kvs.length=ws.length:=by have:=r'.len;rwa [aw] at this
     exact⟨p,ns,rfl,.inr ⟨_,hp,by rw [z5 hl];exact ub q⟩,hc,fun l hl=>jP a hr (oS _) hl⟩
    ·cases q1:dS S x with
     | none=>rw [q1] at q;cases q
     | some ws=>
       rw [q1] at q
       obtain⟨p,ys,rfl,hs,r'⟩:=hr.seq rx q1
       rw [u0 r' q] at hs
       exact⟨p,ns,rfl,.inl hs,hc,fun l hl=>jP a hr (oS _) hl⟩
 ·cases e
end
section
variable {X:Cx}
end
section
variable {K:KX}
end
end
end _G
end
section
namespace _G
open PySem PySem.Spec _L
open PyProof.Rows hiding St
section
noncomputable def fN (i c:Int) (n:Nat):List U:=(ar n).map fun (k:Nat) => .int (i+k*c)
noncomputable def Me (i j c:Int):Prop:=(0 < c/\c < 1073741824)/\eN i j c=true/\0<=bH i j c
noncomputable instance (i j c:Int):Decidable (Me i j c):=bJ _
noncomputable def iR3 (a:MA):MI:=fun ρ S=>bnd (a ρ S) fun xs S1=>match xs with
 | [.int i,.int j,.int c]=>if Me i j c then some (.imm (fN i c (bH i j c).toNat),S1) else none
 | _=>none
end
section
variable {K:KX}{σ:St}{H:Hp}{Q:VK}{D:Ends}
theorem Hh {a:MA}{R:It->Hp->Prop}{μ:List Addr}{S S1:Sto}{ρ:Rho}{src:Src} (hr:HR K μ S H) (er:ER H μ ρ σ) (e:iR3 a ρ S=some (src,S1))
  (hR : ∀ μ1 H1 lo c n,Pre μ μ1->bF H H1->HR K μ1 S1 H1->src = .imm (fN lo c n)->R (Itk lo c n) H1):xn (tMA K a) σ H R:=by
 obtain⟨xs,S2,e1,e⟩:=bj e
 split at e
 ·rename_i i j c
  split at e
  ·rename_i hj
   cases e
   refine⟨μ,S,ρ,_,_,hr,er,e1,fun μ1 vs H1 p1 k1 hr1 rs => ?_⟩
   obtain⟨v,r,rfl,rx,rs⟩:=rs.inv
   obtain⟨w,r,rfl,ry,rs⟩:=rs.inv
   obtain⟨z,r,rfl,rz,rn⟩:=rs.inv
   rw [rn.nil_inv,dg rx,dg ry,dg rz]
   exact⟨i,j,c,_,rfl,⟨hj.1,hj.2.1,(Int.toNat_of_nonneg hj.2.2).symm⟩,hR μ1 H1 _ _ _ p1 k1 hr1 rfl⟩
  ·cases e
 ·cases e
theorem HQ {i:Nat}{b:MS}{lo c:Int}{n:Nat}{ρ:Rho}{S:Sto}{μ:List Addr}{r:Fl×Rho×Sto} (hr:HR K μ S H) (er:ER H μ ρ σ) (e:lA i b (fN lo c n) ρ S=some r) (fl:FlP K μ H D r) :
  ∃ W:Nat->Nat->St->Hp->Prop,(∃ m,W 0 m σ H) /\ ∀ k m σ H,W k m σ H ->
   ((Itk lo c n).stop k H/\D.nx σ H)\/((Itk lo c n).go k H /\ ∃ N:St->Hp->Prop,(∀ σ' H',N σ' H' -> ∃ m',m' < m/\W (k+1) m' σ' H') /\ ∀ x H',(Itk lo c n).yld k H x H'->i5 i x σ H' fun σ2 H2=>tMS K b { D with nx:=N,ct:=N,bk:=D.nx } σ2 H2):=by
 have hl:(fN lo c n).length=n:=by simp [fN]
 refine⟨fun k m σ1 H1=>m=n - k/\k<=n /\ ∃ μ1 S1 ρ1,Pre μ μ1/\bF H H1/\HR K μ1 S1 H1/\ER H1 μ1 ρ1 σ1/\lA i b ((fN lo c n).drop k) ρ1 S1=some r,⟨n,by simp,dj _,μ,S,ρ,Pre.refl _,bF.refl _,hr,er,e⟩,?_⟩
 rintro k m σ1 H1 ⟨rfl,hk,μ1,S1,ρ1,p1,k1,hr1,er1,e1⟩
 by_cases hlt:k < n
 ·refine .inr ⟨hlt,fun σ2 H2 => ∃ μ2 S2 ρ2,Pre μ μ2/\bF H H2/\HR K μ2 S2 H2/\ER H2 μ2 ρ2 σ2/\lA i b ((fN lo c n).drop (k+1)) ρ2 S2=some r,fun σ' H' p'=>⟨n - (k+1),by omega,rfl,hlt,p'⟩,fun x H' y => ?_⟩
  obtain⟨rfl,rfl⟩:=y
  have hu:(fN lo c n)[k]? = some (.int (lo+k*c)):=by simp [fN,hlt]
  rw [drop_cons hu] at e1
  exact mH hr1 (er1.set eI i) e1 p1 k1 fl fun μ2 σ2 H2 ρ2 S2 p2 k2 hr2 er2 e2=>⟨μ2,S2,ρ2,p2,k2,hr2,er2,e2⟩
 ·have:k=n:=by omega
  subst this
  rw [BG (by exact Em (by assumption))] at e1
  cases e1
  exact .inl ⟨aj _,fl μ1 σ1 H1 p1 k1 hr1 er1⟩
theorem Ln {i:Nat}{a:MA}{b:MS} (h:tMS K (dF i (iR3 a) b) D σ H):uQ (xn (tMA K a)) (i5 i) (tMS K b) D σ H:=by
 obtain⟨μ,S,ρ,r,hr,er,e,fl⟩:=h
 obtain⟨src,S1,e1,e⟩:=bj e
 refine Hh hr er e1 fun μ1 H1 lo c n p1 k1 hr1 hs => ?_
 subst hs
 exact HQ hr1 (er.mono k1 p1) e (fl.mono p1 k1)
theorem K7 {a:MA}{t:MT}{e:ME} (h:tM K (bR (iR3 a) t e) σ H Q):oa (xn (tMA K a)) (tMT K t) (tM K e) σ H Q:=by
 obtain⟨μ,S,ρ,u,S',hr,er,e0,k⟩:=h
 obtain⟨src,S1,e1,e0⟩:=bj e0
 obtain⟨ys,S2,e2,e0⟩:=bj e0
 split at e0
 ·rename_i hz
  cases e0
  refine Hh hr er e1 fun μ1 H1 lo c n p1 k1 hr1 hs => ?_
  subst hs
  have hl:(fN lo c n).length=n:=by simp [fN]
  refine rX hr1 (er.mono k1 p1) e2 hz (k.mono p1 k1) (fun H' _=>by rw [hl];exact aj _) (fun i H' hi _=>by rw [hl] at hi;exact hi) fun i H' x H'' u hu _ y => ?_
  obtain⟨rfl,rfl⟩:=y
  have hi:i < n:=by rw [<- hl];exact (ag.mp hu).1
  have e2:(fN lo c n)[i]? = some (.int (lo+i*c)):=by simp [fN,hi]
  rw [e2] at hu;cases hu
  exact⟨rfl,eI⟩
 ·cases e0
end
section
variable {M:Mo}{X:Cx}{k:Nat}{N:List Str}{ns:List (Str×NameKind)}{a b c:Expr}{mas:MA}{p1 pos:Pos}
theorem KB {tg:Expr} (S:Sc M X k N ns) (hg:eO ns "range"=true) (hm:M.mg "range"=none) (ha:PA X [a,b,c] (tMA M.K mas)) (hs:starEach [a,b,c] X.env = [(false,eval a X.env),(false,eval b X.env),(false,eval c X.env)]) (hs2:starEach [b,c] X.env = [(false,eval b X.env),(false,eval c X.env)]):PI X tg (.Call (.Name "range" p1) [a,b,c] [] pos) (xn (tMA M.K mas)):=
 Ai (S.gl hg) (by rw [S.hm];exact hm) ha hs hs2
end
end _G
end
section
namespace _G
open PySem PySem.Spec _L
open PyProof.Rows hiding St
theorem xk {prog:Program}{w:World}{A:Around}{E:Value->Shared->Prop}{s:Shared}{a:Addr}{ns:List Int}{Q:List Value->Shared->Prop} (hh:A.handled=none) (hS:qQ prog w s.heap a (!w.params.followText "set-order") ns)
  (hQ : ∀ s' acc,(∀ b o,s.heap.get? b=some o->b≠a->s'.heap.get? b=some o)->s'.gens=s.gens->s'.os=s.os->(∃ ms,IntsAre acc ms/\ms.Perm ns)->s.heap.objs.size<=s'.heap.objs.size->Q acc s'):aH (model prog w) A (collect (.ref a)) Q E s:=by
 obtain⟨es,ep,t,ho,he⟩:=hS
 have la : @Ek Nat _ a s.heap.objs.size:=aC ho
 let lo:Obj:={ cls := .type "list",data := .seq ([]:List Value).toArray }
 have hle:es.size<=sizeLine:=fits_of_scanBound he.sm
 have ho1:(s.heap.push lo).get? a=some (ly es ep t):=ah _ ho
 have hT1:ll { s with heap:=s.heap.push lo } (.ref a) "set":=⟨_,ho1,rfl⟩
 unfold collect;refine ae (ju (cK jw ?_));rw [bT jx _];show aH _ A.in1 (newList [] >>= fun l=>again (.builtin "list.__iadd__" ⟨[l,.ref a],[]⟩)) _ _ s
 refine ae (cU (az ⟨plainId_quiet d9 _,cK mW ?_⟩));rw [bT d9 _];show aH _ A.in1 (fB (.ref s.heap.objs.size) (.ref a) (.ref s.heap.objs.size)) _ _ _
 unfold fB;refine ae (pE hT1 ?_)
 have hne:gh (.ref s.heap.objs.size) (.ref a)=false:=by simp [gh];exact dH la
 rw [if_neg (by rw [hne];decide)]
 have sz:(s.heap.push lo).objs.size=s.heap.objs.size+1:=bw ..
 refine ae (Cb (s:={ s with heap:=s.heap.push lo }) ho1 he hle fun I fp St L h' d W st hfp hL hk hI hfa => ?_)
 have hI : @LE.le Nat _ (s.heap.push lo).objs.size I:=hI
 refine ae (dZ ?_);unfold pW
 have hT2:ll { s with heap:=h',drawn:=d } (.ref a) "set":=⟨_,hk _ _ ho1,rfl⟩
 refine ae (wpAny_specialOf hT2 PySem.F.slot_set_len.lookup ?_)
 generalize hid:("set.__len__":String)=id0
 wp_delta
 rw [show splitId id0=some ("set","__len__") from by subst hid;decide +kernel]
 subst hid
 refine ae (oZ (b:=true) hT2 (by rw [isSubtype_type];kernel_rfl) ?_);simp only [Bool.not_true,eE,if_false];rw [if_pos (by decide +kernel)];refine ae (pE hT2 (az ?_));rw [if_pos (by decide +kernel)];refine ae (Ej (ae ?_))
 have hL1:h'.get? s.heap.objs.size=some lo:=hk _ _ (ax _ rfl)
 show aH _ A.in1 (updateSeq s.heap.objs.size (·.push .none) >>= fun _=>updateSeq s.heap.objs.size (·.pop)) _ _ _;refine ae (pK hL1 rfl ?_)
 have hL2:=dP (cX (·.push fH)) hL1 rfl
 refine pK hL2 rfl ?_
 have hL3:=dP (cX (·.pop)) hL2 rfl
 have oth : ∀ b o,b≠s.heap.objs.size->h'.get? b=some o->((h'.update s.heap.objs.size (cX (·.push fH))).update s.heap.objs.size (cX (·.pop))).get? b=some o:=fun b o hb e=>(cy _ _ (d7 hb)).trans ((cy _ _ (d7 hb)).trans e)
 have hSf:s.heap.objs.size∉fp:=fun z=>by
  rcases hfa _ z with q | q
  ·have q' : @Eq Nat s.heap.objs.size a:=q;omega
  ·have q' : @LE.le Nat _ (s.heap.push lo).objs.size s.heap.objs.size:=q;omega
 have hlen:L.length=es.size:=by have:=hL.length_eq;simpa using this
 refine az ⟨plainId_quiet F.plain_extend_loop _,codeAny_extend_loopS (W A.in1 hh).toS hle s.heap.objs.size hSf _ es.size 0 _ _ _ rfl (dj _) ?_ hL3 (ItemsOf.nil _) fun s' acc' c' hmv hS' hacc => ?_⟩
 ·exact (W A.in1 hh).frame _ _ _ st fun b hb o e=>oth b o (fun q=>hSf (q▸hb)) e
 ·show aH _ A (load s.heap.objs.size >>= _) _ _ s'
  refine ae (vQ hS' (az (hQ s' acc'.toList (fun b o e hba => ?_) hmv.gens hmv.os ?_ (aQ (aC hS')))))
  ·have hb : @Ek Nat _ b s.heap.objs.size:=aC e
   refine hmv.heap b o (fun z => ?_) (oth b o (aG hb) (hk b o (ah _ e)))
   rcases aJ.mp z with q | q
   ·have q' : @Eq Nat b s.heap.objs.size:=q;omega
   ·have q' : @Eq Nat b I:=bN.mp q;omega
  ·have eL:acc'.toList=L:=by
    apply sr
    intro j
    by_cases hj:j < es.size
    ·have h1:j < acc'.size:=by rw [hacc.1];exact hj
     have:=hacc.2 j acc'[j] (by simp [h1])
     rw [this];simp [h1]
    ·rw [eK (by rw [dG,hacc.1];exact cf (by assumption)),eK (by omega)]
   rw [eL]
   refine⟨L.map IL,xt fun v hv => ?_,(hL.map _).trans (by rw [fK];exact he.pm)⟩
   obtain⟨e,hm,rfl⟩:=aE.mp (hL.mem_iff.mp hv)
   exact he.int hm
theorem yx {prog:Program}{w:World}{A:Around}{E:Value->Shared->Prop}{s:Shared}{d:Addr}{ns:List Int}{Q:Value->Shared->Prop} (hh:A.handled=none) (hS:qQ prog w s.heap d (!w.params.followText "set-order") ns) (h64:ns.length < 64)
  (h : ∀ (out:Array Value) (ns':List Int) (a:Addr) (e:Nat) (s':Shared),IntsAre out.toList ns'->ns'.Perm ns->ns'.Pairwise (· <= ·)->s.heap.objs.size<=a->(∀ b o',s.heap.get? b=some o'->b≠d->s'.heap.get? b=some o')->s'.gens=s.gens->s'.os=s.os ->
   s'.heap.get? a=some (seqObj "list" out e)->Q (.ref a) s') :
  aH (model prog w) A (call (.builtin "sorted") [.ref d]) Q E s:=by
 refine kT kind_sorted plain_sorted entry_sorted (args_sorted1 _) ?_
 unfold Builtin.«sorted»
 refine ae (m:=checkCount "sorted" 1 1 _) (az (ae (xk (A:=A.in1) hh hS fun s1 acc hk1 hg hos ⟨ms,hI,hp⟩ hle => ?_)))
 have hal:acc.length < 64:=by rw [iR hI,hp.length_eq];exact h64
 refine ae (wpAny_newList ?_)
 have hoL:(s1.heap.push (seqObj "list" acc.toArray 0)).get? s1.heap.objs.size=some (seqObj "list" acc.toArray 0):=ax _ rfl
 show aH _ _ _ _ _ { s1 with heap:=s1.heap.push (seqObj "list" acc.toArray 0) }
 refine ae (dZ (dX slot_list_sort ⟨_,hoL,rfl⟩ entry_list_sort (list_sort_tree hoL hI hal fun out ns' a1 a2 a3=>⟨_,rfl,?_⟩) (args_list_sort _)))
 obtain⟨e,he⟩:=sortedHeap_at (out:=out) hoL
 exact az ⟨_,rfl,h out ns' _ e _ a1 (a2.trans hp) a3 hle (fun b o' hb hbd=>by
  have hb1:=hk1 b o' hb hbd
  have hlt:=aC hb1
  show (Heap.get? _ b)=_
  rw [sortedHeap_old (aG hlt) (by rw [size_push'];exact cq hlt),so _ _ _ (aG hlt)]
  exact hb1) hg hos he⟩
section
noncomputable def Gu (n m:Nat):Prop:=n < 4000/\m < 64
noncomputable instance (n m:Nat):Decidable (Gu n m):=bJ _
noncomputable def bSS:MF:=fun us S=>match us with
 | [x]=>((dS S x).bind fun xs=>dw oj xs).bind fun ns=>if Gu ns.length (ddp ns).length then some (.ref S.length,S ++ [.lst ((mx (ddp ns)).map U.int)]) else none
 | _=>none
end
noncomputable def rSS (K:ak):List V->Hp->VK->Prop:=fun xs H Q => ∃ (p:Addr) (ns:List Int),xs = [.ref p]/\(SqL K H p (ns.map V.int)\/SqT K H p (ns.map V.int))/\Gu ns.length (ddp ns).length /\ ∀ l,H l=none->Q (.ref l) (upd H l (.lst ((mx (ddp ns)).map V.int)))
theorem K9 {K:KX}:nu K (rSS K) bSS:=by
 intro μ S H us vs u S' Q hr rs e a
 unfold bSS at e
 split at e
 ·rename_i x
  obtain⟨v,r,rfl,rx,rn⟩:=rs.inv
  rw [rn.nil_inv]
  cases q1:dS S x with
  | none=>rw [q1] at e;cases e
  | some ws=>
    rw [q1] at e
    simp only [ai] at e
    cases q:dw oj ws with
    | none=>rw [q] at e;cases e
    | some ns=>
      rw [q] at e
      simp only [ai] at e
      split at e
      rotate_left
      ·cases e
      rename_i hc
      cases e
      obtain⟨p,ys,rfl,hs,r'⟩:=hr.seq rx q1
      rw [u0 r' q] at hs
      exact⟨p,ns,rfl,hs,hc,fun l hl=>jP a hr (oS _) hl⟩
 ·cases e
theorem Inv.drawn {X:Cx}{pins:List (Addr×Obj)}{σ:_L.St}{H:Hp}{s s':Shared} (I:Inv X pins σ H s) (h1:s'.heap=s.heap) (h2:s'.gens=s.gens) (h3:s'.os=s.os):Inv X pins σ H s':=by
 obtain⟨a,b,c,d,e⟩:=s'
 simp only at h1 h2 h3
 subst h1 h2 h3
 exact⟨I.ok,I.os,I.bare,I.base,I.loc,I.cell,I.free,I.freeC,I.pin,I.hok,I.len⟩
theorem KF {X:Cx}{e:Expr}{t:TA}{p q rp pos:Pos} (hc:X.calm=true) (hg:Gl X "sorted") (hm:X.mg "sorted"=none) (hg2:Gl X "set") (hm2:X.mg "set"=none) (ha:PA X [e] t) (he:starEach [e] X.env=(false,eval e X.env)::starEach [] X.env):PE X (.Call (.Name "sorted" p) [.Call (.Name "set" q) [e] [] rp] [] pos) (tCB (rSS X.K) t):=by
 intro pins s σ H Q I h
 refine dW (je I hg hm su ?_ (by decide) (by decide))
 refine o3 ?_ rfl rfl
 show aH _ _ (spliced ((false,eval (.Call (.Name "set" q) [e] [] rp) X.env)::backTo pos (starEach [] X.env))) _ _ s
 refine ku (dW (je I hg2 hm2 PyProof.Rows.boot_set ?_ (by decide) (by decide)))
 refine cb (thn (ha rp pins s σ H _ I h) fun us s1 ⟨vs,H1,I1,r1,q1⟩ => ?_) he rfl
 obtain⟨a,ns,rfl,hS,⟨hk1,hk2⟩,qq⟩:=q1
 cases r1 with
 | cons r1 rr=>
   cases rr
   cases (show _=bp a from r1)
   have hh:=I1.ok.hd hc
   have fin : ∀ (T:String) (items:Array Value) (nl:Nat) (od:Option Addr) (osl:Array (Option Value)),T="list"\/T="tuple"->s1.heap.get? a=some { cls := .type T,dict:=od,data := .seq items nl,slots:=osl }->IntsAre items.toList ns ->
     aH (model X.prog X.w) X.A (call (.type "set") [.ref a]) (fun u s2=>aH (model X.prog X.w) X.A (spliced (backTo pos (starEach [] X.env))) (fun us s3=>aH (model X.prog X.w) X.A (call (.builtin "sorted") (u::us)) (EP X pins σ Q) X.xe s3) X.xe s2) X.xe s1:=by
    intro T items nl od osl hT hol hi
    refine BZ hT hh hol hi (by unfold scanBound;exact aN (by assumption) (by decide)) fun h2 tk hset hold=>r9 ?_
    refine yx (s:={ s1 with heap:=h2,toks:=tk }) hh hset hk2 fun out ns' l ee s3 a1 a2 a3 hle hkp hgn hos hl => ?_
    have e':=ow a2 a3
    subst e'
    have la : ∀ b o,s1.heap.get? b=some o->s3.heap.get? b=some o:=fun b o e=>hkp b o (hold b o (by simp) e) (aG (aC e))
    have lz:s1.heap.objs.size<=l:=by
     obtain⟨es,ep,t,g,_⟩:=hset
     have : @Ek Nat _ s1.heap.objs.size h2.objs.size:=aC g
     have z : @LE.le Nat _ h2.objs.size l:=hle
     exact aQ (ao this z)
    have I3:=I1.laid (t':=s3.toks) (o := .lst ((mx (ddp ns)).map V.int)) (h':=s3.heap) (a:=l) la lz ⟨by rw [aw,(iy _).length_eq,sizeLine_eq];omega,out.toList,ee,mE a1,by rw [hl]⟩
    exact⟨.ref l,_,Inv.drawn I3 rfl hgn hos,rfl,qq _ (I1.hok.fresh lz)⟩
   rcases hS with hS | hS
   ·obtain⟨its,rv,pl,_⟩:=I1.list hS
    obtain⟨⟨oc,od,odt,osl⟩,ho,hcl,n,hd⟩:=pl.isList
    simp only at hcl hd
    subst hcl hd
    exact fin "list" _ n _ _ (.inl rfl) ho (intsAre_of rv)
   ·obtain⟨its,rv,pl,_⟩:=I1.tuple hS
    obtain⟨⟨oc,od,odt,osl⟩,ho,hcl,n,hd⟩:=pl
    simp only at hcl hd
    subst hcl hd
    exact fin "tuple" _ n _ _ (.inr rfl) ho (intsAre_of rv)
end _G
end
section
namespace _G
open PySem PySem.Spec _L
open PyProof.Rows hiding St
section
end
end _G
end
section
namespace _G
open PySem PySem.Spec _L
open PyProof.Rows hiding St
section
section
variable {prog:Program}{w:World}{A:Around}{E:Value->Shared->Prop}{s:Shared}
end
section
variable {X:Cx}{e:Expr}{te:TE}{pos p2 p3 p4:Pos}{j:Nat}
end
section
variable {K:KX}{σ:St}{H:Hp}{Q:VK}
end
end
end _G
end
section
namespace _G
open PySem PySem.Spec _L
open PyProof.Rows hiding St
section
noncomputable def om:ME:=fun _ S=>some (.ref S.length,S ++ [.dic []])
noncomputable def qX (k v:ME):ME:=fun ρ S=>bnd (k ρ (S ++ [.dic []])) fun x S1=>bnd (v ρ S1) fun y S2=>(keyOf x).bind fun kk=>match S2[S.length]? with
 | some (.dic [])=>some (.ref S.length,S2.set S.length (.dic [(kk,y)]))
 | _=>none
section
variable {K:KX}{σ:St}{H:Hp}{Q:VK}
theorem zY {μ:List Addr}{S:Sto}{p:Addr} (hr:HR K μ S H) (hp:H p=none):HR K (μ ++ [p]) (S ++ [.dic []]) (upd H p (.dK [])):=
 hr.newC hp rfl ⟨[],cJ,.nil⟩
theorem z7 {μ:List Addr}{S:Sto}{p:Addr} (hr:HR K μ S H):(μ ++ [p])[S.length]? = some p:=by
 rw [<- hr.len,aA (aj _)];simp
theorem Ic (h:tM K om σ H Q):Cr σ H Q:=by
 obtain⟨μ,S,ρ,u,S',hr,er,e,k⟩:=h
 cases e
 intro p hp
 exact k (μ ++ [p]) _ _ ⟨[p],rfl⟩ (bF.new hp) (zY hr hp) (qU (z7 hr))
theorem Jh {a b:ME} (h:tM K (qX a b) σ H Q):Hu [(tM K a,tM K b)] σ H Q:=by
 obtain⟨μ,S,ρ,u,S',hr,er,e,k⟩:=h
 intro p hp
 obtain⟨x,S1,e1,e⟩:=bj e
 obtain⟨y,S2,e2,e⟩:=bj e
 have pre:Pre μ (μ ++ [p]):=⟨[p],rfl⟩
 refine⟨μ ++ [p],S ++ [.dic []],ρ,x,S1,zY hr hp,er.mono (bF.new hp) pre,e1,fun μ1 vx H1 p1 k1 hr1 rx => ?_⟩
 refine⟨μ1,S1,ρ,y,S2,hr1,er.mono ((bF.new hp).trans k1) (pre.trans p1),e2,fun μ2 vy H2 p2 k2 hr2 ry => ?_⟩
 cases qk:keyOf x with
 | none=>rw [qk] at e;cases e
 | some kk=>
   rw [qk] at e
   simp only [ai] at e
   split at e
   ·rename_i q
    cases e
    have hm:=p2.get (p1.get (z7 hr (p:=p)))
    obtain⟨vs,e0,r0⟩:=hr2.cell _ _ p q hm
    have hv:vs = []:=r0.nil_inv
    subst hv
    have kw:bF H2 (upd H2 p (.dK (pk [] [(kk,vy)]))):=bF.wrG e0 fun _ z=>by cases z
    refine⟨e0,[(kk,vy)],?_,by simp,?_⟩
    ·rw [qb (RU.mono k2 p2 _ _ rx) qk];rfl
    ·refine k μ2 _ _ (pre.trans (p1.trans p2)) ((bF.new hp).trans (k1.trans (k2.trans kw))) (hr2.wrC q hm rfl rfl ⟨[vy],by rw [cJ];rfl,.cons (RU.mono kw (Pre.refl _) _ _ ry) .nil⟩) (qU hm)
   ·cases e
noncomputable def KH (i:Int):Prop:=i.natAbs.log2 < 1920
noncomputable instance (i:Int):Decidable (KH i):=bJ _
end
end
end _G
end
section
namespace _G
open PySem PySem.Spec _L
open PyProof.Rows hiding St
section
abbrev MG:=U->Rho->Sto->Option (Rho×Sto)
abbrev MGs:=List U->Rho->Sto->Option (Rho×Sto)
noncomputable def gN (i:Nat):MG:=fun u ρ S=>some (ρ.set i (some u),S)
noncomputable def wx:MGs:=fun us ρ S=>match us with
 | []=>some (ρ,S)
 | _=>none
noncomputable def j4 (g:MG) (r:MGs):MGs:=fun us ρ S=>match us with
 | []=>none
 | u::us=>(g u ρ S).bind fun p=>r us p.1 p.2
noncomputable def gTp (n:Nat) (gs:MGs):MG:=fun u ρ S=>match u with
 | .tup us=>if us.length=n then gs us ρ S else none
 | _=>none
noncomputable def tG (K:KX) (g:MG):TG:=fun v σ H Q => ∃ μ S ρ u r,HR K μ S H/\ER H μ ρ σ/\RU H μ u v/\g u ρ S=some r /\ ∀ μ' σ' H',Pre μ μ'->bF H H'->HR K μ' r.2 H'->ER H' μ' r.1 σ'->Q σ' H'
noncomputable def tGs (K:KX) (g:MGs):TGs:=fun vs σ H Q => ∃ μ S ρ us r,HR K μ S H/\ER H μ ρ σ/\RUs H μ us vs/\g us ρ S=some r /\ ∀ μ' σ' H',Pre μ μ'->bF H H'->HR K μ' r.2 H'->ER H' μ' r.1 σ'->Q σ' H'
theorem PG.con {X:Cx}{tg:Expr}{t u:TG} (h:PG X tg t) (k : ∀ v σ H Q,u v σ H Q->t v σ H Q):PG X tg u:=fun pins s σ H v w Q I r q=>h pins s σ H v w Q I r (k _ _ _ _ q)
theorem PGs.con {X:Cx}{tg:List Expr}{t u:TGs} (h:PGs X tg t) (k : ∀ v σ H Q,u v σ H Q->t v σ H Q):PGs X tg u:=fun pins s σ H v w Q I r q=>h pins s σ H v w Q I r (k _ _ _ _ q)
section
variable {K:KX}{σ:St}{H:Hp}{Q:St->Hp->Prop}{v:V}{D:Ends}
theorem NB {i:Nat} (h:tG K (gN i) v σ H Q):i5 i v σ H Q:=by
 obtain⟨μ,S,ρ,u,r,hr,er,ru,e,k⟩:=h
 cases e
 exact k μ _ H (Pre.refl _) (bF.refl _) hr (er.set ru i)
theorem HM {vs:List V} (h:tGs K wx vs σ H Q):L5 vs σ H Q:=by
 obtain⟨μ,S,ρ,us,r,hr,er,rs,e,k⟩:=h
 cases us with
 | nil=>cases e;exact⟨rs.nil_inv,k μ _ H (Pre.refl _) (bF.refl _) hr er⟩
 | cons u us=>cases e
theorem GL {g:MG}{gs:MGs}{vs:List V} (h:tGs K (j4 g gs) vs σ H Q):GX (tG K g) (tGs K gs) vs σ H Q:=by
 obtain⟨μ,S,ρ,us,r,hr,er,rs,e,k⟩:=h
 cases us with
 | nil=>cases e
 | cons u us=>
   obtain⟨v,vr,rfl,ra,rb⟩:=rs.inv
   cases q:g u ρ S with
   | none=>rw [show j4 g gs (u::us) ρ S=(g u ρ S).bind fun p=>gs us p.1 p.2 from rfl,q] at e;cases e
   | some p=>
     rw [show j4 g gs (u::us) ρ S=(g u ρ S).bind fun p=>gs us p.1 p.2 from rfl,q] at e
     refine⟨v,vr,rfl,μ,S,ρ,u,p,hr,er,ra,q,fun μ1 σ1 H1 p1 k1 hr1 er1 => ?_⟩
     exact⟨μ1,p.2,p.1,us,r,hr1,er1,RUs.mono k1 p1 _ _ rb,e,fun μ2 σ2 H2 p2 k2=>k μ2 σ2 H2 (p1.trans p2) (k1.trans k2)⟩
theorem KE {n:Nat}{gs:MGs} (h:tG K (gTp n gs) v σ H Q):KA K n (tGs K gs) v σ H Q:=by
 obtain⟨μ,S,ρ,u,r,hr,er,ru,e,k⟩:=h
 unfold gTp at e
 split at e
 ·rename_i us
  split at e
  ·rename_i hl
   obtain⟨a,vs,rfl,ha,rs⟩:=jU ru
   exact⟨a,vs,rfl,.inl (.inl ha),by rw [<- rs.len];exact hl,μ,S,ρ,us,r,hr,er,rs,e,k⟩
  ·cases e
 ·cases e
end
end
end _G
end
section
namespace _G
open PySem PySem.Spec _L
open PyProof.Rows hiding St
section
noncomputable def G0 (g:MG) (b:MS):List U->MS
 | [],ρ,S=>some (.nx,ρ,S)
 | x::xs,ρ,S=>(g x ρ S).bind fun p=>aft (b p.1 p.2) (G0 g b xs)
noncomputable def G2 (g:MG) (b:MS) (n:Nat):Nat->Nat->MS
 | 0,_,_,_=>none
 | f+1,k,ρ,S=>(getL S n).bind fun us=>match us[k]? with
   | none=>some (.nx,ρ,S)
   | some x=>(g x ρ S).bind fun p=>aft (b p.1 p.2) (G2 g b n f (k+1))
noncomputable def pH (g:MG) (b:MS) (n:Nat):Nat->Nat->MS
 | 0,_,_,_=>none
 | f+1,k,ρ,S=>(getL S n).bind fun us=>match us[k]? with
   | none=>some (.nx,ρ,S)
   | some x=>(g (.tup [.int k,x]) ρ S).bind fun p=>aft (b p.1 p.2) (pH g b n f (k+1))
noncomputable def MP (g:MG) (b:MS):Src->MS
 | .imm us=>G0 g b us
 | .mut n=>G2 g b n fuel 0
 | .enl n=>pH g b n fuel 0
 | _=>fun _ _=>none
noncomputable def tL (g:MG) (it:MI) (b:MS):MS:=fun ρ S=>bnd (it ρ S) fun src S1=>MP g b src ρ S1
section
variable {K:KX}{σ:St}{H:Hp}{Q:VK}{D:Ends}
theorem CQ {g:MG}{b:MS}{ρ:Rho}{S:Sto}{x:U}{v:V}{μ μ0:List Addr}{H0:Hp}{k:MS}{r:Fl×Rho×Sto}{N:St->Hp->Prop} (hr:HR K μ S H) (er:ER H μ ρ σ) (rx:RU H μ x v) (e:((g x ρ S).bind fun p=>aft (b p.1 p.2) k)=some r) (p:Pre μ0 μ) (kp:bF H0 H) (fl:FlP K μ0 H0 D r)
  (hN : ∀ μ1 σ1 H1 ρ1 S1,Pre μ0 μ1->bF H0 H1->HR K μ1 S1 H1->ER H1 μ1 ρ1 σ1->k ρ1 S1=some r->N σ1 H1):tG K g v σ H fun σ2 H2=>tMS K b { D with nx:=N,ct:=N,bk:=D.nx } σ2 H2:=by
 cases q:g x ρ S with
 | none=>rw [q] at e;cases e
 | some y=>
   rw [q] at e
   exact⟨μ,S,ρ,x,y,hr,er,rx,q,fun μ1 σ1 H1 p1 k1 hr1 er1=>mH hr1 er1 e (p.trans p1) (kp.trans k1) fl hN⟩
theorem FJ {a:MA}{R:It->Hp->Prop}{μ:List Addr}{S S1:Sto}{ρ:Rho}{src:Src} (hr:HR K μ S H) (er:ER H μ ρ σ) (e:rR a ρ S=some (src,S1))
  (hL : ∀ μ1 H1 n p,Pre μ μ1->bF H H1->HR K μ1 S1 H1->src = .enl n->μ1[n]? = some p->R (AM K p) H1):vn K (tMA K a) σ H R:=by
 obtain⟨xs,S2,e1,e⟩:=bj e
 split at e
 ·rename_i n
  cases q:getL S2 n with
  | none=>rw [q] at e;cases e
  | some us=>
    rw [q] at e
    simp only [aT,eD,Prod.mk.injEq] at e
    obtain⟨e2,e3⟩:=e
    subst e3
    refine⟨μ,S,ρ,_,_,hr,er,e1,fun μ1 vs H1 p1 k1 hr1 rs => ?_⟩
    obtain⟨v,r,rfl,rx,rn⟩:=rs.inv
    rw [rn.nil_inv]
    obtain⟨p,rfl,hp⟩:=fO rx
    obtain⟨a',ws,ha',hs,_⟩:=hr1.sq q
    rw [hp] at ha';cases ha'
    exact .inr ⟨p,ws,rfl,hs,hL μ1 H1 n p p1 k1 hr1 e2.symm hp⟩
 ·cases e
theorem ES {g:MG}{b:MS}{n f:Nat}{ρ:Rho}{S:Sto}{μ:List Addr}{a:Addr}{r:Fl×Rho×Sto} (hr:HR K μ S H) (er:ER H μ ρ σ) (e:pH g b n f 0 ρ S=some r) (fl:FlP K μ H D r) (ha:μ[n]? = some a) :
  ∃ W:Nat->Nat->St->Hp->Prop,(∃ m,W 0 m σ H) /\ ∀ k m σ H,W k m σ H ->
   ((AM K a).stop k H/\D.nx σ H)\/((AM K a).go k H /\ ∃ N:St->Hp->Prop,(∀ σ' H',N σ' H' -> ∃ m',m' < m/\W (k+1) m' σ' H') /\ ∀ x H',(AM K a).yld k H x H'->tG K g x σ H' fun σ2 H2=>tMS K b { D with nx:=N,ct:=N,bk:=D.nx } σ2 H2):=by
 refine⟨fun k m σ1 H1 => ∃ μ1 S1 ρ1,Pre μ μ1/\bF H H1/\HR K μ1 S1 H1/\ER H1 μ1 ρ1 σ1/\pH g b n m k ρ1 S1=some r,⟨f,μ,S,ρ,Pre.refl _,bF.refl _,hr,er,e⟩,?_⟩
 rintro k m σ1 H1 ⟨μ1,S1,ρ1,p1,k1,hr1,er1,e1⟩
 cases m with
 | zero=>cases e1
 | succ m=>
   unfold pH at e1
   cases q:getL S1 n with
   | none=>rw [q] at e1;cases e1
   | some us=>
     rw [q] at e1
     simp only [ai] at e1
     obtain⟨a',vs,ha',hs,rs⟩:=hr1.sq q
     rw [p1.get ha] at ha';cases ha'
     cases z:us[k]? with
     | none=>
       rw [z] at e1
       cases e1
       refine .inl ⟨⟨vs,hs,?_⟩,fl μ1 σ1 H1 p1 k1 hr1 er1⟩
       rw [<- rs.len];exact lq.mp z
     | some u=>
       rw [z] at e1
       obtain⟨v,hv,rv⟩:=rs.get z
       refine .inr ⟨⟨vs,v,hs,hv⟩,fun σ2 H2 => ∃ μ2 S2 ρ2,Pre μ μ2/\bF H H2/\HR K μ2 S2 H2/\ER H2 μ2 ρ2 σ2/\pH g b n m (k+1) ρ2 S2=some r,fun σ' H' w=>⟨m,cg _,w⟩,fun x H' y => ?_⟩
       obtain⟨T,w,hy,hT,rfl,rfl⟩:=y
       have hyk:=hy vs hs
       rw [hv] at hyk;cases hyk
       have kp:bF H1 (upd H1 T (.tup [.int k,v])):=bF.new hT
       have rx:RU (upd H1 T (.tup [.int k,v])) μ1 (.tup [.int k,u]) (.ref T):=jY cJ (.cons eI (.cons (RU.mono kp (Pre.refl _) _ _ rv) .nil))
       exact CQ (hr1.tup hT) (er1.mono kp (Pre.refl _)) rx e1 p1 (k1.trans kp) fl fun μ2 σ2 H2 ρ2 S2 p2 k2 hr2 er2 e2=>⟨μ2,S2,ρ2,p2,k2,hr2,er2,e2⟩
theorem K6 {g:MG}{a:MA}{b:MS} (h:tMS K (tL g (rR a) b) D σ H):uQ (vn K (tMA K a)) (tG K g) (tMS K b) D σ H:=by
 obtain⟨μ,S,ρ,r,hr,er,e,fl⟩:=h
 obtain⟨src,S1,e1,e⟩:=bj e
 refine FJ hr er e1 fun μ1 H1 n p p1 k1 hr1 hs hp => ?_
 subst hs
 exact ES hr1 (er.mono k1 p1) e (fl.mono p1 k1) hp
end
end
end _G
end
section
namespace _G
open PySem PySem.Spec _L
open PyProof.Rows hiding St
section
section
variable {K:KX}{σ:St}{H:Hp}{Q:VK}
end
end
end _G
end
section
namespace _G
open PySem PySem.Spec _L
open PyProof.Rows hiding St
section
section
variable {prog:Program}{w:World}{A:Around}{E:Value->Shared->Prop}{s:Shared}
theorem sR {Q:List Value->Shared->Prop}{r:Addr}{a b c:Int}{t u v:Tok}{n:Nat} (hh:A.handled=none) (hr:IsRange s.heap r a b c t u v) (hsmall:eN a b c=true)
  (hn:bH a b c=n) (hlen:n<=2 ^ 24)
  (hQ : ∀ (h':Heap) (tk:Nat) (acc:Array Value),(∀ b o,s.heap.get? b=some o->h'.get? b=some o)->s.heap.objs.size<=h'.objs.size->ItemsOf (fun i v => ∃ t,v = .int (a+i*c) t) acc n->Q acc.toList { s with heap:=h',toks:=tk }) :
  aH (model prog w) A (collect (.ref r)) Q E s:=by
 unfold collect
 refine ae (ju (cK jw ?_))
 rw [bT jx _]
 show aH _ A.in1 (newList [] >>= fun l=>again (.builtin "list.__iadd__" ⟨[l,.ref r],[]⟩)) _ _ s
 refine ae (cU (az ⟨plainId_quiet d9 _,cK mW ?_⟩))
 rw [bT d9 _]
 have hS:(s.heap.push { cls := .type "list",data := .seq ([]:List Value).toArray }).get? s.heap.objs.size=some { cls := .type "list",data := .seq #[] 0 }:=ax _ rfl
 have lt : ∀ b o,s.heap.get? b=some o->b≠s.heap.objs.size:=fun b o e=>aG (aC e)
 refine da (wpAny_extend_range (A:=A) (R:=fun x s' => ∃ h' tk acc c',x = .ok (.ret (.ref s.heap.objs.size))/\s'={ s with heap:=h',toks:=tk }/\(∀ b o,s.heap.get? b=some o->h'.get? b=some o) /\
   h'.get? s.heap.objs.size=some { cls := .type "list",dict:=none,data := .seq acc c',slots := #[] }/\ItemsOf (fun i v => ∃ t,v = .int (a+i*c) t) acc n)
  (s:={ s with heap:=s.heap.push { cls := .type "list",data := .seq ([]:List Value).toArray } }) hh (ah _ hr) hsmall hn hlen s.heap.objs.size (.ref s.heap.objs.size) 0 hS
  fun h' tk acc c' hk hS' hacc=>⟨h',tk,acc,c',rfl,rfl,fun b o e=>hk b o (lt b o e) (ah _ e),hS',hacc⟩) (fun fin s' h => ?_) (fun e s' h=>by obtain⟨_,_,_,_,h,_⟩:=h;cases h)
 have fin' : ∀ x s',(∃ h' tk acc c',x=(.ok (.ret (.ref s.heap.objs.size)):Result)/\s'={ s with heap:=h',toks:=tk }/\(∀ b o,s.heap.get? b=some o->h'.get? b=some o) /\
   h'.get? s.heap.objs.size=some { cls := .type "list",dict:=none,data := .seq acc c',slots := #[] }/\ItemsOf (fun i v => ∃ t,v = .int (a+i*c) t) acc n)->x = .ok (.ret (.ref s.heap.objs.size))/\aH (model prog w) A (match bp s.heap.objs.size with
   | bp a=>do
     match (<- load a).data with
      | ED xs _=>pure xs.toList
      | _=>unsupported "internal:collect"
   | _=>unsupported "internal:collect") Q E s':=by
  rintro x s' ⟨h',tk,acc,c',rfl,rfl,hk,hS',hacc⟩
  refine⟨rfl,?_⟩
  show aH _ A (load s.heap.objs.size >>= _) _ _ _
  refine ae (vQ hS' (az ?_))
  exact hQ h' tk acc hk (aQ (aC hS')) hacc
 cases fin with
 | done f=>
   obtain⟨e,q⟩:=fin' _ _ h
   cases e
   exact q
 | again c'=>exact⟨h.1,il h.2 fun r s'' hr=>by
   obtain⟨e,q⟩:=fin' _ _ hr
   subst e
   exact q⟩
theorem lR {Q₁:Value->Shared->Prop}{r:Addr}{a b c:Int}{t u v:Tok}{n:Nat} (hh:A.handled=none) (hr:IsRange s.heap r a b c t u v) (hsmall:eN a b c=true)
  (hn:bH a b c=n) (hlen:n<=2 ^ 24)
  (h : ∀ (h':Heap) (tk:Nat) (acc:Array Value),(∀ b o,s.heap.get? b=some o->h'.get? b=some o)->s.heap.objs.size<=h'.objs.size->ItemsOf (fun i v => ∃ t,v = .int (a+i*c) t) acc n->Q₁ (.ref h'.objs.size) { s with heap:=h'.push { cls := .type "tuple",data := .seq acc },toks:=tk }) :
  nz (model prog w) A (.call (.builtin "tuple.__new__") ⟨[.type "tuple",.ref r],[]⟩) (wants Q₁ E) s:=by
 refine Bx ?_
 show aH _ A.in1 (do checkBuiltinCall "tuple.__new__" ⟨[.type "tuple",.ref r],[]⟩;again (.builtin "tuple.__new__" ⟨[.type "tuple",.ref r],[]⟩)) _ _ s
 refine ae (ie (F.newCall_tuple_1 _) (az ⟨plainId_quiet F.plain_tuple_new _,cK F.entry_tuple_new ?_⟩))
 rw [bT F.plain_tuple_new _]
 have hsub:=sub_tuple_self
 have hinit:=init_tuple_lookup
 have hmh:=madeHere_tuple
 have hTI:s.TypeIs (.ref r) "range":=⟨_,hr,rfl⟩
 have hh1:A.in1.handled=none:=hh
 wp_walk using pE hTI,sR hh1 hr hsmall hn hlen
 intro h' tk acc hk hle hacc
 show aH _ _ (sg acc.toList.toArray >>= fun v=>ret v) _ _ _
 unfold sg
 refine ae (cU ?_ (by show acc.toList.toArray.size<=sizeLine;simp only [Array.toArray_toList];rw [hacc.1,sizeLine_eq];exact hlen))
 refine az ?_
 have e:acc.toList.toArray=acc:=by simp
 rw [e]
 exact h h' tk acc hk hle hacc
theorem o7 {Q:Value->Shared->Prop}{r:Addr}{a b c:Int}{t u v:Tok}{n:Nat} (hh:A.handled=none) (hr:IsRange s.heap r a b c t u v) (hsmall:eN a b c=true)
  (hn:bH a b c=n) (hlen:n<=2 ^ 24)
  (h : ∀ (h':Heap) (tk:Nat) (acc:Array Value),(∀ b o,s.heap.get? b=some o->h'.get? b=some o)->s.heap.objs.size<=h'.objs.size->ItemsOf (fun i v => ∃ t,v = .int (a+i*c) t) acc n->Q (.ref h'.objs.size) { s with heap:=h'.push { cls := .type "tuple",data := .seq acc },toks:=tk }) :
  aH (model prog w) A (call (.type "tuple") [.ref r]) Q E s:=by
 refine callType_codes (Q₁:=fun obj s₁=>s₁.TypeIs obj "tuple"/\Q obj s₁) F.called_tuple (F.typeCall_tuple_1 _) F.entry_object_init
  (lR hh hr hsmall hn hlen fun h' tk acc hk hle hacc=>⟨⟨_,ax _ rfl,rfl⟩,h h' tk acc hk hle hacc⟩) fun obj s₁ h₁ => ?_
 exact⟨h₁.1,F.args_object_init_2 obj _,object_init_meets F.called_tuple.init.lookup F.called_tuple.made (by decide) prog w A.in1 _ s₁ ⟨h₁.1,rfl,h₁.2⟩⟩
end
theorem qr {X:Cx} (hc:X.calm=true):gQ X (.type "tuple") (fun xs H Q => ∃ r lo hi,xs = [.ref r]/\H r=some (.rng lo hi)/\(-(2 ^ 62)<=lo/\lo < 2 ^ 62 /\ -(2 ^ 62)<=hi/\hi < 2 ^ 62)/\(hi - lo).toNat<=sizeLine /\ ∀ l,H l=none->Q (.ref l) (upd H l (.tup (lx lo (hi - lo).toNat)))):=by
 intro pins s σ H xs us Q I rs h
 obtain⟨r,lo,hi,rfl,hr,⟨h1,h2,h3,h4⟩,hz,q⟩:=h
 cases rs with
 | cons r1 rr=>
   cases rr
   cases (show _=bp r from r1)
   obtain⟨t,u,v,e⟩:=I.hok r _ hr
   have hn:bH lo hi 1=((hi - lo).toNat:Nat):=by rw [rangeSize_one];split <;> omega
   refine o7 (n:=(hi - lo).toNat) (I.ok.hd hc) e (small_one h1 h2 h3 h4) hn (by rw [sizeLine_eq] at hz;exact hz) fun h' tk acc hk hle hacc => ?_
   obtain⟨hsz,hit⟩:=hacc
   refine⟨.ref h'.objs.size,_,I.laid (t':=tk) (o := .tup (lx lo (hi - lo).toNat)) (fun b o e=>ah _ (hk b o e)) hle ?_,rfl,q _ (I.hok.fresh hle)⟩
   refine⟨by rw [lx,aw,ba];exact hz,acc.toList,?_,tz _ _,_,ax _ rfl,rfl⟩
   refine vm (by rw [lx,aw,ba,dG,hsz]) fun i x w h5 h6 => ?_
   have hlt:i < (hi - lo).toNat:=by
    have:=(ag.mp h5).1
    rwa [lx,aw,ba] at this
   have hx:(lx lo (hi - lo).toNat)[i]? = some (.int (lo+i)):=by simp [lx,hlt]
   rw [hx] at h5;cases h5
   obtain⟨t',e'⟩:=hit i w (by simpa using h6)
   exact⟨t',by rw [e'];simp⟩
section
variable {K:KX}{σ:St}{H:Hp}{Q:VK}
noncomputable def rTR:List V->Hp->VK->Prop:=fun xs H Q => ∃ r lo hi,xs = [.ref r]/\H r=some (.rng lo hi)/\(-(2 ^ 62)<=lo/\lo < 2 ^ 62 /\ -(2 ^ 62)<=hi/\hi < 2 ^ 62)/\(hi - lo).toNat<=sizeLine /\ ∀ l,H l=none->Q (.ref l) (upd H l (.tup (lx lo (hi - lo).toNat)))
theorem DG {μ:List Addr}{S1:Sto}{i j:Int}{r:Addr} (hr1:HR K μ S1 H) (ho:okR i/\okR j) (hz:(bo i (j - i).toNat).length<=big) (k:Aft K μ H (.tup (bo i (j - i).toNat)) S1 Q) (hrn:H r=none):rTR [.ref r] (upd H r (.rng i j)) Q:=by
 refine⟨r,i,j,rfl,cJ,⟨ho.1.1,ho.1.2,ho.2.1,ho.2.2⟩,?_,fun l hl => ?_⟩
 ·unfold bo big at hz;rw [aw,ba] at hz;rw [sizeLine_eq];exact hz
 ·have k2:=k.mono (Pre.refl _) (bF.new hrn (o := .rng i j))
  exact k2 μ _ _ (Pre.refl _) (bF.new hl) ((hr1.rng hrn).tup hl) (jY cJ (RUs.mono (bF.new hl) (Pre.refl _) _ _ (zl _ _)))
theorem FE {a:MA} (h:tM K (qz (iR1 a)) σ H Q):tCB rTR (rK (Dc (tMA K a)) yv) σ H Q:=by
 obtain⟨μ,S,ρ,u,S',hr,er,e,k⟩:=h
 obtain⟨src,S1,e1,e⟩:=bj e
 obtain⟨xs,S2,e2,e1⟩:=bj e1
 refine⟨μ,S,ρ,xs,S2,hr,er,e2,fun μ1 vs H1 p1 k1 hr1 rs => ?_⟩
 split at e1
 ·rename_i j
  split at e1
  ·rename_i hj
   cases e1
   simp only at e
   split at e
   ·rename_i hz
    cases e
    obtain⟨v,r,rfl,rx,rn⟩:=rs.inv
    rw [rn.nil_inv,dg rx]
    refine⟨j,rfl,hj.1,hj.2,fun r hrn => ?_⟩
    have ez:(j - 0).toNat=j.toNat:=by simp
    exact DG (i:=0) hr1 ⟨⟨by decide,by decide⟩,hj⟩ (by rw [ez];exact hz) (by rw [ez];exact k.mono p1 k1) hrn
   ·cases e
  ·cases e1
 ·cases e1
end
end
end _G
end
section
namespace _G
open PySem PySem.Spec _L
open PyProof.Rows hiding St
section
noncomputable def s9 (i:Nat) (f:Addr) (φ:MF) (a:MA):ME:=fun ρ S=>match ρ[i]? with
 | some (some (.obj g))=>if g=f then mFn φ a ρ S else none
 | _=>none
noncomputable def nJ (is:List Nat) (ρ:Rho):Option (List U):=dw (fun i=>(ρ[i]?).bind id) is
noncomputable def qG (np:Nat) (ml:ME) (cs:List U):MF:=fun us S=>if us.length=np then ml (us.map some++cs.map some) S else none
noncomputable def jW (F:Addr->MF->MF) (np:Nat) (is:List Nat) (ml:ME) (ma:ME):ME:=fun ρ S=>bnd (ma ρ S) fun x S1=>(nJ is ρ).bind fun cs=>
 open Classical in
 if h : ∃ r,∀ f,F f (qG np ml cs) [x,.obj f] S1=some r then some h.choose else none
theorem rM {F:Addr->MF->MF}{np:Nat}{is:List Nat}{ml ma:ME}{ρ:Rho}{S S1:Sto}{x:U}{cs:List U}{r:U×Sto} (ha:ma ρ S=some (x,S1)) (hc:nJ is ρ=some cs) (h : ∀ f,F f (qG np ml cs) [x,.obj f] S1=some r) :
  jW F np is ml ma ρ S=some r:=by
 have hx : ∃ r,∀ f,F f (qG np ml cs) [x,.obj f] S1=some r:=⟨r,h⟩
 unfold jW
 rw [ha]
 simp only [aI,hc,ai]
 rw [dif_pos hx]
 have e:=(hx.choose_spec 0).symm.trans (h 0)
 exact e
end
structure Lam (M:Mo) (f:Addr) (k:Nat) (ps:List Str) (φ:MF):Prop where
 ex : ∃ fd:FuncData,((∃ (oc:Value) (od:Option Addr) (sl:Array (Option Value)),M.base.get? f=some ⟨oc,od,.func fd,sl⟩)\/cj M.K (.ref f)=true)/\Binds M.K fd ps []/\ki M.P M.w M.K M.mg M.base CX0 k f fd ps (spM M.K φ)
section
variable {M:Mo}{X:Cx}{k:Nat}{N:List Str}{ns:List (Str×NameKind)}{e:Expr}{es:List Expr}{mas:MA}{x:Str}{p1 pos:Pos}
theorem GM {f:Addr}{φ:MF}{ps:List Str}{k':Nat} (S:Sc M X k N ns) (F:Lam M f k' ps φ) (hk:k'<=k) (i:Nat) (hi:N[i]? = some x) (hv:sP ns x=true) (ha:PA X (e::es) (tMA M.K mas))
  (hd:(x == ("__debug__":Str))=false) (hcd:(x == ("__classdict__":Str))=false)
  (he:starEach (e::es) X.env=(false,eval e X.env)::starEach es X.env) (hpl:(backTo pos (starEach es X.env)).any (·.1)=false) :
  PE X (.Call (.Name x p1) (e::es) [] pos) (tM M.K (s9 i f φ mas)):=by
 obtain⟨fd,hf,hb,F⟩:=F.ex
 rw [<- S.hP,<- S.hw,<- S.hK,<- S.hm,<- S.hb] at F
 rw [<- S.hb,<- S.hK] at hf
 rw [<- S.hK] at hb
 intro pins s σ H Q I h
 obtain⟨μ,S0,ρ,u,S',hr,er,q,aft⟩:=h
 unfold s9 at q
 split at q
 rotate_left
 ·cases q
 rename_i g hg
 split at q
 rotate_left
 ·cases q
 rename_i hgf
 subst hgf
 obtain⟨v,hσ,rv⟩:=er.get i _ hg
 have hv':v = .ref g:=by simpa only [RU] using rv
 subst hv'
 refine dW (thn (Eg (X:=X) (by rw [S.hN];exact hi) (S.vis hv) hd hcd pins s σ H (fun v H1=>v = .ref g/\H1=H) I ⟨_,hσ,rfl,rfl⟩) fun w s1 ⟨v,H1,I1,r1,e1,e2⟩ => ?_)
 subst e1;subst e2
 obtain rfl:w=bp g:=r1
 have hc:zX (spM M.K φ) [] E0 (tMA M.K mas) σ H1 Q:=CA ⟨μ,S0,ρ,u,S',hr,er,q,aft⟩
 have hA:=ha pos pins s1 σ H1 _ I1 hc
 rcases hf with⟨oc,od,sl,hf⟩ | hf
 rotate_left
 ·exact pD (h₀:=X.base) I1.ok.mod.kin hf (thn hA fun us s2 ⟨vs,H2,I2,r2,q2⟩=>⟨I2.kIn,uX F (S.room.mono hk) hb .nil zD I2 r2 q2⟩) he hpl
 rw [he]
 refine PySem.W.callWith_of (P:=fun h=>h.get? g=some ⟨oc,od,.func fd,sl⟩) (by show ((false||(backTo pos (starEach es X.env)).any (·.1))||false)=false;rw [hpl];rfl)
  (fun h q=>⟨.frame,.inl rfl,(PySem.W.Looks.ld (part:=none) q).andThen .now⟩) (oY ?_)
 rw [he] at hA
 refine thn hA fun us s2 ⟨vs,H2,I2,r2,q2⟩=>⟨I2.bk g _ hf,?_⟩
 exact uX F (S.room.mono hk) hb .nil zD I2 r2 q2
end
end _G
end
section
namespace _G
open PySem PySem.Spec _L
open PySem.W (envX kla_fn kla_obj CodeHd tabObj)
open PyProof.Rows hiding St
structure mq (ps fs:List Str) (scope:Scope):Prop where
 kind:scope.kind = .function
 co:scope.isCoroutine=false
 gen:scope.isGenerator=false
 nd:(ps++fs).Nodup
 par : ∀ p∈ps,scope.names.lookup p=some .local\/scope.names.lookup p=some .cell
 cel : ∀ x∈scope.names,x.2 = .cell->scope.names.lookup x.1=some .cell
 fre : ∀ y∈scope.names,y.2 = .free->y.1∈fs
 free : ∀ y∈fs,scope.names.lookup y=some .free
theorem nL : ∀ (names:List (Str×NameKind)) (n:Nat) (a b:List (Str×Addr)),cellsFrom n names (a++b)=cellsFrom n names a++b
 | [],_,_,_=>rfl
 | (x,k)::r,n,a,b=>by
   unfold cellsFrom
   cases k == cz with
   | true=>exact nL r (n+1) ((x,n)::a) b
   | false=>exact nL r n a b
theorem AH (names:List (Str×NameKind)) (n:Nat) (b:List (Str×Addr)):cellsFrom n names b=cellsFrom n names []++b:=nL names n [] b
theorem pA : ∀ (names:List (Str×NameKind)) (n:Nat) (a:List (Str×Addr)) {x:Str}{c:Addr},(x,c)∈cellsFrom n names a->(x,cz)∈names\/(x,c)∈a
 | [],_,_,_,_,h => .inr h
 | (y,k)::r,n,a,x,c,h=>by
   unfold cellsFrom at h
   split at h
   ·rename_i hk
    rcases pA r (n+1) _ h with h | h
    ·exact .inl (aD _ h)
    ·rcases aJ.mp h with e | h
     ·cases e;rw [eq_of_beq hk];exact .inl br
     ·exact .inr h
   ·exact (pA r n a h).imp (aD _) id
theorem gH {α:Type}{x:Str}{c:α} : ∀ {a b:List (Str×α)},a.lookup x=some c->(a++b).lookup x=some c
 | a,b,h=>by rw [iu,h];rfl
theorem iZ {α:Type}{x:Str} : ∀ {a b:List (Str×α)},a.lookup x=none->(a++b).lookup x=b.lookup x
 | a,b,h=>by rw [iu,h];rfl
theorem iz {α:Type}{x:Str}{c:α}{a b:List (Str×α)} (h:(a++b).lookup x=some c):a.lookup x=some c\/(a.lookup x=none/\b.lookup x=some c):=by
 cases q:a.lookup x with
 | some d=>rw [gH q] at h;exact .inl h
 | none=>rw [iZ q] at h;exact .inr ⟨rfl,h⟩
theorem rS {f g:Str×Value->PUnit->Sem (ForInStep PUnit)} : ∀ {l:List (Str×Value)},(∀ x∈l,∀ u,f x u=g x u)->forIn l pX f=forIn l pX g
 | [],_=>rfl
 | x::l,h=>by
   rw [jR,jR,h x br]
   have ih:=rS (l:=l) fun y hy=>h y (aD _ hy)
   congr 1
   funext r
   cases r with
   | done u=>rfl
   | yield u=>exact ih
theorem yw {env:Env}{cs:List (Str×Addr)}{x:Str}{v:Value} (h:env.kindOf x=some .local\/env.cells.lookup x=cs.lookup x):storeName env x v=storeName { env with cells:=cs } x v:=by
 rcases h with h | h
 ·have h':Env.kindOf { env with cells:=cs } x=some .local:=h
  unfold storeName
  rw [h,h']
  rfl
 ·have e:cellOf env x=cellOf { env with cells:=cs } x:=by unfold cellOf;rw [h]
  unfold storeName
  rw [e]
  rfl
theorem Fm {M:Model}{A:Around}{E:Value->Shared->Prop}{s:Shared}{scope:Scope}{g:Addr}{cl:List (Str×Addr)}{binds:List (Str×Value)}{qual:Str}{func:Option Addr}{code:Value}{bt:Addr}{Q:Env->Shared->Prop} (hk:scope.kind = .function)
  (hb : ∀ x∈binds,scope.names.lookup x.1=some .local\/scope.names.lookup x.1=some .cell)
  (hQ : ∀ s',InCallC s s.heap.objs.size (bindL (fun x=>scope.names.lookup x) binds fun _=>none) (cellsFrom (s.heap.objs.size+1) scope.names []) (bindC (fun x=>scope.names.lookup x) binds fun _=>none) s' ->
   Q (newEnv scope s.heap.objs.size g (cellsFrom (s.heap.objs.size+1) scope.names []++cl) qual func code none bt) s') :
  aH M A (newFunctionEnv scope g cl binds qual func code none bt) Q E s:=by
 have ok:CellsOk (pushCells (s.heap.push { cls := .type "frame",data := .dict #[] }) scope.names) (s.heap.objs.size+1) (cellsFrom (s.heap.push { cls := .type "frame",data := .dict #[] }).objs.size scope.names []):=
  cellsFrom_ok scope.names _ _ [] ⟨fun _ _ z=>(nomatch z),gW⟩ (by rw [bw];exact aj _)
 rw [bw] at ok
 have inC:InCallC s s.heap.objs.size (fun _=>none) (cellsFrom (s.heap.objs.size+1) scope.names []) (fun _=>none) { s with heap:=pushCells (s.heap.push { cls := .type "frame",data := .dict #[] }) scope.names }:=
  ⟨⟨⟨_,s.toks,rfl⟩,(Heap.Ns.new s.heap (.type "frame")).keeps fun b o e=>pushCells_keeps _ _ b o e,fun b o e=>pushCells_keeps _ _ b o (ah _ e),aj _⟩,
   fun n c hc=>(ok.empty n c (mem_of_lookup hc)).1,ok.apart,fun n c hm=>Nat.lt_of_succ_le (ok.empty n c hm).2⟩
 simp only [newFunctionEnv,Option.isSome_none,eE,if_false]
 refine ae (wpAny_alloc (ae (wpAny_layCells _ (fun nm kd cs=>by cases q:kd == cz <;> simp [q]) _ _ _ _ ?_)))
 rw [show ({ s with heap:=s.heap.push { cls := .type "frame",data := .dict #[] } }:Shared).heap.objs.size=s.heap.objs.size+1 from bw ..,AH]
 refine ae ?_
 have same : ∀ x∈binds,∀ v:Value,storeName (newEnv scope s.heap.objs.size g (cellsFrom (s.heap.objs.size+1) scope.names []++cl) qual func code none bt) x.1 v=storeName (newEnv scope s.heap.objs.size g (cellsFrom (s.heap.objs.size+1) scope.names []) qual func code none bt) x.1 v:=fun x hx v=>by
  refine yw (env:=newEnv scope s.heap.objs.size g (cellsFrom (s.heap.objs.size+1) scope.names []++cl) qual func code none bt) ?_
  rcases hb x hx with h | h
  ·exact .inl h
  ·obtain⟨c,hc⟩:=ji (n:=s.heap.objs.size+1) h
   exact .inr (by rw [hc];exact gH hc)
 show aH M A (forIn binds pX fun x _=>(do storeName (newEnv scope s.heap.objs.size g (cellsFrom (s.heap.objs.size+1) scope.names []++cl) qual func code none bt) x.1 x.2;pure (dE pX))) _ E _
 rw [rS (g:=fun x _=>(do storeName (newEnv scope s.heap.objs.size g (cellsFrom (s.heap.objs.size+1) scope.names []) qual func code none bt) x.1 x.2;pure (dE pX))) fun x hx u=>by rw [same x hx]]
 refine wpAny_bindParams (s₀:=s) (env:=newEnv scope s.heap.objs.size g (cellsFrom (s.heap.objs.size+1) scope.names []) qual func code none bt) _ (fun _ _ _=>rfl) hk binds _ _ _ _ inC (fun x hx => ?_) fun s' x=>az (hQ s' x)
 rcases hb x hx with h | h
 ·exact .inl h
 ·obtain⟨c,hc⟩:=ji (n:=s.heap.objs.size+1) h
  exact .inr ⟨h,by show ((cellsFrom (s.heap.objs.size+1) scope.names []).lookup x.1).isSome=true;rw [hc];rfl⟩
noncomputable def nq (base:Heap) (cl:List (Str×Addr)):List Str->List V->Prop
 | [],[]=>True
 | y::fs,v::vs=>(∃ c o u,cl.lookup y=some c/\base.get? c=some o/\o.data = .cell (some u)/\RelV v u)/\nq base cl fs vs
 | _,_=>False
theorem nq.len {base:Heap}{cl:List (Str×Addr)} : ∀ {fs:List Str}{vs:List V},nq base cl fs vs->fs.length=vs.length
 | [],[],_=>rfl
 | _::_,_::_,h=>by simp [nq.len h.2]
 | [],_::_,h=>h.elim
 | _::_,[],h=>h.elim
theorem nq.get {base:Heap}{cl:List (Str×Addr)} : ∀ {fs:List Str}{vs:List V}{i:Nat}{y:Str}{v:V},nq base cl fs vs->fs[i]? = some y->vs[i]? = some v -> ∃ c o u,cl.lookup y=some c/\base.get? c=some o/\o.data = .cell (some u)/\RelV v u
 | [],_,i,y,v,_,h1,_=>by simp at h1
 | _::_,[],i,y,v,h,_,_=>h.elim
 | _::_,_::_,0,y,v,h,h1,h2=>by
   simp at h1 h2;subst h1;subst h2
   exact h.1
 | _::_,_::_,i+1,y,v,h,h1,h2=>nq.get (i:=i) h.2 (by simpa using h1) (by simpa using h2)
noncomputable def vF (qual:Str) (scope:Scope) (L f:Addr) (cd:Value) (cl:List (Str×Addr)):Env:=envX qual scope L f cd (cellsFrom (L+1) scope.names []++cl)
noncomputable def BK (P:Program) (w:World) (K:ak) (mg:Str->Option Value) (base:Heap) (N:List Str) (qual:Str) (scope:Scope) (f:Addr) (cd:Value) (cl:List (Str×Addr)) (A:Around) (outer:List Env) (s:Shared) (H:Hp):Cx where
 prog:=P
 w:=w
 K:=K
 mg:=mg
 base:=base
 A:=A.deeper (vF qual scope s.heap.objs.size f cd cl)
 N:=N
 s₀:=s
 H₀:=H
 env:=vF qual scope s.heap.objs.size f cd cl
 outer:=outer
 stack:=vF qual scope s.heap.objs.size f cd cl::outer
 ex := []
 calm:=true
 fn:=fun x=>scope.names.lookup x == some .cell
 pn := []
 xe:=fun _ _=>False
theorem Gp {P:Program}{w:World}{K:ak}{mg:Str->Option Value}{base:Heap}{ps fs:List Str}{qual:Str}{scope:Scope}{f:Addr}{cd:Value}{cl:List (Str×Addr)}{A:Around}{outer:List Env}{s s1:Shared}{H:Hp}{us:List Value}{vs cv:List V}
  (S:mq ps fs scope) (hd:A.handled=none) (e0:AC P w K mg base A outer s H) (hl:vs.length=ps.length) (r:cu vs us) (C:nq base cl fs cv)
  (hcl : ∀ y c,cl.lookup y=some c -> ∃ o v,base.get? c=some o/\o.data = .cell v) (inj : ∀ x y c,cl.lookup x=some c->cl.lookup y=some c->x=y)
  (x:InCallC s s.heap.objs.size (bindL (fun y=>scope.names.lookup y) (ps.zip us) fun _=>none) (cellsFrom (s.heap.objs.size+1) scope.names []) (bindC (fun y=>scope.names.lookup y) (ps.zip us) fun _=>none) s1) :
  Inv (BK P w K mg base (ps++fs) qual scope f cd cl A outer s H) [] (vs.map some++cv.map some) H s1:=by
 obtain⟨h1,tk,rfl,hk⟩:=x.done
 have ndP:ps.Nodup:=(lD.mp S.nd).1
 have newc : ∀ y c,(cellsFrom (s.heap.objs.size+1) scope.names []).lookup y=some c->scope.names.lookup y=some .cell/\s.heap.objs.size < c:=fun y c e=>by
  have m:=mem_of_lookup e
  rcases pA _ _ _ m with z | z
  ·exact⟨S.cel _ z rfl,x.above y c m⟩
  ·simp at z
 have oldc : ∀ y c,cl.lookup y=some c->c < s.heap.objs.size/\(∃ v,h1.IsCell c v)/\H c=none:=fun y c e=>by
  obtain⟨o,v,e1,e2⟩:=hcl y c e
  exact⟨aC (e0.bs c o e1).1,⟨v,o,hk _ _ (e0.bs c o e1).1,e2⟩,(e0.bs c o e1).2⟩
 have frc : ∀ y∈fs,(cellsFrom (s.heap.objs.size+1) scope.names []).lookup y=none:=fun y hy=>by
  cases q:(cellsFrom (s.heap.objs.size+1) scope.names []).lookup y with
  | none=>rfl
  | some c=>
    have:=(newc y c q).1
    rw [S.free y hy] at this;cases this
 have noA : ∀ b:Addr,b∉(BK P w K mg base (ps++fs) qual scope f cd cl A outer s H).ex:=fun b z=>absurd (show b∈([]:List Addr) from z) (by simp)
 refine⟨⟨e0.mod,S.kind,rfl,rfl,aj _,fun y z c e1 e2 => ?_,fun y hy => ?_,fun y c hy e => ?_,fun _=>hd,BF e0.frames,.inr ⟨rfl,rfl⟩,fun b z=>absurd z (noA b),e0.bs,e0.bsz,fun b _ _=>noA b,fun b z=>absurd z (noA b),e0.funs,e0.frf⟩,
  rfl,e0.bare,Un.kept hk,⟨_,x.toInCall.ns,fun i y v h2 h3 h4 => ?_⟩,fun y c h => ?_,e0.hok.fresh (aj _),fun y c h => ?_,fun p hp=>absurd (show p∈([]:List (Addr×Obj)) from hp) (by simp),e0.hok.kept hk,?_⟩
 ·rcases iz e1 with e1 | ⟨_,e1⟩
  ·rcases iz e2 with e2 | ⟨_,e2⟩
   ·exact name_of_addr x.apart (mem_of_lookup e1) (mem_of_lookup e2)
   ·exact absurd (bK (newc y c e1).2 (oldc z c e2).1) (bL _)
  ·rcases iz e2 with e2 | ⟨_,e2⟩
   ·exact absurd (bK (newc z c e2).2 (oldc y c e1).1) (bL _)
   ·exact inj y z c e1 e2
 ·have hy:scope.names.lookup y=some .cell\/scope.names.lookup y=some .free:=hy
  rcases hy with hy | hy
  ·obtain⟨c,hc⟩:=ji (n:=s.heap.objs.size+1) hy
   exact⟨c,gH hc⟩
  ·have hf:=S.fre _ (mem_of_lookup hy) rfl
   obtain⟨i,hi⟩:=List.getElem?_of_mem hf
   have hi2:i < cv.length:=by rw [<- C.len];exact (ag.mp hi).1
   obtain⟨c,o,u,e,_⟩:=C.get hi (ay hi2)
   exact⟨c,(iZ (frc y hf)).trans e⟩
 ·rcases iz e with e | ⟨_,e⟩
  ·exact aQ (newc y c e).2
  ·have hy':scope.names.lookup y=some .cell:=eq_of_beq hy
   obtain⟨c',hc'⟩:=ji (n:=s.heap.objs.size+1) hy'
   rename_i z
   rw [hc'] at z;cases z
 ·have hN:(ps++fs)[i]? = some y:=h2
  by_cases hi:i < ps.length
  ·rw [aR hi] at hN
   rw [aR (by simpa [hl] using hi),bg] at h3
   cases e:vs[i]? with
   | none=>rw [e] at h3;cases h3
   | some a=>
     rw [e] at h3;cases h3
     obtain⟨u,hu,rv⟩:=r.get e
     refine⟨u,rv,?_⟩
     rcases S.par y (dz hN) with kd | kd
     ·exact .inl ⟨kd,pd ndP hN hu kd⟩
     ·obtain⟨c,hc⟩:=ji (n:=s.heap.objs.size+1) kd
      refine .inr ⟨.inl kd,c,gH hc,?_⟩
      have z:=x.cell y c hc
      rw [pj ndP hN hu (by show scope.names.lookup y≠_;rw [kd];decide)] at z
      exact z
  ·rw [aA (by exact cf (by assumption))] at hN
   rw [aA (by simp;omega),bg] at h3
   simp only [aw,hl] at h3
   cases e:cv[i - ps.length]? with
   | none=>rw [e] at h3;cases h3
   | some a=>
     rw [e] at h3;cases h3
     have hf:=dz hN
     obtain⟨c,o,u,e1,e2,e3,e4⟩:=C.get hN e
     exact⟨u,e4,.inr ⟨.inr (S.free y hf),c,(iZ (frc y hf)).trans e1,o,hk _ _ (e0.bs c o e2).1,e3⟩⟩
 ·rcases iz h with e | ⟨_,e⟩
  ·exact⟨_,x.cell y c e⟩
  ·exact (oldc y c e).2.1
 ·rcases iz h with e | ⟨_,e⟩
  ·exact e0.hok.fresh (aQ (newc y c e).2)
  ·exact (oldc y c e).2.2
 ·show (vs.map some++cv.map some).length=(ps++fs).length
  simp [hl,C.len]
theorem Ji {M:Mo} (h0:M.mkr=none) {name qual:Str}{params:Arguments}{body:Expr}{scope:Scope}{cl:List (Str×Addr)}{pm ctv:Value}{c f:Addr}{oc:Obj}{ws:Array Value}{t:Tok}{ps fs:List Str}{k:Nat}{ml:ME}{od:Option Addr}{fc:Value}{fsl:Array (Option Value)}
  (hf:M.base.get? f=some ⟨fc,od,.func (kla_fn name qual params body scope cl pm (.ref c) ctv),fsl⟩) (hc:(c,oc)∈M.K.cds) (hoc:oc.data = .fields ws) (hq:ws[1]? = some (.str qual t))
  (S:mq ps fs scope) (C:nq M.base cl fs M.K.capv) (hcl : ∀ y c,cl.lookup y=some c -> ∃ o v,M.base.get? c=some o/\o.data = .cell v) (inj : ∀ x y c,cl.lookup x=some c->cl.lookup y=some c->x=y)
  (hb : ∀ X,Sc M X k (ps++fs) scope.names->PE X body (tM M.K ml)) :
  ki M.P M.w M.K M.mg M.base CX0 (k+1) f (kla_fn name qual params body scope cl pm (.ref c) ctv) ps (spM M.K (qG ps.length ml M.K.caps)):=by
 have len : ∀ vs H Q E,spM M.K (qG ps.length ml M.K.caps) vs H Q E->vs.length=ps.length:=fun vs H Q E h=>by
  obtain⟨μ,S',us,u,S'',hr,rs,e,_⟩:=h
  unfold qG at e
  split at e
  ·rename_i hl;rw [<- rs.len];exact hl
  ·cases e
 refine⟨len,fun A outer s H args us vs Q E hr e0 hbd r hsp => ?_⟩
 have hl:=len _ _ _ _ hsp
 obtain⟨μ,S1,zs,u,S2,hR,rs,e,ka⟩:=hsp
 have hco:s.heap.get? c=some oc:=(e0.hok c _ (hR.ext.cds _ hc)).1
 have lim:s.heap.NoLimit:=e0.mod.nolimit.keeps fun b o e=>(e0.bs b o e).1
 refine PySem.W.kla_callFunE hr.depth (e0.bs f _ hf).1 rfl S.co S.gen rfl ⟨c,oc,ws,t,rfl,hco,hoc,hq⟩ (hbd _ _ _ _ ?_)
 refine Fm S.kind (fun x hx=>S.par _ (nU hx).1) fun s1 x=>⟨lim.keeps x.toInCall.keep,?_⟩
 show nz _ _ (.expr body (vF qual scope s.heap.objs.size f (.ref c) cl)) _ _
 have I:=Gp (qual:=qual) (f:=f) (cd := .ref c) S hr.hd e0 hl r C hcl inj x
 have SS:Sc M (BK M.P M.w M.K M.mg M.base (ps++fs) qual scope f (.ref c) cl A outer s H) k (ps++fs) scope.names:=
  ⟨rfl,rfl,rfl,rfl,rfl,rfl,S.nd,rfl,fun _ h=>h,fun y h=>⟨h,by show (scope.names.lookup y == some .cell)=true;rw [h];rfl⟩,fun _ h => .inr h,fun _ h=>h,hr.deeper _,sf,fun c q h=>by rw [h0] at h;cases h⟩
 unfold qG at e
 split at e
 rotate_left
 ·cases e
 have er:ER H μ (zs.map some++M.K.caps.map some) (vs.map some++M.K.capv.map some):=by
  have all:=rs.append hR.ext.cap
  refine⟨by simp [rs.len,hR.ext.cap.len],fun i w hw => ?_⟩
  rw [<- d0,bg] at hw
  cases q:(zs++M.K.caps)[i]? with
  | none=>rw [q] at hw;cases hw
  | some w'=>
    rw [q] at hw;cases hw
    obtain⟨v,hv,rv⟩:=all.get q
    exact⟨v,by rw [<- d0,bg,hv];rfl,rv⟩
 refine PySem.W.kla_codeExpr (da (hb _ SS [] _ _ H Q I ⟨μ,S1,_,u,S2,hR,er,e,ka⟩) (fun v s' hs => ?_) fun e s' hs=>hs.elim)
 obtain⟨x,H',J,rv,q⟩:=hs
 exact⟨x,H',J.os,J.bare,J.base,J.hok,rv,q⟩
noncomputable def gL (cells:List (Str×Addr)):List (Str×NameKind)->List (Str×Addr)->List (Str×Addr)
 | [],acc=>acc
 | (y,k)::r,acc=>if k == .free then (match cells.lookup y with
   | some c=>gL cells r ((y,c)::acc)
   | none=>gL cells r acc) else gL cells r acc
theorem yV {env:Env}{scope:Scope} (h : ∀ y∈scope.names,y.2 = .free -> ∃ c,env.cells.lookup y.1=some c):closureFor scope env=pure (gL env.cells scope.names []):=by
 unfold closureFor
 have key : ∀ (l:List (Str×NameKind)) (acc:List (Str×Addr)),(∀ y∈l,y.2 = .free -> ∃ c,env.cells.lookup y.1=some c) ->
   (forIn l acc fun (x:Str×NameKind) (r:List (Str×Addr))=>if (x.2 == aP)=true then (do let a <- cellOf env x.1;pure (dE ((x.1,a)::r))) else pure (dE r):Sem _)=pure (gL env.cells l acc):=by
  intro l
  induction l with
  | nil=>intro acc _;rfl
  | cons y l ih=>
    intro acc hh
    rw [jR]
    unfold gL
    cases q:y.2 == aP with
    | true=>
      obtain⟨c,hc⟩:=hh y br (eq_of_beq q)
      have e:cellOf env y.1=pure c:=by unfold cellOf;rw [hc]
      simp only [if_true,e,pure_bind,hc]
      exact ih _ fun z hz=>hh z (aD _ hz)
    | false=>
      simp only [eE,if_false,pure_bind]
      exact ih _ fun z hz=>hh z (aD _ hz)
 have e:=key scope.names [] h
 show (forIn scope.names ([]:List (Str×Addr)) _ >>= fun r=>pure r:Sem _)=_
 rw [bind_pure]
 refine Eq.trans ?_ e
 congr 1
theorem mN {cells:List (Str×Addr)} : ∀ (l:List (Str×NameKind)) (acc:List (Str×Addr)) {y:Str}{c:Addr},(y,c)∈gL cells l acc->(y,c)∈acc\/(cells.lookup y=some c/\(y,aP)∈l)
 | [],acc,y,c,h => .inl h
 | (z,k)::l,acc,y,c,h=>by
   unfold gL at h
   split at h
   ·rename_i hk
    split at h
    ·rename_i d hd
     rcases mN l _ h with h | h
     ·rcases aJ.mp h with e | h
      ·cases e;exact .inr ⟨hd,by rw [eq_of_beq hk];exact br⟩
      ·exact .inl h
     ·exact .inr ⟨h.1,aD _ h.2⟩
    ·exact (mN l _ h).imp id fun h=>⟨h.1,aD _ h.2⟩
   ·exact (mN l _ h).imp id fun h=>⟨h.1,aD _ h.2⟩
theorem mI {cells:List (Str×Addr)} : ∀ (l:List (Str×NameKind)) (acc:List (Str×Addr)) {y:Str}{c:Addr},(y,c)∈acc->(y,c)∈gL cells l acc
 | [],acc,y,c,h=>h
 | (z,k)::l,acc,y,c,h=>by
   unfold gL
   split
   ·split
    ·exact mI l _ (aD _ h)
    ·exact mI l _ h
   ·exact mI l _ h
theorem mD {cells:List (Str×Addr)} : ∀ (l:List (Str×NameKind)) (acc:List (Str×Addr)) {y:Str}{c:Addr},(y,aP)∈l->cells.lookup y=some c->(y,c)∈gL cells l acc
 | [],acc,y,c,h,_=>by simp at h
 | (z,k)::l,acc,y,c,h,hc=>by
   unfold gL
   rcases aJ.mp h with e | h
   ·cases e
    simp only [beq_self_eq_true,if_true,hc]
    exact mI l _ br
   ·split
    ·split
     ·exact mD l _ h hc
     ·exact mD l _ h hc
    ·exact mD l _ h hc
theorem lookup_mem {α:Type} : ∀ {l:List (Str×α)}{y:Str}{c:α},(y,c)∈l -> ∃ d,l.lookup y=some d
 | [],y,c,h=>by simp at h
 | (z,d)::l,y,c,h=>by
   rw [aO]
   cases q:y == z with
   | true=>exact⟨d,rfl⟩
   | false=>
     rcases aJ.mp h with e | h
     ·cases e;simp at q
     ·exact lookup_mem h
theorem kI {cells:List (Str×Addr)}{l:List (Str×NameKind)}{y:Str}{c:Addr} (h:(gL cells l []).lookup y=some c):cells.lookup y=some c/\(y,aP)∈l:=by
 rcases mN l [] (bY h) with h | h
 ·simp at h
 ·exact h
theorem AY {cells:List (Str×Addr)}{l:List (Str×NameKind)}{y:Str}{c:Addr} (h:(y,aP)∈l) (hc:cells.lookup y=some c):(gL cells l []).lookup y=some c:=by
 obtain⟨d,hd⟩:=lookup_mem (mD l [] h hc)
 have:=(kI hd).1
 rw [hc] at this;cases this
 exact hd
end _G
end
section
namespace _G
open PySem PySem.Spec _L
open PySem.W (envX kla_fn kla_obj CodeHd tabObj)
open PyProof.Rows hiding St
theorem ym {pos:Pos}{a b:Int}{c cv:Value} (l:List Value) (h:TriplesOk l) (hc:codeAmong pos (l ++ [rawInt a,rawInt b,c])=some cv):codeAmong pos l=some cv\/cv=c:=by
 fun_induction TriplesOk l with
 | case1=>
   simp only [dM,rawInt,codeAmong] at hc
   split at hc
   ·cases hc;exact .inr rfl
   ·cases hc
 | case2 x t y u z rest ih=>
   simp only [List.cons_append,codeAmong] at hc ⊢
   split at hc
   ·rename_i q;rw [if_pos q];exact .inl hc
   ·rename_i q;rw [if_neg q];exact ih h hc
 | case3 l h1 h2=>exact h.elim
section
variable {K:KX}{H:Hp}{μ:List Addr}{S:Sto}
theorem HR.table {P c:Addr}{ps:Array Value}{oc:Obj}{ws:Array Value}{t:Tok}{a b:Int}{q:Str} (h:HR K μ S H) (hP:H P=some (.tbl ps)) (hc:H c=none) (hoc:oc.data = .fields ws) (hq:ws[1]? = some (.str q t)) (un : ∀ r∈K.tabs,r.1=P->r.2=q) :
  bF H (upd (upd H c (.frz oc fz)) P (.tbl (ps ++ #[rawInt a,rawInt b,.ref c])))/\HR K μ S (upd (upd H c (.frz oc fz)) P (.tbl (ps ++ #[rawInt a,rawInt b,.ref c]))):=by
 have stay : ∀ x o,H x=some o->(∀ ps,o ≠ .tbl ps)->upd (upd H c (.frz oc fz)) P (.tbl (ps ++ #[rawInt a,rawInt b,.ref c])) x=some o:=fun x o e n=>by
  rw [bE (rN e hP (n ps)),bE (bz e hc)];exact e
 have kp:bF H (upd (upd H c (.frz oc fz)) P (.tbl (ps ++ #[rawInt a,rawInt b,.ref c]))):=fun x vs e=>stay x _ e fun _ z=>by cases z
 have fr : ∀ x o u,H x=some (.frz o u)->upd (upd H c (.frz oc fz)) P (.tbl (ps ++ #[rawInt a,rawInt b,.ref c])) x=some (.frz o u):=fun x o u e=>stay x _ e fun _ z=>by cases z
 have hcP:c≠P:=(bz hP hc).symm
 refine⟨kp,h.len,h.inj,fun m d x q1 q2=>(h.cell m d x q1 q2).mono kp (Pre.refl _) (fun hd => ?_) fun o u e=>fr x o u e,RUs.mono kp (Pre.refl _) _ _ h.ext.cap,fun r hr=>fr _ _ _ (h.ext.cds r hr),fun r hr => ?_⟩
 ·obtain⟨o,e,_,_,nb⟩:=(h.cell m d x q1 q2).has hd
  rw [stay x o e nb,e]
 ·obtain⟨ps',e,tr,al⟩:=h.ext.tab r hr
  by_cases hr':r.1=P
  ·rw [hr',hP] at e
   cases e
   refine⟨ps ++ #[rawInt a,rawInt b,.ref c],by rw [hr',cJ],by rw [EF];exact TriplesOk_snoc _ _ _ _ tr,fun pos cv hcv => ?_⟩
   rw [EF] at hcv
   rcases ym _ tr hcv with z | z
   ·obtain⟨d,od,vs,t',e1,e2,e3,e4⟩:=al pos cv z
    exact⟨d,od,vs,t',e1,fr _ _ _ e2,e3,e4⟩
   ·exact⟨c,oc,ws,t,z,by rw [bE hcP,cJ],hoc,by rw [un r hr hr'];exact hq⟩
  ·refine⟨ps',by rw [bE hr',bE (bz e hc)];exact e,tr,fun pos cv hcv => ?_⟩
   obtain⟨d,od,vs,t',e1,e2,e3,e4⟩:=al pos cv hcv
   exact⟨d,od,vs,t',e1,fr _ _ _ e2,e3,e4⟩
end
section
variable {X:Cx}{pins:List (Addr×Obj)}{σ:St}{H:Hp}{s:Shared}
theorem A5 {P c:Addr}{ps more:Array Value}{oc ob:Obj}{h':Heap}{tk:Nat} (I:Inv X pins σ H s) (hP:H P=some (.tbl ps)) (hx:EB P s.heap h') (hge:s.heap.objs.size<=c) (hc:h'.get? c=some oc) (htb:h'.get? P=some (tabObj (ps++more))) :
  Inv X pins σ (upd (upd H c (.frz oc fz)) P (.tbl (ps++more))) { s with heap:=h'.push ob,toks:=tk }:=by
 have hcn:H c=none:=I.hok.fresh hge
 have kp : ∀ b o,b≠P->s.heap.get? b=some o->(h'.push ob).get? b=some o:=fun b o n e=>ah _ (hx b o n e)
 have nP : ∀ b,H b=none->b≠P:=fun b n z=>by rw [z,hP] at n;cases n
 have stay : ∀ x o,H x=some o->(∀ ps,o ≠ .tbl ps)->upd (upd H c (.frz oc fz)) P (.tbl (ps++more)) x=some o:=fun x o e n=>by
  rw [bE (rN e hP (n ps)),bE (bz e hcn)];exact e
 refine I.step (g':=s.gens) (d':=s.drawn) (ch := []) (fun _ z=>nomatch z) (fun b o _ _ _ e n=>kp b o (nP b n) e) (fun b o _ _ _ e n=>⟨o.slots,kp b o (nP b n) e⟩)
  (fun b o _ e n=>by rw [bE (nP b n),bE (aG (ao (aC e) hge))];exact n) (fun b o _ e => ?_) (fun b xs e=>stay b _ e fun _ z=>by cases z) (fun b o u e=>stay b _ e fun _ z=>by cases z)
  (fun b qs e => ?_) (fun m hm => ?_) (fun b u e => ?_) I.bare
 ·by_cases hb:b=P
  ·exact⟨_,by rw [hb];exact ah _ htb⟩
  ·exact⟨o,kp b o hb e⟩
 ·by_cases hb:b=P
  ·rw [hb,hP] at e
   cases e
   exact⟨more,by rw [hb,cJ]⟩
  ·exact⟨#[],by rw [bE hb,bE (bz e hcn),e];simp⟩
 ·exact (hm.extBut hx (nP _ I.free)).push _
 ·by_cases hb:b=P
  ·rw [hb,cJ] at e
   cases e
   rw [hb]
   exact ah _ htb
  ·rw [bE hb] at e
   by_cases hbc:b=c
   ·rw [hbc,cJ] at e
    cases e
    rw [hbc]
    exact⟨ah _ hc,trivial,⟨_,ah _ hc⟩,fun _ _ _ _=>trivial⟩
   ·rw [bE hbc] at e
    refine (I.hok b u e).stay (fun d v hd q=>kp d v ?_ q) (fun d q=>stay d _ q fun _ z=>by cases z) fun d xs q=>stay d _ q fun _ z=>by cases z
    rcases hd with z | z
    ·rw [z];exact hb
    ·exact rN z hP (by intro z;cases z)
noncomputable def baseOf (h:Heap) (H:Hp) (fr:List Addr):Heap:=PySem.W.hideAll (tj h H) fr
theorem jn {h:Heap}{H:Hp}{fr:List Addr}{b:Addr}{o:Obj} (e:h.get? b=some o) (n:H b=none) (hf:b∉fr):(baseOf h H fr).get? b=some o:=BE _ (oO e n) hf
theorem Bk {h:Heap}{H:Hp}{fr:List Addr}{b:Addr}{o:Obj} (e:(baseOf h H fr).get? b=some o):h.get? b=some o/\H b=none:=zK (Eh fr e)
theorem wU (I:Inv X pins σ H s) : ∀ b o,X.base.get? b=some o->(baseOf s.heap H (frs X.stack)).get? b=some o:=fun b o e=>
 jn (I.bs b o e).1 (I.bs b o e).2 fun z=>by
  have:=(I.stack.mem z).1
  rw [e] at this;cases this
theorem AE (I:Inv X pins σ H s):AC X.prog X.w X.K X.mg (baseOf s.heap H (frs X.stack)) X.A X.stack s H:=by
 have k:=wU I
 obtain⟨m1,m2,⟨mb,m3,m4⟩,m5⟩:=I.ok.mod
 refine⟨I.ok.frames,⟨m1.keeps k,m2.keeps k,⟨mb,m3.keeps k,m4⟩,m5.keeps k⟩,fun b o e=>Bk e,by rw [baseOf,Bu,tQ];exact aj _,?_,I.stkFree,I.hok,I.bare⟩
 have all : ∀ l:List Env,(∀ b∈frs l,b∈frs X.stack)->s.heap.FunFrames X.base l->s.heap.FunFrames (baseOf s.heap H (frs X.stack)) l:=by
  intro l
  induction l with
  | nil=>intro _ _;trivial
  | cons env r ih=>
    intro hs hl
    obtain⟨hk,⟨L,o,hf,hn,ho,hd⟩,hr⟩:=hl
    have hL:L∈frs X.stack:=hs L (by unfold frs;rw [gY,hf];exact br)
    exact⟨hk,⟨L,o,hf,Bv _ hL,ho,hd⟩,ih (fun b hb=>hs b (by unfold frs;rw [gY,hf];exact aD _ hb)) hr⟩
 exact all X.stack (fun _ h=>h) I.stack
end
end _G
end
section
namespace _G
open PySem PySem.Spec _L
open PySem.W (envX kla_fn kla_obj CodeHd tabObj)
open PyProof.Rows hiding St
noncomputable def h8 (mg:Str->Option Value) (base:Heap):Prop := ∃ bm ob,mg "__builtins__"=some (.ref bm)/\bm≠builtinsNs/\base.get? bm=some ob/\ob.cls = .type "module"/\ob.dict=some builtinsNs/\ob.data = .plain
theorem h8.keeps {mg:Str->Option Value}{b b':Heap} (h:h8 mg b) (k : ∀ a o,b.get? a=some o->b'.get? a=some o):h8 mg b':=
 let ⟨bm,ob,e1,e2,e3,r⟩:=h;⟨bm,ob,e1,e2,k _ _ e3,r⟩
structure Mkr (M:Mo) (c P:Addr) (q:Str):Prop where
 hd : ∀ h:Heap,M.K.K.In h->CodeHd h c P
 bl:h8 M.mg M.base
 gP:mainGlobals≠P
 mem:(P,q)∈M.K.tabs
 un : ∀ r∈M.K.tabs,r.1=P->r.2=q
noncomputable def KX.to (K:KX) (caps:List U) (capv:List V) (cds:List (Addr×Obj)):KX:=⟨K.K,caps,capv,cds,K.tabs⟩
noncomputable def Mo.to (M:Mo) (caps:List U) (capv:List V) (cds:List (Addr×Obj)) (base:Heap):Mo:=⟨M.P,M.w,M.K.to caps capv cds,M.mg,base,none⟩
structure FnC (M:Mo) (x:Str) (k:Nat) (ps:List Str) (F:Addr->MF->MF):Prop where
 ex : ∃ (f:Addr) (fd:FuncData),M.mg x=some (.ref f)/\cj M.K (.ref f)=true/\Binds M.K fd ps [] /\
  ∀ (caps:List U) (capv:List V) (cds:List (Addr×Obj)) (base:Heap) (g:Addr) (j:Nat) (lps:List Str) (φ:MF),h8 M.mg base->k<=j->Lam (M.to caps capv cds base) g j lps φ ->
   ki M.P M.w M.K M.mg base CX0 (j+1) f fd ps (spM (M.K.to caps capv cds) (F g φ))
noncomputable def p9:List (List Str) := [["x"],["least"],["walk"],["i","j"],["one","other"],["group","steps"]]
noncomputable def uY (p:Arguments):Bool:=p.posonlyargs.isEmpty&&(p.vararg.isNone&&(p.kwonlyargs.isEmpty&&(p.kw_defaults.isEmpty&&(p.kwarg.isNone&&p.defaults.isEmpty))))
noncomputable def rq (p:Arguments):Option (List Str):=if uY p&&p9.contains (p.args.map (·.arg)) then some (p.args.map (·.arg)) else none
theorem y6 {p:Arguments} (h:uY p=true):p=⟨[],p.args,none,[],[],none,[]⟩:=by
 obtain⟨a,b,c,d,e,f,g⟩:=p
 unfold uY at h
 simp only [aB,List.isEmpty_iff,Option.isNone_iff_eq_none] at h
 obtain⟨rfl,rfl,rfl,rfl,rfl,rfl⟩:=h
 rfl
theorem wO {p:Arguments}{ps:List Str} (h:rq p=some ps) : ∃ as,p=⟨[],as,none,[],[],none,[]⟩/\as.map (·.arg)=ps/\ps∈p9:=by
 unfold rq at h
 split at h
 ·rename_i q
  cases h
  rw [aB] at q
  exact⟨p.args,y6 q.1,rfl,List.contains_iff_mem.mp q.2⟩
 ·cases h
theorem KY {as:List Arg}{x:Str} (e:as.map (·.arg) = [x]) : ∃ an ps,as = [⟨x,an,ps⟩]:=by
 obtain⟨a,l,rfl,h1,h2⟩:=EG.mp e
 rw [List.map_eq_nil_iff.mp h2]
 obtain⟨n,an,ps⟩:=a
 cases h1
 exact⟨an,ps,rfl⟩
theorem NX {as:List Arg}{x y:Str} (e:as.map (·.arg) = [x,y]) : ∃ an ps an2 ps2,as = [⟨x,an,ps⟩,⟨y,an2,ps2⟩]:=by
 obtain⟨a,l,rfl,h1,h2⟩:=EG.mp e
 obtain⟨an2,ps2,rfl⟩:=KY h2
 obtain⟨n,an,ps⟩:=a
 cases h1
 exact⟨an,ps,an2,ps2,rfl⟩
theorem Kv {α:Type}{us:List α} (h:us.length=1) : ∃ a,us = [a]:=List.length_eq_one_iff.mp h
theorem Nm {α:Type}{us:List α} (h:us.length=2) : ∃ a b,us = [a,b]:=by
 cases us with
 | nil=>cases h
 | cons a us=>
   obtain⟨b,rfl⟩:=Kv (yb h)
   exact⟨a,b,rfl⟩
theorem Du {ps:List Str}{as:List Arg} (e:as.map (·.arg)=ps) (hk:ps∈p9) {fd:FuncData} (hp:fd.params=⟨[],as,none,[],[],none,[]⟩) (hd:fd.defaults = .none) {us:List Value} (hl:us.length=ps.length):bindArgs fd ⟨us,[]⟩=pure (ps.zip us):=by
 obtain⟨c1,c2,pr,c4,c5,df,c7,c8,c9,c10,c11,c12,c13⟩:=fd
 cases hp
 cases hd
 simp only [p9,aJ,mV,or_false] at hk
 rcases hk with rfl | rfl | rfl | rfl | rfl | rfl
 all_goals first
  | (obtain⟨an,q,rfl⟩:=KY e;obtain⟨a,rfl⟩:=Kv hl;rfl)
  | (obtain⟨an,q,an2,q2,rfl⟩:=NX e;obtain⟨a,b,rfl⟩:=Nm hl;rfl)
theorem AF {p:Arguments}{ps:List Str} (h:rq p=some ps) (nd:ps.Nodup) {K:ak}{name qual:Str}{body:Expr}{scope:Scope}{cl:List (Str×Addr)}{pm cdv ct:Value}:Binds K (kla_fn name qual p body scope cl pm cdv ct) ps []:=by
 obtain⟨as,rfl,e,hk⟩:=wO h
 exact .all fun us hl=>Du e hk rfl rfl hl
theorem Cs {p:Arguments}{ps:List Str} (h:rq p=some ps) (env:Env):defaultsOf p env=([],[]):=by
 obtain⟨as,rfl,_⟩:=wO h
 rfl
section
variable {M:Mo}{X:Cx}{k:Nat}{N:List Str}{ns:List (Str×NameKind)}{pins:List (Addr×Obj)}{σ:St}{H:Hp}{s:Shared}
theorem vY (S:Sc M X k N ns) (I:Inv X pins σ H s) {y:Str}{c:Addr} (hy:ns.lookup y=some .cell) (hc:X.env.cells.lookup y=some c):c∉frs X.stack:=fun z=>by
 have fn:=(S.cel y hy).2
 rcases aJ.mp (I.stkSub c z) with e | hb
 ·exact I.cne y c hc e
 ·obtain⟨_,o,ho,_⟩:=I.ok.funs.mem hb
  exact absurd (ao (aC ho) (I.ok.cab y c fn hc)) (bL _)
theorem z4 (S:Sc M X k N ns) (I:Inv X pins σ H s) {μ:List Addr}{ρ:Rho} (er:ER H μ ρ σ) {names:List (Str×NameKind)} : ∀ {fs:List Str}{is:List Nat}{cs:List U},(∀ y∈fs,ns.lookup y=some .cell/\(y,aP)∈names) ->
  dw (fun y=>N.findIdx? (· == y)) fs=some is->nJ is ρ=some cs -> ∃ cv,RUs H μ cs cv/\nq (baseOf s.heap H (frs X.stack)) (gL X.env.cells names []) fs cv
 | [],is,cs,_,h1,h2=>by cases h1;cases h2;exact⟨[],.nil,trivial⟩
 | y::fs,is,cs,hf,h1,h2=>by
   unfold dw at h1
   cases e1:N.findIdx? (· == y) with
   | none=>rw [e1] at h1;cases h1
   | some i=>
     rw [e1] at h1
     simp only [ai] at h1
     cases e2:dw (fun y=>N.findIdx? (· == y)) fs with
     | none=>rw [e2] at h1;cases h1
     | some is'=>
       rw [e2] at h1;cases h1
       unfold nJ dw at h2
       cases e3:(ρ[i]?).bind id with
       | none=>rw [e3] at h2;cases h2
       | some u=>
         rw [e3] at h2
         simp only [ai] at h2
         cases e4:dw (fun i=>(ρ[i]?).bind id) is' with
         | none=>rw [e4] at h2;cases h2
         | some cs'=>
           rw [e4] at h2;cases h2
           obtain⟨cv,r1,r2⟩:=z4 S I er (fun z hz=>hf z (aD _ hz)) e2 (show nJ is' ρ=some cs' from e4)
           have hρ:ρ[i]? = some (some u):=by
            cases q:ρ[i]? with
            | none=>rw [q] at e3;cases e3
            | some o=>rw [q] at e3;cases o with
              | none=>cases e3
              | some w=>cases e3;rfl
           obtain⟨v,hσ,rv⟩:=er.get i u hρ
           obtain⟨hi,hy,_⟩:=dC.mp e1
           have hN:X.N[i]? = some y:=by rw [S.hN,ay hi,eq_of_beq hy]
           obtain⟨m,hn,hl⟩:=I.loc
           have hcl:=(S.cel y (hf y br).1).1
           obtain⟨w,rw',l⟩:=hl i y v hN hσ (.inr (.inl hcl))
           rcases l with⟨hk,_⟩ | ⟨_,c,hc,o,ho,hd⟩
           ·have hk':X.env.scope.names.lookup y=some .local:=hk
            rw [hcl] at hk';cases hk'
           ·refine⟨v::cv,.cons rv r1,⟨c,o,w,AY (hf y br).2 hc,?_,hd,rw'⟩,r2⟩
            exact jn ho (I.freeC y c hc) (vY S I (hf y br).1 hc)
theorem EW {F:Addr->MF->MF}{f0:Addr}{fd0:FuncData}{gps ps fs:List Str}{is:List Nat}{k' j:Nat}{ml:ME}{params:Arguments}{body:Expr}{scope:Scope}{qual:Str}{pm ctv:Value}{c' f:Addr}{oc:Obj}{ws:Array Value}{t:Tok}
  {μ:List Addr}{S1 S':Sto}{ρ:Rho}{x u:U}{cs:List U}{v1:V}{u1:Value}{Q:VK}
  (S:Sc M X k N ns) (hB:h8 M.mg M.base) (hj:k'<=j+1) (hk:j+2<=k) (hbd:Binds M.K fd0 gps [])
  (FF : ∀ (caps:List U) (capv:List V) (cds:List (Addr×Obj)) (base:Heap) (g:Addr) (j:Nat) (lps:List Str) (φ:MF),h8 M.mg base->k'<=j->Lam (M.to caps capv cds base) g j lps φ->ki M.P M.w M.K M.mg base CX0 (j+1) f0 fd0 gps (spM (M.K.to caps capv cds) (F g φ)))
  (hps:rq params=some ps) (LS:mq ps fs scope) (hfs : ∀ y∈fs,ns.lookup y=some .cell/\(y,aP)∈scope.names) (his:dw (fun y=>N.findIdx? (· == y)) fs=some is)
  (hb : ∀ (caps:List U) (capv:List V) (cds:List (Addr×Obj)) (base:Heap),h8 M.mg base -> ∀ (X':Cx),Sc (M.to caps capv cds base) X' j (ps++fs) scope.names->PE X' body (tM (M.K.to caps capv cds) ml))
  (I:Inv X pins σ H s) (hr:HR M.K μ S1 H) (er:ER H μ ρ σ) (hcs:nJ is ρ=some cs) (spec:F f (qG ps.length ml cs) [x,.obj f] S1=some (u,S')) (rx:RU H μ x v1) (ru:RelV v1 u1) (aft:Aft M.K μ H u S' Q)
  (hf:s.heap.get? f=some (kla_obj "<lambda>" qual params body scope (gL X.env.cells scope.names []) pm c' ctv)) (hfn:H f=none) (hff:f∉frs X.stack) (hc:H c'=some (.frz oc fz)) (hoc:oc.data = .fields ws) (hq:ws[1]? = some (.str qual t)) :
  aH (model X.prog X.w) X.A (call (.ref f0) [u1,.ref f]) (EP X pins σ Q) X.xe s:=by
 obtain⟨cv,rc,C⟩:=z4 S I er hfs his hcs
 have hB':h8 M.mg (baseOf s.heap H (frs X.stack)):=hB.keeps fun a o e=>wU I a o (by rw [S.hb];exact e)
 have lam:Lam (M.to cs cv (M.K.cds ++ [(c',oc)]) (baseOf s.heap H (frs X.stack))) f (j+1) ps (qG ps.length ml cs):=by
  refine⟨_,.inl ⟨_,_,_,jn hf hfn hff⟩,AF hps (lD.mp LS.nd).1,?_⟩
  refine Ji (M:=M.to cs cv (M.K.cds ++ [(c',oc)]) (baseOf s.heap H (frs X.stack))) rfl (jn hf hfn hff) (aV _ br) hoc hq LS C (fun y c e => ?_) (fun y z c e1 e2=>I.ok.inj y z c (kI e1).1 (kI e2).1) (hb _ _ _ _ hB')
  obtain⟨e1,e2⟩:=kI e
  obtain⟨v,o,ho,hd⟩:=I.cell y c e1
  exact⟨o,v,jn ho (I.freeC y c e1) (vY S I (hfs y (LS.fre _ e2 rfl)).1 e1),hd⟩
 have FO:=FF _ _ _ _ f (j+1) ps _ hB' hj lam
 rw [<- S.hP,<- S.hw,<- S.hK,<- S.hm] at FO
 have hr':HR (M.K.to cs cv (M.K.cds ++ [(c',oc)])) μ S1 H:=⟨hr.len,hr.inj,hr.cell,rc,fun q hq=>by
  rcases bq.mp hq with z | z
  ·exact hr.ext.cds q z
  ·have e:q=(c',oc):=by simpa using z
   rw [e];exact hc,hr.ext.tab⟩
 have hsp:spM (M.K.to cs cv (M.K.cds ++ [(c',oc)])) (F f (qG ps.length ml cs)) [v1,.ref f] H Q E0:=by
  refine⟨μ,S1,[x,.obj f],u,S',hr',.cons rx (.cons (by simp only [RU]) .nil),spec,fun μ' v H' p' k' hr2 ru2 => ?_⟩
  refine aft μ' v H' p' k' ⟨hr2.len,hr2.inj,hr2.cell,RUs.mono k' p' _ _ hr.ext.cap,fun q hq=>hr2.ext.cds q (bB _ hq),hr2.ext.tab⟩ ru2
 have hl:([u1,bp f] ++ []).length=gps.length:=by have:=FO.len _ _ _ _ hsp;simpa using this
 rw [<- S.hK] at hbd
 refine wpAny_call (il (FO.run X.A X.stack s H ⟨[u1,.ref f],[]⟩ [u1,.ref f] [v1,.ref f] Q E0 (S.room.mono hk) (AE I) (hbd s _ I.kIn hl) (.cons ru (.cons rfl .nil)) hsp) fun r s' hq => ?_)
 cases r with
 | error e=>exact hq.elim
 | ok fl=>
   cases fl with
   | ret u=>exact I.after hq
   | next=>exact cR hq
   | brk=>exact cR hq
   | cont=>exact cR hq
theorem GG {F:Addr->MF->MF}{gps ps fs:List Str}{is:List Nat}{k' j:Nat}{ml ma:ME}{g q:Str}{c P:Addr}{params:Arguments}{a body:Expr}{scope:Scope}{p1 lp pos:Pos}
  (S:Sc M X k N ns) (FC:FnC M g k' gps F) (hj:k'<=j+1) (hk:j+2<=k) (hmk:M.mkr=some (c,q)) (MK:Mkr M c P (q++"<lambda>"))
  (hg:eO ns g=true) (hgd:(g == ("__debug__":Str))=false) (ha:PE X a (tM M.K ma)) (hs:starEach [a,.Lambda params body scope lp] X.env=(false,eval a X.env)::starEach [.Lambda params body scope lp] X.env)
  (hps:rq params=some ps) (LS:mq ps fs scope) (hfs : ∀ y∈fs,ns.lookup y=some .cell/\(y,aP)∈scope.names) (his:dw (fun y=>N.findIdx? (· == y)) fs=some is)
  (hb : ∀ (caps:List U) (capv:List V) (cds:List (Addr×Obj)) (base:Heap),h8 M.mg base -> ∀ (X':Cx),Sc (M.to caps capv cds base) X' j (ps++fs) scope.names->PE X' body (tM (M.K.to caps capv cds) ml)) :
  PE X (.Call (.Name g p1) [a,.Lambda params body scope lp] [] pos) (tM M.K (jW F ps.length is ml ma)):=by
 intro pins s σ H Q I h
 obtain⟨μ,S0,ρ,u,S',hr,er,qm,aft⟩:=h
 unfold jW at qm
 obtain⟨x,S1,e1,qm⟩:=bj qm
 cases hcs:nJ is ρ with
 | none=>rw [hcs] at qm;cases qm
 | some cs=>
 rw [hcs] at qm
 simp only [ai] at qm
 split at qm
 rotate_left
 ·cases qm
 rename_i hx
 have spec : ∀ f,F f (qG ps.length ml cs) [x,.obj f] S1=some (u,S'):=fun f=>(hx.choose_spec f).trans qm
 obtain⟨f0,fd0,hm,hkp,hbd,FF⟩:=FC.ex
 rw [<- S.hK] at hkp
 refine dW (qi I (S.gl hg) (by rw [S.hm];exact hm) ?_ hgd)
 refine pD (h₀:=X.base) I.ok.mod.kin hkp ?_ hs rfl
 rw [hs]
 show aH _ _ (spliced ((false,eval a X.env)::backTo pos (starEach [.Lambda params body scope lp] X.env))) _ _ s
 refine ku (thn (ha pins s σ H (fun v H1 => ∃ μ1,Pre μ μ1/\bF H H1/\HR M.K μ1 S1 H1/\RU H1 μ1 x v) I ⟨μ,S0,ρ,x,S1,hr,er,e1,fun μ' v H' p k hr' ru=>⟨μ',p,k,hr',ru⟩⟩) fun u1 s1 ⟨v1,H1,I1,r1,μ1,pr1,kp1,hr1,rx1⟩ => ?_)
 obtain⟨hcode,hqual⟩:=S.cod c q hmk
 obtain⟨ps0,hP,tr,al⟩:=hr1.ext.tab _ MK.mem
 have hPh:s1.heap.get? P=some (tabObj ps0):=I1.hok P _ hP
 have kin:M.K.K.In s1.heap:=by have:=I1.kIn;rwa [S.hK] at this
 have C:CodeHd s1.heap c P:=MK.hd _ kin
 have hgl:s1.heap.Ns mainGlobals X.mg:=I1.mod.glob.keeps I1.bk
 obtain⟨bm,ob,b1,b2,b5,b6,b7,b8⟩:=MK.bl
 have b5':s1.heap.get? bm=some ob:=I1.bk bm ob (by rw [S.hb];exact b5)
 have b3:bm≠mainGlobals:=fun z=>by
  obtain⟨o,es,ep,e,hd,_⟩:=hgl
  rw [<- z,b5'] at e;cases e;rw [b8] at hd;cases hd
 have b4:bm≠P:=fun z=>by
  rw [z,hPh] at b5';cases b5';cases b8
 have BA:s1.heap.BuiltinsAt X.mg P:=⟨bm,ob,by rw [S.hm];exact b1,b2,b3,b4,b5',b6,b7,b8⟩
 have hclo:closureFor scope X.env=pure (gL X.env.cells scope.names []):=yV fun y hy hyf=>I.ok.has y.1 (.inl (S.cel y.1 (hfs y.1 (LS.fre y hy hyf)).1).1)
 show aH _ _ (spliced [(false,eval (.Lambda params body scope lp) X.env)]) _ _ s1
 refine ku (PySem.W.kla_eval (Cs hps _) ?_)
 have fin : ∀ (H2:Hp) (s2:Shared) (c' f:Addr) (ctv:Value) (oc:Obj) (ws:Array Value) (t:Tok),Inv X pins σ H2 s2->bF H1 H2->HR M.K μ1 S1 H2 ->
   s2.heap.get? f=some (kla_obj "<lambda>" (X.env.qual++"<lambda>") params body scope (gL X.env.cells scope.names []) ((X.mg "__name__").getD .none) c' ctv)->H2 f=none->s1.heap.objs.size<=f->H2 c'=some (.frz oc fz)->oc.data = .fields ws->ws[1]? = some (.str (q++"<lambda>") t) ->
   aH (model X.prog X.w) X.A (spliced []) (fun vs s₂=>X.K.In s₂.heap/\aH (model X.prog X.w) X.A (call (.ref f0) ([]++(u1::bp f::vs))) (EP X pins σ Q) X.xe s₂) X.xe s2:=by
  intro H2 s2 c' f ctv oc ws t I2 kp2 hr2 hf hfn hfs' hc hoc hq
  have hff:f∉frs X.stack:=fun z=>by
   obtain⟨_,o,ho,_⟩:=I1.stack.mem z
   exact absurd (ao (aC ho) hfs') (bL _)
  rw [<- hqual] at hq
  exact r9 ⟨I2.kIn,EW S MK.bl hj hk hbd FF hps LS hfs his hb I2 hr2 (er.mono (kp1.trans kp2) pr1) hcs (spec f) (RU.mono kp2 (Pre.refl _) _ _ rx1) r1 (aft.mono pr1 (kp1.trans kp2)) hf hfn hff hc hoc hq⟩
 cases ham:codeAmong lp ps0.toList with
 | none=>
   refine PySem.W.kla_makeFunction (mg:=X.mg) hclo I1.ok.glob hgl hcode C hPh tr ham MK.gP BA fun c' ctv h' tk hx hge hlt hrec htb => ?_
   obtain⟨c2,oc,ws,t,e,hoc,hd,hq'⟩:=hrec
   cases e
   have I2:=A5 (ob:=kla_obj "<lambda>" (X.env.qual++"<lambda>") params body scope (gL X.env.cells scope.names []) ((X.mg "__name__").getD .none) c' ctv) (tk:=tk) I1 hP hx hge hoc htb
   rw [hqual] at hq'
   obtain⟨kp2,hr2⟩:=hr1.table (a:=(lp.line:Int)) (b:=(lp.col:Int)) hP (I1.hok.fresh hge) hd hq' MK.un
   have hsz:s1.heap.objs.size<=h'.objs.size:=aL hge (aQ hlt)
   refine fin _ _ c' h'.objs.size ctv oc ws t I2 kp2 hr2 (ax _ rfl) ?_ hsz ?_ hd hq'
   ·rw [bE (dH (aC htb)),bE (dH hlt)]
    exact I1.hok.fresh hsz
   ·rw [bE (bz hP (I1.hok.fresh hge)).symm,cJ]
 | some cv=>
   obtain⟨c',oc,ws,t,rfl,hfr,hd,hq'⟩:=al lp cv ham
   refine PySem.W.kla_makeFunctionHit (mg:=X.mg) hclo I1.ok.glob hgl hcode C hPh tr ham BA fun ctv h' tk hk hsz => ?_
   have I2:=I1.kept (t':=tk) (h':=h'.push (kla_obj "<lambda>" (X.env.qual++"<lambda>") params body scope (gL X.env.cells scope.names []) ((X.mg "__name__").getD .none) c' ctv)) (fun b o e=>ah _ (hk b o e))
   exact fin H1 _ c' h'.objs.size ctv oc ws t I2 (bF.refl _) hr1 (ax _ rfl) (I1.hok.fresh hsz) hsz hfr hd hq'
end
end _G
end
section
namespace _G
open PySem PySem.Spec _L
open PyProof.Rows hiding St
noncomputable def Trc (e T:Addr) (cls:Value) (h:Heap):Prop := ∃ (oe:Obj) (vs:Array Value) (a0:Value) (oT:Obj) (ts:Array Value),h.get? e=some oe/\(oe.cls=cls/\vs[0]? = some a0)/\oe.data = .fields vs/\vs[1]? = some (.ref T)/\T≠e/\h.get? T=some oT/\oT.data = .fields ts/\ts[3]? = some .none
noncomputable def CX1 (P:Program) (w:World):CXT:=fun outer H s E ev s' => ∃ (e T:Addr) (cls:Value) (H':Hp),ev = .ref e/\s'.os=s.os/\AllBare s'.gens/\Un (frs outer) [] H H' s.heap s'.heap/\HOk P w H' s'.heap/\Trc e T cls s'.heap/\s.heap.get? e=none/\s.heap.get? T=none/\H' e=none/\H' T=none/\E cls none H'
structure Left (fs:List Addr) (e T:Addr) (h h':Heap):Prop where
 keep : ∀ b o,b∉fs->b≠e->b≠T->h.get? b=some o->h'.get? b=some o
 slot : ∀ b o,b∈fs->h.get? b=some o -> ∃ sl,h'.get? b=some { o with slots:=sl }
theorem Left.hok {P:Program}{w:World}{fs:List Addr}{e T:Addr}{H:Hp}{h h':Heap} (l:Left fs e T h h') (x:HOk P w H h) (hf : ∀ b∈fs,H b=none) (he:H e=none) (hT:H T=none):HOk P w H h':=fun a o q=>by
 refine (x a o q).stay (fun b u hb e1 => ?_) (fun _ z=>z) fun _ _ z=>z
 have key : ∃ o,H b=some o:=by
  rcases hb with rfl | z
  ·exact⟨_,q⟩
  ·exact⟨_,z⟩
 obtain⟨ob,key⟩:=key
 exact l.keep b u (fun z=>by rw [hf b z] at key;cases key) (fun z=>by rw [z,he] at key;cases key) (fun z=>by rw [z,hT] at key;cases key) e1
section
variable {X:Cx}{pins:List (Addr×Obj)}{σ:St}{H H':Hp}{s s':Shared}
structure Lv (X:Cx) (E:XK):Prop where
 stk:X.stack=X.env::X.outer
 fr:X.env.frame=some X.env.locals
 ex:X.ex = []
 xe:X.xe=fun e s'=>aH (model X.prog X.w) X.A (leaving X.env e) (fun _ s''=>CX1 X.prog X.w X.outer X.H₀ X.s₀ E e s'') (fun e' s''=>CX1 X.prog X.w X.outer X.H₀ X.s₀ E e' s'') s'
end
end _G
end
section
namespace _G
open PySem PySem.Spec _L
open PySem.W (envX kla_fn kla_obj CodeHd tabObj)
open PyProof.Rows hiding St
section
abbrev RF:=List U->Sto->Option (Nat×Sto)
noncomputable def kL (b:Nat->Bool) (is:List Nat):Cell := .lst (is.map fun i => .bl (b i))
noncomputable def Kq (b:Nat->Bool):Sto := [kL b [0,1,2],kL b [3,4,5],kL b [0,1,2,3,4,5,6]]
noncomputable def bQ (q:Nat) (j:Nat):Bool:=decide (q=j)||decide (j=7)
noncomputable def NV (rz:List Nat) (φ:MF) (ψ:RF) (S:Sto):Res U:=match φ [] S with
 | some r=>some (.non,r.2++Kq fun _=>false)
 | none=>match ψ [] S with
   | some r=>if r.1∈rz then some (.ref (r.2.length+3),r.2++(Kq (bQ r.1) ++ [.lst [.int r.1]])) else none
   | none=>none
noncomputable def NC (rz:List Nat) (g:Addr) (φ:MF) (ψ:RF):MF:=fun us S=>match us with
 | [.obj a]=>if a=g then NV rz φ ψ S else none
 | _=>none
end
noncomputable def NR (cl:Nat->Addr) (K:KX) (μ:List Addr) (H:Hp) (C:Nat) (S':Sto) (E:XK):Prop := ∀ μ' H',Pre μ μ'->bF H H'->HR K μ' S' H'->E (.ref (cl C)) none H'
noncomputable def spX (cl:Nat->Addr) (K:KX) (r:RF):Sp:=fun vs H _ E => ∃ μ S us C S',HR K μ S H/\RUs H μ us vs/\r us S=some (C,S')/\NR cl K μ H C S' E
structure FnX (M:Mo) (cl:Nat->Addr) (x:Str) (k:Nat) (ps:List Str) (r:RF):Prop where
 ex : ∃ (f:Addr) (fd:FuncData),M.mg x=some (.ref f)/\cj M.K (.ref f)=true/\Binds M.K fd ps []/\ki M.P M.w M.K M.mg M.base (CX1 M.P M.w) k f fd ps (spX cl M.K r)
structure NN (M:Mo) (cl:Nat->Addr) (f:Addr) (k:Nat) (ps:List Str) (r:RF):Prop where
 ex : ∃ fd:FuncData,((∃ (oc:Value) (od:Option Addr) (sl:Array (Option Value)),M.base.get? f=some ⟨oc,od,.func fd,sl⟩)\/cj M.K (.ref f)=true)/\Binds M.K fd ps []/\ki M.P M.w M.K M.mg M.base (CX1 M.P M.w) k f fd ps (spX cl M.K r)
structure FnR (M:Mo) (cl:Nat->Addr) (x:Str) (k:Nat) (rz:List Nat):Prop where
 ex : ∃ (f:Addr) (fd:FuncData),M.mg x=some (.ref f)/\cj M.K (.ref f)=true/\Binds M.K fd ["call"] [] /\
  ∀ (caps:List U) (capv:List V) (cds:List (Addr×Obj)) (base:Heap) (g:Addr) (j:Nat) (φ:MF) (ψ:RF),h8 M.mg base->k<=j->Lam (M.to caps capv cds base) g j [] φ->NN (M.to caps capv cds base) cl g j [] ψ ->
   ki M.P M.w M.K M.mg base CX0 (j+1) f fd ["call"] (spM (M.K.to caps capv cds) (NC rz g φ ψ))
section
variable {M:Mo}{X:Cx}{k:Nat}{N:List Str}{ns:List (Str×NameKind)}{pins:List (Addr×Obj)}{σ:St}{H:Hp}{s:Shared}{cl:Nat->Addr}{rz:List Nat}
end
end _G
end
section
namespace _G
open PySem PySem.Spec _L
open PySem.W (envX fnX fnMade CodeHd tabObj)
open PyProof.Rows hiding St
section
end
section
noncomputable def sml (i:Int):Prop := -(2 ^ 64) < i/\i < 2 ^ 64
noncomputable instance (i:Int):Decidable (sml i):=bJ _
end
section
variable {M:Mo}{X:Cx}{k:Nat}{N:List Str}{ns:List (Str×NameKind)}
end
section
variable {M:Mo}{X:Cx}{k:Nat}{N:List Str}{ns:List (Str×NameKind)}{pins:List (Addr×Obj)}{σ:St}{H:Hp}{s:Shared}
end
end _G
end
section
namespace _G
open PySem PySem.Spec _L
open PyProof.Rows hiding St
section
abbrev NS:=List (Str×NameKind)
structure Zt where
 R:List (Str×RF)
 F:List (Str×List Nat)
 cl:Nat->Addr
 nm:Str
noncomputable def z0:Zt:=⟨[],[],fun _=>0,"<lambda>"⟩
noncomputable def Zt.to (z:Zt) (nm:Str):Zt:=⟨z.R,z.F,z.cl,nm⟩
structure Tb where
 D:List (Str×MF)
 C:List (Str×U)
 L:List (Str×Addr×MF)
 H:List (Str×(Addr->MF->MF))
 mkr:Bool
 Z:Zt
noncomputable def Tb.bare (T:Tb):Tb:=⟨T.D,T.C,[],T.H,false,T.Z⟩
noncomputable def frees (sc:Scope):List Str:=(sc.names.filter fun y=>y.2 == .free).map (·.1)
noncomputable def y9 (ps:List Str) (sc:Scope) (ns:NS):Bool:=
 sc.kind == .function && !sc.isCoroutine && !sc.isGenerator&&decide ((ps++frees sc).Nodup)&&ps.all (fun p=>sc.names.lookup p == some .local||sc.names.lookup p == some .cell)&&sc.names.all (fun y => !(y.2 == .cell)||sc.names.lookup y.1 == some .cell)&&(frees sc).all fun y=>sc.names.lookup y == some .free&&ns.lookup y == some .cell
noncomputable def notStar:Expr->Bool
 | .Starred _ _=>false
 | _=>true
noncomputable def mF:Expr->Bool
 | .ListComp _ _ _ _=>false
 | .SetComp _ _ _ _=>false
 | .DictComp _ _ _ _ _=>false
 | _=>true
noncomputable def iY:Expr->Bool
 | .Set _ _ _=>false
 | _=>true
noncomputable def oh:Expr->Bool
 | .Slice _ _ _ _=>false
 | _=>true
noncomputable def baseOk:Expr->Bool
 | .Call (.Name _ _) [] [] _=>false
 | _=>true
noncomputable def plainT:Expr->Bool
 | .Name _ _=>true
 | .Call _ _ _ _=>true
 | .Subscript _ _ _=>true
 | .Constant _ _ _=>true
 | _=>false
noncomputable def dummy (N:List Str):Str:=⟨#[N.length+1]⟩
noncomputable def yX (N:List Str) (x:Str):List Str:=(N.map fun y=>if y == x then dummy N else y) ++ [x]
noncomputable def fU (x:Str):Bool := !(x == ("__debug__":Str)) && !(x == ("__classdict__":Str))
noncomputable def slot (N:List Str) (x:Str):Option Nat:=N.findIdx? (· == x)
noncomputable def JD (g:Str):Option MF:=
 if g == ("len":Str) then some bD else if g == ("tuple":Str) then some b9 else if g == ("list":Str) then some lT
 else if g == ("max":Str) then some xq else if g == ("min":Str) then some wX else if g == ("all":Str) then some lr else if g == ("any":Str) then some yN
 else if g == ("sorted":Str) then some eR    else none
noncomputable def kf:List Str := ["len","tuple","list","max","min","range","isinstance","bool","int","str","dict","all","any","sorted","reversed","zip","enumerate","set","sum","repr"]
noncomputable def Dt (t:Str):Option String:=
 if t == ("tuple":Str) then some "tuple" else if t == ("list":Str) then some "list" else if t == ("int":Str) then some "int"
 else if t == ("bool":Str) then some "bool" else if t == ("str":Str) then some "str" else if t == ("dict":Str) then some "dict" else none
noncomputable def Jv:Operator->Option F2
 | .Add=>some cZ
 | .Sub=>some uF
 | .Mult=>some fG
 | .FloorDiv=>some oDiv
 | .Mod=>some oMod
 | .Pow=>some uW
 | _=>none
noncomputable def xP:CmpOp->Option F2
 | .Lt=>some oLt
 | .LtE=>some oLe
 | .Gt=>some oGt
 | .GtE=>some oGe
 | .Eq=>some oEq
 | .NotEq=>some oNe
 | .NotIn=>some eJ
 | _=>none
noncomputable def sNo:MS:=fun _ _=>none
noncomputable def Ly:MS:=fun ρ S=>some (.bk,ρ,S)
noncomputable def Nc:MS:=fun ρ S=>some (.ct,ρ,S)
noncomputable def B1 (name:Str) (ma:ME) (mas:MA):Option ME:=
 if name == ("append":Str) then some (mML dn ma mas) else if name == ("pop":Str) then some (mML md ma mas)
 else if name == ("index":Str) then some (mMT iI ma mas)
 else if name == ("extend":Str) then some (mML iN ma mas) else none
set_option genInjectivity false in
structure Rc where
 e:Tb->List Str->NS->Expr->Option ME
 c:Tb->List Str->NS->Str->List Expr->Option ME
 v:Tb->List Str->NS->Str->List Expr->Option ME
 o:Tb->List Str->NS->Option Expr->Option (Option ME)
 t:Tb->List Str->NS->Expr->Option MT
 l:Tb->List Str->NS->Bool->List Expr->Option MT
 f:Tb->List Str->NS->List Expr->Option MT
 a:Tb->List Str->NS->List Expr->Option MA
 i:Tb->List Str->NS->Expr->Option MI
 g:Tb->List Str->NS->Expr->Option MG
 gs:Tb->List Str->NS->List Expr->Option MGs
 s:Tb->List Str->NS->Stmt->Option MS
 b:Tb->List Str->NS->List Stmt->Option MS
section
variable (R:Rc) (T:Tb) (N:List Str) (ns:NS)
noncomputable def L7:Const->Option ME
 | .int i=>some (mC (.int i))
 | .bool b=>some (mC (.bl b))
 | .none=>some (mC .non)
 | .str x=>some (mC (.str x))
 | _=>none
noncomputable def eUn (a:Expr):UnaryOp->Option ME
 | .USub=>(R.e T N ns a).map (m1 yk)
 | .Not=>(R.e T N ns a).map (m1 qW)
 | _=>none
noncomputable def eBo (op:BoolOp) (p:Pos):List Expr->Option ME
 | []=>none
 | [a]=>R.e T N ns a
 | a::b::r=>(R.e T N ns a).bind fun ma=>match op with
   | .And=>(R.e T N ns (.BoolOp .And (b::r) p)).map (jX ma)
   | .Or=>(R.e T N ns (.BoolOp .Or (b::r) p)).map (mOr ma)
noncomputable def eCm (a:Expr):List CmpOp->List Expr->Option ME
 | [op],[b]=>if iY b then (R.e T N ns a).bind fun ma=>(R.e T N ns b).bind fun mb=>(xP op).map fun f=>m2 f ma mb else none
 | [op,op'],[b,c]=>if iY b&&iY c then (R.e T N ns a).bind fun ma=>(R.e T N ns b).bind fun mb=>(R.e T N ns c).bind fun mc=>(xP op).bind fun f=>(xP op').map fun g=>mCh f g ma mb mc else none
 | _,_=>none
noncomputable def eSb (a:Expr):Expr->Option ME
 | .Slice _ _ _ _=>none
 | b=>if oh b then (R.e T N ns a).bind fun ma=>(R.e T N ns b).map (m2 oIx ma) else none
noncomputable def eDi:List (Option Expr)->List Expr->Option ME
 | [],[]=>some om
 | [some a],[b]=>(R.e T N ns a).bind fun ma=>(R.e T N ns b).map (qX ma)
 | _,_=>none
noncomputable def eLn (elt it:Expr) (ifs:List Expr) (scope:Scope) (x:Str):Option ME:=
 (R.i T N ns it).bind fun mi=>(R.f T (yX N x) scope.names ifs).bind fun mt=>(R.e T (yX N x) scope.names elt).map (bR mi mt)
noncomputable def eLt (elt it:Expr) (ifs:List Expr) (scope:Scope):Expr->Option ME
 | .Name x _=>if scope.kind == .function&&mK N (yX N x) ns scope.names x&&iY it then eLn R T N ns elt it ifs scope x else none
 | _=>none
noncomputable def eLc (elt:Expr) (scope:Scope):List Comprehension->Option ME
 | [c]=>if c.is_async=0 then eLt R T N ns elt c.iter c.ifs scope c.target else none
 | _=>none
noncomputable def eRg (g:Str):List Expr->Option ME
 | [a]=>if g == ("list":Str) then (R.a T N ns [a]).map fun m=>hZ (iR1 m) else (R.a T N ns [a]).map fun m=>qz (iR1 m)
 | [a,b]=>if g == ("list":Str) then (R.a T N ns [a,b]).map fun m=>hZ (iR2 m) else none
 | _=>none
noncomputable def eSS:List Expr->Option ME
 | [a]=>(R.a T N ns [a]).map (mFn bSS)
 | _=>none
noncomputable def eC1 (g:Str):Expr->Option ME
 | .Call (.Name r q) rs [] rp=>if (g == ("list":Str)||g == ("tuple":Str))&&r == ("range":Str) then (if eO ns r then eRg R T N ns g rs else none) else if g == ("sorted":Str)&&r == ("set":Str) then (if eO ns r then eSS R T N ns rs else none) else R.c T N ns g [.Call (.Name r q) rs [] rp]
 | a=>R.c T N ns g [a]
noncomputable def eIs (g t:Str) (tp:Pos) (a:Expr):Option ME:=
 if g == ("isinstance":Str) then (if eO ns t&&notStar a then (Dt t).bind fun c=>(R.e T N ns a).map (m1 (lU c)) else none) else R.c T N ns g [a,.Name t tp]
noncomputable def Kn (g:Str) (a:Expr) (p:Arguments) (b:Expr) (sc:Scope):Option ME:=
 if T.mkr&&T.Z.nm == ("<lambda>":Str)&&notStar a then (rq p).bind fun ps=>
    if y9 ps sc ns then (dw (fun y=>N.findIdx? (· == y)) (frees sc)).bind fun is=>(R.e T N ns a).bind fun ma=>(R.e T.bare (ps++frees sc) sc.names b).bind fun ml=>(T.H.lookup g).map fun F=>jW F ps.length is ml ma else none
   else none
noncomputable def eC2 (g:Str) (a:Expr):Expr->Option ME
 | .Name t tp=>eIs R T N ns g t tp a
 | .Lambda p b sc _=>Kn R T N ns g a p b sc
 | b=>R.c T N ns g [a,b]
noncomputable def eCf (g:Str):List Expr->Option ME
 | []=>(T.D.lookup g).map fun mf=>mFn mf af
 | [a]=>eC1 R T N ns g a
 | [a,b]=>eC2 R T N ns g a b
 | a::b::c::r=>R.c T N ns g (a::b::c::r)
noncomputable def eMe (o:Expr) (name:Str) (p q:Pos):List Expr->Option ME
 | []=>if baseOk o&&(p.endLine == q.line)&&name == ("pop":Str) then (R.e T N ns o).map fun mo=>mML uR mo af else none
 | [a]=>if baseOk o&&(p.endLine == q.line)&&notStar a then (R.e T N ns o).bind fun mo=>(R.a T N ns [a]).bind (B1 name mo) else none
 | _=>none
noncomputable def eCa (as:List Expr) (q:Pos):Expr->Option ME
 | .Name g _=>if eO ns g&&fU g then eCf R T N ns g as else R.v T N ns g as
 | .Attribute o name p=>eMe R T N ns o name p q as
 | _=>none
end
noncomputable def sE (R:Rc) (T:Tb):List Str->NS->Expr->Option ME:=fun N ns e=>match e with
  | .Name x _=>if fU x then (if sP ns x then (slot N x).map ab else if eO ns x then (T.C.lookup x).map mC else none) else none
  | .Constant c _ _=>L7 c
  | .BinOp a op b _=>(R.e T N ns a).bind fun ma=>(R.e T N ns b).bind fun mb=>(Jv op).map fun f=>m2 f ma mb
  | .UnaryOp op a _=>eUn R T N ns a op
  | .BoolOp op vs p=>eBo R T N ns op p vs
  | .Compare a ops bs _=>eCm R T N ns a ops bs
  | .Subscript a b _=>eSb R T N ns a b
  | .Dict ks vs _=>eDi R T N ns ks vs
  | .Tuple es _ _=>(R.a T N ns es).map mY
  | .List es _=>(R.a T N ns es).map cQ
  | .ListComp elt gens scope _=>eLc R T N ns elt scope gens
  | .Call f as kws q=>if kws.isEmpty then eCa R T N ns as q f else none
  | _=>none
noncomputable def sC (R:Rc) (T:Tb):List Str->NS->Str->List Expr->Option ME:=fun N ns g as=>(R.a T N ns as).bind fun mas=>match JD g with
  | some mf=>some (mFn mf mas)
  | none=>(T.D.lookup g).map fun mf=>mFn mf mas
noncomputable def sV (R:Rc) (T:Tb):List Str->NS->Str->List Expr->Option ME:=fun N ns g as=>match as with
 | []=>none
 | a::as=>if sP ns g&&fU g then (T.L.lookup g).bind fun q=>(slot N g).bind fun i=>(R.a T N ns (a::as)).map (s9 i q.1 q.2) else none
noncomputable def sO (R:Rc) (T:Tb):List Str->NS->Option Expr->Option (Option ME):=fun N ns o=>match o with
  | none=>some none
  | some e=>(R.e T N ns e).map some
noncomputable def sT (R:Rc) (T:Tb):List Str->NS->Expr->Option MT:=fun N ns e=>match e with
  | .UnaryOp .Not a _=>(R.t T N ns a).map eG
  | .BoolOp .And vs _=>R.l T N ns true vs
  | .BoolOp .Or vs _=>R.l T N ns false vs
  | .Compare a ops bs _=>(eCm R T N ns a ops bs).map cOf
  | e=>if plainT e then (R.e T N ns e).map cOf else none
noncomputable def sL (R:Rc) (T:Tb):List Str->NS->Bool->List Expr->Option MT:=fun N ns b vs=>match vs with
  | []=>none
  | [a]=>R.t T N ns a
  | a::r=>(R.t T N ns a).bind fun ma=>(R.l T N ns b r).map fun mr=>if b then lu ma mr else cOr ma mr
noncomputable def sF (R:Rc) (T:Tb):List Str->NS->List Expr->Option MT:=fun N ns ifs=>match ifs with
  | []=>some cTT
  | [c]=>R.t T N ns c
  | _=>none
noncomputable def sA (R:Rc) (T:Tb):List Str->NS->List Expr->Option MA:=fun N ns es=>match es with
  | []=>some af
  | e::r=>if notStar e then (R.e T N ns e).bind fun m=>(R.a T N ns r).map (aa m) else none
noncomputable def sI (R:Rc) (T:Tb):List Str->NS->Expr->Option MI:=fun N ns e=>match e with
  | .Call (.Name g q) as [] p=>
    if g == ("range":Str) then
     if eO ns g then match as with
      | [a]=>(R.a T N ns [a]).map iR1
      | [a,b]=>(R.a T N ns [a,b]).map iR2
      | [a,b,c]=>(R.a T N ns [a,b,c]).map iR3
      | _=>none
     else none
    else (R.e T N ns (.Call (.Name g q) as [] p)).map dq
  | e=>(R.e T N ns e).map dq
noncomputable def sG (R:Rc) (T:Tb):List Str->NS->Expr->Option MG:=fun N ns e=>match e with
  | .Name x _=>if qL ns x then (slot N x).map gN else none
  | .Tuple es _ _=>(R.gs T N ns es).map (gTp es.length)
  | _=>none
noncomputable def sGs (R:Rc) (T:Tb):List Str->NS->List Expr->Option MGs:=fun N ns es=>match es with
  | []=>some wx
  | e::r=>if notStar e then (R.g T N ns e).bind fun g=>(R.gs T N ns r).map (j4 g) else none
noncomputable def eIt (R:Rc) (T:Tb) (N:List Str) (ns:NS) (e:Expr):Option MI:=match e with
  | .Call (.Name g q) [a] [] p=>if g == ("enumerate":Str) then (if eO ns g then (R.a T N ns [a]).map rR else none) else none
  | _=>none
noncomputable def Io (R:Rc) (T:Tb) (N:List Str) (ns:NS) (y:Str) (elt it:Expr) (ifs:List Expr) (scope:Scope):Expr->Option MS
 | .Name x _=>
   if qL ns y&&(scope.kind == .function&&mK N (yX N x) ns scope.names x&&iY it) then
    (slot N y).bind fun i=>(R.i T N ns it).bind fun mi=>(R.f T (yX N x) scope.names ifs).bind fun mt=>(R.e T (yX N x) scope.names elt).map fun me=>bI i (bR mi mt me)
   else none
 | _=>none
noncomputable def L8 (R:Rc) (T:Tb) (N:List Str) (ns:NS) (y:Str) (elt:Expr) (scope:Scope):List Comprehension->Option MS
 | [c]=>if c.is_async=0 then Io R T N ns y elt c.iter c.ifs scope c.target else none
 | _=>none
noncomputable def IZ (R:Rc) (T:Tb) (N:List Str) (ns:NS) (x:Str):Expr->Option MS
 | .ListComp elt gens scope _=>L8 R T N ns x elt scope gens
 | e=>if qL ns x&&mF e then (slot N x).bind fun i=>(R.e T N ns e).map (bI i) else none
noncomputable def HB (R:Rc) (T:Tb) (N:List Str) (ns:NS) (e:Expr):Expr->Option MS
  | .Name x _=>IZ R T N ns x e
  | .Subscript a b _=>if mF e&&oh b then (R.e T N ns a).bind fun ma=>(R.e T N ns b).bind fun mb=>(R.e T N ns e).map (eF ma mb) else none
  | .Tuple ts kt pt=>none
  | _=>none
noncomputable def sAs (R:Rc) (T:Tb) (N:List Str) (ns:NS) (e:Expr):List Expr->Option MS
 | [t]=>HB R T N ns e t
 | _=>none
noncomputable def sAu (R:Rc) (T:Tb) (N:List Str) (ns:NS) (x:Str) (e:Expr):Operator->Option MS
  | _=>none
noncomputable def JP (R:Rc) (T:Tb) (N:List Str) (ns:NS) (op:Operator) (e:Expr):Expr->Option MS
 | .Name x _=>sAu R T N ns x e op
 | _=>none
noncomputable def sRt (R:Rc) (T:Tb) (N:List Str) (ns:NS):Option Expr->Option MS
 | some e=>(R.e T N ns e).map bU
 | none=>some (bU (mC .non))
noncomputable def sFo (R:Rc) (T:Tb) (N:List Str) (ns:NS) (it:Expr) (body:List Stmt):Expr->Option MS
  | .Name x _=>if qL ns x&&iY it then (slot N x).bind fun i=>(R.i T N ns it).bind fun mi=>(R.b T N ns body).map (dF i mi) else none
  | .Tuple ts kt pt=>if iY it then (R.g T N ns (.Tuple ts kt pt)).bind fun g=>(eIt R T N ns it).bind fun mi=>(R.b T N ns body).map (tL g mi) else none
  | _=>none
noncomputable def H9 (R:Rc) (T:Tb) (N:List Str) (ns:NS) (t it:Expr) (body:List Stmt):List Stmt->Option MS
 | []=>sFo R T N ns it body t
 | _=>none
noncomputable def sWh (R:Rc) (T:Tb) (N:List Str) (ns:NS) (c:Expr) (body:List Stmt):List Stmt->Option MS
 | []=>(R.t T N ns c).bind fun mc=>(R.b T N ns body).map (ph mc)
 | _=>none
noncomputable def sS (R:Rc) (T:Tb):List Str->NS->Stmt->Option MS:=fun N ns st=>match st with
  | .Assign ts e _=>sAs R T N ns e ts
  | .AugAssign t op e _=>JP R T N ns op e t
  | .Expr e _=>if mF e then (R.e T N ns e).map eg else none
  | .Return o _=>sRt R T N ns o
  | .If c a b _=>(R.t T N ns c).bind fun mc=>(R.b T N ns a).bind fun ma=>(R.b T N ns b).map (sIf mc ma)
  | .For t it body els _=>H9 R T N ns t it body els
  | .While c body els _=>sWh R T N ns c body els
  | .Pass _=>some bX
  | .Break _=>some Ly
  | .Raise _ _ _=>some sNo
  | .Continue _=>some Nc
  | _=>none
section
variable (R:Rc) (T:Tb) (N:List Str) (ns:NS)
end
noncomputable def sB (R:Rc) (T:Tb):List Str->NS->List Stmt->Option MS:=fun N ns sts=>match sts with
  | []=>some bX
  | [s]=>R.s T N ns s
  | s::r=>(R.s T N ns s).bind fun ms=>(R.b T N ns r).map (aZ ms)
noncomputable def rc:Nat->Rc
 | 0=>⟨fun _ _ _ _=>none,fun _ _ _ _ _=>none,fun _ _ _ _ _=>none,fun _ _ _ _=>none,fun _ _ _ _=>none,fun _ _ _ _ _=>none,fun _ _ _ _=>none,fun _ _ _ _=>none,fun _ _ _ _=>none,fun _ _ _ _=>none,fun _ _ _ _=>none,fun _ _ _ _=>none,fun _ _ _ _=>none⟩
 | n+1=>⟨sE (rc n),sC (rc n),sV (rc n),sO (rc n),sT (rc n),sL (rc n),sF (rc n),sA (rc n),sI (rc n),sG (rc n),sGs (rc n),sS (rc n),sB (rc n)⟩
abbrev cE (T:Tb) (n:Nat):=(rc n).e T
abbrev cC (T:Tb) (n:Nat):=(rc n).c T
abbrev cV (T:Tb) (n:Nat):=(rc n).v T
abbrev cO (T:Tb) (n:Nat):=(rc n).o T
abbrev cT (T:Tb) (n:Nat):=(rc n).t T
abbrev cL (T:Tb) (n:Nat):=(rc n).l T
abbrev cF (T:Tb) (n:Nat):=(rc n).f T
abbrev cA (T:Tb) (n:Nat):=(rc n).a T
abbrev cI (T:Tb) (n:Nat):=(rc n).i T
abbrev cG (T:Tb) (n:Nat):=(rc n).g T
abbrev cGs (T:Tb) (n:Nat):=(rc n).gs T
abbrev cS (T:Tb) (n:Nat):=(rc n).s T
abbrev cB (T:Tb) (n:Nat):=(rc n).b T
end
end _G
end
section
namespace _G
open PySem PySem.Spec _L
open PyProof.Rows hiding St
section
variable {env:Env}{e a b o:Expr}{es:List Expr}{pos q:Pos}
theorem cD (h:notStar e=true) (es:List Expr) (env:Env):starEach (e::es) env=(false,eval e env)::starEach es env:=by
 cases e <;> first | rfl | cases h
theorem uE (pos:Pos) (env:Env) : ∀ {es:List Expr},es.all notStar=true->(backTo pos (starEach es env)).any (·.1)=false
 | [],_=>rfl
 | e::es,h=>by
   rw [b0,aB] at h
   rw [cD h.1]
   show (false||(backTo pos (starEach es env)).any (·.1))=false
   rw [uE pos env h.2];rfl
theorem BX (h:plainT e=true) (env:Env) : ∀ whole,isTrue e env whole=(do let v <- whole;standAt e.pos;holding [v] (truthy v)):=by
 intro whole
 cases e <;> first | rfl | cases h
theorem pZ (h:iY e=true) (env:Env) : ∀ x,foldedSetIterable e env x=pure x:=by
 intro x
 cases e <;> first | rfl | cases h
theorem uV (h:iY b=true) (op:CmpOp):behindInMarks op b=false:=by
 cases b <;> first | rfl | cases h
theorem Md (h:oh b=true):vC b:=by
 intro o i
 cases b <;> first | rfl | cases h
theorem oo (h:baseOk o=true) (name:Str) (env:Env):attributeBase o name env (eval o env)=eval o env:=by
 cases o with
 | Call f as ks p=>
   cases f with
   | Name x p=>
     cases as with
     | nil=>cases ks with
       | nil=>cases h
       | cons k ks=>rfl
     | cons a as=>rfl
   | _=>rfl
 | _=>rfl
theorem vM (h:mF e=true) (t:Option Expr) (line:Nat) (env:Env):swapsWith e t line env=pure false:=by
 cases e <;> first | rfl | cases h
theorem Gc (h:mF e=true) (t:Expr) (line:Nat) (env:Env):swapsWithSole [t] e line env=pure false:=by
 unfold swapsWithSole
 exact vM h _ _ _
theorem uH (h:notStar a=true) (q:Pos) (env:Env):((backTo q (starEach [a] env)).all (fun x => !x.1)&&(backToKw q (keywordEach [] env)).all (fun x=>x.1.isSome)
   && decide ([a].length+([]:List Keyword).length+(if ([]:List Keyword).isEmpty then 0 else 1) < 30))=true:=by
 rw [cD h];rfl
theorem HI (h:oh b=true) (env:Env) : ∀ v,assign (.Subscript a b pos) env v=(do
   let ov <- holding [v] (eval a env)
   let iv <- holding [v,ov] (eval b env)
   standAt pos
   holding [v,ov,iv] (setItem ov iv v)
   release [v,ov,iv] []):=by
 intro v
 cases b <;> first | rfl | cases h
theorem xx (h:notStar e=true) (es:List Expr) (env:Env):assignEach (e::es) env=(false,assign e env)::assignEach es env:=by
 cases e <;> first | rfl | cases h
theorem zy (env:Env) : ∀ es:List Expr,es.all notStar=true->(assignEach es env).length=es.length/\(assignEach es env).findIdx? (·.1)=none
 | [],_=>⟨rfl,rfl⟩
 | e::es,h=>by
   rw [b0,aB] at h
   obtain⟨a,b⟩:=zy env es h.2
   rw [xx h.1]
   exact⟨by simp [a],by rw [List.findIdx?_cons];simp [b]⟩
theorem y7:swappedStores [.Subscript a b pos] e env=pure none:=by
 cases e <;> rfl
end
theorem hJ {T:Tb} : ∀ {n:Nat}{N:List Str}{ns:NS}{es:List Expr}{m:MA},cA T n N ns es=some m->es.all notStar=true
 | 0,_,_,_,_,h=>by simp [cA,rc] at h
 | n+1,_,_,[],_,h=>rfl
 | n+1,N,ns,e::es,m,h=>by
   simp only [cA,rc,sA] at h
   split at h
   ·rename_i hs
    cases e1:(rc n).e T N ns e with
    | none=>rw [e1] at h;cases h
    | some me=>
      rw [e1] at h
      simp only [ai] at h
      cases e2:(rc n).a T N ns es with
      | none=>rw [e2] at h;cases h
      | some mr=>rw [b0,hs,hJ e2];rfl
   ·cases h
theorem wA {T:Tb} : ∀ {n:Nat}{N:List Str}{ns:NS}{es:List Expr}{m:MGs},cGs T n N ns es=some m->es.all notStar=true
 | 0,_,_,_,_,h=>by simp [cGs,rc] at h
 | n+1,_,_,[],_,h=>rfl
 | n+1,N,ns,e::es,m,h=>by
   simp only [cGs,rc,sGs] at h
   split at h
   ·rename_i hs
    cases e1:(rc n).g T N ns e with
    | none=>rw [e1] at h;cases h
    | some me=>
      rw [e1] at h
      simp only [ai] at h
      cases e2:(rc n).gs T N ns es with
      | none=>rw [e2] at h;cases h
      | some mr=>rw [b0,hs,wA e2];rfl
   ·cases h
theorem slot_get {N:List Str}{x:Str}{i:Nat} (h:slot N x=some i):N[i]? = some x:=by
 unfold slot at h
 obtain⟨h1,h2,_⟩:=dC.mp h
 rw [ay h1,eq_of_beq h2]
theorem hU {x:Str} (h:fU x=true):(x == ("__debug__":Str))=false/\(x == ("__classdict__":Str))=false:=by
 unfold fU at h
 rw [aB] at h
 simpa using h
theorem bind_eq {α β:Type}{o:Option α}{f:α->Option β}{b:β} (h:o.bind f=some b) : ∃ a,o=some a/\f a=some b:=by
 cases o with
 | none=>cases h
 | some a=>exact⟨a,rfl,h⟩
theorem map_eq {α β:Type}{o:Option α}{f:α->β}{b:β} (h:o.map f=some b) : ∃ a,o=some a/\f a=b:=by
 cases o with
 | none=>cases h
 | some a=>exact⟨a,rfl,bS h⟩
section
variable {M:Mo}{X:Cx}{k:Nat}{N:List Str}{ns:NS}{a b c e:Expr}{es:List Expr}{ma mb mc:ME}{mt:MT}{mas:MA}{pos p1 p2:Pos}{x:Str}
theorem Km (S:Sc M X k N ns) (hg:eO ns "list"=true) (hm:M.mg "list"=none) (ha:PA X (e::es) (tMA M.K mas)) (he:starEach (e::es) X.env=(false,eval e X.env)::starEach es X.env) (hpl:(backTo pos (starEach es X.env)).any (·.1)=false) :
  PE X (.Call (.Name "list" p1) (e::es) [] pos) (tM M.K (mFn lT mas)):=
 PE.con (ke (S.hK▸uK) (S.gl hg) (by rw [S.hm];exact hm) kz ha (by decide) (by decide) he hpl) fun _ _ _ h=>vh EU h
theorem Mg (S:Sc M X k N ns) (hg:eO ns "all"=true) (hm:M.mg "all"=none) (ha:PA X (e::es) (tMA M.K mas)) (he:starEach (e::es) X.env=(false,eval e X.env)::starEach es X.env) (hpl:(backTo pos (starEach es X.env)).any (·.1)=false) :
  PE X (.Call (.Name "all" p1) (e::es) [] pos) (tM M.K (mFn lr mas)):=
 PE.con (jl (S.hK▸Ao S.calm) (S.gl hg) (by rw [S.hm];exact hm) PyProof.Rows.boot_all ha (by decide) (by decide) he hpl) fun _ _ _ h=>vh JK h
theorem LZ (S:Sc M X k N ns) (hg:eO ns "any"=true) (hm:M.mg "any"=none) (ha:PA X (e::es) (tMA M.K mas)) (he:starEach (e::es) X.env=(false,eval e X.env)::starEach es X.env) (hpl:(backTo pos (starEach es X.env)).any (·.1)=false) :
  PE X (.Call (.Name "any" p1) (e::es) [] pos) (tM M.K (mFn yN mas)):=
 PE.con (jl (S.hK▸A1 S.calm) (S.gl hg) (by rw [S.hm];exact hm) PyProof.Rows.boot_any ha (by decide) (by decide) he hpl) fun _ _ _ h=>vh HU h
theorem Ff {ts:List Expr}{kt:Nat}{pt:Pos}{a:Expr} (S:Sc M X k N ns) (hg:eO ns "enumerate"=true) (hm:M.mg "enumerate"=none) (ha:PA X [a] (tMA M.K mas)) (hs:starEach [a] X.env = [(false,eval a X.env)]):PI X (.Tuple ts kt pt) (.Call (.Name "enumerate" p1) [a] [] pos) (vn M.K (tMA M.K mas)):=
 S.hK▸E4 (S.gl hg) (by rw [S.hm];exact hm) ha hs
theorem BV (S:Sc M X k N ns) (hg:eO ns "sorted"=true) (hm:M.mg "sorted"=none) (ha:PA X (e::es) (tMA M.K mas)) (he:starEach (e::es) X.env=(false,eval e X.env)::starEach es X.env) (hpl:(backTo pos (starEach es X.env)).any (·.1)=false) :
  PE X (.Call (.Name "sorted" p1) (e::es) [] pos) (tM M.K (mFn eR mas)):=
 PE.con (jl (S.hK▸wg S.calm) (S.gl hg) (by rw [S.hm];exact hm) su ha (by decide) (by decide) he hpl) fun _ _ _ h=>vh Bg h
theorem NP {as:Expr}{q rp:Pos} (S:Sc M X k N ns) (hg:eO ns "sorted"=true) (hm:M.mg "sorted"=none) (hg2:eO ns "set"=true) (hm2:M.mg "set"=none) (ha:PA X [as] (tMA M.K mas)) (hs:notStar as=true) :
  PE X (.Call (.Name "sorted" p1) [.Call (.Name "set" q) [as] [] rp] [] pos) (tM M.K (mFn bSS mas)):=
 PE.con (S.hK▸KF S.calm (S.gl hg) (by rw [S.hm];exact hm) (S.gl hg2) (by rw [S.hm];exact hm2) ha (by rw [cD hs])) fun _ _ _ h=>vh K9 h
theorem B8 (S:Sc M X k N ns) (ho:PE X b (tM M.K mb)) (ha:PA X [a] (tMA M.K mas)) (hb:baseOk b=true) (hs:notStar a=true) (hl:(p1.endLine == pos.line)=true):PE X (.Call (.Attribute b "extend" p1) [a] [] pos) (tM M.K (mML iN mb mas)):=by
 exact PE.con (BW ig PySem.F.slot_list_extend PySem.F.type_list_extend AD ho ha (oo hb _ _) (uH hs _ _) hl (cD hs _ _) rfl) fun _ _ _ h=>S.hK▸IW AV h
theorem CZ {op:CmpOp}{f:F2} (S:Sc M X k N ns) (h:xP op=some f) : ∃ r,OpR X (compareOp op) r/\OpU M.K r f:=by
 cases op <;> simp only [xP,eD,reduceCtorEq] at h <;> subst h
 ·exact⟨_,S.hK▸J3 S.room.units,Lg⟩
 ·exact⟨_,S.hK▸J9 S.room.units,Mw⟩
 ·exact⟨_,K8,vJ⟩
 ·exact⟨_,M4,vJ⟩
 ·exact⟨_,Mq,vJ⟩
 ·exact⟨_,LV,vJ⟩
 ·exact⟨_,S.hK▸Bp (by have:=S.room.units;omega) (by have:=S.room.un;show X.A.units+1+64 < cLine;omega),B6⟩
theorem Kc {N':List Str}{scope:Scope}{px py spos:Pos}{iter elt:Expr}{ifs:List Expr}{wi:TI}{mi:MI}{y:Str} (S:Sc M X k N ns) (i:Nat) (hy:N[i]? = some y) (ho:qL ns y=true) (hk:scope.kind = .function) (ok:mK N N' ns scope.names x=true) (hi:PI X (.Name x px) iter wi)
  (ht : ∀ X',Sc M X' k N' scope.names->PTs X' ifs (tMT M.K mt)) (he : ∀ X',Sc M X' k N' scope.names->PE X' elt (tM M.K mc)) (hr : ∀ σ H Q,tM M.K (bR mi mt mc) σ H Q->oa wi (tMT M.K mt) (tM M.K mc) σ H Q)
  (hs : ∀ x,foldedSetIterable iter X.env x=pure x):PS X (.Assign [.Name y py] (.ListComp elt [⟨.Name x px,iter,ifs,0⟩] scope pos) spos) (tMS M.K (bI i (bR mi mt mc))):=by
 have C:=tJ S hk ok
 have e : ∃ b,swapsWith (.ListComp elt [⟨.Name x px,iter,ifs,0⟩] scope pos) (some (.Name y py)) spos.line X.env=pure b:=⟨_,rfl⟩
 obtain⟨b,e⟩:=e
 cases b with
 | true=>exact PS.con (Fg (by rw [S.hN];exact S.nd) (by rw [S.hN];exact hy) (S.lo ho).1 S.calm C hi (fun s₂ H₂ fp=>ht _ (uI S C s₂ H₂ fp)) (fun s₂ H₂ fp=>he _ (uI S C s₂ H₂ fp)) e hs (S.lo ho).2) fun _ _ _ h=>hr _ _ _ (Hb h)
 | false=>exact GZ S i hy ho (Cc S hk ok hi ht he hr hs) e
theorem J4:PE X (.Dict [] [] pos) (tM M.K om):=PE.con CP fun _ _ _ h=>Ic h
theorem J2 (ha:PE X a (tM M.K ma)) (hb:PE X b (tM M.K mb)):PE X (.Dict [some a] [b] pos) (tM M.K (qX ma mb)):=
 PE.con (FB (CU ha hb GJ) rfl rfl (by simp) (by simp)) fun _ _ _ h=>Jh h
theorem CG {as:Expr}{q rp:Pos} (S:Sc M X k N ns) (hg:eO ns "list"=true) (hm:M.mg "list"=none) (hg2:eO ns "range"=true) (hm2:M.mg "range"=none) (ha:PA X [as] (tMA M.K mas)) (hs:notStar as=true) :
  PE X (.Call (.Name "list" p1) [.Call (.Name "range" q) [as] [] rp] [] pos) (tM M.K (hZ (iR1 mas))):=
 PE.con (ke (nk S.calm) (S.gl hg) (by rw [S.hm];exact hm) kz (mM (z8 (S.gl hg2) (by rw [S.hm];exact hm2) ha (by rw [cD hs];rfl)) rJ) (by decide) (by decide)) fun _ _ _ h=>Cf h
theorem DN {as bs:Expr}{q rp:Pos} (S:Sc M X k N ns) (hg:eO ns "list"=true) (hm:M.mg "list"=none) (hg2:eO ns "range"=true) (hm2:M.mg "range"=none) (ha:PA X [as,bs] (tMA M.K mas)) (hs:notStar as=true) (hs2:notStar bs=true) :
  PE X (.Call (.Name "list" p1) [.Call (.Name "range" q) [as,bs] [] rp] [] pos) (tM M.K (hZ (iR2 mas))):=
 PE.con (ke (nk S.calm) (S.gl hg) (by rw [S.hm];exact hm) kz (mM (Fd (S.gl hg2) (by rw [S.hm];exact hm2) ha (by rw [cD hs,cD hs2];rfl) (by rw [cD hs2];rfl)) rJ) (by decide) (by decide)) fun _ _ _ h=>Ca h
theorem FX {as:Expr}{q rp:Pos} (S:Sc M X k N ns) (hg:eO ns "tuple"=true) (hm:M.mg "tuple"=none) (hg2:eO ns "range"=true) (hm2:M.mg "range"=none) (ha:PA X [as] (tMA M.K mas)) (hs:notStar as=true) :
  PE X (.Call (.Name "tuple" p1) [.Call (.Name "range" q) [as] [] rp] [] pos) (tM M.K (qz (iR1 mas))):=
 PE.con (ke (qr S.calm) (S.gl hg) (by rw [S.hm];exact hm) tF (mM (z8 (S.gl hg2) (by rw [S.hm];exact hm2) ha (by rw [cD hs];rfl)) rJ) (by decide) (by decide)) fun _ _ _ h=>FE h
theorem K0 {t:Str}{c:String} (S:Sc M X k N ns) (hg:eO ns "isinstance"=true) (hm:M.mg "isinstance"=none) (hg2:eO ns t=true) (hm2:M.mg t=none) (hb:bootBuiltins t=some (.type c)) (hc:c∈kG) (hn:t≠"__name__") (hd:(t == ("__debug__":Str))=false)
  (ha:PE X a (tM M.K ma)) (hs:notStar a=true):PE X (.Call (.Name "isinstance" p1) [a,.Name t p2] [] pos) (tM M.K (m1 (lU c) ma)):=by
 refine PE.con (jl DV (S.gl hg) (by rw [S.hm];exact hm) PyProof.Rows.boot_isinstance (mM ha (mM (E3 (v := .ty c) (S.gl hg2) (by rw [S.hm];exact hm2) hb rfl hn hd) rJ) (cD hs _ _)) (by decide) (by decide) (cD hs _ _) rfl) fun _ _ _ h => ?_
 rw [S.hK]
 exact Ms hc h
theorem F9 (S:Sc M X k N ns) (ho:PE X b (tM M.K mb)) (ha:PA X [a] (tMA M.K mas)) (hb:baseOk b=true) (hs:notStar a=true) (hl:(p1.endLine == pos.line)=true):PE X (.Call (.Attribute b "index" p1) [a] [] pos) (tM M.K (mMT iI mb mas)):=by
 refine PE.con (t:=I0 M.K (tM M.K mb) (tMA M.K mas)) ?_ fun _ _ _ h=>Fp h
 rw [<- S.hK]
 exact DQ S.room.units ho ha (oo hb _ _) (uH hs _ _) hl (cD hs _ _) rfl
theorem JG (S:Sc M X k N ns) (ho:PE X b (tM M.K mb)) (hb:baseOk b=true) (hl:(p1.endLine == pos.line)=true):PE X (.Call (.Attribute b "pop" p1) [] [] pos) (tM M.K (mML uR mb af)):=by
 exact PE.con (J5 ig Ag Ah HD ho (oo hb _ _) hl) fun _ _ _ h=>S.hK▸L3 JL h
section
variable {X:Cx}
end
theorem Nl {st:Stmt}:PS X st (tMS M.K sNo):=by
 intro pins s σ H D I h
 obtain⟨μ,S,ρ,r,hr,er,e,kk⟩:=h
 cases e
theorem Lc:PS X (.Break pos) (tMS M.K Ly):=PS.con BP fun D σ H h=>by
 obtain⟨μ,S,ρ,r,hr,er,e,kk⟩:=h
 cases e
 exact kk μ σ H (Pre.refl _) (bF.refl _) hr er
theorem Kp:PS X (.Continue pos) (tMS M.K Nc):=PS.con xc fun D σ H h=>by
 obtain⟨μ,S,ρ,r,hr,er,e,kk⟩:=h
 cases e
 exact kk μ σ H (Pre.refl _) (bF.refl _) hr er
theorem Iz:PS X (.Pass pos) (tMS M.K bX):=PS.con Ft fun D σ H h=>Dm h
theorem Kk:PS X (.Return none pos) (tMS M.K (bU (mC .non))):=PS.con EK fun D σ H h=>by
 obtain⟨μ,S,ρ,r,hr,er,e,kk⟩:=h
 cases e
 exact kk μ _ H (Pre.refl _) (bF.refl _) hr pz
theorem IT (ha:PE X a (tM M.K ma)) (hb:PE X (.BoolOp .And (b::es) pos) (tM M.K mb)):PE X (.BoolOp .And (a::b::es) pos) (tM M.K (jX ma mb)):=PE.con (HS ha hb) fun _ _ _ h=>HV h
theorem LH (ha:PE X a (tM M.K ma)) (hb:PE X (.BoolOp .Or (b::es) pos) (tM M.K mb)):PE X (.BoolOp .Or (a::b::es) pos) (tM M.K (mOr ma mb)):=PE.con (Lm ha hb) fun _ _ _ h=>Ko h
theorem JC (ha:PE X a (tM M.K ma)):PE X (.UnaryOp .Not a pos) (tM M.K (m1 qW ma)):=PE.con (HG ha) fun _ _ _ h=>Jb h
end
end _G
end
section
namespace _G
open PySem PySem.Spec _L
open PyProof.Rows hiding St
section
variable {M:Mo}{cl:Nat->Addr}{k n fu:Nat}{N:List Str}{ns:NS}{X:Cx}{E:XK}
end
end _G
end
section
namespace _G
open PySem PySem.Spec _L
open PyProof.Rows hiding St
structure TOk (M:Mo) (T:Tb) (k:Nat):Prop where
 D : ∀ x mf,T.D.lookup x=some mf -> ∃ k' ps,k'<=k/\Fn M x k' ps mf
 C : ∀ x u,T.C.lookup x=some u -> ∃ g v,M.mg x=some g/\RelV v g /\ ∀ H μ,RU H μ u v
 B : ∀ x∈kf,M.mg x=none
 L : ∀ x q,T.L.lookup x=some q -> ∃ k' ps,k'<=k/\Lam M q.1 k' ps q.2
 mkr:T.mkr=true -> ∃ c q P,M.mkr=some (c,q)/\Mkr M c P (q++T.Z.nm)
 Z : ∀ x r,T.Z.R.lookup x=some r -> ∃ k' ps,k'<=k/\FnX M T.Z.cl x k' ps r
noncomputable def GOk (M:Mo) (T:Tb) (k:Nat):Prop:=TOk M T k/\(T.mkr=true -> ∃ j,j+2<=k/\(∀ x F,T.H.lookup x=some F -> ∃ k' ps,k'<=j+1/\FnC M x k' ps F)/\(∀ x rz,T.Z.F.lookup x=some rz -> ∃ k',k'<=j+1/\FnR M T.Z.cl x k' rz) /\ ∀ caps capv cds base,h8 M.mg base->TOk (M.to caps capv cds base) T.bare j)
noncomputable def IOk (M:Mo) (X:Cx) (tg it:Expr) (mi:MI):Prop := ∃ wi,PI X tg it wi /\
 (∀ i ms D σ H,tMS M.K (dF i mi ms) D σ H->uQ wi (i5 i) (tMS M.K ms) D σ H) /\
 (∀ mt mc σ H Q,tM M.K (bR mi mt mc) σ H Q->oa wi (tMT M.K mt) (tM M.K mc) σ H Q)
structure Snd (M:Mo) (T:Tb) (k n:Nat):Prop where
 e : ∀ N ns e m,cE T n N ns e=some m -> ∀ X,Sc M X k N ns->PE X e (tM M.K m)
 c : ∀ N ns g as m,cC T n N ns g as=some m->eO ns g=true->fU g=true -> ∀ a r,as=a::r -> ∀ X p1 pos,Sc M X k N ns->PE X (.Call (.Name g p1) as [] pos) (tM M.K m)
 v : ∀ N ns g as m,cV T n N ns g as=some m -> ∀ a r,as=a::r -> ∀ X p1 pos,Sc M X k N ns->PE X (.Call (.Name g p1) as [] pos) (tM M.K m)
 v0 : ∀ N ns g m,cV T n N ns g []≠some m
 o : ∀ N ns o m,cO T n N ns o=some m -> ∀ X,Sc M X k N ns->vH M X o m
 t : ∀ N ns e m,cT T n N ns e=some m -> ∀ X,Sc M X k N ns->PT X e (tMT M.K m)
 l : ∀ N ns b vs m pos,cL T n N ns b vs=some m -> ∀ X,Sc M X k N ns->PW X (.BoolOp (if b then .And else .Or) vs pos) (tMT M.K m)
 f : ∀ N ns vs m,cF T n N ns vs=some m -> ∀ X,Sc M X k N ns->PTs X vs (tMT M.K m)
 a : ∀ N ns es m,cA T n N ns es=some m -> ∀ X,Sc M X k N ns->PA X es (tMA M.K m)
 i : ∀ N ns tg it m,cI T n N ns it=some m -> ∀ X,Sc M X k N ns->IOk M X tg it m
 g : ∀ N ns e m,cG T n N ns e=some m -> ∀ X,Sc M X k N ns->PG X e (tG M.K m)
 gs : ∀ N ns es m,cGs T n N ns es=some m -> ∀ X,Sc M X k N ns->PGs X es (tGs M.K m)
 s : ∀ N ns st m,cS T n N ns st=some m -> ∀ X,Sc M X k N ns->PS X st (tMS M.K m)
 b : ∀ N ns sts m,cB T n N ns sts=some m -> ∀ X,Sc M X k N ns->PSs X sts (tMS M.K m)
theorem fE {α:Type}{x:α}{P:Prop} (h:(none:Option α)=some x):P:=by cases h
theorem Ni (M:Mo) (T:Tb) (k:Nat):Snd M T k 0:=
 ⟨fun _ _ _ _ h=>fE h,fun _ _ _ _ _ h=>fE h,fun _ _ _ _ _ h=>fE h,fun _ _ _ _ h=>fE h,fun _ _ _ _ h=>fE h,fun _ _ _ _ h=>fE h,fun _ _ _ _ _ _ h=>fE h,fun _ _ _ _ h=>fE h,fun _ _ _ _ h=>fE h,fun _ _ _ _ _ h=>fE h,fun _ _ _ _ h=>fE h,fun _ _ _ _ h=>fE h,fun _ _ _ _ h=>fE h,fun _ _ _ _ h=>fE h⟩
section
variable {M:Mo}{T:Tb}{k n:Nat}
theorem Kg {N:List Str}{ns:NS}{X:Cx}{a b:Expr}{ma mb:ME}{op:Operator}{f:F2}{pos:Pos} (h:Jv op=some f) (S:Sc M X k N ns) (ha:PE X a (tM M.K ma)) (hb:PE X b (tM M.K mb)):PE X (.BinOp a op b pos) (tM M.K (m2 f ma mb)):=by
 cases op <;> simp only [Jv,eD,reduceCtorEq] at h <;> subst h
 ·exact MN S ha hb
 ·exact Lb ha hb
 ·exact MW S ha hb
 ·exact K2 ha hb
 ·exact KG ha hb
 ·exact Lx ha hb
theorem Kd {N:List Str}{ns:NS}{X:Cx}{a b:Expr}{ma mb:ME}{op:CmpOp}{f:F2}{pos:Pos} (h:xP op=some f) (S:Sc M X k N ns) (ha:PE X a (tM M.K ma)) (hb:PE X b (tM M.K mb)) (hs:iY b=true) :
  PE X (.Compare a [op] [b] pos) (tM M.K (m2 f ma mb))/\PT X (.Compare a [op] [b] pos) (tMT M.K (cOf (m2 f ma mb))):=by
 obtain⟨r,ho,ou⟩:=CZ S h
 exact⟨PE.con (Gv ho ha hb (uV hs _)) fun _ _ _ h=>uJ ou h,PT.con (Fi ho ha hb (uV hs _)) fun _ _ _ h=>yL (fun _ q=>uJ ou q) h⟩
theorem Dx {N:List Str}{ns:NS}{X:Cx}{a b c:Expr}{ma mb mc:ME}{op op':CmpOp}{f g:F2}{pos:Pos} (h:xP op=some f) (h':xP op'=some g) (S:Sc M X k N ns) (ha:PE X a (tM M.K ma)) (hb:PE X b (tM M.K mb)) (hc:PE X c (tM M.K mc)) (hs:iY c=true) :
  PE X (.Compare a [op,op'] [b,c] pos) (tM M.K (mCh f g ma mb mc))/\PT X (.Compare a [op,op'] [b,c] pos) (tMT M.K (cOf (mCh f g ma mb mc))):=by
 obtain⟨r,ho,ou⟩:=CZ S h
 obtain⟨r',ho',ou'⟩:=CZ S h'
 have hm:lastMarks [op,op'] [b,c]=false:=uV hs _
 exact⟨PE.con (BN ho ho' ha hb hc hm) fun _ _ _ h=>zM ou ou' h,PT.con (Ef ho ho' ha hb hc hm) fun _ _ _ h=>yL (fun _ q=>zM ou ou' q) h⟩
theorem Kf {t:Str}{c:String} (h:Dt t=some c):bootBuiltins t=some (.type c)/\c∈kG/\t≠"__name__"/\(t == ("__debug__":Str))=false/\t∈kf:=by
 unfold Dt at h
 repeat' split at h
 all_goals first
  | cases h
    done
  | (rename_i q
     cases h
     rw [eq_of_beq q]
     exact⟨by decide +kernel,by decide,by decide +kernel,by decide +kernel,by decide +kernel⟩)
theorem Gi {N:List Str}{ns:NS}{X:Cx}{g:Str}{e:Expr}{es:List Expr}{mas:MA}{p1 pos:Pos}{mf:MF} (O:TOk M T k) (h:JD g=some mf) (hg:eO ns g=true) (S:Sc M X k N ns) (ha:PA X (e::es) (tMA M.K mas)) (hs:(e::es).all notStar=true) :
  PE X (.Call (.Name g p1) (e::es) [] pos) (tM M.K (mFn mf mas)):=by
 rw [b0,aB] at hs
 have he:=cD hs.1 es X.env
 have hp:=uE pos X.env hs.2
 unfold JD at h
 repeat' split at h
 all_goals first
  | (cases h;done)
  | (rename_i q
     cases h
     rw [eq_of_beq q] at hg ⊢
     first
      | exact CS S hg (O.B _ (by decide +kernel)) ha he hp
      | exact EZ S hg (O.B _ (by decide +kernel)) ha he hp
      | exact Km S hg (O.B _ (by decide +kernel)) ha he hp
      | exact Kt S hg (O.B _ (by decide +kernel)) ha he hp
      | exact Mf S hg (O.B _ (by decide +kernel)) ha he hp
      | exact Mg S hg (O.B _ (by decide +kernel)) ha he hp
      | exact LZ S hg (O.B _ (by decide +kernel)) ha he hp
      | exact BV S hg (O.B _ (by decide +kernel)) ha he hp)
theorem Fz {N:List Str}{ns:NS}{X:Cx}{name:Str}{a o:Expr}{mo m:ME}{mas:MA}{p1 pos:Pos} (h:B1 name mo mas=some m) (S:Sc M X k N ns) (ho:PE X o (tM M.K mo)) (ha:PA X [a] (tMA M.K mas)) (hb:baseOk o=true) (hl:(p1.endLine == pos.line)=true) (hs:notStar a=true) :
  PE X (.Call (.Attribute o name p1) [a] [] pos) (tM M.K m):=by
 unfold B1 at h
 repeat' split at h
 all_goals first
  | (cases h;done)
  | (rename_i q
     cases h
     rw [eq_of_beq q]
     first
      | exact Dh S ho ha (oo hb _ _) (uH hs _ _) hl (cD hs _ _) rfl
      | exact GH S ho ha (oo hb _ _) (uH hs _ _) hl (cD hs _ _) rfl
      | exact F9 S ho ha hb hs hl
      | exact B8 S ho ha hb hs hl)
end
end _G
end
section
namespace _G
open PySem PySem.Spec _L
open PyProof.Rows hiding St
section
variable {M:Mo}{T:Tb}{k n:Nat}
theorem xA {ps:List Str}{sc:Scope}{ns:NS} (h:y9 ps sc ns=true):mq ps (frees sc) sc /\ ∀ y∈frees sc,ns.lookup y=some .cell/\(y,aP)∈sc.names:=by
 unfold y9 at h
 simp only [aB,bC,Bool.not_eq_true',decide_eq_true_eq] at h
 obtain⟨⟨⟨⟨⟨⟨h1,h2⟩,h3⟩,h4⟩,h5⟩,h6⟩,h7⟩:=h
 have fm : ∀ y∈frees sc,(y,aP)∈sc.names:=fun y hy=>by
  obtain⟨z,hz,e⟩:=aE.mp hy
  obtain⟨a,b⟩:=eW.mp hz
  obtain⟨z1,z2⟩:=z
  cases e
  have:z2 = .free:=eq_of_beq b
  rw [this] at a;exact a
 refine⟨⟨eq_of_beq h1,h2,h3,h4,fun p hp => ?_,fun x hx e => ?_,fun y hy e=>aE.mpr ⟨y,eW.mpr ⟨hy,by rw [e];rfl⟩,rfl⟩,fun y hy=>eq_of_beq (h7 y hy).1⟩,fun y hy=>⟨eq_of_beq (h7 y hy).2,fm y hy⟩⟩
 ·have:=h5 p hp
  rw [nX] at this
  exact this.imp eq_of_beq eq_of_beq
 ·have:=h6 x hx
  rw [e] at this
  simpa using this
theorem GOk.of (O:TOk M T k) (h:T.mkr=false):GOk M T k:=⟨O,fun z=>by rw [h] at z;cases z⟩
theorem Le (O:TOk M T k) (R:Snd M T k n) : ∀ N ns g as m,cV T (n+1) N ns g as=some m -> ∀ a r,as=a::r -> ∀ X p1 pos,Sc M X k N ns->PE X (.Call (.Name g p1) as [] pos) (tM M.K m):=by
 intro N ns g as m h a r e X p1 pos S
 subst e
 simp only [cV,rc,sV] at h
 split at h
 ·rename_i hs
  rw [aB] at hs
  obtain⟨q,e1,h⟩:=bind_eq h
  obtain⟨i,e2,h⟩:=bind_eq h
  obtain⟨mas,e3,rfl⟩:=map_eq h
  obtain⟨k',ps,hk,F⟩:=O.L _ _ e1
  have hst:=hJ e3
  rw [b0,aB] at hst
  obtain⟨n1,n2⟩:=hU hs.2
  exact GM S F hk i (slot_get e2) hs.1 (R.a _ _ _ _ e3 X S) n1 n2 (cD hst.1 _ _) (uE _ _ hst.2)
 ·cases h
section
variable {N:List Str}{ns:NS}{X:Cx}{m:ME}
theorem GP {c:Const}{j}{pos:Pos} (h:L7 c=some m):PE X (.Constant c j pos) (tM M.K m):=by
 cases c <;> first | (cases h;done) | skip
 all_goals cases h
 all_goals first | exact MC | exact N2 | exact Mr | exact PE.con JA fun _ _ _ q=>r_c (fun _ _=>by simp only [RU]) q
theorem JR (R:Snd M T k n) {op:UnaryOp}{a:Expr}{pos:Pos} (h:eUn (rc n) T N ns a op=some m) (S:Sc M X k N ns):PE X (.UnaryOp op a pos) (tM M.K m):=by
 cases op <;> first | (cases h;done) | skip
 all_goals obtain⟨ma,e1,rfl⟩:=map_eq h
 all_goals first | exact Ll (R.e _ _ _ _ e1 X S) | exact JC (R.e _ _ _ _ e1 X S)
theorem Jk (R:Snd M T k n) {op:BoolOp}{vs:List Expr}{p:Pos} (h:eBo (rc n) T N ns op p vs=some m) (S:Sc M X k N ns):PE X (.BoolOp op vs p) (tM M.K m):=by
 unfold eBo at h
 split at h
 ·cases h
 ·exact HC (R.e _ _ _ _ h X S)
 ·obtain⟨ma,e1,h⟩:=bind_eq h
  cases op
  ·obtain⟨mb,e2,rfl⟩:=map_eq h
   exact IT (R.e _ _ _ _ e1 X S) (R.e _ _ _ _ e2 X S)
  ·obtain⟨mb,e2,rfl⟩:=map_eq h
   exact LH (R.e _ _ _ _ e1 X S) (R.e _ _ _ _ e2 X S)
theorem Cp (R:Snd M T k n) {a:Expr}{ops:List CmpOp}{bs:List Expr}{pos:Pos} (h:eCm (rc n) T N ns a ops bs=some m) (S:Sc M X k N ns):PE X (.Compare a ops bs pos) (tM M.K m)/\PT X (.Compare a ops bs pos) (tMT M.K (cOf m)):=by
 unfold eCm at h
 split at h
 ·split at h
  ·rename_i hs
   obtain⟨ma,e1,h⟩:=bind_eq h
   obtain⟨mb,e2,h⟩:=bind_eq h
   obtain⟨f,e3,rfl⟩:=map_eq h
   exact Kd e3 S (R.e _ _ _ _ e1 X S) (R.e _ _ _ _ e2 X S) hs
  ·cases h
 ·split at h
  ·rename_i hs
   rw [aB] at hs
   obtain⟨ma,e1,h⟩:=bind_eq h
   obtain⟨mb,e2,h⟩:=bind_eq h
   obtain⟨mc,e3,h⟩:=bind_eq h
   obtain⟨f,e4,h⟩:=bind_eq h
   obtain⟨g,e5,rfl⟩:=map_eq h
   exact Dx e4 e5 S (R.e _ _ _ _ e1 X S) (R.e _ _ _ _ e2 X S) (R.e _ _ _ _ e3 X S) hs.2
  ·cases h
 ·cases h
theorem Jx (R:Snd M T k n) {a b:Expr}{pos:Pos} (h:eSb (rc n) T N ns a b=some m) (S:Sc M X k N ns):PE X (.Subscript a b pos) (tM M.K m):=by
 unfold eSb at h
 split at h
 ·cases h
 ·split at h
  ·rename_i hs
   obtain⟨ma,e1,h⟩:=bind_eq h
   obtain⟨mb,e2,rfl⟩:=map_eq h
   exact NK S (R.e _ _ _ _ e1 X S) (R.e _ _ _ _ e2 X S) (Md hs)
  ·cases h
theorem Ka (R:Snd M T k n) {ks:List (Option Expr)}{vs:List Expr}{pos:Pos} (h:eDi (rc n) T N ns ks vs=some m) (S:Sc M X k N ns):PE X (.Dict ks vs pos) (tM M.K m):=by
 unfold eDi at h
 split at h
 ·cases h;exact J4
 ·obtain⟨ma,e1,h⟩:=bind_eq h
  obtain⟨mb,e2,rfl⟩:=map_eq h
  exact J2 (R.e _ _ _ _ e1 X S) (R.e _ _ _ _ e2 X S)
 ·cases h
theorem IP (O:TOk M T k) (R:Snd M T k n) {elt it:Expr}{ifs:List Expr}{scope:Scope}{x:Str}{px pos:Pos} (h:eLn (rc n) T N ns elt it ifs scope x=some m) (S:Sc M X k N ns) (hk:scope.kind = .function) (ok:mK N (yX N x) ns scope.names x=true) (hs:iY it=true) :
  PE X (.ListComp elt [⟨.Name x px,it,ifs,0⟩] scope pos) (tM M.K m):=by
 unfold eLn at h
 obtain⟨mi,e1,h⟩:=bind_eq h
 obtain⟨mt,e2,h⟩:=bind_eq h
 obtain⟨mc,e3,rfl⟩:=map_eq h
 obtain⟨wi,h1,_,h3⟩:=R.i _ _ _ _ _ e1 X S
 exact Cc S hk ok h1 (fun X' S'=>R.f _ _ _ _ e2 X' S') (fun X' S'=>R.e _ _ _ _ e3 X' S') (h3 mt mc) (pZ hs _)
theorem HF (O:TOk M T k) (R:Snd M T k n) {elt:Expr}{scope:Scope}{gens:List Comprehension}{pos:Pos} (h:eLc (rc n) T N ns elt scope gens=some m) (S:Sc M X k N ns):PE X (.ListComp elt gens scope pos) (tM M.K m):=by
 unfold eLc at h
 split at h
 rotate_left
 ·cases h
 rename_i c
 obtain⟨tg,it,ifs,ia⟩:=c
 split at h
 rotate_left
 ·cases h
 rename_i h0
 have h0':ia=0:=h0
 subst h0'
 have h:eLt (rc n) T N ns elt it ifs scope tg=some m:=h
 unfold eLt at h
 split at h
 ·split at h
  ·rename_i hs
   rw [aB,aB] at hs
   exact IP O R h S (eq_of_beq hs.1.1) hs.1.2 hs.2
  ·cases h
 ·cases h
theorem Ih (O:TOk M T k) (R:Snd M T k n) {g:Str}{rs:List Expr}{p1 q rp pos:Pos} (h:eRg (rc n) T N ns g rs=some m) (S:Sc M X k N ns) (hl:g="list"\/g="tuple") (hg:eO ns g=true) (hr:eO ns "range"=true) :
  PE X (.Call (.Name g p1) [.Call (.Name "range" q) rs [] rp] [] pos) (tM M.K m):=by
 unfold eRg at h
 split at h
 ·rcases hl with rfl | rfl
  ·rw [if_pos (by decide +kernel)] at h
   obtain⟨ma,e1,rfl⟩:=map_eq h
   have hst:=hJ e1
   simp only [b0,gU,fe] at hst
   exact CG S hg (O.B _ (by decide +kernel)) hr (O.B _ (by decide +kernel)) (R.a _ _ _ _ e1 X S) hst
  ·rw [if_neg (by decide +kernel)] at h
   obtain⟨ma,e1,rfl⟩:=map_eq h
   have hst:=hJ e1
   simp only [b0,gU,fe] at hst
   exact FX S hg (O.B _ (by decide +kernel)) hr (O.B _ (by decide +kernel)) (R.a _ _ _ _ e1 X S) hst
 ·rcases hl with rfl | rfl
  ·rw [if_pos (by decide +kernel)] at h
   obtain⟨ma,e1,rfl⟩:=map_eq h
   have hst:=hJ e1
   simp only [b0,gU,fe,aB] at hst
   exact DN S hg (O.B _ (by decide +kernel)) hr (O.B _ (by decide +kernel)) (R.a _ _ _ _ e1 X S) hst.1 hst.2
  ·rw [if_neg (by decide +kernel)] at h
   cases h
 ·cases h
theorem Ij (Gk:GOk M T k) (R:Snd M T k n) (RA : ∀ M T k,GOk M T k->Snd M T k n) {g:Str}{as:List Expr}{p1 pos:Pos} (h:eCf (rc n) T N ns g as=some m) (S:Sc M X k N ns) (hg:eO ns g=true) (hn:fU g=true) :
  PE X (.Call (.Name g p1) as [] pos) (tM M.K m):=by
 have O:=Gk.1
 unfold eCf at h
 split at h
 ·obtain⟨mf,e1,rfl⟩:=map_eq h
  obtain⟨k',ps,hk,F⟩:=O.D _ _ e1
  exact GC S F hk hg (hU hn).1
 ·unfold eC1 at h
  split at h
  ·split at h
   ·rename_i hl
    rw [aB,nX] at hl
    split at h
    ·rename_i hr
     rw [eq_of_beq hl.2] at hr ⊢
     exact Ih O R h S (hl.1.imp eq_of_beq eq_of_beq) hg hr
    ·cases h
   ·split at h
    ·rename_i hl
     rw [aB] at hl
     split at h
     ·rename_i hr
      rw [eq_of_beq hl.2] at hr ⊢
      rw [eq_of_beq hl.1] at hg ⊢
      unfold eSS at h
      split at h
      ·obtain⟨ma,e1,rfl⟩:=map_eq h
       have hst:=hJ e1
       simp only [b0,gU,fe] at hst
       exact NP S hg (O.B _ (by decide +kernel)) hr (O.B _ (by decide +kernel)) (R.a _ _ _ _ e1 X S) hst
      ·cases h
     ·cases h
    ·exact R.c _ _ _ _ _ h hg hn _ _ rfl X _ _ S
  ·exact R.c _ _ _ _ _ h hg hn _ _ rfl X _ _ S
 ·unfold eC2 at h
  split at h
  ·unfold eIs at h
   split at h
   ·rename_i hl
    split at h
    ·rename_i ht
     obtain⟨c,e1,h⟩:=bind_eq h
     obtain⟨ma,e2,rfl⟩:=map_eq h
     obtain⟨c1,c2,c3,c4,c5⟩:=Kf e1
     rw [aB] at ht
     rw [eq_of_beq hl] at hg ⊢
     exact K0 S hg (O.B _ (by decide +kernel)) ht.1 (O.B _ c5) c1 c2 c3 c4 (R.e _ _ _ _ e2 X S) ht.2
    ·cases h
   ·exact R.c _ _ _ _ _ h hg hn _ _ rfl X _ _ S
  ·unfold Kn at h
   split at h
   ·rename_i hs
    rw [aB,aB] at hs
    obtain⟨⟨hT,hnm⟩,hst⟩:=hs
    obtain⟨ps,e0,h⟩:=bind_eq h
    split at h
    ·rename_i hl
     obtain⟨is,e1,h⟩:=bind_eq h
     obtain⟨ma,e2,h⟩:=bind_eq h
     obtain⟨ml,e3,h⟩:=bind_eq h
     obtain⟨F,e4,rfl⟩:=map_eq h
     obtain⟨c,q,P,hmk,MK⟩:=O.mkr hT
     rw [eq_of_beq hnm] at MK
     obtain⟨j,hj,hH,hF,hB⟩:=Gk.2 hT
     obtain⟨k',gps,hk',FC⟩:=hH _ _ e4
     obtain⟨LS,hfs⟩:=xA hl
     exact GG S FC hk' hj hmk MK hg (hU hn).1 (R.e _ _ _ _ e2 X S) (cD hst _ _) e0 LS hfs e1
      fun caps capv cds base hb X' S'=>(RA _ _ _ ⟨hB caps capv cds base hb,fun z=>by cases z⟩).e _ _ _ _ e3 X' S'
    ·cases h
   ·cases h
  ·exact R.c _ _ _ _ _ h hg hn _ _ rfl X _ _ S
 ·exact R.c _ _ _ _ _ h hg hn _ _ rfl X _ _ S
theorem J7 (R:Snd M T k n) {o:Expr}{name:Str}{p q:Pos}{as:List Expr} (h:eMe (rc n) T N ns o name p q as=some m) (S:Sc M X k N ns):PE X (.Call (.Attribute o name p) as [] q) (tM M.K m):=by
 unfold eMe at h
 split at h
 ·split at h
  ·rename_i hs
   rw [aB,aB] at hs
   obtain⟨mo,e1,rfl⟩:=map_eq h
   rw [eq_of_beq hs.2]
   exact JG S (R.e _ _ _ _ e1 X S) hs.1.1 hs.1.2
  ·cases h
 ·split at h
  ·rename_i hs
   rw [aB,aB] at hs
   obtain⟨mo,e1,h⟩:=bind_eq h
   obtain⟨mas,e2,h⟩:=bind_eq h
   exact Fz h S (R.e _ _ _ _ e1 X S) (R.a _ _ _ _ e2 X S) hs.1.1 hs.1.2 hs.2
  ·cases h
 ·cases h
end
theorem K1 (Gk:GOk M T k) (R:Snd M T k n) (RA : ∀ M T k,GOk M T k->Snd M T k n) : ∀ N ns e m,cE T (n+1) N ns e=some m -> ∀ X,Sc M X k N ns->PE X e (tM M.K m):=by
 have O:=Gk.1
 intro N ns e m h X S
 have h:sE (rc n) T N ns e=some m:=h
 cases e with
 | Name x p=>
   have h:(if fU x then (if sP ns x then (slot N x).map ab else if eO ns x then (T.C.lookup x).map mC else none) else none)=some m:=h
   split at h
   ·rename_i hn
    obtain⟨n1,n2⟩:=hU hn
    split at h
    ·rename_i hv
     obtain⟨i,e1,rfl⟩:=map_eq h
     exact L1 S i (slot_get e1) hv n1 n2
    ·split at h
     ·rename_i hg
      obtain⟨u,e1,rfl⟩:=map_eq h
      obtain⟨g,v,hm,r,hv⟩:=O.C _ _ e1
      exact JH S hg hm r hv n1
     ·cases h
   ·cases h
 | Constant c j p=>exact GP h
 | BinOp a op b p=>
   obtain⟨ma,e1,h⟩:=bind_eq (show ((rc n).e T N ns a).bind _=some m from h)
   obtain⟨mb,e2,h⟩:=bind_eq h
   obtain⟨f,e3,rfl⟩:=map_eq h
   exact Kg e3 S (R.e _ _ _ _ e1 X S) (R.e _ _ _ _ e2 X S)
 | UnaryOp op a p=>exact JR R h S
 | BoolOp op vs p=>exact Jk R h S
 | Compare a ops bs p=>exact (Cp R h S).1
 | Subscript a b p=>exact Jx R h S
 | Dict ks vs p=>exact Ka R h S
 | Tuple es j p=>
   obtain⟨ma,e1,rfl⟩:=map_eq (show ((rc n).a T N ns es).map mY=some m from h)
   exact La (R.a _ _ _ _ e1 X S)
 | List es p=>
   obtain⟨ma,e1,rfl⟩:=map_eq (show ((rc n).a T N ns es).map cQ=some m from h)
   exact Ky (R.a _ _ _ _ e1 X S)
 | ListComp elt gens scope p=>exact HF Gk.1 R h S
 | Call f as kws q=>
   have h:(if kws.isEmpty then eCa (rc n) T N ns as q f else none)=some m:=h
   cases kws with
   | cons w ws=>cases h
   | nil=>
     have h:eCa (rc n) T N ns as q f=some m:=h
     unfold eCa at h
     split at h
     ·split at h
      ·rename_i hs
       rw [aB] at hs
       exact Ij Gk R RA h S hs.1 hs.2
      ·cases as with
       | nil=>exact absurd h (R.v0 _ _ _ _)
       | cons a r=>exact R.v _ _ _ _ _ h _ _ rfl X _ _ S
     ·exact J7 R h S
     ·cases h
 | _=>cases h
theorem LK (O:TOk M T k) (R:Snd M T k n) : ∀ N ns g as m,cC T (n+1) N ns g as=some m->eO ns g=true->fU g=true -> ∀ a r,as=a::r -> ∀ X p1 pos,Sc M X k N ns->PE X (.Call (.Name g p1) as [] pos) (tM M.K m):=by
 intro N ns g as m h hg hn a r e X p1 pos S
 subst e
 simp only [cC,rc,sC] at h
 obtain⟨mas,e1,h⟩:=bind_eq h
 have hst:=hJ e1
 split at h
 ·rename_i mf hb
  cases h
  exact Gi O hb hg S (R.a _ _ _ _ e1 X S) hst
 ·obtain⟨mf,e2,rfl⟩:=map_eq h
  obtain⟨k',ps,hk,F⟩:=O.D _ _ e2
  rw [b0,aB] at hst
  exact Ib S F hk hg (R.a _ _ _ _ e1 X S) (hU hn).1 (cD hst.1 _ _) (uE _ _ hst.2)
theorem L9 (R:Snd M T k n) : ∀ N ns o m,cO T (n+1) N ns o=some m -> ∀ X,Sc M X k N ns->vH M X o m:=by
 intro N ns o m h X S
 simp only [cO,rc,sO] at h
 split at h
 ·cases h;exact .none
 ·obtain⟨me,e1,rfl⟩:=map_eq h
  exact .some (R.e _ _ _ _ e1 X S)
theorem KC (R:Snd M T k n) : ∀ N ns e m,cT T (n+1) N ns e=some m -> ∀ X,Sc M X k N ns->PT X e (tMT M.K m):=by
 intro N ns e m h X S
 simp only [cT,rc,sT] at h
 split at h
 ·obtain⟨ma,e1,rfl⟩:=map_eq h
  exact Lk (R.t _ _ _ _ e1 X S)
 ·exact PW.pt (R.l _ _ true _ _ _ h X S)
 ·exact PW.pt (R.l _ _ false _ _ _ h X S)
 ·obtain⟨mc,e1,rfl⟩:=map_eq h
  exact (Cp R e1 S).2
 ·split at h
  ·rename_i hs
   obtain⟨ma,e1,rfl⟩:=map_eq h
   exact LI (R.e _ _ _ _ e1 X S) (BX hs _)
  ·cases h
theorem Mb (R:Snd M T k n) : ∀ N ns b vs m pos,cL T (n+1) N ns b vs=some m -> ∀ X,Sc M X k N ns->PW X (.BoolOp (if b then .And else .Or) vs pos) (tMT M.K m):=by
 intro N ns b vs m pos h X S
 simp only [cL,rc,sL] at h
 split at h
 ·cases h
 ·cases b
  ·exact Lo (R.t _ _ _ _ h X S)
  ·exact JJ (R.t _ _ _ _ h X S)
 ·rename_i a r hr
  obtain⟨ma,e1,h⟩:=bind_eq h
  obtain⟨mr,e2,rfl⟩:=map_eq h
  cases r with
  | nil=>exact (hr rfl).elim
  | cons c r=>
    have h2:=R.l _ _ b _ _ pos e2 X S
    cases b
    ·exact Nj (R.t _ _ _ _ e1 X S) h2
    ·exact MM (R.t _ _ _ _ e1 X S) h2
theorem LA (R:Snd M T k n) : ∀ N ns vs m,cF T (n+1) N ns vs=some m -> ∀ X,Sc M X k N ns->PTs X vs (tMT M.K m):=by
 intro N ns vs m h X S
 simp only [cF,rc,sF] at h
 split at h
 ·cases h;exact Ke
 ·exact Mz (R.t _ _ _ _ h X S)
 ·cases h
theorem MO (R:Snd M T k n) : ∀ N ns es m,cA T (n+1) N ns es=some m -> ∀ X,Sc M X k N ns->PA X es (tMA M.K m):=by
 intro N ns es m h X S
 simp only [cA,rc,sA] at h
 split at h
 ·cases h;exact Mt
 ·split at h
  ·rename_i hs
   obtain⟨ma,e1,h⟩:=bind_eq h
   obtain⟨mr,e2,rfl⟩:=map_eq h
   exact Jl (R.e _ _ _ _ e1 X S) (R.a _ _ _ _ e2 X S) (cD hs _ _)
  ·cases h
theorem B2 {N:List Str}{ns:NS}{X:Cx}{tg e:Expr}{m:ME} (S:Sc M X k N ns) (h:PE X e (tM M.K m)):IOk M X tg e (dq m):=
 ⟨_,Nx S h,fun _ _ _ _ _ q=>NJ q,fun _ _ _ _ _ q=>NU q⟩
theorem Na (O:TOk M T k) (R:Snd M T k n) : ∀ N ns tg it m,cI T (n+1) N ns it=some m -> ∀ X,Sc M X k N ns->IOk M X tg it m:=by
 intro N ns tg it m h X S
 simp only [cI,rc,sI] at h
 split at h
 ·split at h
  ·rename_i hr
   split at h
   ·rename_i hg
    rw [eq_of_beq hr] at hg ⊢
    split at h
    ·obtain⟨ma,e1,rfl⟩:=map_eq h
     have hst:=hJ e1
     simp only [b0,gU,fe] at hst
     exact⟨_,KQ S hg (O.B _ (by decide +kernel)) (R.a _ _ _ _ e1 X S) (cD hst _ _),fun _ _ _ _ _ q=>M3 q,fun _ _ _ _ _ q=>MJ q⟩
    ·obtain⟨ma,e1,rfl⟩:=map_eq h
     have hst:=hJ e1
     simp only [b0,gU,fe,aB] at hst
     exact⟨_,LW S hg (O.B _ (by decide +kernel)) (R.a _ _ _ _ e1 X S) (by rw [cD hst.1,cD hst.2];rfl) (by rw [cD hst.2];rfl),fun _ _ _ _ _ q=>Mh q,fun _ _ _ _ _ q=>Mc q⟩
    ·obtain⟨ma,e1,rfl⟩:=map_eq h
     have hst:=hJ e1
     simp only [b0,gU,fe,aB] at hst
     exact⟨_,KB S hg (O.B _ (by decide +kernel)) (R.a _ _ _ _ e1 X S) (by rw [cD hst.1,cD hst.2.1,cD hst.2.2];rfl) (by rw [cD hst.2.1,cD hst.2.2];rfl),fun _ _ _ _ _ q=>Ln q,fun _ _ _ _ _ q=>K7 q⟩
    ·cases h
   ·cases h
  ·obtain⟨ma,e1,rfl⟩:=map_eq h
   exact B2 S (R.e _ _ _ _ e1 X S)
 ·obtain⟨ma,e1,rfl⟩:=map_eq h
  exact B2 S (R.e _ _ _ _ e1 X S)
theorem Ls (R:Snd M T k n) : ∀ N ns e m,cG T (n+1) N ns e=some m -> ∀ X,Sc M X k N ns->PG X e (tG M.K m):=by
 intro N ns e m h X S
 simp only [cG,rc,sG] at h
 split at h
 ·split at h
  ·rename_i hs
   obtain⟨i,e1,rfl⟩:=map_eq h
   exact PG.con (zB (by rw [S.hN];exact S.nd) (by rw [S.hN];exact slot_get e1) (S.lo hs).1 (S.lo hs).2) fun _ _ _ _ q=>NB q
  ·cases h
 ·obtain⟨gs,e1,rfl⟩:=map_eq h
  obtain⟨h1,h2⟩:=zy X.env _ (wA e1)
  refine PG.con (Iv S.calm (R.gs _ _ _ _ e1 X S) h1 h2) fun _ _ _ _ q => ?_
  rw [S.hK]
  exact KE q
 ·cases h
theorem IX (R:Snd M T k n) : ∀ N ns es m,cGs T (n+1) N ns es=some m -> ∀ X,Sc M X k N ns->PGs X es (tGs M.K m):=by
 intro N ns es m h X S
 simp only [cGs,rc,sGs] at h
 split at h
 ·cases h;exact PGs.con Gj fun _ _ _ _ q=>HM q
 ·split at h
  ·rename_i hs
   obtain⟨g,e1,h⟩:=bind_eq h
   obtain⟨gs,e2,rfl⟩:=map_eq h
   exact PGs.con (DU (R.g _ _ _ _ e1 X S) (R.gs _ _ _ _ e2 X S) (by rw [xx hs];rfl)) fun _ _ _ _ q=>GL q
  ·cases h
theorem Jn (O:TOk M T k) (R:Snd M T k n) {N:List Str}{ns:NS}{it:Expr}{mi:MI}{X:Cx}{ts:List Expr}{kt:Nat}{pt:Pos} (h:eIt (rc n) T N ns it=some mi) (S:Sc M X k N ns) :
  ∃ wi,PI X (.Tuple ts kt pt) it wi /\ ∀ g mb D σ H,tMS M.K (tL g mi mb) D σ H->uQ wi (tG M.K g) (tMS M.K mb) D σ H:=by
 unfold eIt at h
 split at h
 ·split at h
  ·rename_i hr
   split at h
   ·rename_i hg
    rw [eq_of_beq hr] at hg ⊢
    obtain⟨ma,e1,rfl⟩:=map_eq h
    have hst:=hJ e1
    simp only [b0,gU,fe] at hst
    exact⟨_,Ff S hg (O.B _ (by decide +kernel)) (R.a _ _ _ _ e1 X S) (cD hst _ _),fun _ _ _ _ _ q=>K6 q⟩
   ·cases h
  ·cases h
 ·cases h
theorem Fx {N:List Str}{ns:NS}{X:Cx}{m:MS} (R:Snd M T k n) {y:Str}{elt it tg:Expr}{ifs:List Expr}{scope:Scope}{p1:Pos}{p2 p3:Pos} (h:Io (rc n) T N ns y elt it ifs scope tg=some m) (S:Sc M X k N ns) :
  PS X (.Assign [.Name y p1] (.ListComp elt [⟨tg,it,ifs,0⟩] scope p2) p3) (tMS M.K m):=by
 unfold Io at h
 split at h
 ·split at h
  ·rename_i hs
   rw [aB,aB,aB] at hs
   obtain⟨i,e0,h⟩:=bind_eq h
   obtain⟨mi,e1,h⟩:=bind_eq h
   obtain⟨mt,e2,h⟩:=bind_eq h
   obtain⟨mc,e3,rfl⟩:=map_eq h
   obtain⟨wi,h1,_,h3⟩:=R.i _ _ _ _ _ e1 X S
   exact Kc S i (slot_get e0) hs.1 (eq_of_beq hs.2.1.1) hs.2.1.2 h1 (fun X' S'=>R.f _ _ _ _ e2 X' S') (fun X' S'=>R.e _ _ _ _ e3 X' S') (h3 mt mc) (pZ hs.2.2 _)
  ·cases h
 ·cases h
theorem Gx {N:List Str}{ns:NS}{X:Cx}{m:MS} (R:Snd M T k n) {x:Str}{e:Expr}{p1:Pos}{p3:Pos} (h:IZ (rc n) T N ns x e=some m) (S:Sc M X k N ns):PS X (.Assign [.Name x p1] e p3) (tMS M.K m):=by
 unfold IZ at h
 split at h
 ·unfold L8 at h
  split at h
  ·rename_i c
   obtain⟨tg,it,ifs,ia⟩:=c
   split at h
   ·rename_i h0
    have h0':ia=0:=h0
    subst h0'
    exact Fx R h S
   ·cases h
  ·cases h
 ·split at h
  ·rename_i hs
   rw [aB] at hs
   obtain⟨i,e1,h⟩:=bind_eq h
   obtain⟨me,e2,rfl⟩:=map_eq h
   exact GZ S i (slot_get e1) hs.1 (R.e _ _ _ _ e2 X S) (vM hs.2 _ _ _)
  ·cases h
theorem EL {N:List Str}{ns:NS}{X:Cx}{m:MS} (R:Snd M T k n) {t e:Expr}{p3:Pos} (h:HB (rc n) T N ns e t=some m) (S:Sc M X k N ns):PS X (.Assign [t] e p3) (tMS M.K m):=by
 unfold HB at h
 split at h
 ·exact Gx R h S
 ·split at h
  ·rename_i hs
   rw [aB] at hs
   obtain⟨ma,e1,h⟩:=bind_eq h
   obtain⟨mb,e2,h⟩:=bind_eq h
   obtain⟨me,e3,rfl⟩:=map_eq h
   exact E9 S (R.e _ _ _ _ e1 X S) (R.e _ _ _ _ e2 X S) (R.e _ _ _ _ e3 X S) (Gc hs.1 _ _ _) y7 rfl (HI hs.2 _)
  ·cases h
 ·cases h
 ·cases h
theorem IU {N:List Str}{ns:NS}{X:Cx}{m:MS} (R:Snd M T k n) {x:Str}{e:Expr}{op:Operator}{p1:Pos}{p3:Pos} (h:sAu (rc n) T N ns x e op=some m) (S:Sc M X k N ns):PS X (.AugAssign (.Name x p1) op e p3) (tMS M.K m):=by
 unfold sAu at h
 cases h
theorem IG {N:List Str}{ns:NS}{X:Cx}{m:MS} (O:TOk M T k) (R:Snd M T k n) {t it:Expr}{body:List Stmt}{p3:Pos} (h:sFo (rc n) T N ns it body t=some m) (S:Sc M X k N ns):PS X (.For t it body [] p3) (tMS M.K m):=by
 unfold sFo at h
 split at h
 ·split at h
  ·rename_i hs
   rw [aB] at hs
   obtain⟨i,e1,h⟩:=bind_eq h
   obtain⟨mi,e2,h⟩:=bind_eq h
   obtain⟨mb,e3,rfl⟩:=map_eq h
   obtain⟨wi,h1,h2,_⟩:=R.i _ _ _ _ _ e2 X S
   exact LG S i (slot_get e1) hs.1 h1 (R.b _ _ _ _ e3 X S) (h2 i mb) (pZ hs.2 _)
  ·cases h
 ·rename_i ts kt pt
  split at h
  ·rename_i hs
   obtain⟨g,e1,h⟩:=bind_eq h
   obtain⟨mi,e2,h⟩:=bind_eq h
   obtain⟨mb,e3,rfl⟩:=map_eq h
   obtain⟨wi,h1,h2⟩:=Jn O R (ts:=ts) (kt:=kt) (pt:=pt) e2 S
   exact PS.con (CN S.own S.calm h1 (R.g _ _ _ _ e1 X S) (R.b _ _ _ _ e3 X S) (pZ hs _)) fun _ _ _ q=>h2 _ _ _ _ _ q
  ·cases h
 ·cases h
theorem Ku (O:TOk M T k) (R:Snd M T k n) : ∀ N ns st m,cS T (n+1) N ns st=some m -> ∀ X,Sc M X k N ns->PS X st (tMS M.K m):=by
 intro N ns st m h X S
 have h:sS (rc n) T N ns st=some m:=h
 cases st with
 | Assign ts e p=>
   have h:sAs (rc n) T N ns e ts=some m:=h
   unfold sAs at h
   split at h
   ·exact EL R h S
   ·cases h
 | AugAssign t op e p=>
   have h:JP (rc n) T N ns op e t=some m:=h
   unfold JP at h
   split at h
   ·exact IU R h S
   ·cases h
 | Expr e p=>
   have h:(if mF e then ((rc n).e T N ns e).map eg else none)=some m:=h
   split at h
   ·rename_i hs
    obtain⟨me,e2,rfl⟩:=map_eq h
    exact Jf (R.e _ _ _ _ e2 X S) (vM hs _ _ _)
   ·cases h
 | Return o p=>
   have h:sRt (rc n) T N ns o=some m:=h
   unfold sRt at h
   split at h
   ·obtain⟨me,e2,rfl⟩:=map_eq h
    exact Lu (R.e _ _ _ _ e2 X S)
   ·cases h;exact Kk
 | If c a b p=>
   obtain⟨mc,e1,h⟩:=bind_eq h
   obtain⟨ma,e2,h⟩:=bind_eq h
   obtain⟨mb,e3,rfl⟩:=map_eq h
   exact ND (R.t _ _ _ _ e1 X S) (R.b _ _ _ _ e2 X S) (R.b _ _ _ _ e3 X S)
 | For t it body els p=>
   have h:H9 (rc n) T N ns t it body els=some m:=h
   unfold H9 at h
   split at h
   ·exact IG O R h S
   ·cases h
 | While c body els p=>
   have h:sWh (rc n) T N ns c body els=some m:=h
   unfold sWh at h
   split at h
   ·obtain⟨mc,e1,h⟩:=bind_eq h
    obtain⟨mb,e2,rfl⟩:=map_eq h
    exact FU S (R.t _ _ _ _ e1 X S) (R.b _ _ _ _ e2 X S)
   ·cases h
 | Pass p=>
   cases h;exact Iz
 | Break p=>
   cases h;exact Lc
 | Raise a b p=>
   cases h;exact Nl
 | Continue p=>
   cases h;exact Kp
 | _=>cases h
theorem K4 (Gk:GOk M T k) (R:Snd M T k n) (RA : ∀ M T k,GOk M T k->Snd M T k n) : ∀ N ns sts m,cB T (n+1) N ns sts=some m -> ∀ X,Sc M X k N ns->PSs X sts (tMS M.K m):=by
 intro N ns sts m h X S
 simp only [cB,rc,sB] at h
 split at h
 ·cases h;exact MD
 ·exact MZ (R.s _ _ _ _ h X S)
 ·obtain⟨ma,e1,h⟩:=bind_eq h
  obtain⟨mr,e2,rfl⟩:=map_eq h
  exact L6 (R.s _ _ _ _ e1 X S) (R.b _ _ _ _ e2 X S)
theorem snd : ∀ n M T k,GOk M T k->Snd M T k n
 | 0,M,T,k,_=>Ni M T k
 | n+1,M,T,k,Gk=>by
   have RA:=snd n
   have R:=RA M T k Gk
   exact⟨K1 Gk R RA,LK Gk.1 R,Le Gk.1 R,fun N ns g m h=>(by cases (show (none:Option ME)=some m from h)),L9 R,KC R,Mb R,LA R,MO R,Na Gk.1 R,Ls R,IX R,Ku Gk.1 R,K4 Gk R RA⟩
theorem zJ {x qual:Str}{st:Stmt}{f:Addr}{fd:FuncData}{N ps:List Str}{ms:MS}{fu:Nat} (O:TOk M T k) (h0:M.mkr=none) (h1:T.mkr=false) (F:Fun M.K x qual st f fd) (S:bx N ps (av st)) (hm:M.mg x=some (.ref f)) (hb:Binds M.K fd ps [])
  (h:cB T fu N (av st).names (aY st)=some ms):Fn M x (k+1) ps (run ps.length N.length ms):=
 ⟨f,fd,hm,F.2,hb,Cu h0 F S fun X S'=>(snd fu M T k (.of O h1)).b _ _ _ _ h X S'⟩
end
end _G
end
section
namespace _G
open PySem PySem.Spec _L
open PyProof.Rows hiding St
structure Def (K:ak) (x:Str) (st:Stmt):Prop where
 ex : ∃ f fd,eQ K mainGlobals x=some (some (.ref f))/\Fun K x x st f fd
theorem cW {K:ak}{x:Str}{st:Stmt}{f:Addr}{od an:Option Addr}{sl:Array (Option Value)}{oc kV doc pm cd ct:Value} (a:eQ K mainGlobals x=some (some (.ref f)))
  (l:K.lookup f=some ⟨oc,od,.func (cH x x (fD st) (aY st) (av st) .none kV doc pm an cd ct),sl⟩) (c:gc K cd x=true) (k:cj K (.ref f)=true):Def K x st:=
 ⟨f,_,a,JB l c k⟩
section
variable {M:Mo}{T:Tb}{k:Nat}{h:Heap}{x:Str}{st:Stmt}{N ps:List Str}{ms:MS}{fu:Nat}
theorem Def.fn (O:TOk M T k) (h0:M.mkr=none) (h1:T.mkr=false) (X:M.K.K.In h) (Gn:h.Ns mainGlobals M.mg) (D:Def M.K x st) (S:bx N ps (av st))
  (hb : ∀ (kV doc pm:Value) (an:Option Addr) (cdv ct:Value) (us:List Value),us.length=ps.length->bindArgs (cH x x (fD st) (aY st) (av st) .none kV doc pm an cdv ct) ⟨us,[]⟩=pure (ps.zip us))
  (hc:cB T fu N (av st).names (aY st)=some ms):Fn M x (k+1) ps (run ps.length N.length ms):=by
 obtain⟨f,fd,a,F⟩:=D.ex
 exact zJ O h0 h1 F S (kU X Gn a) (F.binds hb) hc
theorem TOk.mono {j:Nat} (O:TOk M T k) (hj:k<=j):TOk M T j where
 Z:=fun y r hy=>let ⟨k',ps',hk,F'⟩:=O.Z y r hy;⟨k',ps',aL hk hj,F'⟩
 D:=fun y g hy=>let ⟨k',ps',hk,F'⟩:=O.D y g hy;⟨k',ps',aL hk hj,F'⟩
 C:=O.C
 B:=O.B
 L:=fun y q hy=>let ⟨k',ps',hk,F'⟩:=O.L y q hy;⟨k',ps',aL hk hj,F'⟩
 mkr:=O.mkr
theorem TOk.cons {j:Nat}{mf:MF} (O:TOk M T k) (F:Fn M x j ps mf) (hj:k<=j):TOk M ⟨(x,mf)::T.D,T.C,T.L,T.H,T.mkr,T.Z⟩ j where
 D:=fun y g hy=>by
  rw [aO] at hy
  cases e:y == x with
  | true=>rw [e] at hy;cases hy;rw [eq_of_beq e];exact⟨j,ps,aj _,F⟩
  | false=>
    rw [e] at hy
    obtain⟨k',ps',hk,F'⟩:=O.D y g hy
    exact⟨k',ps',aL hk hj,F'⟩
 C:=O.C
 B:=O.B
 L:=(O.mono hj).L
 mkr:=O.mkr
 Z:=(O.mono hj).Z
theorem TOk.setH {Hs:List (Str×(Addr->MF->MF))} (O:TOk M T k):TOk M ⟨T.D,T.C,T.L,Hs,T.mkr,T.Z⟩ k:=⟨O.D,O.C,O.B,O.L,O.mkr,O.Z⟩
theorem TOk.con {i:Int} (O:TOk M T k) (X:M.K.K.In h) (Gn:h.Ns mainGlobals M.mg) (a : ∃ t,eQ M.K mainGlobals x=some (some (.int i t))):TOk M ⟨T.D,(x,.int i)::T.C,T.L,T.H,T.mkr,T.Z⟩ k where
 D:=O.D
 C:=fun y u hy=>by
  rw [aO] at hy
  cases e:y == x with
  | true=>
    rw [e] at hy;cases hy;rw [eq_of_beq e]
    obtain⟨t,a⟩:=a
    exact⟨_,.int i,kU X Gn a,⟨t,rfl⟩,fun _ _=>eI⟩
  | false=>rw [e] at hy;exact O.C y u hy
 B:=O.B
 L:=O.L
 mkr:=O.mkr
 Z:=O.Z
theorem TOk.nil {Fs:List (Str×List Nat)}{cl:Nat->Addr}{nm:Str} (X:M.K.K.In h) (Gn:h.Ns mainGlobals M.mg) (B : ∀ x∈kf,eQ M.K mainGlobals x=some none):TOk M ⟨[],[],[],[],false,⟨[],Fs,cl,nm⟩⟩ 0 where
 D:=fun y g hy=>by cases hy
 C:=fun y g hy=>by cases hy
 B:=fun y hy=>PySem.W.mg_none_of X Gn (B y hy)
 L:=fun y g hy=>by cases hy
 mkr:=fun h=>by cases h
 Z:=fun y g hy=>by cases hy
theorem Def.fnC {y:Str}{msC:Addr->MF->MS} (O : ∀ caps capv cds base,h8 M.mg base->TOk (M.to caps capv cds base) T k) (h1:T.mkr=false) (hL:T.L = []) (X:M.K.K.In h) (Gn:h.Ns mainGlobals M.mg) (D:Def M.K x st) (S:bx N ps (av st))
  (hb : ∀ (kV doc pm:Value) (an:Option Addr) (cdv ct:Value) (us:List Value),us.length=ps.length->bindArgs (cH x x (fD st) (aY st) (av st) .none kV doc pm an cdv ct) ⟨us,[]⟩=pure (ps.zip us))
  (hc : ∀ g φ,cB ⟨T.D,T.C,[(y,g,φ)],T.H,T.mkr,T.Z⟩ fu N (av st).names (aY st)=some (msC g φ)):FnC M x k ps fun g φ=>run ps.length N.length (msC g φ):=by
 obtain⟨f,fd,a,F⟩:=D.ex
 refine⟨f,fd,kU X Gn a,F.2,F.binds hb,fun caps capv cds base g j lps φ hbb hkj lam => ?_⟩
 have O':TOk (M.to caps capv cds base) ⟨T.D,T.C,[(y,g,φ)],T.H,T.mkr,T.Z⟩ j:=by
  have O1:=(O caps capv cds base hbb).mono hkj
  refine⟨O1.D,O1.C,O1.B,fun z q hz => ?_,(fun hm=>by rw [h1] at hm;cases hm),O1.Z⟩
  rw [aO] at hz
  cases e:z == y with
  | true=>rw [e] at hz;cases hz;exact⟨j,lps,aj _,lam⟩
  | false=>rw [e] at hz;cases hz
 exact Cu (M:=M.to caps capv cds base) rfl F S fun X' S'=>(snd fu _ _ _ (.of O' h1)).b _ _ _ _ (hc g φ) X' S'
end
structure m6 (K:ak) (x:Str) (st:Stmt) (c P:Addr):Prop where
 ex : ∃ (f:Addr) (oc:Value) (od:Option Addr) (kV doc pm:Value) (an:Option Addr) (ct:Value) (sl:Array (Option Value)),eQ K mainGlobals x=some (some (.ref f)) /\
  K.lookup f=some ⟨oc,od,.func (cH x x (fD st) (aY st) (av st) .none kV doc pm an (.ref c) ct),sl⟩/\gc K (.ref c) x=true/\cj K (.ref f)=true
 cd : ∃ (vs:Array Value) (od:Option Addr) (sl:Array (Option Value)) (file:Str) (tf:Tok) (flags:Int) (tg:Tok) (inF:Bool) (text:Int) (tt:Tok),K.lookup c=some ⟨.type "code",od,.fields vs,sl⟩/\vs[11]? = some (.ref P)/\vs.getD 11 .none = .ref P/\vs.getD 18 .none = .str file tf /\
  vs.getD 7 .none = .int flags tg/\vs.getD 9 .none = .bool inF/\vs.getD 10 .none = .int text tt/\c≠P
section
variable {M:Mo}{T:Tb}{k:Nat}{h:Heap}{x:Str}{st:Stmt}{N ps:List Str}{ms:MS}{fu:Nat}{c P:Addr}
theorem m6.mkr (D:m6 M.K x st c P) (B:h8 M.mg M.base) (X:M.K.K.In h) (Gn:h.Ns mainGlobals M.mg) {q:Str} (hm:(P,q)∈M.K.tabs) (nd:(M.K.tabs.map (·.1)).Nodup) (hg:mainGlobals≠P):Mkr M c P q where
 hd:=fun h' X'=>by
  obtain⟨vs,od,sl,file,tf,flags,tg,inF,text,tt,e,r⟩:=D.cd
  obtain⟨r1,r2,r3,r4,r5,r6,r7⟩:=r
  exact⟨_,vs,file,tf,flags,tg,inF,text,tt,X' _ _ e,rfl,rfl,r1,r2,r3,r4,r5,r6,r7⟩
 bl:=B
 gP:=hg
 mem:=hm
 un:=fun r hr e=>by
  have key : ∀ (l:List (Addr×Str)),(l.map (·.1)).Nodup->r∈l->(P,q)∈l->r.2=q:=by
   intro l
   induction l with
   | nil=>intro _ h;simp at h
   | cons y l ih=>
     intro nd h1 h2
     rw [bA,ip] at nd
     rcases aJ.mp h1 with h1 | h1
     ·rcases aJ.mp h2 with h2 | h2
      ·rw [h1,<- h2]
      ·exact absurd (aE.mpr ⟨_,h2,rfl⟩) (by rw [<- e,h1] at *;exact nd.1)
     ·rcases aJ.mp h2 with h2 | h2
      ·exact absurd (aE.mpr ⟨r,h1,e⟩) (by rw [<- h2] at nd;exact nd.1)
      ·exact ih nd.2 h1 h2
  exact key _ nd hr hm
theorem m6.ok (D:m6 M.K x st c P) (h0:M.mkr=none) (O : ∀ caps capv cds base,h8 M.mg base->TOk (M.to caps capv cds base) T k) (O0:TOk M T k) (hL:T.L = []) (h1:T.mkr=false) (hH : ∀ y F,T.H.lookup y=some F -> ∃ k' ps,k'<=k+1/\FnC M y k' ps F) (hF : ∀ y rz,T.Z.F.lookup y=some rz -> ∃ k',k'<=k+1/\FnR M T.Z.cl y k' rz) {nm:Str} (MK:Mkr M c P (x++".<locals>."++nm))
  (S:bx N ps (av st)) (hc:cB ⟨T.D,T.C,T.L,T.H,true,T.Z.to nm⟩ fu N (av st).names (aY st)=some ms)
  {f:Addr}{oc kV doc pm ct:Value}{od an:Option Addr}{sl:Array (Option Value)} (lk:M.K.K.lookup f=some ⟨oc,od,.func (cH x x (fD st) (aY st) (av st) .none kV doc pm an (.ref c) ct),sl⟩) (hcd:gc M.K.K (.ref c) x=true) :
  ki M.P M.w M.K M.mg M.base CX0 (k+3) f (cH x x (fD st) (aY st) (av st) .none kV doc pm an (.ref c) ct) ps (spM M.K (run ps.length N.length ms)):=by
 let M1:Mo:=⟨M.P,M.w,M.K,M.mg,M.base,some (c,x++".<locals>.")⟩
 have O1:TOk M1 ⟨T.D,T.C,T.L,T.H,true,T.Z.to nm⟩ (k+2):=by
  have Om:=O0.mono (show k<=k+2 by omega)
  refine⟨fun y g hy => ?_,Om.C,Om.B,fun y q hy => ?_,fun _=>⟨c,x++".<locals>.",P,rfl,MK.hd,MK.bl,MK.gP,MK.mem,MK.un⟩,fun y r hy => ?_⟩
  ·obtain⟨k',ps',hk,F'⟩:=Om.D y g hy
   exact⟨k',ps',hk,⟨F'.ex⟩⟩
  ·rw [show (⟨T.D,T.C,T.L,T.H,true,T.Z.to nm⟩:Tb).L=T.L from rfl,hL] at hy
   cases hy
  ·obtain⟨k',ps',hk,F'⟩:=Om.Z y r hy
   exact⟨k',ps',hk,⟨F'.ex⟩⟩
 have G1:GOk M1 ⟨T.D,T.C,T.L,T.H,true,T.Z.to nm⟩ (k+2):=⟨O1,fun _=>⟨k,aj _,fun y F hy=>by
  obtain⟨k',ps',hk,FC⟩:=hH y F hy
  exact⟨k',ps',hk,⟨FC.ex⟩⟩,fun y rz hy=>by
  obtain⟨k',hk,FC⟩:=hF y rz hy
  exact⟨k',hk,⟨FC.ex⟩⟩,fun caps capv cds base hbb=>by
   have Ob:=O caps capv cds base hbb
   exact⟨Ob.D,Ob.C,Ob.B,fun y q hy=>(by cases hy),fun z=>(by cases z),Ob.Z⟩⟩⟩
 have len : ∀ vs H Q E,spM M.K (run ps.length N.length ms) vs H Q E->vs.length=ps.length:=fun vs H Q E h=>by
  obtain⟨μ,S',us,u,S'',hr,rs,e,_⟩:=h
  unfold run at e
  split at e
  ·rename_i hl;rw [<- rs.len];exact hl
  ·cases e
 refine _L.zJ lk hcd S len fun A outer s H vs Q E hr h=>⟨tMS M.K ms,((snd fu M1 _ _ G1).b _ _ _ _ hc _ (Sc.def (M:=M1) S hr fun c' q' hq=>by cases hq;exact⟨rfl,rfl⟩)).nox,?_⟩
 obtain⟨μ,S1,us,u,S2,hr,rs,e,ka⟩:=h
 unfold run at e
 split at e
 ·rename_i hl
  have er:=uf (N:=N) rs
  rw [hl] at er
  split at e
  ·rename_i w ρ' S3 q
   cases e
   exact⟨μ,S1,_,_,hr,er,q,ka⟩
  ·rename_i ρ' S3 q
   cases e
   exact⟨μ,S1,_,_,hr,er,q,fun μ' σ' H' p' k' hr' er'=>ka μ' _ H' p' k' hr' pz⟩
  ·cases e
 ·cases e
theorem m6.fn (D:m6 M.K x st c P) (h0:M.mkr=none) (O : ∀ caps capv cds base,h8 M.mg base->TOk (M.to caps capv cds base) T k) (O0:TOk M T k) (hL:T.L = []) (h1:T.mkr=false) (hH : ∀ y F,T.H.lookup y=some F -> ∃ k' ps,k'<=k+1/\FnC M y k' ps F) (hF : ∀ y rz,T.Z.F.lookup y=some rz -> ∃ k',k'<=k+1/\FnR M T.Z.cl y k' rz) {nm:Str} (MK:Mkr M c P (x++".<locals>."++nm))
  (X:M.K.K.In h) (Gn:h.Ns mainGlobals M.mg) (S:bx N ps (av st))
  (hb : ∀ (kV doc pm:Value) (an:Option Addr) (cdv ct:Value) (us:List Value),us.length=ps.length->bindArgs (cH x x (fD st) (aY st) (av st) .none kV doc pm an cdv ct) ⟨us,[]⟩=pure (ps.zip us))
  (hc:cB ⟨T.D,T.C,T.L,T.H,true,T.Z.to nm⟩ fu N (av st).names (aY st)=some ms):Fn M x (k+3) ps (run ps.length N.length ms):=by
 obtain⟨f,oc,od,kV,doc,pm,an,ct,sl,a,lk,hcd,hkp⟩:=D.ex
 exact⟨f,_,kU X Gn a,hkp,.all (hb kV doc pm an (.ref c) ct),D.ok h0 O O0 hL h1 hH hF MK S hc lk hcd⟩
end
section
variable {M:Mo}
theorem ql {Hs:List (Str×(Addr->MF->MF))}{j k:Nat} (h : ∀ y F,Hs.lookup y=some F -> ∃ k' ps,k'<=j/\FnC M y k' ps F) (hj:j<=k) : ∀ y F,Hs.lookup y=some F -> ∃ k' ps,k'<=k/\FnC M y k' ps F:=fun y F hy=>
 let ⟨k',ps,a,b⟩:=h y F hy;⟨k',ps,aL a hj,b⟩
theorem Fy {Hs:List (Str×(Addr->MF->MF))}{i j k:Nat}{x:Str}{F0:Addr->MF->MF}{ps:List Str} (h : ∀ y F,Hs.lookup y=some F -> ∃ k' ps,k'<=j/\FnC M y k' ps F) (F1:FnC M x i ps F0) (hi:i<=k) (hj:j<=k) : ∀ y F,((x,F0)::Hs).lookup y=some F -> ∃ k' ps,k'<=k/\FnC M y k' ps F:=fun y F hy=>by
 rw [aO] at hy
 cases e:y == x with
 | true=>rw [e] at hy;cases hy;rw [eq_of_beq e];exact⟨i,ps,hi,F1⟩
 | false=>rw [e] at hy;exact ql h hj y F hy
end
theorem vA {K:ak}{x:Str}{st:Stmt}{f c P:Addr}{od an od':Option Addr}{sl sl':Array (Option Value)}{oc kV doc pm ct:Value}{vs:Array Value}{file:Str}{tf tg tt:Tok}{flags text:Int}{inF:Bool} (a:eQ K mainGlobals x=some (some (.ref f)))
  (l:K.lookup f=some ⟨oc,od,.func (cH x x (fD st) (aY st) (av st) .none kV doc pm an (.ref c) ct),sl⟩) (cc:gc K (.ref c) x=true) (k:cj K (.ref f)=true)
  (e:K.lookup c=some ⟨.type "code",od',.fields vs,sl'⟩) (r1:vs[11]? = some (.ref P)) (r2:vs.getD 11 .none = .ref P) (r3:vs.getD 18 .none = .str file tf) (r4:vs.getD 7 .none = .int flags tg) (r5:vs.getD 9 .none = .bool inF) (r6:vs.getD 10 .none = .int text tt) (r7:c≠P):m6 K x st c P:=
 ⟨⟨f,oc,od,kV,doc,pm,an,ct,sl,a,l,cc,k⟩,⟨vs,od',sl',file,tf,flags,tg,inF,text,tt,e,r1,r2,r3,r4,r5,r6,r7⟩⟩
theorem HN {l:mX}{w:World}{K:ak}{h:Heap}{mg:Str->Option Value}{fa:Addr}{st:Stmt}{N:List Str}{ms:MS}{fu k:Nat}{T:Tb} (X:K.In h) (Gn:h.Ns mainGlobals mg) (hfa:mg "law"=some (.ref fa))
  (D:Def K "law" st) (S:bx N ["script"] (av st))
  (hb : ∀ (kV doc pm:Value) (an:Option Addr) (cdv ct:Value) (us:List Value),us.length = ["script"].length->bindArgs (cH "law" "law" (fD st) (aY st) (av st) .none kV doc pm an cdv ct) ⟨us,[]⟩=pure ((["script"]:List Str).zip us))
  {tabs:List (Addr×Str)} (h1:T.mkr=false) (hO : ∀ base:Heap,h8 mg base->TOk ⟨l.prog,w,⟨K,[],[],[],tabs⟩,mg,base,none⟩ T k) (hc:cB T fu N (av st).names (aY st)=some ms) :
  ∃ fd:FuncData,(∀ (s:Shared) (v:Value),BindsTo s fd ⟨[v],[]⟩ [("script",v)]) /\ ∀ base:Heap,K.In base->base.Ns mainGlobals mg->h8 mg base->ki l.prog w K mg base CX0 (k+1) fa fd ["script"] (spM ⟨K,[],[],[],tabs⟩ (run 1 N.length ms)):=by
 obtain⟨f,fd,a,F⟩:=D.ex
 have e:=hfa.symm.trans (kU X Gn a)
 cases e
 refine⟨fd,fun s v => ?_,fun base _ _ hbb=>Cu (M:=⟨l.prog,w,⟨K,[],[],[],tabs⟩,mg,base,none⟩) rfl F S fun X' S'=>(snd fu _ _ _ (.of (hO base hbb) h1)).b _ _ _ _ hc X' S'⟩
 obtain⟨oc,od,kV,doc,pm,an,cdv,ct,osl,rfl,lk,hcd⟩:=F.ex
 exact .of_eq (hb kV doc pm an cdv ct [v] rfl)
theorem MQ {K:ak}{tabs:List (Addr×Str)}{H:Hp}{a:Addr}{ns:List Int}{m:MF} (hT : ∀ q∈tabs,y3 H q.1 q.2) (hS:SqL K H a (ns.map V.int)) (hm : ∀ S:Sto,S.length=1->getL S 0=some (ns.map U.int) -> ∃ S',m [.ref 0] S=some (.bl true,S')) :
  spM ⟨K,[],[],[],tabs⟩ m [.ref a] H (fun v _=>v = .bl true) fun _ _ _=>False:=by
 have key : ∃ c:Cell,nh ⟨K,[],[],[],tabs⟩ H [a] a c/\getL [c] 0=some (ns.map U.int):=by
  rcases hS with (h | ⟨o,h⟩) | h
  ·exact⟨.lst (ns.map U.int),⟨_,h,RUs.ints ns⟩,rfl⟩
  ·exact⟨.frz (ns.map U.int),⟨_,.inl ⟨o,h⟩,RUs.ints ns⟩,rfl⟩
  ·exact⟨.frz (ns.map U.int),⟨_,.inr (.inr h),RUs.ints ns⟩,rfl⟩
 obtain⟨c,hc,hg⟩:=key
 obtain⟨S',e⟩:=hm [c] rfl hg
 refine⟨[a],[c],[.ref 0],.bl true,S',⟨rfl,fun n m us ws q1 q2 _ _ _ => ?_,fun n c' b q1 q2 => ?_,⟨.nil,fun q hq=>(nomatch hq),hT⟩⟩,.cons (qU rfl) .nil,e,fun μ' v H' _ _ _ r=>kZ r⟩
 ·have h1:=(ag.mp q1).1
  have h2:=(ag.mp q2).1
  simp at h1 h2;omega
 ·have h1:=(ag.mp q1).1
  simp at h1;subst h1
  cases q1;cases q2
  exact hc
end _G
end
section
namespace _G
open PySem PySem.Spec _L
open PySem.W (CodeHd tabObj tabIn)
open PyProof.Rows hiding St
theorem m6.tab {K:ak}{x:Str}{st:Stmt}{c P:Addr} (D:m6 K x st c P):tabIn K x=some (c,P):=by
 obtain⟨f,oc,od,kV,doc,pm,an,ct,sl,e1,e2,_⟩:=D.ex
 obtain⟨vs,od',sl',file,tf,flags,tg,inF,text,tt,e3,e4,_⟩:=D.cd
 unfold tabIn
 simp only [e1,e2,e3,e4]
noncomputable def xl (K:ak) (tabs:List (Addr×Str)) (a:Addr) (o:Obj) (xs:List V):Hp:=fun b=>
 if b∈tabs.map (·.1) then some (.tbl #[]) else if b=a/\K.lookup a=none then some (.frz o (.lst xs)) else none
section
variable {P:Program}{w:World}{K:ak}{mg mb:Str->Option Value}{k:Nat}{fa a:Addr}{fd:FuncData}{x:Str}{sp:Sp}{s:Shared}{vs:List Value}{ns:List Int}{tabs:List (Addr×Str)}
theorem FL (kx:K.In s.heap) (hns:s.heap.Ns mainGlobals mg) (hb:s.heap.Ns builtinsNs mb) (hbb : ∀ x:Str,x≠"__name__"->mb x=bootBuiltins x) (hlim:s.heap.NoLimit) (hbm:h8 mg s.heap) (hg:s.gens = #[])
  (ha:s.heap.get? a=some { cls := .type "list",data := .seq vs.toArray }) (hi:IntsAre vs ns) (hl:ns.length<=sizeLine) (hr:kl k callerA)
  (hT : ∀ r∈tabs,K.lookup r.1=none /\ ∃ c,s.heap.TableAt c r.1 #[])
  (F : ∀ base:Heap,K.In base->base.Ns mainGlobals mg->h8 mg base->ki P w K mg base CX0 k fa fd [x] sp) (hbind : ∀ (s:Shared) (u:Value),BindsTo s fd ⟨[u],[]⟩ [(x,u)])
  (hsp : ∀ H:Hp,(∀ r∈tabs,y3 H r.1 r.2)->SqL K H a (ns.map V.int)->sp [.ref a] H (fun v _=>v = .bl true) fun _ _ _=>False) :
  nz (model P w) callerA (.call (.ref fa) ⟨[.ref a],[]⟩) (fun r s'=>r = .ok (.ret (.bool true))/\OldK s.heap s'.heap/\s'.os=s.os/\AllBare s'.gens) s:=by
 have rv:=mE hi
 have lenV:=hi.length
 let o:Obj:={ cls := .type "list",data := .seq vs.toArray }
 let H:=xl K tabs a o (ns.map V.int)
 have hH:H=xl K tabs a o (ns.map V.int):=rfl
 have tab : ∀ b,b∈tabs.map (·.1)->H b=some (.tbl #[])/\K.lookup b=none /\ ∃ c,s.heap.TableAt c b #[]:=fun b hb=>by
  obtain⟨r,hr,e⟩:=aE.mp hb
  subst e
  exact⟨if_pos hb,hT r hr⟩
 have anot:a∉tabs.map (·.1):=fun z=>by
  obtain⟨_,_,c,ht⟩:=tab a z
  have e:=ht.2
  rw [ha] at e
  cases e
 have Hof : ∀ b u,H b=some u->(b∈tabs.map (·.1)/\u = .tbl #[])\/(b=a/\K.lookup a=none/\u = .frz o (.lst (ns.map V.int))):=fun b u e=>by
  rw [hH] at e
  unfold xl at e
  split at e
  ·rename_i z;cases e;exact .inl ⟨z,rfl⟩
  ·split at e
   ·rename_i z;cases e;exact .inr ⟨z.1,z.2,rfl⟩
   ·cases e
 have nodic : ∀ {b:Addr}{o:Obj}{es:Array DictEntry}{ep:Nat},s.heap.get? b=some o->o.data = .dict es ep->H b=none:=fun {b o' es ep} e d=>by
  cases q:H b with
  | none=>rfl
  | some u=>
    rcases Hof b u q with⟨z,_⟩ | ⟨z,_⟩
    ·obtain⟨_,_,c,ht⟩:=tab b z
     have e2:=ht.2
     rw [e] at e2;cases e2;cases d
    ·subst z
     rw [ha] at e;cases e;cases d
 have nsK : ∀ {b:Addr}{m:Str->Option Value},s.heap.Ns b m->(tj s.heap H).Ns b m:=fun {b m} ⟨o,es,ep,e,d,r⟩=>⟨o,es,ep,oO e (nodic e d),d,r⟩
 have hKb:K.In (tj s.heap H):=fun b o' e=>oO (kx b o' e) (by
  cases q:H b with
  | none=>rfl
  | some u=>
    rcases Hof b u q with⟨z,_⟩ | ⟨z,z2,_⟩
    ·rw [(tab b z).2.1] at e;cases e
    ·rw [z,z2] at e;cases e)
 have hok:HOk P w H s.heap:=fun b u e=>by
  rcases Hof b u e with⟨z,rfl⟩ | ⟨rfl,z2,rfl⟩
  ·obtain⟨_,_,c,ht⟩:=tab b z
   exact ht.2
  ·exact⟨ha,by rw [aw];exact hl,vs,_,rv,ha⟩
 have hS:SqL K H a (ns.map V.int):=by
  cases hk:K.lookup a with
  | some o'=>
    have e:=kx a o' hk
    rw [ha] at e
    cases e
    exact .inr ⟨_,vs.toArray,_,hk,rfl,rfl,rfl,by rw [aF,lenV];exact hl,by simpa using rv⟩
  | none=>exact .inl (.inr ⟨o,by show xl K tabs a o (ns.map V.int) a=_;unfold xl;rw [if_neg anot,if_pos ⟨rfl,hk⟩]⟩)
 have hM:Mod K mg (tj s.heap H):=⟨hKb,nsK hns,⟨mb,nsK hb,hbb⟩,let ⟨mc,h1,h2⟩:=hlim;⟨mc,nsK h1,h2⟩⟩
 have e0:AC P w K mg (tj s.heap H) callerA [] s H:=⟨rfl,hM,fun b o e=>zK e,Em (tQ _ _),trivial,fun b hb=>absurd (show b∈([]:List Addr) from hb) (by simp),hok,.of_eq hg⟩
 have hBb:h8 mg (tj s.heap H):=by
  obtain⟨bm,ob,e1,e2,e3,e4,e5,e6⟩:=hbm
  refine⟨bm,ob,e1,e2,oO e3 ?_,e4,e5,e6⟩
  cases q:H bm with
  | none=>rfl
  | some u=>
    rcases Hof bm u q with⟨z,_⟩ | ⟨z,_⟩
    ·obtain⟨_,_,c,ht⟩:=tab bm z
     have e:=ht.2
     rw [e3] at e;cases e;cases e6
    ·rw [z,ha] at e3;cases e3;cases e6
 have hTR : ∀ r∈tabs,y3 H r.1 r.2:=fun r hr=>⟨#[],(tab r.1 (aE.mpr ⟨r,hr,rfl⟩)).1,trivial,fun pos cv h=>by cases h⟩
 refine il ((F _ hKb (nsK hns) hBb).run callerA [] s H ⟨[.ref a],[]⟩ [.ref a] [.ref a] _ _ hr e0 (hbind s (.ref a)) (.cons rfl .nil) (hsp H hTR hS)) fun r s' h => ?_
 cases r with
 | error e=>exact h.elim
 | ok fl=>
   cases fl with
   | next=>exact cR h
   | brk=>exact cR h
   | cont=>exact cR h
   | ret u=>
     obtain⟨v,H',os,bare,un,hok',r',q⟩:=h
     have q':v = .bl true:=q
     subst q'
     obtain rfl:u=xQ true:=r'
     refine⟨rfl,⟨fun b o' e => ?_,fun b o' e=>un.there b o' e (by simp)⟩,os,bare⟩
     cases q:H b with
     | none=>exact .inl (un.keep b o' e q (by intro z;exact absurd (show b∈([]:List Addr) from z) (by simp)) (by simp))
     | some u=>
       rcases Hof b u q with⟨z,rfl⟩ | ⟨rfl,_,rfl⟩
       ·obtain⟨_,_,c,ht⟩:=tab b z
        obtain⟨more,e2⟩:=un.tbls b #[] q
        have e3:s'.heap.get? b=some { cls := .none,data := .fields (#[]++more) }:=hok' b _ e2
        have e4:=ht.2
        rw [e] at e4
        cases e4
        exact .inr (.inl ⟨ht.isCodeTable,rfl,#[],more,rfl,e3⟩)
       ·obtain⟨e2,_⟩:=hok' b _ (un.frzs b _ _ q)
        rw [ha] at e
        cases e
        exact .inl e2
end
theorem Ck {l:mX}{n k:Nat}{q:Program}{loose:List Str}{XP:(Str->Option Value)->Heap->Prop}{YP:World->Heap->Prop}{d:DefRec}{K:Params->ak}{x:Str}
  (hn:l.most=some n) (hn2:n<=sizeLine) (hdf:d.params.defaults = []) (hr:kl k callerA) (hY : ∀ (w:World) (h:Heap),YP w h->(K w.params).In h)
  (F : ∀ (w:World) (mg:Str->Option Value) (fa:Addr) (h:Heap),(K w.params).In h->h.Ns mainGlobals mg->mg d.name=some (.ref fa) -> ∃ (tabs:List (Addr×Str)) (fd:FuncData) (sp:Sp),
   (∀ r∈tabs,(K w.params).lookup r.1=none /\ ∃ x d c,(recsOf q).find? (fun e=>e.name == x)=some d/\tabIn (K w.params) x=some (c,r.1)) /\
   (∀ (s:Shared) (u:Value),BindsTo s fd ⟨[u],[]⟩ [(x,u)])/\(∀ base:Heap,(K w.params).In base->base.Ns mainGlobals mg->h8 mg base->ki l.prog w (K w.params) mg base CX0 k fa fd [x] sp) /\
   ∀ (H:Hp) (a:Addr) (ns:List Int),ns.length<=n->(∀ r∈tabs,y3 H r.1 r.2)->SqL (K w.params) H a (ns.map V.int)->sp [.ref a] H (fun v _=>v = .bl true) fun _ _ _=>False) :
  PySem.W.WalkO q loose XP YP l.row.toRowW d [] (fun f vs=>PySem.call f vs):=by
 refine Att.attach_call hn hdf fun w s₀ s₁ mg mb fa o pm cd doc a vs ns G Y ho hd hcd hmg hobj hints hlen hg => ?_
 have kx:=hY w _ Y
 obtain⟨tabs,fd,sp,hT,hb,hF,hsp⟩:=F w mg fa _ kx G.T.g hmg
 refine FL (tabs:=tabs) kx G.T.g G.T.b G.T.builtins G.T.nolimit G.T.bmain hg hobj hints (aL hlen hn2) hr (fun r hr => ?_) hF hb fun H h1 h2=>hsp H a ns hlen h1 h2
 obtain⟨h1,x',d',c,h2,h3⟩:=hT r hr
 obtain⟨h4,h5⟩:=PySem.W.tab_of G.T kx h2 h3
 exact⟨h1,c,h4.tab h5⟩
end _G
end
section
namespace _G
open PySem PySem.Spec _L
theorem usC {p:List Value->Prop}{n:Nat} (h : ∀ a us,us.length=n->p (a::us)) : ∀ us:List Value,us.length=n+1->p us:=fun us hl=>by
 cases us with
 | nil=>cases hl
 | cons a us=>exact h a us (yb hl)
theorem us0 {p:List Value->Prop} (h:p []) : ∀ us:List Value,us.length=0->p us
 | [],_=>h
theorem us1 {p:List Value->Prop} (h : ∀ a,p [a]) : ∀ us:List Value,us.length=1->p us:=usC fun a us hl=>di hl▸h a
theorem us2 {p:List Value->Prop} (h : ∀ a b,p [a,b]) : ∀ us:List Value,us.length=2->p us:=usC fun a=>us1 (h a)
theorem us3 {p:List Value->Prop} (h : ∀ a b c,p [a,b,c]) : ∀ us:List Value,us.length=3->p us:=usC fun a=>us2 (h a)
theorem TOk.nm {M:Mo}{T:Tb}{k:Nat} (h:TOk M T k) (x:Str):TOk M ⟨T.D,T.C,[],T.H,false,T.Z.to x⟩ k:=⟨h.D,h.C,h.B,fun _ _ e=>(by cases e),fun z=>(by cases z),h.Z⟩
noncomputable def Bd (x:Str) (st:Stmt) (ps:List Str):Prop := ∀ (kV doc pm:Value) (an:Option Addr) (cdv ct:Value) (us:List Value),us.length=ps.length->bindArgs (cH x x (fD st) (aY st) (av st) .none kV doc pm an cdv ct) ⟨us,[]⟩=pure (ps.zip us)
structure Ch (P:Program) (w:World) (K:ak) (mg:Str->Option Value) (tabs:List (Addr×Str)) (T:Tb) (k:Nat):Prop where
 o : ∀ (caps:List U) (capv:List V) (cds:List (Addr×Obj)) (base:Heap),h8 mg base->TOk ⟨P,w,⟨K,caps,capv,cds,tabs⟩,mg,base,none⟩ T k
 h : ∀ (caps:List U) (capv:List V) (cds:List (Addr×Obj)) (base:Heap),h8 mg base -> ∀ y F,T.H.lookup y=some F -> ∃ k' ps,k'<=k/\FnC ⟨P,w,⟨K,caps,capv,cds,tabs⟩,mg,base,none⟩ y k' ps F
 r : ∀ (caps:List U) (capv:List V) (cds:List (Addr×Obj)) (base:Heap),h8 mg base -> ∀ y rz,T.Z.F.lookup y=some rz -> ∃ k',k'<=k/\FnR ⟨P,w,⟨K,caps,capv,cds,tabs⟩,mg,base,none⟩ T.Z.cl y k' rz
theorem vE {M:Mo}{Fs:List (Str×List Nat)}{cl:Nat->Addr}{j k:Nat} (h : ∀ y rz,Fs.lookup y=some rz -> ∃ k',k'<=j/\FnR M cl y k' rz) (hj:j<=k) : ∀ y rz,Fs.lookup y=some rz -> ∃ k',k'<=k/\FnR M cl y k' rz:=fun y rz hy=>
 let ⟨k',a,b⟩:=h y rz hy;⟨k',aL a hj,b⟩
section
variable {P:Program}{w:World}{K:ak}{mg:Str->Option Value}{tabs:List (Addr×Str)}{T T':Tb}{k j:Nat}{h:Heap}{x:Str}{st:Stmt}{N ps:List Str}{ms:MS}{fu:Nat}
theorem Ch.dfn (c:Ch P w K mg tabs T k) (O : ∀ (caps:List U) (capv:List V) (cds:List (Addr×Obj)) (base:Heap),h8 mg base->TOk ⟨P,w,⟨K,caps,capv,cds,tabs⟩,mg,base,none⟩ T' k) (h1:T'.mkr=false) (X:K.In h) (Gn:h.Ns mainGlobals mg) (D:Def K x st) (S:bx N ps (av st)) (hb:Bd x st ps)
  (hc:cB T' fu N (av st).names (aY st)=some ms):Ch P w K mg tabs ⟨(x,run ps.length N.length ms)::T.D,T.C,T.L,T.H,T.mkr,T.Z⟩ (k+1):=
 ⟨fun a b d e f=>(c.o a b d e f).cons (D.fn (M:=⟨P,w,⟨K,a,b,d,tabs⟩,mg,e,none⟩) (O a b d e f) rfl h1 X Gn S hb hc) (dO k),fun a b d e f=>ql (c.h a b d e f) (dO k),fun a b d e f=>vE (c.r a b d e f) (dO k)⟩
theorem Ch.cls {y:Str}{msC:Addr->MF->MS} (c:Ch P w K mg tabs T k) (h1:T.mkr=false) (hL:T.L = []) (X:K.In h) (Gn:h.Ns mainGlobals mg) (D:Def K x st) (S:bx N ps (av st)) (hb:Bd x st ps)
  (hc : ∀ g φ,cB ⟨T.D,T.C,[(y,g,φ)],T.H,T.mkr,T.Z⟩ fu N (av st).names (aY st)=some (msC g φ)):Ch P w K mg tabs ⟨T.D,T.C,T.L,(x,fun g φ=>run ps.length N.length (msC g φ))::T.H,T.mkr,T.Z⟩ k:=
 ⟨fun a b d e f=>(c.o a b d e f).setH,fun a b d e f=>Fy (c.h a b d e f) (D.fnC (M:=⟨P,w,⟨K,a,b,d,tabs⟩,mg,e,none⟩) c.o h1 hL X Gn S hb hc) (aj k) (aj k),c.r⟩
theorem Ch.lam_ {a p:Addr}{nm:Str} (c:Ch P w K mg tabs T k) (h1:T.mkr=false) (hL:T.L = []) (hm:(p,x++".<locals>."++nm)∈tabs) (nd:(tabs.map (·.1)).Nodup) (hg:mainGlobals≠p) (X:K.In h) (Gn:h.Ns mainGlobals mg) (D:m6 K x st a p) (S:bx N ps (av st)) (hb:Bd x st ps)
  (hc:cB ⟨T.D,T.C,T.L,T.H,true,T.Z.to nm⟩ fu N (av st).names (aY st)=some ms):Ch P w K mg tabs ⟨(x,run ps.length N.length ms)::T.D,T.C,T.L,T.H,T.mkr,T.Z⟩ (k+3):=
 ⟨fun a b d e f=>(c.o a b d e f).cons (D.fn (M:=⟨P,w,⟨K,a,b,d,tabs⟩,mg,e,none⟩) rfl c.o (c.o a b d e f) hL h1 (ql (c.h a b d e f) (dO k)) (vE (c.r a b d e f) (dO k)) (D.mkr (M:=⟨P,w,⟨K,a,b,d,tabs⟩,mg,e,none⟩) f X Gn hm nd hg) X Gn S hb hc) (fA k 3),fun a b d e f=>ql (c.h a b d e f) (fA k 3),fun a b d e f=>vE (c.r a b d e f) (fA k 3)⟩
end
end _G
end
section
namespace _W
open PySem PySem.Spec _L _G
section
noncomputable def gv:MS:=aZ (sIf (cOf (m2 oLt (ab 1) (mFn bD (aa (ab 0) af)))) (bU (m2 oIx (ab 0) (ab 1))) bX) (bU (mC (.int 0)))
noncomputable def iO:MF:=run 2 2 gv
noncomputable def jH:MS:=aZ (bI 2 (mFn iO (aa (ab 0) (aa (ab 1) af)))) (aZ (sIf (cOf (m2 oGe (ab 2) (m2 uW (mC (.int 10)) (mC (.int 18))))) (bU (cQ (aa (m2 uF (ab 2) (m2 uW (mC (.int 10)) (mC (.int 18)))) (aa (mC (.bl true)) af)))) bX) (bU (cQ (aa (m2 oMod (ab 2) (mC (.int 2147483647))) (aa (mC (.bl false)) af)))))
noncomputable def jO:MF:=run 2 3 jH
noncomputable def kC:MS:=aZ (sIf (cOf (m2 oIx (ab 0) (mC (.int 1)))) (aZ (bI 2 (m2 oMod (m2 oIx (ab 0) (mC (.int 0))) (ab 1))) (aZ (eF (ab 0) (mC (.int 0)) (m2 oDiv (m2 oIx (ab 0) (mC (.int 0))) (ab 1))) (bU (ab 2)))) bX) (aZ (eF (ab 0) (mC (.int 0)) (m2 oMod (m2 cZ (m2 fG (m2 oIx (ab 0) (mC (.int 0))) (mC (.int 48271))) (mC (.int 29))) (mC (.int 2147483647)))) (aZ (bI 3 (m2 oMod (m2 cZ (m2 cZ (m2 fG (m2 oIx (ab 0) (mC (.int 0))) (m2 oIx (ab 0) (mC (.int 0)))) (m2 fG (mC (.int 39373)) (m2 oIx (ab 0) (mC (.int 0))))) (mC (.int 7))) (mC (.int 2147483629)))) (aZ (bI 3 (m2 oMod (m2 cZ (m2 fG (ab 3) (ab 3)) (m2 fG (mC (.int 16807)) (ab 3))) (mC (.int 2147483587)))) (bU (m2 oMod (m2 oDiv (ab 3) (mC (.int 8))) (ab 1))))))
noncomputable def bu:MF:=run 2 4 kC
noncomputable def mn:MS:=bU (mFn b9 (aa (bR (iR1 (aa (ab 0) af)) cTT (mFn b9 (aa (bR (iR1 (aa (ab 0) af)) cTT (m2 oMod (m2 cZ (ab 1) (ab 2)) (ab 0))) af))) af))
noncomputable def dB:MF:=run 1 1 mn
noncomputable def mj:MS:=aZ (bI 1 (cQ af)) (aZ (dF 2 (iR1 (aa (m2 fG (mC (.int 2)) (ab 0)) af)) (aZ (bI 3 (cQ af)) (aZ (dF 4 (iR1 (aa (m2 fG (mC (.int 2)) (ab 0)) af)) (aZ (bI 5 (m2 oMod (m2 cZ (m2 oMod (ab 2) (ab 0)) (m2 fG (m2 oIx (cQ (aa (mC (.int 1)) (aa (m1 yk (mC (.int 1))) af))) (m2 oDiv (ab 2) (ab 0))) (m2 oMod (ab 4) (ab 0)))) (ab 0))) (eg (mML dn (ab 3) (aa (m2 cZ (ab 5) (m2 fG (ab 0) (m2 oMod (m2 cZ (m2 oDiv (ab 2) (ab 0)) (m2 oDiv (ab 4) (ab 0))) (mC (.int 2))))) af))))) (eg (mML dn (ab 1) (aa (mFn b9 (aa (ab 3) af)) af)))))) (bU (mFn b9 (aa (ab 1) af))))
noncomputable def fL:MF:=run 1 6 mj
noncomputable def jT:MS:=aZ (bI 0 (cQ (aa (cQ (aa (mC (.int 0)) (aa (mC (.int 0)) (aa (mC (.int 0)) (aa (mC (.int 0)) af))))) (aa (cQ (aa (mC (.int 0)) (aa (mC (.int 1)) (aa (mC (.int 0)) (aa (mC (.int 1)) af))))) (aa (cQ (aa (mC (.int 0)) (aa (mC (.int 1)) (aa (mC (.int 1)) (aa (mC (.int 0)) af))))) (aa (cQ (aa (mC (.int 0)) (aa (mC (.int 0)) (aa (mC (.int 1)) (aa (mC (.int 1)) af))))) af)))))) (aZ (bI 1 (cQ (aa (cQ (aa (mC (.int 0)) (aa (mC (.int 1)) (aa (mC (.int 2)) (aa (mC (.int 3)) af))))) (aa (cQ (aa (mC (.int 1)) (aa (mC (.int 0)) (aa (mC (.int 3)) (aa (mC (.int 2)) af))))) (aa (cQ (aa (mC (.int 2)) (aa (mC (.int 3)) (aa (mC (.int 0)) (aa (mC (.int 1)) af))))) (aa (cQ (aa (mC (.int 3)) (aa (mC (.int 2)) (aa (mC (.int 1)) (aa (mC (.int 0)) af))))) af)))))) (aZ (bI 2 (cQ af)) (aZ (dF 3 (iR1 (aa (mC (.int 8)) af)) (aZ (bI 4 (cQ af)) (aZ (dF 5 (iR1 (aa (mC (.int 8)) af)) (aZ (bI 6 (m2 oMod (m2 cZ (m2 cZ (ab 3) (ab 5)) (m2 oIx (m2 oIx (ab 0) (m2 oDiv (ab 3) (mC (.int 2)))) (m2 oDiv (ab 5) (mC (.int 2))))) (mC (.int 2)))) (eg (mML dn (ab 4) (aa (m2 cZ (m2 fG (mC (.int 2)) (m2 oIx (m2 oIx (ab 1) (m2 oDiv (ab 3) (mC (.int 2)))) (m2 oDiv (ab 5) (mC (.int 2))))) (ab 6)) af))))) (eg (mML dn (ab 2) (aa (mFn b9 (aa (ab 4) af)) af)))))) (bU (mFn b9 (aa (ab 2) af))))))
noncomputable def gE:MF:=run 0 7 jT
noncomputable def nM:MS:=aZ (bI 2 (mFn bD (aa (ab 1) af))) (aZ (bI 3 (cQ af)) (aZ (dF 4 (iR1 (aa (m2 fG (mFn bD (aa (ab 0) af)) (ab 2)) af)) (aZ (bI 5 (cQ af)) (aZ (dF 6 (iR1 (aa (m2 fG (mFn bD (aa (ab 0) af)) (ab 2)) af)) (aZ (bI 7 (m2 oIx (m2 oIx (ab 0) (m2 oDiv (ab 4) (ab 2))) (m2 oDiv (ab 6) (ab 2)))) (eg (mML dn (ab 5) (aa (m2 cZ (m2 fG (ab 7) (ab 2)) (m2 oIx (m2 oIx (ab 1) (m2 oMod (ab 4) (ab 2))) (m2 oMod (ab 6) (ab 2)))) af))))) (eg (mML dn (ab 3) (aa (mFn b9 (aa (ab 5) af)) af)))))) (bU (mFn b9 (aa (ab 3) af)))))
noncomputable def kJ:MF:=run 2 8 nM
noncomputable def lP:MS:=bU (mFn b9 (aa (bR (dq (ab 1)) cTT (mFn b9 (aa (bR (dq (ab 1)) cTT (mMT iI (ab 1) (aa (m2 oIx (m2 oIx (ab 0) (ab 2)) (ab 3)) af))) af))) af))
noncomputable def jL:MF:=run 2 2 lP
noncomputable def lL:MS:=aZ (bI 2 (hZ (iR2 (aa (mC (.int 1)) (aa (ab 1) af))))) (bU (m2 cZ (mY (aa (mC (.int 0)) af)) (mFn b9 (aa (bR (iR1 (aa (m2 uF (ab 1) (mC (.int 1))) af)) cTT (mML md (ab 2) (aa (mFn bu (aa (ab 0) (aa (mFn bD (aa (ab 2) af)) af))) af))) af))))
noncomputable def jJ:MF:=run 2 3 lL
noncomputable def lZ:MS:=aZ (bI 2 (mFn bu (aa (ab 0) (aa (mC (.int 8)) af)))) (aZ (bI 3 (mFn dB (aa (m2 cZ (mC (.int 1)) (mFn bu (aa (ab 0) (aa (ab 1) af)))) af))) (aZ (sIf (cOr (cOf (m2 oEq (ab 2) (mC (.int 1)))) (cOf (m2 oEq (ab 2) (mC (.int 2))))) (bI 3 (mFn fL (aa (m2 cZ (mC (.int 1)) (mFn bu (aa (ab 0) (aa (m2 oDiv (ab 1) (mC (.int 2))) af)))) af))) bX) (aZ (sIf (lu (cOf (m2 oEq (ab 2) (mC (.int 3)))) (cOf (m2 oGt (ab 1) (mC (.int 7))))) (bI 3 (mFn gE af)) bX) (aZ (sIf (cOf (m2 oGt (ab 2) (mC (.int 3)))) (aZ (bI 4 (m2 cZ (mC (.int 2)) (mFn bu (aa (ab 0) (aa (mC (.int 3)) af))))) (aZ (bI 5 (m2 oIx (cQ (aa (mFn dB (aa (ab 4) af)) (aa (mFn fL (aa (ab 4) af)) af))) (mFn bu (aa (ab 0) (aa (mC (.int 2)) af))))) (aZ (sIf (cOf (m2 oGt (mFn bD (aa (ab 5) af)) (ab 1))) (bI 5 (mFn dB (aa (ab 4) af))) bX) (bI 3 (mFn kJ (aa (ab 5) (aa (mFn dB (aa (m2 cZ (mC (.int 1)) (mFn bu (aa (ab 0) (aa (m2 oDiv (ab 1) (mFn bD (aa (ab 5) af))) af)))) af)) af))))))) bX) (aZ (sIf (cOf (m2 oEq (mFn bu (aa (ab 0) (aa (mC (.int 3)) af))) (mC (.int 0)))) (bI 3 (mFn jL (aa (ab 3) (aa (mFn jJ (aa (ab 0) (aa (mFn bD (aa (ab 3) af)) af))) af)))) bX) (bU (ab 3)))))))
noncomputable def gK:MF:=run 2 6 lZ
end
end _W
end
section
namespace _W
structure Grp (m:Nat) (T:Nat->Nat->Nat):Prop where
 pos:0 < m
 cl : ∀ i j,i < m->j < m->T i j < m
 l0 : ∀ i,i < m->T 0 i=i
 r0 : ∀ i,i < m->T i 0=i
 inv : ∀ i,i < m -> ∃ j,j < m/\T i j=0/\T j i=0
 as : ∀ i j k,i < m->j < m->k < m->T (T i j) k=T i (T j k)
noncomputable def fw (n:Nat):Nat->Nat->Nat:=fun i j=>(i+j) % n
theorem mG {n:Nat} (h:0 < n):Grp n (fw n) where
 pos:=h
 cl:=fun i j _ _=>kQ _ h
 l0:=fun i hi=>by unfold fw;rw [ei];exact bG hi
 r0:=fun i hi=>by unfold fw;rw [nZ];exact bG hi
 inv:=fun i hi=>by
  by_cases h0:i=0
  ·subst h0;exact⟨0,h,by simp [fw],by simp [fw]⟩
  ·refine⟨n - i,by omega,?_,?_⟩ <;> unfold fw
   ·rw [show i+(n - i)=n by omega,n0]
   ·rw [show n - i+i=n by omega,n0]
 as:=fun i j k _ _ _=>by
  unfold fw
  rw [n9,Nat.add_mod_mod,fY]
noncomputable def gM (n:Nat):Nat->Nat->Nat:=fun i j=>
 (if i < n then (i % n+j % n) % n else (i % n+(n - j % n)) % n)+n*((i / n+j / n) % 2)
theorem half {n i:Nat} (h:i < 2*n):(i < n/\i % n=i/\i / n=0)\/(n<=i/\i % n=i - n/\i / n=1):=by
 by_cases hi:i < n
 ·exact .inl ⟨hi,bG hi,gX hi⟩
 ·refine .inr ⟨by omega,?_,?_⟩
  ·rw [Nat.mod_eq_sub_mod (by omega),bG (by omega)]
  ·exact Nat.div_eq_of_lt_le (by omega) (by omega)
theorem fi {n a b:Nat} (ha:a < n) (hb:b < n):gM n a b=(a+b) % n:=by
 unfold gM
 rw [if_pos ha,bG ha,bG hb,gX ha,gX hb];simp
theorem Gr {n a:Nat} (ha:a < n):(n+a) / n=1:=Nat.div_eq_of_lt_le (by omega) (by omega)
theorem ET {n a:Nat} (ha:a < n):(n+a) % n=a:=by rw [Nat.add_mod_left];exact bG ha
theorem iL {n a b:Nat} (ha:a < n) (hb:b < n):gM n a (n+b)=n+(a+b) % n:=by
 unfold gM
 rw [if_pos ha,bG ha,ET hb,gX ha,Gr hb];simp;omega
theorem iJ {n a b:Nat} (ha:a < n) (hb:b < n):gM n (n+a) b=n+(a+(n - b)) % n:=by
 unfold gM
 rw [if_neg (by omega),ET ha,bG hb,gX hb,Gr ha];simp;omega
theorem iM {n a b:Nat} (ha:a < n) (hb:b < n):gM n (n+a) (n+b)=(a+(n - b)) % n:=by
 unfold gM
 rw [if_neg (by omega),ET ha,ET hb,Gr ha,Gr hb];simp
theorem Ng {n a b:Nat} (ha:a < n) (hb:b < n):(a+b) % n=if a+b < n then a+b else a+b - n:=by
 split
 ·exact bG (by assumption)
 ·rw [Nat.mod_eq_sub_mod (by omega),bG (by omega)]
theorem NO {n a b:Nat} (ha:a < n) (hb:b < n):(a+(n - b)) % n=if b<=a then a - b else a+n - b:=by
 have e:=Nat.add_sub_assoc (aQ hb) a
 split
 ·rename_i h
  rw [<- e,nc h,lG,bG (aN (kW a b) ha)]
 ·rename_i h
  rw [bG (Nat.lt_of_lt_of_eq (Nat.add_lt_add_right (Nat.lt_of_not_le h) (n - b)) (Nat.add_sub_cancel' (aQ hb))),e]
theorem mh {n i:Nat} (h:i < 2*n):(i < n) \/ ∃ a,a < n/\i=n+a:=by
 by_cases hi:i < n
 ·exact .inl hi
 ·exact .inr ⟨i - n,by omega,by omega⟩
theorem FT {n a b c:Nat}:((a+b) % n+c) % n=(a+(b+c) % n) % n:=by rw [n9,Nat.add_mod_mod,fY]
theorem LM {n a b c:Nat} (hb:b < n) (hc:c < n):((a+(n - b)) % n+(n - c)) % n=(a+(n - (b+c) % n)) % n:=by
 rw [n9,Ng hb hc]
 split
 ·rename_i h
  have h1:n - b=n - (b+c)+c:=by rw [Nat.sub_add_eq,Nat.sub_add_cancel (Nat.le_sub_of_add_le' (aQ h))]
  rw [h1,<- fY,fY _ c,Nat.add_sub_cancel' (aQ hc),lG]
 ·rename_i h
  rw [<- lH b (aQ hc),lH n (Nat.sub_le_of_le_add (cf h)),nc (aQ hb),fY]
theorem LC {n a b c:Nat} (hb:b < n) (hc:c < n):((a+(n - b)) % n+c) % n=(a+(n - (b+(n - c)) % n)) % n:=by
 rw [n9,NO hb hc]
 split
 ·rename_i h
  rw [lH n h,nc (aQ hb),fY]
 ·rename_i h
  have h':=aQ (Nat.lt_of_not_le h)
  rw [nV b n,<- lH n h',Nat.sub_sub_self (aL (kW c b) (aQ hc)),<- lG (a+(c - b)) n,fY a (c - b) n,nV (c - b) n,<- Nat.add_sub_assoc h' n,nc (aQ hb),fY]
theorem wR {n:Nat} (h:0 < n):Grp (2*n) (gM n):=by
 have ml : ∀ x,x % n < n:=fun x=>kQ _ h
 have cl : ∀ i j,i < 2*n->j < 2*n->gM n i j < 2*n:=fun i j hi hj=>by
  rcases mh hi with hi | ⟨a,ha,rfl⟩ <;> rcases mh hj with hj | ⟨b,hb,rfl⟩
  ·rw [fi hi hj];have:=ml (i+j);omega
  ·rw [iL hi hb];have:=ml (i+b);omega
  ·rw [iJ ha hj];have:=ml (a+(n - j));omega
  ·rw [iM ha hb];have:=ml (a+(n - b));omega
 refine⟨by omega,cl,fun i hi => ?_,fun i hi => ?_,fun i hi => ?_,fun i j k hi hj hk => ?_⟩
 ·rcases mh hi with hi | ⟨a,ha,rfl⟩
  ·rw [fi h hi,ei,bG hi]
  ·rw [iL h ha,ei,bG ha]
 ·rcases mh hi with hi | ⟨a,ha,rfl⟩
  ·rw [fi hi h,nZ,bG hi]
  ·rw [iJ ha h,Nat.sub_zero,lG,bG ha]
 ·rcases mh hi with hi | ⟨a,ha,rfl⟩
  ·by_cases h0:i=0
   ·subst h0;exact⟨0,by omega,by rw [fi h h];simp,by rw [fi h h];simp⟩
   ·have hl:n - i < n:=by omega
    refine⟨n - i,by omega,?_,?_⟩
    ·rw [fi hi hl,show i+(n - i)=n by omega,n0]
    ·rw [fi hl hi,show n - i+i=n by omega,n0]
  ·refine⟨n+a,by omega,?_,?_⟩ <;> rw [iM ha ha,show a+(n - a)=n by omega,n0]
 ·rcases mh hi with hi | ⟨a,ha,rfl⟩ <;> rcases mh hj with hj | ⟨b,hb,rfl⟩ <;> rcases mh hk with hk | ⟨c,hc,rfl⟩
  ·rw [fi hi hj,fi hj hk,fi (ml _) hk,fi hi (ml _),FT]
  ·rw [fi hi hj,iL hj hc,iL (ml _) hc,iL hi (ml _),FT]
  ·rw [iL hi hb,iJ hb hk,iJ (ml _) hk,iL hi (ml _),FT]
  ·rw [iL hi hb,iM hb hc,iM (ml _) hc,fi hi (ml _),FT]
  ·rw [iJ ha hj,fi hj hk,iJ (ml _) hk,iJ ha (ml _),LM hj hk]
  ·rw [iJ ha hj,iL hj hc,iM (ml _) hc,iM ha (ml _),LM hj hc]
  ·rw [iM ha hb,iJ hb hk,fi (ml _) hk,iM ha (ml _),LC hb hk]
  ·rw [iM ha hb,iM hb hc,iL (ml _) hc,iJ ha (ml _),LC hb hc]
noncomputable def oW (m:Nat) (A B:Nat->Nat->Nat):Nat->Nat->Nat:=fun i j=>A (i / m) (j / m)*m+B (i % m) (j % m)
theorem y0 {m a b:Nat} (hb:b < m):(a*m+b) / m=a/\(a*m+b) % m=b:=by
 have hm:0 < m:=by omega
 constructor
 ·rw [ky,Nat.mul_add_div hm,gX hb];rfl
 ·rw [ky,Nat.mul_add_mod,bG hb]
theorem DA {k m:Nat}{A B:Nat->Nat->Nat} (ga:Grp k A) (gb:Grp m B):Grp (k*m) (oW m A B):=by
 have hm:=gb.pos
 have dl : ∀ i,i < k*m->i / m < k:=fun i hi=>Nat.div_lt_of_lt_mul (by rw [ky];exact hi)
 have rl : ∀ i,i % m < m:=fun i=>kQ _ hm
 have lt : ∀ a b,a < k->b < m->a*m+b < k*m:=fun a b ha hb=>by
  have:(a+1)*m<=k*m:=fb m ha
  rw [Nat.add_mul] at this;omega
 refine⟨Nat.mul_pos ga.pos hm,fun i j hi hj=>lt _ _ (ga.cl _ _ (dl i hi) (dl j hj)) (gb.cl _ _ (rl i) (rl j)),fun i hi => ?_,fun i hi => ?_,fun i hi => ?_,fun i j l hi hj hl => ?_⟩
 ·unfold oW;rw [Nat.zero_div,Nat.zero_mod,ga.l0 _ (dl i hi),gb.l0 _ (rl i),ky];exact Nat.div_add_mod i m
 ·unfold oW;rw [Nat.zero_div,Nat.zero_mod,ga.r0 _ (dl i hi),gb.r0 _ (rl i),ky];exact Nat.div_add_mod i m
 ·obtain⟨a,ha,a1,a2⟩:=ga.inv _ (dl i hi)
  obtain⟨b,hb,b1,b2⟩:=gb.inv _ (rl i)
  obtain⟨p1,p2⟩:=y0 (a:=a) hb
  refine⟨a*m+b,lt a b ha hb,?_,?_⟩ <;> unfold oW <;> rw [p1,p2]
  ·rw [a1,b1];simp
  ·rw [a2,b2];simp
 ·unfold oW
  obtain⟨p1,p2⟩:=y0 (a:=A (i / m) (j / m)) (gb.cl _ _ (rl i) (rl j))
  obtain⟨q1,q2⟩:=y0 (a:=A (j / m) (l / m)) (gb.cl _ _ (rl j) (rl l))
  rw [p1,p2,q1,q2,ga.as _ _ _ (dl i hi) (dl j hj) (dl l hl),gb.as _ _ _ (rl i) (rl j) (rl l)]
noncomputable def KI:List (List Nat) := [[0,1,2,3,4,5,6,7],[1,0,3,2,5,4,7,6],[2,3,1,0,6,7,5,4],[3,2,0,1,7,6,4,5],[4,5,7,6,1,0,2,3],[5,4,6,7,0,1,3,2],[6,7,4,5,3,2,1,0],[7,6,5,4,2,3,0,1]]
noncomputable def f9:Nat->Nat->Nat:=fun i j=>(KI.getD i []).getD j 0
noncomputable def q1:Bool:=(ar 8).all fun i=>(f9 0 i == i)&&(f9 i 0 == i)&&((ar 8).any fun j=>(f9 i j == 0)&&(f9 j i == 0))&&(ar 8).all fun j=>decide (f9 i j < 8)&&(ar 8).all fun k=>f9 (f9 i j) k == f9 i (f9 j k)
theorem Kw:q1=true:=by decide +kernel
theorem AL:Grp 8 f9:=by
 have h:=bC.mp Kw
 have g : ∀ i,i < 8->_:=fun i hi=>h i (bb.mpr hi)
 simp only [aB,bC,ck,bb,beq_iff_eq,decide_eq_true_eq] at g
 refine⟨by decide,fun i j hi hj=>((g i hi).2 j hj).1,fun i hi=>(g i hi).1.1.1,fun i hi=>(g i hi).1.1.2,fun i hi => ?_,fun i j k hi hj hk=>((g i hi).2 j hj).2 k hk⟩
 obtain⟨j,hj,a,b⟩:=(g i hi).1.2
 exact⟨j,hj,a,b⟩
structure Ord (m:Nat) (o p:Nat->Nat):Prop where
 ol : ∀ i,i < m->o i < m
 pl : ∀ i,i < m->p i < m
 po : ∀ i,i < m->p (o i)=i
 op : ∀ i,i < m->o (p i)=i
 o0:o 0=0
noncomputable def mw (T:Nat->Nat->Nat) (o p:Nat->Nat):Nat->Nat->Nat:=fun i j=>p (T (o i) (o j))
theorem Ax {m:Nat}{T:Nat->Nat->Nat}{o p:Nat->Nat} (g:Grp m T) (h:Ord m o p):Grp m (mw T o p):=by
 have p0:p 0=0:=by have:=h.po 0 g.pos;rwa [h.o0] at this
 refine⟨g.pos,fun i j hi hj=>h.pl _ (g.cl _ _ (h.ol i hi) (h.ol j hj)),fun i hi => ?_,fun i hi => ?_,fun i hi => ?_,fun i j k hi hj hk => ?_⟩
 ·unfold mw;rw [h.o0,g.l0 _ (h.ol i hi),h.po i hi]
 ·unfold mw;rw [h.o0,g.r0 _ (h.ol i hi),h.po i hi]
 ·obtain⟨j,hj,a,b⟩:=g.inv _ (h.ol i hi)
  refine⟨p j,h.pl j hj,?_,?_⟩ <;> unfold mw <;> rw [h.op j hj]
  ·rw [a,p0]
  ·rw [b,p0]
 ·unfold mw
  rw [h.op _ (g.cl _ _ (h.ol i hi) (h.ol j hj)),h.op _ (g.cl _ _ (h.ol j hj) (h.ol k hk)),g.as _ _ _ (h.ol i hi) (h.ol j hj) (h.ol k hk)]
end _W
end
section
namespace _W
theorem iB {α:Type} : ∀ (l:List α) (i:Nat) (h:i < l.length),(l[i]::l.eraseIdx i).Perm l
 | x::l,0,_=>by simp
 | x::l,i+1,h=>by
   have h':i < l.length:=by simpa using h
   have:=iB l i h'
   simp only [List.getElem_cons_succ,Bw]
   exact (List.Perm.swap _ _ _).trans (this.cons x)
theorem Gq {l:List Nat} (nd:l.Nodup) {i:Nat} (h:i < l.length):l.idxOf l[i]=i:=by
 have h1:l.idxOf l[i] < l.length:=lJ.mpr (cY h)
 have h2:=List.getElem_idxOf h1
 exact (List.getElem_inj nd).mp h2
structure pB (m:Nat) (l:List Nat):Prop where
 perm:l.Perm (ar m)
 z:l[0]? = some 0
noncomputable def oF (l:List Nat):Nat->Nat:=fun i=>l.getD i 0
noncomputable def pF (l:List Nat):Nat->Nat:=fun x=>l.idxOf x
section
variable {m:Nat}{l:List Nat}
theorem pB.len (h:pB m l):l.length=m:=by have:=h.perm.length_eq;simpa using this
theorem pB.nd (h:pB m l):l.Nodup:=h.perm.nodup_iff.mpr List.nodup_range
theorem pB.mem (h:pB m l) {x:Nat}:x∈l↔x < m:=by rw [h.perm.mem_iff,bb]
theorem pB.get (h:pB m l) {i:Nat} (hi:i < m):l[i]? = some (oF l i):=by
 have hl:i < l.length:=by rw [h.len];exact hi
 simp [oF,hl]
theorem pB.ord (h:pB m l):Ord m (oF l) (pF l) where
 ol:=fun i hi=>h.mem.mp (dz (h.get hi))
 pl:=fun x hx=>by
  have:=lJ.mpr (h.mem.mpr hx)
  rw [h.len] at this;exact this
 po:=fun i hi=>by
  have hl:i < l.length:=by rw [h.len];exact hi
  have e:oF l i=l[i]:=by simp [oF,hl]
  unfold pF;rw [e];exact Gq h.nd hl
 op:=fun x hx=>by
  have h1:=lJ.mpr (h.mem.mpr hx)
  have h2:=List.getElem_idxOf h1
  unfold oF pF
  rw [bc,ay h1,h2];rfl
 o0:=by
  unfold oF
  rw [bc,h.z];rfl
end
theorem AG {m:Nat}{xs:List Nat} (hm:0 < m) (h:xs.Perm (dJ 1 (m - 1))):pB m (0::xs):=by
 refine⟨?_,rfl⟩
 have e:ar m=0::dJ 1 (m - 1):=by
  rw [EH]
  have:m=(m - 1)+1:=by omega
  rw [this,uu]
  simp
 rw [e]
 exact h.cons 0
end _W
end
section
namespace _W
section
variable {m:Nat}{T:Nat->Nat->Nat}
theorem Grp.cancel (g:Grp m T) {a b c:Nat} (ha:a < m) (hb:b < m) (hc:c < m) (h:T a b=T a c):b=c:=by
 obtain⟨i,hi,h1,h2⟩:=g.inv a ha
 have e1:T i (T a b)=b:=by rw [<- g.as i a b hi ha hb,h2,g.l0 b hb]
 have e2:T i (T a c)=c:=by rw [<- g.as i a c hi ha hc,h2,g.l0 c hc]
 rw [<- e1,<- e2,h]
theorem Grp.cancelR (g:Grp m T) {a b c:Nat} (ha:a < m) (hb:b < m) (hc:c < m) (h:T b a=T c a):b=c:=by
 obtain⟨i,hi,h1,h2⟩:=g.inv a ha
 have e1:T (T b a) i=b:=by rw [g.as b a i hb ha hi,h1,g.r0 b hb]
 have e2:T (T c a) i=c:=by rw [g.as c a i hc ha hi,h1,g.r0 c hc]
 rw [<- e1,<- e2,h]
theorem Grp.inv1 (g:Grp m T) {i:Nat} (hi:i < m) : ∃ j,j < m/\T i j=0/\T j i=0 /\ ∀ k,k < m->T i k=0->k=j:=by
 obtain⟨j,hj,h1,h2⟩:=g.inv i hi
 exact⟨j,hj,h1,h2,fun k hk h=>g.cancel hi hk hj (h.trans h1.symm)⟩
noncomputable def pw (T:Nat->Nat->Nat) (x:Nat):Nat->Nat
 | 0=>0
 | n+1=>T (pw T x n) x
theorem oC (g:Grp m T) {x:Nat} (hx:x < m) : ∀ n,pw T x n < m
 | 0=>g.pos
 | n+1=>g.cl _ _ (oC g hx n) hx
theorem Ct (g:Grp m T) {x:Nat} (hx:x < m) (a:Nat) : ∀ b,pw T x (a+b)=T (pw T x a) (pw T x b)
 | 0=>by show pw T x a=T (pw T x a) 0;rw [g.r0 _ (oC g hx a)]
 | b+1=>by
   show T (pw T x (a+b)) x=T (pw T x a) (T (pw T x b) x)
   rw [Ct g hx a b,g.as _ _ _ (oC g hx a) (oC g hx b) hx]
theorem GQ (g:Grp m T) {x a b:Nat} (hx:x < m) (hab:a<=b) (h:pw T x a=pw T x b):pw T x (b - a)=0:=by
 have e:b=a+(b - a):=by omega
 rw [e,Ct g hx] at h
 have e2:T (pw T x a) 0=T (pw T x a) (pw T x (b - a)):=by rw [g.r0 _ (oC g hx a)];exact h
 exact (g.cancel (oC g hx a) g.pos (oC g hx _) e2).symm
end
theorem o6 : ∀ (m:Nat) (l:List Nat),l.Nodup->(∀ x∈l,x < m)->l.length<=m
 | 0,l,_,h=>by
   cases l with
   | nil=>simp
   | cons x l=>exact absurd (h x (by simp)) (by omega)
 | m+1,l,nd,h=>by
   have h1:=o6 m (l.erase m) (nd.erase m) fun x hx=>by
    have hx2:=(List.Nodup.mem_erase_iff nd).mp hx
    have:=h x hx2.2
    have:=hx2.1
    omega
   have h2:l.length<=(l.erase m).length+1:=by
    rw [List.length_erase]
    split <;> omega
   omega
theorem JN {m:Nat}{f:Nat->Nat} (h : ∀ i,i<=m->f i < m) : ∃ i j,i < j/\j<=m/\f i=f j:=by
 apply uw
 intro no
 have inj : ∀ i j,i < j->j<=m->f i≠f j:=fun i j h1 h2 e=>no ⟨i,j,h1,h2,e⟩
 have nd:((ar (m+1)).map f).Nodup:=by
  rw [bf,eY]
  refine jB ?_ (nB (n:=m+1))
  intro a b ha hb hab
  exact inj a b hab (by have:=bb.mp hb;exact gm (by assumption))
 have:=o6 m _ nd (fun x hx=>by
  obtain⟨i,hi,rfl⟩:=aE.mp hx
  exact h i (by have:=bb.mp hi;exact gm (by assumption)))
 simp at this
 exact absurd (by assumption) (bL _)
theorem least {P:Nat->Prop} : ∀ n,P n -> ∃ k,k<=n/\P k /\ ∀ j,j < k -> ¬ P j:=by
 intro n
 induction n using Nat.strongRecOn with
 | ind n ih=>
   intro h
   by_cases hx : ∃ j,j < n/\P j
   ·obtain⟨j,hj,hp⟩:=hx
    obtain⟨k,h1,h2,h3⟩:=ih j hj hp
    exact⟨k,by omega,h2,h3⟩
   ·exact⟨n,aj _,h,fun j hj hp=>hx ⟨j,hj,hp⟩⟩
theorem Grp.ord {m:Nat}{T:Nat->Nat->Nat} (g:Grp m T) {x:Nat} (hx:x < m) : ∃ n,1<=n/\n<=m/\pw T x n=0 /\ ∀ k,1<=k->k < n->pw T x k≠0:=by
 obtain⟨a,b,h1,h2,h3⟩:=JN (m:=m) (f:=pw T x) fun i _=>oC g hx i
 have h4:=GQ g hx (aQ h1) h3
 obtain⟨n,k1,⟨k2,k3⟩,k4⟩:=least (P:=fun n=>1<=n/\pw T x n=0) (b - a) ⟨by omega,h4⟩
 exact⟨n,k2,by omega,k3,fun j j1 j2 j3=>k4 j j2 ⟨j1,j3⟩⟩
theorem idx_map {f:Nat->Nat}{x:Nat} : ∀ (n s k:Nat),s<=k->k < s+n->f k=x->(∀ j,s<=j->j < k->f j≠x)->((dJ s n).map f).idxOf x=k - s
 | 0,s,k,h1,h2,_,_=>by omega
 | n+1,s,k,h1,h2,hp,hn=>by
   rw [uu,bA,List.idxOf_cons]
   by_cases hs:s=k
   ·subst hs;simp [hp]
   ·have hb:(f s == x)=false:=by simpa using hn s (aj _) (by exact kR (by assumption) (by assumption))
    rw [hb]
    simp only [cond_false]
    rw [idx_map n (s+1) k (by exact kR (by assumption) (by assumption)) (by omega) hp fun j h1 h2=>hn j (by exact aQ (by assumption)) h2]
    omega
end _W
end
section
namespace _W
open _L _G
noncomputable def Ex (S S':Sto):Prop := ∃ t,S'=S++t
theorem Ex.refl (S:Sto):Ex S S:=⟨[],by simp⟩
theorem Ex.trans {S S1 S2:Sto} (a:Ex S S1) (b:Ex S1 S2):Ex S S2:=by
 obtain⟨t,rfl⟩:=a
 obtain⟨u,rfl⟩:=b
 exact⟨t++u,by simp⟩
theorem Ex.push (S:Sto) (c:Cell):Ex S (S ++ [c]):=⟨[c],rfl⟩
theorem Ex.get {S S':Sto} (h:Ex S S') {n:Nat} (hn:n < S.length):S'[n]? = S[n]? := by
 obtain⟨t,rfl⟩:=h
 exact aR hn
theorem Ex.some {S S':Sto} (h:Ex S S') {n:Nat}{c:Cell} (e:S[n]? = some c):S'[n]? = some c:=by
 rw [h.get (ag.mp e).1];exact e
theorem Ex.len {S S':Sto} (h:Ex S S'):S.length<=S'.length:=by
 obtain⟨t,rfl⟩:=h
 simp
noncomputable def m7 (n:Nat) (S:Sto):Prop := ∃ s b,S[n]? = some (.lst [.int s,.bl b])
structure Stp (n:Nat) (S S':Sto):Prop where
 len:S.length<=S'.length
 same : ∀ m,m < S.length->m≠n->S'[m]? = S[m]?
 st:m7 n S'
theorem Stp.refl {n:Nat}{S:Sto} (h:m7 n S):Stp n S S:=⟨aj _,fun _ _ _=>rfl,h⟩
theorem Stp.trans {n:Nat}{S S1 S2:Sto} (a:Stp n S S1) (b:Stp n S1 S2):Stp n S S2:=
 ⟨aL a.len b.len,fun m h1 h2=>(b.same m (ao h1 a.len) h2).trans (a.same m h1 h2),b.st⟩
theorem m7.lt {n:Nat}{S:Sto} (h:m7 n S):n < S.length:=by
 obtain⟨s,b,e⟩:=h
 exact (ag.mp e).1
theorem m7.ex {n:Nat}{S S':Sto} (h:m7 n S) (e:Ex S S'):m7 n S':=by
 obtain⟨s,b,q⟩:=h
 exact⟨s,b,e.some q⟩
theorem Stp.ex {n:Nat}{S S':Sto} (h:m7 n S) (e:Ex S S'):Stp n S S':=⟨e.len,fun m h1 _=>e.get h1,h.ex e⟩
theorem Stp.some {n:Nat}{S S':Sto} (h:Stp n S S') {m:Nat}{c:Cell} (hm:m≠n) (e:S[m]? = some c):S'[m]? = some c:=by
 rw [h.same m (ag.mp e).1 hm];exact e
theorem zm {n:Nat}{S:Sto}{many:Int} (h:m7 n S) (hm:0 < many) (hm2:many < 1073741824) :
  ∃ r S',bu [.ref n,.int many] S=some (.int r,S')/\0<=r/\r < many/\Stp n S S'/\S'.length=S.length:=by
 obtain⟨s,b,e⟩:=h
 have hn:=(ag.mp e).1
 have hd:rB many:=⟨hm,hm2⟩
 have hd8:rB 8:=⟨by decide,by decide⟩
 cases b with
 | true=>
   refine⟨s % many,S.set n (.lst [.int (s / many),.bl true]),?_,xW _ (by omega),sh _ hm,⟨by simp,fun m h1 h2=>by rw [aK (d7 h2)],⟨s / many,true,by rw [aW hn]⟩⟩,by simp⟩
   simp [bu,_G.run,kC,aZ,sIf,cOf,m2,ab,mC,bnd,oIx,gw,dS,getL,e,atI,ixN,bI,oMod,oDiv,hm,hd,eF,bU]
 | false=>
   have b1 : ∀ x m:Int,0 < m->m < 4294967296->jE (x % m) (x % m):=fun x m h1 h2=>by
    have h3:=xW x (show m≠0 by omega)
    have h4:=sh x h1
    exact .inl ⟨by omega,by omega⟩
   have hg : ∀ c:Cell,(S.set n c)[n]? = Option.some c:=fun c=>aW hn
   have k1:jE s 48271 := .inr ⟨by decide,by decide⟩
   have k2:=b1 (s*48271+29) 2147483647 (by decide) (by decide)
   generalize hs1:(s*48271+29) % 2147483647=s1 at k2
   have k3:jE 39373 s1 := .inl ⟨by decide,by decide⟩
   have k4:=b1 (s1*s1+39373*s1+7) 2147483629 (by decide) (by decide)
   generalize hm1:(s1*s1+39373*s1+7) % 2147483629=m1 at k4
   have k5:jE 16807 m1 := .inl ⟨by decide,by decide⟩
   refine⟨(m1*m1+16807*m1) % 2147483587 / 8 % many,S.set n (.lst [.int s1,.bl false]),?_,xW _ (by omega),sh _ hm,⟨by simp,fun m h1 h2=>by rw [aK (d7 h2)],⟨s1,false,by rw [aW hn]⟩⟩,by simp⟩
   simp [bu,_G.run,kC,aZ,sIf,cOf,m2,ab,mC,bnd,oIx,gw,dS,getL,e,atI,ixN,bI,oMod,oDiv,cZ,fG,hm,hd,eF,bU,bX,hg,k1,k2,k3,k4,k5,hs1,hm1,hd8]
end _W
end
section
namespace _W
open _L _G
section
theorem ot {i:Nat}{b:MS} (P:Nat->Rho->Sto->Prop) : ∀ (us:List U) (k:Nat) (ρ:Rho) (S:Sto),P k ρ S ->
  (∀ (j:Nat) (u:U) (ρ:Rho) (S:Sto),us[j]? = some u->P (k+j) ρ S -> ∃ ρ' S',b (ρ.set i (some u)) S=some (.nx,ρ',S')/\P (k+j+1) ρ' S') ->
  ∃ ρ' S',lA i b us ρ S=some (.nx,ρ',S')/\P (k+us.length) ρ' S'
 | [],k,ρ,S,h,_=>⟨ρ,S,rfl,h⟩
 | u::us,k,ρ,S,h,st=>by
   obtain⟨ρ1,S1,e1,h1⟩:=st 0 u ρ S rfl h
   obtain⟨ρ2,S2,e2,h2⟩:=ot P us (k+1) ρ1 S1 h1 fun j v ρ S hj hp=>by
    have:=st (j+1) v ρ S (by simpa using hj) (by rw [show k+(j+1)=k+1+j by omega];exact hp)
    rw [show k+(j+1)+1=k+1+j+1 by omega] at this
    exact this
   refine⟨ρ2,S2,?_,by rw [show k+(u::us).length=k+1+us.length by simp;omega];exact h2⟩
   show aft (b (ρ.set i (some u)) S) (lA i b us)=_
   rw [e1];exact e2
theorem jb {e:ME}{ρ:Rho} (g:Nat->U) (P:Nat->Sto->Prop) : ∀ (us:List U) (k:Nat) (acc:List U) (S:Sto),P k S ->
  (∀ (j:Nat) (u:U) (S:Sto),us[j]? = some u->P (k+j) S -> ∃ S',e (ρ ++ [some u]) S=some (g (k+j),S')/\P (k+j+1) S') ->
  ∃ S',hG cTT e ρ us acc S=some (acc++(ar us.length).map (fun j=>g (k+j)),S')/\P (k+us.length) S'
 | [],k,acc,S,h,_=>⟨S,by simp [hG],h⟩
 | u::us,k,acc,S,h,st=>by
   obtain⟨S1,e1,h1⟩:=st 0 u S rfl h
   obtain⟨S2,e2,h2⟩:=jb g P us (k+1) (acc ++ [g k]) S1 h1 fun j v S hj hp=>by
    have:=st (j+1) v S (by simpa using hj) (by rw [show k+(j+1)=k+1+j by omega];exact hp)
    rw [show k+(j+1)+1=k+1+j+1 by omega,show k+(j+1)=k+1+j by omega] at this
    exact this
   refine⟨S2,?_,by rw [show k+(u::us).length=k+1+us.length by simp;omega];exact h2⟩
   show bnd (cTT (ρ ++ [some u]) S) _=_
   simp only [cTT,aI,if_true]
   rw [e1]
   simp only [aI,nZ]
   rw [e2]
   simp only [bh,eD,Prod.mk.injEq,and_true]
   rw [dA,List.range_succ_eq_map,bA,fK]
   simp only [List.singleton_append,nZ,List.append_cancel_left_eq,List.cons.injEq,true_and]
   apply de
   intro j _
   simp only [Function.comp]
   congr 1;omega
noncomputable def yU (n:Nat) (g:Nat->U):U := .tup ((ar n).map g)
theorem vL {n:Nat} (h:n < big):okR (n:Int):=by
 unfold big at h
 exact⟨by exact si _,by omega⟩
theorem nv {ρ:Rho}{S S0:Sto}{a:ME}{u:U} (ha:a ρ S=some (u,S0)):aa a af ρ S=some ([u],S0):=by
 simp only [aa,af,ha,aI]
theorem HZ {ρ:Rho}{S S0:Sto}{a:MA}{j:Int} (ha:a ρ S=some ([.int j],S0)) (h:okR j):iR1 a ρ S=some (.imm (bo 0 j.toNat),S0):=by
 unfold iR1
 rw [ha]
 exact if_pos h
theorem mO {ρ:Rho}{S S0:Sto}{a:ME}{n:Nat} (ha:a ρ S=some (.int n,S0)) (h:n < big):iR1 (aa a af) ρ S=some (.imm (bo 0 n),S0):=by
 rw [HZ (nv ha) (vL h),cM]
theorem kK {ρ:Rho}{S S0 S1:Sto}{it:MI}{t:MT}{e:ME}{us ys:List U} (hi:it ρ S=some (.imm us,S0)) (h:hG t e ρ us [] S0=some (ys,S1)) (hz:ys.length < big):bR it t e ρ S=some (.ref S1.length,S1 ++ [.lst ys]):=by
 simp only [bR,hi,aI,B9,h]
 exact if_pos hz
theorem jg {ρ:Rho}{S S1:Sto}{a:ME}{ys:List U} (h:a ρ S=some (.ref S1.length,S1 ++ [.lst ys])):mFn b9 (aa a af) ρ S=some (.tup ys,S1 ++ [.lst ys]):=by
 unfold mFn
 rw [nv h]
 show (dS (S1 ++ [Cell.lst ys]) (.ref S1.length)).map _=_
 have:dS (S1 ++ [Cell.lst ys]) (.ref S1.length)=some ys:=by
  show getL (S1 ++ [Cell.lst ys]) S1.length=_
  unfold getL
  rw [aA (aj _)]
  simp
 rw [this];rfl
theorem DT {ρ:Rho}{S S0:Sto}{a e:ME}{n:Nat} (ha:a ρ S=some (.int n,S0)) (hn:n < big) (g:Nat->U) (P:Nat->Sto->Prop) (h0:P 0 S0)
  (hs : ∀ (j:Nat) (S:Sto),j < n->P j S -> ∃ S',e (ρ ++ [some (.int j)]) S=some (g j,S')/\P (j+1) S') :
  ∃ S',mFn b9 (aa (bR (iR1 (aa a af)) cTT e) af) ρ S=some (yU n g,S' ++ [.lst ((ar n).map g)])/\P n S':=by
 obtain⟨S1,e1,h1⟩:=jb (e:=e) (ρ:=ρ) g P (bo 0 n) 0 [] S0 h0 fun j u S hj hp=>by
  have hl:j < n:=by have:=(ag.mp hj).1;simpa [bo] using this
  have hu:(bo 0 n)[j]? = some (.int j):=by simp [bo,hl]
  rw [hu] at hj;cases hj
  simpa using hs j S hl (by simpa using hp)
 have hlen:(bo 0 n).length=n:=by simp [bo]
 simp only [hlen,ei,dM] at e1 h1
 exact⟨S1,jg (kK (mO ha hn) e1 (by rw [aw,ba];exact hn)),h1⟩
theorem LP {ρ:Rho}{S S0:Sto}{a e:ME}{us:List U} (ha:a ρ S=some (.tup us,S0)) (hn:us.length < big) (g:Nat->U) (P:Nat->Sto->Prop) (h0:P 0 S0)
  (hs : ∀ (j:Nat) (u:U) (S:Sto),us[j]? = some u->P j S -> ∃ S',e (ρ ++ [some u]) S=some (g j,S')/\P (j+1) S') :
  ∃ S',mFn b9 (aa (bR (dq a) cTT e) af) ρ S=some (yU us.length g,S' ++ [.lst ((ar us.length).map g)])/\P us.length S':=by
 obtain⟨S1,e1,h1⟩:=jb (e:=e) (ρ:=ρ) g P us 0 [] S0 h0 fun j u S hj hp=>by
  simpa using hs j u S hj (by simpa using hp)
 simp only [ei,dM] at e1 h1
 exact⟨S1,jg (kK (it:=dq a) (us:=us) (by unfold dq;rw [ha];rfl) e1 (by rw [aw,ba];exact hn)),h1⟩
noncomputable def iw (m:Nat) (T:Nat->Nat->Nat) (i:Nat):U:=yU m fun j => .int (T i j)
noncomputable def tab (m:Nat) (T:Nat->Nat->Nat):U:=yU m (iw m T)
theorem mJ {α:Type}{f:Nat->α}{m i:Nat} (h:i < m):atI ((ar m).map f) (i:Int)=some (f i):=by
 simp [atI,ixN,h]
theorem oQ {n:Nat}{S:Sto} (h:0 < n) (hn:n < big) : ∃ S',dB [.int n] S=some (tab n (fw n),S')/\Ex S S':=by
 have key : ∃ S',mFn b9 (aa (bR (iR1 (aa (ab 0) af)) cTT (mFn b9 (aa (bR (iR1 (aa (ab 0) af)) cTT (m2 oMod (m2 cZ (ab 1) (ab 2)) (ab 0))) af))) af) [some (.int n)] S=some (yU n (iw n (fw n)),S' ++ [.lst ((ar n).map (iw n (fw n)))])/\Ex S S':=by
  refine DT (S0:=S) (by simp [ab]) hn _ (fun _ S'=>Ex S S') (Ex.refl S) fun i S1 hi hx => ?_
  obtain⟨S2,e2,h2⟩:=DT (ρ := [some (.int n),some (.int i)]) (S:=S1) (S0:=S1) (a:=ab 0) (e:=m2 oMod (m2 cZ (ab 1) (ab 2)) (ab 0)) (n:=n) (by simp [ab]) hn (fun j => .int (fw n i j)) (fun _ S'=>S'=S1) rfl fun j S' hj hx=>by
   refine⟨S',?_,hx⟩
   have h0:(0:Int) < n:=by omega
   simp only [m2,ab,List.cons_append,dM,Bz,BB,aI,cZ,oMod,h0,if_true,fw,ng,xX]
  subst h2
  exact⟨S2 ++ [_],e2,hx.trans (Ex.push _ _)⟩
 obtain⟨S',e,hx⟩:=key
 refine⟨S' ++ [.lst ((ar n).map (iw n (fw n)))],?_,hx.trans (Ex.push _ _)⟩
 simp only [dB,_G.run,mn,bU,dA,iq,bA,nA,En,List.replicate_zero,ij,if_true,e,aI,tab]
end
end _W
end
section
namespace _W
open _L _G
section
theorem tV {n:Nat} (h:0 < n) (h2:n < 1000):rB (n:Int):=⟨by omega,by omega⟩
theorem p5 {i j:Int} (h1 : -1000000000<=i) (h2:i<=1000000000):jE i j := .inl ⟨by omega,by omega⟩
theorem ug {n:Nat}{j:Int} (h:n < 1000000):jE (n:Int) j:=p5 (by exact si _) (by omega)
noncomputable def Agr (L:List Nat) (ρ0 ρ:Rho):Prop:=ρ.length=ρ0.length /\ ∀ i,i∉L->ρ[i]? = ρ0[i]?
theorem Agr.refl (L:List Nat) (ρ:Rho):Agr L ρ ρ:=⟨rfl,fun _ _=>rfl⟩
theorem Agr.set {L:List Nat}{ρ0 ρ:Rho}{i:Nat}{v:Option U} (h:Agr L ρ0 ρ) (hi:i∈L):Agr L ρ0 (ρ.set i v):=
 ⟨by rw [fQ];exact h.1,fun j hj=>by rw [aK (by rintro rfl;exact hj hi)];exact h.2 j hj⟩
structure Sm (b:Nat) (S0 S:Sto):Prop where
 len:S0.length<=S.length
 same : ∀ m,m < b->S[m]? = S0[m]?
theorem Sm.trans {b:Nat}{S0 S1 S2:Sto} (a:Sm b S0 S1) (c:Sm b S1 S2):Sm b S0 S2:=⟨aL a.len c.len,fun m h=>(c.same m h).trans (a.same m h)⟩
theorem Sm.ex {b:Nat}{S0 S:Sto} (h:Ex S0 S) (hb:b<=S0.length):Sm b S0 S:=⟨h.len,fun m hm=>h.get (ao hm hb)⟩
theorem Sm.set {b n:Nat}{S0 S:Sto}{c:Cell} (h:Sm b S0 S) (hn:b<=n):Sm b S0 (S.set n c):=
 ⟨by rw [fQ];exact h.len,fun m hm=>by rw [aK (by omega)];exact h.same m hm⟩
structure Wr (r:Nat) (S S':Sto):Prop where
 len:S.length<=S'.length
 same : ∀ m,m < S.length->m≠r->S'[m]? = S[m]?
theorem Wr.trans {r:Nat}{S S1 S2:Sto} (a:Wr r S S1) (b:Wr r S1 S2):Wr r S S2:=
 ⟨aL a.len b.len,fun m h1 h2=>(b.same m (ao h1 a.len) h2).trans (a.same m h1 h2)⟩
theorem Wr.refl (r:Nat) (S:Sto):Wr r S S:=⟨aj _,fun _ _ _=>rfl⟩
theorem Wr.ex {r:Nat}{S S':Sto} (h:Ex S S'):Wr r S S':=⟨h.len,fun m hm _=>h.get hm⟩
theorem Wr.set (r:Nat) (S:Sto) (c:Cell):Wr r S (S.set r c):=⟨by simp,fun m _ h=>aK (d7 h)⟩
theorem Wr.sm {r b:Nat}{S S':Sto} (h:Wr r S S') (hb:b<=r) (hr:b<=S.length):Sm b S S':=⟨h.len,fun m hm=>h.same m (by exact ao (by assumption) (by assumption)) (by omega)⟩
theorem oX {ρ:Rho}{i:Nat}{v:Option U} (h:i < ρ.length):(ρ.set i v)[i]? = some v:=aW h
theorem var_eq {ρ:Rho}{S:Sto}{i:Nat}{u:U} (h:ρ[i]? = some (some u)):ab i ρ S=some (u,S):=by simp only [ab,h]
theorem wY {ρ:Rho}{S:Sto}{i:Nat}{a:ME}{n:Nat}{b:MS} (ha:a ρ S=some (.int n,S)) (h:n < big):dF i (iR1 (aa a af)) b ρ S=lA i b (bo 0 n) ρ S:=by
 unfold dF
 rw [mO ha h]
 rfl
theorem gR {ρ:Rho}{S:Sto}{i:Nat}{a:ME}{n:Nat}{b:MS} (ha:a ρ S=some (.int n,S)) (h:n < big) (P:Nat->Rho->Sto->Prop) (h0:P 0 ρ S)
  (st : ∀ (j:Nat) (ρ:Rho) (S:Sto),j < n->P j ρ S -> ∃ ρ' S',b (ρ.set i (some (.int j))) S=some (.nx,ρ',S')/\P (j+1) ρ' S') :
  ∃ ρ' S',dF i (iR1 (aa a af)) b ρ S=some (.nx,ρ',S')/\P n ρ' S':=by
 rw [wY ha h]
 obtain⟨ρ',S',e,q⟩:=ot (i:=i) (b:=b) P (bo 0 n) 0 ρ S h0 fun j u ρ S hj hp=>by
  have hl:j < n:=by have:=(ag.mp hj).1;simpa [bo] using this
  have hu:(bo 0 n)[j]? = some (.int j):=by simp [bo,hl]
  rw [hu] at hj;cases hj
  simpa using st j ρ S hl (by simpa using hp)
 have hlen:(bo 0 n).length=n:=by simp [bo]
 rw [hlen,ei] at q
 exact⟨ρ',S',e,q⟩
theorem append_eq {ρ:Rho}{S S1:Sto}{o a:ME}{r:Nat}{u:U}{row:List U} (ho:o ρ S=some (.ref r,S)) (ha:a ρ S=some (u,S1)) (hr:S[r]? = some (Cell.lst row)) (hr1:S1[r]? = some (Cell.lst row)) (hl:row.length < big) :
  eg (mML dn o (aa a af)) ρ S=some (.nx,ρ,S1.set r (Cell.lst (row ++ [u]))):=by
 simp only [eg,mML,ho,aI,getL,hr,ai,nv ha,dn,hr1,hl,if_true]
theorem lX {ρ:Rho}{S:Sto}{a:ME}{r:Nat}{row:List U} (ha:a ρ S=some (.ref r,S)) (hr:S[r]? = some (Cell.lst row)):mFn b9 (aa a af) ρ S=some (.tup row,S):=by
 simp only [mFn,nv ha,aI,b9,dS,getL,hr,aT]
theorem build {fs rs is js:Nat}{L:List Nat}{ρ0:Rho}{S0:Sto}{bIn:MS}{a:ME}{m:Nat}{T:Nat->Nat->Nat} (hm:m < big) (h1:rs∈L) (h2:is∈L) (h3:js∈L) (h4:fs∉L) (d1:rs≠is) (d2:js≠is) (d3:js≠rs)
  (l1:rs < ρ0.length) (l2:is < ρ0.length) (l3:js < ρ0.length) (hf:ρ0[fs]? = some (some (.ref S0.length)))
  (ha : ∀ ρ S,Agr L ρ0 ρ->Sm S0.length S0 S->a ρ S=some (.int m,S))
  (hb : ∀ (i j r:Nat) (ρ:Rho) (S:Sto) (row:List U),i < m->j < m->Agr L ρ0 ρ->ρ[is]? = some (some (.int i))->ρ[js]? = some (some (.int j))->ρ[rs]? = some (some (.ref r))->Sm S0.length S0 S->S0.length < r->S[r]? = some (Cell.lst row)->row.length < big ->
   ∃ ρ' S',bIn ρ S=some (.nx,ρ',S')/\Agr L ρ0 ρ'/\ρ'[is]? = some (some (.int i))/\ρ'[rs]? = some (some (.ref r))/\Wr r S S'/\S'[r]? = some (Cell.lst (row ++ [.int (T i j)]))) :
  ∃ ρ' S',dF is (iR1 (aa a af)) (aZ (bI rs (cQ af)) (aZ (dF js (iR1 (aa a af)) bIn) (eg (mML dn (ab fs) (aa (mFn b9 (aa (ab rs) af)) af))))) ρ0 (S0 ++ [Cell.lst []])=some (.nx,ρ',S') /\
   Agr L ρ0 ρ'/\Sm S0.length S0 S'/\S'[S0.length]? = some (Cell.lst ((ar m).map (iw m T))):=by
 have s0:Sm S0.length S0 (S0 ++ [Cell.lst []]):=Sm.ex (Ex.push _ _) (aj _)
 refine gR (P:=fun k ρ S=>Agr L ρ0 ρ/\Sm S0.length S0 S/\S0.length < S.length/\S[S0.length]? = some (Cell.lst ((ar k).map (iw m T)))) (ha _ _ (Agr.refl _ _) s0) hm ⟨Agr.refl _ _,s0,by simp,by rw [aA (aj _)];simp⟩ ?_ |>.imp fun ρ' h=>h.imp fun S' h=>⟨h.1,h.2.1,h.2.2.1,h.2.2.2.2⟩
 rintro i ρ S hi ⟨g1,g2,g3,g4⟩
 have r0:S.length < (S ++ [Cell.lst ([]:List U)]).length:=by simp
 have e0:bI rs (cQ af) (ρ.set is (some (.int i))) S=some (.nx,(ρ.set is (some (.int i))).set rs (some (.ref S.length)),S ++ [Cell.lst []]):=by
  have hz:([]:List U).length<=big:=dj _
  simp only [bI,cQ,af,aI,hz,if_true]
 have ga:Agr L ρ0 ((ρ.set is (some (.int i))).set rs (some (.ref S.length))):=(g1.set h2).set h1
 have gs:Sm S0.length S0 (S ++ [Cell.lst ([]:List U)]):=g2.trans (Sm.ex (Ex.push _ _) g2.len)
 obtain⟨ρ1,S1,e1,q1,q2,q3,q4,q5⟩:=gR (b:=bIn) (i:=js) (P:=fun k ρ1 S1=>Agr L ρ0 ρ1/\ρ1[is]? = some (some (.int i))/\ρ1[rs]? = some (some (.ref S.length))/\Wr S.length (S ++ [Cell.lst ([]:List U)]) S1/\S1[S.length]? = some (Cell.lst ((ar k).map fun j => .int (T i j))))
  (ha _ _ ga gs) hm ⟨ga,by rw [aK d1,oX (by rw [g1.1];exact l2)],by rw [oX (by rw [fQ,g1.1];exact l1)],Wr.refl _ _,by rw [aA (aj _)];simp⟩ (by
   rintro j ρ1 S1 hj ⟨q1,q2,q3,q4,q5⟩
   have sm1:Sm S0.length S0 S1:=gs.trans (q4.sm (aQ g3) (by simp;omega))
   obtain⟨ρ2,S2,f1,f2,f3,f4,f5,f6⟩:=hb i j S.length (ρ1.set js (some (.int j))) S1 _ hi hj (q1.set h3) (by rw [aK d2];exact q2) (oX (by rw [q1.1];exact l3)) (by rw [aK d3];exact q3) sm1 g3 q5 (by rw [aw,ba];exact bK (by assumption) (by assumption))
   exact⟨ρ2,S2,f1,f2,f3,f4,q4.trans f5,by rw [f6,nY,d0];rfl⟩)
 have g5:S1[S0.length]? = some (Cell.lst ((ar i).map (iw m T))):=by
  rw [q4.same _ (by simp;exact gg (by assumption)) (by exact aG (by assumption)),(Ex.push S _).get g3];exact g4
 have sm1:Sm S0.length S0 S1:=gs.trans (q4.sm (aQ g3) (by simp;omega))
 have hfv:ab fs ρ1 S1=some (.ref S0.length,S1):=var_eq (by rw [q1.2 fs h4];exact hf)
 have e2:=append_eq (o:=ab fs) hfv (lX (a:=ab rs) (var_eq q3) q5) g5 g5 (by rw [aw,ba];exact bK (by assumption) (by assumption))
 refine⟨ρ1,S1.set S0.length (Cell.lst ((ar (i+1)).map (iw m T))),?_,q1,sm1.set (aj _),?_,?_⟩
 ·simp only [aZ,e0,e1,e2]
  rw [nY,d0];rfl
 ·rw [fQ];have:=q4.len;simp at this;exact bK (by assumption) (by assumption)
 ·exact aW (by have:=q4.len;simp at this;exact bK (by assumption) (by assumption))
noncomputable def p6:MS:=aZ (bI 5 (m2 oMod (m2 cZ (m2 oMod (ab 2) (ab 0)) (m2 fG (m2 oIx (cQ (aa (mC (.int 1)) (aa (m1 yk (mC (.int 1))) af))) (m2 oDiv (ab 2) (ab 0))) (m2 oMod (ab 4) (ab 0)))) (ab 0))) (eg (mML dn (ab 3) (aa (m2 cZ (ab 5) (m2 fG (ab 0) (m2 oMod (m2 cZ (m2 oDiv (ab 2) (ab 0)) (m2 oDiv (ab 4) (ab 0))) (mC (.int 2))))) af)))
theorem Ar {n i j c:Int}{f r:Nat}{x y:Option U}{S:Sto}{row:List U} (h0:0 < n) (hd:rB n) (hc:atI [U.int 1,U.int (-1)] (i / n)=some (.int c)) (k1:jE c (j % n)) (k2:jE n ((i / n+j / n) % 2))
  (hr:(S ++ [Cell.lst [U.int 1,U.int (-1)]])[r]? = some (Cell.lst row)) (hl:row.length < big) :
  p6 ([some (U.int n),some (U.ref f),some (U.int i),some (U.ref r),x,y].set 4 (some (U.int j))) S =
   some (Fl.nx,[some (U.int n),some (U.ref f),some (U.int i),some (U.ref r),some (U.int j),some (U.int ((i % n+c*(j % n)) % n))],(S ++ [Cell.lst [U.int 1,U.int (-1)]]).set r (Cell.lst (row ++ [U.int ((i % n+c*(j % n)) % n+n*((i / n+j / n) % 2))]))):=by
 have hb2:2<=big:=by decide
 simp [p6,aZ,bI,m2,m1,ab,mC,cQ,aa,af,bnd,oMod,cZ,fG,oDiv,oIx,gw,yk,dS,getL,h0,hd,hb2,hc,k1,k2,eg,mML,dn,hr,hl]
theorem Cw {n i j f r:Nat}{x y:Option U}{S:Sto}{row:List U} (hn:0 < n) (hn2:n < 1000) (hi:i < 2*n) (hj:j < 2*n) (hr:S[r]? = some (Cell.lst row)) (hl:row.length < big) :
  ∃ z,p6 ([some (U.int n),some (U.ref f),some (U.int i),some (U.ref r),x,y].set 4 (some (U.int j))) S =
   some (Fl.nx,[some (U.int n),some (U.ref f),some (U.int i),some (U.ref r),some (U.int j),z],(S ++ [Cell.lst [U.int 1,U.int (-1)]]).set r (Cell.lst (row ++ [U.int (gM n i j:Nat)]))):=by
 have hd:=tV hn hn2
 have h0:(0:Int) < n:=by omega
 have hr2:=(Ex.push S (Cell.lst [U.int 1,U.int (-1)])).some hr
 have hk:jE (n:Int) (((i:Int) / n+j / n) % 2):=ug (by exact ao (by assumption) (by decide))
 have hc : ∃ c:Int,atI [U.int 1,U.int (-1)] ((i:Int) / n)=some (.int c)/\jE c ((j:Int) % n)/\((i:Int) % n+c*((j:Int) % n)) % n+n*(((i:Int) / n+j / n) % 2)=(gM n i j:Nat):=by
  rcases half hi with⟨h1,h2,h3⟩ | ⟨h1,h2,h3⟩
  ·refine⟨1,?_,p5 (by decide) (by decide),?_⟩
   ·have:(i:Int) / n=0:=by rw [<- vT,h3];rfl
    rw [this];rfl
   ·unfold gM
    rw [if_pos h1,Int.one_mul]
    push_cast
    rfl
  ·refine⟨-1,?_,p5 (by decide) (by decide),?_⟩
   ·have:(i:Int) / n=1:=by rw [<- vT,h3];rfl
    rw [this];rfl
   ·unfold gM
    have hjm:j % n < n:=kQ _ hn
    rw [if_neg (by omega)]
    have e1:((i:Int) % n + -1*((j:Int) % n)) % n=((i % n+(n - j % n)) % n:Nat):=by
     have e2:((n - j % n:Nat):Int)=(n:Int) - (j:Int) % n:=by omega
     rw [ng,xX,e2,ng]
     rw [show (i:Int) % n+((n:Int) - (j:Int) % n)=((i:Int) % n + -1*((j:Int) % n))+n by omega,Int.add_emod_right]
    rw [e1]
    push_cast
    rfl
 obtain⟨c,c1,c2,c3⟩:=hc
 rw [<- c3]
 exact⟨_,Ar h0 hd c1 c2 hk hr2 hl⟩
end
end _W
end
section
namespace _W
open _L _G
section
theorem aS {a b:MS}{ρ ρ1:Rho}{S S1:Sto} (h:a ρ S=some (.nx,ρ1,S1)):aZ a b ρ S=b ρ1 S1:=by simp only [aZ,h]
theorem cx {e:ME}{ρ:Rho}{S S1:Sto}{u:U} (h:e ρ S=some (u,S1)):bU e ρ S=some (.rt u,ρ,S1):=by simp only [bU,h,aI]
theorem bP {e:ME}{ρ:Rho}{S S1:Sto}{u:U}{i:Nat} (h:e ρ S=some (u,S1)):bI i e ρ S=some (.nx,ρ.set i (some u),S1):=by simp only [bI,h,aI]
theorem i8 {ρ:Rho}{S:Sto}:cQ af ρ S=some (.ref S.length,S ++ [Cell.lst []]):=by
 have hz:([]:List U).length<=big:=dj _
 simp only [cQ,af,aI,hz,if_true]
theorem cw {k n:Nat}{b:MS}{us:List U}{S S1:Sto}{u:U}{ρ:Rho} (hl:us.length=k) (h:b (us.map some++aU (n - k) none) S=some (.rt u,ρ,S1)):_G.run k n b us S=some (u,S1):=by
 simp only [_G.run,hl,if_true,h]
theorem Sm.toEx {S S':Sto} (h:Sm S.length S S'):Ex S S':=by
 refine⟨S'.drop S.length,sr fun i => ?_⟩
 by_cases hi:i < S.length
 ·rw [aR hi];exact h.same i hi
 ·rw [aA (by exact cf (by assumption)),List.getElem?_drop];congr 1;omega
theorem NM {ρ:Rho} (h:ρ.length=6) : ∃ a b c d e f,ρ = [a,b,c,d,e,f]:=by
 have k : ∀ {n:Nat}{l:Rho},l.length=n+1 -> ∃ a r,l=a::r/\r.length=n:=fun {n l} h=>by
  cases l with
  | nil=>cases h
  | cons a r=>exact⟨a,r,rfl,yb h⟩
 obtain⟨a,r1,rfl,h1⟩:=k h
 obtain⟨b,r2,rfl,h2⟩:=k h1
 obtain⟨c,r3,rfl,h3⟩:=k h2
 obtain⟨d,r4,rfl,h4⟩:=k h3
 obtain⟨e,r5,rfl,h5⟩:=k h4
 obtain⟨f,r6,rfl,h6⟩:=k h5
 cases di h6
 exact⟨a,b,c,d,e,f,rfl⟩
theorem wW {n:Nat}{S:Sto} (hn:0 < n) (hn2:n < 1000) : ∃ S',fL [.int n] S=some (tab (2*n) (gM n),S')/\Ex S S':=by
 have hbig:2*n < big:=by unfold big;omega
 obtain⟨ρ1,S1,e1,q1,q2,q3⟩:=build (fs:=1) (rs:=3) (is:=2) (js:=4) (L := [2,3,4,5]) (ρ0 := [some (.int n),some (.ref S.length),none,none,none,none]) (S0:=S) (bIn:=p6) (a:=m2 fG (mC (.int 2)) (ab 0)) (m:=2*n) (T:=gM n)
  hbig (by decide) (by decide) (by decide) (by decide) (by decide) (by decide) (by decide) (by simp) (by simp) (by simp) rfl
  (fun ρ S' g s=>by
   have h0:ρ[0]? = some (some (.int n)):=g.2 0 (by decide)
   have hk:jE 2 (n:Int):=p5 (by decide) (by decide)
   simp only [m2,mC,aI,var_eq h0,fG,hk,if_true]
   rfl)
  (fun i j r ρ S' row hi hj g gi gj gr s hr he hl=>by
   obtain⟨a,b,c,d,e,f,rfl⟩:=NM g.1
   have h0:some a=some (some (.int n)):=g.2 0 (by decide)
   have h1:some b=some (some (.ref S.length)):=g.2 1 (by decide)
   simp only [eD,Bz,BB] at h0 h1 gi gj gr
   subst h0 h1 gi gj gr
   obtain⟨z,ez⟩:=Cw (f:=S.length) (x:=none) (y:=f) hn hn2 hi hj he hl
   refine⟨_,_,ez,⟨rfl,fun k hk => ?_⟩,rfl,rfl,(Wr.ex (Ex.push _ _)).trans (Wr.set _ _ _),?_⟩
   ·match k with
    | 0=>rfl
    | 1=>rfl
    | 2=>exact absurd (by decide) hk
    | 3=>exact absurd (by decide) hk
    | 4=>exact absurd (by decide) hk
    | 5=>exact absurd (by decide) hk
    | k+6=>rfl
   ·exact aW (by have:=(ag.mp he).1;simp;exact gg (by assumption)))
 have e2:mFn b9 (aa (ab 1) af) ρ1 S1=some (tab (2*n) (gM n),S1):=lX (var_eq (by rw [q1.2 1 (by decide)];rfl)) q3
 refine⟨S1,cw (ρ:=ρ1) rfl ?_,?_⟩
 ·show mj [some (.int n),none,none,none,none,none] S=_
  exact (aS (bP i8)).trans ((aS e1).trans (cx e2))
 ·exact q2.toEx
end
end _W
end
section
namespace _W
open _L _G
section
section
variable {ρ:Rho}{S S1 S2:Sto}{a b:ME}
theorem op2 {f:F2}{x y:U}{r:Res U} (ha:a ρ S=some (x,S1)) (hb:b ρ S1=some (y,S2)) (h:f x y S2=r):m2 f a b ρ S=r:=by simp only [m2,ha,hb,aI,h]
theorem Ip {us:List U}{z:Int}{u:U} (ha:a ρ S=some (.tup us,S1)) (hb:b ρ S1=some (.int z,S2)) (h:atI us z=some u):m2 oIx a b ρ S=some (u,S2):=op2 ha hb (by simp only [oIx,gw,dS,ai,h,aT])
theorem vc {n:Nat}{us:List U}{z:Int}{u:U} (ha:a ρ S=some (.ref n,S1)) (hb:b ρ S1=some (.int z,S2)) (hn:S2[n]? = some (Cell.lst us)) (h:atI us z=some u):m2 oIx a b ρ S=some (u,S2):=op2 ha hb (by simp only [oIx,gw,dS,getL,hn,ai,h,aT])
theorem Lz {x y:Int} (ha:a ρ S=some (.int x,S1)) (hb:b ρ S1=some (.int y,S2)):m2 cZ a b ρ S=some (.int (x+y),S2):=op2 ha hb rfl
theorem Hl {x y:Int} (ha:a ρ S=some (.int x,S1)) (hb:b ρ S1=some (.int y,S2)):m2 uF a b ρ S=some (.int (x - y),S2):=op2 ha hb rfl
theorem K3 {x y:Int} (ha:a ρ S=some (.int x,S1)) (hb:b ρ S1=some (.int y,S2)) (h:jE x y):m2 fG a b ρ S=some (.int (x*y),S2):=op2 ha hb (if_pos h)
theorem MV {x y:Int} (ha:a ρ S=some (.int x,S1)) (hb:b ρ S1=some (.int y,S2)) (h:rB y):m2 oDiv a b ρ S=some (.int (x / y),S2):=op2 ha hb (if_pos h)
theorem Hg {x y:Int} (ha:a ρ S=some (.int x,S1)) (hb:b ρ S1=some (.int y,S2)) (h:0 < y):m2 oMod a b ρ S=some (.int (x % y),S2):=op2 ha hb (if_pos h)
theorem c_i {z:Int}:mC (.int z) ρ S=some (.int z,S):=rfl
theorem rj {us:List U} (ha:a ρ S=some (.tup us,S1)):mFn bD (aa a af) ρ S=some (.int us.length,S1):=by
 simp only [mFn,nv ha,aI,bD,gw,dS,aT]
theorem len_tab {m:Nat}{T:Nat->Nat->Nat} (ha:a ρ S=some (tab m T,S1)):mFn bD (aa a af) ρ S=some (.int m,S1):=by
 rw [rj (us:=(ar m).map (iw m T)) ha,aw,ba]
theorem dU {m i:Nat}{T:Nat->Nat->Nat} (hi:i < m) (ha:a ρ S=some (tab m T,S1)) (hb:b ρ S1=some (.int i,S2)):m2 oIx a b ρ S=some (iw m T i,S2):=Ip ha hb (mJ hi)
theorem d4 {m i j:Nat}{T:Nat->Nat->Nat} (hj:j < m) (ha:a ρ S=some (iw m T i,S1)) (hb:b ρ S1=some (.int j,S2)):m2 oIx a b ρ S=some (.int (T i j),S2):=Ip ha hb (mJ hj)
theorem rE {x y:Nat} (ha:a ρ S=some (.int x,S1)) (hb:b ρ S1=some (.int y,S2)) (h:0 < y) (h2:y < 1000):m2 oDiv a b ρ S=some (.int (x / y:Nat),S2):=by rw [MV ha hb (tV h h2),vT]
theorem zU {x y:Nat} (ha:a ρ S=some (.int x,S1)) (hb:b ρ S1=some (.int y,S2)) (h:0 < y):m2 oMod a b ρ S=some (.int (x % y:Nat),S2):=by rw [Hg ha hb (by omega),ng]
theorem w5 {x y:Nat} (ha:a ρ S=some (.int x,S1)) (hb:b ρ S1=some (.int y,S2)) (h:x < 1000000):m2 fG a b ρ S=some (.int (x*y:Nat),S2):=by rw [K3 ha hb (ug h),Int.natCast_mul]
theorem add_n {x y:Nat} (ha:a ρ S=some (.int x,S1)) (hb:b ρ S1=some (.int y,S2)):m2 cZ a b ρ S=some (.int (x+y:Nat),S2):=by rw [Lz ha hb,xX]
end
theorem Agr.of {L:List Nat}{ρ0 ρ:Rho}{i:Nat}{v:Option U} (h:Agr L ρ0 ρ) (hi:i∉L) (e:ρ0[i]? = some v):ρ[i]? = some v:=(h.2 i hi).trans e
noncomputable def JI:MS:=aZ (bI 7 (m2 oIx (m2 oIx (ab 0) (m2 oDiv (ab 4) (ab 2))) (m2 oDiv (ab 6) (ab 2)))) (eg (mML dn (ab 5) (aa (m2 cZ (m2 fG (ab 7) (ab 2)) (m2 oIx (m2 oIx (ab 1) (m2 oMod (ab 4) (ab 2))) (m2 oMod (ab 6) (ab 2)))) af)))
theorem E1 {k m:Nat}{A B:Nat->Nat->Nat}{S:Sto} (hk:0 < k) (hk2:k < 1000) (hm:0 < m) (hm2:m < 1000) (ca : ∀ i j,i < k->j < k->A i j < k) : ∃ S',kJ [tab k A,tab m B] S=some (tab (k*m) (oW m A B),S')/\Ex S S':=by
 have hkm:k*m < 1000000:=by
  calc k*m<=999*m:=fb m (by exact gm (by assumption))
   _<=999*999:=pY 999 (by exact gm (by assumption))
   _ < 1000000:=by decide
 have hbig:k*m < big:=by unfold big;exact ao (by assumption) (by decide)
 have dl : ∀ i,i < k*m->i / m < k:=fun i hi=>Nat.div_lt_of_lt_mul (by rw [ky];exact hi)
 have rl : ∀ i,i % m < m:=fun i=>kQ _ hm
 obtain⟨ρ1,S1,e1,q1,q2,q3⟩:=build (fs:=3) (rs:=5) (is:=4) (js:=6) (L := [4,5,6,7]) (ρ0 := [some (tab k A),some (tab m B),some (.int m),some (.ref S.length),none,none,none,none]) (S0:=S) (bIn:=JI) (a:=m2 fG (mFn bD (aa (ab 0) af)) (ab 2)) (m:=k*m) (T:=oW m A B)
  hbig (by decide) (by decide) (by decide) (by decide) (by decide) (by decide) (by decide) (by simp) (by simp) (by simp) rfl
  (fun ρ S' g s=>w5 (len_tab (var_eq (g.of (by decide) rfl))) (var_eq (g.of (by decide) rfl)) (by exact ao (by assumption) (by decide)))
  (fun i j r ρ S' row hi hj g gi gj gr s hr he hl=>by
   have v0 : ∀ S',ab 0 ρ S'=some (tab k A,S'):=fun S'=>var_eq (g.of (by decide) rfl)
   have v2 : ∀ S',ab 2 ρ S'=some (.int m,S'):=fun S'=>var_eq (g.of (by decide) rfl)
   have e7:m2 oIx (m2 oIx (ab 0) (m2 oDiv (ab 4) (ab 2))) (m2 oDiv (ab 6) (ab 2)) ρ S'=some (.int (A (i / m) (j / m)),S'):=
    d4 (dl j hj) (dU (dl i hi) (v0 _) (rE (var_eq gi) (v2 _) hm hm2)) (rE (var_eq gj) (v2 _) hm hm2)
   have hlen:ρ.length=8:=g.1
   have g':Agr [4,5,6,7] _ (ρ.set 7 (some (.int (A (i / m) (j / m))))):=g.set (by decide)
   have w2 : ∀ S',ab 2 (ρ.set 7 (some (.int (A (i / m) (j / m))))) S'=some (.int m,S'):=fun S'=>var_eq (g'.of (by decide) rfl)
   have w1 : ∀ S',ab 1 (ρ.set 7 (some (.int (A (i / m) (j / m))))) S'=some (tab m B,S'):=fun S'=>var_eq (g'.of (by decide) rfl)
   have w7 : ∀ S',ab 7 (ρ.set 7 (some (.int (A (i / m) (j / m))))) S'=some (.int (A (i / m) (j / m)),S'):=fun S'=>var_eq (oX (by omega))
   have n4:(ρ.set 7 (some (.int (A (i / m) (j / m)))))[4]? = some (some (.int i)):=by rw [aK (by decide)];exact gi
   have n5:(ρ.set 7 (some (.int (A (i / m) (j / m)))))[5]? = some (some (.ref r)):=by rw [aK (by decide)];exact gr
   have n6:(ρ.set 7 (some (.int (A (i / m) (j / m)))))[6]? = some (some (.int j)):=by rw [aK (by decide)];exact gj
   have hA:A (i / m) (j / m) < 1000000:=bK (ca _ _ (dl i hi) (dl j hj)) (by exact ao (by assumption) (by decide))
   have ev:m2 cZ (m2 fG (ab 7) (ab 2)) (m2 oIx (m2 oIx (ab 1) (m2 oMod (ab 4) (ab 2))) (m2 oMod (ab 6) (ab 2))) (ρ.set 7 (some (.int (A (i / m) (j / m))))) S'=some (.int (oW m A B i j:Nat),S'):=
    add_n (w5 (w7 _) (w2 _) hA) (d4 (rl j) (dU (rl i) (w1 _) (zU (var_eq n4) (w2 _) hm)) (zU (var_eq n6) (w2 _) hm))
   exact⟨_,_,(aS (bP e7)).trans (append_eq (var_eq n5) ev he he hl),g',n4,n5,Wr.set _ _ _,aW (ag.mp he).1⟩)
 have e2:mFn b9 (aa (ab 3) af) ρ1 S1=some (tab (k*m) (oW m A B),S1):=lX (var_eq (q1.of (by decide) rfl)) q3
 refine⟨S1,cw (ρ:=ρ1) rfl ?_,q2.toEx⟩
 show nM [some (tab k A),some (tab m B),none,none,none,none,none,none] S=_
 exact (aS (bP (len_tab (var_eq rfl)))).trans ((aS (bP i8)).trans ((aS e1).trans (cx e2)))
end
end _W
end
section
namespace _W
open _L _G
section
noncomputable def o8:Nat->Nat->Nat:=fun a b=>([[0,0,0,0],[0,1,0,1],[0,1,1,0],[0,0,1,1]].getD a []).getD b 0
noncomputable def yp:Nat->Nat->Nat:=fun a b=>([[0,1,2,3],[1,0,3,2],[2,3,0,1],[3,2,1,0]].getD a []).getD b 0
noncomputable def wa (i j:Nat):Nat:=2*yp (i / 2) (j / 2)+(i+j+o8 (i / 2) (j / 2)) % 2
theorem DW:((ar 8).all fun i=>(ar 8).all fun j=>wa i j == f9 i j)=true:=by decide +kernel
theorem AJ {i j:Nat} (hi:i < 8) (hj:j < 8):wa i j=f9 i j:=by
 have h:=bC.mp (bC.mp DW i (bb.mpr hi)) j (bb.mpr hj)
 exact eq_of_beq h
noncomputable def Fk:MS:=aZ (bI 6 (m2 oMod (m2 cZ (m2 cZ (ab 3) (ab 5)) (m2 oIx (m2 oIx (ab 0) (m2 oDiv (ab 3) (mC (.int 2)))) (m2 oDiv (ab 5) (mC (.int 2))))) (mC (.int 2)))) (eg (mML dn (ab 4) (aa (m2 cZ (m2 fG (mC (.int 2)) (m2 oIx (m2 oIx (ab 1) (m2 oDiv (ab 3) (mC (.int 2)))) (m2 oDiv (ab 5) (mC (.int 2))))) (ab 6)) af)))
noncomputable def qS (T:Nat->Nat->Nat) (a:Nat):Cell := .lst ((ar 4).map fun b => .int (T a b))
noncomputable def DF (s:Nat):Cell := .lst ((ar 4).map fun a => .ref (s+a))
noncomputable def ten (s:Nat):Sto := [qS o8 0,qS o8 1,qS o8 2,qS o8 3,DF s,qS yp 0,qS yp 1,qS yp 2,qS yp 3,DF (s+5)]
theorem look {S S':Sto}{n k:Nat}{c:Cell} (s:Sm (S++ten S.length).length (S++ten S.length) S') (hk:(ten S.length)[k]? = some c) (hn:n=S.length+k):S'[n]? = some c:=by
 have hl:k < (ten S.length).length:=(ag.mp hk).1
 rw [s.same n (by rw [aX];omega),aA (by omega),hn]
 rw [show S.length+k - S.length=k by omega];exact hk
theorem xi {S S':Sto}{ρ:Rho}{v p q x y:Nat}{T:Nat->Nat->Nat} (hv:ρ[v]? = some (some (.ref x))) (hx:S'[x]? = some (DF y)) (hy : ∀ a,a < 4->S'[y+a]? = some (qS T a)) {i j:Nat} (hi:ρ[p]? = some (some (.int i))) (hj:ρ[q]? = some (some (.int j))) (li:i < 8) (lj:j < 8) :
  m2 oIx (m2 oIx (ab v) (m2 oDiv (ab p) (mC (.int 2)))) (m2 oDiv (ab q) (mC (.int 2))) ρ S'=some (.int (T (i / 2) (j / 2)),S'):=
 vc (vc (var_eq hv) (rE (y:=2) (var_eq hi) c_i (by decide) (by decide)) hx (mJ (by omega))) (rE (y:=2) (var_eq hj) c_i (by decide) (by decide)) (hy _ (by omega)) (mJ (by omega))
theorem jC {ρ:Rho}{S:Sto}{x y z w:Int}:cQ (aa (mC (.int x)) (aa (mC (.int y)) (aa (mC (.int z)) (aa (mC (.int w)) af)))) ρ S=some (.ref S.length,S ++ [Cell.lst [.int x,.int y,.int z,.int w]]):=by
 have hz:4<=big:=by decide
 simp [cQ,aa,mC,af,aI,hz]
theorem xK {ρ:Rho}{S S1 S2 S3 S4:Sto}{a b c d:ME}{x y z w:U} (ha:a ρ S=some (x,S1)) (hb:b ρ S1=some (y,S2)) (hc:c ρ S2=some (z,S3)) (hd:d ρ S3=some (w,S4)) :
  cQ (aa a (aa b (aa c (aa d af)))) ρ S=some (.ref S4.length,S4 ++ [Cell.lst [x,y,z,w]]):=by
 have hz:4<=big:=by decide
 simp only [cQ,aa,af,aI,ha,hb,hc,hd]
 simp [hz]
theorem yq {S:Sto} : ∃ S',gE [] S=some (tab 8 f9,S')/\Ex S S':=by
 have e0:=xK (ρ := [none,none,none,none,none,none,none]) (S:=S) (jC (x:=0) (y:=0) (z:=0) (w:=0)) (jC (x:=0) (y:=1) (z:=0) (w:=1)) (jC (x:=0) (y:=1) (z:=1) (w:=0)) (jC (x:=0) (y:=0) (z:=1) (w:=1))
 have e1:=xK (ρ := [some (.ref (S.length+4)),none,none,none,none,none,none]) (S:=S++(ten S.length).take 5) (jC (x:=0) (y:=1) (z:=2) (w:=3)) (jC (x:=1) (y:=0) (z:=3) (w:=2)) (jC (x:=2) (y:=3) (z:=0) (w:=1)) (jC (x:=3) (y:=2) (z:=1) (w:=0))
 have e0':=e0.trans (b:=_) (c:=some (U.ref (S.length+4),S++(ten S.length).take 5)) (by simp only [bh,aX];rfl)
 have e1':=e1.trans (b:=_) (c:=some (U.ref (S.length+9),S++ten S.length)) (by simp only [bh,aX];rfl)
 obtain⟨ρ1,S1,f1,q1,q2,q3⟩:=build (fs:=2) (rs:=4) (is:=3) (js:=5) (L := [3,4,5,6]) (ρ0 := [some (.ref (S.length+4)),some (.ref (S.length+9)),some (.ref (S++ten S.length).length),none,none,none,none]) (S0:=S++ten S.length) (bIn:=Fk) (a:=mC (.int 8)) (m:=8) (T:=f9)
  (by decide) (by decide) (by decide) (by decide) (by decide) (by decide) (by decide) (by decide) (by simp) (by simp) (by simp) rfl
  (fun ρ S' g s=>rfl)
  (fun i j r ρ S' row hi hj g gi gj gr s hr he hl=>by
   have hlen:ρ.length=7:=g.1
   have hs : ∀ a,a < 4->S'[S.length+a]? = some (qS o8 a):=fun a ha=>look (k:=a) s (by match a,ha with | 0,_=>rfl | 1,_=>rfl | 2,_=>rfl | 3,_=>rfl) rfl
   have hkk : ∀ a,a < 4->S'[S.length+5+a]? = some (qS yp a):=fun a ha=>look (k:=5+a) s (by match a,ha with | 0,_=>rfl | 1,_=>rfl | 2,_=>rfl | 3,_=>rfl) (by omega)
   have t1:=xi (S:=S) (T:=o8) (v:=0) (g.of (by decide) rfl) (look (k:=4) s rfl rfl) hs gi gj hi hj
   have e6:m2 oMod (m2 cZ (m2 cZ (ab 3) (ab 5)) (m2 oIx (m2 oIx (ab 0) (m2 oDiv (ab 3) (mC (.int 2)))) (m2 oDiv (ab 5) (mC (.int 2))))) (mC (.int 2)) ρ S'=some (.int ((i+j+o8 (i / 2) (j / 2)) % 2:Nat),S'):=
    zU (y:=2) (add_n (add_n (var_eq gi) (var_eq gj)) t1) c_i (by decide)
   have g':Agr [3,4,5,6] _ (ρ.set 6 (some (.int ((i+j+o8 (i / 2) (j / 2)) % 2:Nat)))):=g.set (by decide)
   have n3:(ρ.set 6 (some (.int ((i+j+o8 (i / 2) (j / 2)) % 2:Nat))))[3]? = some (some (.int i)):=by rw [aK (by decide)];exact gi
   have n4:(ρ.set 6 (some (.int ((i+j+o8 (i / 2) (j / 2)) % 2:Nat))))[4]? = some (some (.ref r)):=by rw [aK (by decide)];exact gr
   have n5:(ρ.set 6 (some (.int ((i+j+o8 (i / 2) (j / 2)) % 2:Nat))))[5]? = some (some (.int j)):=by rw [aK (by decide)];exact gj
   have t2:=xi (S:=S) (T:=yp) (v:=1) (g'.of (by decide) rfl) (look (k:=9) s rfl rfl) hkk n3 n5 hi hj
   have ev:m2 cZ (m2 fG (mC (.int 2)) (m2 oIx (m2 oIx (ab 1) (m2 oDiv (ab 3) (mC (.int 2)))) (m2 oDiv (ab 5) (mC (.int 2))))) (ab 6) (ρ.set 6 (some (.int ((i+j+o8 (i / 2) (j / 2)) % 2:Nat)))) S'=some (.int (f9 i j:Nat),S'):=by
    rw [<- AJ hi hj]
    exact add_n (w5 (x:=2) c_i t2 (by decide)) (var_eq (oX (by omega)))
   exact⟨_,_,(aS (bP e6)).trans (append_eq (var_eq n4) ev he he hl),g',n3,n4,Wr.set _ _ _,aW (ag.mp he).1⟩)
 have f2:mFn b9 (aa (ab 2) af) ρ1 S1=some (tab 8 f9,S1):=lX (var_eq (q1.of (by decide) rfl)) q3
 refine⟨S1,cw (ρ:=ρ1) rfl ?_,Ex.trans ⟨ten S.length,rfl⟩ q2.toEx⟩
 show jT [none,none,none,none,none,none,none] S=_
 exact (aS (bP e0')).trans ((aS (bP e1')).trans ((aS (bP i8)).trans ((aS f1).trans (cx f2))))
end
end _W
end
section
namespace _W
open _L _G
section
theorem tK {e:ME}{ρ:Rho} (P:List U->Sto->Prop) : ∀ (us acc:List U) (S:Sto),P acc S ->
  (∀ (k:Nat) (acc':List U) (u:U) (S:Sto),us[k]? = some u->acc'.length=acc.length+k->P acc' S -> ∃ v S',e (ρ ++ [some u]) S=some (v,S')/\P (acc' ++ [v]) S') ->
  ∃ ys S',hG cTT e ρ us acc S=some (ys,S')/\P ys S'/\ys.length=acc.length+us.length
 | [],acc,S,h,_=>⟨acc,S,rfl,h,by simp⟩
 | u::us,acc,S,h,st=>by
   obtain⟨v,S1,e1,h1⟩:=st 0 acc u S rfl (by simp) h
   obtain⟨ys,S2,e2,h2,h3⟩:=tK P us (acc ++ [v]) S1 h1 fun k acc' w S hk hl hp=>st (k+1) acc' w S (by simpa using hk) (by simp at hl;omega) hp
   refine⟨ys,S2,?_,h2,by simp at h3 ⊢;omega⟩
   show bnd (cTT (ρ ++ [some u]) S) _=_
   simp only [cTT,aI,if_true]
   rw [e1]
   exact e2
theorem uo {ρ:Rho}{S S0:Sto}{a e:ME}{n:Nat} (ha:a ρ S=some (.int n,S0)) (hn:n < big) (P:List U->Sto->Prop) (h0:P [] S0)
  (hs : ∀ (k:Nat) (acc:List U) (S:Sto),k < n->acc.length=k->P acc S -> ∃ v S',e (ρ ++ [some (.int k)]) S=some (v,S')/\P (acc ++ [v]) S') :
  ∃ ys S',mFn b9 (aa (bR (iR1 (aa a af)) cTT e) af) ρ S=some (.tup ys,S' ++ [.lst ys])/\P ys S'/\ys.length=n:=by
 obtain⟨ys,S1,e1,h1,h2⟩:=tK (e:=e) (ρ:=ρ) P (bo 0 n) [] S0 h0 fun k acc u S hk hl hp=>by
  have hlt:k < n:=by have:=(ag.mp hk).1;simpa [bo] using this
  have hu:(bo 0 n)[k]? = some (.int k):=by simp [bo,hlt]
  rw [hu] at hk;cases hk
  exact hs k acc S hlt (by simpa using hl) hp
 have hlen:(bo 0 n).length=n:=by simp [bo]
 rw [hlen] at h2
 simp only [iq,ei] at h2
 exact⟨ys,S1,jg (kK (mO ha hn) e1 (by rw [h2];exact hn)),h1,h2⟩
theorem Stp.set {n r:Nat}{S S':Sto}{c:Cell} (h:Stp n S S') (hr:S.length<=r) (hn:r≠n):Stp n S (S'.set r c):=by
 refine⟨by rw [fQ];exact h.len,fun m h1 h2=>by rw [aK (by omega)];exact h.same m h1 h2,?_⟩
 obtain⟨s,b,e⟩:=h.st
 exact⟨s,b,by rw [aK hn];exact e⟩
theorem Stp.step {n:Nat}{S S1 S2:Sto} (a:Stp n S S1) (e:Ex S1 S2):Stp n S S2:=a.trans (Stp.ex a.st e)
theorem cN {f:MF}{ρ:Rho}{S S1 S2:Sto}{a b:ME}{x y:U}{r:Res U} (ha:a ρ S=some (x,S1)) (hb:b ρ S1=some (y,S2)) (h:f [x,y] S2=r):mFn f (aa a (aa b af)) ρ S=r:=by
 simp only [mFn,aa,af,ha,hb,aI,h]
theorem fo {f:MF}{ρ:Rho}{S S1:Sto}{a:ME}{x:U}{r:Res U} (ha:a ρ S=some (x,S1)) (h:f [x] S1=r):mFn f (aa a af) ρ S=r:=by
 simp only [mFn,nv ha,aI,h]
theorem xb {ρ:Rho}{S:Sto}{a:ME}{r:Nat}{us:List U} (ha:a ρ S=some (.ref r,S)) (hr:S[r]? = some (Cell.lst us)):mFn bD (aa a af) ρ S=some (.int us.length,S):=
 fo ha (by simp only [bD,gw,dS,getL,hr,aT])
theorem ua {α β:Type} (f:α->β) : ∀ (l:List α) (j:Nat),(l.map f).eraseIdx j=(l.eraseIdx j).map f
 | [],_=>rfl
 | _::_,0=>rfl
 | x::l,j+1=>by simp [ua f l j]
noncomputable def aq (l:List Nat):List U:=l.map fun (x:Nat)=>U.int x
theorem DD {ρ:Rho}{S S1:Sto}{o a:ME}{r:Nat}{l:List Nat}{j:Nat} (ho:o ρ S=some (.ref r,S)) (ha:a ρ S=some (.int j,S1)) (hr:S[r]? = some (Cell.lst (aq l))) (hr1:S1[r]? = some (Cell.lst (aq l))) (hj:j < l.length) (hl:l.length < big) :
  mML md o (aa a af) ρ S=some (.int l[j],S1.set r (Cell.lst (aq (l.eraseIdx j)))):=by
 have hok:okR (j:Int):=vL (by exact bK (by assumption) (by assumption))
 have hx:ixN (aq l).length (j:Int)=some j:=by
  have:(aq l).length=l.length:=by simp [aq]
  rw [this];simp [ixN,hj]
 have hg:(aq l)[j]? = some (.int l[j]):=by simp [aq,hj]
 have he:(aq l).eraseIdx j=aq (l.eraseIdx j):=ua _ _ _
 simp only [mML,ho,aI,getL,hr,ai,nv ha,md,hr1,hok,if_true,hx,hg,aT,he]
theorem Ak {ρ:Rho}{S:Sto}{a b:ME}{i j:Int} (ha:a ρ S=some (.int i,S)) (hb:b ρ S=some (.int j,S)) (h1:okR i) (h2:okR j) (hz:(bo i (j - i).toNat).length<=big):hZ (iR2 (aa a (aa b af))) ρ S=some (.ref S.length,S ++ [Cell.lst (bo i (j - i).toNat)]):=by
 have e:iR2 (aa a (aa b af)) ρ S=some (.imm (bo i (j - i).toNat),S):=by
  unfold iR2
  simp only [aa,af,ha,hb,aI]
  exact if_pos ⟨h1,h2⟩
 simp only [hZ,e,aI,hz,if_true]
theorem cat_t {ρ:Rho}{S S1 S2:Sto}{a b:ME}{xs ys:List U} (ha:a ρ S=some (.tup xs,S1)) (hb:b ρ S1=some (.tup ys,S2)) (hz:xs.length+ys.length<=big):m2 cZ a b ρ S=some (.tup (xs++ys),S2):=op2 ha hb (by simp only [cZ,hz,if_true])
theorem rW (m:Nat) (hm:0 < m):bo 1 ((m:Int) - 1).toNat=aq (dJ 1 (m - 1)):=by
 have e:((m:Int) - 1).toNat=m - 1:=by omega
 rw [e]
 unfold bo aq
 rw [List.range'_eq_map_range,fK]
 apply de
 intro k _
 simp
theorem CV {n m:Nat}{S:Sto} (h:m7 n S) (hm:0 < m) (hm2:m < 1000) : ∃ l S',jJ [.ref n,.int m] S=some (.tup (aq l),S')/\Stp n S S'/\pB m l:=by
 have hn:=h.lt
 have hbig:m < big:=by unfold big;exact ao (by assumption) (by decide)
 have e0:hZ (iR2 (aa (mC (.int 1)) (aa (ab 1) af))) [some (.ref n),some (.int m),none] S=some (.ref S.length,S ++ [Cell.lst (aq (dJ 1 (m - 1)))]):=by
  rw [Ak (i:=1) (j:=m) rfl (var_eq rfl) ⟨by decide,by decide⟩ (vL hbig) (by rw [rW m hm,aq,aw,List.length_range'];exact aL (kW m 1) (aQ hbig)),rW m hm]
 have st0:Stp n S (S ++ [Cell.lst (aq (dJ 1 (m - 1)))]):=Stp.ex h (Ex.push _ _)
 obtain⟨ys,S1,e1,⟨tk,rem,rfl,q1,q2,q3⟩,e2⟩:=uo (ρ := [some (.ref n),some (.int m),some (.ref S.length)]) (S:=S ++ [Cell.lst (aq (dJ 1 (m - 1)))]) (S0:=S ++ [Cell.lst (aq (dJ 1 (m - 1)))])
  (a:=m2 uF (ab 1) (mC (.int 1))) (e:=mML md (ab 2) (aa (mFn bu (aa (ab 0) (aa (mFn bD (aa (ab 2) af)) af))) af)) (n:=m - 1)
  (by rw [Hl (var_eq rfl) c_i];congr 3;exact (Int.natCast_sub hm).symm) (aN (kW m 1) hbig)
  (fun acc S' => ∃ tk rem:List Nat,acc=aq tk/\S'[S.length]? = some (Cell.lst (aq rem))/\(tk++rem).Perm (dJ 1 (m - 1))/\Stp n S S')
  ⟨[],dJ 1 (m - 1),rfl,by rw [aA (aj _)];simp,by simp,st0⟩
  (by
   rintro k acc S' hk hl ⟨tk,rem,rfl,q1,q2,q3⟩
   have htk:tk.length=k:=by simpa [aq] using hl
   have hrem:rem.length=m - 1 - k:=by
    have:=q2.length_eq
    rw [aX,List.length_range',htk] at this
    rw [<- this,Nat.add_sub_cancel_left]
   have hr0:0 < rem.length:=by rw [hrem];exact Nat.sub_pos_of_lt hk
   have hr1:rem.length < 1000:=by rw [hrem];exact aN (aL (kW _ _) (kW _ _)) hm2
   obtain⟨r,S2,t1,t2,t3,t4,t5⟩:=zm (many:=(rem.length:Int)) q3.st (fP.mpr hr0) (by omega)
   obtain⟨j,rfl⟩:=BH t2
   have hj:j < rem.length:=fP.mp t3
   have ho : ∀ S',ab 2 ([some (U.ref n),some (.int m),some (.ref S.length)] ++ [some (.int k)]) S'=some (.ref S.length,S'):=fun S'=>var_eq rfl
   have hv : ∀ S',ab 0 ([some (U.ref n),some (.int m),some (.ref S.length)] ++ [some (.int k)]) S'=some (.ref n,S'):=fun S'=>var_eq rfl
   have hlen:mFn bD (aa (ab 2) af) ([some (U.ref n),some (.int m),some (.ref S.length)] ++ [some (.int k)]) S'=some (.int rem.length,S'):=by
    rw [xb (ho _) q1];simp [aq]
   have q1':S2[S.length]? = some (Cell.lst (aq rem)):=t4.some (by exact dH (by assumption)) q1
   refine⟨_,_,DD (ho _) (cN (hv _) hlen t1) q1 q1' hj (by unfold big;exact ao hr1 (by decide)),tk ++ [rem[j]],rem.eraseIdx j,by simp [aq],?_,?_,?_⟩
   ·exact aW (ag.mp q1').1
   ·refine List.Perm.trans ?_ q2
    rw [bh]
    exact (iB rem j hj).append_left tk
   ·exact (q3.trans t4).set (aj _) (by exact dH (by assumption)))
 have hrem:rem = []:=by
  have:=q2.length_eq
  simp [aq] at this e2
  exact di (by omega)
 subst hrem
 rw [ij] at q2
 refine⟨0::tk,S1 ++ [Cell.lst (aq tk)],cw (ρ := [some (.ref n),some (.int m),some (.ref S.length)]) rfl ?_,q3.step (Ex.push _ _),AG hm q2⟩
 show lL [some (.ref n),some (.int m),none] S=_
 refine (aS (bP e0)).trans (cx ?_)
 have ez:mY (aa (mC (.int 0)) af) [some (.ref n),some (.int m),some (.ref S.length)] (S ++ [Cell.lst (aq (dJ 1 (m - 1)))])=some (.tup [.int 0],S ++ [Cell.lst (aq (dJ 1 (m - 1)))]):=by
  have hb1:1<=big:=by decide
  simp [mY,nv (show mC (.int 0) _ _=some (U.int 0,S ++ [Cell.lst (aq (dJ 1 (m - 1)))]) from rfl),aI,hb1]
 exact cat_t ez e1 (by simp [aq] at e2 ⊢;omega)
theorem GN {S:Sto}{f:Nat}{i:Int}:toD S (f+1) (.int i)=some (.int i):=rfl
theorem oP {S:Sto}{f:Nat} : ∀ (l:List Nat),dw (toD S (f+1)) (aq l)=some (l.map fun (x:Nat)=>eS x)
 | []=>rfl
 | x::l=>by
   show (toD S (f+1) (.int x)).bind _=_
   rw [GN]
   simp only [ai]
   rw [show List.map (fun (x:Nat)=>U.int x) l=aq l from rfl,oP l]
   rfl
theorem vZ (x:Nat) : ∀ (l:List Nat),x∈l->(l.map fun (x:Nat)=>eS x).findIdx? (fun y=>cP y (.int x))=some (l.idxOf x)
 | [],h=>by simp at h
 | y::l,h=>by
   have e:cP (.int y) (.int x)=decide (y=x):=by
    simp [cP]
    by_cases hxy:y=x
    ·subst hxy;simp
    ·have : ¬ ((y:Int)=x):=by omega
     simp [hxy,this]
   rw [bA,List.findIdx?_cons,e,List.idxOf_cons]
   by_cases hxy:y=x
   ·subst hxy;simp
   ·have hm:x∈l:=by
     rcases aJ.mp h with z | z
     ·exact absurd z.symm hxy
     ·exact z
    have hb:(y == x)=false:=by simpa using hxy
    rw [vZ x l hm]
    simp [hxy,hb]
theorem Ge {S:Sto}{x:Nat}{l:List Nat} (h:x∈l):Da S (.int x) (aq l)=some (l.idxOf x):=by
 unfold Da
 rw [oP l]
 simp only [ai]
 rw [show toD S 40 (.int x)=some (.int x) from rfl]
 exact vZ x l h
theorem xu {ρ:Rho}{S S1:Sto}{o a:ME}{l:List Nat}{x:Nat} (ho:o ρ S=some (.tup (aq l),S)) (ha:a ρ S=some (.int x,S1)) (h:x∈l):mMT iI o (aa a af) ρ S=some (.int (l.idxOf x:Nat),S1):=by
 simp only [mMT,ho,aI,nv ha,iI,Ge h,aT]
 rfl
theorem qZ {l:List Nat}{j:Nat}{u:U} (h:(aq l)[j]? = some u):j < l.length/\u = .int (oF l j):=by
 have hl:j < l.length:=by have:=(ag.mp h).1;simpa [aq] using this
 have:(aq l)[j]? = some (.int l[j]):=by simp [aq,hl]
 rw [this] at h;cases h
 exact⟨hl,by simp [oF,hl]⟩
theorem bZ (l:List Nat):(aq l).length=l.length:=by simp [aq]
theorem BU {m:Nat}{T:Nat->Nat->Nat}{l:List Nat}{S:Sto} (hm:m < big) (g : ∀ i j,i < m->j < m->T i j < m) (ho:pB m l) : ∃ S',jL [tab m T,.tup (aq l)] S=some (tab m (mw T (oF l) (pF l)),S')/\Ex S S':=by
 have hlen:=ho.len
 obtain⟨S1,e1,h1⟩:=LP (ρ := [some (tab m T),some (.tup (aq l))]) (S:=S) (S0:=S) (a:=ab 1) (us:=aq l) (e:=mFn b9 (aa (bR (dq (ab 1)) cTT (mMT iI (ab 1) (aa (m2 oIx (m2 oIx (ab 0) (ab 2)) (ab 3)) af))) af))
  (var_eq rfl) (by rw [bZ,hlen];exact hm) (iw m (mw T (oF l) (pF l))) (fun _ S'=>Ex S S') (Ex.refl _) (by
   intro i u S' hu hx
   obtain⟨hi,rfl⟩:=qZ hu
   rw [hlen] at hi
   obtain⟨S2,e2,h2⟩:=LP (ρ := [some (tab m T),some (.tup (aq l)),some (.int (oF l i))]) (S:=S') (S0:=S') (a:=ab 1) (us:=aq l) (e:=mMT iI (ab 1) (aa (m2 oIx (m2 oIx (ab 0) (ab 2)) (ab 3)) af))
    (var_eq rfl) (by rw [bZ,hlen];exact hm) (fun j => .int (mw T (oF l) (pF l) i j)) (fun _ S''=>S''=S') rfl (by
     intro j u S'' hu hx
     obtain⟨hj,rfl⟩:=qZ hu
     rw [hlen] at hj
     refine⟨S'',?_,hx⟩
     exact xu (var_eq rfl) (d4 (ho.ord.ol j hj) (dU (ho.ord.ol i hi) (var_eq rfl) (var_eq rfl)) (var_eq rfl)) (ho.mem.mpr (g _ _ (ho.ord.ol i hi) (ho.ord.ol j hj))))
   subst h2
   rw [bZ,hlen] at e2
   exact⟨_,e2,hx.trans (Ex.push _ _)⟩)
 rw [bZ,hlen] at e1
 exact⟨_,cw (ρ := [some (tab m T),some (.tup (aq l))]) rfl (show lP [some (tab m T),some (.tup (aq l))] S=_ from cx e1),h1.trans (Ex.push _ _)⟩
end
end _W
end
section
namespace _W
open _L _G
section
theorem CT {ρ:Rho}{S S1 S2:Sto}{a b:ME}{x y:Int} (ha:a ρ S=some (.int x,S1)) (hb:b ρ S1=some (.int y,S2)):m2 oEq a b ρ S=some (.bl (x == y),S2):=op2 ha hb rfl
theorem Fe {ρ:Rho}{S S1 S2:Sto}{a b:ME}{x y:Int} (ha:a ρ S=some (.int x,S1)) (hb:b ρ S1=some (.int y,S2)):m2 oGt a b ρ S=some (.bl (decide (y < x)),S2):=op2 ha hb rfl
theorem of_eq {ρ:Rho}{S S1:Sto}{a:ME}{b:Bool} (h:a ρ S=some (.bl b,S1)):cOf a ρ S=some (b,S1):=by simp only [cOf,h,aI]
theorem or_eq {ρ:Rho}{S S1 S2:Sto}{a b:MT}{x y:Bool} (ha:a ρ S=some (x,S1)) (hb:b ρ S1=some (y,S2)) (e:x=true->S2=S1):cOr a b ρ S=some (x||y,S2):=by
 cases x
 ·simp [cOr,ha,hb,aI]
 ·simp [cOr,ha,aI,e rfl]
theorem and_eq {ρ:Rho}{S S1 S2:Sto}{a b:MT}{x y:Bool} (ha:a ρ S=some (x,S1)) (hb:b ρ S1=some (y,S2)) (e:x=false->S2=S1):lu a b ρ S=some (x&&y,S2):=by
 cases x
 ·simp [lu,ha,aI,e rfl]
 ·simp [lu,ha,hb,aI]
theorem qP {c:MT}{a b:MS}{ρ:Rho}{S S1:Sto} (h:c ρ S=some (true,S1)):sIf c a b ρ S=a ρ S1:=by simp [sIf,h,aI]
theorem ix {c:MT}{a b:MS}{ρ:Rho}{S S1:Sto} (h:c ρ S=some (false,S1)):sIf c a b ρ S=b ρ S1:=by simp [sIf,h,aI]
theorem j5 {n m:Nat}{S:Sto} (h:m7 n S) (hm:0 < m) (hm2:m < 1000) : ∃ r S',bu [.ref n,.int m] S=some (.int (r:Nat),S')/\r < m/\Stp n S S':=by
 obtain⟨r,S',e,h1,h2,h3,_⟩:=zm (many:=(m:Int)) h (by omega) (by omega)
 obtain⟨r,rfl⟩:=BH h1
 exact⟨r,S',e,by omega,h3⟩
noncomputable def gA:MS:=sIf (cOr (cOf (m2 oEq (ab 2) (mC (.int 1)))) (cOf (m2 oEq (ab 2) (mC (.int 2))))) (bI 3 (mFn fL (aa (m2 cZ (mC (.int 1)) (mFn bu (aa (ab 0) (aa (m2 oDiv (ab 1) (mC (.int 2))) af)))) af))) bX
noncomputable def gB:MS:=sIf (lu (cOf (m2 oEq (ab 2) (mC (.int 3)))) (cOf (m2 oGt (ab 1) (mC (.int 7))))) (bI 3 (mFn gE af)) bX
noncomputable def gC:MS:=sIf (cOf (m2 oGt (ab 2) (mC (.int 3)))) (aZ (bI 4 (m2 cZ (mC (.int 2)) (mFn bu (aa (ab 0) (aa (mC (.int 3)) af))))) (aZ (bI 5 (m2 oIx (cQ (aa (mFn dB (aa (ab 4) af)) (aa (mFn fL (aa (ab 4) af)) af))) (mFn bu (aa (ab 0) (aa (mC (.int 2)) af))))) (aZ (sIf (cOf (m2 oGt (mFn bD (aa (ab 5) af)) (ab 1))) (bI 5 (mFn dB (aa (ab 4) af))) bX) (bI 3 (mFn kJ (aa (ab 5) (aa (mFn dB (aa (m2 cZ (mC (.int 1)) (mFn bu (aa (ab 0) (aa (m2 oDiv (ab 1) (mFn bD (aa (ab 5) af))) af)))) af)) af))))))) bX
noncomputable def gD:MS:=sIf (cOf (m2 oEq (mFn bu (aa (ab 0) (aa (mC (.int 3)) af))) (mC (.int 0)))) (bI 3 (mFn jL (aa (ab 3) (aa (mFn jJ (aa (ab 0) (aa (mFn bD (aa (ab 3) af)) af))) af)))) bX
structure Gs (n most way:Nat) (S0:Sto) (ρ:Rho) (S:Sto):Prop where
 ex : ∃ m T x y,ρ = [some (.ref n),some (.int most),some (.int way),some (tab m T),x,y]/\Grp m T/\m<=most
 st:Stp n S0 S
section
variable {n most way:Nat}{S0 S:Sto}{ρ:Rho}
theorem KU (h6:6<=most) (hm:most < 1000) (g:Gs n most way S0 ρ S) : ∃ ρ' S',gA ρ S=some (.nx,ρ',S')/\Gs n most way S0 ρ' S':=by
 obtain⟨⟨m,T,x,y,rfl,gr,hle⟩,st⟩:=g
 have hc:=or_eq (of_eq (CT (ρ := [some (.ref n),some (.int most),some (.int way),some (tab m T),x,y]) (S:=S) (a:=ab 2) (b:=mC (.int 1)) (var_eq rfl) c_i)) (of_eq (CT (a:=ab 2) (b:=mC (.int 2)) (var_eq rfl) c_i)) fun _=>rfl
 cases hb:(((way:Int) == 1)||((way:Int) == 2)) with
 | false=>
   rw [hb] at hc
   exact⟨_,S,ix hc,⟨m,T,x,y,rfl,gr,hle⟩,st⟩
 | true=>
   rw [hb] at hc
   obtain⟨r,S1,e1,w1,s1⟩:=j5 (m:=most / 2) st.st (by omega) (by omega)
   obtain⟨S2,e2,s2⟩:=wW (n:=1+r) (S:=S1) (by exact cn (by decide) _) (by omega)
   refine⟨_,S2,(qP hc).trans (bP (fo (x := .int (1+r:Nat)) (add_n (x:=1) c_i (cN (var_eq rfl) (rE (y:=2) (var_eq rfl) c_i (by decide) (by decide)) e1)) e2)),⟨_,_,x,y,rfl,wR (by exact cn (by decide) _),by omega⟩,(st.trans s1).step s2⟩
theorem Lj (g:Gs n most way S0 ρ S) : ∃ ρ' S',gB ρ S=some (.nx,ρ',S')/\Gs n most way S0 ρ' S':=by
 obtain⟨⟨m,T,x,y,rfl,gr,hle⟩,st⟩:=g
 have hc:=and_eq (of_eq (CT (ρ := [some (.ref n),some (.int most),some (.int way),some (tab m T),x,y]) (S:=S) (a:=ab 2) (b:=mC (.int 3)) (var_eq rfl) c_i)) (of_eq (Fe (a:=ab 1) (b:=mC (.int 7)) (var_eq rfl) c_i)) fun _=>rfl
 cases hb:(((way:Int) == 3)&&decide ((7:Int) < most)) with
 | false=>
   rw [hb] at hc
   exact⟨_,S,ix hc,⟨m,T,x,y,rfl,gr,hle⟩,st⟩
 | true=>
   rw [hb] at hc
   obtain⟨S2,e2,s2⟩:=yq (S:=S)
   have h7:(7:Int) < most:=by simp at hb;exact hb.2
   refine⟨_,S2,(qP hc).trans (bP (show mFn gE af _ S=_ from e2)),⟨_,_,x,y,rfl,AL,by omega⟩,st.step s2⟩
theorem xB {ρ:Rho}{S S1 S2:Sto}{a b:ME}{x y:U} (ha:a ρ S=some (x,S1)) (hb:b ρ S1=some (y,S2)):cQ (aa a (aa b af)) ρ S=some (.ref S2.length,S2 ++ [Cell.lst [x,y]]):=by
 have hz:2<=big:=by decide
 simp [cQ,aa,af,aI,ha,hb,hz]
theorem LX (h6:6<=most) (hm:most < 1000) (g:Gs n most way S0 ρ S) : ∃ ρ' S',gC ρ S=some (.nx,ρ',S')/\Gs n most way S0 ρ' S':=by
 obtain⟨⟨m,T,x,y,rfl,gr,hle⟩,st⟩:=g
 have hbig : ∀ x,x<=most->x < big:=fun x hx=>by unfold big;exact aN (by assumption) (ao (by assumption) (by decide))
 have hc:=of_eq (Fe (ρ := [some (.ref n),some (.int most),some (.int way),some (tab m T),x,y]) (S:=S) (a:=ab 2) (b:=mC (.int 3)) (var_eq rfl) c_i)
 cases hb:decide ((3:Int) < way) with
 | false=>
   rw [hb] at hc
   exact⟨_,S,ix hc,⟨m,T,x,y,rfl,gr,hle⟩,st⟩
 | true=>
   rw [hb] at hc
   obtain⟨r,S1,e1,w1,s1⟩:=j5 (m:=3) st.st (by decide) (by decide)
   have f1:m2 cZ (mC (.int 2)) (mFn bu (aa (ab 0) (aa (mC (.int 3)) af))) [some (.ref n),some (.int most),some (.int way),some (tab m T),x,y] S=some (.int (2+r:Nat),S1):=
    add_n (x:=2) c_i (cN (var_eq rfl) c_i e1)
   have h24:2+r<=4:=Nat.add_le_add_left (gm w1) 2
   have h2m:2+r<=most:=aL h24 (aL (by decide) h6)
   obtain⟨S2,e2,s2⟩:=oQ (n:=2+r) (S:=S1) (by exact cn (by decide) _) (hbig _ h2m)
   obtain⟨S3,e3,s3⟩:=wW (n:=2+r) (S:=S2) (by exact cn (by decide) _) (aN h24 (by decide))
   have st3:Stp n S0 (S3 ++ [Cell.lst [tab (2+r) (fw (2+r)),tab (2*(2+r)) (gM (2+r))]]):=(((st.trans s1).step s2).step s3).step (Ex.push _ _)
   obtain⟨q,S4,e4,w4,s4⟩:=j5 (m:=2) st3.st (by decide) (by decide)
   have hcell:S4[S3.length]? = some (Cell.lst [tab (2+r) (fw (2+r)),tab (2*(2+r)) (gM (2+r))]):=by
    refine s4.some ?_ (by rw [aA (aj _)];simp)
    have:=(((st.trans s1).step s2).step s3).st.lt
    exact dH (by assumption)
   have one : ∃ k K,atI [tab (2+r) (fw (2+r)),tab (2*(2+r)) (gM (2+r))] (q:Int)=some (tab k K)/\Grp k K/\k<=8:=by
    rcases q with _ | _ | q
    ·exact⟨_,_,rfl,mG (by exact cn (by decide) _),aL h24 (by decide)⟩
    ·exact⟨_,_,rfl,wR (by exact cn (by decide) _),pY 2 h24⟩
    ·exact absurd (Eo (Eo w4)) (Nat.not_lt_zero _)
   obtain⟨k,K,hix,gk,hk8⟩:=one
   have f5:m2 oIx (cQ (aa (mFn dB (aa (ab 4) af)) (aa (mFn fL (aa (ab 4) af)) af))) (mFn bu (aa (ab 0) (aa (mC (.int 2)) af))) [some (.ref n),some (.int most),some (.int way),some (tab m T),some (.int (2+r:Nat)),y] S1=some (tab k K,S4):=
    vc (xB (fo (x := .int (2+r:Nat)) (var_eq rfl) e2) (fo (x := .int (2+r:Nat)) (var_eq rfl) e3)) (cN (var_eq rfl) c_i e4) hcell hix
   have st4:=st3.trans s4
   have cut : ∃ k' K' S5,sIf (cOf (m2 oGt (mFn bD (aa (ab 5) af)) (ab 1))) (bI 5 (mFn dB (aa (ab 4) af))) bX [some (.ref n),some (.int most),some (.int way),some (tab m T),some (.int (2+r:Nat)),some (tab k K)] S4 =
     some (.nx,[some (.ref n),some (.int most),some (.int way),some (tab m T),some (.int (2+r:Nat)),some (tab k' K')],S5)/\Grp k' K'/\k'<=most/\k'<=8/\Stp n S0 S5:=by
    have hc2:=of_eq (Fe (ρ := [some (.ref n),some (.int most),some (.int way),some (tab m T),some (.int (2+r:Nat)),some (tab k K)]) (S:=S4) (a:=mFn bD (aa (ab 5) af)) (b:=ab 1) (len_tab (var_eq rfl)) (var_eq rfl))
    cases hb2:decide ((most:Int) < k) with
    | false=>
      rw [hb2] at hc2
      have : ¬ ((most:Int) < k):=by simpa using hb2
      exact⟨k,K,S4,ix hc2,gk,cf fun z=>this (fP.mpr z),hk8,st4⟩
    | true=>
      rw [hb2] at hc2
      obtain⟨S5,e5,s5⟩:=oQ (n:=2+r) (S:=S4) (by exact cn (by decide) _) (hbig _ h2m)
      exact⟨_,_,S5,(qP hc2).trans (bP (fo (x := .int (2+r:Nat)) (var_eq rfl) e5)),mG (by exact cn (by decide) _),h2m,aL h24 (by decide),st4.step s5⟩
   obtain⟨k',K',S5,f6,gk',hkm,hk8',st5⟩:=cut
   have kp:=gk'.pos
   have hdiv:0 < most / k':=Nat.div_pos hkm kp
   have hdl:most / k'<=most:=Nat.div_le_self _ _
   obtain⟨t,S6,e6,w6,s6⟩:=j5 (m:=most / k') st5.st hdiv (by exact aN (by assumption) (by assumption))
   have h1t:1+t<=most / k':=by rw [nV];exact w6
   obtain⟨S7,e7,s7⟩:=oQ (n:=1+t) (S:=S6) (by exact cn (by decide) _) (hbig _ (aL h1t hdl))
   obtain⟨S8,e8,s8⟩:=E1 (k:=k') (m:=1+t) (A:=K') (B:=fw (1+t)) (S:=S7) kp (by exact aN (by assumption) (by decide)) (by exact cn (by decide) _) (aN (aL h1t hdl) hm) gk'.cl
   have hsz:k'*(1+t)<=most:=aL (pY k' h1t) (Nat.mul_div_le most k')
   refine⟨_,S8,(qP hc).trans ((aS (bP f1)).trans ((aS (bP f5)).trans ((aS f6).trans (bP (cN (var_eq rfl) (fo (x := .int (1+t:Nat)) ?_ e7) e8))))),⟨_,_,_,_,rfl,DA gk' (mG (by exact cn (by decide) _)),hsz⟩,((st5.trans s6).step s7).step s8⟩
   exact add_n (x:=1) c_i (cN (var_eq rfl) (rE (var_eq rfl) (len_tab (var_eq rfl)) kp (by exact aN (by assumption) (by decide))) e6)
theorem M8 (hm:most < 1000) (g:Gs n most way S0 ρ S) : ∃ ρ' S',gD ρ S=some (.nx,ρ',S')/\Gs n most way S0 ρ' S':=by
 obtain⟨⟨m,T,x,y,rfl,gr,hle⟩,st⟩:=g
 obtain⟨r,S1,e1,w1,s1⟩:=j5 (m:=3) st.st (by decide) (by decide)
 have hc:=of_eq (CT (ρ := [some (.ref n),some (.int most),some (.int way),some (tab m T),x,y]) (S:=S) (a:=mFn bu (aa (ab 0) (aa (mC (.int 3)) af))) (b:=mC (.int 0)) (cN (var_eq rfl) c_i e1) c_i)
 cases hb:((r:Int) == 0) with
 | false=>
   rw [hb] at hc
   exact⟨_,S1,ix hc,⟨m,T,x,y,rfl,gr,hle⟩,st.trans s1⟩
 | true=>
   rw [hb] at hc
   obtain⟨l,S2,e2,s2,ol⟩:=CV (m:=m) s1.st gr.pos (by exact aN (by assumption) (by assumption))
   obtain⟨S3,e3,s3⟩:=BU (m:=m) (T:=T) (S:=S2) (by unfold big;exact aN (by assumption) (ao (by assumption) (by decide))) gr.cl ol
   refine⟨_,S3,(qP hc).trans (bP (cN (var_eq rfl) (cN (var_eq rfl) (len_tab (var_eq rfl)) e2) e3)),⟨_,_,x,y,rfl,Ax gr ol.ord,hle⟩,((st.trans s1).trans s2).step s3⟩
end
theorem Dj {n most:Nat}{S:Sto} (h:m7 n S) (h6:6<=most) (hm:most < 1000) : ∃ m T S',gK [.ref n,.int most] S=some (tab m T,S')/\Grp m T/\m<=most/\Stp n S S':=by
 have hbig : ∀ x,x<=most->x < big:=fun x hx=>by unfold big;exact aN (by assumption) (ao (by assumption) (by decide))
 obtain⟨way,S1,e1,w1,s1⟩:=j5 (m:=8) h (by decide) (by decide)
 obtain⟨r2,S2,e2,w2,s2⟩:=j5 (m:=most) s1.st (by exact Nat.zero_lt_of_lt (by assumption)) hm
 obtain⟨S3,e3,s3⟩:=oQ (n:=1+r2) (S:=S2) (by exact cn (by decide) _) (hbig _ (by omega))
 have f1:m2 cZ (mC (.int 1)) (mFn bu (aa (ab 0) (aa (ab 1) af))) [some (.ref n),some (.int most),some (.int way),none,none,none] S1=some (.int (1+r2:Nat),S2):=add_n (x:=1) (y:=r2) c_i (cN (var_eq rfl) (var_eq rfl) e2)
 have g0:Gs n most way S [some (.ref n),some (.int most),some (.int way),some (tab (1+r2) (fw (1+r2))),none,none] S3:=⟨⟨_,_,none,none,rfl,mG (by exact cn (by decide) _),by omega⟩,(s1.trans s2).step s3⟩
 obtain⟨ρ4,S4,e4,g4⟩:=KU h6 hm g0
 obtain⟨ρ5,S5,e5,g5⟩:=Lj g4
 obtain⟨ρ6,S6,e6,g6⟩:=LX h6 hm g5
 obtain⟨ρ7,S7,e7,g7⟩:=M8 hm g6
 obtain⟨⟨m,T,x,y,rfl,gr,hle⟩,st⟩:=g7
 refine⟨m,T,S7,cw (ρ := [some (.ref n),some (.int most),some (.int way),some (tab m T),x,y]) rfl ?_,gr,hle,st⟩
 show lZ [some (.ref n),some (.int most),none,none,none,none] S=_
 exact (aS (bP (cN (var_eq rfl) c_i e1))).trans ((aS (bP (fo f1 e3))).trans ((aS e4).trans ((aS e5).trans ((aS e6).trans ((aS e7).trans (cx (var_eq rfl)))))))
end
end _W
end
section
namespace _W
open _L _G
section
noncomputable def Scr (ns:List Int) (S:Sto):Prop:=getL S 0=some (ns.map U.int)
theorem Scr.ex {ns:List Int}{S S':Sto} (h:Scr ns S) (e : ∀ c,S[0]? = some c->S'[0]? = some c):Scr ns S':=by
 unfold Scr getL at h ⊢
 split at h
 ·rename_i us q;rw [e _ q];exact h
 ·rename_i us q;rw [e _ q];exact h
 ·cases h
 ·cases h
theorem Scr.lt {ns:List Int}{S:Sto} (h:Scr ns S):0 < S.length:=by
 unfold Scr getL at h
 split at h
 ·rename_i q;exact (ag.mp q).1
 ·rename_i q;exact (ag.mp q).1
 ·cases h
 ·cases h
theorem bW {α:Type} (S:List α) (c:α):(S ++ [c])[S.length]? = some c:=by
 rw [aA (aj _)];simp
theorem Np {ρ:Rho}{S S1 S2:Sto}{a b:ME}{x y:Int} (ha:a ρ S=some (.int x,S1)) (hb:b ρ S1=some (.int y,S2)):m2 oLt a b ρ S=some (.bl (decide (x < y)),S2):=op2 ha hb rfl
theorem Nz {ρ:Rho}{S S1 S2:Sto}{a b:ME}{x y:Int} (ha:a ρ S=some (.int x,S1)) (hb:b ρ S1=some (.int y,S2)):m2 oGe a b ρ S=some (.bl (decide (y<=x)),S2):=op2 ha hb rfl
theorem Hi {S:Sto}{r:Nat}{us:List U} (h:getL S r=some us):gw S (.ref r)=none:=by
 unfold getL at h
 show (match S[r]? with
  | some (.dic kvs)=>some kvs
  | _=>none)=none
 split at h <;> rename_i q <;> first | (cases h;done) | (rw [q])
theorem GV {ρ:Rho}{S:Sto}{a:ME}{r:Nat}{us:List U} (ha:a ρ S=some (.ref r,S)) (hr:getL S r=some us):mFn bD (aa a af) ρ S=some (.int us.length,S):=
 fo ha (by simp only [bD,Hi hr,dS,hr,aT])
theorem NI {ρ:Rho}{S S1 S2:Sto}{a b:ME}{n:Nat}{us:List U}{z:Int}{u:U} (ha:a ρ S=some (.ref n,S1)) (hb:b ρ S1=some (.int z,S2)) (hn:getL S2 n=some us) (h:atI us z=some u):m2 oIx a b ρ S=some (u,S2):=op2 ha hb (by simp only [oIx,Hi hn,dS,hn,ai,h,aT])
theorem jK {α:Type}{us:List α}{k:Nat}{u:α} (h:us[k]? = some u):atI us (k:Int)=some u:=by
 have hk:k < us.length:=(ag.mp h).1
 simp [atI,ixN,hk]
 exact (ag.mp h).2
theorem Ga {ns:List Int}{S:Sto}{k:Nat} (h:Scr ns S) : ∃ z,iO [.ref 0,.int k] S=some (.int z,S):=by
 have hc:=of_eq (Np (ρ := [some (.ref 0),some (.int k)]) (S:=S) (a:=ab 1) (b:=mFn bD (aa (ab 0) af)) (var_eq rfl) (GV (var_eq rfl) h))
 rw [aw] at hc
 cases hb:decide ((k:Int) < ns.length) with
 | true=>
   rw [hb] at hc
   have hk:k < ns.length:=by simpa using hb
   have e:=NI (ρ := [some (.ref 0),some (.int k)]) (S:=S) (a:=ab 0) (b:=ab 1) (var_eq rfl) (var_eq rfl) h (jK (k:=k) (u := .int ns[k]) (by simp [hk]))
   refine⟨ns[k],cw (ρ := [some (.ref 0),some (.int k)]) rfl ?_⟩
   show gv [some (.ref 0),some (.int k)] S=_
   unfold gv aZ
   rw [qP hc,cx e]
 | false=>
   rw [hb] at hc
   refine⟨0,cw (ρ := [some (.ref 0),some (.int k)]) rfl ?_⟩
   show gv [some (.ref 0),some (.int k)] S=_
   exact (aS ((ix hc).trans rfl)).trans (cx c_i)
theorem Hf {ρ:Rho}{S:Sto}:m2 uW (mC (.int 10)) (mC (.int 18)) ρ S=some (.int (10 ^ (18:Int).toNat),S):=op2 rfl rfl (if_pos ⟨by decide,by decide,by decide⟩)
theorem Dq {ns:List Int}{S:Sto}{k:Nat} (h:Scr ns S) : ∃ S',jO [.ref 0,.int k] S=some (.ref S.length,S')/\Ex S S'/\m7 S.length S':=by
 obtain⟨z,e1⟩:=Ga (k:=k) h
 have e2:bI 2 (mFn iO (aa (ab 0) (aa (ab 1) af))) [some (.ref 0),some (.int k),none] S=some (.nx,[some (.ref 0),some (.int k),some (.int z)],S):=bP (cN (var_eq rfl) (var_eq rfl) e1)
 have hc:=of_eq (Nz (ρ := [some (.ref 0),some (.int k),some (.int z)]) (S:=S) (a:=ab 2) (var_eq rfl) Hf)
 generalize hp:(10:Int) ^ (18:Int).toNat=p at hc
 have hpe : ∀ ρ (S:Sto),m2 uW (mC (.int 10)) (mC (.int 18)) ρ S=some (.int p,S):=fun ρ S=>by rw [Hf,hp]
 cases hb:decide (p<=z) with
 | true=>
   rw [hb] at hc
   have e3:=xB (ρ := [some (.ref 0),some (.int k),some (.int z)]) (S:=S) (a:=m2 uF (ab 2) (m2 uW (mC (.int 10)) (mC (.int 18)))) (b:=mC (.bl true)) (Hl (var_eq rfl) (hpe _ _)) rfl
   refine⟨_,cw (ρ := [some (.ref 0),some (.int k),some (.int z)]) rfl ?_,Ex.push _ _,⟨z - p,true,bW _ _⟩⟩
   show jH [some (.ref 0),some (.int k),none] S=_
   refine (aS e2).trans ?_
   unfold aZ
   rw [qP hc,cx e3]
 | false=>
   rw [hb] at hc
   have e3:=xB (ρ := [some (.ref 0),some (.int k),some (.int z)]) (S:=S) (a:=m2 oMod (ab 2) (mC (.int 2147483647))) (b:=mC (.bl false)) (Hg (var_eq rfl) c_i (by decide)) rfl
   refine⟨_,cw (ρ := [some (.ref 0),some (.int k),some (.int z)]) rfl ?_,Ex.push _ _,⟨z % 2147483647,false,bW _ _⟩⟩
   show jH [some (.ref 0),some (.int k),none] S=_
   exact (aS e2).trans ((aS ((ix hc).trans rfl)).trans (cx e3))
theorem xD {i n:Nat}{b:MS} (us:List U) (P:Nat->Rho->Sto->Prop) (hl : ∀ k ρ S,P k ρ S->getL S n=some us)
  (st : ∀ (k:Nat) (u:U) (ρ:Rho) (S:Sto),us[k]? = some u->P k ρ S -> ∃ ρ' S',b (ρ.set i (some u)) S=some (.nx,ρ',S')/\P (k+1) ρ' S') :
  ∀ (f k:Nat) (ρ:Rho) (S:Sto),k<=us.length->us.length - k < f->P k ρ S -> ∃ ρ' S',forL i b n f k ρ S=some (.nx,ρ',S')/\P us.length ρ' S'
 | 0,k,ρ,S,h1,h2,_=>by omega
 | f+1,k,ρ,S,h1,h2,hp=>by
   unfold forL
   rw [hl k ρ S hp]
   simp only [ai]
   by_cases hk:k < us.length
   ·have hu:us[k]? = some us[k]:=by simp [hk]
    obtain⟨ρ1,S1,e1,p1⟩:=st k us[k] ρ S hu hp
    obtain⟨ρ2,S2,e2,p2⟩:=xD us P hl st f (k+1) ρ1 S1 (by assumption) (by omega) p1
    refine⟨ρ2,S2,?_,p2⟩
    simp only [hu,aft,e1,e2]
   ·have:k=us.length:=by omega
    subst this
    exact⟨ρ,S,by simp,hp⟩
theorem ux {i n:Nat}{b:MS}{e:ME}{ρ:Rho}{S S1:Sto}{us:List U} (he:e ρ S=some (.ref n,S1)) (hu:us.length < 100000) (P:Nat->Rho->Sto->Prop) (h0:P 0 ρ S1) (hl : ∀ k ρ S,P k ρ S->getL S n=some us)
  (st : ∀ (k:Nat) (u:U) (ρ:Rho) (S:Sto),us[k]? = some u->P k ρ S -> ∃ ρ' S',b (ρ.set i (some u)) S=some (.nx,ρ',S')/\P (k+1) ρ' S') :
  ∃ ρ' S',dF i (dq e) b ρ S=some (.nx,ρ',S')/\P us.length ρ' S':=by
 obtain⟨ρ',S',e1,p1⟩:=xD us P hl st fuel 0 ρ S1 (dj _) (by unfold fuel;assumption) h0
 refine⟨ρ',S',?_,p1⟩
 unfold dF dq
 rw [he]
 simp only [aI,hl 0 ρ S1 h0,aT]
 exact e1
theorem vK {i:Nat}{b:MS}{e:ME}{ρ:Rho}{S S1:Sto}{us:List U} (he:e ρ S=some (.tup us,S1)) (P:Nat->Rho->Sto->Prop) (h0:P 0 ρ S1)
  (st : ∀ (k:Nat) (u:U) (ρ:Rho) (S:Sto),us[k]? = some u->P k ρ S -> ∃ ρ' S',b (ρ.set i (some u)) S=some (.nx,ρ',S')/\P (k+1) ρ' S') :
  ∃ ρ' S',dF i (dq e) b ρ S=some (.nx,ρ',S')/\P us.length ρ' S':=by
 obtain⟨ρ',S',e1,p1⟩:=ot (i:=i) (b:=b) P us 0 ρ S1 h0 fun j u ρ S hj hp=>by simpa using st j u ρ S hj (by simpa using hp)
 rw [ei] at p1
 refine⟨ρ',S',?_,p1⟩
 unfold dF dq
 rw [he]
 exact e1
noncomputable def Av (T:Nat->Nat->Nat) (w:List Nat):Nat:=w.foldl T 0
noncomputable def plc (T:Nat->Nat->Nat) (w:List Nat):List Nat:=(ar (w.length+1)).map fun k=>Av T (w.take k)
theorem lM {l:List Nat}{k:Nat}{u:U} (h:(aq l)[k]? = some u) : ∃ x,l[k]? = some x/\u = .int x:=by
 obtain⟨hk,rfl⟩:=qZ h
 exact⟨oF l k,by simp [oF,hk],rfl⟩
end
end _W
end
section
namespace _W
open _L _G
section
theorem jf : ∀ (a b:List Nat),bV (a.map fun (x:Nat)=>eS x) (b.map fun (x:Nat)=>eS x)=decide (a=b)
 | [],[]=>by simp [bV]
 | [],_::_=>by simp [bV]
 | _::_,[]=>by simp [bV]
 | x::a,y::b=>by
   simp only [bA,bV,cP,jf a b]
   by_cases h:x=y
   ·subst h;simp
   ·have : ¬ ((x:Int)=y):=by omega
    simp [h,this]
theorem oz {S:Sto}{f:Nat}{l:List Nat}:toD S (f+2) (.tup (aq l))=some (.tuple (l.map fun (x:Nat)=>eS x)):=by
 show (dw (toD S (f+1)) (aq l)).map _=_
 rw [oP l];rfl
theorem GB {S:Sto}{a b:List Nat}:_G.eqU S (.tup (aq a)) (.tup (aq b))=some (decide (a=b)):=by
 unfold _G.eqU
 rw [oz (f:=38),oz (f:=38)]
 simp only [ai,aT,cP,jf]
theorem isT {ρ:Rho}{S S1:Sto}{a:ME}{us:List U} (ha:a ρ S=some (.tup us,S1)):m1 (lU "tuple") a ρ S=some (.bl true,S1):=by
 simp only [m1,ha,aI,lU,tyU,aT]
 rfl
theorem not_eq {ρ:Rho}{S S1:Sto}{c:MT}{b:Bool} (h:c ρ S=some (b,S1)):eG c ρ S=some (!b,S1):=by simp only [eG,h,aI]
theorem Fw {n m t:Nat}{ρ:Rho}{S S0:Sto}{a:ME}{sv mv:ME} (ha:a ρ S=some (.int t,S0)) (ht:t < 1000) (h:m7 n S0) (hm:0 < m) (hm2:m < 1000)
  (hs : ∀ z (S:Sto),sv (ρ ++ [z]) S=some (.ref n,S)) (hv : ∀ z (S:Sto),mv (ρ ++ [z]) S=some (.int m,S)) :
  ∃ w S',mFn b9 (aa (bR (iR1 (aa a af)) cTT (mFn bu (aa sv (aa mv af)))) af) ρ S=some (.tup (aq w),S')/\Stp n S0 S'/\(∀ x∈w,x < m)/\w.length=t:=by
 obtain⟨ys,S1,e1,⟨w,rfl,q1,q2⟩,q3⟩:=uo (e:=mFn bu (aa sv (aa mv af))) ha (by unfold big;exact ao (by assumption) (by decide)) (fun acc S' => ∃ w,acc=aq w/\(∀ x∈w,x < m)/\Stp n S0 S') ⟨[],rfl,by simp,Stp.refl h⟩ (by
  rintro k acc S' hk hl ⟨w,rfl,q1,q2⟩
  obtain⟨r,S2,e2,h2,h3⟩:=j5 (m:=m) q2.st hm hm2
  refine⟨_,S2,cN (hs _ _) (hv _ _) e2,w ++ [r],by simp [aq],fun x hx => ?_,q2.trans h3⟩
  rcases bq.mp hx with hx | hx
  ·exact q1 x hx
  ·simp at hx;omega)
 exact⟨w,_,e1,q2.step (Ex.push _ _),q1,by simpa [aq] using q3⟩
theorem Fq {ρ:Rho}{S S1 S2 S3:Sto}{a b c:ME}{x y z:U} (ha:a ρ S=some (x,S1)) (hb:b ρ S1=some (y,S2)) (hc:c ρ S2=some (z,S3)):cQ (aa a (aa b (aa c af))) ρ S=some (.ref S3.length,S3 ++ [Cell.lst [x,y,z]]):=by
 have hq:3<=big:=by decide
 simp [cQ,aa,af,aI,ha,hb,hc,hq]
theorem Cn {ns:List Int}{S:Sto}{ρ:Rho}{c:Nat} (h:Scr ns S) (hv:ρ[0]? = some (some (.ref 0))) (hl:ns.length<=63) : ∃ q:Nat,q < 1000/\mFn xq (aa (mC (.int 1)) (aa (mFn wX (aa (mFn bD (aa (ab 0) af)) (aa (mC (.int c)) af))) af)) ρ S=some (.int q,S):=by
 have e1:mFn wX (aa (mFn bD (aa (ab 0) af)) (aa (mC (.int c)) af)) ρ S=some (.int (if (c:Int) < (ns.map U.int).length then (c:Int) else (ns.map U.int).length),S):=cN (GV (var_eq hv) h) c_i rfl
 have e2:=cN (f:=xq) (a:=mC (.int 1)) (S:=S) (ρ:=ρ) c_i e1 rfl
 rw [aw] at e2
 refine⟨max 1 (min ns.length c),Nat.max_lt.mpr ⟨by decide,aN (aL (Nat.min_le_left _ _) hl) (by decide)⟩,?_⟩
 rw [e2]
 show some (U.int (if (if (c:Int) < ns.length then (c:Int) else ns.length) > 1 then (if (c:Int) < ns.length then (c:Int) else ns.length) else 1),S)=_
 have:(if (if (c:Int) < ns.length then (c:Int) else ns.length) > 1 then (if (c:Int) < ns.length then (c:Int) else ns.length) else 1)=((max 1 (min ns.length c):Nat):Int):=by
  by_cases h:(c:Int) < ns.length
  ·rw [Nat.min_eq_right (aQ (fP.mp h)),if_pos h]
   split
   ·rename_i h1;rw [Nat.max_eq_right (aQ (fP.mp h1))]
   ·rename_i h1;rw [Nat.max_eq_left (cf fun z=>h1 (fP.mpr z))];rfl
  ·rw [Nat.min_eq_left (cf fun z=>h (fP.mpr z)),if_neg h]
   split
   ·rename_i h1;rw [Nat.max_eq_right (aQ (fP.mp h1))]
   ·rename_i h1;rw [Nat.max_eq_left (cf fun z=>h1 (fP.mpr z))];rfl
 rw [this]
theorem iA {ρ:Rho}{S S0:Sto}{a e:ME}{n:Nat} (ha:a ρ S=some (.int n,S0)) (hn:n < big) (g:Nat->U) (P:Nat->Sto->Prop) (h0:P 0 S0)
  (hs : ∀ (j:Nat) (S:Sto),j < n->P j S -> ∃ S',e (ρ ++ [some (.int j)]) S=some (g j,S')/\P (j+1) S') :
  ∃ S',bR (iR1 (aa a af)) cTT e ρ S=some (.ref S'.length,S' ++ [.lst ((ar n).map g)])/\P n S':=by
 obtain⟨S1,e1,h1⟩:=jb (e:=e) (ρ:=ρ) g P (bo 0 n) 0 [] S0 h0 fun j u S hj hp=>by
  have hl:j < n:=by have:=(ag.mp hj).1;simpa [bo] using this
  have hu:(bo 0 n)[j]? = some (.int j):=by simp [bo,hl]
  rw [hu] at hj;cases hj
  simpa using hs j S hl (by simpa using hp)
 have hlen:(bo 0 n).length=n:=by simp [bo]
 simp only [hlen,ei,dM] at e1 h1
 exact⟨S1,kK (mO ha hn) e1 (by rw [aw,ba];exact hn),h1⟩
theorem tm {ρ:Rho}{S S1 S2:Sto}{a b:ME}{x y:Nat} (ha:a ρ S=some (.int x,S1)) (hb:b ρ S1=some (.int y,S2)):m2 oEq a b ρ S=some (.bl (decide (x=y)),S2):=by
 rw [CT ha hb]
 congr 3
 by_cases h:x=y
 ·subst h;simp
 ·have : ¬ ((x:Int)=y):=by omega
  simp [h,this]
theorem EO {ρ:Rho}{S S1 S2:Sto}{a b:ME}{x y:Nat} (ha:a ρ S=some (.int x,S1)) (hb:b ρ S1=some (.int y,S2)):m2 oNe a b ρ S=some (.bl (!decide (x=y)),S2):=by
 rw [op2 (f:=oNe) ha hb rfl]
 show some (U.bl (!((x:Int) == y)),S2)=_
 congr 4
 by_cases h:x=y
 ·subst h;simp
 ·have : ¬ ((x:Int)=y):=by omega
  simp [h,this]
theorem vu {α:Type} (f:α->Bool) : ∀ (l:List α),dw iE (l.map fun x=>U.bl (f x))=some (l.map f)
 | []=>rfl
 | x::l=>by
   show (iE (.bl (f x))).bind _=_
   simp only [iE,ai]
   rw [vu f l];rfl
theorem Hm {ρ:Rho}{S S1:Sto}{a:ME}{α:Type}{l:List α}{f:α->Bool} (ha:a ρ S=some (.ref S1.length,S1 ++ [Cell.lst (l.map fun x=>U.bl (f x))])):mFn lr (aa a af) ρ S=some (.bl (l.all f),S1 ++ [Cell.lst (l.map fun x=>U.bl (f x))]):=by
 refine fo ha ?_
 simp only [lr,getL,bW,ai,vu,aT]
 rw [List.all_map];rfl
theorem Ld {ρ:Rho}{S S1:Sto}{a:ME}{α:Type}{l:List α}{f:α->Bool} (ha:a ρ S=some (.ref S1.length,S1 ++ [Cell.lst (l.map fun x=>U.bl (f x))])):mFn yN (aa a af) ρ S=some (.bl (l.any f),S1 ++ [Cell.lst (l.map fun x=>U.bl (f x))]):=by
 refine fo ha ?_
 simp only [yN,getL,bW,ai,vu,aT]
 rw [List.any_map];rfl
end
end _W
end
section
namespace _W
open _L _G
section
theorem xC {i:Nat}{b:MS} (p:Nat->Bool) (u:U) (P:Nat->Rho->Sto->Prop) (R:Sto->Prop) : ∀ (us:List U) (k:Nat) (ρ:Rho) (S:Sto),P k ρ S ->
  (∀ (j:Nat) (v:U) (ρ:Rho) (S:Sto),us[j]? = some v->P (k+j) ρ S->(p (k+j)=true -> ∃ ρ' S',b (ρ.set i (some v)) S=some (.nx,ρ',S')/\P (k+j+1) ρ' S')/\(p (k+j)=false -> ∃ ρ' S',b (ρ.set i (some v)) S=some (.rt u,ρ',S')/\R S')) ->
  ((∀ j,j < us.length->p (k+j)=true) /\ ∃ ρ' S',lA i b us ρ S=some (.nx,ρ',S')/\P (k+us.length) ρ' S')\/((∃ j,j < us.length/\p (k+j)=false) /\ ∃ ρ' S',lA i b us ρ S=some (.rt u,ρ',S')/\R S')
 | [],k,ρ,S,h,_ => .inl ⟨fun j hj=>by simp at hj,ρ,S,rfl,h⟩
 | v::us,k,ρ,S,h,st=>by
   obtain⟨ht,hf⟩:=st 0 v ρ S rfl h
   rw [nZ] at ht hf
   cases hp:p k with
   | false=>
     obtain⟨ρ1,S1,e1,r1⟩:=hf hp
     refine .inr ⟨⟨0,by simp,by simpa using hp⟩,ρ1,S1,?_,r1⟩
     show aft (b (ρ.set i (some v)) S) (lA i b us)=_
     rw [e1];rfl
   | true=>
     obtain⟨ρ1,S1,e1,h1⟩:=ht hp
     have e0:lA i b (v::us) ρ S=lA i b us ρ1 S1:=by
      show aft (b (ρ.set i (some v)) S) (lA i b us)=_
      rw [e1];rfl
     rw [e0]
     rcases xC p u P R us (k+1) ρ1 S1 h1 (fun j w ρ S hj hq=>by
      have:=st (j+1) w ρ S (by simpa using hj) (by rw [show k+(j+1)=k+1+j by omega];exact hq)
      rw [show k+(j+1)+1=k+1+j+1 by omega,show k+(j+1)=k+1+j by omega] at this
      exact this) with⟨hall,ρ2,S2,e2,h2⟩ | ⟨⟨j,hj,hpj⟩,ρ2,S2,e2,h2⟩
     ·refine .inl ⟨fun j hj => ?_,ρ2,S2,e2,by rw [show k+(v::us).length=k+1+us.length by simp;omega];exact h2⟩
      cases j with
      | zero=>simpa using hp
      | succ j=>have:=hall j (by simpa using hj);rwa [show k+1+j=k+(j+1) by omega] at this
     ·exact .inr ⟨⟨j+1,by simpa using hj,by rwa [show k+1+j=k+(j+1) by omega] at hpj⟩,ρ2,S2,e2,h2⟩
theorem Bs {ρ:Rho}{S:Sto}{i:Nat}{a:ME}{n:Nat}{b:MS} (ha:a ρ S=some (.int n,S)) (h:n < big) (p:Nat->Bool) (u:U) (P:Nat->Rho->Sto->Prop) (R:Sto->Prop) (h0:P 0 ρ S)
  (st : ∀ (j:Nat) (ρ:Rho) (S:Sto),j < n->P j ρ S->(p j=true -> ∃ ρ' S',b (ρ.set i (some (.int j))) S=some (.nx,ρ',S')/\P (j+1) ρ' S')/\(p j=false -> ∃ ρ' S',b (ρ.set i (some (.int j))) S=some (.rt u,ρ',S')/\R S')) :
  ((∀ j,j < n->p j=true) /\ ∃ ρ' S',dF i (iR1 (aa a af)) b ρ S=some (.nx,ρ',S')/\P n ρ' S')\/((∃ j,j < n/\p j=false) /\ ∃ ρ' S',dF i (iR1 (aa a af)) b ρ S=some (.rt u,ρ',S')/\R S'):=by
 rw [wY ha h]
 have hlen:(bo 0 n).length=n:=by simp [bo]
 have key:=xC (i:=i) (b:=b) p u P R (bo 0 n) 0 ρ S h0 fun j v ρ S hj hp=>by
  have hl:j < n:=by have:=(ag.mp hj).1;simpa [bo] using this
  have hu:(bo 0 n)[j]? = some (.int j):=by simp [bo,hl]
  rw [hu] at hj;cases hj
  simpa using st j ρ S hl (by simpa using hp)
 simp only [hlen,ei] at key
 exact key
theorem Do {a b:MS}{ρ ρ1:Rho}{S S1:Sto}{u:U} (h:a ρ S=some (.rt u,ρ1,S1)):aZ a b ρ S=some (.rt u,ρ1,S1):=by simp only [aZ,h]
theorem xj {m:Nat}{T:Nat->Nat->Nat}{i:Nat}:iw m T i = .tup (aq ((ar m).map (T i))):=by
 unfold iw yU aq
 rw [fK];rfl
noncomputable def unT (m:Nat) (T:Nat->Nat->Nat) (i:Nat):Nat:=((ar m).map (T i)).idxOf 0
theorem oB {m:Nat}{T:Nat->Nat->Nat} (g:Grp m T) {i:Nat} (hi:i < m):unT m T i < m/\T i (unT m T i)=0/\T (unT m T i) i=0 /\ ∀ k,k < m->T i k=0->k=unT m T i:=by
 obtain⟨j,hj,h1,h2,h3⟩:=g.inv1 hi
 have e:unT m T i=j:=by
  unfold unT
  rw [EH,idx_map (k:=j) m 0 (dj _) (by omega) h1 fun k _ hk h0=>by have:=h3 k (by exact bK (by assumption) (by assumption)) h0;omega]
  omega
 rw [e];exact⟨hj,h1,h2,h3⟩
theorem IK {m:Nat}{T:Nat->Nat->Nat} (g:Grp m T) {i:Nat} (hi:i < m):0∈(ar m).map (T i):=by
 obtain⟨h1,h2,_⟩:=oB g hi
 exact aE.mpr ⟨unT m T i,bb.mpr h1,h2⟩
theorem NG {ρ:Rho}{S S1:Sto}{a:ME}{u:U} (ha:a ρ S=some (u,S1)):mY (aa a af) ρ S=some (.tup [u],S1):=by
 have hb1:1<=big:=by decide
 simp [mY,nv ha,aI,hb1]
theorem Ma {ρ:Rho}{S S1 S2:Sto}{a b:ME}{x y:Bool} (ha:a ρ S=some (.bl x,S1)) (hb:b ρ S1=some (.bl y,S2)):m2 oNe a b ρ S=some (.bl (!(x == y)),S2):=op2 ha hb rfl
theorem oH {S:Sto}{f n:Nat}{l:List Nat} (h:S[n]? = some (Cell.lst (aq l))):toD S (f+2) (.ref n)=some (.list (l.map fun (x:Nat)=>eS x)):=by
 show (getL S n).bind _=_
 have:getL S n=some (aq l):=by unfold getL;rw [h]
 rw [this]
 simp only [ai]
 rw [oP l];rfl
theorem eq_list {ρ:Rho}{S S1 S2:Sto}{a b:ME}{n k:Nat}{x y:List Nat} (ha:a ρ S=some (.ref n,S1)) (hb:b ρ S1=some (.ref k,S2)) (hn:S2[n]? = some (Cell.lst (aq x))) (hk:S2[k]? = some (Cell.lst (aq y))):m2 oEq a b ρ S=some (.bl (decide (x=y)),S2):=by
 refine op2 ha hb ?_
 unfold oEq _G.eqU
 rw [oH (f:=38) hn,oH (f:=38) hk]
 simp only [ai,aT,cP,jf]
theorem vD {ρ:Rho}{S S1 S2:Sto}{a b:ME}{n k:Nat}{x y:List Nat} (ha:a ρ S=some (.ref n,S1)) (hb:b ρ S1=some (.ref k,S2)) (hn:S2[n]? = some (Cell.lst (aq x))) (hk:S2[k]? = some (Cell.lst (aq y))):m2 oNe a b ρ S=some (.bl (!decide (x=y)),S2):=by
 refine op2 ha hb ?_
 unfold oNe _G.eqU
 rw [oH (f:=38) hn,oH (f:=38) hk]
 simp only [ai,aT,cP,jf]
theorem BS {ρ:Rho}{S S1 S2:Sto}{a b:ME}{x y:List Nat} (ha:a ρ S=some (.tup (aq x),S1)) (hb:b ρ S1=some (.tup (aq y),S2)):m2 oEq a b ρ S=some (.bl (decide (x=y)),S2):=
 op2 ha hb (by simp only [oEq,GB,aT])
theorem DZ {ρ:Rho}{S S1:Sto}{a b:ME}{r:Res U} (ha:a ρ S=some (.bl true,S1)) (hb:b ρ S1=r):jX a b ρ S=r:=by
 simp only [jX,ha,aI,hb]
theorem or_false {ρ:Rho}{S S1 S2:Sto}{a b:MT} (ha:a ρ S=some (false,S1)) (hb:b ρ S1=some (false,S2)):cOr a b ρ S=some (false,S2):=by
 rw [or_eq ha hb (by intro z;cases z)];rfl
end
end _W
end
section
namespace _W
open _L _G
section
noncomputable def d5 (l:List Nat):List Int:=l.map fun (x:Nat)=>(x:Int)
noncomputable def srt (l:List Nat):List Nat:=(mx (d5 l)).map pL
theorem qD (l:List Nat):(mx (d5 l)).map U.int=aq (srt l):=by
 unfold aq srt
 rw [fK]
 apply de
 intro i hi
 have hm:=(iy (d5 l)).mem_iff.mp hi
 obtain⟨x,_,rfl⟩:=aE.mp hm
 rfl
theorem qx : ∀ l:List Nat,(d5 l).map pL=l
 | []=>rfl
 | x::l=>by
   show pL (x:Int)::(d5 l).map pL=x::l
   rw [qx l];rfl
theorem oE (l:List Nat):(srt l).Perm l:=by
 have h:=(iy (d5 l)).map pL
 rw [qx] at h
 exact h
theorem pf {a b:List Nat} (p:a.Perm b):srt a=srt b:=by
 unfold srt
 rw [ow ((iy (d5 a)).trans (p.map _)) (rQ _)]
 rfl
theorem ek {l:List Nat}{x:Nat}:x∈srt l↔x∈l:=(oE l).mem_iff
theorem qg (l:List Nat):(srt l).length=l.length:=(oE l).length_eq
theorem nH : ∀ (l:List Nat),dw oj (aq l)=some (d5 l)
 | []=>rfl
 | x::l=>by
   show (oj (.int x)).bind _=_
   simp only [oj,ai]
   rw [show List.map (fun (x:Nat)=>U.int x) l=aq l from rfl,nH l]
   rfl
noncomputable def fC (l:List Nat):List (_L.Key×U):=l.map fun (x:Nat)=>(eM (x:Int),U.bl true)
theorem xy {S:Sto}{x:U}{l:List Nat} (h:tP S x=some (d5 l)) (hl:l.length < 64):eR [x] S=some (.ref S.length,S ++ [.lst (aq (srt l))]):=by
 have ok:yY (d5 l).length:=by unfold d5;rw [aw];exact hl
 simp only [eR,h,ai,ok,if_true,qD]
theorem wJ {ρ:Rho}{S S1:Sto}{a:ME}{n:Nat}{l:List Nat} (ha:a ρ S=some (.ref n,S1)) (hn:S1[n]? = some (Cell.lst (aq l))) (hl:l.length < 64):mFn eR (aa a af) ρ S=some (.ref S1.length,S1 ++ [.lst (aq (srt l))]):=
 fo ha (xy (by simp only [tP,gw,hn,dS,getL,ai,nH]) hl)
noncomputable def pR (m:List (_L.Key×U)) (k:_L.Key):Bool:=(jA m k).isSome
theorem oq {m:List (_L.Key×U)}{k:_L.Key}:pR m k=true ↔ ∃ kv∈m,kv.1=k:=by
 unfold pR jA
 rw [qo,List.find?_isSome]
 simp
theorem zV {ρ:Rho}{S S1 S2:Sto}{a b:ME}{x:Int}{r:Nat}{kvs:List (_L.Key×U)} (ha:a ρ S=some (.int x,S1)) (hb:b ρ S1=some (.ref r,S2)) (hr:S2[r]? = some (Cell.dic kvs)):cOf (m2 eJ a b) ρ S=some (!pR kvs (.inl x),S2):=
 of_eq (op2 ha hb (by simp only [eJ,gw,hr,keyOf,aT,pR]))
theorem NY {ρ:Rho}{S:Sto}{o i:ME}{r:Nat}{x:Int}{kvs:List (_L.Key×U)} (ho:o ρ S=some (.ref r,S)) (hi:i ρ S=some (.int x,S)) (hr:S[r]? = some (Cell.dic kvs)) (hl:kvs.length < big):eF o i (mC (.bl true)) ρ S=some (.nx,ρ,S.set r (.dic (j0 kvs (.inl x) (.bl true)))):=by
 simp only [eF,mC,aI,ho,hi,hr,keyOf,ai,hl,if_true]
section
variable {m:Nat}{T:Nat->Nat->Nat}{t n:Nat}
end
end
end _W
end
section
namespace _W
open _L _G
section
open PySem in
open PySem in
open PySem in
inductive Pl:sj->Prop where
 | non:Pl .none
 | bl (b:Bool):Pl (.bool b)
 | int (i:Int):i.natAbs < 10 ^ 12->Pl (.int i)
 | lst (xs:List sj):(∀ x∈xs,Pl x)->Pl (.list xs)
 | tup (xs:List sj):(∀ x∈xs,Pl x)->Pl (.tuple xs)
open PySem in
open PySem in
open PySem in
open PySem in
open PySem in
open PySem in
open PySem in
open PySem in
open PySem in
open PySem in
noncomputable def pT (l:List Nat):sj := .tuple (l.map fun (x:Nat)=>eS x)
open PySem in
open PySem in
theorem zG {f:MF}{ρ:Rho}{S S1 S2 S3:Sto}{a b c:ME}{x y z:U}{r:Res U} (ha:a ρ S=some (x,S1)) (hb:b ρ S1=some (y,S2)) (hc:c ρ S2=some (z,S3)) (h:f [x,y,z] S3=r):mFn f (aa a (aa b (aa c af))) ρ S=r:=by
 simp only [mFn,aa,af,ha,hb,hc,aI,h]
end
end _W
end
section
namespace _W
open _L _G
section
theorem z3 {c:MT}{b:MS} (P:Nat->Rho->Sto->Prop) (Q:Rho->Sto->Prop)
  (hc : ∀ μ ρ S,P μ ρ S -> ∃ k S1,c ρ S=some (k,S1)/\(k=false->Q ρ S1)/\(k=true -> ∃ ρ' S' μ',μ' < μ/\b ρ S1=some (.nx,ρ',S')/\P μ' ρ' S')) :
  ∀ (f μ:Nat) (ρ:Rho) (S:Sto),μ < f->P μ ρ S -> ∃ ρ' S',whl c b f ρ S=some (.nx,ρ',S')/\Q ρ' S'
 | 0,μ,ρ,S,h,_=>by omega
 | f+1,μ,ρ,S,h,hp=>by
   obtain⟨k,S1,e,q1,q2⟩:=hc μ ρ S hp
   unfold whl
   rw [e]
   simp only [aI]
   cases k with
   | false=>exact⟨ρ,S1,by simp,q1 rfl⟩
   | true=>
     obtain⟨ρ1,S2,μ1,hl,e1,p1⟩:=q2 rfl
     obtain⟨ρ2,S3,e2,q⟩:=z3 P Q hc f μ1 ρ1 S2 (by omega) p1
     exact⟨ρ2,S3,by simp only [if_true,aft,e1,e2],q⟩
section
variable {S x:Sto}{c e c' e':Cell}
theorem h0:(S ++ [c,e]++x)[S.length]? = some c:=by rw [bh,aA (aj _)];simp
theorem h1:(S ++ [c,e]++x)[S.length+1]? = some e:=by rw [bh,aA (by exact dO _)];simp
theorem t0:(S ++ [c,e]++x).set S.length c'=S ++ [c',e]++x:=by
 rw [bh,fX _ _ (aj _),En,bh];rfl
theorem t1:(S ++ [c,e]++x).set (S.length+1) e'=S ++ [c,e']++x:=by
 rw [bh,fX _ _ (by exact dO _),show S.length+1 - S.length=1 by omega,bh];rfl
end
theorem xH {l:List Nat}{x:Nat}:pR (fC l) (.inl (x:Int))=decide (x∈l):=by
 have:pR (fC l) (.inl (x:Int))=true↔x∈l:=by
  rw [oq]
  unfold fC
  constructor
  ·rintro ⟨kv,hm,e⟩
   obtain⟨y,hy,rfl⟩:=aE.mp hm
   have e':(y:Int)=x:=sk e
   have:y=x:=by omega
   rw [<- this];exact hy
  ·intro h
   exact⟨_,aE.mpr ⟨x,h,rfl⟩,rfl⟩
 by_cases h:x∈l
 ·rw [this.mpr h];simp [h]
 ·cases q:pR (fC l) (.inl (x:Int)) with
  | true=>exact absurd (this.mp q) h
  | false=>simp [h]
theorem Gz {l:List Nat}{x:Nat} (h:x∉l):j0 (fC l) (.inl (x:Int)) (.bl true)=fC (l ++ [x]):=by
 unfold j0
 rw [if_neg]
 ·simp [fC]
 ·intro z
  obtain⟨kv,hm,e⟩:=ck.mp z
  have:pR (fC l) (.inl (x:Int))=true:=oq.mpr ⟨kv,hm,of_decide_eq_true e⟩
  rw [xH] at this
  exact h (of_decide_eq_true this)
theorem Dr (l:List Nat):(fC l).length=l.length:=by simp [fC]
theorem F6 {ρ:Rho}{S:Sto}{o:ME}{r:Nat}{l:List Nat}{h:Nat} (ho:o ρ S=some (.ref r,S)) (hr:S[r]? = some (Cell.lst (aq (l ++ [h])))):mML uR o af ρ S=some (.int h,S.set r (Cell.lst (aq l))):=by
 simp only [mML,ho,aI,getL,hr,ai,af,uR]
 simp [aq,List.dropLast_concat]
inductive Rch (T:Nat->Nat->Nat) (ths:List Nat):Nat->Prop where
 | zero:Rch T ths 0
 | step {x y:Nat}:Rch T ths x->y∈ths->Rch T ths (T x y)
structure Dfs (m:Nat) (T:Nat->Nat->Nat) (ths:List Nat) (ks:List Nat) (C:Nat->Prop):Prop where
 nd:ks.Nodup
 lt : ∀ x∈ks,x < m
 z:0∈ks
 rc : ∀ x∈ks,Rch T ths x
 cl : ∀ x∈ks,C x \/ ∀ y∈ths,T x y∈ks
section
variable {m:Nat}{T:Nat->Nat->Nat}{ths ks st:List Nat}
theorem Dfs.all (d:Dfs m T ths ks fun _=>False) {x:Nat}:x∈ks↔Rch T ths x:=by
 refine⟨d.rc x,fun h => ?_⟩
 induction h with
 | zero=>exact d.z
 | step _ hy ih=>exact ((d.cl _ ih).resolve_left id) _ hy
theorem Dfs.len (d:Dfs m T ths ks C):ks.length<=m:=o6 m ks d.nd d.lt
theorem qh {a b:List Nat} (ha:a.Nodup) (hb:b.Nodup) (h : ∀ x,x∈a↔x∈b):a.Perm b:=(List.perm_ext_iff_of_nodup ha hb).mpr fun x=>h x
noncomputable def tryD (T:Nat->Nat->Nat) (h y:Nat) (p:List Nat×List Nat):List Nat×List Nat:=if T h y∈p.1 then p else (p.1 ++ [T h y],p.2 ++ [T h y])
structure Inn (m:Nat) (T:Nat->Nat->Nat) (ths:List Nat) (h k:Nat) (p:List Nat×List Nat) (μ:Nat):Prop where
 d:Dfs m T ths p.1 fun x=>x∈p.2\/x=h
 sub : ∀ x∈p.2,x∈p.1
 hk:h∈p.1
 hh : ∀ y∈ths.take k,T h y∈p.1
 ms:2*(m - p.1.length)+p.2.length<=μ
theorem Inn.try {h k μ y:Nat}{p:List Nat×List Nat} (g:Grp m T) (ht : ∀ x∈ths,x < m) (n:Inn m T ths h k p μ) (hy:ths[k]? = some y):Inn m T ths h (k+1) (tryD T h y p) μ:=by
 have hym:y∈ths:=dz hy
 have htk:ths.take (k+1)=ths.take k ++ [y]:=by rw [gd,hy];rfl
 unfold tryD
 split
 ·rename_i hin
  refine⟨n.d,n.sub,n.hk,fun z hz => ?_,n.ms⟩
  rw [htk] at hz
  rcases bq.mp hz with hz | hz
  ·exact n.hh z hz
  ·simp at hz;rw [hz];exact hin
 ·rename_i hin
  have nd:(p.1 ++ [T h y]).Nodup:=by
   rw [lD]
   exact⟨n.d.nd,by simp,fun a ha b hb=>by simp at hb;rintro rfl;exact hin (hb▸ha)⟩
  have hlt:T h y < m:=g.cl _ _ (n.d.lt h n.hk) (ht y hym)
  have lt : ∀ x∈p.1 ++ [T h y],x < m:=fun x hx=>by
   rcases bq.mp hx with hx | hx
   ·exact n.d.lt x hx
   ·simp at hx;omega
  refine⟨⟨nd,lt,bB _ n.d.z,fun x hx => ?_,fun x hx => ?_⟩,fun x hx => ?_,bB _ n.hk,fun z hz => ?_,?_⟩
  ·rcases bq.mp hx with hx | hx
   ·exact n.d.rc x hx
   ·simp at hx;rw [hx];exact .step (n.d.rc h n.hk) hym
  ·rcases bq.mp hx with hx | hx
   ·rcases n.d.cl x hx with (c | c) | c
    ·exact .inl (.inl (bB _ c))
    ·exact .inl (.inr c)
    ·exact .inr fun y hy=>bB _ (c y hy)
   ·exact .inl (.inl (aV _ hx))
  ·rcases bq.mp hx with hx | hx
   ·exact bB _ (n.sub x hx)
   ·exact aV _ hx
  ·rw [htk] at hz
   rcases bq.mp hz with hz | hz
   ·exact bB _ (n.hh z hz)
   ·simp at hz;rw [hz];exact aV _ (by simp)
  ·have:=o6 m _ nd lt
   have:=n.ms
   simp only [aX,dA,iq] at *
   omega
structure yO (m:Nat) (T:Nat->Nat->Nat) (ths ks st:List Nat) (μ:Nat):Prop where
 d:Dfs m T ths ks fun x=>x∈st
 sub : ∀ x∈st,x∈ks
 ms:2*(m - ks.length)+st.length<=μ
theorem yO.start (hm:0 < m):yO m T ths [0] [0] (2*m):=
 ⟨⟨by simp,by simpa using hm,by simp,fun x hx=>by simp at hx;rw [hx];exact .zero,fun x hx => .inl hx⟩,fun x hx=>hx,by simp;omega⟩
theorem yO.pop {h μ:Nat} (s:yO m T ths ks (st ++ [h]) (μ+1)):Inn m T ths h 0 (ks,st) μ:=
 ⟨⟨s.d.nd,s.d.lt,s.d.z,s.d.rc,fun x hx=>(s.d.cl x hx).imp (fun c=>by simpa using c) id⟩,fun x hx=>s.sub x (bB _ hx),s.sub h (by simp),by simp,by have:=s.ms;simp only [aX,dA,iq] at this;show 2*(m - ks.length)+st.length<=μ;exact gm (by assumption)⟩
theorem Inn.done {h μ:Nat}{p:List Nat×List Nat} (n:Inn m T ths h ths.length p μ):yO m T ths p.1 p.2 μ:=
 ⟨⟨n.d.nd,n.d.lt,n.d.z,n.d.rc,fun x hx=>by
  rcases n.d.cl x hx with (c | c) | c
  ·exact .inl c
  ·subst c;exact .inr fun y hy=>n.hh y (by rw [mU];exact hy)
  ·exact .inr c⟩,n.sub,n.ms⟩
end
end
end _W
end
section
namespace _W
open _L _G
section
section
variable {m:Nat}{T:Nat->Nat->Nat}{ths:List Nat}{S x:Sto}{v:U}
noncomputable def spR (m:Nat) (T:Nat->Nat->Nat) (v:U) (S:Sto) (r:List (Option U)):Rho := [some (tab m T),some v,some (.ref S.length),some (.ref (S.length+1))]++r
noncomputable def Wk (S:Sto) (v:U) (ths:List Nat):Prop:=v = .tup (aq ths) \/ ∃ r,v = .ref r/\S[r]? = some (.lst (aq ths))/\ths.length < 1000
noncomputable def DK:MT:=cOf (m2 oGt (mFn bD (aa (ab 3) af)) (mC (.int 0)))
theorem Inn.st_le {h k μ:Nat}{p:List Nat×List Nat} (n:Inn m T ths h k p μ) (hμ:μ < 1000) (hm:m < 64):p.1.length < big/\p.2.length < big:=by
 have:=n.ms
 have:=n.d.len
 unfold big
 omega
theorem E7 {α:Type} : ∀ {l:List α},l ≠ [] -> ∃ a b,l=a ++ [b]
 | l,h=>⟨l.dropLast,l.getLast h,(List.dropLast_concat_getLast h).symm⟩
theorem Mj {ρ:Rho}{S S1:Sto}{a:ME}{x:U} (ha:a ρ S=some (x,S1)):cQ (aa a af) ρ S=some (.ref S1.length,S1 ++ [Cell.lst [x]]):=by
 have hq:1<=big:=by decide
 simp [cQ,aa,af,aI,ha,hq]
end
end
end _W
end
section
namespace _W
open _L _G
section
noncomputable def tups (ls:List (List Nat)):List U:=ls.map fun l=>U.tup (aq l)
theorem pv {S:Sto}{f:Nat} : ∀ (ls:List (List Nat)),dw (toD S (f+2)) (tups ls)=some (ls.map pT)
 | []=>rfl
 | l::ls=>by
   show (toD S (f+2) (.tup (aq l))).bind _=_
   rw [oz]
   simp only [ai]
   have:=pv (S:=S) (f:=f) ls
   unfold tups at this
   rw [this]
   rfl
theorem xw {S:Sto}{n:Nat}{ls:List (List Nat)} (h:S[n]? = some (Cell.lst (tups ls))):toD S 40 (.ref n)=some (.list (ls.map pT)):=by
 show (getL S n).bind _=_
 unfold getL
 rw [h]
 simp only [ai]
 rw [pv (f:=37)]
 rfl
theorem qK : ∀ (a b:List (List Nat)),bV (a.map pT) (b.map pT)=decide (a=b)
 | [],[]=>by simp [bV]
 | [],_::_=>by simp [bV]
 | _::_,[]=>by simp [bV]
 | x::a,y::b=>by
   rw [bA,bA,bV,qK a b]
   unfold pT
   rw [cP,jf]
   by_cases h:x=y
   ·subst h;simp
   ·simp [h]
theorem F7 {ρ:Rho}{S S1 S2:Sto}{a b:ME}{n k:Nat}{x y:List (List Nat)} (ha:a ρ S=some (.ref n,S1)) (hb:b ρ S1=some (.ref k,S2)) (hn:S2[n]? = some (Cell.lst (tups x))) (hk:S2[k]? = some (Cell.lst (tups y))):m2 oEq a b ρ S=some (.bl (decide (x=y)),S2):=by
 refine op2 ha hb ?_
 simp only [oEq,_G.eqU,xw hn,xw hk,ai,aT,cP,qK]
open PySem in
structure Sml (ls:List (List Nat)):Prop where
 len:ls.length<=64
 each : ∀ l∈ls,l.length<=64
 lt : ∀ l∈ls,∀ x∈l,x < 1000
open PySem in
open PySem in
open PySem in
theorem F8 {l:List Nat}{x:Nat}:inV (.int x) (l.map fun (y:Nat)=>V.int y)=decide (x∈l):=by
 unfold inV
 rw [List.any_map]
 by_cases h:x∈l
 ·rw [decide_eq_true h,ck]
  exact⟨x,h,beq_self_eq_true (x:Int)⟩
 ·rw [decide_eq_false h,List.any_eq_false]
  intro y hy
  have q:y≠x:=fun e=>h (e▸hy)
  show ¬ (((y:Int) == (x:Int))=true)
  exact fun z=>q (Int.ofNat.inj (eq_of_beq z))
theorem t8 : ∀ (l:List Nat),dw g8 (aq l)=some (l.map fun (y:Nat)=>V.int y)
 | []=>rfl
 | x::l=>by
   show (g8 (.int x)).bind _=_
   simp only [g8,ai]
   have:=t8 l
   unfold aq at this
   rw [this];rfl
theorem Lr {S:Sto}{r:Nat}{us:List U} (h:S[r]? = some (Cell.lst us)):gw S (.ref r)=none:=by
 simp only [gw,h]
theorem add_l {ρ:Rho}{S S1 S2:Sto}{a b:ME}{n k:Nat}{x y:List Nat} (ha:a ρ S=some (.ref n,S1)) (hb:b ρ S1=some (.ref k,S2)) (hn:S2[n]? = some (Cell.lst (aq x))) (hk:S2[k]? = some (Cell.lst (aq y))) (hl:x.length+y.length<=big):m2 cZ a b ρ S=some (.ref S2.length,S2 ++ [.lst (aq (x++y))]):=by
 refine op2 ha hb ?_
 simp only [cZ,hn,hk]
 rw [if_pos (by rw [bZ,bZ];exact hl)]
 simp [aq]
noncomputable def sdF (r:Nat->List Nat):Nat->List (List Nat)×List Nat
 | 0=>([],[])
 | k+1=>if k∈(sdF r k).2 then sdF r k else ((sdF r k).1 ++ [srt (r k)],(sdF r k).2++r k)
theorem Dv {r:Nat->List Nat}{B:Nat} (hr : ∀ k,(r k).length<=B) : ∀ k,(sdF r k).1.length<=k/\(sdF r k).2.length<=k*B
 | 0=>by simp [sdF]
 | k+1=>by
   have:=Dv hr k
   have:=hr k
   unfold sdF
   rw [i3]
   split
   ·omega
   ·simp;omega
theorem iK {r:Nat->List Nat} : ∀ {k:Nat}{l:List Nat},l∈(sdF r k).1 -> ∃ i,i < k/\l=srt (r i)
 | 0,l,h=>by simp [sdF] at h
 | k+1,l,h=>by
   unfold sdF at h
   split at h
   ·obtain⟨i,hi,e⟩:=iK h;exact⟨i,by exact gg (by assumption),e⟩
   ·rcases bq.mp h with h | h
    ·obtain⟨i,hi,e⟩:=iK h;exact⟨i,by exact gg (by assumption),e⟩
    ·exact⟨k,by exact aj _,by simpa using h⟩
theorem Fb {r:Nat->List Nat}{m:Nat} (hm:m < 64) (hr : ∀ k,(r k).length<=64) (hl : ∀ k,k < m -> ∀ x∈r k,x < 1000):Sml (sdF r m).1:=by
 refine⟨by have:=(Dv hr m).1;omega,fun l h => ?_,fun l h x hx => ?_⟩
 ·obtain⟨i,_,rfl⟩:=iK h
  rw [qg];exact hr i
 ·obtain⟨i,hi,rfl⟩:=iK h
  exact hl i hi x (ek.mp hx)
noncomputable def putN (l:List Nat) (x:Nat):List Nat:=if x∈l then l else l ++ [x]
theorem BL {l:List Nat}{x y:Nat}:y∈putN l x↔y∈l\/y=x:=by
 unfold putN
 split
 ·rename_i h
  exact⟨.inl,fun z=>z.elim id fun e=>e▸h⟩
 ·simp
theorem B7 {l:List Nat}{x:Nat}:j0 (fC l) (.inl (x:Int)) (.bl true)=fC (putN l x):=by
 unfold putN
 split
 ·rename_i h
  unfold j0
  have:((fC l).any fun kv=>decide (kv.1=eM (x:Int)))=true:=by
   rw [ck]
   exact⟨_,aE.mpr ⟨x,h,rfl⟩,by simp⟩
  rw [if_pos this]
  unfold fC
  rw [fK]
  apply de
  intro y _
  simp only [Function.comp]
  split <;> simp_all
 ·rename_i h
  exact Gz h
theorem wM : ∀ {xs l:List Nat}{y:Nat},y∈xs.foldl putN l↔y∈l\/y∈xs
 | [],l,y=>by simp
 | x::xs,l,y=>by
   rw [fR,wM,BL]
   simp [or_assoc]
theorem Ds {l:List Nat}{x:Nat}:(putN l x).length<=l.length+1:=by
 unfold putN;split <;> simp
theorem qC : ∀ {xs l:List Nat},(xs.foldl putN l).length<=l.length+xs.length
 | [],l=>by simp
 | x::xs,l=>by
   have:=qC (xs:=xs) (l:=putN l x)
   have:=Ds (l:=l) (x:=x)
   simp only [fR,dA]
   omega
noncomputable def pcF (r:Nat->List Nat) (ext:Nat->Sto):Nat->List (List Nat)×List Nat×Sto
 | 0=>([],[],[])
 | k+1=>if k∈(pcF r ext k).2.1 then pcF r ext k else ((pcF r ext k).1 ++ [srt (r k)],(srt (r k)).foldl putN (pcF r ext k).2.1,(pcF r ext k).2.2++ext k)
theorem yy {r:Nat->List Nat}{ext:Nat->Sto} : ∀ k,(pcF r ext k).1=(sdF r k).1 /\ ∀ y,y∈(pcF r ext k).2.1↔y∈(sdF r k).2
 | 0=>⟨rfl,fun y=>Iff.rfl⟩
 | k+1=>by
   obtain⟨h1,h2⟩:=yy (r:=r) (ext:=ext) k
   unfold pcF sdF
   by_cases h:k∈(sdF r k).2
   ·rw [if_pos h,if_pos ((h2 k).mpr h)];exact⟨h1,h2⟩
   ·rw [if_neg h,if_neg fun z=>h ((h2 k).mp z)]
    refine⟨by rw [h1],fun y => ?_⟩
    rw [wM,h2,ek,bq]
theorem De {r:Nat->List Nat}{ext:Nat->Sto}{B:Nat} (hr : ∀ k,(r k).length<=B) : ∀ k,(pcF r ext k).1.length<=k/\(pcF r ext k).2.1.length<=k*B
 | 0=>by simp [pcF]
 | k+1=>by
   have:=De (ext:=ext) hr k
   have:=hr k
   unfold pcF
   rw [i3]
   split
   ·omega
   ·have h:=qC (xs:=srt (r k)) (l:=(pcF r ext k).2.1)
    rw [qg] at h
    simp;omega
noncomputable def eC (S:Sto) (p:List (List Nat)×List Nat×Sto):Sto:=S ++ [.lst (tups p.1),.dic (fC p.2.1)]++p.2.2
noncomputable def xF (g:ir) (φ:MF):MS:=sIf (cOf (m2 eJ (ab 4) (ab 3))) (aZ (bI 5 (s9 1 g φ (aa (ab 4) af))) (aZ (eg (mML dn (ab 2) (aa (ab 5) af))) (dF 6 (dq (ab 5)) (eF (ab 3) (ab 6) (mC (.bl true)))))) bX
noncomputable def p7 (g:ir) (φ:MF):MS:=aZ (bI 2 (cQ af)) (aZ (bI 3 om) (aZ (dF 4 (dq (ab 0)) (xF g φ)) (bU (ab 2))))
theorem As {S x:Sto}{c:Cell}{ρ:Rho}{xs l:List Nat} (h5:ρ[5]? = some (some (.tup (aq xs)))) (h3:ρ[3]? = some (some (.ref (S.length+1)))) (h7:ρ.length=7) (hb:l.length+xs.length < big) :
  ∃ v,dF 6 (dq (ab 5)) (eF (ab 3) (ab 6) (mC (.bl true))) ρ (S ++ [c,.dic (fC l)]++x)=some (.nx,ρ.set 6 v,S ++ [c,.dic (fC (xs.foldl putN l))]++x):=by
 obtain⟨ρ',S',e,⟨v,rfl⟩,rfl⟩:=vK (i:=6) (b:=eF (ab 3) (ab 6) (mC (.bl true))) (e:=ab 5) (ρ:=ρ) (S:=S ++ [c,.dic (fC l)]++x) (us:=aq xs) (var_eq h5)
  (fun k ρ' S'=>(∃ v,ρ'=ρ.set 6 v)/\S'=S ++ [c,.dic (fC ((xs.take k).foldl putN l))]++x) ⟨⟨ρ[6]'(by omega),by simp⟩,by simp⟩ (by
  rintro k u ρ' S' hu ⟨⟨v,rfl⟩,rfl⟩
  obtain⟨y,hy,rfl⟩:=lM hu
  rw [List.set_set]
  have g3:(ρ.set 6 (some (.int y)))[3]? = some (some (.ref (S.length+1))):=by rw [aK (by decide)];exact h3
  have g6:(ρ.set 6 (some (.int y)))[6]? = some (some (.int y)):=aW (by omega)
  have e:=NY (ρ:=ρ.set 6 (some (.int y))) (o:=ab 3) (i:=ab 6) (var_eq g3) (var_eq g6) (h1 (S:=S) (x:=x) (c:=c) (e := .dic (fC ((xs.take k).foldl putN l)))) (by
   rw [Dr]
   have:=qC (xs:=xs.take k) (l:=l)
   have:(xs.take k).length<=xs.length:=by rw [mS];omega
   omega)
  rw [t1,B7] at e
  refine⟨_,_,e,⟨_,rfl⟩,?_⟩
  rw [gd,hy,lC]
  rfl)
 rw [bZ,mU] at e
 exact⟨v,e⟩
theorem tZ {m:Nat}{r:Nat->List Nat}{ext:Nat->Sto}{S:Sto}{φ:MF} (hm:m < 64) (hr : ∀ k,(r k).length<=64) (hφ : ∀ i (S:Sto),i < m->φ [.int (i:Nat)] S=some (.tup (aq (srt (r i))),S++ext i)) (g:ir) :
  _G.run 2 7 (p7 g φ) [.tup (aq (ar m)),.obj g] S=some (.ref S.length,eC S (pcF r ext m)):=by
 obtain⟨ρ1,S1,e1,⟨a,b,c,rfl⟩,e1'⟩:=vK (i:=4) (e:=ab 0) (us:=aq (ar m)) (b:=xF g φ) (ρ := [some (.tup (aq (ar m))),some (.obj g),some (.ref S.length),some (.ref (S.length+1)),none,none,none]) (S:=eC S (pcF r ext 0)) (var_eq rfl)
  (fun k ρ S'=>(∃ a b c,ρ = [some (.tup (aq (ar m))),some (.obj g),some (.ref S.length),some (.ref (S.length+1)),a,b,c])/\S'=eC S (pcF r ext k)) ⟨⟨_,_,_,rfl⟩,rfl⟩ (by
   rintro k u ρ S' hu ⟨⟨a,b,c,rfl⟩,rfl⟩
   obtain⟨k',hk',rfl⟩:=lM hu
   have hk:k < m:=by have:=(ag.mp hk').1;simpa using this
   rw [kc hk] at hk'
   cases hk'
   have bd:=De (ext:=ext) hr k
   have ec:=zV (ρ := [some (.tup (aq (ar m))),some (.obj g),some (.ref S.length),some (.ref (S.length+1)),some (.int k),b,c]) (a:=ab 4) (b:=ab 3) (x:=k) (var_eq rfl) (var_eq rfl) (show (eC S (pcF r ext k))[S.length+1]? = _ from h1)
   rw [xH] at ec
   by_cases hin:k∈(pcF r ext k).2.1
   ·rw [decide_eq_true hin] at ec
    refine⟨_,_,(ix ec).trans rfl,⟨_,_,_,rfl⟩,?_⟩
    rw [pcF,if_pos hin]
   ·rw [decide_eq_false hin] at ec
    have e5:s9 1 g φ (aa (ab 4) af) [some (.tup (aq (ar m))),some (.obj g),some (.ref S.length),some (.ref (S.length+1)),some (.int k),b,c] (eC S (pcF r ext k))=some (.tup (aq (srt (r k))),eC S (pcF r ext k)++ext k):=by
     show (if g=g then mFn φ (aa (ab 4) af) _ _ else none)=_
     rw [if_pos rfl]
     exact fo (var_eq rfl) (hφ k _ hk)
    have hx:eC S (pcF r ext k)++ext k=S ++ [.lst (tups (pcF r ext k).1),.dic (fC (pcF r ext k).2.1)]++((pcF r ext k).2.2++ext k):=by simp [eC]
    rw [hx] at e5
    have e6:=append_eq (ρ := [some (.tup (aq (ar m))),some (.obj g),some (.ref S.length),some (.ref (S.length+1)),some (.int k),some (.tup (aq (srt (r k)))),c]) (o:=ab 2) (a:=ab 5) (u := .tup (aq (srt (r k)))) (var_eq rfl) (var_eq rfl) (h0 (S:=S) (x:=(pcF r ext k).2.2++ext k) (c := .lst (tups (pcF r ext k).1)) (e := .dic (fC (pcF r ext k).2.1))) h0 (by simp only [tups,aw];unfold big;omega)
    rw [t0] at e6
    obtain⟨v,e7⟩:=As (S:=S) (x:=(pcF r ext k).2.2++ext k) (c := .lst (tups (pcF r ext k).1 ++ [.tup (aq (srt (r k)))])) (ρ := [some (.tup (aq (ar m))),some (.obj g),some (.ref S.length),some (.ref (S.length+1)),some (.int k),some (.tup (aq (srt (r k)))),c]) (xs:=srt (r k)) (l:=(pcF r ext k).2.1) rfl rfl rfl (by
     rw [qg]
     have:=hr k
     have h3:k*64<=64*64:=fb _ (by omega)
     unfold big;omega)
    refine⟨_,_,(qP ec).trans ((aS (bP e5)).trans ((aS e6).trans e7)),⟨_,_,_,rfl⟩,?_⟩
    rw [pcF,if_neg hin]
    simp [eC,tups])
 rw [bZ,ba] at e1'
 subst e1'
 refine cw (ρ := [some (.tup (aq (ar m))),some (.obj g),some (.ref S.length),some (.ref (S.length+1)),a,b,c]) rfl ?_
 show p7 g φ [some (.tup (aq (ar m))),some (.obj g),none,none,none,none,none] S=_
 have e2:om [some (.tup (aq (ar m))),some (.obj g),some (.ref S.length),none,none,none,none] (S ++ [Cell.lst []])=some (.ref (S.length+1),eC S (pcF r ext 0)):=by
  simp [om,eC,pcF,tups,fC]
 exact (aS (bP i8)).trans ((aS (bP e2)).trans ((aS e1).trans (cx (var_eq rfl))))
theorem BM {ρ:Rho}{S:Sto}{e:ME}{part:List Nat}{f:Nat->Nat}{i:Nat} (hi:ρ[i]? = some (some (.tup (aq part)))) (hl:part.length < 64) (he : ∀ (x:Nat) (S:Sto),x∈part->e (ρ ++ [some (.int x)]) S=some (.int (f x:Nat),S)) :
  mFn b9 (aa (mFn eR (aa (bR (dq (ab i)) cTT e) af)) af) ρ S=some (.tup (aq (srt (part.map f))),S ++ [.lst (aq (part.map f)),.lst (aq (srt (part.map f)))]):=by
 have hz:(part.map f).length < 64:=by rw [aw];exact hl
 obtain⟨S1,e1,rfl⟩:=jb (e:=e) (ρ:=ρ) (fun j => .int (f (oF part j):Nat)) (fun _ S'=>S'=S) (aq part) 0 [] S rfl (by
  rintro j u S' hu rfl
  obtain⟨x,hx,rfl⟩:=lM hu
  refine⟨S',?_,rfl⟩
  have:oF part (0+j)=x:=by rw [ei];unfold oF;rw [bc,hx];rfl
  rw [this]
  exact he x S' (dz hx))
 have hm:(ar (aq part).length).map (fun j=>U.int (f (oF part (0+j)):Nat))=aq (part.map f):=by
  unfold aq
  apply sr
  intro j
  rw [bg,bg,bg]
  by_cases h:j < part.length
  ·rw [kc (by simpa using h),ay h]
   simp [oF,bc,h]
  ·rw [eK (by simpa using h),eK (by exact cf (by assumption))];rfl
 rw [hm,dM] at e1
 have e2:=kK (it:=dq (ab i)) (us:=aq part) (by unfold dq;rw [var_eq hi];rfl) e1 (by rw [bZ];unfold big;exact ao (by assumption) (by decide))
 have e3:=jg (wJ e2 (bW _ _) hz)
 rw [e3]
 simp
theorem map_len {part:List Nat}{f:Nat->Nat} (h:part.length < 64):(part.map f).length<=64:=by rw [aw];exact aQ (by assumption)
noncomputable def ff (T:Nat->Nat->Nat) (part:List Nat) (left:Bool) (x:Nat):List Nat:=part.map fun o=>if left then T x o else T o x
noncomputable def atM:MS:=bU (qz (iR1 (aa (mFn bD (aa (ab 0) af)) af)))
theorem G3 {m:Nat}{T:Nat->Nat->Nat}{S:Sto} (hm:m < 1000):_G.run 1 1 atM [tab m T] S=some (.tup (aq (ar m)),S):=by
 refine cw (ρ := [some (tab m T)]) rfl (cx ?_)
 have e1:=mO (ρ := [some (tab m T)]) (S:=S) (a:=mFn bD (aa (ab 0) af)) (n:=m) (len_tab (var_eq rfl)) (by unfold big;exact ao (by assumption) (by decide))
 have e2:bo 0 m=aq (ar m):=by
  unfold bo aq
  apply de
  intro k _
  simp
 rw [e2] at e1
 have hz:(aq (ar m)).length<=big:=by rw [bZ,ba];unfold big;omega
 show qz (iR1 (aa (mFn bD (aa (ab 0) af)) af)) [some (tab m T)] S=_
 simp only [qz,e1,aI,hz,if_true]
noncomputable def lsM:MS:=bU (jW (fun g φ=>_G.run 2 7 (p7 g φ)) 1 [0,1] (mFn b9 (aa (mFn eR (aa (bR (dq (ab 2)) cTT (m2 oIx (m2 oIx (ab 1) (ab 0)) (ab 3))) af)) af)) (mFn (_G.run 1 1 atM) (aa (ab 0) af)))
noncomputable def rsM:MS:=bU (jW (fun g φ=>_G.run 2 7 (p7 g φ)) 1 [0,1] (mFn b9 (aa (mFn eR (aa (bR (dq (ab 2)) cTT (m2 oIx (m2 oIx (ab 1) (ab 3)) (ab 0))) af)) af)) (mFn (_G.run 1 1 atM) (aa (ab 0) af)))
noncomputable def aM (m:Nat) (T:Nat->Nat->Nat) (part:List Nat) (left:Bool):List (List Nat):=(sdF (ff T part left) m).1
section
variable {m:Nat}{T:Nat->Nat->Nat}{part:List Nat}{S:Sto}
theorem tT {left:Bool} (g:Grp m T) (hm:m < 64) (hl:part.length < 64) (hp : ∀ x∈part,x < m):Sml (aM m T part left):=
 Fb hm (fun k=>map_len hl) fun k hk x hx=>by
  obtain⟨o,ho,rfl⟩:=aE.mp hx
  have:=hp o ho
  cases left
  ·have:=g.cl o k this hk;simp;exact bK (by assumption) (ao (by assumption) (by decide))
  ·have:=g.cl k o hk this;simp;exact bK (by assumption) (ao (by assumption) (by decide))
theorem mP {left:Bool}{ext:Nat->Sto}:Ex S (eC S (pcF (ff T part left) ext m))/\(eC S (pcF (ff T part left) ext m))[S.length]? = some (Cell.lst (tups (aM m T part left))):=by
 refine⟨⟨_,by unfold eC;rw [bh]⟩,?_⟩
 have:=h0 (S:=S) (x:=(pcF (ff T part left) ext m).2.2) (c := .lst (tups (pcF (ff T part left) ext m).1)) (e := .dic (fC (pcF (ff T part left) ext m).2.1))
 rw [(yy m).1] at this
 unfold eC
 rw [(yy m).1]
 exact this
theorem GA (g:Grp m T) (hm:m < 64) (hl:part.length < 64) (hp : ∀ x∈part,x < m) : ∃ S',_G.run 2 2 lsM [tab m T,.tup (aq part)] S=some (.ref S.length,S')/\Ex S S'/\S'[S.length]? = some (Cell.lst (tups (aM m T part true))):=by
 refine⟨eC S (pcF (ff T part true) (fun i => [.lst (aq (ff T part true i)),.lst (aq (srt (ff T part true i)))]) m),cw (ρ := [some (tab m T),some (.tup (aq part))]) rfl (show lsM [some (tab m T),some (.tup (aq part))] S=_ from cx ?_),mP.1,mP.2⟩
 refine rM (cs := [tab m T,.tup (aq part)]) (fo (f:=_G.run 1 1 atM) (var_eq rfl) (G3 (by exact ao (by assumption) (by decide)))) rfl fun f=>tZ hm (fun k=>map_len hl) (fun i S' hi => ?_) f
 exact BM (ρ := [some (.int (i:Nat)),some (tab m T),some (.tup (aq part))]) (f:=fun o=>if true then T i o else T o i) rfl hl fun x S hx=>d4 (T:=T) (i:=i) (j:=x) (hp x hx) (dU hi (var_eq rfl) (var_eq rfl)) (var_eq rfl)
theorem DM (g:Grp m T) (hm:m < 64) (hl:part.length < 64) (hp : ∀ x∈part,x < m) : ∃ S',_G.run 2 2 rsM [tab m T,.tup (aq part)] S=some (.ref S.length,S')/\Ex S S'/\S'[S.length]? = some (Cell.lst (tups (aM m T part false))):=by
 refine⟨eC S (pcF (ff T part false) (fun i => [.lst (aq (ff T part false i)),.lst (aq (srt (ff T part false i)))]) m),cw (ρ := [some (tab m T),some (.tup (aq part))]) rfl (show rsM [some (tab m T),some (.tup (aq part))] S=_ from cx ?_),mP.1,mP.2⟩
 refine rM (cs := [tab m T,.tup (aq part)]) (fo (f:=_G.run 1 1 atM) (var_eq rfl) (G3 (by exact ao (by assumption) (by decide)))) rfl fun f=>tZ hm (fun k=>map_len hl) (fun i S' hi => ?_) f
 exact BM (ρ := [some (.int (i:Nat)),some (tab m T),some (.tup (aq part))]) (f:=fun o=>if false then T i o else T o i) rfl hl fun x S hx=>d4 (T:=T) (i:=x) (j:=i) hi (dU (hp x hx) (var_eq rfl) (var_eq rfl)) (var_eq rfl)
end
end
end _W
end
section
namespace _W
open _L _G
section
theorem nC {t:MT}{e:ME}{ρ:Rho}{n:Nat}{S:Sto}{us:List U}{p:U->Bool}{f:U->U} (hu:getL S n=some us) (ht : ∀ u∈us,t (ρ ++ [some u]) S=some (p u,S)) (he : ∀ u∈us,p u=true->e (ρ ++ [some u]) S=some (f u,S)) :
  ∀ (k i:Nat) (acc:List U),i<=us.length->us.length - i < k->jM t e ρ n k i acc S=some (acc++((us.drop i).filter p).map f,S)
 | 0,i,acc,h1,h2=>by omega
 | k+1,i,acc,h1,h2=>by
   unfold jM
   rw [hu]
   simp only [ai]
   by_cases hi:i < us.length
   ·have hd:us.drop i=us[i]::us.drop (i+1):=zi hi
    have hm:us[i]∈us:=cY hi
    rw [ay hi]
    simp only
    rw [ht _ hm]
    simp only [aI]
    rw [hd]
    cases hp:p us[i] with
    | true=>
      rw [if_pos rfl,he _ hm hp]
      simp only [aI]
      rw [nC hu ht he k (i+1) _ (by assumption) (by omega),BC hp]
      simp
    | false=>
      rw [if_neg bM,nC hu ht he k (i+1) _ (by assumption) (by omega),BD (by rw [hp];decide)]
   ·rw [eK (by exact cf (by assumption)),List.drop_of_length_le (by exact cf (by assumption))]
    simp
theorem t6 {t:MT}{e a:ME}{ρ:Rho}{n:Nat}{S S1:Sto}{us:List U}{p:U->Bool}{f:U->U} (ha:a ρ S=some (.ref n,S1)) (hu:S1[n]? = some (Cell.lst us)) (hl:us.length < 1000) (ht : ∀ u∈us,t (ρ ++ [some u]) S1=some (p u,S1)) (he : ∀ u∈us,p u=true->e (ρ ++ [some u]) S1=some (f u,S1)) :
  bR (dq a) t e ρ S=some (.ref S1.length,S1 ++ [.lst ((us.filter p).map f)]):=by
 have hg:getL S1 n=some us:=by unfold getL;rw [hu]
 have hi:dq a ρ S=some (.mut n,S1):=by simp only [dq,ha,aI,hg,aT]
 have e1:=nC hg ht he fuel 0 [] (dj _) (by unfold fuel;exact ao (by assumption) (by decide))
 rw [List.drop_zero,dM] at e1
 simp only [bR,hi,aI,B9,e1]
 refine if_pos ?_
 have:=Ep p us
 rw [aw];unfold big;exact aN (by assumption) (ao (by assumption) (by decide))
theorem nG {t:MT}{e:ME}{ρ:Rho}{S:Sto}{p:U->Bool}{f:U->U} : ∀ (us acc:List U),(∀ u∈us,t (ρ ++ [some u]) S=some (p u,S))->(∀ u∈us,p u=true->e (ρ ++ [some u]) S=some (f u,S)) ->
  hG t e ρ us acc S=some (acc++(us.filter p).map f,S)
 | [],acc,_,_=>by simp [hG]
 | u::us,acc,ht,he=>by
   unfold hG
   rw [ht u (by simp)]
   simp only [aI]
   cases hp:p u with
   | true=>
     rw [if_pos rfl,he u (by simp) hp]
     simp only [aI]
     rw [nG us _ (fun v hv=>ht v (aD _ hv)) (fun v hv=>he v (aD _ hv)),BC hp]
     simp
   | false=>
     rw [if_neg bM,nG us _ (fun v hv=>ht v (aD _ hv)) (fun v hv=>he v (aD _ hv)),BD (by rw [hp];decide)]
theorem Bi {t:MT}{e a:ME}{ρ:Rho}{S S1:Sto}{us:List U}{p:U->Bool}{f:U->U} (ha:a ρ S=some (.tup us,S1)) (hl:us.length < big) (ht : ∀ u∈us,t (ρ ++ [some u]) S1=some (p u,S1)) (he : ∀ u∈us,p u=true->e (ρ ++ [some u]) S1=some (f u,S1)) :
  bR (dq a) t e ρ S=some (.ref S1.length,S1 ++ [.lst ((us.filter p).map f)]):=by
 have hi:dq a ρ S=some (.imm us,S1):=by simp only [dq,ha,aI]
 have e1:=nG us [] ht he
 rw [dM] at e1
 refine kK hi e1 ?_
 have:=Ep p us
 rw [aw];exact aN (by assumption) (by assumption)
theorem qE {t:MT}{e a:ME}{ρ:Rho}{S S1:Sto}{l:List Nat}{p:Nat->Bool}{f:Nat->U} (ha:a ρ S=some (.tup (aq l),S1)) (hl:l.length < big) (ht : ∀ x∈l,t (ρ ++ [some (.int x)]) S1=some (p x,S1)) (he : ∀ x∈l,p x=true->e (ρ ++ [some (.int x)]) S1=some (f x,S1)) :
  bR (dq a) t e ρ S=some (.ref S1.length,S1 ++ [.lst ((l.filter p).map f)]):=by
 have nat : ∀ u∈aq l,∃ x∈l,u = .int (x:Nat):=fun u hu=>by
  obtain⟨x,hx,rfl⟩:=aE.mp hu;exact⟨x,hx,rfl⟩
 let g:U->Nat:=fun u=>match u with | .int i=>i.toNat | _=>0
 have gx : ∀ x:Nat,g (.int x)=x:=fun x=>by simp [g]
 have h:=Bi (t:=t) (e:=e) (p:=fun u=>p (g u)) (f:=fun u=>f (g u)) ha (by rw [bZ];exact hl) (fun u hu=>by
  obtain⟨x,hx,rfl⟩:=nat u hu
  rw [gx];exact ht x hx) (fun u hu hp=>by
  obtain⟨x,hx,rfl⟩:=nat u hu
  rw [gx] at hp ⊢;exact he x hx hp)
 rw [h]
 have:((aq l).filter fun u=>p (g u)).map (fun u=>f (g u))=(l.filter p).map f:=by
  unfold aq
  rw [List.filter_map,fK]
  have e1:(fun u=>p (g u))∘(fun (x:Nat)=>U.int x)=p:=by funext x;simp [gx]
  have e2:(fun u=>f (g u))∘(fun (x:Nat)=>U.int x)=f:=by funext x;simp [gx]
  rw [e1,e2]
 rw [this]
theorem tS {t:MT}{e a:ME}{ρ:Rho}{S S1:Sto}{l:List Nat}{p:Nat->Bool}{f:Nat->U} (ha:a ρ S=some (.tup (aq l),S1)) (hl:l.length < 1000) (ht : ∀ x∈l,t (ρ ++ [some (.int x)]) S1=some (p x,S1)) (he : ∀ x∈l,p x=true->e (ρ ++ [some (.int x)]) S1=some (f x,S1)) :
  bR (dq a) t e ρ S=some (.ref S1.length,S1 ++ [.lst ((l.filter p).map f)]):=
 qE ha (by unfold big;exact ao (by assumption) (by decide)) ht he
theorem GO {ρ:Rho}{S S1 S2:Sto}{a b:ME}{x:Nat}{l:List Nat} (ha:a ρ S=some (.int x,S1)) (hb:b ρ S1=some (.tup (aq l),S2)):cOf (m2 eJ a b) ρ S=some (!decide (x∈l),S2):=by
 refine of_eq (op2 ha hb ?_)
 simp only [eJ,gw,g8,ai,dS,t8,aT,Option.some_or,F8]
section
variable {m:Nat}{T:Nat->Nat->Nat}{st left:List Nat}{S:Sto}
theorem IH {ρ:Rho}{S S1 S2:Sto}{a b:ME}{x y:List Nat} (ha:a ρ S=some (.tup (aq x),S1)) (hb:b ρ S1=some (.tup (aq y),S2)) (hl:x.length+y.length<=big):m2 cZ a b ρ S=some (.tup (aq (x++y)),S2):=by
 refine op2 ha hb ?_
 simp only [cZ]
 rw [if_pos (by rw [bZ,bZ];exact hl)]
 simp [aq]
theorem GY {ρ:Rho}{S S1 S2:Sto}{a b:ME}{x y:List Nat} (ha:a ρ S=some (.tup (aq x),S1)) (hb:b ρ S1=some (.tup (aq y),S2)) (hl:x.length+y.length < 1000):m2 cZ a b ρ S=some (.tup (aq (x++y)),S2):=
 IH ha hb (by unfold big;omega)
end
end
end _W
end
section
namespace _W
open _L _G
section
abbrev Nod:=List Nat×List Nat
noncomputable def Hk (th:List Nat):Nat:=(th.getLast?).getD 0
noncomputable def kids (T:Nat->Nat->Nat) (st:List Nat) (p:Nod):List Nod:=(st.filter fun s => !decide (T (Hk p.2) s∈p.2)).map fun s=>(p.1 ++ [s],p.2 ++ [T (Hk p.2) s])
noncomputable def IE (T:Nat->Nat->Nat) (st:List Nat) (L:Nod->List (List Nat)):Nat->Nod->List (List Nat)
 | 0,p=>L p
 | k+1,p=>(kids T st p).flatMap (IE T st L k)
section
variable {m:Nat}{T:Nat->Nat->Nat}{st:List Nat}{S x:Sto}{F:List (List Nat)}{ln:List Nod}{ρ:Rho}
end
noncomputable def G4 (b:Nat):Nat->Nat
 | 0=>1
 | k+1=>1+b*G4 b k
noncomputable def msr (b m:Nat) (ln:List Nod):Nat:=(ln.map fun p=>G4 b (m - 1 - p.1.length)).sum
noncomputable def rest (T:Nat->Nat->Nat) (st:List Nat) (L:Nod->List (List Nat)) (m:Nat) (ln:List Nod):List (List Nat):=ln.reverse.flatMap fun p=>IE T st L (m - 1 - p.1.length) p
structure Nd (m:Nat) (p:Nod):Prop where
 le:p.1.length<=m - 1
 len:p.2.length=p.1.length+1
 lt : ∀ x∈p.2,x < m
section
variable {m:Nat}{T:Nat->Nat->Nat}{st:List Nat}{L:Nod->List (List Nat)}{ln:List Nod}{p:Nod}
end
end
end _W
end
section
namespace _W
open _L _G
section
section
variable {m:Nat}{T:Nat->Nat->Nat}{st:List Nat}{S:Sto}
structure Sv (m:Nat) (T:Nat->Nat->Nat) (st:List Nat) (L:Nod->List (List Nat)) (F:List (List Nat)) (ln:List Nod) (μ:Nat):Prop where
 nd : ∀ p∈ln,Nd m p
 tot:F++rest T st L m ln=IE T st L (m - 1) ([],[0])
 ms:msr st.length m ln<=μ
 bd:μ<=30000
theorem tN {ρ:Rho}{S S1:Sto}{o a:ME}{r k:Nat}{us ws:List U} (ho:o ρ S=some (.ref r,S)) (ha:a ρ S=some (.ref k,S1)) (hr:S[r]? = some (Cell.lst us)) (hr1:S1[r]? = some (Cell.lst us)) (hk:S1[k]? = some (Cell.lst ws)) (hl:us.length+ws.length<=big) :
  eg (mML iN o (aa a af)) ρ S=some (.nx,ρ,S1.set r (.lst (us++ws))):=by
 simp only [eg,mML,ho,aI,getL,hr,ai,aa,af,ha,iN,hr1,hk]
 rw [if_pos hl]
 simp only [aI]
end
end
end _W
end
section
namespace _W
open _L _G
section
theorem Ex.set {S S':Sto}{r:Nat}{c:Cell} (h:Ex S S') (hr:S.length<=r):Ex S (S'.set r c):=by
 obtain⟨t,rfl⟩:=h
 exact⟨t.set (r - S.length) c,by rw [fX _ _ hr]⟩
section
variable {m:Nat}{T:Nat->Nat->Nat}{st:List Nat}
structure Lft (m:Nat) (th left:List Nat):Prop where
 nd:left.Nodup
 mem : ∀ y,y∈left↔y < m/\y∉th
end
structure Lng (ls:List (List Nat)):Prop where
 len:ls.length<=9000
 each : ∀ l∈ls,l.length<=8
 lt : ∀ l∈ls,∀ x∈l,x < 1000
open PySem in
open PySem in
section
variable {m:Nat}{T:Nat->Nat->Nat}{st:List Nat}{S:Sto}
end
end
end _W
end
section
namespace _W
open _L _G
section
abbrev Rds:=List (Nat×List Nat)
noncomputable def kF (ks:Rds):List Nat:=ks.map Prod.fst
noncomputable def eV (ks:Rds):List (_L.Key×U):=ks.map fun p=>(eM (p.1:Int),U.tup (aq p.2))
theorem Cm {ks:Rds}{x:Nat}:pR (eV ks) (.inl (x:Int))=decide (x∈kF ks):=by
 have:pR (eV ks) (.inl (x:Int))=true↔x∈kF ks:=by
  rw [oq]
  unfold eV kF
  constructor
  ·rintro ⟨kv,hm,e⟩
   obtain⟨y,hy,rfl⟩:=aE.mp hm
   have e':(y.1:Int)=x:=sk e
   exact aE.mpr ⟨y,hy,by omega⟩
  ·intro h
   obtain⟨y,hy,rfl⟩:=aE.mp h
   exact⟨_,aE.mpr ⟨y,hy,rfl⟩,rfl⟩
 by_cases h:x∈kF ks
 ·rw [this.mpr h];simp [h]
 ·cases q:pR (eV ks) (.inl (x:Int)) with
  | true=>exact absurd (this.mp q) h
  | false=>simp [h]
theorem M5 {ks:Rds}{x:Nat}{w:List Nat} (h:x∉kF ks):j0 (eV ks) (.inl (x:Int)) (.tup (aq w))=eV (ks ++ [(x,w)]):=by
 unfold j0
 rw [if_neg]
 ·simp [eV]
 ·intro z
  obtain⟨kv,hm,e⟩:=ck.mp z
  have:pR (eV ks) (.inl (x:Int))=true:=oq.mpr ⟨kv,hm,of_decide_eq_true e⟩
  rw [Cm] at this
  exact h (of_decide_eq_true this)
theorem AO (ks:Rds):(eV ks).length=ks.length:=by simp [eV]
theorem qM : ∀ (ks:Rds),dw nT (eV ks)=some (d5 (kF ks))
 | []=>rfl
 | x::l=>by
   show (nT (eM (x.1:Int),U.tup (aq x.2))).bind _=_
   simp only [nT,ai]
   rw [show List.map (fun (p:Nat×List Nat)=>(eM (p.1:Int),U.tup (aq p.2))) l=eV l from rfl,qM l]
   rfl
noncomputable def iC (ks:Rds) (x:Nat):List Nat:=((ks.find? fun p=>decide (p.1=x)).map Prod.snd).getD []
theorem Hn {x:Nat} : ∀ {ks:Rds},x∈kF ks->jA (eV ks) (.inl (x:Int))=some (.tup (aq (iC ks x)))
 | [],h=>by simp [kF] at h
 | p::ks,h=>by
   unfold jA iC eV
   rw [bA,bO,bO]
   by_cases e:p.1=x
   ·have:(eM (p.1:Int):_L.Key) = .inl (x:Int):=by rw [e]
    simp [e]
   ·have e1 : ¬ ((eM (p.1:Int):_L.Key) = .inl (x:Int)):=fun z=>e (by have:=sk z;omega)
    simp only [decide_eq_false e,decide_eq_false e1]
    have h':x∈kF ks:=by
     rcases aJ.mp (show x∈p.1::kF ks from h) with z | z
     ·exact absurd z.symm e
     ·exact z
    exact Hn (ks:=ks) h'
theorem nF {x:Nat} : ∀ {ks:Rds},x∈kF ks->(x,iC ks x)∈ks
 | [],h=>by simp [kF] at h
 | p::ks,h=>by
   unfold iC
   rw [bO]
   by_cases e:p.1=x
   ·rw [decide_eq_true e]
    show (x,p.2)∈p::ks
    rw [<- e];exact br
   ·have h':x∈kF ks:=by
     rcases aJ.mp (show x∈p.1::kF ks from h) with z | z
     ·exact absurd z.symm e
     ·exact z
    rw [decide_eq_false e]
    exact aD _ (nF (ks:=ks) h')
structure Rd (T:Nat->Nat->Nat) (ths:List Nat) (ks:Rds):Prop where
 go : ∀ p∈ks,Av T p.2=p.1
 by' : ∀ p∈ks,∀ y∈p.2,y∈ths
 len : ∀ p∈ks,p.2.length < ks.length
section
variable {m:Nat}{T:Nat->Nat->Nat}{ths:List Nat}{S x:Sto}{v:U}
noncomputable def fF (S:Sto) (p:Rds×List Nat) (x:Sto):Sto:=S ++ [.dic (eV p.1),.lst (aq p.2)]++x
noncomputable def yT (T:Nat->Nat->Nat) (h y:Nat) (p:Rds×List Nat):Rds×List Nat:=if T h y∈kF p.1 then p else (p.1 ++ [(T h y,iC p.1 h ++ [y])],p.2 ++ [T h y])
noncomputable def cvR (p:Rds×List Nat):List Nat×List Nat:=(kF p.1,p.2)
theorem Fc {h y:Nat}{p:Rds×List Nat}:cvR (yT T h y p)=tryD T h y (cvR p):=by
 by_cases e:T h y∈kF p.1
 ·rw [yT,if_pos e,tryD,if_pos (show T h y∈(cvR p).1 from e)]
 ·rw [yT,if_neg e,tryD,if_neg (show ¬ T h y∈(cvR p).1 from e)]
  simp [cvR,kF]
theorem Fu {h y:Nat}{p:Rds×List Nat} (hr:Rd T ths p.1) (hh:h∈kF p.1) (hy:y∈ths):Rd T ths (yT T h y p).1:=by
 unfold yT
 split
 ·exact hr
 ·have hm:=nF hh
  refine⟨fun q hq => ?_,fun q hq => ?_,fun q hq => ?_⟩
  ·rcases bq.mp hq with hq | hq
   ·exact hr.go q hq
   ·simp at hq;subst hq
    show Av T (iC p.1 h ++ [y])=T h y
    have:=hr.go _ hm
    unfold Av at this ⊢
    rw [lC,this];rfl
  ·rcases bq.mp hq with hq | hq
   ·exact hr.by' q hq
   ·simp at hq;subst hq
    intro z hz
    rcases bq.mp hz with hz | hz
    ·exact hr.by' _ hm z hz
    ·simp at hz;rw [hz];exact hy
  ·rw [aX]
   rcases bq.mp hq with hq | hq
   ·have:=hr.len q hq;simp;exact gg (by assumption)
   ·simp at hq;subst hq
    have:=hr.len _ hm
    simp at this ⊢;assumption
theorem Kh {ρ:Rho}{S S1 S2:Sto}{a b:ME}{r:Nat}{y:Nat}{kvs:List (_L.Key×U)}{u:U} (ha:a ρ S=some (.ref r,S1)) (hb:b ρ S1=some (.int (y:Nat),S2)) (hr:S2[r]? = some (Cell.dic kvs)) (h:jA kvs (.inl (y:Int))=some u):m2 oIx a b ρ S=some (u,S2):=
 op2 ha hb (by simp only [oIx,gw,hr,keyOf,ai,h,aT])
theorem Hy {ρ:Rho}{S:Sto}{o i e:ME}{r:Nat}{z:Int}{u:U}{kvs:List (_L.Key×U)} (he:e ρ S=some (u,S)) (ho:o ρ S=some (.ref r,S)) (hi:i ρ S=some (.int z,S)) (hr:S[r]? = some (Cell.dic kvs)) (hl:kvs.length < big):eF o i e ρ S=some (.nx,ρ,S.set r (.dic (j0 kvs (.inl z) u))):=by
 simp only [eF,he,aI,ho,hi,hr,keyOf,ai,hl,if_true]
noncomputable def pb:MS:=aZ (bI 6 (m2 oIx (m2 oIx (ab 0) (ab 4)) (ab 5))) (sIf (cOf (m2 eJ (ab 6) (ab 2))) (aZ (eF (ab 2) (ab 6) (m2 cZ (m2 oIx (ab 2) (ab 4)) (mY (aa (ab 5) af)))) (eg (mML dn (ab 3) (aa (ab 6) af)))) bX)
noncomputable def Hj:MS:=aZ (bI 4 (mML uR (ab 3) af)) (dF 5 (dq (ab 1)) pb)
noncomputable def zP:MS:=aZ (bI 2 (qX (mC (.int 0)) (mY af))) (aZ (bI 3 (cQ (aa (mC (.int 0)) af))) (aZ (ph DK Hj) (bU (ab 2))))
noncomputable def spM:MS:=bU (mFn b9 (aa (mFn eR (aa (mFn (_G.run 2 7 zP) (aa (ab 0) (aa (ab 1) af))) af)) af))
theorem Ay {c:Option U}{h y:Nat}{p:Rds×List Nat} (hh:h < m) (hy:y < m) (hk:h∈kF p.1) (hr:Rd T ths p.1) (l1:p.1.length < 1000) (l2:p.2.length < big) :
  pb (spR m T v S [some (.int h),some (.int y),c]) (fF S p x)=some (.nx,spR m T v S [some (.int h),some (.int y),some (.int (T h y:Nat))],fF S (yT T h y p) x):=by
 have e6:m2 oIx (m2 oIx (ab 0) (ab 4)) (ab 5) (spR m T v S [some (.int h),some (.int y),c]) (fF S p x)=some (.int (T h y:Nat),fF S p x):=d4 hy (dU hh (var_eq rfl) (var_eq rfl)) (var_eq rfl)
 refine (aS (bP e6)).trans ?_
 show sIf _ _ _ (spR m T v S [some (.int h),some (.int y),some (.int (T h y:Nat))]) (fF S p x)=_
 have ec:=zV (ρ:=spR m T v S [some (.int h),some (.int y),some (.int (T h y:Nat))]) (a:=ab 6) (b:=ab 2) (x:=T h y) (var_eq rfl) (var_eq rfl) (show (fF S p x)[S.length]? = _ from h0)
 rw [Cm] at ec
 unfold yT
 by_cases hin:T h y∈kF p.1
 ·rw [if_pos hin]
  rw [decide_eq_true hin] at ec
  exact ix ec
 ·rw [if_neg hin]
  rw [decide_eq_false hin] at ec
  refine (qP ec).trans ?_
  have hrl:=hr.len _ (nF hk)
  have ea:m2 cZ (m2 oIx (ab 2) (ab 4)) (mY (aa (ab 5) af)) (spR m T v S [some (.int h),some (.int y),some (.int (T h y:Nat))]) (fF S p x)=some (.tup (aq (iC p.1 h ++ [y])),fF S p x):=GY (x:=iC p.1 h) (y := [y]) (Kh (y:=h) (var_eq rfl) (var_eq rfl) (show (fF S p x)[S.length]? = _ from h0) (Hn hk)) (NG (var_eq rfl)) (by simp at hrl ⊢;exact aN (by assumption) (by assumption))
  have e1:=Hy (o:=ab 2) (i:=ab 6) ea (var_eq rfl) (var_eq rfl) (show (fF S p x)[S.length]? = _ from h0) (by rw [AO];unfold big;exact ao (by assumption) (by decide))
  rw [M5 hin,show (fF S p x).set S.length (.dic (eV (p.1 ++ [(T h y,iC p.1 h ++ [y])])))=fF S (p.1 ++ [(T h y,iC p.1 h ++ [y])],p.2) x from t0] at e1
  refine (aS e1).trans ?_
  have e2:=append_eq (ρ:=spR m T v S [some (.int h),some (.int y),some (.int (T h y:Nat))]) (o:=ab 3) (a:=ab 6) (var_eq rfl) (var_eq rfl) (show (fF S (p.1 ++ [(T h y,iC p.1 h ++ [y])],p.2) x)[S.length+1]? = _ from h1) h1 (by rw [bZ];exact l2)
  rw [show (fF S (p.1 ++ [(T h y,iC p.1 h ++ [y])],p.2) x).set (S.length+1) _=S ++ [.dic (eV (p.1 ++ [(T h y,iC p.1 h ++ [y])])),_]++x from t1] at e2
  rw [e2]
  simp [fF,aq]
theorem E6 {a b c:Option U}{h μ:Nat}{p:Rds×List Nat} (g:Grp m T) (hm:m < 64) (hμ:μ < 1000) (ht : ∀ z∈ths,z < m) (hv:Wk S v ths) (n:Inn m T ths h 0 (cvR p) μ) (hr:Rd T ths p.1) :
  ∃ b' c' q,dF 5 (dq (ab 1)) pb (spR m T v S [some (.int h),b,c]) (fF S p x)=some (.nx,spR m T v S [some (.int h),b',c'],fF S q x)/\Inn m T ths h ths.length (cvR q) μ/\Rd T ths q.1:=by
 have hh:h < m:=n.d.lt h n.hk
 have stp : ∀ (k:Nat) (u:U) (ρ:Rho) (S':Sto),(aq ths)[k]? = some u->(∃ b c q,S'=fF S q x/\ρ=spR m T v S [some (.int h),b,c]/\Inn m T ths h k (cvR q) μ/\Rd T ths q.1) -> ∃ ρ' S'',pb (ρ.set 5 (some u)) S'=some (.nx,ρ',S'') /\ ∃ b c q,S''=fF S q x/\ρ'=spR m T v S [some (.int h),b,c]/\Inn m T ths h (k+1) (cvR q) μ/\Rd T ths q.1:=by
  rintro k u ρ S' hu ⟨b,c,q,rfl,rfl,q3,q4⟩
  obtain⟨y,hy,rfl⟩:=lM hu
  have l:=q3.st_le hμ hm
  have hym:=dz hy
  have l1:q.1.length < 1000:=by have:=q3.d.len;simp only [cvR,kF,aw] at this;exact aN (by assumption) (ao (by assumption) (by decide))
  refine⟨_,_,Ay (S:=S) (x:=x) (v:=v) (c:=c) hh (ht y hym) q3.hk q4 l1 l.2,_,_,_,rfl,rfl,?_,Fu q4 q3.hk hym⟩
  rw [Fc]
  exact q3.try g ht hy
 rcases hv with rfl | ⟨r,rfl,hr1,hl⟩
 ·obtain⟨ρ',S',e,b',c',q,rfl,rfl,q3,q4⟩:=vK (i:=5) (b:=pb) (e:=ab 1) (ρ:=spR m T (.tup (aq ths)) S [some (.int h),b,c]) (S:=fF S p x) (us:=aq ths) (var_eq rfl) _ ⟨b,c,p,rfl,rfl,n,hr⟩ stp
  rw [bZ] at q3
  exact⟨b',c',q,e,q3,q4⟩
 ·have hrl:=(ag.mp hr1).1
  obtain⟨ρ',S',e,b',c',q,rfl,rfl,q3,q4⟩:=ux (i:=5) (b:=pb) (e:=ab 1) (ρ:=spR m T (.ref r) S [some (.int h),b,c]) (S:=fF S p x) (us:=aq ths) (var_eq rfl) (by rw [bZ];exact ao (by assumption) (by decide)) _ ⟨b,c,p,rfl,rfl,n,hr⟩
   (by
    rintro k ρ S' ⟨b,c,q,rfl,_⟩
    unfold getL fF
    rw [bh,aR hrl,hr1]) stp
  rw [bZ] at q3
  exact⟨b',c',q,e,q3,q4⟩
theorem CI (g:Grp m T) (hm:m < 64) (ht : ∀ z∈ths,z < m) (hv:Wk S v ths) : ∃ ks S',_G.run 2 7 zP [tab m T,v] S=some (.ref S.length,S')/\Ex S S'/\S'[S.length]? = some (.dic (eV ks))/\Dfs m T ths (kF ks) (fun _=>False)/\Rd T ths ks:=by
 have hp:=g.pos
 obtain⟨ρ',S1,e1,⟨r,ks,x,rfl,rfl,d,hr⟩⟩:=z3 (c:=DK) (b:=Hj) (fun μ ρ S' => ∃ a b c p x,ρ=spR m T v S [a,b,c]/\S'=fF S p x/\yO m T ths (kF p.1) p.2 μ/\μ < 1000/\Rd T ths p.1)
  (fun ρ S' => ∃ r ks x,ρ=spR m T v S r/\S'=fF S (ks,[]) x/\Dfs m T ths (kF ks) (fun _=>False)/\Rd T ths ks) (by
  rintro μ ρ S' ⟨a,b,c,p,x,rfl,rfl,s,hμ,hr⟩
  have ec:DK (spR m T v S [a,b,c]) (fF S p x)=some (decide ((0:Int) < (aq p.2).length),fF S p x):=of_eq (Fe (xb (var_eq rfl) h1) c_i)
  refine⟨_,_,ec,fun hf => ?_,fun hf => ?_⟩
  ·have h2:p.2 = []:=by
    have:=of_decide_eq_false hf
    rw [bZ] at this
    exact mT.mp (by omega)
   refine⟨_,p.1,x,rfl,by rw [<- h2],?_,hr⟩
   have:=s.d
   rw [h2] at this
   exact⟨this.nd,this.lt,this.z,this.rc,fun x hx=>(this.cl x hx).imp (by simp) id⟩
  ·have h2:p.2 ≠ []:=fun e=>by rw [e] at hf;simp [aq] at hf
   obtain⟨st,h,e⟩:=E7 h2
   obtain⟨ks,s2⟩:=p
   subst e
   cases μ with
   | zero=>have:=s.ms;simp at this
   | succ μ=>
   have e4:bI 4 (mML uR (ab 3) af) (spR m T v S [a,b,c]) (fF S (ks,st ++ [h]) x)=some (.nx,spR m T v S [some (.int h),b,c],fF S (ks,st) x):=by
    rw [bP (i:=4) (F6 (ρ:=spR m T v S [a,b,c]) (S:=fF S (ks,st ++ [h]) x) (o:=ab 3) (r:=S.length+1) (var_eq rfl) h1)]
    rw [show (fF S (ks,st ++ [h]) x).set (S.length+1) (Cell.lst (aq st))=fF S (ks,st) x from t1]
    rfl
   obtain⟨b',c',q,e5,i,hq⟩:=E6 (S:=S) (x:=x) (a:=a) (b:=b) (c:=c) (p:=(ks,st)) g hm (by exact aQ (by assumption)) ht hv s.pop hr
   exact⟨_,_,μ,cg _,(aS e4).trans e5,_,_,_,q,x,rfl,rfl,i.done,by exact aQ (by assumption),hq⟩) fuel (2*m) (spR m T v S [none,none,none]) (fF S ([(0,[])],[0]) []) (by unfold fuel;omega) ⟨_,_,_,([(0,[])],[0]),[],rfl,rfl,yO.start hp,by omega,⟨fun p hp=>by simp at hp;subst hp;rfl,fun p hp=>by simp at hp;subst hp;simp,fun p hp=>by simp at hp;subst hp;simp⟩⟩
 refine⟨ks,_,cw (ρ:=spR m T v S r) rfl ?_,?_,(show (fF S (ks,[]) x)[S.length]? = _ from h0),d,hr⟩
 ·show zP [some (tab m T),some v,none,none,none,none,none] S=_
  have ed:qX (mC (.int 0)) (mY af) [some (tab m T),some v,none,none,none,none,none] S=some (.ref S.length,S ++ [.dic (eV [(0,[])])]):=by
   simp [qX,mC,mY,af,aI,keyOf,eV,aq]
  refine (aS (bP ed)).trans ((aS (bP (Mj c_i))).trans ?_)
  refine (aS (ρ1:=spR m T v S r) (S1:=fF S (ks,[]) x) ?_).trans (cx (var_eq rfl))
  rw [<- e1]
  simp [ph,fF,spR,aq]
 ·unfold fF;rw [bh];exact⟨_,rfl⟩
theorem Jj (g:Grp m T) (hm:m < 64) (ht : ∀ z∈ths,z < m) (hv:Wk S v ths) : ∃ ks S',_G.run 2 2 spM [tab m T,v] S=some (.tup (aq (srt ks)),S')/\Ex S S'/\Dfs m T ths ks fun _=>False:=by
 obtain⟨ks,S1,e1,x1,q1,d,_⟩:=CI (v:=v) g hm ht hv
 have hl:(kF ks).length < 64:=aN d.len hm
 have e2:mFn eR (aa (mFn (_G.run 2 7 zP) (aa (ab 0) (aa (ab 1) af))) af) [some (tab m T),some v] S=some (.ref S1.length,S1 ++ [.lst (aq (srt (kF ks)))]):=fo (cN (var_eq rfl) (var_eq rfl) e1) (xy (by simp only [tP,gw,q1,qM]) hl)
 exact⟨kF ks,_,cw (ρ := [some (tab m T),some v]) rfl (cx (jg e2)),x1.trans (Ex.push _ _),d⟩
theorem Lp (g:Grp m T) (hm:m < 64) (ht : ∀ z∈ths,z < m) : ∃ ks S',_G.run 2 2 spM [tab m T,.tup (aq ths)] S=some (.tup (aq (srt ks)),S')/\Ex S S'/\Dfs m T ths ks fun _=>False:=Jj g hm ht (.inl rfl)
end
end
end _W
end
section
namespace _W
open _L _G
section
section
variable {m:Nat}{T:Nat->Nat->Nat}
abbrev Lt (m:Nat) (w:List Nat):Prop := ∀ x∈w,x < m
theorem pG (g:Grp m T) {x:Nat} (hx:x < m):unT m T x < m:=(oB g hx).1
theorem Ig (g:Grp m T) {x:Nat} (hx:x < m):T x (unT m T x)=0:=(oB g hx).2.1
theorem IR (g:Grp m T) {x:Nat} (hx:x < m):T (unT m T x) x=0:=(oB g hx).2.2.1
theorem Cy (g:Grp m T) {x y:Nat} (hx:x < m) (hy:y < m) (h:T x y=0):y=unT m T x:=(oB g hx).2.2.2 y hy h
theorem GW (g:Grp m T) {x:Nat} (hx:x < m):unT m T (unT m T x)=x:=(Cy g (pG g hx) hx (IR g hx)).symm
theorem Nu (g:Grp m T):unT m T 0=0:=(Cy g g.pos g.pos (g.l0 0 g.pos)).symm
noncomputable def pre (T:Nat->Nat->Nat) (w:List Nat):List Nat:=(ar w.length).map fun k=>Av T (w.take k)
structure All (m:Nat) (l:List Nat):Prop where
 nd:l.Nodup
 lt:Lt m l
 len:l.length=m
theorem All.map {f:Nat->Nat}{l:List Nat} (h:All m l) (lt : ∀ x,x < m->f x < m) (inj : ∀ x y,x < m->y < m->f x=f y->x=y):All m (l.map f):=by
 refine⟨?_,fun x hx => ?_,by simp [h.len]⟩
 ·rw [bf,eY]
  exact jB (fun ha hb hab e=>hab (inj _ _ (h.lt _ ha) (h.lt _ hb) e)) (bf.mp h.nd)
 ·obtain⟨y,hy,rfl⟩:=aE.mp hx
  exact lt y (h.lt y hy)
structure Rnd (m:Nat) (T:Nat->Nat->Nat) (w:List Nat):Prop where
 home:Av T w=0
 all:All m (pre T w)
structure Gd (T:Nat->Nat->Nat) (st:List Nat) (p:Nod):Prop where
 pl:p.2=plc T p.1
 nd:p.2.Nodup
 by' : ∀ x∈p.1,x∈st
end
theorem q8 {ρ:Rho}{S S1 S2:Sto}{a b:ME}{x y:Bool} (ha:a ρ S=some (.bl x,S1)) (hb:x=true->b ρ S1=some (.bl y,S2)) (hf:x=false->S2=S1):jX a b ρ S=some (.bl (x&&y),S2):=by
 cases x with
 | true=>simp only [jX,ha,aI,hb rfl,Bool.true_and]
 | false=>simp only [jX,ha,aI,hf rfl,Bool.false_and]
theorem Jw {ρ:Rho}{S S1 S2:Sto}{a b:ME}{x y:Bool} (ha:a ρ S=some (.bl x,S1)) (hb:b ρ S1=some (.bl y,S2)) (x1:Ex S S1) (x2:Ex S1 S2) : ∃ S',jX a b ρ S=some (.bl (x&&y),S')/\Ex S S':=by
 cases x with
 | true=>exact⟨S2,q8 ha (fun _=>hb) (fun z=>by cases z),x1.trans x2⟩
 | false=>exact⟨S1,q8 (y:=y) ha (fun z=>by cases z) (fun _=>rfl),x1⟩
theorem wV {α:Type}{f:α->Bool} : ∀ l:List α,dw iE (l.map fun x=>U.bl (f x))=some (l.map f)
 | []=>rfl
 | x::l=>by
   show (iE (U.bl (f x))).bind _=_
   simp only [iE,ai]
   rw [wV l]
   rfl
theorem va {α:Type}{ρ:Rho}{S S1:Sto}{a:ME}{r:Nat}{f:α->Bool}{l:List α} (ha:a ρ S=some (.ref r,S1)) (hr:S1[r]? = some (.lst (l.map fun x=>U.bl (f x)))):mFn lr (aa a af) ρ S=some (.bl (l.all f),S1):=by
 refine fo ha ?_
 simp only [lr,getL,hr,ai,wV,aT]
 congr 2
 simp [List.all_map,Function.comp_def]
section
variable {m:Nat}{T:Nat->Nat->Nat}{st w:List Nat}{S:Sto}
noncomputable def nbM:MS:=bU (jX (m1 (lU "int") (ab 0)) (jX (m1 qW (m1 (lU "bool") (ab 0))) (mCh oLe oLt (mC (.int 0)) (ab 0) (ab 1))))
theorem KD {x n:Nat}:_G.run 2 2 nbM [.int (x:Nat),.int (n:Nat)] S=some (.bl (decide (x < n)),S):=by
 refine cw (ρ := [some (.int (x:Nat)),some (.int (n:Nat))]) rfl (cx ?_)
 have h1:m1 (lU "int") (ab 0) [some (.int (x:Nat)),some (.int (n:Nat))] S=some (.bl true,S):=rfl
 have h2:m1 qW (m1 (lU "bool") (ab 0)) [some (.int (x:Nat)),some (.int (n:Nat))] S=some (.bl true,S):=rfl
 have h3:mCh oLe oLt (mC (.int 0)) (ab 0) (ab 1) [some (.int (x:Nat)),some (.int (n:Nat))] S=some (.bl (decide (x < n)),S):=by
  have v0:ab 0 [some (.int (x:Nat)),some (.int (n:Nat))] S=some (.int (x:Nat),S):=rfl
  have v1:ab 1 [some (.int (x:Nat)),some (.int (n:Nat))] S=some (.int (n:Nat),S):=rfl
  have l:oLe (.int 0) (.int (x:Nat)) S=some (.bl true,S):=by
   show some (U.bl (decide ((0:Int)<=(x:Int))),S)=_
   rw [decide_eq_true (by exact si _)]
  have l2:oLt (.int (x:Nat)) (.int (n:Nat)) S=some (.bl (decide (x < n)),S):=by
   show some (U.bl (decide ((x:Int) < (n:Int))),S)=_
   congr 2
   simp
  simp only [mCh,mC,aI,v0,l,v1,l2]
 exact q8 h1 (fun _=>q8 h2 (fun _=>h3) (fun z=>by cases z)) (fun z=>by cases z)
noncomputable def Nq:MS:=bU (jX (m1 (lU "tuple") (ab 0)) (mFn lr (aa (bR (dq (ab 0)) cTT (mFn (_G.run 2 2 nbM) (aa (ab 2) (aa (ab 1) af)))) af)))
theorem CL {ρ:Rho}{S:Sto}{e a:ME}{l:List Nat}{f:Nat->U} (ha:a ρ S=some (.tup (aq l),S)) (hl:l.length < 10000000) (he : ∀ x∈l,e (ρ ++ [some (.int x)]) S=some (f x,S)):bR (dq a) cTT e ρ S=some (.ref S.length,S ++ [.lst (l.map f)]):=by
 have h:=qE (t:=cTT) (e:=e) (ρ:=ρ) (S:=S) (a:=a) (l:=l) (p:=fun _=>true) (f:=f) ha (by unfold big;exact ao (by assumption) (by decide)) (fun _ _=>rfl) (fun x hx _=>he x hx)
 rwa [pM.mpr (fun _ _=>rfl)] at h
theorem Df {n:Nat} (hl:w.length < 10000000) : ∃ S',_G.run 2 2 Nq [.tup (aq w),.int (n:Nat)] S=some (.bl (w.all fun x=>decide (x < n)),S')/\Ex S S':=by
 have h1:m1 (lU "tuple") (ab 0) [some (.tup (aq w)),some (.int (n:Nat))] S=some (.bl true,S):=isT (var_eq rfl)
 have h2:=CL (e:=mFn (_G.run 2 2 nbM) (aa (ab 2) (aa (ab 1) af))) (ρ := [some (.tup (aq w)),some (.int (n:Nat))]) (S:=S) (a:=ab 0) (l:=w) (f:=fun x => .bl (decide (x < n))) (var_eq rfl) hl (fun x _=>cN (var_eq rfl) (var_eq rfl) KD)
 obtain⟨S',e,x⟩:=Jw h1 (va h2 (bW _ _)) (Ex.refl _) (Ex.push _ _)
 exact⟨S',cw (ρ := [some (.tup (aq w)),some (.int (n:Nat))]) rfl (cx (e.trans (by rw [Bool.true_and]))),x⟩
end
noncomputable def tabS (S:Sto) (n:Nat) (T:Nat->Nat->Nat) (k:Nat):Sto:=S ++ [Cell.lst ((ar k).map (iw n T))]++(ar k).map fun i=>Cell.lst ((ar n).map fun j=>U.int (T i j))
theorem AN {S:Sto}{n k:Nat}{T:Nat->Nat->Nat}:((tabS S n T k) ++ [Cell.lst ((ar n).map fun j=>U.int (T k j))]).set S.length (Cell.lst ((ar k).map (iw n T) ++ [iw n T k]))=tabS S n T (k+1):=by
 unfold tabS
 rw [bh,bh,fX _ _ (aj _),En]
 simp [nY]
noncomputable def tbM (g:ir) (φ:MF):MS:=aZ (bI 2 (cQ af)) (aZ (dF 3 (iR1 (aa (ab 0) af)) (eg (mML dn (ab 2) (aa (mFn b9 (aa (bR (iR1 (aa (ab 0) af)) cTT (s9 1 g φ (aa (ab 3) (aa (ab 4) af)))) af)) af)))) (bU (mFn b9 (aa (ab 2) af))))
theorem z6 {S:Sto}{n k:Nat}{T:Nat->Nat->Nat}:Ex S (tabS S n T k):=⟨_,by unfold tabS;rw [bh]⟩
end
end _W
end
section
namespace _W
open _L _G
section
section
variable {m:Nat}{T:Nat->Nat->Nat}
structure Sn (m:Nat) (T:Nat->Nat->Nat) (p:List Nat):Prop where
 lt:Lt m p
 nd:(plc T p).Nodup
 cl : ∀ x∈plc T p,∀ y∈plc T p,T x y∈plc T p
end
section
variable {m:Nat}{T:Nat->Nat->Nat}{S:Sto}
abbrev Pln (m:Nat) (T:Nat->Nat->Nat):Prop := ∀ i j,i < m->j < m->T i j=T j i
noncomputable def ipM:MS:=aZ (dF 1 (iR1 (aa (mFn bD (aa (ab 0) af)) af)) (sIf (eG (cOf (mFn lr (aa (bR (iR1 (aa (ab 1) af)) cTT (m2 oEq (m2 oIx (m2 oIx (ab 0) (ab 1)) (ab 2)) (m2 oIx (m2 oIx (ab 0) (ab 2)) (ab 1)))) af)))) (bU (mC (.bl false))) bX)) (bU (mC (.bl true)))
theorem Nw (hm:m < 1000) (pl:Pln m T) : ∃ S',_G.run 1 2 ipM [tab m T] S=some (.bl true,S')/\Ex S S':=by
 obtain⟨ρ1,S1,e1,⟨v,rfl⟩,x1⟩:=gR (i:=1) (a:=mFn bD (aa (ab 0) af)) (n:=m) (b:=sIf (eG (cOf (mFn lr (aa (bR (iR1 (aa (ab 1) af)) cTT (m2 oEq (m2 oIx (m2 oIx (ab 0) (ab 1)) (ab 2)) (m2 oIx (m2 oIx (ab 0) (ab 2)) (ab 1)))) af)))) (bU (mC (.bl false))) bX) (ρ := [some (tab m T),none]) (S:=S) (len_tab (var_eq rfl)) (by unfold big;exact ao (by assumption) (by decide))
  (fun _ ρ S'=>(∃ v,ρ = [some (tab m T),v])/\Ex S S') ⟨⟨_,rfl⟩,Ex.refl _⟩ (by
   rintro i ρ S' hi ⟨⟨v,rfl⟩,x⟩
   obtain⟨S2,e2,rfl⟩:=iA (ρ := [some (tab m T),some (.int i)]) (S:=S') (S0:=S') (a:=ab 1) (e:=m2 oEq (m2 oIx (m2 oIx (ab 0) (ab 1)) (ab 2)) (m2 oIx (m2 oIx (ab 0) (ab 2)) (ab 1))) (n:=i) (var_eq rfl) (by unfold big;exact bK (by assumption) (ao (by assumption) (by decide))) (fun j => .bl (decide (T i j=T j i))) (fun _ S2=>S2=S') rfl (by
    rintro j S2 hj rfl
    exact⟨S2,tm (d4 (by exact bK (by assumption) (by assumption)) (dU hi (var_eq rfl) (var_eq rfl)) (var_eq rfl)) (d4 hi (dU (by exact bK (by assumption) (by assumption)) (var_eq rfl) (var_eq rfl)) (var_eq rfl)),rfl⟩)
   have h:=va (f:=fun j=>decide (T i j=T j i)) (l:=ar i) e2 (bW _ _)
   rw [bC.mpr fun j hj=>decide_eq_true (pl i j hi (by have:=bb.mp hj;exact bK (by assumption) (by assumption)))] at h
   exact⟨_,_,(ix (not_eq (of_eq h))).trans rfl,⟨_,rfl⟩,x.trans (Ex.push _ _)⟩)
 exact⟨S1,cw (ρ := [some (tab m T),v]) rfl (show ipM [some (tab m T),none] S=_ from (aS e1).trans (cx rfl)),x1⟩
end
end
end _W
end
section
namespace _W
open _L _G
section
section
variable {m:Nat}{T:Nat->Nat->Nat}{S:Sto}
structure Pg (n most:Nat) (S0:Sto) (ρ:Rho) (S:Sto):Prop where
 h : ∃ m T,ρ = [some (.ref n),some (.int (most:Nat)),some (tab m T)]/\Grp m T/\Pln m T/\m<=most
 st:Stp n S0 S
end
end
end _W
end
section
namespace _W
open _L _G
section
theorem tH : ∀ (l acc:List Int) (x:Int),x∈l.foldl (fun acc x=>if x∈acc then acc else acc ++ [x]) acc↔x∈acc\/x∈l
 | [],acc,x=>by simp
 | y::l,acc,x=>by
   rw [fR,tH l]
   by_cases h:y∈acc
   ·rw [if_pos h,aJ]
    constructor
    ·rintro (z | z)
     ·exact .inl z
     ·exact .inr (.inr z)
    ·rintro (z | rfl | z)
     ·exact .inl z
     ·exact .inl h
     ·exact .inr z
   ·rw [if_neg h,bq,bN,aJ,or_assoc]
theorem zI {l:List Int}{x:Int}:x∈ddp l↔x∈l:=by unfold ddp;rw [tH];simp
theorem t7 : ∀ (l acc:List Int),acc.Nodup->(l.foldl (fun acc x=>if x∈acc then acc else acc ++ [x]) acc).Nodup
 | [],acc,h=>h
 | y::l,acc,h=>by
   rw [fR]
   refine t7 l _ ?_
   by_cases z:y∈acc
   ·rw [if_pos z];exact h
   ·rw [if_neg z];exact lD.mpr ⟨h,by simp,fun a ha b hb=>by simp at hb;rw [hb];exact fun e=>z (e▸ha)⟩
theorem Ja (l:List Int):(ddp l).Nodup:=t7 l [] List.nodup_nil
noncomputable def ddN (l:List Nat):List Nat:=(ddp (d5 l)).map pL
theorem mR (l:List Nat):d5 (ddN l)=ddp (d5 l):=by
 unfold d5 ddN
 rw [fK]
 conv=>rhs;rw [<- vU (ddp (l.map fun (x:Nat)=>(x:Int)))]
 apply de
 intro x hx
 obtain⟨y,_,rfl⟩:=aE.mp (zI.mp hx)
 simp
theorem vb {l:List Nat}{x:Nat}:x∈ddN l↔x∈l:=by
 have h:(x:Int)∈d5 (ddN l)↔(x:Int)∈d5 l:=by rw [mR];exact zI
 have e : ∀ k:List Nat,(x:Int)∈d5 k↔x∈k:=fun k=>by
  unfold d5
  rw [aE]
  constructor
  ·rintro ⟨y,hy,e⟩
   have:y=x:=by omega
   rw [<- this];exact hy
  ·exact fun h=>⟨x,h,rfl⟩
 rw [<- e,<- e];exact h
theorem Di (l:List Nat):(ddN l).Nodup:=by
 have h:(d5 (ddN l)).Nodup:=by rw [mR];exact Ja _
 unfold d5 at h
 exact (eY.mp h).imp fun {a b} hab e=>hab (by rw [e])
theorem N0 {ρ:Rho}{S S1:Sto}{a:ME}{n:Nat}{l:List Nat} (ha:a ρ S=some (.ref n,S1)) (hn:S1[n]? = some (Cell.lst (aq l))) (h1:l.length < 4000) (h2:(ddN l).length < 64):mFn bSS (aa a af) ρ S=some (.ref S1.length,S1 ++ [.lst (aq (srt (ddN l)))]):=by
 refine fo (f:=bSS) ha ?_
 have h3:(ddp (d5 l)).length < 64:=by rw [<- mR];simpa [d5] using h2
 have ok:Gu (d5 l).length (ddp (d5 l)).length:=⟨by simpa [d5] using h1,h3⟩
 simp only [bSS,dS,getL,hn,ai,nH]
 rw [if_pos ok,<- mR,qD]
end
end _W
end
section
namespace _W
open _L _G
section
inductive Smp:U->Prop where
 | non:Smp .non
 | bl (b:Bool):Smp (.bl b)
 | int (i:Int):Smp (.int i)
 | str (x:PySem.Str):Smp (.str x)
 | tup (us:List U):Smp (.tup us)
inductive Thg (S:Sto):U->Prop where
 | non:Thg S .non
 | bl (b:Bool):Thg S (.bl b)
 | int (i:Int):Thg S (.int i)
 | str (x:PySem.Str):Thg S (.str x)
 | tup {us:List U} (h : ∀ v∈us,Smp v) (hl:us.length < 64):Thg S (.tup us)
 | lst {n:Nat}{xs:List U} (h:S[n]? = some (Cell.lst xs)):Thg S (.ref n)
 | dic {n:Nat}{kv:List (_L.Key×U)} (h:S[n]? = some (Cell.dic kv)):Thg S (.ref n)
theorem Cd {w:List Nat} (nd:w.Nodup):(srt w).Pairwise (· < ·):=by
 have h1:(srt w).Pairwise (· <= ·):=by
  unfold srt
  exact eY.mpr ((rQ (d5 w)).imp fun {a b} hab=>by omega)
 exact (h1.and (bf.mp ((oE w).nodup_iff.mpr nd))).imp fun {a b} hab=>by omega
theorem ve {l:List Nat} (h:l.Pairwise (· < ·)):srt l=l:=by
 have h1:(d5 l).Pairwise (· <= ·):=eY.mpr (h.imp fun {a b} hab=>by omega)
 have h2:=ow (List.Perm.refl (d5 l)) h1
 unfold srt
 rw [<- h2]
 unfold d5
 rw [fK]
 conv=>rhs;rw [<- vU l]
 apply de
 intro x _
 simp
theorem GU {l:List Nat} (h:l.Pairwise (· < ·)):l.Nodup:=bf.mpr (h.imp fun {a b} hab=>by exact aG (by assumption))
theorem CD {a b:List Nat} (ha:a.Pairwise (· < ·)) (hb:b.Pairwise (· < ·)) (h : ∀ x,x∈a↔x∈b):a=b:=by
 rw [<- ve ha,<- ve hb]
 exact pf (qh (GU ha) (GU hb) h)
end
end _W
end
section
namespace _W
open _L _G
section
section
variable {m:Nat}{T:Nat->Nat->Nat}{S:Sto}{u:U}{st:List Nat}
theorem ml {ρ:Rho}{S1:Sto}{r:MA}{xs:List U} (h:r ρ S=some (xs,S1)) (hl:xs.length < 1000):cQ r ρ S=some (.ref S1.length,S1 ++ [.lst xs]):=by
 have:xs.length<=big:=by unfold big;omega
 simp only [cQ,h,aI,this,if_true]
theorem tI {g:MG}{b:MS}{n:Nat} (us:List U) (P:Nat->Rho->Sto->Prop) (hl : ∀ k ρ S,P k ρ S->getL S n=some us)
  (st : ∀ (k:Nat) (u:U) (ρ:Rho) (S:Sto),us[k]? = some u->P k ρ S -> ∃ ρ1 S1 ρ' S',g (.tup [.int k,u]) ρ S=some (ρ1,S1)/\b ρ1 S1=some (.nx,ρ',S')/\P (k+1) ρ' S') :
  ∀ (f k:Nat) (ρ:Rho) (S:Sto),k<=us.length->us.length - k < f->P k ρ S -> ∃ ρ' S',pH g b n f k ρ S=some (.nx,ρ',S')/\P us.length ρ' S'
 | 0,k,ρ,S,h1,h2,_=>by omega
 | f+1,k,ρ,S,h1,h2,hp=>by
   unfold pH
   rw [hl k ρ S hp]
   simp only [ai]
   by_cases hk:k < us.length
   ·have hu:us[k]? = some us[k]:=by simp [hk]
    obtain⟨ρ0,S0,ρ1,S1,e0,e1,p1⟩:=st k us[k] ρ S hu hp
    obtain⟨ρ2,S2,e2,p2⟩:=tI us P hl st f (k+1) ρ1 S1 (by assumption) (by omega) p1
    refine⟨ρ2,S2,?_,p2⟩
    simp only [hu,e0,ai,aft,e1,e2]
   ·have:k=us.length:=by omega
    subst this
    exact⟨ρ,S,by simp,hp⟩
end
end
end _W
end
section
namespace _W
open _L _G
section
structure Inj (m:Nat) (f:Nat->Nat):Prop where
 lt : ∀ x,x < m->f x < m
 inj : ∀ x y,x < m->y < m->f x=f y->x=y
section
variable {m:Nat}{f:Nat->Nat}
end
end
end _W
end
section
namespace _W
open _L _G
section
section
variable {m:Nat}{T:Nat->Nat->Nat}{S:Sto}
theorem N3 (hm:m < 1000) (pl : ¬ Pln m T) : ∃ S',_G.run 1 2 ipM [tab m T] S=some (.bl false,S')/\Ex S S':=by
 have key:=Bs (i:=1) (a:=mFn bD (aa (ab 0) af)) (n:=m) (b:=sIf (eG (cOf (mFn lr (aa (bR (iR1 (aa (ab 1) af)) cTT (m2 oEq (m2 oIx (m2 oIx (ab 0) (ab 1)) (ab 2)) (m2 oIx (m2 oIx (ab 0) (ab 2)) (ab 1)))) af)))) (bU (mC (.bl false))) bX) (ρ := [some (tab m T),none]) (S:=S) (len_tab (var_eq rfl)) (by unfold big;omega)
  (fun i=>(ar i).all fun j=>decide (T i j=T j i)) (.bl false) (fun _ ρ S'=>(∃ v,ρ = [some (tab m T),v])/\Ex S S') (fun S'=>Ex S S') ⟨⟨_,rfl⟩,Ex.refl _⟩ (by
   rintro i ρ S' hi ⟨⟨v,rfl⟩,x⟩
   obtain⟨S2,e2,rfl⟩:=iA (ρ := [some (tab m T),some (.int i)]) (S:=S') (S0:=S') (a:=ab 1) (e:=m2 oEq (m2 oIx (m2 oIx (ab 0) (ab 1)) (ab 2)) (m2 oIx (m2 oIx (ab 0) (ab 2)) (ab 1))) (n:=i) (var_eq rfl) (by unfold big;omega) (fun j => .bl (decide (T i j=T j i))) (fun _ S2=>S2=S') rfl (by
    rintro j S2 hj rfl
    exact⟨S2,tm (d4 (by omega) (dU hi (var_eq rfl) (var_eq rfl)) (var_eq rfl)) (d4 hi (dU (by omega) (var_eq rfl) (var_eq rfl)) (var_eq rfl)),rfl⟩)
   have h:=not_eq (of_eq (va (f:=fun j=>decide (T i j=T j i)) (l:=ar i) e2 (bW _ _)))
   refine⟨fun z => ?_,fun z => ?_⟩
   ·rw [z] at h
    exact⟨_,_,(ix h).trans rfl,⟨_,rfl⟩,x.trans (Ex.push _ _)⟩
   ·rw [z] at h
    exact⟨_,_,(qP h).trans (cx rfl),x.trans (Ex.push _ _)⟩)
 rcases key with⟨hall,_⟩ | ⟨_,ρ',S',e,x⟩
 ·refine absurd (fun i j hi hj => ?_) pl
  rcases lE i j with z | z | z
  ·have:=bC.mp (hall j hj) i (bb.mpr z)
   exact (of_decide_eq_true this).symm
  ·rw [z]
  ·have:=bC.mp (hall i hi) j (bb.mpr z)
   exact of_decide_eq_true this
 ·exact⟨S',cw (ρ:=ρ') rfl (show ipM [some (tab m T),none] S=_ from Do e),x⟩
end
end
end _W
end
section
namespace _W
open _L _G
section
section
variable {S:Sto}
end
end
end _W
end
section
namespace _W
open _L _G
section
theorem Am {n:Nat}{T:Nat->Nat->Nat}{S:Sto}{φ:MF} (hn:n < big) (hφ : ∀ i j (S':Sto),Ex S S'->i < n->j < n->φ [.int (i:Nat),.int (j:Nat)] S'=some (.int (T i j:Nat),S')) (g:ir) :
  _G.run 2 4 (tbM g φ) [.int (n:Nat),.obj g] S=some (tab n T,tabS S n T n):=by
 have cell : ∀ k,(tabS S n T k)[S.length]? = some (Cell.lst ((ar k).map (iw n T))):=fun k=>by
  unfold tabS
  rw [bh,aA (aj _)];simp
 obtain⟨ρ1,S1,e1,⟨x,rfl⟩,rfl⟩:=gR (i:=3) (a:=ab 0) (n:=n) (b:=eg (mML dn (ab 2) (aa (mFn b9 (aa (bR (iR1 (aa (ab 0) af)) cTT (s9 1 g φ (aa (ab 3) (aa (ab 4) af)))) af)) af)))
  (ρ := [some (.int n),some (.obj g),some (.ref S.length),none]) (S:=tabS S n T 0) (var_eq rfl) hn
  (fun k ρ S'=>(∃ x,ρ = [some (.int n),some (.obj g),some (.ref S.length),x])/\S'=tabS S n T k) ⟨⟨none,rfl⟩,rfl⟩ (by
   rintro k ρ S' hk ⟨⟨x,rfl⟩,rfl⟩
   obtain⟨S2,e2,h2⟩:=DT (ρ := [some (.int n),some (.obj g),some (.ref S.length),some (.int k)]) (S:=tabS S n T k) (S0:=tabS S n T k) (a:=ab 0) (e:=s9 1 g φ (aa (ab 3) (aa (ab 4) af))) (n:=n) (var_eq rfl) hn (fun j => .int (T k j)) (fun _ S''=>S''=tabS S n T k) rfl (by
    rintro j S'' hj rfl
    refine⟨_,?_,rfl⟩
    show (if g=g then mFn φ (aa (ab 3) (aa (ab 4) af)) _ _ else none)=_
    rw [if_pos rfl]
    exact cN (var_eq rfl) (var_eq rfl) (hφ k j _ z6 hk hj))
   subst h2
   have hl:((ar k).map (iw n T)).length < big:=by rw [aw,ba];exact bK hk hn
   have e3:=append_eq (ρ := [some (.int n),some (.obj g),some (.ref S.length),some (.int k)]) (o:=ab 2) (r:=S.length) (row:=(ar k).map (iw n T)) (var_eq rfl) e2 (cell k) ((Ex.push _ _).some (cell k)) hl
   rw [show yU n (fun j=>U.int (T k j))=iw n T k from rfl,AN] at e3
   exact⟨_,_,e3,⟨_,rfl⟩,rfl⟩)
 have e0:cQ af [some (.int n),some (.obj g),none,none] S=some (.ref S.length,tabS S n T 0):=i8.trans (by simp [tabS])
 have e2:mFn b9 (aa (ab 2) af) [some (.int n),some (.obj g),some (.ref S.length),x] (tabS S n T n)=some (tab n T,tabS S n T n):=lX (var_eq rfl) (cell n)
 exact cw (ρ := [some (.int n),some (.obj g),some (.ref S.length),x]) rfl (show tbM g φ [some (.int n),some (.obj g),none,none] S=_ from (aS (bP e0)).trans ((aS e1).trans (cx e2)))
open PySem in
open PySem in
section
variable {S:Sto}
section
variable {n m r:Nat} (hn:0 < n) (hn2:n < 100) (hm:0 < m) (hm2:m < 100) (hr:r < 100)
include hn hn2 hm hm2 hr
end
end
end
end _W
end
section
namespace _W
open _L _G
section
section
variable {m:Nat}{T:Nat->Nat->Nat}
noncomputable def yE (T:Nat->Nat->Nat) (x n:Nat):Prop:=1<=n/\pw T x n=0 /\ ∀ k,1<=k->k < n->pw T x k≠0
theorem yE.uniq {x a b:Nat} (h:yE T x a) (q:yE T x b):a=b:=by
 rcases lE a b with z | z | z
 ·exact absurd h.2.1 (q.2.2 a h.1 z)
 ·exact z
 ·exact absurd q.2.1 (h.2.2 b q.1 z)
theorem MY (g:Grp m T) {x:Nat} (hx:x < m) : ∃ n,yE T x n/\n<=m:=by
 obtain⟨n,h1,h2,h3,h4⟩:=g.ord hx
 exact⟨n,⟨h1,h3,h4⟩,h2⟩
open Classical in
noncomputable def od (T:Nat->Nat->Nat) (x:Nat):Nat:=if h : ∃ n,yE T x n then choose h else 0
theorem LL (g:Grp m T) {x:Nat} (hx:x < m):yE T x (od T x)/\od T x<=m:=by
 obtain⟨n,h,hn⟩:=MY g hx
 have hh : ∃ n,yE T x n:=⟨n,h⟩
 have e:od T x=Classical.choose hh:=dif_pos hh
 have q:=Classical.choose_spec hh
 rw [<- e] at q
 exact⟨q,by rw [q.uniq h];exact hn⟩
end
end
end _W
end
section
namespace _W
open _L _G
section
theorem FZ {D:List (_L.Key×U)}{k j:_L.Key}{u:U}:jA (j0 D k u) j=if k=j then some u else jA D j:=by
 unfold jA j0
 by_cases h:(D.any fun kv=>decide (kv.1=k))=true
 ·rw [if_pos h]
  induction D with
  | nil=>simp at h
  | cons p D ih=>
    rw [bA,bO]
    by_cases hp:p.1=k
    ·rw [if_pos hp]
     by_cases hk:k=j
     ·subst hk
      simp [hp]
     ·have h1:decide (p.1=j)=false:=decide_eq_false (by rw [hp];exact hk)
      simp only [h1,if_neg hk]
      rw [bO,h1]
      simp only
      by_cases h2:(D.any fun kv=>decide (kv.1=k))=true
      ·have:=ih h2
       rw [if_neg hk] at this
       exact this
      ·have:D.map (fun kv=>if kv.1=k then (kv.1,u) else kv)=D:=by
        conv=>rhs;rw [<- vU D]
        apply de
        intro kv hkv
        have:kv.1≠k:=fun e=>h2 (ck.mpr ⟨kv,hkv,decide_eq_true e⟩)
        simp [this]
       rw [this]
    ·rw [if_neg hp]
     have h2:(D.any fun kv=>decide (kv.1=k))=true:=by
      rw [eh,decide_eq_false hp,Bool.false_or] at h
      exact h
     by_cases hj:p.1=j
     ·have hk:k≠j:=fun e=>hp (hj.trans e.symm)
      rw [if_neg hk,bO]
      simp [hj]
     ·have h1:decide (p.1=j)=false:=decide_eq_false hj
      rw [h1,bO,h1]
      simp only
      exact ih h2
 ·rw [if_neg h,List.find?_append]
  by_cases hk:k=j
  ·subst hk
   have:D.find? (fun kv=>decide (kv.1=k))=none:=by
    rw [List.find?_eq_none]
    intro kv hkv hd
    exact h (ck.mpr ⟨kv,hkv,hd⟩)
   rw [this,if_pos rfl]
   simp
  ·rw [if_neg hk]
   have : [((k,u):_L.Key×U)].find? (fun kv=>decide (kv.1=j))=none:=by simp [hk]
   rw [this,Option.or_none]
theorem DB {D:List (_L.Key×U)}{k:_L.Key}{u:U}:(j0 D k u).length<=D.length+1:=by
 unfold j0
 split
 ·simp
 ·simp
noncomputable def pO (D:List (_L.Key×U)) (xs:List Nat) (v:Nat):List (_L.Key×U):=xs.foldl (fun D (x:Nat)=>j0 D (.inl (x:Int)) (.int (v:Nat))) D
theorem qw {v:Nat} : ∀ {xs:List Nat}{D:List (_L.Key×U)},(pO D xs v).length<=D.length+xs.length
 | [],D=>by simp [pO]
 | x::xs,D=>by
   have h1:=qw (v:=v) (xs:=xs) (D:=j0 D (.inl (x:Int)) (.int (v:Nat)))
   have h2:=DB (D:=D) (k := .inl (x:Int)) (u := .int (v:Nat))
   show (pO (j0 D (.inl (x:Int)) (.int (v:Nat))) xs v).length<=_
   simp only [dA];omega
theorem xO {v x:Nat} : ∀ {xs:List Nat}{D:List (_L.Key×U)},jA (pO D xs v) (.inl (x:Int))=if x∈xs then some (.int (v:Nat)) else jA D (.inl (x:Int))
 | [],D=>by simp [pO]
 | y::xs,D=>by
   show jA (pO (j0 D (.inl (y:Int)) (.int (v:Nat))) xs v) _=_
   rw [xO,FZ]
   by_cases h:x∈xs
   ·simp [h]
   ·by_cases e:y=x
    ·subst e;simp
    ·have:(eM (y:Int):_L.Key) ≠ .inl (x:Int):=fun z=>e (by injection z with z;omega)
     simp [h,this,d7 e]
structure Sbg (m:Nat) (T:Nat->Nat->Nat) (P:List Nat):Prop where
 z:0∈P
 lt : ∀ x∈P,x < m
 cl : ∀ a∈P,∀ b∈P,T a b∈P
section
variable {m:Nat}{T:Nat->Nat->Nat}{P:List Nat}
theorem Sbg.inv (h:Sbg m T P) (g:Grp m T) {a:Nat} (ha:a∈P) : ∃ b,b∈P/\T b a=0/\T a b=0:=by
 have ham:=h.lt a ha
 obtain⟨⟨n1,n2,_⟩,_⟩:=LL g ham
 have pin : ∀ k,pw T a k∈P:=fun k=>by
  induction k with
  | zero=>exact h.z
  | succ k ih=>exact h.cl _ ih _ ha
 have e:T (pw T a (od T a - 1)) a=0:=by
  show pw T a (od T a - 1+1)=0
  rw [Nat.sub_add_cancel n1];exact n2
 refine⟨pw T a (od T a - 1),pin _,e,?_⟩
 obtain⟨j,hj,h1,h2⟩:=g.inv a ham
 have:pw T a (od T a - 1)=j:=g.cancelR ham (oC g ham _) hj (e.trans h2.symm)
 rw [this];exact h1
theorem Dfs.sbg {ths ks:List Nat} (g:Grp m T) (ht : ∀ z∈ths,z < m) (d:Dfs m T ths ks fun _=>False):Sbg m T (srt ks) where
 z:=ek.mpr d.z
 lt:=fun x hx=>d.lt x (ek.mp hx)
 cl:=fun a ha b hb=>by
  have ha:=ek.mp ha
  have ham:=d.lt a ha
  refine ek.mpr ?_
  have rb:=d.rc b (ek.mp hb)
  have key:T a b∈ks/\b < m:=by
   clear hb
   induction rb with
   | zero=>rw [g.r0 a ham];exact⟨ha,g.pos⟩
   | step _ hy ih=>
     rename_i x y hr
     obtain⟨h1,hx⟩:=ih
     refine⟨?_,g.cl _ _ hx (ht _ hy)⟩
     rw [<- g.as a x y ham hx (ht y hy)]
     exact ((d.cl _ h1).resolve_left id) _ hy
  exact key.1
theorem vg (h:Sbg m T P) (g:Grp m T) {b:Bool}{x:Nat} (hx:x < m):x∈ff T P b x:=by
 refine aE.mpr ⟨0,h.z,?_⟩
 cases b
 ·exact g.l0 x hx
 ·exact g.r0 x hx
theorem yJ (h:Sbg m T P) (g:Grp m T) {b:Bool}{x y:Nat} (hx:x < m) (hy:y∈ff T P b x):y < m /\ ∀ z,z∈ff T P b y↔z∈ff T P b x:=by
 obtain⟨p,hp,rfl⟩:=aE.mp hy
 have hpm:=h.lt p hp
 obtain⟨p',hp',i1,i2⟩:=h.inv g hp
 have hpm':=h.lt p' hp'
 cases b with
 | true=>
   refine⟨g.cl _ _ hx hpm,fun z=>⟨fun hz => ?_,fun hz => ?_⟩⟩
   ·obtain⟨q,hq,rfl⟩:=aE.mp hz
    have hqm:=h.lt q hq
    exact aE.mpr ⟨T p q,h.cl p hp q hq,(g.as x p q hx hpm hqm).symm⟩
   ·obtain⟨q,hq,rfl⟩:=aE.mp hz
    have hqm:=h.lt q hq
    refine aE.mpr ⟨T p' q,h.cl p' hp' q hq,?_⟩
    show T (T x p) (T p' q)=T x q
    rw [g.as x p _ hx hpm (g.cl _ _ hpm' hqm),<- g.as p p' q hpm hpm' hqm,i2,g.l0 q hqm]
 | false=>
   refine⟨g.cl _ _ hpm hx,fun z=>⟨fun hz => ?_,fun hz => ?_⟩⟩
   ·obtain⟨q,hq,rfl⟩:=aE.mp hz
    have hqm:=h.lt q hq
    exact aE.mpr ⟨T q p,h.cl q hq p hp,g.as q p x hqm hpm hx⟩
   ·obtain⟨q,hq,rfl⟩:=aE.mp hz
    have hqm:=h.lt q hq
    refine aE.mpr ⟨T q p',h.cl q hq p' hp',?_⟩
    show T (T q p') (T p x)=T q x
    rw [g.as q p' _ hqm hpm' (g.cl _ _ hpm hx),<- g.as p' p x hpm' hpm hx,i1,g.l0 x hx]
end
structure Prt (r:Nat->List Nat) (k:Nat):Prop where
 gone : ∀ y,y∈(sdF r k).2 ↔ ∃ i,i < k/\y∈r i
 cov : ∀ i,i < k -> ∃ s∈(sdF r k).1,∀ z,z∈s↔z∈r i
 dis:(sdF r k).1.Pairwise fun s t => ∀ y,y∈s->y∉t
theorem DX {r:Nat->List Nat}{m:Nat} (self : ∀ i,i < m->i∈r i) (cos : ∀ i,i < m -> ∀ y∈r i,y < m /\ ∀ z,z∈r y↔z∈r i) : ∀ k,k<=m->Prt r k
 | 0,_=>⟨fun y=>by simp [sdF],fun i hi=>by omega,by simp [sdF]⟩
 | k+1,hk=>by
   have ih:=DX self cos k (by omega)
   have hkm:k < m:=hk
   by_cases hin:k∈(sdF r k).2
   ·obtain⟨i,hi,hki⟩:=(ih.gone k).mp hin
    have same:=(cos i (by omega) k hki).2
    have e:sdF r (k+1)=sdF r k:=by rw [sdF,if_pos hin]
    refine⟨?_,?_,?_⟩
    ·intro y
     rw [e,ih.gone y]
     constructor
     ·rintro ⟨j,hj,h⟩;exact⟨j,by omega,h⟩
     ·rintro ⟨j,hj,h⟩
      rcases fj.mp hj with q | q
      ·exact⟨j,q,h⟩
      ·subst q;exact⟨i,hi,(same y).mp h⟩
    ·intro j hj
     rw [e]
     rcases fj.mp hj with q | q
     ·exact ih.cov j q
     ·subst q
      obtain⟨s,hs,hz⟩:=ih.cov i hi
      exact⟨s,hs,fun z=>(hz z).trans (same z).symm⟩
    ·rw [e];exact ih.dis
   ·have e:sdF r (k+1)=((sdF r k).1 ++ [srt (r k)],(sdF r k).2++r k):=by rw [sdF,if_neg hin]
    refine⟨?_,?_,?_⟩
    ·intro y
     rw [e]
     show y∈(sdF r k).2++r k↔_
     rw [bq,ih.gone y]
     constructor
     ·rintro (⟨j,hj,h⟩ | h)
      ·exact⟨j,by omega,h⟩
      ·exact⟨k,by omega,h⟩
     ·rintro ⟨j,hj,h⟩
      rcases fj.mp hj with q | q
      ·exact .inl ⟨j,q,h⟩
      ·subst q;exact .inr h
    ·intro j hj
     rw [e]
     rcases fj.mp hj with q | q
     ·obtain⟨s,hs,hz⟩:=ih.cov j q
      exact⟨s,bB _ hs,hz⟩
     ·subst q
      exact⟨srt (r j),by simp,fun z=>ek⟩
    ·rw [e]
     show ((sdF r k).1 ++ [srt (r k)]).Pairwise _
     rw [EA]
     refine⟨ih.dis,by simp,fun s hs t ht y hy hyt => ?_⟩
     have:t=srt (r k):=by simpa using ht
     subst this
     obtain⟨i,hi,rfl⟩:=iK hs
     have h1:=ek.mp hy
     have h2:=ek.mp hyt
     have c1:=(cos i (by omega) y h1).2
     have c2:=(cos k hkm y h2).2
     exact hin ((ih.gone k).mpr ⟨i,hi,(c1 k).mp ((c2 k).mpr (self k hkm))⟩)
noncomputable def nbr (ls:List (List Nat)) (y:Nat):Nat:=ls.findIdx fun s=>decide (y∈s)
structure Sds (m:Nat) (ls:List (List Nat)):Prop where
 cov : ∀ y,y < m -> ∃ s∈ls,y∈s
 dis:ls.Pairwise fun s t => ∀ y,y∈s->y∉t
theorem Sds.nb {m:Nat}{ls:List (List Nat)} (h:Sds m ls) {y:Nat} (hy:y < m):nbr ls y < ls.length/\y∈ls.getD (nbr ls y) []:=by
 obtain⟨s,hs,hys⟩:=h.cov y hy
 have hl:nbr ls y < ls.length:=List.findIdx_lt_length_of_exists ⟨s,hs,decide_eq_true hys⟩
 refine⟨hl,?_⟩
 have:=List.findIdx_getElem (w:=hl)
 rw [bc,ay hl]
 exact of_decide_eq_true this
theorem Sds.uniq {m:Nat}{ls:List (List Nat)} (h:Sds m ls) {y i j:Nat} (hi:i < ls.length) (hj:j < ls.length) (h1:y∈ls.getD i []) (h2:y∈ls.getD j []):i=j:=by
 rw [bc,ay hi] at h1
 rw [bc,ay hj] at h2
 rcases lE i j with q | q | q
 ·exact absurd h2 (lh.mp h.dis i j hi hj q y h1)
 ·exact q
 ·exact absurd h1 (lh.mp h.dis j i hj hi q y h2)
theorem Sds.nb_of {m:Nat}{ls:List (List Nat)} (h:Sds m ls) {y i:Nat} (hy:y < m) (hi:i < ls.length) (h1:y∈ls.getD i []):nbr ls y=i:=h.uniq (h.nb hy).1 hi (h.nb hy).2 h1
noncomputable def dN (ls:List (List Nat)):Nat->List (_L.Key×U)
 | 0 => []
 | k+1=>pO (dN ls k) (ls.getD k []) k
theorem yu {m:Nat}{ls:List (List Nat)} (h:Sds m ls) {y:Nat} (hy:y < m) : ∀ k,k<=ls.length->jA (dN ls k) (.inl (y:Int))=if nbr ls y < k then some (.int (nbr ls y:Nat)) else none
 | 0,_=>rfl
 | k+1,hk=>by
   rw [dN,xO,yu h hy k (by omega)]
   by_cases q:y∈ls.getD k []
   ·rw [if_pos q,h.nb_of hy (by omega) q,if_pos (cg k)]
   ·rw [if_neg q]
    have:nbr ls y≠k:=fun e=>q (e▸(h.nb hy).2)
    by_cases z:nbr ls y < k
    ·rw [if_pos z,if_pos (by omega)]
    ·rw [if_neg z,if_neg (by omega)]
section
variable {m:Nat}{T:Nat->Nat->Nat}{P:List Nat}
theorem eU (h:Sbg m T P) (g:Grp m T) {b:Bool}:Sds m (aM m T P b):=by
 have p:=DX (r:=ff T P b) (fun i hi=>vg h g hi) (fun i hi y hy=>yJ h g hi hy) m (aj _)
 exact⟨fun y hy=>by obtain⟨s,hs,hz⟩:=p.cov y hy;exact⟨s,hs,(hz y).mpr (vg h g hy)⟩,p.dis⟩
theorem fk (h:Sbg m T P) (g:Grp m T) {b:Bool}{i:Nat} (hi:i < (aM m T P b).length) {x:Nat} (hx:x∈(aM m T P b).getD i []):x < m /\ ∀ z,z∈(aM m T P b).getD i []↔z∈ff T P b x:=by
 have e:(aM m T P b).getD i []=(aM m T P b)[i]:=by rw [bc,ay hi];rfl
 rw [e] at hx ⊢
 obtain⟨k,hk,q⟩:=iK (cY hi:(aM m T P b)[i]∈aM m T P b)
 rw [q] at hx ⊢
 obtain⟨h1,h2⟩:=yJ h g hk (ek.mp hx)
 exact⟨h1,fun z=>ek.trans (h2 z).symm⟩
theorem DP (h:Sbg m T P) (g:Grp m T) (hlv:aM m T P true=aM m T P false) {i j a b c d:Nat} (hi:i < (aM m T P true).length) (hj:j < (aM m T P true).length) (ha:a∈(aM m T P true).getD i []) (hb:b∈(aM m T P true).getD j []) (hc:c∈(aM m T P true).getD i []) (hd:d∈(aM m T P true).getD j []) :
  nbr (aM m T P true) (T a b)=nbr (aM m T P true) (T c d):=by
 have sd:=eU (b:=true) h g
 obtain⟨am,as⟩:=fk h g hi ha
 obtain⟨bm,bs⟩:=fk h g hj hb
 obtain⟨cm,_⟩:=fk h g hi hc
 obtain⟨dm,_⟩:=fk h g hj hd
 obtain⟨p,hp,e1⟩:=aE.mp ((as c).mp hc)
 have e1:T a p=c:=e1
 have hpm:=h.lt p hp
 have hd':d∈(aM m T P false).getD j []:=hlv▸hd
 have hj':j < (aM m T P false).length:=hlv▸hj
 obtain⟨_,ds⟩:=fk h g hj' hd'
 have hpd:T p d∈(aM m T P false).getD j []:=(ds _).mpr (aE.mpr ⟨p,hp,rfl⟩)
 rw [<- hlv] at hpd
 obtain⟨q,hq,e2⟩:=aE.mp ((bs _).mp hpd)
 have e2:T b q=T p d:=e2
 have hqm:=h.lt q hq
 have hab:=g.cl a b am bm
 have e3:T c d=T (T a b) q:=by rw [<- e1,g.as a p d am hpm dm,<- e2,g.as a b q am bm hqm]
 obtain⟨n1,n2⟩:=sd.nb hab
 have hcd:T c d∈(aM m T P true).getD (nbr (aM m T P true) (T a b)) []:=by
  rw [(fk h g n1 n2).2,e3]
  exact aE.mpr ⟨q,hq,rfl⟩
 exact (sd.nb_of (g.cl c d cm dm) n1 hcd).symm
end
end
end _W
end
namespace _W
open PySem PySem.Spec _L _G
section
noncomputable def nE:MS:=bU (mFn b9 (aa (bR (iR1 (aa (mFn bu (aa (ab 0) (aa (m2 cZ (ab 2) (mC (.int 1))) af))) af)) cTT (mFn bu (aa (ab 0) (aa (mFn bD (aa (ab 1) af)) af)))) af))
noncomputable def fg:MF:=run 3 3 nE
noncomputable def zS:MS:=aZ (bI 2 (qX (mC (.int 0)) (mY af))) (aZ (bI 3 (cQ (aa (mC (.int 0)) af))) (aZ (ph (cOf (m2 oGt (mFn bD (aa (ab 3) af)) (mC (.int 0)))) (aZ (bI 4 (mML uR (ab 3) af)) (dF 5 (dq (ab 1)) (aZ (bI 6 (m2 oIx (m2 oIx (ab 0) (ab 4)) (ab 5))) (sIf (cOf (m2 eJ (ab 6) (ab 2))) (aZ (eF (ab 2) (ab 6) (m2 cZ (m2 oIx (ab 2) (ab 4)) (mY (aa (ab 5) af)))) (eg (mML dn (ab 3) (aa (ab 6) af)))) bX))))) (bU (ab 2))))
noncomputable def zE:MF:=run 2 7 zS
noncomputable def BY:MS:=bU (mFn b9 (aa (mFn eR (aa (mFn zE (aa (ab 0) (aa (ab 1) af))) af)) af))
noncomputable def gJ:MF:=run 2 2 BY
noncomputable def jG:MS:=bU (jX (m1 (lU "int") (ab 0)) (jX (m1 qW (m1 (lU "bool") (ab 0))) (mCh oLe oLt (mC (.int 0)) (ab 0) (ab 1))))
noncomputable def jN:MF:=run 2 2 jG
noncomputable def i4:MS:=bU (jX (m1 (lU "tuple") (ab 0)) (mFn lr (aa (bR (dq (ab 0)) cTT (mFn jN (aa (ab 2) (aa (ab 1) af)))) af)))
noncomputable def dy:MF:=run 2 2 i4
noncomputable def tR:MS:=bU (jX (mFn dy (aa (ab 1) (aa (mFn bD (aa (ab 0) af)) af))) (m2 oEq (mFn gJ (aa (ab 0) (aa (ab 1) af))) (ab 1)))
noncomputable def gO:MF:=run 2 2 tR
noncomputable def wG (g:ir) (φ:MF):MS:=aZ (bI 2 (cQ af)) (aZ (bI 3 om) (aZ (dF 4 (dq (ab 0)) (sIf (cOf (m2 eJ (ab 4) (ab 3))) (aZ (bI 5 (s9 1 g φ (aa (ab 4) af))) (aZ (eg (mML dn (ab 2) (aa (ab 5) af))) (dF 6 (dq (ab 5)) (eF (ab 3) (ab 6) (mC (.bl true)))))) bX)) (bU (ab 2))))
noncomputable def qB (g:ir) (φ:MF):MF:=run 2 7 (wG g φ)
noncomputable def og:MS:=bU (qz (iR1 (aa (mFn bD (aa (ab 0) af)) af)))
noncomputable def kB:MF:=run 1 1 og
noncomputable def ox:MS:=bU (jW qB 1 [0,1] (mFn b9 (aa (mFn eR (aa (bR (dq (ab 2)) cTT (m2 oIx (m2 oIx (ab 1) (ab 0)) (ab 3))) af)) af)) (mFn kB (aa (ab 0) af)))
noncomputable def dc:MF:=run 2 2 ox
noncomputable def nj:MS:=bU (jW qB 1 [0,1] (mFn b9 (aa (mFn eR (aa (bR (dq (ab 2)) cTT (m2 oIx (m2 oIx (ab 1) (ab 3)) (ab 0))) af)) af)) (mFn kB (aa (ab 0) af)))
noncomputable def fq:MF:=run 2 2 nj
noncomputable def um:MS:=aZ (bI 1 (cQ af)) (aZ (dF 2 (dq (ab 0)) (bI 1 (m2 cZ (ab 1) (mFn lT (aa (ab 2) af))))) (bU (mFn eR (aa (ab 1) af))))
noncomputable def kj:MF:=run 1 3 um
noncomputable def jI:MS:=aZ (bI 2 (mFn dc (aa (ab 0) (aa (ab 1) af)))) (aZ (bI 3 (mFn fq (aa (ab 0) (aa (ab 1) af)))) (aZ (dF 4 (dq (cQ (aa (ab 2) (aa (ab 3) af)))) (aZ (sIf (cOr (cOf (m2 oNe (bR (dq (ab 4)) (cOf (m2 oNe (mFn bD (aa (ab 5) af)) (mFn bD (aa (ab 1) af)))) (ab 5)) (cQ af))) (cOf (m2 eJ (ab 1) (ab 4)))) (bU (mC (.bl false))) bX) (sIf (cOf (m2 oNe (mFn kj (aa (ab 4) af)) (hZ (iR1 (aa (mFn bD (aa (ab 0) af)) af))))) (bU (mC (.bl false))) bX))) (bU (m2 oEq (mFn bD (aa (ab 2) af)) (mFn bD (aa (ab 3) af))))))
noncomputable def ej:MF:=run 2 5 jI
noncomputable def nD:MS:=bU (m2 oEq (mFn dc (aa (ab 0) (aa (ab 1) af))) (mFn fq (aa (ab 0) (aa (ab 1) af))))
noncomputable def gI:MF:=run 2 2 nD
noncomputable def jr:MS:=aZ (bI 2 om) (aZ (tL (gTp 2 (j4 (gN 3) (j4 (gN 4) wx))) (rR (aa (mFn dc (aa (ab 0) (aa (ab 1) af))) af)) (dF 5 (dq (ab 4)) (eF (ab 2) (ab 5) (ab 3)))) (bU (ab 2)))
noncomputable def eT:MF:=run 2 6 jr
noncomputable def rA (g:ir) (φ:MF):MS:=aZ (bI 2 (cQ af)) (aZ (dF 3 (iR1 (aa (ab 0) af)) (eg (mML dn (ab 2) (aa (mFn b9 (aa (bR (iR1 (aa (ab 0) af)) cTT (s9 1 g φ (aa (ab 3) (aa (ab 4) af)))) af)) af)))) (bU (mFn b9 (aa (ab 2) af))))
noncomputable def qO (g:ir) (φ:MF):MF:=run 2 4 (rA g φ)
noncomputable def kN:MS:=aZ (sIf (eG (cOf (mFn gI (aa (ab 0) (aa (ab 1) af))))) sNo bX) (aZ (bI 2 (bR (dq (mFn dc (aa (ab 0) (aa (ab 1) af)))) cTT (m2 oIx (ab 4) (mC (.int 0))))) (aZ (bI 3 (mFn eT (aa (ab 0) (aa (ab 1) af)))) (bU (jW qO 2 [0,2,3] (m2 oIx (ab 4) (m2 oIx (m2 oIx (ab 2) (m2 oIx (ab 3) (ab 0))) (m2 oIx (ab 3) (ab 1)))) (mFn bD (aa (ab 2) af))))))
noncomputable def ic:MF:=run 2 4 kN
noncomputable def rY:MS:=bU (mMT iI (m2 oIx (ab 0) (ab 1)) (aa (mC (.int 0)) af))
noncomputable def km:MF:=run 2 2 rY
noncomputable def rH:MS:=aZ (dF 1 (iR1 (aa (mFn bD (aa (ab 0) af)) af)) (sIf (eG (cOf (mFn lr (aa (bR (iR1 (aa (ab 1) af)) cTT (m2 oEq (m2 oIx (m2 oIx (ab 0) (ab 1)) (ab 2)) (m2 oIx (m2 oIx (ab 0) (ab 2)) (ab 1)))) af)))) (bU (mC (.bl false))) bX)) (bU (mC (.bl true)))
noncomputable def dh:MF:=run 1 2 rH
noncomputable def o5:MS:=bU (m2 oIx (mFn eT (aa (ab 0) (aa (ab 1) af))) (ab 2))
noncomputable def ja:MF:=run 3 3 o5
noncomputable def nS:MS:=aZ (sIf (cOr (eG (cOf (m1 (lU "tuple") (ab 0)))) (eG (cOf (mCh oLe oLe (mC (.int 1)) (mFn bD (aa (ab 0) af)) (mC (.int 24)))))) (bU (mC (.bl false))) bX) (aZ (bI 1 (mFn bD (aa (ab 0) af))) (bU (mFn lr (aa (bR (dq (ab 0)) cTT (jX (mFn dy (aa (ab 2) (aa (ab 1) af))) (m2 oEq (mFn bD (aa (ab 2) af)) (ab 1)))) af))))
noncomputable def kA:MF:=run 1 2 nS
noncomputable def fh:MS:=bU (jX (m2 oEq (m2 oIx (m2 oIx (ab 0) (mC (.int 0))) (ab 1)) (ab 1)) (m2 oEq (m2 oIx (m2 oIx (ab 0) (ab 1)) (mC (.int 0))) (ab 1)))
noncomputable def dv:MF:=run 2 2 fh
noncomputable def kE:MS:=bU (mFn yN (aa (bR (iR1 (aa (mFn bD (aa (ab 0) af)) af)) cTT (jX (m2 oEq (m2 oIx (m2 oIx (ab 0) (ab 1)) (ab 2)) (mC (.int 0))) (m2 oEq (m2 oIx (m2 oIx (ab 0) (ab 2)) (ab 1)) (mC (.int 0))))) af))
noncomputable def ib:MF:=run 2 2 kE
noncomputable def jZ:MS:=aZ (bI 3 (m2 oIx (ab 0) (m2 oIx (m2 oIx (ab 0) (ab 1)) (ab 2)))) (bU (mFn lr (aa (bR (iR1 (aa (mFn bD (aa (ab 0) af)) af)) cTT (m2 oEq (m2 oIx (ab 3) (ab 4)) (m2 oIx (m2 oIx (ab 0) (ab 1)) (m2 oIx (m2 oIx (ab 0) (ab 2)) (ab 4))))) af)))
noncomputable def fv:MF:=run 3 4 jZ
noncomputable def nQ:MS:=aZ (sIf (eG (cOf (mFn kA (aa (ab 0) af)))) (bU (mC (.bl false))) bX) (aZ (dF 1 (iR1 (aa (mFn bD (aa (ab 0) af)) af)) (aZ (sIf (cOr (eG (cOf (mFn dv (aa (ab 0) (aa (ab 1) af))))) (eG (cOf (mFn ib (aa (ab 0) (aa (ab 1) af)))))) (bU (mC (.bl false))) bX) (sIf (eG (cOf (mFn lr (aa (bR (iR1 (aa (mFn bD (aa (ab 0) af)) af)) cTT (mFn fv (aa (ab 0) (aa (ab 1) (aa (ab 2) af))))) af)))) (bU (mC (.bl false))) bX))) (bU (mC (.bl true))))
noncomputable def iD:MF:=run 1 2 nQ
noncomputable def jF:MS:=aZ (bI 2 (cQ af)) (aZ (dF 3 (iR1 (aa (mFn bD (aa (ab 0) af)) af)) (aZ (bI 4 (mFn km (aa (ab 0) (aa (ab 3) af)))) (eg (mML iN (ab 2) (aa (bR (dq (ab 1)) cTT (m2 oIx (m2 oIx (ab 0) (m2 oIx (m2 oIx (ab 0) (ab 3)) (ab 11))) (ab 4))) af))))) (aZ (bI 5 (mFn gI (aa (ab 0) (aa (ab 1) af)))) (aZ (sIf (cOf (m2 oNe (ab 5) (m2 oEq (mFn bSS (aa (ab 2) af)) (mFn lT (aa (ab 1) af))))) (bU (mC (.bl false))) bX) (aZ (sIf (lu (cOf (m2 oEq (m2 fG (mC (.int 2)) (mFn bD (aa (ab 1) af))) (mFn bD (aa (ab 0) af)))) (eG (cOf (ab 5)))) (bU (mC (.bl false))) bX) (aZ (sIf (eG (cOf (ab 5))) (bU (m1 qW (mFn dh (aa (ab 0) af)))) bX) (aZ (bI 6 (mFn ic (aa (ab 0) (aa (ab 1) af)))) (aZ (sIf (cOr (eG (cOf (mFn iD (aa (ab 6) af)))) (cOf (m2 oNe (m2 fG (mFn bD (aa (ab 6) af)) (mFn bD (aa (ab 1) af))) (mFn bD (aa (ab 0) af))))) (bU (mC (.bl false))) bX) (aZ (sIf (lu (cOf (mFn dh (aa (ab 0) af))) (eG (cOf (mFn dh (aa (ab 6) af))))) (bU (mC (.bl false))) bX) (aZ (bI 7 (bR (iR1 (aa (mFn bD (aa (ab 0) af)) af)) cTT (mFn ja (aa (ab 0) (aa (ab 1) (aa (ab 11) af)))))) (aZ (dF 8 (iR1 (aa (mFn bD (aa (ab 0) af)) af)) (dF 9 (iR3 (aa (mC (.int 0)) (aa (mFn bD (aa (ab 0) af)) (aa (m2 cZ (mC (.int 1)) (m2 oDiv (mFn bD (aa (ab 0) af)) (mC (.int 9)))) af)))) (aZ (bI 10 (m2 oIx (m2 oIx (ab 6) (m2 oIx (ab 7) (ab 8))) (m2 oIx (ab 7) (ab 9)))) (sIf (cOf (m2 oNe (m2 oIx (ab 7) (m2 oIx (m2 oIx (ab 0) (ab 8)) (ab 9))) (ab 10))) (bU (mC (.bl false))) bX)))) (bU (mC (.bl true)))))))))))))
noncomputable def eA:MF:=run 2 11 jF
noncomputable def Hv:MS:=aZ (dF 1 (iR1 (aa (mFn xq (aa (mC (.int 1)) (aa (mFn wX (aa (mFn bD (aa (ab 0) af)) (aa (mC (.int 5)) af))) af))) af)) (aZ (bI 2 (mFn jO (aa (ab 0) (aa (ab 1) af)))) (aZ (bI 3 (mFn gK (aa (ab 2) (aa (m2 oIx (cQ (aa (mC (.int 8)) (aa (mC (.int 12)) (aa (mC (.int 24)) af)))) (mFn bu (aa (ab 2) (aa (mC (.int 3)) af)))) af)))) (aZ (bI 4 (mFn fg (aa (ab 2) (aa (ab 3) (aa (mC (.int 2)) af))))) (aZ (bI 5 (mFn gJ (aa (ab 3) (aa (ab 4) af)))) (aZ (bI 6 (mFn gJ (aa (ab 3) (aa (m2 cZ (ab 4) (mFn fg (aa (ab 2) (aa (ab 3) (aa (mC (.int 1)) af))))) af)))) (aZ (bI 7 (bR (dq (ab 4)) (cOf (m2 eJ (ab 9) (ab 5))) (ab 9))) (aZ (eg (mML iN (ab 7) (aa (bR (dq (ab 5)) (cOf (m2 eJ (ab 9) (ab 6))) (ab 9)) af))) (aZ (sIf (cOr (cOf (m2 oNe (ab 7) (cQ af))) (cOr (eG (cOf (mFn gO (aa (ab 3) (aa (ab 5) af))))) (cOf (m2 oNe (mFn gJ (aa (ab 3) (aa (ab 5) af))) (ab 5))))) (bU (mC (.bl false))) bX) (aZ (sIf (cOr (eG (cOf (mFn gO (aa (ab 3) (aa (ab 6) af))))) (cOf (m2 oNe (m2 oMod (mFn bD (aa (ab 6) af)) (mFn bD (aa (ab 5) af))) (mC (.int 0))))) (bU (mC (.bl false))) bX) (dF 8 (dq (cQ (aa (ab 5) (aa (ab 6) af)))) (sIf (cOr (eG (cOf (mFn ej (aa (ab 3) (aa (ab 8) af))))) (eG (cOf (mFn eA (aa (ab 3) (aa (ab 8) af)))))) (bU (mC (.bl false))) bX)))))))))))) (bU (mC (.bl true)))
noncomputable def LJ:MF:=run 1 9 Hv
end
section
open _L _G
section
variable {m:Nat}{T:Nat->Nat->Nat}{S:Sto}
theorem Nr (g:Grp m T) {i:Nat} (hi:i < m):km [tab m T,.int i] S=some (.int (unT m T i),S):=by
 have h0:=IK g hi
 have e:=dU (ρ := [some (tab m T),some (.int i)]) (S:=S) (a:=ab 0) (b:=ab 1) hi (var_eq rfl) (var_eq rfl)
 rw [xj] at e
 exact cw (ρ := [some (tab m T),some (.int i)]) rfl (show rY [some (tab m T),some (.int i)] S=_ from cx (xu (x:=0) e c_i h0))
theorem Iw (hm:m < 1000) : ∃ b S',dh [tab m T] S=some (.bl b,S')/\Ex S S'/\(b=true↔Pln m T):=by
 by_cases pl:Pln m T
 ·obtain⟨S1,e1,x1⟩:=Nw (S:=S) hm pl
  exact⟨true,S1,e1,x1,⟨fun _=>pl,fun _=>rfl⟩⟩
 ·obtain⟨S1,e1,x1⟩:=N3 (S:=S) hm pl
  exact⟨false,S1,e1,x1,⟨fun z=>absurd z bM,fun z=>absurd z pl⟩⟩
theorem NH (g:Grp m T) (hm:m<=24) : ∃ S',kA [tab m T] S=some (.bl true,S')/\Ex S S':=by
 have c1:eG (cOf (m1 (lU "tuple") (ab 0))) [some (tab m T),none] S=some (false,S):=not_eq (of_eq (isT (us:=(ar m).map (iw m T)) (var_eq rfl)))
 have c2:eG (cOf (mCh oLe oLe (mC (.int 1)) (mFn bD (aa (ab 0) af)) (mC (.int 24)))) [some (tab m T),none] S=some (false,S):=by
  have v0:mFn bD (aa (ab 0) af) [some (tab m T),none] S=some (.int (m:Nat),S):=len_tab (var_eq rfl)
  have l:oLe (.int 1) (.int (m:Nat)) S=some (.bl true,S):=by
   show some (U.bl (decide ((1:Int)<=(m:Int))),S)=_
   rw [decide_eq_true (by have:=g.pos;omega)]
  have l2:oLe (.int (m:Nat)) (.int 24) S=some (.bl true,S):=by
   show some (U.bl (decide ((m:Int)<=(24:Int))),S)=_
   rw [decide_eq_true (by omega)]
  have q:mCh oLe oLe (mC (.int 1)) (mFn bD (aa (ab 0) af)) (mC (.int 24)) [some (tab m T),none] S=some (.bl true,S):=by
   simp only [mCh,mC,aI,v0,l,l2]
  exact not_eq (of_eq q)
 obtain⟨S1,e1,x1⟩:=jb (e:=jX (mFn dy (aa (ab 2) (aa (ab 1) af))) (m2 oEq (mFn bD (aa (ab 2) af)) (ab 1))) (ρ := [some (tab m T),some (.int (m:Nat))]) (fun _ => .bl true) (fun _ S'=>Ex S S') ((ar m).map (iw m T)) 0 [] S (Ex.refl _) (by
  intro j u S' hu hx
  obtain⟨i,hi,rfl⟩:=aE.mp (dz hu)
  have hi:=bb.mp hi
  obtain⟨S2,e2,x2⟩:=Df (S:=S') (w:=(ar m).map (T i)) (n:=m) (by simp;omega)
  rw [bC.mpr (fun x hx=>by obtain⟨j,hj,rfl⟩:=aE.mp hx;exact decide_eq_true (g.cl i j hi (bb.mp hj)))] at e2
  rw [xj]
  have el:mFn bD (aa (ab 2) af) [some (tab m T),some (.int (m:Nat)),some (.tup (aq ((ar m).map (T i))))] S2=some (.int (m:Nat),S2):=by
   refine fo (var_eq rfl) ?_
   show some (U.int ((aq ((ar m).map (T i))).length:Nat),S2)=_
   rw [bZ,aw,ba]
  have ee:=tm el (b:=ab 1) (y:=m) (var_eq rfl)
  rw [decide_eq_true rfl] at ee
  exact⟨S2,DZ (cN (f:=dy) (var_eq rfl) (var_eq rfl) e2) ee,hx.trans x2⟩)
 rw [dM] at e1
 have e2:=kK (it:=dq (ab 0)) (ρ := [some (tab m T),some (.int (m:Nat))]) (S:=S) (us:=(ar m).map (iw m T)) rfl e1 (by rw [aw,ba,aw,ba];unfold big;omega)
 have e3:=va (l:=ar ((ar m).map (iw m T)).length) (f:=fun _=>true) e2 (bW _ _)
 rw [bC.mpr (fun _ _=>rfl)] at e3
 exact⟨_,cw (ρ := [some (tab m T),some (.int (m:Nat))]) rfl (show nS [some (tab m T),none] S=_ from (aS ((ix (or_false c1 c2)).trans rfl)).trans ((aS (bP (i:=1) (len_tab (ρ := [some (tab m T),none]) (S:=S) (a:=ab 0) (var_eq rfl)))).trans (cx e3))),x1.trans (Ex.push _ _)⟩
theorem Nn (g:Grp m T) {i:Nat} (hi:i < m):dv [tab m T,.int (i:Nat)] S=some (.bl true,S):=by
 have e1:=tm (ρ := [some (tab m T),some (.int (i:Nat))]) (S:=S) (b:=ab 1) (d4 (T:=T) (i:=0) (j:=i) hi (dU g.pos (a:=ab 0) (b:=mC (.int 0)) (var_eq rfl) c_i) (b:=ab 1) (var_eq rfl)) (var_eq rfl)
 have e2:=tm (ρ := [some (tab m T),some (.int (i:Nat))]) (S:=S) (b:=ab 1) (d4 (T:=T) (i:=i) (j:=0) g.pos (dU hi (a:=ab 0) (b:=ab 1) (var_eq rfl) (var_eq rfl)) (b:=mC (.int 0)) c_i) (var_eq rfl)
 rw [decide_eq_true (g.l0 i hi)] at e1
 rw [decide_eq_true (g.r0 i hi)] at e2
 exact cw (ρ := [some (tab m T),some (.int (i:Nat))]) rfl (show fh [some (tab m T),some (.int (i:Nat))] S=_ from cx (DZ e1 e2))
theorem Nk (g:Grp m T) (hm:m < 1000) {i:Nat} (hi:i < m) : ∃ S',ib [tab m T,.int (i:Nat)] S=some (.bl true,S')/\Ex S S':=by
 obtain⟨S1,e1,rfl⟩:=iA (ρ := [some (tab m T),some (.int (i:Nat))]) (S:=S) (S0:=S) (a:=mFn bD (aa (ab 0) af)) (e:=jX (m2 oEq (m2 oIx (m2 oIx (ab 0) (ab 1)) (ab 2)) (mC (.int 0))) (m2 oEq (m2 oIx (m2 oIx (ab 0) (ab 2)) (ab 1)) (mC (.int 0)))) (n:=m) (len_tab (var_eq rfl)) (by unfold big;omega) (fun j => .bl (decide (T i j=0)&&decide (T j i=0))) (fun _ S'=>S'=S) rfl (by
  rintro j S2 hj rfl
  exact⟨S2,q8 (tm (y:=0) (d4 (T:=T) (i:=i) (j:=j) hj (dU hi (var_eq rfl) (var_eq rfl)) (var_eq rfl)) c_i) (fun _=>tm (y:=0) (d4 (T:=T) (i:=j) (j:=i) hi (dU hj (var_eq rfl) (var_eq rfl)) (var_eq rfl)) c_i) (fun _=>rfl),rfl⟩)
 have e2:=Ld (l:=ar m) (f:=fun j=>decide (T i j=0)&&decide (T j i=0)) e1
 obtain⟨j,hj,h1,h2⟩:=g.inv i hi
 rw [ck.mpr ⟨j,bb.mpr hj,by simp [h1,h2]⟩] at e2
 exact⟨_,cw (ρ := [some (tab m T),some (.int (i:Nat))]) rfl (show kE [some (tab m T),some (.int (i:Nat))] S1=_ from cx e2),Ex.push _ _⟩
theorem Nv (g:Grp m T) (hm:m < 1000) {i j:Nat} (hi:i < m) (hj:j < m) : ∃ S',fv [tab m T,.int (i:Nat),.int (j:Nat)] S=some (.bl true,S')/\Ex S S':=by
 have hc:=g.cl i j hi hj
 have e0:=dU (ρ := [some (tab m T),some (.int (i:Nat)),some (.int (j:Nat)),none]) (S:=S) (T:=T) hc (a:=ab 0) (var_eq rfl) (d4 (T:=T) (i:=i) (j:=j) hj (dU hi (a:=ab 0) (b:=ab 1) (var_eq rfl) (var_eq rfl)) (b:=ab 2) (var_eq rfl))
 obtain⟨S1,e1,rfl⟩:=iA (ρ := [some (tab m T),some (.int (i:Nat)),some (.int (j:Nat)),some (iw m T (T i j))]) (S:=S) (S0:=S) (a:=mFn bD (aa (ab 0) af)) (e:=m2 oEq (m2 oIx (ab 3) (ab 4)) (m2 oIx (m2 oIx (ab 0) (ab 1)) (m2 oIx (m2 oIx (ab 0) (ab 2)) (ab 4)))) (n:=m) (len_tab (var_eq rfl)) (by unfold big;omega) (fun k => .bl (decide (T (T i j) k=T i (T j k)))) (fun _ S'=>S'=S) rfl (by
  rintro k S2 hk rfl
  exact⟨S2,tm (d4 (T:=T) (i:=T i j) (j:=k) hk (var_eq rfl) (var_eq rfl)) (d4 (T:=T) (i:=i) (j:=T j k) (g.cl j k hj hk) (dU hi (var_eq rfl) (var_eq rfl)) (d4 (T:=T) (i:=j) (j:=k) hk (dU hj (var_eq rfl) (var_eq rfl)) (var_eq rfl))),rfl⟩)
 have e2:=Hm (l:=ar m) (f:=fun k=>decide (T (T i j) k=T i (T j k))) e1
 rw [bC.mpr (fun k hk=>decide_eq_true (g.as i j k hi hj (bb.mp hk)))] at e2
 exact⟨_,cw (ρ := [some (tab m T),some (.int (i:Nat)),some (.int (j:Nat)),some (iw m T (T i j))]) rfl (show jZ [some (tab m T),some (.int (i:Nat)),some (.int (j:Nat)),none] S1=_ from (aS (bP e0)).trans (cx e2)),Ex.push _ _⟩
theorem NF (g:Grp m T) (hm:m<=24) : ∃ S',iD [tab m T] S=some (.bl true,S')/\Ex S S':=by
 obtain⟨S0,e0,x0⟩:=NH (S:=S) g hm
 obtain⟨ρ1,S1,e1,⟨x,rfl⟩,x1⟩:=gR (i:=1) (a:=mFn bD (aa (ab 0) af)) (n:=m) (b:=aZ (sIf (cOr (eG (cOf (mFn dv (aa (ab 0) (aa (ab 1) af))))) (eG (cOf (mFn ib (aa (ab 0) (aa (ab 1) af)))))) (bU (mC (.bl false))) bX) (sIf (eG (cOf (mFn lr (aa (bR (iR1 (aa (mFn bD (aa (ab 0) af)) af)) cTT (mFn fv (aa (ab 0) (aa (ab 1) (aa (ab 2) af))))) af)))) (bU (mC (.bl false))) bX)) (ρ := [some (tab m T),none]) (S:=S0) (len_tab (var_eq rfl)) (by unfold big;omega)
  (fun _ ρ S'=>(∃ x,ρ = [some (tab m T),x])/\Ex S S') ⟨⟨_,rfl⟩,x0⟩ (by
   rintro i ρ S' hi ⟨⟨x,rfl⟩,hx⟩
   obtain⟨S2,e2,x2⟩:=Nk (S:=S') g (by omega) hi
   have c1:=not_eq (of_eq (cN (f:=dv) (ρ := [some (tab m T),some (.int (i:Nat))]) (S:=S') (a:=ab 0) (b:=ab 1) (var_eq rfl) (var_eq rfl) (Nn g hi)))
   have c2:=not_eq (of_eq (cN (f:=ib) (ρ := [some (tab m T),some (.int (i:Nat))]) (S:=S') (a:=ab 0) (b:=ab 1) (var_eq rfl) (var_eq rfl) e2))
   obtain⟨S3,e3,x3⟩:=iA (ρ := [some (tab m T),some (.int (i:Nat))]) (S:=S2) (S0:=S2) (a:=mFn bD (aa (ab 0) af)) (e:=mFn fv (aa (ab 0) (aa (ab 1) (aa (ab 2) af)))) (n:=m) (len_tab (var_eq rfl)) (by unfold big;omega) (fun _ => .bl true) (fun _ S'=>Ex S2 S') (Ex.refl _) (by
    rintro j S4 hj x4
    obtain⟨S5,e5,x5⟩:=Nv (S:=S4) g (by omega) hi hj
    exact⟨S5,zG (f:=fv) (var_eq rfl) (var_eq rfl) (var_eq rfl) e5,x4.trans x5⟩)
   have c3:=Hm (l:=ar m) (f:=fun _=>true) e3
   rw [bC.mpr (fun _ _=>rfl)] at c3
   exact⟨_,_,(aS ((ix (or_false c1 c2)).trans rfl)).trans ((ix (not_eq (of_eq c3))).trans rfl),⟨_,rfl⟩,((hx.trans x2).trans x3).trans (Ex.push _ _)⟩)
 refine⟨S1,cw (ρ := [some (tab m T),x]) rfl (show nQ [some (tab m T),none] S=_ from ?_),x1⟩
 exact (aS ((ix (not_eq (of_eq (fo (f:=kA) (var_eq rfl) e0)))).trans rfl)).trans ((aS e1).trans (cx rfl))
end
section
variable {m:Nat}{T:Nat->Nat->Nat}{part:List Nat}{S:Sto}
theorem uC (g:Grp m T) (hm:m < 64) (hl:part.length < 64) (hp : ∀ x∈part,x < m) : ∃ S',dc [tab m T,.tup (aq part)] S=some (.ref S.length,S')/\Ex S S'/\S'[S.length]? = some (Cell.lst (tups (aM m T part true))):=GA g hm hl hp
theorem zO (g:Grp m T) (hm:m < 64) (hl:part.length < 64) (hp : ∀ x∈part,x < m) : ∃ S',fq [tab m T,.tup (aq part)] S=some (.ref S.length,S')/\Ex S S'/\S'[S.length]? = some (Cell.lst (tups (aM m T part false))):=DM g hm hl hp
theorem zR (g:Grp m T) (hm:m < 64) (hl:part.length < 64) (hp : ∀ x∈part,x < m) : ∃ S',gI [tab m T,.tup (aq part)] S=some (.bl (decide (aM m T part true=aM m T part false)),S')/\Ex S S':=by
 obtain⟨S1,e1,x1,h1⟩:=uC (S:=S) g hm hl hp
 obtain⟨S2,e2,x2,h2⟩:=zO (S:=S1) g hm hl hp
 exact⟨S2,cw (ρ := [some (tab m T),some (.tup (aq part))]) rfl (show nD [some (tab m T),some (.tup (aq part))] S=_ from cx (F7 (cN (f:=dc) (var_eq rfl) (var_eq rfl) e1) (cN (f:=fq) (var_eq rfl) (var_eq rfl) e2) (x2.some h1) h2)),x1.trans x2⟩
theorem uZ {ls:List (List Nat)}{i:Nat} (hi:i < ls.length):(tups ls)[i]? = some (.tup (aq (ls.getD i []))):=by
 unfold tups
 rw [bg,ay hi,bc,ay hi]
 rfl
theorem Cv {ls:List (List Nat)} (h : ∀ l∈ls,l.length<=64) : ∀ k,k<=ls.length->(dN ls k).length<=k*64
 | 0,_=>aj _
 | k+1,hk=>by
   have h1:=Cv h k (Nat.le_of_succ_le hk)
   have h2:=qw (v:=k) (xs:=ls.getD k []) (D:=dN ls k)
   have h3:(ls.getD k []).length<=64:=by
    rw [bc,ay hk]
    exact h _ (cY hk)
   show (pO (dN ls k) (ls.getD k []) k).length<=_
   rw [i3]
   exact aL h2 (Nat.add_le_add h1 h3)
theorem An {D:List (_L.Key×U)}{xs:List Nat}{x v:Nat}:pO D (xs ++ [x]) v=j0 (pO D xs v) (.inl (x:Int)) (.int (v:Nat)):=by
 unfold pO;rw [lC];rfl
theorem DO (g:Grp m T) (hm:m < 64) (hl:part.length < 64) (hp : ∀ x∈part,x < m) : ∃ S',eT [tab m T,.tup (aq part)] S=some (.ref S.length,S')/\Ex S S'/\S'[S.length]? = some (.dic (dN (aM m T part true) (aM m T part true).length)):=by
 have sl:=tT (left:=true) g hm hl hp
 obtain⟨S2,e2,x2,h2⟩:=uC (S:=S ++ [.dic []]) g hm hl hp
 generalize hls:aM m T part true=ls at h2 sl
 have hn2:S.length < (S ++ [Cell.dic []]).length:=by simp
 generalize hN:(S ++ [Cell.dic []]).length=n at e2 h2 hn2
 have hu:(tups ls).length=ls.length:=by simp [tups]
 have hll:=sl.len
 obtain⟨ρ3,S3,e3,⟨a,b,c,rfl⟩,x3,h3,_⟩:=tI (g:=gTp 2 (j4 (gN 3) (j4 (gN 4) wx))) (b:=dF 5 (dq (ab 4)) (eF (ab 2) (ab 5) (ab 3))) (n:=n) (tups ls)
  (fun k ρ S'=>(∃ a b c,ρ = [some (tab m T),some (.tup (aq part)),some (.ref S.length),a,b,c])/\Ex S S'/\S'[S.length]? = some (.dic (dN ls k))/\S'[n]? = some (.lst (tups ls)))
  (fun k ρ S' h=>by unfold getL;rw [h.2.2.2]) (by
   rintro k u ρ S' hk ⟨⟨a,b,c,rfl⟩,x,hd,hs⟩
   have hkl:k < ls.length:=by have:=(ag.mp hk).1;rwa [hu] at this
   rw [uZ hkl] at hk
   cases hk
   generalize hw:ls.getD k []=w
   have hwl:w.length<=64:=by
    rw [<- hw,bc,ay hkl]
    exact sl.each _ (cY hkl)
   have hdl:=aL (Cv sl.each k (aQ hkl)) (fb 64 (aL (aQ hkl) hll))
   obtain⟨ρ4,S4,e4,⟨c',rfl⟩,x4,h4,hs4⟩:=vK (i:=5) (b:=eF (ab 2) (ab 5) (ab 3)) (e:=ab 4) (ρ := [some (tab m T),some (.tup (aq part)),some (.ref S.length),some (.int (k:Nat)),some (.tup (aq w)),c]) (S:=S') (us:=aq w) (var_eq rfl)
    (fun j ρ S4=>(∃ c,ρ = [some (tab m T),some (.tup (aq part)),some (.ref S.length),some (.int (k:Nat)),some (.tup (aq w)),c])/\Ex S S4/\S4[S.length]? = some (.dic (pO (dN ls k) (w.take j) k))/\S4[n]? = some (.lst (tups ls)))
    ⟨⟨_,rfl⟩,x,by rw [List.take_zero];exact hd,hs⟩ (by
     rintro j u ρ S4 hj ⟨⟨c,rfl⟩,x4,h4,hs4⟩
     obtain⟨y,hy,rfl⟩:=lM hj
     have hlen:=qw (v:=k) (xs:=w.take j) (D:=dN ls k)
     have htl:(w.take j).length<=64:=aL (List.length_take_le' _ _) hwl
     have eset:=Hy (ρ := [some (tab m T),some (.tup (aq part)),some (.ref S.length),some (.int (k:Nat)),some (.tup (aq w)),some (.int (y:Nat))]) (S:=S4) (o:=ab 2) (i:=ab 5) (e:=ab 3) (r:=S.length) (z:=(y:Int)) (u := .int (k:Nat)) (var_eq rfl) (var_eq rfl) (var_eq rfl) h4 (aN (aL hlen (Nat.add_le_add hdl htl)) (by decide))
     have hin:=(ag.mp h4).1
     refine⟨_,_,eset,⟨_,rfl⟩,x4.set (aj _),?_,?_⟩
     ·rw [aW hin]
      have:w.take (j+1)=w.take j ++ [y]:=by
       rw [gd,hy];rfl
      rw [this,An]
     ·rw [aK (aG hn2)];exact hs4)
   rw [bZ,mU] at h4
   refine⟨[some (tab m T),some (.tup (aq part)),some (.ref S.length),some (.int (k:Nat)),some (.tup (aq w)),c],S',_,S4,rfl,e4,⟨_,_,_,rfl⟩,x4,?_,hs4⟩
   rw [dN,hw];exact h4) fuel 0 [some (tab m T),some (.tup (aq part)),some (.ref S.length),none,none,none] S2 (dj _) (by rw [hu];unfold fuel;exact aN (aL (kW _ _) hll) (by decide)) ⟨⟨_,_,_,rfl⟩,(Ex.push _ _).trans x2,x2.some (bW _ _),h2⟩
 rw [hu] at h3
 have hi:rR (aa (mFn dc (aa (ab 0) (aa (ab 1) af))) af) [some (tab m T),some (.tup (aq part)),some (.ref S.length),none,none,none] (S ++ [.dic []])=some (.enl n,S2):=by
  have q:mFn dc (aa (ab 0) (aa (ab 1) af)) [some (tab m T),some (.tup (aq part)),some (.ref S.length),none,none,none] (S ++ [Cell.dic []])=some (.ref n,S2):=by
   have v0:ab 0 [some (tab m T),some (.tup (aq part)),some (.ref S.length),none,none,none] (S ++ [Cell.dic []])=some (tab m T,S ++ [Cell.dic []]):=rfl
   have v1:ab 1 [some (tab m T),some (.tup (aq part)),some (.ref S.length),none,none,none] (S ++ [Cell.dic []])=some (.tup (aq part),S ++ [Cell.dic []]):=rfl
   exact cN v0 v1 e2
  simp only [rR,aa,af,q,aI,getL,h2,aT]
 have ef:tL (gTp 2 (j4 (gN 3) (j4 (gN 4) wx))) (rR (aa (mFn dc (aa (ab 0) (aa (ab 1) af))) af)) (dF 5 (dq (ab 4)) (eF (ab 2) (ab 5) (ab 3))) [some (tab m T),some (.tup (aq part)),some (.ref S.length),none,none,none] (S ++ [.dic []])=some (.nx,[some (tab m T),some (.tup (aq part)),some (.ref S.length),a,b,c],S3):=by
  unfold tL
  rw [hi]
  exact e3
 exact⟨S3,cw (ρ := [some (tab m T),some (.tup (aq part)),some (.ref S.length),a,b,c]) rfl (show jr [some (tab m T),some (.tup (aq part)),none,none,none,none] S=_ from (aS (bP (show om [some (tab m T),some (.tup (aq part)),none,none,none,none] S=some (.ref S.length,S ++ [.dic []]) from rfl))).trans ((aS ef).trans (cx (var_eq rfl)))),x3,h3⟩
theorem Eb (sb:Sbg m T part) (g:Grp m T) (hm:m < 64) (hl:part.length < 64) {y:Nat} (hy:y < m) : ∃ S',ja [tab m T,.tup (aq part),.int (y:Nat)] S=some (.int (nbr (aM m T part true) y:Nat),S')/\Ex S S':=by
 obtain⟨S1,e1,x1,h1⟩:=DO (S:=S) g hm hl sb.lt
 have sd:=eU (b:=true) sb g
 have hv:=yu sd hy _ (aj _)
 rw [if_pos (sd.nb hy).1] at hv
 exact⟨S1,cw (ρ := [some (tab m T),some (.tup (aq part)),some (.int (y:Nat))]) rfl (show o5 [some (tab m T),some (.tup (aq part)),some (.int (y:Nat))] S=_ from cx (Kh (cN (f:=eT) (a:=ab 0) (b:=ab 1) (var_eq rfl) (var_eq rfl) e1) (b:=ab 2) (var_eq rfl) h1 hv)),x1⟩
noncomputable def sX (ls:List (List Nat)) (i:Nat):Nat:=(ls.getD i []).headD 0
theorem zQ (sb:Sbg m T part) (g:Grp m T) {i:Nat} (hi:i < (aM m T part true).length):(aM m T part true).getD i [] ≠ []:=by
 have e:(aM m T part true).getD i []=(aM m T part true)[i]:=by rw [bc,ay hi];rfl
 obtain⟨k,hk,q⟩:=iK (cY hi:(aM m T part true)[i]∈aM m T part true)
 rw [e,q]
 intro z
 have:=(ek (l:=ff T part true k)).mpr (vg sb g hk)
 rw [z] at this
 simp at this
theorem JZ (sb:Sbg m T part) (g:Grp m T) {i:Nat} (hi:i < (aM m T part true).length):sX (aM m T part true) i∈(aM m T part true).getD i []:=by
 have h:=zQ sb g hi
 unfold sX
 generalize (aM m T part true).getD i []=l at h ⊢
 cases l with
 | nil=>exact absurd rfl h
 | cons x l=>simp
noncomputable def hdU:U->U
 | .tup (x::_)=>x
 | _ => .non
theorem IC (sb:Sbg m T part) (g:Grp m T) (hm:m < 64) (hl:part.length < 64) (hlv:aM m T part true=aM m T part false) : ∃ S',ic [tab m T,.tup (aq part)] S=some (tab (aM m T part true).length (fun i j=>nbr (aM m T part true) (T (sX (aM m T part true) i) (sX (aM m T part true) j))),S')/\Ex S S':=by
 have hp:=sb.lt
 have sl:=tT (left:=true) g hm hl hp
 have sd:=eU (b:=true) sb g
 obtain⟨S1,e1,x1⟩:=zR (S:=S) g hm hl hp
 rw [decide_eq_true hlv] at e1
 obtain⟨S2,e2,x2,h2⟩:=uC (S:=S1) g hm hl hp
 have hmem:=fun i hi=>JZ (i:=i) sb g hi
 have hne:=fun i hi=>zQ (i:=i) sb g hi
 have hsm:=fun i hi=>(fun x hx=>(fk (b:=true) (i:=i) sb g hi (x:=x) hx).1)
 obtain⟨S4,e4,x4,h4⟩:=DO (S:=S2 ++ [.lst ((tups (aM m T part true)).map hdU)]) g hm hl hp
 generalize hls:aM m T part true=ls at *
 have e3:=t6 (t:=cTT) (e:=m2 oIx (ab 4) (mC (.int 0))) (ρ := [some (tab m T),some (.tup (aq part)),none,none]) (S:=S1) (us:=tups ls) (p:=fun _=>true) (f:=hdU) (cN (f:=dc) (a:=ab 0) (b:=ab 1) (var_eq rfl) (var_eq rfl) e2) h2 (by rw [tups,aw];exact aN sl.len (by decide)) (fun u _=>rfl) (fun u hu _=>by
  obtain⟨k,hk,e⟩:=EI.mp hu
  have hk':k < ls.length:=by simpa [tups] using hk
  have:=uZ hk'
  rw [ay hk,e] at this
  cases this
  have h:=hne k hk'
  generalize ls.getD k []=l at h
  cases l with
  | nil=>exact absurd rfl h
  | cons x l=>exact Ip (us:=aq (x::l)) (z:=((0:Nat):Int)) (u := .int (x:Nat)) (var_eq rfl) rfl (jK rfl))
 rw [pM.mpr (fun _ _=>rfl)] at e3
 have hh : ∀ i,i < ls.length->((tups ls).map hdU)[i]? = some (.int (sX ls i:Nat)):=fun i hi=>by
  rw [bg,uZ hi]
  unfold sX
  have h:=hne i hi
  generalize ls.getD i []=l at h ⊢
  cases l with
  | nil=>exact absurd rfl h
  | cons x l=>rfl
 have h3:(S2 ++ [Cell.lst ((tups ls).map hdU)])[S2.length]? = some (.lst ((tups ls).map hdU)):=bW _ _
 have x3:Ex S2 (S2 ++ [Cell.lst ((tups ls).map hdU)]):=Ex.push _ _
 generalize S2 ++ [Cell.lst ((tups ls).map hdU)]=S3 at e3 e4 x4 h4 h3 x3
 have el:=xb (ρ := [some (tab m T),some (.tup (aq part)),some (.ref S2.length),some (.ref S3.length)]) (S:=S4) (a:=ab 2) (var_eq rfl) (x4.some h3)
 have hlen:((tups ls).map hdU).length=ls.length:=by simp [tups]
 rw [hlen] at el
 refine⟨tabS S4 ls.length (fun i j=>nbr ls (T (sX ls i) (sX ls j))) ls.length,cw (ρ := [some (tab m T),some (.tup (aq part)),some (.ref S2.length),some (.ref S3.length)]) rfl ?_,(((x1.trans x2).trans x3).trans x4).trans z6⟩
 show kN [some (tab m T),some (.tup (aq part)),none,none] S=_
 refine (aS ((ix (not_eq (of_eq (cN (f:=gI) (a:=ab 0) (b:=ab 1) (var_eq rfl) (var_eq rfl) e1)))).trans rfl)).trans ((aS (bP e3)).trans ((aS (bP (ρ := [some (tab m T),some (.tup (aq part)),some (.ref S2.length),none]) (cN (f:=eT) (a:=ab 0) (b:=ab 1) (var_eq rfl) (var_eq rfl) e4))).trans (cx ?_)))
 refine rM (cs := [tab m T,.ref S2.length,.ref S3.length]) el rfl fun f=>Am (aN sl.len (by decide)) (fun i j S' x hi hj => ?_) f
 have hc3:=(x4.trans x).some h3
 have hd4:=x.some h4
 have am:=hsm i hi _ (hmem i hi)
 have bm:=hsm j hj _ (hmem j hj)
 have hv:=yu sd (g.cl _ _ am bm) _ (aj _)
 rw [if_pos (sd.nb (g.cl _ _ am bm)).1] at hv
 show m2 oIx (ab 4) (m2 oIx (m2 oIx (ab 2) (m2 oIx (ab 3) (ab 0))) (m2 oIx (ab 3) (ab 1))) [some (.int (i:Nat)),some (.int (j:Nat)),some (tab m T),some (.ref S2.length),some (.ref S3.length)] S'=_
 exact Kh (var_eq rfl) (d4 (T:=T) bm (dU am (var_eq rfl) (vc (var_eq rfl) (var_eq rfl) hc3 (jK (hh i hi)))) (vc (var_eq rfl) (var_eq rfl) hc3 (jK (hh j hj)))) hd4 hv
end
section
variable {m:Nat}{T:Nat->Nat->Nat}{P Wd:List Nat}
abbrev Lv (m:Nat) (T:Nat->Nat->Nat) (P:List Nat):Prop:=aM m T P true=aM m T P false
theorem oK {b:Bool}{s:List Nat} (hs:s∈aM m T P b):s.length=P.length:=by
 obtain⟨i,_,rfl⟩:=iK hs
 rw [qg];simp [ff]
theorem uG (g:Grp m T) (hlt : ∀ x∈P,x < m) (nd:P.Nodup) {b:Bool}{x:Nat} (hx:x < m):(ff T P b x).Nodup:=by
 unfold ff
 rw [bf,eY]
 refine jB (R:=fun a b=>a≠b) ?_ (bf.mp nd)
 intro u v hu hv hne e
 cases b with
 | true=>exact hne (g.cancel hx (hlt u hu) (hlt v hv) e)
 | false=>exact hne (g.cancelR hx (hlt u hu) (hlt v hv) e)
theorem zu (h:Sbg m T P) (g:Grp m T) (nd:P.Nodup) {b:Bool}{s:List Nat} (hs:s∈aM m T P b):s.Nodup:=by
 obtain⟨i,hi,rfl⟩:=iK hs
 exact (oE _).nodup_iff.mpr (uG g h.lt nd hi)
theorem FW (h:Sbg m T P) (g:Grp m T) {b:Bool}{s:List Nat} (hs:s∈aM m T P b) {x:Nat} (hx:x∈s):x < m:=by
 obtain⟨i,hi,rfl⟩:=iK hs
 exact (yJ h g hi (ek.mp hx)).1
theorem rC (h:Sbg m T P) (g:Grp m T) (nd:P.Nodup) {b:Bool}:(aM m T P b).flatten.Perm (ar m):=by
 have sd:=eU (b:=b) h g
 refine qh ?_ List.nodup_range fun x => ?_
 ·rw [bf,Er]
  refine⟨fun s hs=>bf.mp (zu h g nd hs),sd.dis.imp ?_⟩
  intro s t hst u hu v hv e
  subst e
  exact hst u hu hv
 ·rw [List.mem_flatten,bb]
  constructor
  ·rintro ⟨s,hs,hx⟩;exact FW h g hs hx
  ·intro hx;exact sd.cov x hx
theorem vI {k:Nat} : ∀ (ls:List (List Nat)),(∀ s∈ls,s.length=k)->ls.flatten.length=ls.length*k
 | [],_=>by simp
 | s::ls,h=>by
   rw [eX,aX,vI ls fun t ht=>h t (aD _ ht),h s (by simp),dA,i3,nV]
theorem kg (h:Sbg m T P) (g:Grp m T) (nd:P.Nodup) {b:Bool}:(aM m T P b).length*P.length=m:=by
 rw [<- vI (aM m T P b) fun s hs=>oK hs,(rC h g nd).length_eq,ba]
theorem mB (h:Sbg m T P):0 < P.length:=List.length_pos_of_mem h.z
theorem AK (h:Sbg m T P) (g:Grp m T) (nd:P.Nodup):(aM m T P true).length=(aM m T P false).length:=
 zk (mB h) ((kg h g nd).trans (kg h g nd).symm)
theorem xJ {r:Nat->List Nat}{s:List Nat}{j:Nat} (hs:s∈(sdF r j).1) : ∀ k,j<=k->s∈(sdF r k).1
 | 0,hk=>by
   have:j=0:=by omega
   subst this;exact hs
 | k+1,hk=>by
   rcases Nat.lt_or_eq_of_le hk with q | q
   ·have ih:=xJ hs k (by omega)
    rw [sdF]
    split
    ·exact ih
    ·exact bB _ ih
   ·rw [<- q];exact hs
theorem IS (g:Grp m T) (hlt : ∀ x∈P,x < m) {b:Bool}:ff T P b 0=P:=by
 unfold ff
 conv=>rhs;rw [<- vU P]
 apply de
 intro x hx
 cases b with
 | true=>exact g.l0 x (hlt x hx)
 | false=>exact g.r0 x (hlt x hx)
theorem DH (h:Sbg m T P) (g:Grp m T) (hP:P.Pairwise (· < ·)) {b:Bool}:(sdF (ff T P b) 1).1 = [P]:=by
 show (if 0∈([]:List Nat) then (([]:List (List Nat)),([]:List Nat)) else ([] ++ [srt (ff T P b 0)],[]++ff T P b 0)).1=_
 rw [if_neg (by simp),IS g h.lt,ve hP];rfl
theorem HL (h:Sbg m T P) (g:Grp m T) (hP:P.Pairwise (· < ·)) {b:Bool}:P∈aM m T P b:=
 xJ (j:=1) (by rw [DH h g hP];simp) m g.pos
theorem uq {r:Nat->List Nat}{s:List Nat} : ∀ k,1<=k->(sdF r 1).1 = [s] -> ∃ l,(sdF r k).1=s::l
 | 0,h,_=>by omega
 | 1,_,e=>⟨[],e⟩
 | k+2,_,e=>by
   obtain⟨l,hl⟩:=uq (k+1) (by omega) e
   rw [sdF]
   split
   ·exact⟨l,hl⟩
   ·exact⟨l ++ [srt (r (k+1))],by rw [hl];rfl⟩
theorem yG (h:Sbg m T P) (g:Grp m T) (hP:P.Pairwise (· < ·)) {b:Bool} : ∃ l,aM m T P b=P::l:=uq m g.pos (DH h g hP)
theorem JS (h:Sbg m T P) (g:Grp m T) (hP:P.Pairwise (· < ·)) {b:Bool}{x:Nat} (hx:x < m):nbr (aM m T P b) x=0↔x∈P:=by
 obtain⟨l,hl⟩:=yG (b:=b) h g hP
 have sd:=eU (b:=b) h g
 have e0:(aM m T P b).getD 0 []=P:=by rw [hl];rfl
 constructor
 ·intro e
  have:=(sd.nb hx).2
  rw [e,e0] at this;exact this
 ·intro hxP
  exact sd.nb_of hx (by rw [hl];simp) (by rw [e0];exact hxP)
theorem Kr (h:Sbg m T P) (g:Grp m T) {x y:Nat} (hx:x < m) (hy:y < m) (e:nbr (aM m T P true) x=nbr (aM m T P true) y) : ∃ p∈P,y=T x p:=by
 have sd:=eU (b:=true) h g
 obtain⟨h1,h2⟩:=sd.nb hx
 obtain⟨h3,h4⟩:=sd.nb hy
 rw [<- e] at h4
 obtain⟨_,h5⟩:=fk h g h1 h2
 obtain⟨p,hp,q⟩:=aE.mp ((h5 y).mp h4)
 exact⟨p,hp,q.symm⟩
theorem yt (h:Sbg m T P) (g:Grp m T) {x:Nat} (hx:x∈P):unT m T x∈P:=by
 obtain⟨b,hb,_,e⟩:=h.inv g hx
 rw [<- Cy g (h.lt x hx) (h.lt b hb) e];exact hb
noncomputable def Nrm (m:Nat) (T:Nat->Nat->Nat) (P:List Nat):Prop := ∀ x,x < m -> ∀ o∈P,T (T x o) (unT m T x)∈P
theorem Jt (h:Sbg m T P) (g:Grp m T) (lv:Lv m T P):Nrm m T P:=by
 intro x hx o ho
 have sd:=eU (b:=true) h g
 obtain⟨h1,h2⟩:=sd.nb hx
 obtain⟨_,h3⟩:=fk h g h1 h2
 have h1':=h1
 have h2':=h2
 rw [lv] at h1' h2'
 rw [<- lv] at h1'
 have hh:x∈(aM m T P false).getD (nbr (aM m T P true) x) []:=by rw [<- lv];exact h2
 obtain⟨_,h4⟩:=fk h g (b:=false) (by rw [<- lv];exact h1) hh
 have h5:T x o∈(aM m T P true).getD (nbr (aM m T P true) x) []:=(h3 _).mpr (aE.mpr ⟨o,ho,rfl⟩)
 have h6:T x o∈ff T P false x:=(h4 _).mp (by rw [<- lv];exact h5)
 obtain⟨p,hp,e⟩:=aE.mp h6
 have e:T p x=T x o:=e
 rw [<- e,g.as p x _ (h.lt p hp) hx (pG g hx),Ig g hx,g.r0 p (h.lt p hp)]
 exact hp
theorem zx (h:Sbg m T P) (g:Grp m T) (n:Nrm m T P) {x:Nat} (hx:x < m) (z:Nat):z∈ff T P true x↔z∈ff T P false x:=by
 have hu:=pG g hx
 constructor
 ·intro hz
  obtain⟨o,ho,rfl⟩:=aE.mp hz
  refine aE.mpr ⟨_,n x hx o ho,?_⟩
  show T (T (T x o) (unT m T x)) x=T x o
  rw [g.as _ _ _ (g.cl _ _ hx (h.lt o ho)) hu hx,IR g hx,g.r0 _ (g.cl _ _ hx (h.lt o ho))]
 ·intro hz
  obtain⟨o,ho,rfl⟩:=aE.mp hz
  have hn:=n (unT m T x) hu o ho
  rw [GW g hx] at hn
  refine aE.mpr ⟨_,hn,?_⟩
  show T x (T (T (unT m T x) o) x)=T o x
  have hom:=h.lt o ho
  rw [<- g.as x _ x hx (g.cl _ _ hu hom) hx,<- g.as x _ o hx hu hom,Ig g hx,g.l0 o hom]
theorem za (h:Sbg m T P) (g:Grp m T) (nd:P.Nodup) (n:Nrm m T P):Lv m T P:=by
 have key : ∀ k,k<=m->(sdF (ff T P true) k).1=(sdF (ff T P false) k).1 /\ ∀ z,z∈(sdF (ff T P true) k).2↔z∈(sdF (ff T P false) k).2:=by
  intro k
  induction k with
  | zero=>intro _;exact⟨rfl,fun z=>Iff.rfl⟩
  | succ k ih=>
    intro hk
    obtain⟨i1,i2⟩:=ih (by omega)
    have hk:k < m:=hk
    rw [sdF,sdF]
    by_cases q:k∈(sdF (ff T P true) k).2
    ·rw [if_pos q,if_pos ((i2 k).mp q)];exact⟨i1,i2⟩
    ·rw [if_neg q,if_neg (fun z=>q ((i2 k).mpr z))]
     refine⟨?_,fun z => ?_⟩
     ·show (sdF (ff T P true) k).1++_=(sdF (ff T P false) k).1++_
      rw [i1,pf (qh (uG g h.lt nd hk) (uG g h.lt nd hk) (zx h g n hk))]
     ·show z∈(sdF (ff T P true) k).2++_↔z∈(sdF (ff T P false) k).2++_
      rw [bq,bq,i2 z,zx h g n hk z]
 exact (key m (aj _)).1
theorem CY (h:Sbg m T P) (g:Grp m T) (hP:P.Pairwise (· < ·)) (e:2*P.length=m):Nrm m T P:=by
 have nd:P.Nodup:=bf.mpr (hP.imp fun h=>aG h)
 have hL:(aM m T P true).length=2:=zk (mB h) ((kg h g nd).trans e.symm)
 have sd:=eU (b:=true) h g
 intro x hx o ho
 have hom:=h.lt o ho
 have hu:=pG g hx
 have hz:T (T x o) (unT m T x) < m:=g.cl _ _ (g.cl _ _ hx hom) hu
 by_cases hxP:x∈P
 ·exact h.cl _ (h.cl _ hxP _ ho) _ (yt h g hxP)
 ·apply uw
  intro hzP
  have n1:nbr (aM m T P true) x≠0:=fun z=>hxP ((JS h g hP hx).mp z)
  have n2:nbr (aM m T P true) (T (T x o) (unT m T x))≠0:=fun z=>hzP ((JS h g hP hz).mp z)
  have l1:=(sd.nb hx).1
  have l2:=(sd.nb hz).1
  obtain⟨p,hp,q⟩:=Kr h g hx hz (by omega)
  rw [g.as x o _ hx hom hu] at q
  have q2:=g.cancel hx (g.cl _ _ hom hu) (h.lt p hp) q
  have q3:unT m T x=T (unT m T o) p:=by
   rw [<- q2,<- g.as _ o _ (pG g hom) hom hu,IR g hom,g.l0 _ hu]
  have q4:unT m T x∈P:=by rw [q3];exact h.cl _ (yt h g ho) _ hp
  have q5:=yt h g q4
  rw [GW g hx] at q5
  exact hxP q5
theorem Bo (h:Sbg m T P) (g:Grp m T) (pl : ∀ i j,i < m->j < m->T i j=T j i):Nrm m T P:=by
 intro x hx o ho
 have hom:=h.lt o ho
 rw [pl x o hx hom,g.as o x _ hom hx (pG g hx),Ig g hx,g.r0 o hom]
 exact ho
abbrev ldL (m:Nat) (T:Nat->Nat->Nat) (P:List Nat) (i:Nat):Nat:=((aM m T P true).getD i []).headD 0
noncomputable def resT (m:Nat) (T:Nat->Nat->Nat) (P:List Nat) (i j:Nat):Nat:=nbr (aM m T P true) (T (ldL m T P i) (ldL m T P j))
theorem vt (h:Sbg m T P) {i:Nat} (hi:i < (aM m T P true).length):ldL m T P i∈(aM m T P true).getD i []:=by
 have e:(aM m T P true).getD i []=(aM m T P true)[i]:=by rw [bc,ay hi];rfl
 have hl:=oK (cY hi:(aM m T P true)[i]∈aM m T P true)
 have:=mB h
 unfold ldL
 rw [e]
 cases q:(aM m T P true)[i] with
 | nil=>rw [q] at hl;simp at hl;omega
 | cons a l=>simp
theorem tU (h:Sbg m T P) (g:Grp m T) {i:Nat} (hi:i < (aM m T P true).length):ldL m T P i < m:=(fk h g hi (vt h hi)).1
theorem K5 (h:Sbg m T P) (g:Grp m T) {i:Nat} (hi:i < (aM m T P true).length):nbr (aM m T P true) (ldL m T P i)=i:=
 (eU h g).nb_of (tU h g hi) hi (vt h hi)
theorem i9 (h:Sbg m T P) (g:Grp m T) (lv:Lv m T P) {x y:Nat} (hx:x < m) (hy:y < m):nbr (aM m T P true) (T x y)=resT m T P (nbr (aM m T P true) x) (nbr (aM m T P true) y):=by
 have sd:=eU (b:=true) h g
 obtain⟨a1,a2⟩:=sd.nb hx
 obtain⟨b1,b2⟩:=sd.nb hy
 exact DP h g lv a1 b1 a2 b2 (vt h a1) (vt h b1)
theorem FD (h:Sbg m T P) (g:Grp m T) (hP:P.Pairwise (· < ·)) (lv:Lv m T P):Grp (aM m T P true).length (resT m T P):=by
 have sd:=eU (b:=true) h g
 have sur : ∀ i,i < (aM m T P true).length -> ∃ x,x < m/\nbr (aM m T P true) x=i:=fun i hi=>⟨_,tU h g hi,K5 h g hi⟩
 have z0:nbr (aM m T P true) 0=0:=(JS h g hP g.pos).mpr h.z
 refine⟨?_,fun i j hi hj => ?_,fun i hi => ?_,fun i hi => ?_,fun i hi => ?_,fun i j k hi hj hk => ?_⟩
 ·have:=(sd.nb g.pos).1;omega
 ·exact (sd.nb (g.cl _ _ (tU h g hi) (tU h g hj))).1
 ·obtain⟨x,hx,rfl⟩:=sur i hi
  have:=i9 h g lv g.pos hx
  rw [z0,g.l0 x hx] at this
  exact this.symm
 ·obtain⟨x,hx,rfl⟩:=sur i hi
  have:=i9 h g lv hx g.pos
  rw [z0,g.r0 x hx] at this
  exact this.symm
 ·obtain⟨x,hx,rfl⟩:=sur i hi
  obtain⟨y,hy,e1,e2⟩:=g.inv x hx
  refine⟨nbr (aM m T P true) y,(sd.nb hy).1,?_,?_⟩
  ·rw [<- i9 h g lv hx hy,e1,z0]
  ·rw [<- i9 h g lv hy hx,e2,z0]
 ·obtain⟨x,hx,rfl⟩:=sur i hi
  obtain⟨y,hy,rfl⟩:=sur j hj
  obtain⟨z,hz,rfl⟩:=sur k hk
  rw [<- i9 h g lv hx hy,<- i9 h g lv (g.cl _ _ hx hy) hz,<- i9 h g lv hy hz,<- i9 h g lv hx (g.cl _ _ hy hz),g.as x y z hx hy hz]
theorem AI (h:Sbg m T P) (g:Grp m T) (pl : ∀ i j,i < m->j < m->T i j=T j i) : ∀ i j,i < (aM m T P true).length->j < (aM m T P true).length->resT m T P i j=resT m T P j i:=fun i j hi hj=>by
 unfold resT
 rw [pl _ _ (tU h g hi) (tU h g hj)]
theorem E5 (h:Sbg m T P) (w:Sbg m T Wd) (g:Grp m T) (nd:P.Nodup) (ndw:Wd.Nodup) (sub : ∀ x∈P,x∈Wd):Wd.length % P.length=0:=by
 have sd:=eU (b:=true) h g
 have key:Wd.Perm ((aM m T P true).filter fun s=>s.any fun x=>decide (x∈Wd)).flatten:=by
  refine qh ndw ?_ fun x => ?_
  ·rw [bf,Er]
   refine⟨fun s hs=>bf.mp (zu h g nd (eW.mp hs).1),(sd.dis.filter _).imp ?_⟩
   intro s t hst u hu v hv e
   subst e
   exact hst u hu hv
  ·rw [List.mem_flatten]
   constructor
   ·intro hx
    obtain⟨s,hs,hxs⟩:=sd.cov x (w.lt x hx)
    exact⟨s,eW.mpr ⟨hs,ck.mpr ⟨x,hxs,decide_eq_true hx⟩⟩,hxs⟩
   ·rintro ⟨s,hs,hxs⟩
    obtain⟨h1,h2⟩:=eW.mp hs
    obtain⟨y,hy,hyW⟩:=ck.mp h2
    have hyW:=of_decide_eq_true hyW
    obtain⟨i,hi,e⟩:=EI.mp h1
    have e':(aM m T P true).getD i []=s:=by rw [bc,ay hi,e];rfl
    obtain⟨_,h3⟩:=fk h g hi (x:=y) (by rw [e'];exact hy)
    obtain⟨p,hp,q⟩:=aE.mp ((h3 x).mp (by rw [e'];exact hxs))
    have q:T y p=x:=q
    rw [<- q]
    exact w.cl _ hyW _ (sub p hp)
 rw [key.length_eq,vI (k:=P.length) _ fun s hs=>oK (eW.mp hs).1,Nat.mul_mod_left]
theorem Cg {a b:List Nat} (h : ∀ x∈a,x∈b) {x:Nat} (r:Rch T a x):Rch T b x:=by
 induction r with
 | zero=>exact .zero
 | step _ hy ih=>exact .step ih (h _ hy)
end
theorem Cz {ρ:Rho}{S S1:Sto}{a:ME}{us:List U} (ha:a ρ S=some (.tup us,S1)):mFn lT (aa a af) ρ S=some (.ref S1.length,S1 ++ [.lst us]):=fo ha rfl
section
variable {m:Nat}{T:Nat->Nat->Nat}{P:List Nat}{S:Sto}
structure Prl (m:Nat) (T:Nat->Nat->Nat) (P:List Nat):Prop where
 g:Grp m T
 hm:m<=24
 sb:Sbg m T P
 pw:P.Pairwise (· < ·)
theorem Prl.nd (p:Prl m T P):P.Nodup:=bf.mpr (p.pw.imp fun h=>aG h)
theorem Prl.len (p:Prl m T P):P.length<=24:=aL (o6 m P p.nd p.sb.lt) p.hm
theorem yr {w:List Nat} (g:Grp m T) (hm:m<=24) (hw : ∀ x∈w,x < m) : ∃ P S',gJ [tab m T,.tup (aq w)] S=some (.tup (aq P),S')/\Ex S S'/\Prl m T P /\ ∀ x,x∈P↔Rch T w x:=by
 obtain⟨ks,S1,e1,x1,d⟩:=Lp (S:=S) (ths:=w) g (by omega) hw
 exact⟨srt ks,S1,e1,x1,⟨g,hm,d.sbg g hw,Cd d.nd⟩,fun x=>by rw [ek,d.all]⟩
theorem B4 (p:Prl m T P) (x:Nat):Rch T P x↔x∈P:=by
 constructor
 ·intro r
  induction r with
  | zero=>exact p.sb.z
  | step _ hy ih=>exact p.sb.cl _ ih _ hy
 ·intro hx
  have:=Rch.step (T:=T) (ths:=P) .zero hx
  rwa [p.g.l0 x (p.sb.lt x hx)] at this
theorem ue (p:Prl m T P) : ∃ S',gJ [tab m T,.tup (aq P)] S=some (.tup (aq P),S')/\Ex S S':=by
 obtain⟨Q,S1,e1,x1,q,h⟩:=yr (S:=S) p.g p.hm p.sb.lt
 have:Q=P:=CD q.pw p.pw fun x=>(h x).trans (B4 p x)
 subst this
 exact⟨S1,e1,x1⟩
theorem Ho (p:Prl m T P) : ∃ S',gO [tab m T,.tup (aq P)] S=some (.bl true,S')/\Ex S S':=by
 obtain⟨S1,e1,x1⟩:=Df (S:=S) (w:=P) (n:=m) (by have:=p.len;omega)
 rw [bC.mpr fun x hx=>decide_eq_true (p.sb.lt x hx)] at e1
 obtain⟨S2,e2,x2⟩:=ue (S:=S1) p
 have e3:=BS (ρ := [some (tab m T),some (.tup (aq P))]) (S:=S1) (b:=ab 1) (y:=P) (cN (f:=gJ) (a:=ab 0) (b:=ab 1) (var_eq rfl) (var_eq rfl) e2) (var_eq rfl)
 rw [decide_eq_true rfl] at e3
 exact⟨S2,cw (ρ := [some (tab m T),some (.tup (aq P))]) rfl (cx (DZ (cN (f:=dy) (var_eq rfl) (len_tab (var_eq rfl)) e1) e3)),x1.trans x2⟩
theorem Mi {r:Nat}{ls:List (List Nat)} (hr:S[r]? = some (.lst (tups ls))) (hl:ls.length < 1000) (hz:ls.flatten.length < 64) : ∃ q S',kj [.ref r] S=some (.ref q,S')/\Ex S S'/\S'[q]? = some (.lst (aq (srt ls.flatten))):=by
 obtain⟨ρ1,S1,e1,⟨a,z,rfl,ga⟩,x1,_,_⟩:=ux (i:=2) (n:=r) (e:=ab 0) (us:=tups ls) (b:=bI 1 (m2 cZ (ab 1) (mFn lT (aa (ab 2) af)))) (ρ := [some (.ref r),some (.ref S.length),none]) (S:=S ++ [.lst []]) (var_eq rfl) (by unfold tups;rw [aw];omega)
  (fun k ρ S1=>(∃ a z,ρ = [some (.ref r),some (.ref a),z]/\S1[a]? = some (.lst (aq (ls.take k).flatten)))/\Ex S S1/\S1[r]? = some (.lst (tups ls))/\True)
  ⟨⟨_,_,rfl,bW _ _⟩,Ex.push _ _,(Ex.push _ _).some hr,trivial⟩ (fun k ρ S1 hp=>by unfold getL;rw [hp.2.2.1]) (by
   rintro k u ρ S1 hu ⟨⟨a,z,rfl,ga⟩,x1,gr,_⟩
   obtain⟨s,hs,rfl⟩ : ∃ s,ls[k]? = some s/\U.tup (aq s)=u:=by
    unfold tups at hu
    rw [bg] at hu
    exact d8.mp hu
   have ht:(ls.take k).flatten.length+s.length<=ls.flatten.length:=by
    have h1:(ls.take (k+1)).flatten.length<=ls.flatten.length:=by
     conv=>rhs;rw [<- List.take_append_drop (k+1) ls,pN,aX]
     omega
    rw [gd,hs,pN,aX] at h1
    simpa using h1
   have e2:=add_l (ρ := [some (.ref r),some (.ref a),some (.tup (aq s))]) (S:=S1) (a:=ab 1) (b:=mFn lT (aa (ab 2) af)) (x:=(ls.take k).flatten) (y:=s) (var_eq rfl) (Cz (var_eq rfl)) ((Ex.push _ _).some ga) (bW _ _) (by unfold big;omega)
   refine⟨_,_,bP e2,⟨_,_,rfl,?_⟩,(x1.trans (Ex.push _ _)).trans (Ex.push _ _),(Ex.push _ _).some ((Ex.push _ _).some gr),trivial⟩
   rw [gd,hs,pN]
   simpa using bW _ _)
 rw [show (tups ls).length=ls.length by simp [tups],List.take_of_length_le (aj _)] at ga
 have e3:=wJ (ρ := [some (.ref r),some (.ref a),z]) (S:=S1) (a:=ab 1) (var_eq rfl) ga hz
 exact⟨_,_,cw (ρ := [some (.ref r),some (.ref a),z]) rfl ((aS (bP i8)).trans ((aS e1).trans (cx e3))),x1.trans (Ex.push _ _),bW _ _⟩
end
section
variable {m:Nat}{T:Nat->Nat->Nat}{P:List Nat}{S:Sto}
theorem Ci {a b:List Nat}:cP (pT a) (pT b)=decide (a=b):=by
 have h:=qK [a] [b]
 rw [bA,bA,nA,bV,bV,fe] at h
 rw [h]
 by_cases e:a=b
 ·subst e;simp
 ·simp [e]
theorem Co {ρ:Rho}{S S1 S2:Sto}{a b:ME}{n:Nat}{l:List Nat}{ls:List (List Nat)} (ha:a ρ S=some (.tup (aq l),S1)) (hb:b ρ S1=some (.ref n,S2)) (hn:S2[n]? = some (Cell.lst (tups ls))) (hin:l∈ls):cOf (m2 eJ a b) ρ S=some (false,S2):=by
 refine of_eq (op2 ha hb ?_)
 have e1:toD S2 40 (.tup (aq l))=some (pT l):=by
  exact oz (f:=38)
 have e2:dw (toD S2 40) (tups ls)=some (ls.map pT):=pv (f:=38) ls
 have e3:((ls.map pT).any fun e=>cP e (pT l))=true:=by
  rw [ck]
  exact⟨pT l,aE.mpr ⟨l,hin,rfl⟩,by rw [Ci];exact decide_eq_true rfl⟩
 simp only [eJ,Lr hn,g8,Option.bind_none,Option.none_or,inT,e1,ai,dS,getL,hn,e2,aT,e3]
 rfl
noncomputable def DY:MS:=aZ (sIf (cOr (cOf (m2 oNe (bR (dq (ab 4)) (cOf (m2 oNe (mFn bD (aa (ab 5) af)) (mFn bD (aa (ab 1) af)))) (ab 5)) (cQ af))) (cOf (m2 eJ (ab 1) (ab 4)))) (bU (mC (.bl false))) bX) (sIf (cOf (m2 oNe (mFn kj (aa (ab 4) af)) (hZ (iR1 (aa (mFn bD (aa (ab 0) af)) af))))) (bU (mC (.bl false))) bX)
theorem JQ {r:Nat}{b:Bool}{v2 v3:Option U} (p:Prl m T P) (hr:S[r]? = some (.lst (tups (aM m T P b)))) : ∃ S',DY [some (tab m T),some (.tup (aq P)),v2,v3,some (.ref r)] S=some (.nx,[some (tab m T),some (.tup (aq P)),v2,v3,some (.ref r)],S')/\Ex S S':=by
 have hm:=p.hm
 have hll:(aM m T P b).length<=24:=by
  have h1:=kg (b:=b) p.sb p.g p.nd
  have h2:=mB p.sb
  have:=BI (aM m T P b).length h2
  omega
 have hfl:(aM m T P b).flatten.length=m:=by rw [(rC p.sb p.g p.nd).length_eq,ba]
 have e1:=t6 (t:=cOf (m2 oNe (mFn bD (aa (ab 5) af)) (mFn bD (aa (ab 1) af)))) (e:=ab 5) (a:=ab 4) (ρ := [some (tab m T),some (.tup (aq P)),v2,v3,some (.ref r)]) (n:=r) (S:=S) (p:=fun _=>false) (f:=fun u=>u) (var_eq rfl) hr (by unfold tups;rw [aw];omega) (fun u hu=>by
  obtain⟨s,hs,rfl⟩:=aE.mp hu
  have q:=of_eq (EO (ρ := [some (tab m T),some (.tup (aq P)),v2,v3,some (.ref r)] ++ [some (.tup (aq s))]) (S:=S) (a:=mFn bD (aa (ab 5) af)) (b:=mFn bD (aa (ab 1) af)) (rj (var_eq rfl)) (rj (var_eq rfl)))
  rw [bZ,bZ,oK hs,decide_eq_true rfl] at q
  exact q) (fun u _ h=>by cases h)
 rw [BJ.mpr (fun _ _ h=>by cases h)] at e1
 have c1:=of_eq (vD (x := []) (y := []) e1 i8 ((Ex.push _ _).some (bW _ _)) (bW _ _))
 rw [decide_eq_true rfl] at c1
 have c2:=Co (ρ := [some (tab m T),some (.tup (aq P)),v2,v3,some (.ref r)]) (S:=S ++ [Cell.lst (aq [])] ++ [Cell.lst []]) (a:=ab 1) (b:=ab 4) (var_eq rfl) (var_eq rfl) ((Ex.push _ _).some ((Ex.push _ _).some hr)) (HL p.sb p.g p.pw)
 have c12:=_W.or_false c1 c2
 have x1:Ex S (S ++ [Cell.lst (aq [])] ++ [Cell.lst []]):=(Ex.push _ _).trans (Ex.push _ _)
 generalize S ++ [Cell.lst (aq [])] ++ [Cell.lst []]=S1 at c12 x1
 obtain⟨q,S2,e2,x2,g2⟩:=Mi (S:=S1) (x1.some hr) (by omega) (by omega)
 have hs:srt (aM m T P b).flatten=ar m:=by
  rw [pf (rC p.sb p.g p.nd),ve nB]
 rw [hs] at g2
 have e3:hZ (iR1 (aa (mFn bD (aa (ab 0) af)) af)) [some (tab m T),some (.tup (aq P)),v2,v3,some (.ref r)] S2=some (.ref S2.length,S2 ++ [Cell.lst (aq (ar m))]):=by
  have e:=mO (ρ := [some (tab m T),some (.tup (aq P)),v2,v3,some (.ref r)]) (S:=S2) (S0:=S2) (a:=mFn bD (aa (ab 0) af)) (n:=m) (len_tab (var_eq rfl)) (by unfold big;omega)
  have hz:(bo 0 m).length<=big:=by simp [bo];unfold big;omega
  simp only [hZ,e,aI,hz,if_true]
  rw [show bo 0 m=aq (ar m) by simp [bo,aq]]
 have c3:=of_eq (vD (fo (f:=kj) (a:=ab 4) (var_eq rfl) e2) e3 ((Ex.push _ _).some g2) (bW _ _))
 rw [decide_eq_true rfl] at c3
 exact⟨_,(aS ((ix c12).trans rfl)).trans ((ix c3).trans rfl),(x1.trans x2).trans (Ex.push _ _)⟩
theorem A4 (p:Prl m T P) : ∃ S',ej [tab m T,.tup (aq P)] S=some (.bl true,S')/\Ex S S':=by
 have hm:=p.hm
 have hPl:=p.len
 obtain⟨S1,e1,x1,g1⟩:=uC (S:=S) p.g (by omega) (by omega) p.sb.lt
 obtain⟨S2,e2,x2,g2⟩:=zO (S:=S1) p.g (by omega) (by omega) p.sb.lt
 have e3:=xB (ρ := [some (tab m T),some (.tup (aq P)),some (.ref S.length),some (.ref S1.length),none]) (S:=S2) (a:=ab 2) (b:=ab 3) (var_eq rfl) (var_eq rfl)
 obtain⟨ρ4,S4,e4,⟨z,rfl⟩,x4,_⟩:=ux (i:=4) (n:=S2.length) (e:=cQ (aa (ab 2) (aa (ab 3) af))) (us := [.ref S.length,.ref S1.length]) (b:=DY) (ρ := [some (tab m T),some (.tup (aq P)),some (.ref S.length),some (.ref S1.length),none]) (S:=S2) e3 (by simp)
  (fun k ρ S4=>(∃ z,ρ = [some (tab m T),some (.tup (aq P)),some (.ref S.length),some (.ref S1.length),z])/\Ex (S2 ++ [Cell.lst [.ref S.length,.ref S1.length]]) S4/\True)
  ⟨⟨_,rfl⟩,Ex.refl _,trivial⟩ (fun k ρ S4 hp=>by unfold getL;rw [hp.2.1.some (bW _ _)]) (by
   rintro k u ρ S4 hu ⟨⟨z,rfl⟩,x4,_⟩
   have step : ∀ (r:Nat) (b:Bool),S2[r]? = some (.lst (tups (aM m T P b))) -> ∃ ρ' S',DY [some (tab m T),some (.tup (aq P)),some (.ref S.length),some (.ref S1.length),some (.ref r)] S4=some (.nx,ρ',S')/\(∃ z,ρ' = [some (tab m T),some (.tup (aq P)),some (.ref S.length),some (.ref S1.length),z])/\Ex (S2 ++ [Cell.lst [.ref S.length,.ref S1.length]]) S'/\True:=fun r b hr=>by
    obtain⟨S5,e5,x5⟩:=JQ (S:=S4) (b:=b) (v2:=some (.ref S.length)) (v3:=some (.ref S1.length)) p (x4.some ((Ex.push _ _).some hr))
    exact⟨_,S5,e5,⟨_,rfl⟩,x4.trans x5,trivial⟩
   rcases k with _ | _ | k
   ·cases hu;exact step _ true (x2.some g1)
   ·cases hu;exact step _ false g2
   ·simp at hu)
 have x3:Ex S2 S4:=(Ex.push _ _).trans x4
 have n1:=xb (ρ := [some (tab m T),some (.tup (aq P)),some (.ref S.length),some (.ref S1.length),z]) (S:=S4) (a:=ab 2) (var_eq rfl) ((x2.trans x3).some g1)
 have n2:=xb (ρ := [some (tab m T),some (.tup (aq P)),some (.ref S.length),some (.ref S1.length),z]) (S:=S4) (a:=ab 3) (var_eq rfl) (x3.some g2)
 have e5:=tm n1 n2
 rw [show (tups (aM m T P true)).length=(tups (aM m T P false)).length by simp only [tups,aw];exact AK p.sb p.g p.nd,decide_eq_true rfl] at e5
 exact⟨S4,cw (ρ := [some (tab m T),some (.tup (aq P)),some (.ref S.length),some (.ref S1.length),z]) rfl ((aS (bP (cN (f:=dc) (var_eq rfl) (var_eq rfl) e1))).trans ((aS (bP (cN (f:=fq) (var_eq rfl) (var_eq rfl) e2))).trans ((aS e4).trans (cx e5)))),(x1.trans x2).trans x3⟩
end
section
variable {m:Nat}{T:Nat->Nat->Nat}{P:List Nat}{S:Sto}
noncomputable def cjL (m:Nat) (T:Nat->Nat->Nat) (P:List Nat):Nat->List Nat
 | 0 => []
 | k+1=>cjL m T P k++P.map fun o=>T (T k o) (unT m T k)
theorem yg : ∀ k,(cjL m T P k).length=k*P.length
 | 0=>by simp [cjL]
 | k+1=>by rw [cjL,aX,yg k,aw,i3]
theorem qA {z:Nat} : ∀ k,z∈cjL m T P k ↔ ∃ x,x < k /\ ∃ o∈P,z=T (T x o) (unT m T x)
 | 0=>by
   constructor
   ·intro h;simp [cjL] at h
   ·rintro ⟨x,hx,_⟩;omega
 | k+1=>by
   rw [cjL,bq,qA k]
   constructor
   ·rintro (⟨x,hx,h⟩ | h)
    ·exact⟨x,by omega,h⟩
    ·obtain⟨o,ho,rfl⟩:=aE.mp h
     exact⟨k,cg _,o,ho,rfl⟩
   ·rintro ⟨x,hx,o,ho,rfl⟩
    rcases fj.mp hx with q | q
    ·exact .inl ⟨x,q,o,ho,rfl⟩
    ·subst q;exact .inr (aE.mpr ⟨o,ho,rfl⟩)
theorem KL (p:Prl m T P):decide (srt (ddN (cjL m T P m))=P)=decide (Lv m T P):=by
 have hz : ∀ o∈P,o∈cjL m T P m:=fun o ho=>(qA m).mpr ⟨0,p.g.pos,o,ho,by
  have hom:=p.sb.lt o ho
  rw [Nu p.g,p.g.l0 o hom,p.g.r0 o hom]⟩
 have key:srt (ddN (cjL m T P m))=P↔Lv m T P:=by
  constructor
  ·intro e
   refine za p.sb p.g p.nd fun x hx o ho => ?_
   have:T (T x o) (unT m T x)∈srt (ddN (cjL m T P m)):=ek.mpr (vb.mpr ((qA m).mpr ⟨x,hx,o,ho,rfl⟩))
   rwa [e] at this
  ·intro lv
   have n:=Jt p.sb p.g lv
   refine CD (Cd (Di _)) p.pw fun x => ?_
   rw [ek,vb]
   constructor
   ·intro h
    obtain⟨y,hy,o,ho,rfl⟩:=(qA m).mp h
    exact n y hy o ho
   ·exact hz x
 by_cases h:Lv m T P
 ·rw [decide_eq_true h,decide_eq_true (key.mpr h)]
 ·rw [decide_eq_false h,decide_eq_false (fun z=>h (key.mp z))]
theorem Cj (p:Prl m T P):(ddN (cjL m T P m)).length < 64:=by
 have h1:=o6 m (ddN (cjL m T P m)) (Di _) fun x hx=>by
  obtain⟨y,hy,o,ho,rfl⟩:=(qA m).mp (vb.mp hx)
  exact p.g.cl _ _ (p.g.cl _ _ hy (p.sb.lt o ho)) (pG p.g hy)
 have:=p.hm
 omega
noncomputable def Kb:MS:=aZ (bI 4 (mFn km (aa (ab 0) (aa (ab 3) af)))) (eg (mML iN (ab 2) (aa (bR (dq (ab 1)) cTT (m2 oIx (m2 oIx (ab 0) (m2 oIx (m2 oIx (ab 0) (ab 3)) (ab 11))) (ab 4))) af)))
theorem AU {w:List (Option U)} (p:Prl m T P) (hw:w.length=6) : ∃ u3 u4 S',dF 3 (iR1 (aa (mFn bD (aa (ab 0) af)) af)) Kb ([some (tab m T),some (.tup (aq P)),some (.ref S.length),none,none]++w) (S ++ [.lst []])=some (.nx,[some (tab m T),some (.tup (aq P)),some (.ref S.length),u3,u4]++w,S')/\Ex S S'/\S'[S.length]? = some (.lst (aq (cjL m T P m))):=by
 have hm:=p.hm
 have hPl:=p.len
 obtain⟨ρ1,S1,e1,⟨u3,u4,rfl⟩,x1,g1⟩:=gR (i:=3) (a:=mFn bD (aa (ab 0) af)) (n:=m) (b:=Kb) (ρ := [some (tab m T),some (.tup (aq P)),some (.ref S.length),none,none]++w) (S:=S ++ [.lst []]) (len_tab (var_eq rfl)) (by unfold big;omega)
  (fun k ρ S1=>(∃ u3 u4,ρ = [some (tab m T),some (.tup (aq P)),some (.ref S.length),u3,u4]++w)/\Ex S S1/\S1[S.length]? = some (.lst (aq (cjL m T P k))))
  ⟨⟨_,_,rfl⟩,Ex.push _ _,bW _ _⟩ (by
   rintro k ρ S1 hk ⟨⟨u3,u4,rfl⟩,x1,g1⟩
   have hu:=pG p.g hk
   have e2:mFn km (aa (ab 0) (aa (ab 3) af)) ([some (tab m T),some (.tup (aq P)),some (.ref S.length),some (.int (k:Nat)),u4]++w) S1=some (.int (unT m T k:Nat),S1):=cN (f:=km) (var_eq rfl) (var_eq rfl) (Nr p.g hk)
   have e3:=tS (t:=cTT) (e:=m2 oIx (m2 oIx (ab 0) (m2 oIx (m2 oIx (ab 0) (ab 3)) (ab 11))) (ab 4)) (ρ := [some (tab m T),some (.tup (aq P)),some (.ref S.length),some (.int (k:Nat)),some (.int (unT m T k:Nat))]++w) (S:=S1) (a:=ab 1) (l:=P) (p:=fun _=>true) (f:=fun o => .int (T (T k o) (unT m T k):Nat)) (var_eq rfl) (by omega) (fun _ _=>rfl) (fun o ho _=>by
    have hom:=p.sb.lt o ho
    have v11:([some (tab m T),some (.tup (aq P)),some (.ref S.length),some (.int (k:Nat)),some (.int (unT m T k:Nat))]++w ++ [some (.int (o:Nat))])[11]? = some (some (.int (o:Nat))):=by
     rw [aA (by simp [hw]),aX,hw];rfl
    have v0:([some (tab m T),some (.tup (aq P)),some (.ref S.length),some (.int (k:Nat)),some (.int (unT m T k:Nat))]++w ++ [some (.int (o:Nat))])[0]? = some (some (tab m T)):=rfl
    exact d4 hu (dU (p.g.cl _ _ hk hom) (var_eq v0) (d4 hom (dU hk (var_eq v0) (var_eq rfl)) (var_eq v11))) (var_eq rfl))
   rw [pM.mpr (fun _ _=>rfl),show (P.map fun o=>U.int (T (T k o) (unT m T k):Nat))=aq (P.map fun o=>T (T k o) (unT m T k)) by simp [aq]] at e3
   have e4:=tN (ρ := [some (tab m T),some (.tup (aq P)),some (.ref S.length),some (.int (k:Nat)),some (.int (unT m T k:Nat))]++w) (S:=S1) (o:=ab 2) (r:=S.length) (var_eq rfl) e3 g1 ((Ex.push _ _).some g1) (bW _ _) (by
    rw [bZ,bZ,yg,aw]
    have:k*P.length<=24*24:=Nat.mul_le_mul (by omega) hPl
    unfold big;omega)
   have hq:=(ag.mp g1).1
   refine⟨_,_,(aS (bP e2)).trans e4,⟨_,_,rfl⟩,(x1.trans (Ex.push _ _)).set (aj _),?_⟩
   rw [aW (by simp;omega),cjL]
   simp [aq])
 exact⟨u3,u4,S1,e1,x1,g1⟩
end
theorem LN : ∀ m,m < 25->((0 < ((1+m / 9:Nat):Int)/\((1+m / 9:Nat):Int) < 1073741824)/\PySem.Builtin.Range.small 0 (m:Int) ((1+m / 9:Nat):Int)=true/\0<=dD 0 (m:Int) ((1+m / 9:Nat):Int)) /\ ∀ k,k < (dD 0 (m:Int) ((1+m / 9:Nat):Int)).toNat->k*(1+m / 9) < m:=by
 decide +kernel
theorem KN {i m:Nat}{b:MS}{ρ:Rho}{S:Sto}{x y z:ME} (hm:m < 25) (hx:x ρ S=some (.int 0,S)) (hy:y ρ S=some (.int (m:Nat),S)) (hz:z ρ S=some (.int ((1+m / 9:Nat):Int),S)) (P:Rho->Sto->Prop) (h0:P ρ S)
  (st : ∀ (k:Nat) (ρ:Rho) (S:Sto),k < m->P ρ S -> ∃ ρ' S',b (ρ.set i (some (.int (k:Nat)))) S=some (.nx,ρ',S')/\P ρ' S') : ∃ ρ' S',dF i (iR3 (aa x (aa y (aa z af)))) b ρ S=some (.nx,ρ',S')/\P ρ' S':=by
 obtain⟨ok,bd⟩:=LN m hm
 have hi:iR3 (aa x (aa y (aa z af))) ρ S=some (.imm (fN 0 ((1+m / 9:Nat):Int) (dD 0 (m:Int) ((1+m / 9:Nat):Int)).toNat),S):=by
  unfold iR3
  simp only [aa,af,hx,hy,hz,aI]
  exact if_pos ok
 obtain⟨ρ',S',e1,p1⟩:=ot (i:=i) (b:=b) (fun _ ρ S=>P ρ S) (fN 0 ((1+m / 9:Nat):Int) (dD 0 (m:Int) ((1+m / 9:Nat):Int)).toNat) 0 ρ S h0 fun j u ρ S hj hp=>by
  have hjl:j < (dD 0 (m:Int) ((1+m / 9:Nat):Int)).toNat:=by
   have:=(ag.mp hj).1
   simpa [fN] using this
  have hu:u = .int ((j*(1+m / 9):Nat):Int):=by
   unfold fN at hj
   rw [bg,kc hjl] at hj
   cases hj
   show U.int (0+(j:Int)*((1+m / 9:Nat):Int))=_
   rw [Int.zero_add,<- Int.natCast_mul]
  subst hu
  exact st _ ρ S (bd j hjl) hp
 refine⟨ρ',S',?_,p1⟩
 unfold dF
 rw [hi]
 exact e1
section
variable {m:Nat}{T:Nat->Nat->Nat}{P:List Nat}{S:Sto}
theorem Ie:(fun i j=>nbr (aM m T P true) (T (sX (aM m T P true) i) (sX (aM m T P true) j)))=resT m T P:=rfl
theorem HY {f:Nat->Nat}{i:Nat} (hi:i < m):(aq ((ar m).map f))[i]? = some (.int (f i:Nat)):=by
 unfold aq
 rw [bg,bg,kc hi];rfl
theorem Hc {ρ:Rho}{S S1:Sto}{a b:MT} (ha:a ρ S=some (false,S1)):lu a b ρ S=some (false,S1):=by
 simp [lu,ha,aI]
theorem GT {ρ:Rho}{S S1:Sto}{a b:MT}{r:Option (Bool×Sto)} (ha:a ρ S=some (true,S1)) (hb:b ρ S1=r):lu a b ρ S=r:=by
 simp [lu,ha,aI,hb]
noncomputable def yQ:MS:=aZ (bI 6 (mFn ic (aa (ab 0) (aa (ab 1) af)))) (aZ (sIf (cOr (eG (cOf (mFn iD (aa (ab 6) af)))) (cOf (m2 oNe (m2 fG (mFn bD (aa (ab 6) af)) (mFn bD (aa (ab 1) af))) (mFn bD (aa (ab 0) af))))) (bU (mC (.bl false))) bX) (aZ (sIf (lu (cOf (mFn dh (aa (ab 0) af))) (eG (cOf (mFn dh (aa (ab 6) af))))) (bU (mC (.bl false))) bX) (aZ (bI 7 (bR (iR1 (aa (mFn bD (aa (ab 0) af)) af)) cTT (mFn ja (aa (ab 0) (aa (ab 1) (aa (ab 11) af)))))) (aZ (dF 8 (iR1 (aa (mFn bD (aa (ab 0) af)) af)) (dF 9 (iR3 (aa (mC (.int 0)) (aa (mFn bD (aa (ab 0) af)) (aa (m2 cZ (mC (.int 1)) (m2 oDiv (mFn bD (aa (ab 0) af)) (mC (.int 9)))) af)))) (aZ (bI 10 (m2 oIx (m2 oIx (ab 6) (m2 oIx (ab 7) (ab 8))) (m2 oIx (ab 7) (ab 9)))) (sIf (cOf (m2 oNe (m2 oIx (ab 7) (m2 oIx (m2 oIx (ab 0) (ab 8)) (ab 9))) (ab 10))) (bU (mC (.bl false))) bX)))) (bU (mC (.bl true)))))))
theorem F4 {v2 v3 v4 v5:Option U} (p:Prl m T P) (lv:Lv m T P) : ∃ ρ' S',yQ [some (tab m T),some (.tup (aq P)),v2,v3,v4,v5,none,none,none,none,none] S=some (.rt (.bl true),ρ',S')/\Ex S S':=by
 have hm:=p.hm
 have hPl:=p.len
 have sd:=eU (b:=true) p.sb p.g
 have many:=kg (b:=true) p.sb p.g p.nd
 have hn:(aM m T P true).length<=24:=by
  have:=BI (aM m T P true).length (mB p.sb)
  omega
 have rg:=FD p.sb p.g p.pw lv
 obtain⟨S1,e1,x1⟩:=IC (S:=S) p.sb p.g (by omega) (by omega) lv
 rw [Ie] at e1
 generalize hL:(aM m T P true).length=n at *
 obtain⟨S2,e2,x2⟩:=NF (S:=S1) rg hn
 have c1:cOr (eG (cOf (mFn iD (aa (ab 6) af)))) (cOf (m2 oNe (m2 fG (mFn bD (aa (ab 6) af)) (mFn bD (aa (ab 1) af))) (mFn bD (aa (ab 0) af)))) [some (tab m T),some (.tup (aq P)),v2,v3,v4,v5,some (tab n (resT m T P)),none,none,none,none] S1=some (false,S2):=by
  have q:=of_eq (EO (ρ := [some (tab m T),some (.tup (aq P)),v2,v3,v4,v5,some (tab n (resT m T P)),none,none,none,none]) (S:=S2) (b:=mFn bD (aa (ab 0) af)) (w5 (a:=mFn bD (aa (ab 6) af)) (b:=mFn bD (aa (ab 1) af)) (x:=n) (y:=(aq P).length) (len_tab (var_eq rfl)) (rj (var_eq rfl)) (by omega)) (len_tab (var_eq rfl)))
  rw [bZ,many,decide_eq_true rfl] at q
  exact _W.or_false (not_eq (of_eq (fo (f:=iD) (a:=ab 6) (var_eq rfl) e2))) q
 obtain⟨b3,S3,e3,x3,h3⟩:=Iw (S:=S2) (m:=m) (T:=T) (by omega)
 have c2 : ∃ S4,lu (cOf (mFn dh (aa (ab 0) af))) (eG (cOf (mFn dh (aa (ab 6) af)))) [some (tab m T),some (.tup (aq P)),v2,v3,v4,v5,some (tab n (resT m T P)),none,none,none,none] S2=some (false,S4)/\Ex S2 S4:=by
  have a1:=of_eq (fo (f:=dh) (ρ := [some (tab m T),some (.tup (aq P)),v2,v3,v4,v5,some (tab n (resT m T P)),none,none,none,none]) (a:=ab 0) (var_eq rfl) e3)
  cases b3 with
  | false=>exact⟨S3,Hc a1,x3⟩
  | true=>
    have pl:=h3.mp rfl
    obtain⟨b4,S4,e4,x4,h4⟩:=Iw (S:=S3) (m:=n) (T:=resT m T P) (by omega)
    have:b4=true:=h4.mpr (by
     have:=AI (P:=P) p.sb p.g pl
     rw [hL] at this
     exact this)
    subst this
    exact⟨S4,GT a1 (not_eq (of_eq (fo (f:=dh) (a:=ab 6) (var_eq rfl) e4))),x3.trans x4⟩
 obtain⟨S4,c2,x4⟩:=c2
 obtain⟨S5,e5,x5⟩:=iA (ρ := [some (tab m T),some (.tup (aq P)),v2,v3,v4,v5,some (tab n (resT m T P)),none,none,none,none]) (S:=S4) (S0:=S4) (a:=mFn bD (aa (ab 0) af)) (e:=mFn ja (aa (ab 0) (aa (ab 1) (aa (ab 11) af)))) (n:=m) (len_tab (var_eq rfl)) (by unfold big;omega) (fun j => .int (nbr (aM m T P true) j:Nat)) (fun _ S'=>Ex S4 S') (Ex.refl _) (by
  rintro j S' hj x
  obtain⟨S6,e6,x6⟩:=Eb (S:=S') p.sb p.g (by omega) (by omega) hj
  exact⟨S6,zG (f:=ja) (a:=ab 0) (b:=ab 1) (c:=ab 11) (var_eq rfl) (var_eq rfl) (var_eq rfl) e6,x.trans x6⟩)
 rw [show ((ar m).map fun (j:Nat)=>U.int (nbr (aM m T P true) j:Nat))=aq ((ar m).map (nbr (aM m T P true))) by simp [aq]] at e5
 have g5:(S5 ++ [Cell.lst (aq ((ar m).map (nbr (aM m T P true))))])[S5.length]? = some (Cell.lst (aq ((ar m).map (nbr (aM m T P true))))):=bW _ _
 have x6:Ex S (S5 ++ [Cell.lst (aq ((ar m).map (nbr (aM m T P true))))]):=(((x1.trans x2).trans x4).trans x5).trans (Ex.push _ _)
 generalize S5 ++ [Cell.lst (aq ((ar m).map (nbr (aM m T P true))))]=S6 at e5 g5 x6
 obtain⟨ρ7,S7,e7,⟨w8,w9,w10,rfl⟩,rfl⟩:=gR (i:=8) (a:=mFn bD (aa (ab 0) af)) (n:=m) (b:=dF 9 (iR3 (aa (mC (.int 0)) (aa (mFn bD (aa (ab 0) af)) (aa (m2 cZ (mC (.int 1)) (m2 oDiv (mFn bD (aa (ab 0) af)) (mC (.int 9)))) af)))) (aZ (bI 10 (m2 oIx (m2 oIx (ab 6) (m2 oIx (ab 7) (ab 8))) (m2 oIx (ab 7) (ab 9)))) (sIf (cOf (m2 oNe (m2 oIx (ab 7) (m2 oIx (m2 oIx (ab 0) (ab 8)) (ab 9))) (ab 10))) (bU (mC (.bl false))) bX)))
  (ρ := [some (tab m T),some (.tup (aq P)),v2,v3,v4,v5,some (tab n (resT m T P)),some (.ref S5.length),none,none,none]) (S:=S6) (len_tab (var_eq rfl)) (by unfold big;omega)
  (fun _ ρ S7=>(∃ w8 w9 w10,ρ = [some (tab m T),some (.tup (aq P)),v2,v3,v4,v5,some (tab n (resT m T P)),some (.ref S5.length),w8,w9,w10])/\S7=S6) ⟨⟨_,_,_,rfl⟩,rfl⟩ (by
   rintro i ρ S7 hi ⟨⟨w8,w9,w10,rfl⟩,rfl⟩
   obtain⟨ρ8,S8,e8,⟨w9',w10',rfl⟩,rfl⟩:=KN (i:=9) (m:=m) (b:=aZ (bI 10 (m2 oIx (m2 oIx (ab 6) (m2 oIx (ab 7) (ab 8))) (m2 oIx (ab 7) (ab 9)))) (sIf (cOf (m2 oNe (m2 oIx (ab 7) (m2 oIx (m2 oIx (ab 0) (ab 8)) (ab 9))) (ab 10))) (bU (mC (.bl false))) bX)) (ρ := [some (tab m T),some (.tup (aq P)),v2,v3,v4,v5,some (tab n (resT m T P)),some (.ref S5.length),some (.int (i:Nat)),w9,w10]) (S:=S7) (x:=mC (.int 0)) (y:=mFn bD (aa (ab 0) af)) (z:=m2 cZ (mC (.int 1)) (m2 oDiv (mFn bD (aa (ab 0) af)) (mC (.int 9)))) (by omega) c_i (len_tab (var_eq rfl)) (add_n (x:=1) c_i (rE (y:=9) (len_tab (var_eq rfl)) c_i (by decide) (by decide)))
    (fun ρ S8=>(∃ w9 w10,ρ = [some (tab m T),some (.tup (aq P)),v2,v3,v4,v5,some (tab n (resT m T P)),some (.ref S5.length),some (.int (i:Nat)),w9,w10])/\S8=S7) ⟨⟨_,_,rfl⟩,rfl⟩ (by
     rintro j ρ S8 hj ⟨⟨w9,w10,rfl⟩,rfl⟩
     have n1:=(sd.nb hi).1
     have n2:=(sd.nb hj).1
     rw [hL] at n1 n2
     have f1:=d4 (ρ := [some (tab m T),some (.tup (aq P)),v2,v3,v4,v5,some (tab n (resT m T P)),some (.ref S5.length),some (.int (i:Nat)),some (.int (j:Nat)),w10]) (S:=S8) (T:=resT m T P) n2 (dU n1 (a:=ab 6) (b:=m2 oIx (ab 7) (ab 8)) (var_eq rfl) (vc (a:=ab 7) (b:=ab 8) (var_eq rfl) (var_eq rfl) g5 (jK (HY hi)))) (vc (a:=ab 7) (b:=ab 9) (var_eq rfl) (var_eq rfl) g5 (jK (HY hj)))
     have f2:=vc (ρ := [some (tab m T),some (.tup (aq P)),v2,v3,v4,v5,some (tab n (resT m T P)),some (.ref S5.length),some (.int (i:Nat)),some (.int (j:Nat)),some (.int (resT m T P (nbr (aM m T P true) i) (nbr (aM m T P true) j):Nat))]) (S:=S8) (a:=ab 7) (b:=m2 oIx (m2 oIx (ab 0) (ab 8)) (ab 9)) (var_eq rfl) (d4 hj (dU hi (var_eq rfl) (var_eq rfl)) (var_eq rfl)) g5 (jK (HY (p.g.cl i j hi hj)))
     have f3:=of_eq (EO f2 (b:=ab 10) (var_eq rfl))
     rw [decide_eq_true (i9 p.sb p.g lv hi hj)] at f3
     exact⟨_,_,(aS (bP f1)).trans ((ix f3).trans rfl),⟨_,_,rfl⟩,rfl⟩)
   exact⟨_,_,e8,⟨_,_,_,rfl⟩,rfl⟩)
 exact⟨_,S7,(aS (bP (cN (f:=ic) (var_eq rfl) (var_eq rfl) e1))).trans ((aS ((ix c1).trans rfl)).trans ((aS ((ix c2).trans rfl)).trans ((aS (bP e5)).trans ((aS e7).trans (cx rfl))))),x6⟩
theorem A8 (p:Prl m T P) : ∃ S',eA [tab m T,.tup (aq P)] S=some (.bl true,S')/\Ex S S':=by
 have hm:=p.hm
 have hPl:=p.len
 obtain⟨u3,u4,S1,e1,x1,g1⟩:=AU (S:=S) (w := [none,none,none,none,none,none]) p rfl
 obtain⟨S2,e2,x2⟩:=zR (S:=S1) p.g (by omega) (by omega) p.sb.lt
 have q1:=N0 (ρ := [some (tab m T),some (.tup (aq P)),some (.ref S.length),u3,u4,some (.bl (decide (Lv m T P))),none,none,none,none,none]) (S:=S2) (a:=ab 2) (var_eq rfl) (x2.some g1) (by rw [yg];have:m*P.length<=24*24:=Nat.mul_le_mul hm hPl;omega) (Cj p)
 have q2:=eq_list (b:=mFn lT (aa (ab 1) af)) (y:=P) q1 (Cz (var_eq rfl)) ((Ex.push _ _).some (bW _ _)) (bW _ _)
 rw [KL p] at q2
 have c1:=of_eq (Ma (a:=ab 5) (var_eq rfl) q2)
 rw [show (!(decide (Lv m T P) == decide (Lv m T P)))=false by simp] at c1
 have x3:Ex S (S2 ++ [Cell.lst (aq (srt (ddN (cjL m T P m))))] ++ [Cell.lst (aq P)]):=((x1.trans x2).trans (Ex.push _ _)).trans (Ex.push _ _)
 generalize S2 ++ [Cell.lst (aq (srt (ddN (cjL m T P m))))] ++ [Cell.lst (aq P)]=S3 at c1 x3
 have c2:lu (cOf (m2 oEq (m2 fG (mC (.int 2)) (mFn bD (aa (ab 1) af))) (mFn bD (aa (ab 0) af)))) (eG (cOf (ab 5))) [some (tab m T),some (.tup (aq P)),some (.ref S.length),u3,u4,some (.bl (decide (Lv m T P))),none,none,none,none,none] S3=some (false,S3):=by
  have a1:=of_eq (tm (ρ := [some (tab m T),some (.tup (aq P)),some (.ref S.length),u3,u4,some (.bl (decide (Lv m T P))),none,none,none,none,none]) (S:=S3) (b:=mFn bD (aa (ab 0) af)) (w5 (a:=mC (.int 2)) (b:=mFn bD (aa (ab 1) af)) (x:=2) (y:=(aq P).length) c_i (rj (var_eq rfl)) (by decide)) (len_tab (var_eq rfl)))
  rw [bZ] at a1
  by_cases h2:2*P.length=m
  ·rw [decide_eq_true h2] at a1
   have lv:Lv m T P:=za p.sb p.g p.nd (CY p.sb p.g p.pw h2)
   refine GT a1 ?_
   rw [decide_eq_true lv]
   rfl
  ·rw [decide_eq_false h2] at a1
   exact Hc a1
 have head : ∀ {r:Option (Fl×Rho×Sto)} (k:MS),k [some (tab m T),some (.tup (aq P)),some (.ref S.length),u3,u4,some (.bl (decide (Lv m T P))),none,none,none,none,none] S3=r->aZ (bI 2 (cQ af)) (aZ (dF 3 (iR1 (aa (mFn bD (aa (ab 0) af)) af)) Kb) (aZ (bI 5 (mFn gI (aa (ab 0) (aa (ab 1) af)))) (aZ (sIf (cOf (m2 oNe (ab 5) (m2 oEq (mFn bSS (aa (ab 2) af)) (mFn lT (aa (ab 1) af))))) (bU (mC (.bl false))) bX) (aZ (sIf (lu (cOf (m2 oEq (m2 fG (mC (.int 2)) (mFn bD (aa (ab 1) af))) (mFn bD (aa (ab 0) af)))) (eG (cOf (ab 5)))) (bU (mC (.bl false))) bX) k)))) [some (tab m T),some (.tup (aq P)),none,none,none,none,none,none,none,none,none] S=r:=fun k hk=>
  (aS (bP i8)).trans ((aS e1).trans ((aS (bP (cN (f:=gI) (a:=ab 0) (b:=ab 1) (var_eq rfl) (var_eq rfl) e2))).trans ((aS ((ix c1).trans rfl)).trans ((aS ((ix c2).trans rfl)).trans hk))))
 by_cases lv:Lv m T P
 ·obtain⟨ρ',S4,e4,x4⟩:=F4 (S:=S3) (v2:=some (.ref S.length)) (v3:=u3) (v4:=u4) (v5:=some (.bl (decide (Lv m T P)))) p lv
  refine⟨S4,cw (ρ:=ρ') rfl ?_,x3.trans x4⟩
  refine head (aZ (sIf (eG (cOf (ab 5))) (bU (m1 qW (mFn dh (aa (ab 0) af)))) bX) yQ) ?_
  have c3:eG (cOf (ab 5)) [some (tab m T),some (.tup (aq P)),some (.ref S.length),u3,u4,some (.bl (decide (Lv m T P))),none,none,none,none,none] S3=some (false,S3):=by rw [decide_eq_true lv];rfl
  exact (aS ((ix c3).trans rfl)).trans e4
 ·obtain⟨b4,S4,e4,x4,h4⟩:=Iw (S:=S3) (m:=m) (T:=T) (by omega)
  have hb:b4=false:=by
   cases b4 with
   | false=>rfl
   | true=>exact absurd (za p.sb p.g p.nd (Bo p.sb p.g (h4.mp rfl))) lv
  subst hb
  have c3:eG (cOf (ab 5)) [some (tab m T),some (.tup (aq P)),some (.ref S.length),u3,u4,some (.bl (decide (Lv m T P))),none,none,none,none,none] S3=some (true,S3):=by rw [decide_eq_false lv];rfl
  have e5:m1 qW (mFn dh (aa (ab 0) af)) [some (tab m T),some (.tup (aq P)),some (.ref S.length),u3,u4,some (.bl (decide (Lv m T P))),none,none,none,none,none] S3=some (.bl true,S4):=by
   have:=fo (f:=dh) (ρ := [some (tab m T),some (.tup (aq P)),some (.ref S.length),u3,u4,some (.bl (decide (Lv m T P))),none,none,none,none,none]) (a:=ab 0) (var_eq rfl) e4
   simp only [m1,this,aI]
   rfl
  refine⟨S4,cw (ρ := [some (tab m T),some (.tup (aq P)),some (.ref S.length),u3,u4,some (.bl (decide (Lv m T P))),none,none,none,none,none]) rfl ?_,x3.trans x4⟩
  refine head (aZ (sIf (eG (cOf (ab 5))) (bU (m1 qW (mFn dh (aa (ab 0) af)))) bX) yQ) ?_
  exact Do ((qP c3).trans (cx e5))
end
theorem Dl {n m c:Nat}{T:Nat->Nat->Nat}{S:Sto} (h:m7 n S) (g:Grp m T) (hm:m < 1000) (hc:c < 500) : ∃ w S',fg [.ref n,tab m T,.int c] S=some (.tup (aq w),S')/\Stp n S S'/\(∀ x∈w,x < m)/\w.length<=c:=by
 obtain⟨r,S1,e1,hr,st1⟩:=j5 (m:=c+1) h (by omega) (by omega)
 have et:mFn bu (aa (ab 0) (aa (m2 cZ (ab 2) (mC (.int 1))) af)) [some (.ref n),some (tab m T),some (.int c)] S=some (.int r,S1):=cN (var_eq rfl) (add_n (x:=c) (y:=1) (var_eq rfl) c_i) e1
 obtain⟨w,S2,e2,st2,hw,hwl⟩:=Fw (n:=n) (m:=m) (sv:=ab 0) (mv:=mFn bD (aa (ab 1) af)) et (by omega) st1.st g.pos hm (fun z S=>var_eq rfl) (fun z S=>len_tab (var_eq rfl))
 exact⟨w,S2,cw (ρ := [some (.ref n),some (tab m T),some (.int c)]) rfl (show nE _ _=_ from cx e2),st1.trans st2,hw,by omega⟩
theorem IV {n:Nat}{ρ:Rho}{S:Sto} (h:m7 n S) (h2:ρ[2]? = some (some (.ref n))) : ∃ m T S',mFn gK (aa (ab 2) (aa (m2 oIx (cQ (aa (mC (.int 8)) (aa (mC (.int 12)) (aa (mC (.int 24)) af)))) (mFn bu (aa (ab 2) (aa (mC (.int 3)) af)))) af)) ρ S=some (tab m T,S')/\Grp m T/\m<=24/\Stp n S S':=by
 have f3:cQ (aa (mC (.int 8)) (aa (mC (.int 12)) (aa (mC (.int 24)) af))) ρ S=some (.ref S.length,S ++ [Cell.lst (aq [8,12,24])]):=Fq c_i c_i c_i
 have st3:Stp n S (S ++ [Cell.lst (aq [8,12,24])]):=Stp.ex h (Ex.push _ _)
 obtain⟨r,S4,f4,hr,st4⟩:=j5 (m:=3) st3.st (by decide) (by decide)
 have hne:S.length≠n:=by have:=h.lt;omega
 have g4:S4[S.length]? = some (Cell.lst (aq [8,12,24])):=st4.some hne (bW _ _)
 obtain⟨most,hmost,hm6,hm24⟩ : ∃ most:Nat,(aq [8,12,24])[r]? = some (.int most)/\6<=most/\most<=24:=by
  rcases r with _ | _ | _ | r
  ·exact⟨8,rfl,by decide,by decide⟩
  ·exact⟨12,rfl,by decide,by decide⟩
  ·exact⟨24,rfl,by decide,by decide⟩
  ·omega
 have f5:=vc f3 (cN (f:=bu) (a:=ab 2) (var_eq h2) c_i f4) g4 (jK hmost)
 obtain⟨m,T,S5,f6,gr,hm,st5⟩:=Dj (most:=most) st4.st hm6 (by omega)
 exact⟨m,T,S5,cN (f:=gK) (var_eq h2) f5 f6,gr,by omega,(st3.trans st4).trans st5⟩
theorem Aa {ρ:Rho}{S:Sto}{i j:Nat}{v w:List Nat} (hi:ρ[i]? = some (some (.tup (aq v)))) (h9:ρ.length=9) (hj:ρ[j]? = some (some (.tup (aq w)))) (hl:v.length < 1000) (sub : ∀ x∈v,x∈w):bR (dq (ab i)) (cOf (m2 eJ (ab 9) (ab j))) (ab 9) ρ S=some (.ref S.length,S ++ [.lst []]):=by
 have hjl:=(ag.mp hj).1
 have e:=tS (t:=cOf (m2 eJ (ab 9) (ab j))) (e:=ab 9) (ρ:=ρ) (S:=S) (a:=ab i) (l:=v) (p:=fun _=>false) (f:=fun x => .int (x:Nat)) (var_eq hi) hl (fun x hx=>by
  have v9:(ρ ++ [some (.int (x:Nat))])[9]? = some (some (.int (x:Nat))):=by rw [aA (by omega),h9];rfl
  have vj:(ρ ++ [some (.int (x:Nat))])[j]? = some (some (.tup (aq w))):=by rw [aR hjl];exact hj
  have q:=GO (ρ:=ρ ++ [some (.int (x:Nat))]) (S:=S) (a:=ab 9) (b:=ab j) (x:=x) (l:=w) (var_eq v9) (var_eq vj)
  rw [decide_eq_true (sub x hx)] at q
  exact q) (fun x _ h=>by cases h)
 rw [BJ.mpr (fun _ _ h=>by cases h)] at e
 exact e
noncomputable def DR:MS:=sIf (cOr (eG (cOf (mFn ej (aa (ab 3) (aa (ab 8) af))))) (eG (cOf (mFn eA (aa (ab 3) (aa (ab 8) af)))))) (bU (mC (.bl false))) bX
noncomputable def Ce:MS:=aZ (bI 7 (bR (dq (ab 4)) (cOf (m2 eJ (ab 9) (ab 5))) (ab 9))) (aZ (eg (mML iN (ab 7) (aa (bR (dq (ab 5)) (cOf (m2 eJ (ab 9) (ab 6))) (ab 9)) af))) (aZ (sIf (cOr (cOf (m2 oNe (ab 7) (cQ af))) (cOr (eG (cOf (mFn gO (aa (ab 3) (aa (ab 5) af))))) (cOf (m2 oNe (mFn gJ (aa (ab 3) (aa (ab 5) af))) (ab 5))))) (bU (mC (.bl false))) bX) (aZ (sIf (cOr (eG (cOf (mFn gO (aa (ab 3) (aa (ab 6) af))))) (cOf (m2 oNe (m2 oMod (mFn bD (aa (ab 6) af)) (mFn bD (aa (ab 5) af))) (mC (.int 0))))) (bU (mC (.bl false))) bX) (dF 8 (dq (cQ (aa (ab 5) (aa (ab 6) af)))) DR))))
theorem Jo {ρ:Rho}{S S1 S2:Sto}{a b:ME}{x:List Nat} (ha:a ρ S=some (.tup (aq x),S1)) (hb:b ρ S1=some (.tup (aq x),S2)):cOf (m2 oNe a b) ρ S=some (false,S2):=by
 have h:=op2 (f:=oEq) ha hb rfl
 rw [BS ha hb,decide_eq_true rfl] at h
 refine of_eq (op2 ha hb ?_)
 unfold oEq at h
 unfold oNe
 cases q:_G.eqU S2 (.tup (aq x)) (.tup (aq x)) with
 | none=>rw [q] at h;cases h
 | some b=>rw [q] at h;cases h;rfl
theorem Gg {m:Nat}{T:Nat->Nat->Nat}{P Q v:List Nat}{S:Sto}{v0 v1 v2 v7 v8:Option U} (p:Prl m T P) (q:Prl m T Q) (hv : ∀ x∈v,x∈P) (hvl:v.length < 1000) (sub : ∀ x∈P,x∈Q) : ∃ w7 w8 S',Ce [v0,v1,v2,some (tab m T),some (.tup (aq v)),some (.tup (aq P)),some (.tup (aq Q)),v7,v8] S=some (.nx,[v0,v1,v2,some (tab m T),some (.tup (aq v)),some (.tup (aq P)),some (.tup (aq Q)),w7,w8],S')/\Ex S S':=by
 have hPl:=p.len
 have e1:=Aa (ρ := [v0,v1,v2,some (tab m T),some (.tup (aq v)),some (.tup (aq P)),some (.tup (aq Q)),v7,v8]) (S:=S) (i:=4) (j:=5) rfl rfl rfl hvl hv
 have e2:=Aa (ρ := [v0,v1,v2,some (tab m T),some (.tup (aq v)),some (.tup (aq P)),some (.tup (aq Q)),some (.ref S.length),v8]) (S:=S ++ [Cell.lst []]) (i:=5) (j:=6) rfl rfl rfl (by omega) sub
 have e3:=tN (ρ := [v0,v1,v2,some (tab m T),some (.tup (aq v)),some (.tup (aq P)),some (.tup (aq Q)),some (.ref S.length),v8]) (S:=S ++ [Cell.lst []]) (o:=ab 7) (r:=S.length) (us := []) (ws := []) (var_eq rfl) e2 (bW _ _) ((Ex.push _ _).some (bW _ _)) (bW _ _) (by decide)
 have x3:Ex S ((S ++ [Cell.lst []] ++ [Cell.lst []]).set S.length (.lst ([] ++ []))):=((Ex.push _ _).trans (Ex.push _ _)).set (aj _)
 have g3:((S ++ [Cell.lst []] ++ [Cell.lst []]).set S.length (.lst ([] ++ [])))[S.length]? = some (.lst (aq [])):=aW (by simp)
 generalize (S ++ [Cell.lst []] ++ [Cell.lst []]).set S.length (.lst ([] ++ []))=S3 at e3 x3 g3
 have c1:=of_eq (vD (ρ := [v0,v1,v2,some (tab m T),some (.tup (aq v)),some (.tup (aq P)),some (.tup (aq Q)),some (.ref S.length),v8]) (S:=S3) (a:=ab 7) (x := []) (y := []) (var_eq rfl) i8 ((Ex.push _ _).some g3) (bW _ _))
 rw [decide_eq_true rfl] at c1
 obtain⟨S4,e4,x4⟩:=Ho (S:=S3 ++ [Cell.lst []]) p
 obtain⟨S5,e5,x5⟩:=ue (S:=S4) p
 have c2:=_W.or_false c1 (_W.or_false (not_eq (of_eq (cN (f:=gO) (a:=ab 3) (b:=ab 5) (var_eq rfl) (var_eq rfl) e4))) (Jo (cN (f:=gJ) (a:=ab 3) (b:=ab 5) (var_eq rfl) (var_eq rfl) e5) (b:=ab 5) (var_eq rfl)))
 obtain⟨S6,e6,x6⟩:=Ho (S:=S5) q
 have c3:=of_eq (EO (ρ := [v0,v1,v2,some (tab m T),some (.tup (aq v)),some (.tup (aq P)),some (.tup (aq Q)),some (.ref S.length),v8]) (S:=S6) (b:=mC (.int 0)) (y:=0) (zU (a:=mFn bD (aa (ab 6) af)) (b:=mFn bD (aa (ab 5) af)) (x:=(aq Q).length) (y:=(aq P).length) (rj (var_eq rfl)) (rj (var_eq rfl)) (by rw [bZ];exact mB p.sb)) c_i)
 rw [bZ,bZ,decide_eq_true (E5 p.sb q.sb p.g p.nd q.nd sub)] at c3
 have c4:=_W.or_false (not_eq (of_eq (cN (f:=gO) (a:=ab 3) (b:=ab 6) (var_eq rfl) (var_eq rfl) e6))) c3
 have e7:=xB (ρ := [v0,v1,v2,some (tab m T),some (.tup (aq v)),some (.tup (aq P)),some (.tup (aq Q)),some (.ref S.length),v8]) (S:=S6) (a:=ab 5) (b:=ab 6) (var_eq rfl) (var_eq rfl)
 obtain⟨ρ8,S8,e8,⟨z,rfl⟩,x8⟩:=ux (i:=8) (n:=S6.length) (e:=cQ (aa (ab 5) (aa (ab 6) af))) (us := [.tup (aq P),.tup (aq Q)]) (b:=DR) (ρ := [v0,v1,v2,some (tab m T),some (.tup (aq v)),some (.tup (aq P)),some (.tup (aq Q)),some (.ref S.length),v8]) (S:=S6) e7 (by simp)
  (fun k ρ S8=>(∃ z,ρ = [v0,v1,v2,some (tab m T),some (.tup (aq v)),some (.tup (aq P)),some (.tup (aq Q)),some (.ref S.length),z])/\Ex (S6 ++ [Cell.lst [.tup (aq P),.tup (aq Q)]]) S8)
  ⟨⟨_,rfl⟩,Ex.refl _⟩ (fun k ρ S8 hp=>by unfold getL;rw [hp.2.some (bW _ _)]) (by
   rintro k u ρ S8 hu ⟨⟨z,rfl⟩,x8⟩
   have step : ∀ R,Prl m T R -> ∃ ρ' S',DR [v0,v1,v2,some (tab m T),some (.tup (aq v)),some (.tup (aq P)),some (.tup (aq Q)),some (.ref S.length),some (.tup (aq R))] S8=some (.nx,ρ',S')/\(∃ z,ρ' = [v0,v1,v2,some (tab m T),some (.tup (aq v)),some (.tup (aq P)),some (.tup (aq Q)),some (.ref S.length),z])/\Ex (S6 ++ [Cell.lst [.tup (aq P),.tup (aq Q)]]) S':=fun R hR=>by
    obtain⟨S9,e9,x9⟩:=A4 (S:=S8) hR
    obtain⟨S10,e10,x10⟩:=A8 (S:=S9) hR
    exact⟨_,S10,(ix (_W.or_false (not_eq (of_eq (cN (f:=ej) (a:=ab 3) (b:=ab 8) (var_eq rfl) (var_eq rfl) e9))) (not_eq (of_eq (cN (f:=eA) (a:=ab 3) (b:=ab 8) (var_eq rfl) (var_eq rfl) e10))))).trans rfl,⟨_,rfl⟩,(x8.trans x9).trans x10⟩
   rcases k with _ | _ | k
   ·cases hu;exact step P p
   ·cases hu;exact step Q q
   ·simp at hu)
 exact⟨some (.ref S.length),z,S8,(aS (bP e1)).trans ((aS e3).trans ((aS ((ix c2).trans rfl)).trans ((aS ((ix c4).trans rfl)).trans e8))),((((x3.trans (Ex.push _ _)).trans x4).trans x5).trans x6).trans ((Ex.push _ _).trans x8)⟩
theorem DI (ns:List Int) (hl:ns.length<=63) (S:Sto) (h1:S.length=1) (h2:getL S 0=some (ns.map U.int)) : ∃ S',LJ [.ref 0] S=some (.bl true,S'):=by
 obtain⟨q,hq,eq⟩:=Cn (ρ := [some (.ref 0),none,none,none,none,none,none,none,none]) (c:=5) h2 rfl hl
 obtain⟨ρ1,S1,e1,_,_⟩:=gR (i:=1) (a:=mFn xq (aa (mC (.int 1)) (aa (mFn wX (aa (mFn bD (aa (ab 0) af)) (aa (mC (.int 5)) af))) af))) (n:=q)
  (b:=aZ (bI 2 (mFn jO (aa (ab 0) (aa (ab 1) af)))) (aZ (bI 3 (mFn gK (aa (ab 2) (aa (m2 oIx (cQ (aa (mC (.int 8)) (aa (mC (.int 12)) (aa (mC (.int 24)) af)))) (mFn bu (aa (ab 2) (aa (mC (.int 3)) af)))) af)))) (aZ (bI 4 (mFn fg (aa (ab 2) (aa (ab 3) (aa (mC (.int 2)) af))))) (aZ (bI 5 (mFn gJ (aa (ab 3) (aa (ab 4) af)))) (aZ (bI 6 (mFn gJ (aa (ab 3) (aa (m2 cZ (ab 4) (mFn fg (aa (ab 2) (aa (ab 3) (aa (mC (.int 1)) af))))) af)))) Ce)))))
  (ρ := [some (.ref 0),none,none,none,none,none,none,none,none]) (S:=S) eq (by unfold big;omega)
  (fun k ρ S'=>(∃ a b c d e f g h,ρ = [some (.ref 0),a,b,c,d,e,f,g,h])/\Scr ns S') ⟨⟨_,_,_,_,_,_,_,_,rfl⟩,h2⟩
  (by
   rintro k ρ S' hk ⟨⟨u1,u2,u3,u4,u5,u6,u7,u8,rfl⟩,hs⟩
   have h0:=hs.lt
   obtain⟨S2,f2,x2,st2⟩:=Dq (k:=k) hs
   obtain⟨m,T,S3,f3,g,hm,st3⟩:=IV (ρ := [some (.ref 0),some (.int k),some (.ref S'.length),u3,u4,u5,u6,u7,u8]) st2 rfl
   obtain⟨v,S4,f4,st4,hv,hvl⟩:=Dl (c:=2) st3.st g (by omega) (by decide)
   obtain⟨P,S5,f5,x5,p,hP⟩:=yr (S:=S4) (w:=v) g hm hv
   have st5:=st4.step x5
   obtain⟨w,S6,f6,st6,hw,hwl⟩:=Dl (c:=1) st5.st g (by omega) (by decide)
   obtain⟨Q,S7,f7,x7,q,hQ⟩:=yr (S:=S6) (w:=v++w) g hm (fun x hx=>by
    rcases bq.mp hx with hx | hx
    ·exact hv x hx
    ·exact hw x hx)
   obtain⟨w7,w8,S8,f8,x8⟩:=Gg (S:=S7) (v0:=some (.ref 0)) (v1:=some (.int k)) (v2:=some (.ref S'.length)) (v7:=u7) (v8:=u8) p q (fun x hx=>(hP x).mpr (by
    have:=Rch.step (T:=T) (ths:=v) .zero hx
    rwa [g.l0 x (hv x hx)] at this)) (by omega) (fun x hx=>(hQ x).mpr (Cg (fun y hy=>bB _ hy) ((hP x).mp hx)))
   have e6:mFn gJ (aa (ab 3) (aa (m2 cZ (ab 4) (mFn fg (aa (ab 2) (aa (ab 3) (aa (mC (.int 1)) af))))) af)) [some (.ref 0),some (.int k),some (.ref S'.length),some (tab m T),some (.tup (aq v)),some (.tup (aq P)),u6,u7,u8] S5=some (.tup (aq Q),S7):=cN (f:=gJ) (a:=ab 3) (var_eq rfl) (GY (x:=v) (y:=w) (var_eq rfl) (zG (f:=fg) (a:=ab 2) (b:=ab 3) (var_eq rfl) (var_eq rfl) c_i f6) (by omega)) f7
   refine⟨_,S8,(aS (bP (cN (var_eq rfl) (var_eq rfl) f2))).trans ((aS (bP f3)).trans ((aS (bP (zG (f:=fg) (a:=ab 2) (b:=ab 3) (var_eq rfl) (var_eq rfl) c_i f4))).trans ((aS (bP (cN (f:=gJ) (a:=ab 3) (b:=ab 4) (var_eq rfl) (var_eq rfl) f5))).trans ((aS (bP e6)).trans f8)))),⟨_,_,_,_,_,_,_,_,rfl⟩,?_⟩
   exact ((hs.ex fun c h=>x2.some h).ex fun c h=>(((st3.trans st4).step x5).trans st6).some (by omega) h).ex fun c h=>(x7.trans x8).some h)
 exact⟨S1,cw (ρ:=ρ1) rfl ((aS e1).trans (cx rfl))⟩
end
noncomputable def top (i:Nat):Stmt:=PySem.Challenge.pw_groupwalks_k25_whole_parts.main.body.getD i (.Pass ⟨0,0,0,0⟩)
abbrev gq:Stmt:=top 28
abbrev iQ:Stmt:=top 29
abbrev jk:Stmt:=top 30
abbrev iT:Stmt:=top 31
abbrev iS:Stmt:=top 32
abbrev gn:Stmt:=top 34
abbrev jh:Stmt:=top 33
abbrev iV:Stmt:=top 36
abbrev iW:Stmt:=top 35
abbrev iU:Stmt:=top 37
abbrev jo:Stmt:=top 38
abbrev oU:Stmt:=top 17
abbrev qJ:Stmt:=top 18
abbrev eB:Stmt:=top 5
abbrev dR:Stmt:=top 6
abbrev kr:Stmt:=top 19
abbrev lO:Stmt:=top 20
abbrev hE:Stmt:=top 12
abbrev hC:Stmt:=top 21
abbrev gp:Stmt:=top 22
abbrev ko:Stmt:=top 39
abbrev eu:Stmt:=top 40
abbrev jd:Stmt:=top 23
abbrev fM:Stmt:=top 24
abbrev jj:Stmt:=top 15
abbrev g9:Stmt:=top 26
abbrev lY:Stmt:=top 13
abbrev jm:Stmt:=top 14
abbrev kh:Stmt:=top 25
abbrev jc:Stmt:=top 7
abbrev du:Stmt:=top 8
abbrev hV:Stmt:=top 9
abbrev gy:Stmt:=top 10
abbrev jq:Stmt:=top 11
abbrev en:Stmt:=top 41
abbrev zT:Stmt:=top 42
noncomputable def T0:Tb:=⟨[],[("MOST_THINGS",.int 24)],[],[],false,z0⟩
noncomputable def T1:Tb:=⟨("_law_cell_at",iO)::T0.D,T0.C,[],T0.H,false,T0.Z⟩
noncomputable def T2:Tb:=⟨("_law_state",jO)::T1.D,T1.C,[],T1.H,false,T1.Z⟩
noncomputable def T3:Tb:=⟨("_law_take",bu)::T2.D,T2.C,[],T2.H,false,T2.Z⟩
noncomputable def T4:Tb:=⟨("_law_clock",dB)::T3.D,T3.C,[],T3.H,false,T3.Z⟩
noncomputable def T5:Tb:=⟨("_law_flips",fL)::T4.D,T4.C,[],T4.H,false,T4.Z⟩
noncomputable def T6:Tb:=⟨("_law_quarter",gE)::T5.D,T5.C,[],T5.H,false,T5.Z⟩
noncomputable def T7:Tb:=⟨("_law_both",kJ)::T6.D,T6.C,[],T6.H,false,T6.Z⟩
noncomputable def T8:Tb:=⟨("_law_named",jL)::T7.D,T7.C,[],T7.H,false,T7.Z⟩
noncomputable def T9:Tb:=⟨("_law_order",jJ)::T8.D,T8.C,[],T8.H,false,T8.Z⟩
noncomputable def T10:Tb:=⟨("_law_group",gK)::T9.D,T9.C,[],T9.H,false,T9.Z⟩
noncomputable def T11:Tb:=⟨("_law_some",fg)::T10.D,T10.C,[],T10.H,false,T10.Z⟩
noncomputable def T12:Tb:=⟨("roads",zE)::T11.D,T11.C,[],T11.H,false,T11.Z⟩
noncomputable def T13:Tb:=⟨("span",gJ)::T12.D,T12.C,[],T12.H,false,T12.Z⟩
noncomputable def T14:Tb:=⟨("is_number_below",jN)::T13.D,T13.C,[],T13.H,false,T13.Z⟩
noncomputable def T15:Tb:=⟨("are_numbers_below",dy)::T14.D,T14.C,[],T14.H,false,T14.Z⟩
noncomputable def T16:Tb:=⟨("is_part",gO)::T15.D,T15.C,[],T15.H,false,T15.Z⟩
noncomputable def T17:Tb:=⟨T16.D,T16.C,[],("pieces",qB)::T16.H,false,T16.Z⟩
noncomputable def T18:Tb:=⟨("all_things",kB)::T17.D,T17.C,[],T17.H,false,T17.Z⟩
noncomputable def T19:Tb:=⟨("left_sides",dc)::T18.D,T18.C,[],T18.H,false,T18.Z⟩
noncomputable def T20:Tb:=⟨("right_sides",fq)::T19.D,T19.C,[],T19.H,false,T19.Z⟩
noncomputable def T21:Tb:=⟨("_law_all",kj)::T20.D,T20.C,[],T20.H,false,T20.Z⟩
noncomputable def T22:Tb:=⟨("_law_sides_right",ej)::T21.D,T21.C,[],T21.H,false,T21.Z⟩
noncomputable def T23:Tb:=⟨("is_level",gI)::T22.D,T22.C,[],T22.H,false,T22.Z⟩
noncomputable def T24:Tb:=⟨("side_numbers",eT)::T23.D,T23.C,[],T23.H,false,T23.Z⟩
noncomputable def T25:Tb:=⟨T24.D,T24.C,[],("table_of",qO)::T24.H,false,T24.Z⟩
noncomputable def T26:Tb:=⟨("rest_group",ic)::T25.D,T25.C,[],T25.H,false,T25.Z⟩
noncomputable def T27:Tb:=⟨("undone",km)::T26.D,T26.C,[],T26.H,false,T26.Z⟩
noncomputable def T28:Tb:=⟨("is_plain",dh)::T27.D,T27.C,[],T27.H,false,T27.Z⟩
noncomputable def T29:Tb:=⟨("side_of",ja)::T28.D,T28.C,[],T28.H,false,T28.Z⟩
noncomputable def T30:Tb:=⟨("is_table",kA)::T29.D,T29.C,[],T29.H,false,T29.Z⟩
noncomputable def T31:Tb:=⟨("is_unchanged_by_zero",dv)::T30.D,T30.C,[],T30.H,false,T30.Z⟩
noncomputable def T32:Tb:=⟨("has_undone",ib)::T31.D,T31.C,[],T31.H,false,T31.Z⟩
noncomputable def T33:Tb:=⟨("binds_alike",fv)::T32.D,T32.C,[],T32.H,false,T32.Z⟩
noncomputable def T34:Tb:=⟨("is_group",iD)::T33.D,T33.C,[],T33.H,false,T33.Z⟩
noncomputable def T35:Tb:=⟨("_law_level_right",eA)::T34.D,T34.C,[],T34.H,false,T34.Z⟩
theorem sY:cB T0 80 (["script","k"]:List Str) (av gq).names (aY gq)=some gv:=by kernel_rfl
theorem qY:bx (["script","k"]:List Str) (["script","k"]:List Str) (av gq):=⟨rfl,rfl,rfl,by decide +kernel,rfl,by decide +kernel,by decide +kernel⟩
theorem xr:cB T1 80 (["script","k","cell"]:List Str) (av iQ).names (aY iQ)=some jH:=by kernel_rfl
theorem uz:bx (["script","k","cell"]:List Str) (["script","k"]:List Str) (av iQ):=⟨rfl,rfl,rfl,by decide +kernel,rfl,by decide +kernel,by decide +kernel⟩
theorem yz:cB T2 80 (["state","many","found","mixed"]:List Str) (av jk).names (aY jk)=some kC:=by kernel_rfl
theorem wD:bx (["state","many","found","mixed"]:List Str) (["state","many"]:List Str) (av jk):=⟨rfl,rfl,rfl,by decide +kernel,rfl,by decide +kernel,by decide +kernel⟩
theorem xp:cB T3 80 (["n"]:List Str) (av iT).names (aY iT)=some mn:=by kernel_rfl
theorem vB:bx (["n"]:List Str) (["n"]:List Str) (av iT):=⟨rfl,rfl,rfl,by decide +kernel,rfl,by decide +kernel,by decide +kernel⟩
theorem wz:cB T4 80 (["n","found","i","row","j","turn"]:List Str) (av iS).names (aY iS)=some mj:=by kernel_rfl
theorem uL:bx (["n","found","i","row","j","turn"]:List Str) (["n"]:List Str) (av iS):=⟨rfl,rfl,rfl,by decide +kernel,rfl,by decide +kernel,by decide +kernel⟩
theorem sZ:cB T5 80 (["signs","kinds","found","one","row","other","sign"]:List Str) (av gn).names (aY gn)=some jT:=by kernel_rfl
theorem rm:bx (["signs","kinds","found","one","row","other","sign"]:List Str) ([]:List Str) (av gn):=⟨rfl,rfl,rfl,by decide +kernel,rfl,by decide +kernel,by decide +kernel⟩
theorem zb:cB T6 80 (["one","other","size","found","i","row","j","ahead"]:List Str) (av jh).names (aY jh)=some nM:=by kernel_rfl
theorem xg:bx (["one","other","size","found","i","row","j","ahead"]:List Str) (["one","other"]:List Str) (av jh):=⟨rfl,rfl,rfl,by decide +kernel,rfl,by decide +kernel,by decide +kernel⟩
theorem wt:cB T7 80 (["group","order"]:List Str) (av iV).names (aY iV)=some lP:=by kernel_rfl
theorem uU:bx (["group","order"]:List Str) (["group","order"]:List Str) (av iV):=⟨rfl,rfl,rfl,by decide +kernel,rfl,by decide +kernel,by decide +kernel⟩
theorem wc:cB T8 80 (["state","many","left"]:List Str) (av iW).names (aY iW)=some lL:=by kernel_rfl
theorem uO:bx (["state","many","left"]:List Str) (["state","many"]:List Str) (av iW):=⟨rfl,rfl,rfl,by decide +kernel,rfl,by decide +kernel,by decide +kernel⟩
theorem vW:cB T9 80 (["state","most","way","found","first","one"]:List Str) (av iU).names (aY iU)=some lZ:=by kernel_rfl
theorem uy:bx (["state","most","way","found","first","one"]:List Str) (["state","most"]:List Str) (av iU):=⟨rfl,rfl,rfl,by decide +kernel,rfl,by decide +kernel,by decide +kernel⟩
theorem yW:cB T10 80 (["state","group","most"]:List Str) (av jo).names (aY jo)=some nE:=by kernel_rfl
theorem xo:bx (["state","group","most"]:List Str) (["state","group","most"]:List Str) (av jo):=⟨rfl,rfl,rfl,by decide +kernel,rfl,by decide +kernel,by decide +kernel⟩
theorem Fo:cB T11 80 (["group","things","found","waiting","place","thing","onward"]:List Str) (av oU).names (aY oU)=some zS:=by kernel_rfl
theorem Ed:bx (["group","things","found","waiting","place","thing","onward"]:List Str) (["group","things"]:List Str) (av oU):=⟨rfl,rfl,rfl,by decide +kernel,rfl,by decide +kernel,by decide +kernel⟩
theorem Ju:cB T12 80 (["group","things"]:List Str) (av qJ).names (aY qJ)=some BY:=by kernel_rfl
theorem FQ:bx (["group","things"]:List Str) (["group","things"]:List Str) (av qJ):=⟨rfl,rfl,rfl,by decide +kernel,rfl,by decide +kernel,by decide +kernel⟩
theorem oI:cB T13 80 (["value","many"]:List Str) (av eB).names (aY eB)=some jG:=by kernel_rfl
theorem nK:bx (["value","many"]:List Str) (["value","many"]:List Str) (av eB):=⟨rfl,rfl,rfl,by decide +kernel,rfl,by decide +kernel,by decide +kernel⟩
theorem mZ:cB T14 80 (["value","many"]:List Str) (av dR).names (aY dR)=some i4:=by kernel_rfl
theorem lN:bx (["value","many"]:List Str) (["value","many"]:List Str) (av dR):=⟨rfl,rfl,rfl,by decide +kernel,rfl,by decide +kernel,by decide +kernel⟩
theorem Bm:cB T15 80 (["group","thing"]:List Str) (av kr).names (aY kr)=some tR:=by kernel_rfl
theorem yP:bx (["group","thing"]:List Str) (["group","thing"]:List Str) (av kr):=⟨rfl,rfl,rfl,by decide +kernel,rfl,by decide +kernel,by decide +kernel⟩
theorem DE : ∀ g φ,cB ⟨T16.D,T16.C,[("piece_at",g,φ)],T16.H,T16.mkr,T16.Z⟩ 80 (["rising","piece_at","found","met","least","piece","one"]:List Str) (av lO).names (aY lO)=some (wG g φ):=by intro g φ;kernel_rfl
theorem AA:bx (["rising","piece_at","found","met","least","piece","one"]:List Str) (["rising","piece_at"]:List Str) (av lO):=⟨rfl,rfl,rfl,by decide +kernel,rfl,by decide +kernel,by decide +kernel⟩
theorem uD:cB T17 80 (["group"]:List Str) (av hE).names (aY hE)=some og:=by kernel_rfl
theorem sU:bx (["group"]:List Str) (["group"]:List Str) (av hE):=⟨rfl,rfl,rfl,by decide +kernel,rfl,by decide +kernel,by decide +kernel⟩
theorem vk:cB ⟨T18.D,T18.C,T18.L,T18.H,true,T18.Z.to "<lambda>"⟩ 80 (["group","part"]:List Str) (av hC).names (aY hC)=some ox:=by kernel_rfl
theorem sJ:bx (["group","part"]:List Str) (["group","part"]:List Str) (av hC):=⟨rfl,rfl,rfl,by decide +kernel,rfl,by decide +kernel,by decide +kernel⟩
theorem sy:cB ⟨T19.D,T19.C,T19.L,T19.H,true,T19.Z.to "<lambda>"⟩ 80 (["group","part"]:List Str) (av gp).names (aY gp)=some nj:=by kernel_rfl
theorem rD:bx (["group","part"]:List Str) (["group","part"]:List Str) (av gp):=⟨rfl,rfl,rfl,by decide +kernel,rfl,by decide +kernel,by decide +kernel⟩
theorem Bn:cB T20 80 (["parted","found","side"]:List Str) (av ko).names (aY ko)=some um:=by kernel_rfl
theorem yK:bx (["parted","found","side"]:List Str) (["parted"]:List Str) (av ko):=⟨rfl,rfl,rfl,by decide +kernel,rfl,by decide +kernel,by decide +kernel⟩
theorem oN:cB T21 80 (["group","part","left","right","parted"]:List Str) (av eu).names (aY eu)=some jI:=by kernel_rfl
theorem nR:bx (["group","part","left","right","parted"]:List Str) (["group","part"]:List Str) (av eu):=⟨rfl,rfl,rfl,by decide +kernel,rfl,by decide +kernel,by decide +kernel⟩
theorem yc:cB T22 80 (["group","part"]:List Str) (av jd).names (aY jd)=some nD:=by kernel_rfl
theorem wQ:bx (["group","part"]:List Str) (["group","part"]:List Str) (av jd):=⟨rfl,rfl,rfl,by decide +kernel,rfl,by decide +kernel,by decide +kernel⟩
theorem qV:cB T23 80 (["group","part","numbers","number","side","thing"]:List Str) (av fM).names (aY fM)=some jr:=by kernel_rfl
theorem pP:bx (["group","part","numbers","number","side","thing"]:List Str) (["group","part"]:List Str) (av fM):=⟨rfl,rfl,rfl,by decide +kernel,rfl,by decide +kernel,by decide +kernel⟩
theorem y4 : ∀ g φ,cB ⟨T24.D,T24.C,[("times",g,φ)],T24.H,T24.mkr,T24.Z⟩ 80 (["many","times","rows","i"]:List Str) (av jj).names (aY jj)=some (rA g φ):=by intro g φ;kernel_rfl
theorem wj:bx (["many","times","rows","i"]:List Str) (["many","times"]:List Str) (av jj):=⟨rfl,rfl,rfl,by decide +kernel,rfl,by decide +kernel,by decide +kernel⟩
theorem vl:cB ⟨T25.D,T25.C,T25.L,T25.H,true,T25.Z.to "<lambda>"⟩ 80 (["group","part","leasts","numbers"]:List Str) (av g9).names (aY g9)=some kN:=by kernel_rfl
theorem sW:bx (["group","part","leasts","numbers"]:List Str) (["group","part"]:List Str) (av g9):=⟨rfl,rfl,rfl,by decide +kernel,rfl,by decide +kernel,by decide +kernel⟩
theorem CO:cB T26 80 (["group","thing"]:List Str) (av lY).names (aY lY)=some rY:=by kernel_rfl
theorem A2:bx (["group","thing"]:List Str) (["group","thing"]:List Str) (av lY):=⟨rfl,rfl,rfl,by decide +kernel,rfl,by decide +kernel,by decide +kernel⟩
theorem zf:cB T27 80 (["group","i"]:List Str) (av jm).names (aY jm)=some rH:=by kernel_rfl
theorem wm:bx (["group","i"]:List Str) (["group"]:List Str) (av jm):=⟨rfl,rfl,rfl,by decide +kernel,rfl,by decide +kernel,by decide +kernel⟩
theorem A9:cB T28 80 (["group","part","thing"]:List Str) (av kh).names (aY kh)=some o5:=by kernel_rfl
theorem yD:bx (["group","part","thing"]:List Str) (["group","part","thing"]:List Str) (av kh):=⟨rfl,rfl,rfl,by decide +kernel,rfl,by decide +kernel,by decide +kernel⟩
theorem ze:cB T29 80 (["thing","many"]:List Str) (av jc).names (aY jc)=some nS:=by kernel_rfl
theorem wF:bx (["thing","many"]:List Str) (["thing"]:List Str) (av jc):=⟨rfl,rfl,rfl,by decide +kernel,rfl,by decide +kernel,by decide +kernel⟩
theorem kH:cB T30 80 (["table","i"]:List Str) (av du).names (aY du)=some fh:=by kernel_rfl
theorem kq:bx (["table","i"]:List Str) (["table","i"]:List Str) (av du):=⟨rfl,rfl,rfl,by decide +kernel,rfl,by decide +kernel,by decide +kernel⟩
theorem vp:cB T31 80 (["table","i"]:List Str) (av hV).names (aY hV)=some kE:=by kernel_rfl
theorem sQ:bx (["table","i"]:List Str) (["table","i"]:List Str) (av hV):=⟨rfl,rfl,rfl,by decide +kernel,rfl,by decide +kernel,by decide +kernel⟩
theorem sx:cB T32 80 (["table","i","j","product"]:List Str) (av gy).names (aY gy)=some jZ:=by kernel_rfl
theorem rG:bx (["table","i","j","product"]:List Str) (["table","i","j"]:List Str) (av gy):=⟨rfl,rfl,rfl,by decide +kernel,rfl,by decide +kernel,by decide +kernel⟩
theorem yn:cB T33 80 (["thing","i"]:List Str) (av jq).names (aY jq)=some nQ:=by kernel_rfl
theorem wy:bx (["thing","i"]:List Str) (["thing"]:List Str) (av jq):=⟨rfl,rfl,rfl,by decide +kernel,rfl,by decide +kernel,by decide +kernel⟩
theorem oJ:cB T34 80 (["group","part","turned","thing","back_here","level","rest","numbers","one","other","due"]:List Str) (av en).names (aY en)=some jF:=by kernel_rfl
theorem nI:bx (["group","part","turned","thing","back_here","level","rest","numbers","one","other","due"]:List Str) (["group","part"]:List Str) (av en):=⟨rfl,rfl,rfl,by decide +kernel,rfl,by decide +kernel,by decide +kernel⟩
theorem LD:cB T35 80 (["script","k","state","group","things","part","wider","lacking","one"]:List Str) (av zT).names (aY zT)=some Hv:=by kernel_rfl
theorem JO:bx (["script","k","state","group","things","part","wider","lacking","one"]:List Str) (["script"]:List Str) (av zT):=⟨rfl,rfl,rfl,by decide +kernel,rfl,by decide +kernel,by decide +kernel⟩
theorem chain {P:Program}{w:World}{K:ak}{mg:Str->Option Value}{h:Heap}{k18 p18:Addr}{k19 p19:Addr}{k25 p25:Addr} (X:K.In h) (Gn:h.Ns mainGlobals mg) (B : ∀ x∈kf,eQ K mainGlobals x=some none) (kc0 : ∃ t,eQ K mainGlobals "MOST_THINGS"=some (some (.int 24 t))) (g18:mainGlobals≠p18) (g19:mainGlobals≠p19) (g25:mainGlobals≠p25) (nd:([p18,p19,p25]:List Addr).Nodup)
  (D0:Def K "_law_cell_at" gq) (D1:Def K "_law_state" iQ) (D2:Def K "_law_take" jk) (D3:Def K "_law_clock" iT) (D4:Def K "_law_flips" iS) (D5:Def K "_law_quarter" gn) (D6:Def K "_law_both" jh) (D7:Def K "_law_named" iV) (D8:Def K "_law_order" iW) (D9:Def K "_law_group" iU) (D10:Def K "_law_some" jo) (D11:Def K "roads" oU) (D12:Def K "span" qJ) (D13:Def K "is_number_below" eB) (D14:Def K "are_numbers_below" dR) (D15:Def K "is_part" kr) (D16:Def K "pieces" lO) (D17:Def K "all_things" hE) (D18:m6 K "left_sides" hC k18 p18) (D19:m6 K "right_sides" gp k19 p19) (D20:Def K "_law_all" ko) (D21:Def K "_law_sides_right" eu) (D22:Def K "is_level" jd) (D23:Def K "side_numbers" fM) (D24:Def K "table_of" jj) (D25:m6 K "rest_group" g9 k25 p25) (D26:Def K "undone" lY) (D27:Def K "is_plain" jm) (D28:Def K "side_of" kh) (D29:Def K "is_table" jc) (D30:Def K "is_unchanged_by_zero" du) (D31:Def K "has_undone" hV) (D32:Def K "binds_alike" gy) (D33:Def K "is_group" jq) (D34:Def K "_law_level_right" en) : ∀ (caps:List U) (capv:List V) (cds:List (Addr×Obj)) (base:Heap),h8 mg base->TOk ⟨P,w,⟨K,caps,capv,cds,[(p18,("left_sides":Str)++".<locals>."++"<lambda>"),(p19,("right_sides":Str)++".<locals>."++"<lambda>"),(p25,("rest_group":Str)++".<locals>."++"<lambda>")]⟩,mg,base,none⟩ T35 39:=by
 have C0:Ch P w K mg [(p18,("left_sides":Str)++".<locals>."++"<lambda>"),(p19,("right_sides":Str)++".<locals>."++"<lambda>"),(p25,("rest_group":Str)++".<locals>."++"<lambda>")] T0 0:=⟨fun _ _ _ _ _=>TOk.con (TOk.nil X Gn B) X Gn kc0,(fun _ _ _ _ _ _ _ z=>by cases z),(fun _ _ _ _ _ _ _ z=>by cases z)⟩
 have nd:(([(p18,("left_sides":Str)++".<locals>."++"<lambda>"),(p19,("right_sides":Str)++".<locals>."++"<lambda>"),(p25,("rest_group":Str)++".<locals>."++"<lambda>")]:List (Addr×Str)).map (·.1)).Nodup:=by simpa using nd
 have C1:Ch P w K mg _ T1 1:=C0.dfn C0.o rfl X Gn D0 qY (fun _ _ _ _ _ _=>us2 fun _ _=>rfl) sY
 have C2:Ch P w K mg _ T2 2:=C1.dfn C1.o rfl X Gn D1 uz (fun _ _ _ _ _ _=>us2 fun _ _=>rfl) xr
 have C3:Ch P w K mg _ T3 3:=C2.dfn C2.o rfl X Gn D2 wD (fun _ _ _ _ _ _=>us2 fun _ _=>rfl) yz
 have C4:Ch P w K mg _ T4 4:=C3.dfn C3.o rfl X Gn D3 vB (fun _ _ _ _ _ _=>us1 fun _=>rfl) xp
 have C5:Ch P w K mg _ T5 5:=C4.dfn C4.o rfl X Gn D4 uL (fun _ _ _ _ _ _=>us1 fun _=>rfl) wz
 have C6:Ch P w K mg _ T6 6:=C5.dfn C5.o rfl X Gn D5 rm (fun _ _ _ _ _ _=>us0 rfl) sZ
 have C7:Ch P w K mg _ T7 7:=C6.dfn C6.o rfl X Gn D6 xg (fun _ _ _ _ _ _=>us2 fun _ _=>rfl) zb
 have C8:Ch P w K mg _ T8 8:=C7.dfn C7.o rfl X Gn D7 uU (fun _ _ _ _ _ _=>us2 fun _ _=>rfl) wt
 have C9:Ch P w K mg _ T9 9:=C8.dfn C8.o rfl X Gn D8 uO (fun _ _ _ _ _ _=>us2 fun _ _=>rfl) wc
 have C10:Ch P w K mg _ T10 10:=C9.dfn C9.o rfl X Gn D9 uy (fun _ _ _ _ _ _=>us2 fun _ _=>rfl) vW
 have C11:Ch P w K mg _ T11 11:=C10.dfn C10.o rfl X Gn D10 xo (fun _ _ _ _ _ _=>us3 fun _ _ _=>rfl) yW
 have C12:Ch P w K mg _ T12 12:=C11.dfn C11.o rfl X Gn D11 Ed (fun _ _ _ _ _ _=>us2 fun _ _=>rfl) Fo
 have C13:Ch P w K mg _ T13 13:=C12.dfn C12.o rfl X Gn D12 FQ (fun _ _ _ _ _ _=>us2 fun _ _=>rfl) Ju
 have C14:Ch P w K mg _ T14 14:=C13.dfn C13.o rfl X Gn D13 nK (fun _ _ _ _ _ _=>us2 fun _ _=>rfl) oI
 have C15:Ch P w K mg _ T15 15:=C14.dfn C14.o rfl X Gn D14 lN (fun _ _ _ _ _ _=>us2 fun _ _=>rfl) mZ
 have C16:Ch P w K mg _ T16 16:=C15.dfn C15.o rfl X Gn D15 yP (fun _ _ _ _ _ _=>us2 fun _ _=>rfl) Bm
 have C17:Ch P w K mg _ T17 16:=C16.cls rfl rfl X Gn D16 AA (fun _ _ _ _ _ _=>us2 fun _ _=>rfl) DE
 have C18:Ch P w K mg _ T18 17:=C17.dfn C17.o rfl X Gn D17 sU (fun _ _ _ _ _ _=>us1 fun _=>rfl) uD
 have C19:Ch P w K mg _ T19 20:=C18.lam_ rfl rfl (by simp) nd g18 X Gn D18 sJ (fun _ _ _ _ _ _=>us2 fun _ _=>rfl) vk
 have C20:Ch P w K mg _ T20 23:=C19.lam_ rfl rfl (by simp) nd g19 X Gn D19 rD (fun _ _ _ _ _ _=>us2 fun _ _=>rfl) sy
 have C21:Ch P w K mg _ T21 24:=C20.dfn C20.o rfl X Gn D20 yK (fun _ _ _ _ _ _=>us1 fun _=>rfl) Bn
 have C22:Ch P w K mg _ T22 25:=C21.dfn C21.o rfl X Gn D21 nR (fun _ _ _ _ _ _=>us2 fun _ _=>rfl) oN
 have C23:Ch P w K mg _ T23 26:=C22.dfn C22.o rfl X Gn D22 wQ (fun _ _ _ _ _ _=>us2 fun _ _=>rfl) yc
 have C24:Ch P w K mg _ T24 27:=C23.dfn C23.o rfl X Gn D23 pP (fun _ _ _ _ _ _=>us2 fun _ _=>rfl) qV
 have C25:Ch P w K mg _ T25 27:=C24.cls rfl rfl X Gn D24 wj (fun _ _ _ _ _ _=>us2 fun _ _=>rfl) y4
 have C26:Ch P w K mg _ T26 30:=C25.lam_ rfl rfl (by simp) nd g25 X Gn D25 sW (fun _ _ _ _ _ _=>us2 fun _ _=>rfl) vl
 have C27:Ch P w K mg _ T27 31:=C26.dfn C26.o rfl X Gn D26 A2 (fun _ _ _ _ _ _=>us2 fun _ _=>rfl) CO
 have C28:Ch P w K mg _ T28 32:=C27.dfn C27.o rfl X Gn D27 wm (fun _ _ _ _ _ _=>us1 fun _=>rfl) zf
 have C29:Ch P w K mg _ T29 33:=C28.dfn C28.o rfl X Gn D28 yD (fun _ _ _ _ _ _=>us3 fun _ _ _=>rfl) A9
 have C30:Ch P w K mg _ T30 34:=C29.dfn C29.o rfl X Gn D29 wF (fun _ _ _ _ _ _=>us1 fun _=>rfl) ze
 have C31:Ch P w K mg _ T31 35:=C30.dfn C30.o rfl X Gn D30 kq (fun _ _ _ _ _ _=>us2 fun _ _=>rfl) kH
 have C32:Ch P w K mg _ T32 36:=C31.dfn C31.o rfl X Gn D31 sQ (fun _ _ _ _ _ _=>us2 fun _ _=>rfl) vp
 have C33:Ch P w K mg _ T33 37:=C32.dfn C32.o rfl X Gn D32 rG (fun _ _ _ _ _ _=>us3 fun _ _ _=>rfl) sx
 have C34:Ch P w K mg _ T34 38:=C33.dfn C33.o rfl X Gn D33 wy (fun _ _ _ _ _ _=>us1 fun _=>rfl) yn
 have C35:Ch P w K mg _ T35 39:=C34.dfn C34.o rfl X Gn D34 nI (fun _ _ _ _ _ _=>us2 fun _ _=>rfl) oJ
 exact fun caps capv cds base hbb=>(C35.o caps capv cds base hbb)
theorem all_mk {l:mX}{w:World}{K:ak}{h:Heap}{mg:Str->Option Value}{fa:Addr}{q:Program}{k18 p18:Addr}{k19 p19:Addr}{k25 p25:Addr} (X:K.In h) (Gn:h.Ns mainGlobals mg) (hfa:mg "law"=some (.ref fa)) (B : ∀ x∈kf,eQ K mainGlobals x=some none) (kc0 : ∃ t,eQ K mainGlobals "MOST_THINGS"=some (some (.int 24 t))) (g18:mainGlobals≠p18) (g19:mainGlobals≠p19) (g25:mainGlobals≠p25) (nd:([p18,p19,p25]:List Addr).Nodup)
  (D0:Def K "_law_cell_at" gq) (D1:Def K "_law_state" iQ) (D2:Def K "_law_take" jk) (D3:Def K "_law_clock" iT) (D4:Def K "_law_flips" iS) (D5:Def K "_law_quarter" gn) (D6:Def K "_law_both" jh) (D7:Def K "_law_named" iV) (D8:Def K "_law_order" iW) (D9:Def K "_law_group" iU) (D10:Def K "_law_some" jo) (D11:Def K "roads" oU) (D12:Def K "span" qJ) (D13:Def K "is_number_below" eB) (D14:Def K "are_numbers_below" dR) (D15:Def K "is_part" kr) (D16:Def K "pieces" lO) (D17:Def K "all_things" hE) (D18:m6 K "left_sides" hC k18 p18) (D19:m6 K "right_sides" gp k19 p19) (D20:Def K "_law_all" ko) (D21:Def K "_law_sides_right" eu) (D22:Def K "is_level" jd) (D23:Def K "side_numbers" fM) (D24:Def K "table_of" jj) (D25:m6 K "rest_group" g9 k25 p25) (D26:Def K "undone" lY) (D27:Def K "is_plain" jm) (D28:Def K "side_of" kh) (D29:Def K "is_table" jc) (D30:Def K "is_unchanged_by_zero" du) (D31:Def K "has_undone" hV) (D32:Def K "binds_alike" gy) (D33:Def K "is_group" jq) (D34:Def K "_law_level_right" en) (D35:Def K "law" zT) {d18:DefRec} (n18:K.lookup p18=none) (r18:(fZ q).find? (fun e=>e.name == ("left_sides":Str))=some d18) {d19:DefRec} (n19:K.lookup p19=none) (r19:(fZ q).find? (fun e=>e.name == ("right_sides":Str))=some d19) {d25:DefRec} (n25:K.lookup p25=none) (r25:(fZ q).find? (fun e=>e.name == ("rest_group":Str))=some d25) :
  ∃ (tabs:List (Addr×Str)) (fd:FuncData) (sp:Sp),(∀ r∈tabs,K.lookup r.1=none /\ ∃ x d c,(fZ q).find? (fun e=>e.name == x)=some d/\PySem.W.tabIn K x=some (c,r.1))/\(∀ (s:Shared) (v:Value),BindsTo s fd ⟨[v],[]⟩ [("script",v)]) /\
   (∀ base:Heap,K.In base->base.Ns mainGlobals mg->h8 mg base->ki l.prog w K mg base CX0 40 fa fd ["script"] sp) /\ ∀ (H:Hp) (a:Addr) (ns:List Int),ns.length<=63->(∀ r∈tabs,y3 H r.1 r.2)->SqL K H a (ns.map V.int)->sp [.ref a] H (fun v _=>v = .bl true) fun _ _ _=>False:=by
 obtain⟨fd,h1,h2⟩:=HN (l:=l) (w:=w) (tabs := [(p18,("left_sides":Str)++".<locals>."++"<lambda>"),(p19,("right_sides":Str)++".<locals>."++"<lambda>"),(p25,("rest_group":Str)++".<locals>."++"<lambda>")]) X Gn hfa D35 JO (fun _ _ _ _ _ _=>us1 fun _=>rfl) rfl (fun base hbb=>chain X Gn B  kc0 g18 g19 g25 nd D0 D1 D2 D3 D4 D5 D6 D7 D8 D9 D10 D11 D12 D13 D14 D15 D16 D17 D18 D19 D20 D21 D22 D23 D24 D25 D26 D27 D28 D29 D30 D31 D32 D33 D34 [] [] [] base hbb) LD
 refine⟨[(p18,("left_sides":Str)++".<locals>."++"<lambda>"),(p19,("right_sides":Str)++".<locals>."++"<lambda>"),(p25,("rest_group":Str)++".<locals>."++"<lambda>")],fd,_,?_,h1,h2,fun H a ns hl hT hS=>MQ hT hS fun S h1 h2=>DI ns hl S h1 h2⟩
 intro r hr
 simp only [aJ,mV,_root_.or_false] at hr
 rcases hr with rfl | rfl | rfl
 ·exact⟨n18,_,_,_,r18,D18.tab⟩
 ·exact⟨n19,_,_,_,r19,D19.tab⟩
 ·exact⟨n25,_,_,_,r25,D25.tab⟩
theorem walk {l:mX}{q:Program}{loose:List Str}{XP:(Str->Option Value)->Heap->Prop}{YP:World->Heap->Prop}{d:DefRec}{K:Params->ak} (hn:l.most=some 63) (hdf:d.params.defaults = [])
  (hY : ∀ (w:World) (h:Heap),YP w h->(K w.params).In h)
  (F : ∀ (w:World) (mg:Str->Option Value) (fa:Addr) (h:Heap),(K w.params).In h->h.Ns mainGlobals mg->mg d.name=some (.ref fa) -> ∃ (tabs:List (Addr×Str)) (fd:FuncData) (sp:Sp),
   (∀ r∈tabs,(K w.params).lookup r.1=none /\ ∃ x d c,(fZ q).find? (fun e=>e.name == x)=some d/\PySem.W.tabIn (K w.params) x=some (c,r.1))/\(∀ (s:Shared) (v:Value),BindsTo s fd ⟨[v],[]⟩ [("script",v)]) /\
   (∀ base:Heap,(K w.params).In base->base.Ns mainGlobals mg->h8 mg base->ki l.prog w (K w.params) mg base CX0 40 fa fd ["script"] sp) /\ ∀ (H:Hp) (a:Addr) (ns:List Int),ns.length<=63->(∀ r∈tabs,y3 H r.1 r.2)->SqL (K w.params) H a (ns.map V.int)->sp [.ref a] H (fun v _=>v = .bl true) fun _ _ _=>False) :
  PySem.W.WalkO q loose XP YP l.row.toRowW d [] (fun f vs=>PySem.call f vs):=
 Ck (n:=63) (k:=40) (x:="script") hn (by decide) hdf ⟨rfl,by decide,by decide,rfl⟩ hY F
end _W
open PySem PySem.W PyProof.Rows
theorem PySem.W.Fast.te6888808608572833915 : True := trivial
set_option maxRecDepth 100000 in
set_option maxHeartbeats 0 in
theorem PySem.Challenge.cw_groupwalks_k25_whole_parts_holds : PySem.Challenge.rw_groupwalks_k25_whole_parts.Holds := by
 w_on;o_law;k_head;(case hw=>w_witness2)
 k_fill
 refine _W.walk (l:=PySem.Challenge.rw_groupwalks_k25_whole_parts) rfl rfl (fun w h Y=>PySem.W.km_in_of Y) ?F
 case F=>
  intro w mg fa h KX Gh hmg
  refine' _W.all_mk KX Gh hmg ?B ?con0 ?g18 ?g19 ?g25 ?nd (_G.cW ?a0 ?l0 ?c0 ?k0) (_G.cW ?a1 ?l1 ?c1 ?k1) (_G.cW ?a2 ?l2 ?c2 ?k2) (_G.cW ?a3 ?l3 ?c3 ?k3) (_G.cW ?a4 ?l4 ?c4 ?k4) (_G.cW ?a5 ?l5 ?c5 ?k5) (_G.cW ?a6 ?l6 ?c6 ?k6) (_G.cW ?a7 ?l7 ?c7 ?k7) (_G.cW ?a8 ?l8 ?c8 ?k8) (_G.cW ?a9 ?l9 ?c9 ?k9) (_G.cW ?a10 ?l10 ?c10 ?k10) (_G.cW ?a11 ?l11 ?c11 ?k11) (_G.cW ?a12 ?l12 ?c12 ?k12) (_G.cW ?a13 ?l13 ?c13 ?k13) (_G.cW ?a14 ?l14 ?c14 ?k14) (_G.cW ?a15 ?l15 ?c15 ?k15) (_G.cW ?a16 ?l16 ?c16 ?k16) (_G.cW ?a17 ?l17 ?c17 ?k17) (_G.vA ?a18 ?l18 ?c18 ?k18 ?e18 ?u18 ?v18 ?w18 ?x18 ?y18 ?z18 ?t18) (_G.vA ?a19 ?l19 ?c19 ?k19 ?e19 ?u19 ?v19 ?w19 ?x19 ?y19 ?z19 ?t19) (_G.cW ?a20 ?l20 ?c20 ?k20) (_G.cW ?a21 ?l21 ?c21 ?k21) (_G.cW ?a22 ?l22 ?c22 ?k22) (_G.cW ?a23 ?l23 ?c23 ?k23) (_G.cW ?a24 ?l24 ?c24 ?k24) (_G.vA ?a25 ?l25 ?c25 ?k25 ?e25 ?u25 ?v25 ?w25 ?x25 ?y25 ?z25 ?t25) (_G.cW ?a26 ?l26 ?c26 ?k26) (_G.cW ?a27 ?l27 ?c27 ?k27) (_G.cW ?a28 ?l28 ?c28 ?k28) (_G.cW ?a29 ?l29 ?c29 ?k29) (_G.cW ?a30 ?l30 ?c30 ?k30) (_G.cW ?a31 ?l31 ?c31 ?k31) (_G.cW ?a32 ?l32 ?c32 ?k32) (_G.cW ?a33 ?l33 ?c33 ?k33) (_G.cW ?a34 ?l34 ?c34 ?k34) (_G.cW ?a35 ?l35 ?c35 ?k35) ?n18 ?r18 ?n19 ?r19 ?n25 ?r25
  (case con0=>exact⟨_,by k_is⟩)
  case B=>
   intro x hx
   simp only [_G.kf,aJ,mV,or_false] at hx
   rcases hx with rfl | rfl | rfl | rfl | rfl | rfl | rfl | rfl | rfl | rfl | rfl | rfl | rfl | rfl | rfl | rfl | rfl | rfl | rfl | rfl
   all_goals k_is
  (case a0=>k_is);(case l0=>k_is);(case c0=>k_is);(case k0=>k_is)
  (case a1=>k_is);(case l1=>k_is);(case c1=>k_is);(case k1=>k_is)
  (case a2=>k_is);(case l2=>k_is);(case c2=>k_is);(case k2=>k_is)
  (case a3=>k_is);(case l3=>k_is);(case c3=>k_is);(case k3=>k_is)
  (case a4=>k_is);(case l4=>k_is);(case c4=>k_is);(case k4=>k_is)
  (case a5=>k_is);(case l5=>k_is);(case c5=>k_is);(case k5=>k_is)
  (case a6=>k_is);(case l6=>k_is);(case c6=>k_is);(case k6=>k_is)
  (case a7=>k_is);(case l7=>k_is);(case c7=>k_is);(case k7=>k_is)
  (case a8=>k_is);(case l8=>k_is);(case c8=>k_is);(case k8=>k_is)
  (case a9=>k_is);(case l9=>k_is);(case c9=>k_is);(case k9=>k_is)
  (case a10=>k_is);(case l10=>k_is);(case c10=>k_is);(case k10=>k_is)
  (case a11=>k_is);(case l11=>k_is);(case c11=>k_is);(case k11=>k_is)
  (case a12=>k_is);(case l12=>k_is);(case c12=>k_is);(case k12=>k_is)
  (case a13=>k_is);(case l13=>k_is);(case c13=>k_is);(case k13=>k_is)
  (case a14=>k_is);(case l14=>k_is);(case c14=>k_is);(case k14=>k_is)
  (case a15=>k_is);(case l15=>k_is);(case c15=>k_is);(case k15=>k_is)
  (case a16=>k_is);(case l16=>k_is);(case c16=>k_is);(case k16=>k_is)
  (case a17=>k_is);(case l17=>k_is);(case c17=>k_is);(case k17=>k_is)
  (case a18=>k_is);(case l18=>k_is);(case c18=>k_is);(case k18=>k_is)
  (case e18=>k_is);(case u18=>rfl);(case v18=>rfl);(case w18=>rfl);(case x18=>rfl);(case y18=>rfl);(case z18=>rfl);(case t18=>decide)
  (case a19=>k_is);(case l19=>k_is);(case c19=>k_is);(case k19=>k_is)
  (case e19=>k_is);(case u19=>rfl);(case v19=>rfl);(case w19=>rfl);(case x19=>rfl);(case y19=>rfl);(case z19=>rfl);(case t19=>decide)
  (case a20=>k_is);(case l20=>k_is);(case c20=>k_is);(case k20=>k_is)
  (case a21=>k_is);(case l21=>k_is);(case c21=>k_is);(case k21=>k_is)
  (case a22=>k_is);(case l22=>k_is);(case c22=>k_is);(case k22=>k_is)
  (case a23=>k_is);(case l23=>k_is);(case c23=>k_is);(case k23=>k_is)
  (case a24=>k_is);(case l24=>k_is);(case c24=>k_is);(case k24=>k_is)
  (case a25=>k_is);(case l25=>k_is);(case c25=>k_is);(case k25=>k_is)
  (case e25=>k_is);(case u25=>rfl);(case v25=>rfl);(case w25=>rfl);(case x25=>rfl);(case y25=>rfl);(case z25=>rfl);(case t25=>decide)
  (case a26=>k_is);(case l26=>k_is);(case c26=>k_is);(case k26=>k_is)
  (case a27=>k_is);(case l27=>k_is);(case c27=>k_is);(case k27=>k_is)
  (case a28=>k_is);(case l28=>k_is);(case c28=>k_is);(case k28=>k_is)
  (case a29=>k_is);(case l29=>k_is);(case c29=>k_is);(case k29=>k_is)
  (case a30=>k_is);(case l30=>k_is);(case c30=>k_is);(case k30=>k_is)
  (case a31=>k_is);(case l31=>k_is);(case c31=>k_is);(case k31=>k_is)
  (case a32=>k_is);(case l32=>k_is);(case c32=>k_is);(case k32=>k_is)
  (case a33=>k_is);(case l33=>k_is);(case c33=>k_is);(case k33=>k_is)
  (case a34=>k_is);(case l34=>k_is);(case c34=>k_is);(case k34=>k_is)
  (case a35=>k_is);(case l35=>k_is);(case c35=>k_is);(case k35=>k_is)
  (case g18=>decide)
  (case g19=>decide)
  (case g25=>decide)
  (case nd=>decide)
  (case n18=>kernel_rfl);(case r18=>rfl)
  (case n19=>kernel_rfl);(case r19=>rfl)
  (case n25=>kernel_rfl);(case r25=>rfl)
