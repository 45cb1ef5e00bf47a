import PyProof.Rows.All
import Wide.All
import OpenK.AllK
import Wide.FinOn
import Lean
import PyProof.EqAt
import PyProof.EqKinds
import PyProof.TupleCall
import PyProof.EnumStmt
import PyProof.EnumMake
import PyProof.EnumFor
import PyProof.ZipIter
import PyProof.CompFree
import PyProof.CompMap
import PyProof.Cells
import PyProof.ListMulRoad
import PyProof.ConsumeWalk
import PyProof.TupleOfGen
import PyProof.ListRange
import PySem.Challenge.RW_groupwalks_k73_groups_that_are_not_plain
set_option Elab.async false
set_option linter.all false
set_option maxRecDepth 100000
set_option maxHeartbeats 0
set_option compiler.postponeCompile true
set_option bootstrap.genMatcherCode false
set_option genSizeOfSpec false
set_option relaxedAutoImplicit false
set_option compiler.extract_closed false
noncomputable section
open Array renaming length_toList→fG,toList_append→Be
open Bool renaming and_eq_true→ax,false_ne_true→bG,false_eq_true→dj,and_true→iw,not_eq_true'→jH,or_eq_true→lR
open Classical renaming propDecidable→bR,byContradiction→iX,not_not→y6
open False renaming elim→bM
open ForInStep renaming yield→cY
open Int renaming ofNat_lt→fL,toNat_natCast→jI,natCast_emod→kX,emod_lt_of_pos→pH,natCast_nonneg→pI,natCast_ediv→sM,toNat→sN,emod_nonneg→uY,natCast_add→uZ,eq_ofNat_of_zero_le→y3
open List renaming getElem?_eq_some_iff→af,getElem?_append_right→aq,mem_cons_of_mem→av,replicate→ay,range→aA,getElem?_set_ne→aB,size_toArray→aG,length_map→aI,lookup_cons→aL,mem_cons_self→aM,getElem?_set_self→aN,mem_range→aP,getElem?_append_left→aQ,mem_cons→aR,mem_append_right→aT,length_append→be,append_assoc→bf,all_eq_true→bA,range'→bD,map_congr_left→bE,map_append→bF,all_cons→bK,getElem?_eq_getElem→bO,map_cons→bT,length_range→bU,mem_map→bX,mem_of_getElem?→cj,map_map→cK,mem_append_left→cP,getElem?_map→da,replicate_succ→de,append_nil→dg,find?_cons→dh,range_succ→dr,filterMap_cons→dw,mem_singleton→dG,nodup_iff_pairwise_ne→dH,findIdx?_eq_some_iff_getElem→dM,nil_append→dQ,length_cons→ed,mem_reverse→eg,eq_nil_of_length_eq_zero→eu,length_set→eN,flatten_cons→eY,any_cons→fQ,nodup_cons→fR,lookup_append→fT,getElem?_replicate→fY,mem_flatMap→hG,mem_append→iK,of_mem_zip→iL,forIn_cons→iM,all_nil→iZ,getD_eq_getElem?_getD→jf,idxOf_lt_length_iff→jM,range'_succ→kN,drop_length→kO,mem_filter→lM,length_nil→lQ,length_replicate→lU,set_append_right→lV,lookup→mR,range_eq_range'→mS,length_reverse→nE,flatMap_append→nG,length_range'→oq,reverse_cons→pK,nodup_append→pL,pairwise_map→pM,mem_range'_1→pN,getElem_mem→qZ,not_mem_nil→q9,take_append_of_le_length→sP,getElem?_eq_none_iff→wj,getElem?_cons_succ→yT,getElem?_cons_zero→yU,map_nil→yY,range_succ_eq_map→y0,take_of_length_le→y4,dropLast_eq_take→A4,length→A8,getElem_toArray→Bb,getElem?_mapIdx→Bc
open List.Pairwise renaming nil→fH,imp_of_mem→iE
open List.Perm renaming trans→Bf
open Nat renaming lt_of_lt_of_le→ah,le_refl→ak,lt_of_le_of_lt→aH,le_trans→aK,le_of_lt→aW,add_pos_left→aX,ne_of_lt→bg,mod_eq_of_lt→bo,lt_irrefl→bB,ne_of_gt→bY,le_succ→ck,zero_add→cu,lt_trans→cM,lt_succ_self→cR,le_of_not_lt→dn,add_assoc→dZ,zero_le→eA,mul_comm→eM,lt_succ_of_lt→eZ,le_succ_of_le→fb,mul_le_mul_right→fD,div_eq_of_lt→fK,lt_of_le_of_ne→fZ,sub_le→f9,le_of_lt_succ→gR,le_add_right→iu,div_lt_of_lt_mul→iD,min_le_left→iW,add_sub_cancel'→i4,mul_le_mul_left→i5,add_zero→jc,mod_lt→jx,add_mod_right→jK,sub_sub_right→jL,sub_add_comm→kW,add_comm→lN,mod_self→lT,mod_add_mod→lW,div_le_self→lX,lt_of_lt_of_eq→pG,succ_mul→qr,le_of_eq→qw,lt_succ_of_le→qx
open Ne renaming symm→df
open Option renaming bind_some→ao,map_some→bx,isSome_iff_exists→cb,filter_eq_some_iff→je,isSome_map→om,map_eq_some_iff→xK,isSome_some→Ba
open Option.some renaming inj→bu,injEq→ei
open PUnit renaming unit→nS
open PyProof.Rows renaming callWith_type1→bZ,recsOf→kQ,boot_list→q0
open PyProof.Rows.IsTup renaming new→xI
open PySem renaming wpAny_bind→aj,wpAny→aJ,wpAny_pure→bc,mem_of_lookup→bI,wpAny_mono→bJ,wpAny_field→cZ,wpAny_loadPart'→dk,wpAny_callSpecial?_slot→dA,wpAny_call_entry→dJ,wpAny_Call_Name_kw→dP,wpAny_newObj_type→d8,wpAny_passesOwn→fo,wpAny_truthy_bool→fF,wpAny_execs_nil→gI,wpAny_setField_rec→gQ,wpAny_of_eq→gX,wpAny_loadPart_at→ix,codeAny_mono→jF,wpAny_setField→kq,wpAny_attempt→lP,codeAny→nr,wpAny_holding→qY,wpAny_pyIter_tuple→sv,wpAny_assign_Name→uV,wpAny_execs_cons→wd,wpAny_isInstance→we,wpAny_specialOf→yP,codeAny_builtin→yQ,PyData→yV
open PySem.Around renaming frames_deeper→yX,under_plainId→yZ
open PySem.AutoSeq1 renaming idx_int→oo
open PySem.Builtin.Range renaming rangeSize→pJ
open PySem.Builtin.SmallTypes renaming nextOf→eh,ownedTupleHandOut→jd,ownedTupleIsFree→jv,newClass→lO
open PySem.Builtin.Tuple renaming tupleTooMany→nR
open PySem.Calls renaming spliced_cons→ek,spliced_nil→gH,evalArgs_plain→mP,Constant_str→nQ,Name_function_global→uU,callWith_builtin→yO
open PySem.Data renaming fields→A6
open PySem.F renaming slot_tuple_iterator_next→fJ,slot_enumerate_next→iy,typeOf_object_class→iC,args_tuple_add_2→ju,entry_tuple_add→jG,slot_tuple_add→ko,args_tuple_mul_2→qu,entry_tuple_mul→sD,excBase_ValueError→sH,slot_tuple_mul→uW,slot_tuple_index→uX,plainAttrs_list→va,args_tuple_iterator_next_1→wg,entry_tuple_iterator_next→xJ,args_enumerate_next_1→A9
open PySem.Heap renaming get?_push_of_some→ar,lt_size→aD,get?_push_size→aF,size_push→bw,SameBut→dz,get?_update_other→eB,get?_update_self→eQ,FlyingW→lu,ExtBut→sy
open PySem.Heap.SameBut renaming update→eR
open PySem.IsL renaming update→A3
open PySem.NameKind renaming free→aO,cell→b0
open PySem.Obj renaming mapSeq→eJ,data_mapFields→eK,isFreed_of_fields→mQ
open PySem.Paired renaming length→u0
open PySem.PassesOwn renaming never→jJ
open PySem.PyData renaming eqv→dN,int→eO,eqvAll→eS,canLay0→gm,depthAll→iz,depth→iN,eqv→iY,canLayAll0→jw
open PySem.SeqAt.EqAt renaming int_str→xG,str_int→xH
open PySem.Str renaming ofString→fI,empty→sx
open PySem.Value renaming ref→bj,none→fk,builtin→nF,type→uT,int→xD,str→xF
open PySem.W renaming Frag→ai,nsIn→bp,hideAll→bL,keepIn→bN,kitOne→cg,mg_of→cz,fnOf→cH,hideAll_get→dU,excIn→eC,hideAll_none→eW,codeIn→eX,cellsFrom_some→fX,of_hideAll→iU,findIn→iV,OpenLaw→kP,methodObj→nO,exmOne→sJ,hideAll_size→yN,kla_callFunE→yR,kla_codeExpr→yS,callWith_K0→yW,callWith_K→A2,mg_none_of→A5,specialIn→A7
open PySem.W.Looks renaming ld→wk
open Sum renaming inl→qp,inr→qq
open True renaming intro→u9
section
namespace L2
open PySem PySem.Spec PyProof.Rows
abbrev Key:=Sum Int Str
noncomputable def qR:Key->Value->Bool
 | .inl k,v=>Value.isInt k v
 | .inr x,v=>Value.isStrOf x v
noncomputable def JY (w:World):Key->Int
 | .inl k=>hashInt k
 | .inr x=>hashStr w x
theorem dF : ∀ {k:Key}{v:Value},qR k v=true->(∃ i t,k=qp i/\v=xD i t)\/(∃ x t,k=qq x/\v=xF x t)
 | .inl i,v,h=>by
   obtain⟨t,e⟩:=Value.isInt_shape (k:=i) (v:=v) h
   exact .inl ⟨i,t,rfl,e⟩
 | .inr x,v,h=>by
   obtain⟨t,e⟩:=Value.isStrOf_shape (x:=x) (v:=v) h
   exact .inr ⟨x,t,rfl,e⟩
theorem xW (i:Int) (t:Tok):qR (.inl i) (.int i t)=true:=by simp [qR,Value.isInt]
theorem yH (x:Str) (t:Tok):qR (.inr x) (.str x t)=true:=by simp [qR,Value.isStrOf]
theorem Fv (a b:Int):decide ((qp a:Key)=qp b)=(a == b):=by
 by_cases e:a=b
 ·subst e;simp
 ·have h : ¬ (qp a:Key)=qp b:=fun q=>e (Sum.inl.inj q)
  rw [decide_eq_false h]
  exact (beq_eq_false_iff_ne.mpr e).symm
theorem Ed (a b:Str):decide ((qq a:Key)=qq b)=decide (a=b):=by
 by_cases e:a=b
 ·subst e;simp
 ·have h : ¬ (qq a:Key)=qq b:=fun q=>e (Sum.inr.inj q)
  rw [decide_eq_false h,decide_eq_false e]
theorem EY (a:Int) (b:Str):decide ((qp a:Key)=qq b)=false:=decide_eq_false (fun q=>nomatch q)
theorem E3 (a:Str) (b:Int):decide ((qq a:Key)=qp b)=false:=decide_eq_false (fun q=>nomatch q)
noncomputable def eP (prog:Program) (w:World):PySem.KeyKind prog w Key where
 is:=qR
 hash:=JY w
 inj:=fun v a b ha hb=>by
  rcases dF ha with⟨i,t,rfl,rfl⟩ | ⟨x,t,rfl,rfl⟩
  ·rcases dF hb with⟨j,u,rfl,e⟩ | ⟨y,u,rfl,e⟩
   ·injection e with e1 _;rw [e1]
   ·exact nomatch e
  ·rcases dF hb with⟨j,u,rfl,e⟩ | ⟨y,u,rfl,e⟩
   ·exact nomatch e
   ·injection e with e1 _;rw [e1]
 byValue:=fun k v h=>by
  rcases dF h with⟨i,t,rfl,rfl⟩ | ⟨x,t,rfl,rfl⟩ <;> rfl
 pyHash:=fun hv h=>by
  rcases dF hv with⟨i,t,rfl,rfl⟩ | ⟨x,t,rfl,rfl⟩
  ·exact wpAny_pyHash_int h
  ·exact wpAny_pyHash_str h
 eqBool:=fun hu hv h=>by
  rcases dF hu with⟨i,t,rfl,rfl⟩ | ⟨x,t,rfl,rfl⟩
  ·rcases dF hv with⟨j,u,rfl,rfl⟩ | ⟨y,u,rfl,rfl⟩
   ·rw [Fv] at h;exact wpAny_eqBool_int h
   ·rw [EY] at h;exact xG i t y u _ _ _ _ h
  ·rcases dF hv with⟨j,u,rfl,rfl⟩ | ⟨y,u,rfl,rfl⟩
   ·rw [E3] at h;exact xH x t j u _ _ _ _ h
   ·rw [Ed] at h;exact wpAny_eqBool_str h
 «strs»:=fun k x t v h=>by
  rcases dF h with⟨i,u,rfl,e⟩ | ⟨y,u,rfl,e⟩
  ·exact nomatch e
  ·injection e with e1 _
   subst e1
   cases v <;> rfl
theorem t8 (prog:Program) (w:World) (i:Int) (t:Tok):(eP prog w).is (.inl i) (.int i t)=true:=xW i t
theorem uy (prog:Program) (w:World) (x:Str) (t:Tok):(eP prog w).is (.inr x) (.str x t)=true:=yH x t
end L2
namespace L2
open PySem PySem.Spec PyProof.Rows
inductive V where
 | non | bl (b:Bool) | int (i:Int) | str (x:Str) | byt (b:Array UInt8) | flt (b:UInt64) | ref (a:Addr) | ty (n:String)
 deriving DecidableEq
noncomputable def RelV:V->Value->Prop
 | .non,u=>u=fk
 | .bl b,u=>u=Value.bool b
 | .int i,u => ∃ t,u=xD i t
 | .str x,u => ∃ t,u=xF x t
 | .byt b,u => ∃ t,u=Value.bytes b t
 | .flt b,u => ∃ t,u=Value.float b t
 | .ref a,u=>u=bj a
 | .ty n,u=>u=uT n
abbrev bW:List V->List Value->Prop:=Paired RelV
theorem bW.length {xs:List V}{us:List Value} (r:bW xs us):xs.length=us.length:=u0 r
theorem bW.get : ∀ {xs:List V}{us:List Value}{i:Nat}{x:V},bW xs us->xs[i]? = some x -> ∃ u,us[i]? = some u/\RelV x u
 | _,_,_,_,.nil,e=>by simp at e
 | _,_,0,_,.cons r _,e=>by simp at e;subst e;exact⟨_,rfl,r⟩
 | _,_,i+1,x,.cons _ t,e=>by
   obtain⟨u,h1,h2⟩:=bW.get (i:=i) (x:=x) t (by simpa using e)
   exact⟨u,by simpa using h1,h2⟩
theorem bW.set {x:V}{u:Value} (r:RelV x u) : ∀ {xs:List V}{us:List Value} (i:Nat),bW xs us->bW (xs.set i x) (us.set i u)
 | _,_,_,.nil => .nil
 | _,_,0,.cons _ t => .cons r t
 | _,_,i+1,.cons q t => .cons q (bW.set r i t)
theorem bW.append : ∀ {xs ys:List V}{us ws:List Value},bW xs us->bW ys ws->bW (xs++ys) (us++ws)
 | _,_,_,_,.nil,s=>s
 | _,_,_,_,.cons r t,s => .cons r (bW.append t s)
noncomputable def pW:Option V->Option Value->Prop
 | some v,some u=>RelV v u
 | none,none=>True
 | _,_=>False
noncomputable def KV {κ:Type}:List (κ×V)->List (κ×Value)->Prop:=Paired fun (p:κ×V) (q:κ×Value)=>p.1=q.1/\RelV p.2 q.2
noncomputable def kV:Key->V
 | .inl i => .int i
 | .inr x => .str x
inductive HO where
 | lst (xs:List V)
 | tup (xs:List V)
 | dK (kvs:List (Key×V)) | dT (kvs:List (List Key×V))
 | set (S:Int->Bool) (n:Nat)
 | ins (C dx:Addr) (fs:List (Str×V))
 | own (x:Addr)
 | xd (fs:List (Str×V))
 | met (f x:Addr)
 | rng (lo hi:Int)
 | frz (o:Obj) (u:HO)
 | tbl (ps:Array Value)
 | ext (φ:Heap->Prop)
abbrev Hp:=Addr->Option HO
noncomputable def upd (H:Hp) (a:Addr) (o:HO):Hp:=fun b=>if b=a then some o else H b
theorem cq {H:Hp}{a:Addr}{o:HO}:upd H a o a=some o:=by unfold upd;rw [if_pos rfl]
theorem aV {H:Hp}{a b:Addr}{o:HO} (h:b≠a):upd H a o b=H b:=by unfold upd;rw [if_neg h]
theorem oy {H:Hp}{a b:Addr}{o u:HO} (h:H a=some o) (h':H b=some u) (d:o≠u):a≠b:=by
 intro e;subst e;rw [h] at h';exact d (bu h')
theorem aS {H:Hp}{a b:Addr}{o:HO} (h:H a=some o) (h':H b=none):a≠b:=by
 intro e;subst e;rw [h] at h';cases h'
section
variable (P:Program) (w:World)
noncomputable def d4 (H:Hp) (h:Heap) (a:Addr):HO->Prop
 | .lst xs=>xs.length<=sizeLine /\ ∃ (its:List Value) (n:Nat),bW xs its/\h.get? a=some { cls := .type "list",data := .seq its.toArray n }
 | .tup xs=>xs.length<=sizeLine /\ ∃ its:List Value,bW xs its/\IsTup h a its.toArray /\ ∃ o,h.get? a=some o/\o.dict=none
 | .dK kvs=>kvs.length<=sizeLine/\(a == sysModules)=false /\ ∃ vs,KV kvs vs/\h.DictOf (eP P w) a vs
 | .dT kvs=>kvs.length<=sizeLine/\(a == sysModules)=false /\ ∃ xs:List (List Key×Addr×Value),
   Paired (fun (p:List Key×V) (q:List Key×Addr×Value)=>p.1=q.1/\H q.2.1=some (.tup (p.1.map kV))/\RelV p.2 q.2.2) kvs xs /\
   ∃ o es ep,h.get? a=some o/\o.ExactDict/\o.data = .dict es ep/\es.toList=xs.map (entryOfKey (tupleKind (eP P w)))/\(xs.map (·.1)).Nodup
 | .set S n=>h.SetOf (intKind P w) a S n
 | .ins C dx fs=>H dx=some (.own a)/\fs.length<=1000/\dx≠a/\h.get? a=some (PySem.W.instObj C dx) /\
   ∃ mA,h.Ns1 dx mA/\(∀ f,pW (fs.lookup f) (mA f))/\PySem.Within mA (fs.map (·.1))
 | .own _ => ∃ o,h.get? a=some o
 | .xd fs => ∃ mA,h.Ns1 a mA /\ ∀ f,pW (fs.lookup f) (mA f)
 | .rng lo hi => ∃ t u v,h.get? a=some { cls := .type "range",data := .fields #[.int lo t,.int hi u,.int 1 v] }
 | .frz o u=>h.get? a=some o/\d4 H h a u
 | .tbl ps=>h.get? a=some { cls := .none,data := .fields ps }
 | .met f x=>h.get? a=some (nO (.ref f) (.ref x))
 | .ext φ=>φ h/\(∃ o,h.get? a=some o) /\ ∀ h1 h2:Heap,φ h1->(∀ o,h1.get? a=some o->h2.get? a=some o)->φ h2
noncomputable def HOk (H:Hp) (h:Heap):Prop := ∀ a o,H a=some o->d4 P w H h a o
end
section
variable {P:Program}{w:World}{H H':Hp}{h h':Heap}{a:Addr}{o:HO}
theorem d4.lt (x:d4 P w H h a o):a < h.objs.size:=by
 cases o with
 | lst xs=>obtain⟨_,_,_,_,e⟩:=x;exact aD e
 | tup xs=>obtain⟨_,_,_,p⟩:=x;exact p.1.lt
 | dK kvs=>obtain⟨_,_,_,_,o,_,_,e,_⟩:=x;exact aD e
 | dT kvs=>obtain⟨_,_,_,_,o,_,_,e,_⟩:=x;exact aD e
 | set S n=>obtain⟨o,_,_,_,e,_⟩:=x;exact aD e
 | ins C dx fs=>obtain⟨_,_,_,e,_⟩:=x;exact aD e
 | own y=>obtain⟨_,e⟩:=x;exact aD e
 | xd fs=>obtain⟨_,⟨_,_,_,e,_⟩,_⟩:=x;exact aD e
 | rng lo hi=>obtain⟨_,_,_,e⟩:=x;exact aD e
 | frz ob u=>obtain⟨e,_⟩:=x;exact aD e
 | tbl ps=>exact aD (show h.get? a=some _ from x)
 | met f y=>exact aD (show h.get? a=some _ from x)
 | ext φ=>obtain⟨_,⟨_,e⟩,_⟩:=x;exact aD e
theorem Paired.mapP {α β:Type}{F G:α->β->Prop} : ∀ {l₁:List α}{l₂:List β},Paired F l₁ l₂->(∀ a b,F a b->G a b)->Paired G l₁ l₂
 | _,_,.nil,_ => .nil
 | _,_,.cons r t,f => .cons (f _ _ r) (Paired.mapP t f)
theorem d4.stay (x:d4 P w H h a o) (k : ∀ b u,(b=a\/H b=some (.own a))->h.get? b=some u->h'.get? b=some u)
  (ho : ∀ b,H b=some (.own a)->H' b=some (.own a)) (ht : ∀ b xs,H b=some (.tup xs)->H' b=some (.tup xs)):d4 P w H' h' a o:=by
 induction o with
 | lst xs=>obtain⟨z,its,n,r,e⟩:=x;exact⟨z,its,n,r,k _ _ (.inl rfl) e⟩
 | tup xs=>obtain⟨z,its,r,⟨ob,e,c⟩,o2,e2,c2⟩:=x;exact⟨z,its,r,⟨ob,k _ _ (.inl rfl) e,c⟩,o2,k _ _ (.inl rfl) e2,c2⟩
 | dK kvs=>obtain⟨z,y,vs,r,ob,es,ep,e,c⟩:=x;exact⟨z,y,vs,r,ob,es,ep,k _ _ (.inl rfl) e,c⟩
 | dT kvs=>
   obtain⟨z,y,xs,r,ob,es,ep,e,c⟩:=x
   exact⟨z,y,xs,Paired.mapP r fun p q z=>⟨z.1,ht _ _ z.2.1,z.2.2⟩,ob,es,ep,k _ _ (.inl rfl) e,c⟩
 | set S n=>obtain⟨ob,es,ep,t,e,c⟩:=x;exact⟨ob,es,ep,t,k _ _ (.inl rfl) e,c⟩
 | ins C dx fs=>
   obtain⟨d,z,ne,e,mA,⟨od,es,ep,e2,c⟩,r⟩:=x
   exact⟨ho _ d,z,ne,k _ _ (.inl rfl) e,mA,⟨od,es,ep,k _ _ (.inr d) e2,c⟩,r⟩
 | own y=>obtain⟨ob,e⟩:=x;exact⟨ob,k _ _ (.inl rfl) e⟩
 | xd fs=>obtain⟨mA,⟨od,es,ep,e,c⟩,r⟩:=x;exact⟨mA,⟨od,es,ep,k _ _ (.inl rfl) e,c⟩,r⟩
 | rng lo hi=>obtain⟨t,u,v,e⟩:=x;exact⟨t,u,v,k _ _ (.inl rfl) e⟩
 | frz ob u ih=>obtain⟨e,q⟩:=x;exact⟨k _ _ (.inl rfl) e,ih q⟩
 | tbl ps=>
   have e:h.get? a=some { cls := .none,data := .fields ps }:=x
   show h'.get? a=some { cls := .none,data := .fields ps }
   exact k a _ (.inl rfl) e
 | met f y=>
   have e:h.get? a=some (nO (.ref f) (.ref y)):=x
   show h'.get? a=some (nO (.ref f) (.ref y))
   exact k a _ (.inl rfl) e
 | ext φ=>obtain⟨p,⟨o,e⟩,st⟩:=x;exact⟨st _ _ p fun o q=>k _ _ (.inl rfl) q,⟨o,k _ _ (.inl rfl) e⟩,st⟩
theorem HOk.lt (x:HOk P w H h) (e:H a=some o):a < h.objs.size:=(x a o e).lt
theorem HOk.fresh (x:HOk P w H h) (e:h.objs.size<=a):H a=none:=by
 cases q:H a with
 | none=>rfl
 | some u=>exact absurd (ah (x.lt q) e) (bB _)
theorem HOk.kept (x:HOk P w H h) (k : ∀ b u,h.get? b=some u->h'.get? b=some u):HOk P w H h':=fun a o e=>
 (x a o e).stay (fun b u _ q=>k b u q) (fun _ q=>q) fun _ _ q=>q
theorem HOk.laid (x:HOk P w H h) (k : ∀ b u,h.get? b=some u->h'.get? b=some u) (hp:h.objs.size<=a) (new:d4 P w (upd H a o) h' a o):HOk P w (upd H a o) h':=fun b u e=>by
 have hn:=x.fresh hp
 by_cases hb:b=a
 ·subst hb;rw [cq] at e;cases e;exact new
 ·rw [aV hb] at e
  exact (x b u e).stay (fun c v _ q=>k c v q) (fun c q=>by rw [aV (aS q hn)];exact q) fun c xs q=>by rw [aV (aS q hn)];exact q
end
noncomputable def Rd (H:Hp) (a:Addr) (u:HO):Prop:=H a=some u \/ ∃ o,H a=some (.frz o u)
theorem Rd.ok {P:Program}{w:World}{H:Hp}{h:Heap}{a:Addr}{u:HO} (r:Rd H a u) (x:HOk P w H h):d4 P w H h a u:=by
 rcases r with r | ⟨o,r⟩
 ·exact x a u r
 ·obtain⟨_,q⟩:=x a _ r
  exact q
noncomputable def Mut:Option HO->Prop
 | some (.lst _)=>True
 | some (.dK _)=>True
 | some (.dT _)=>True
 | some (.set _ _)=>True
 | some (.ins _ _ _)=>True
 | some (.ext _)=>True
 | _=>False
section
variable {P:Program}{w:World}{H:Hp}{h h':Heap}{x e:Addr}{o':HO}
theorem HOk.write (ok:HOk P w H h) (mu:Mut (H x)) (he:e=x\/H e=some (.own x)) (k : ∀ b u,b≠e->h.get? b=some u->h'.get? b=some u) (heo : ∃ u,h'.get? e=some u)
  (new:d4 P w (upd H x o') h' x o'):HOk P w (upd H x o') h':=fun b u q=>by
 have nown : ∀ c y,H c=some (.own y)->c≠x:=fun c y r z=>by subst z;rw [r] at mu;exact mu
 have ntup : ∀ c xs,H c=some (.tup xs)->c≠x:=fun c xs r z=>by subst z;rw [r] at mu;exact mu
 by_cases hb:b=x
 ·subst hb;rw [cq] at q;cases q;exact new
 ·rw [aV hb] at q
  by_cases hbe:b=e
  ·have q':H b=some (.own x):=by
    rcases he with z | z
    ·exact absurd (hbe.trans z) hb
    ·rw [hbe];exact z
   rw [q] at q';cases q'
   obtain⟨v,hv⟩:=heo
   exact⟨v,by rw [hbe];exact hv⟩
  ·refine (ok b u q).stay (fun c v hc r=>k c v ?_ r) (fun c r=>by rw [aV (nown c b r)];exact r) fun c xs r=>by rw [aV (ntup c xs r)];exact r
   rcases hc with rfl | hc
   ·exact hbe
   ·rintro rfl
    rcases he with z | z
    ·exact nown c b hc z
    ·rw [hc] at z;cases z;exact hb rfl
end
structure Un (fs ex:List Addr) (H H':Hp) (h h':Heap):Prop where
 keep : ∀ b o,h.get? b=some o->H b=none->b∉fs->b∉ex->h'.get? b=some o
 slot : ∀ b o,h.get? b=some o->H b=none->b∈fs->b∉ex -> ∃ sl,h'.get? b=some { o with slots:=sl }
 free : ∀ b o,h.get? b=some o->H b=none->b∉ex->H' b=none
 there : ∀ b o,h.get? b=some o->b∉ex -> ∃ o',h'.get? b=some o'
 tups : ∀ b xs,H b=some (.tup xs)->H' b=some (.tup xs)
 frzs : ∀ b o u,H b=some (.frz o u)->H' b=some (.frz o u)
 tbls : ∀ b ps,H b=some (.tbl ps) -> ∃ more,H' b=some (.tbl (ps++more))
section
variable {fs fs' ex ex':List Addr}{H H1 H2:Hp}{h h1 h2 h':Heap}{a x e:Addr}{o:HO}
theorem Un.any (u:Un fs ex H H1 h h1) {b:Addr}{ob:Obj} (q:h.get? b=some ob) (n:H b=none) (hx:b∉ex) : ∃ sl,h1.get? b=some { ob with slots:=sl }:=by
 by_cases hb:b∈fs
 ·exact u.slot b ob q n hb hx
 ·exact⟨ob.slots,u.keep b ob q n hb hx⟩
theorem Un.kept (k : ∀ b u,h.get? b=some u->h'.get? b=some u):Un fs ex H H h h':=
 ⟨fun b ob q _ _ _=>k b ob q,fun b ob q _ _ _=>⟨ob.slots,k b ob q⟩,fun _ _ _ n _=>n,fun b ob q _=>⟨ob,k b ob q⟩,fun _ _ q=>q,fun _ _ _ q=>q,fun _ ps q=>⟨#[],by rw [q];simp⟩⟩
theorem Un.refl:Un fs ex H H h h:=Un.kept fun _ _ q=>q
theorem Un.laid (k : ∀ b u,h.get? b=some u->h'.get? b=some u) (hp:h.objs.size<=a) (hn:H a=none):Un fs ex H (upd H a o) h h' where
 keep:=fun b u q _ _ _=>k b u q
 slot:=fun b u q _ _ _=>⟨u.slots,k b u q⟩
 free:=fun b u q n _=>by rw [aV (bg (ah (aD q) hp))];exact n
 there:=fun b u q _=>⟨u,k b u q⟩
 tups:=fun b xs q=>by rw [aV (aS q hn)];exact q
 frzs:=fun b u xs q=>by rw [aV (aS q hn)];exact q
 tbls:=fun b ps q=>⟨#[],by rw [aV (aS q hn),q];simp⟩
theorem Un.write (mu:Mut (H x)) (he:e=x\/H e=some (.own x)) (k : ∀ b u,b≠e->h.get? b=some u->h'.get? b=some u) (heo : ∃ u,h'.get? e=some u):Un fs ex H (upd H x o) h h':=by
 have hx : ∀ b,H b=none->b≠x:=fun b n z=>by subst z;rw [n] at mu;exact mu
 have hb : ∀ b,H b=none->b≠e:=fun b n z=>by
  subst z
  rcases he with r | r
  ·exact hx b n r
  ·rw [n] at r;cases r
 have hm : ∀ b u,H b=some u -> ¬ Mut (some u)->b≠x:=fun b u q nm z=>by subst z;rw [q] at mu;exact nm mu
 refine⟨fun b u q n _ _=>k b u (hb b n) q,fun b u q n _ _=>⟨u.slots,k b u (hb b n) q⟩,fun b u q n _=>by rw [aV (hx b n)];exact n,fun b u q _ => ?_,
  fun b xs q=>by rw [aV (hm b _ q fun z=>z)];exact q,fun b u xs q=>by rw [aV (hm b _ q fun z=>z)];exact q,fun b ps q=>⟨#[],by rw [aV (hm b _ q fun z=>z),q];simp⟩⟩
 by_cases hbe:b=e
 ·subst hbe;exact heo
 ·exact⟨u,k b u hbe q⟩
end
noncomputable def trk (h:Heap) (H:Hp):List Addr:=(aA h.objs.size).filter fun a=>(H a).isSome
noncomputable def pV (h:Heap) (H:Hp):Heap:=bL h (trk h H)
theorem qU (h:Heap) (H:Hp):(pV h H).objs.size=h.objs.size:=yN _ _
theorem md {h:Heap}{H:Hp}{b:Addr}{o:Obj} (e:h.get? b=some o) (n:H b=none):(pV h H).get? b=some o:=
 dU _ e fun hm=>by
  have q:(H b).isSome=true:=(lM.mp hm).2
  rw [n] at q;simp at q
theorem wK {h:Heap}{H:Hp}{b:Addr}{o:Obj} (e:(pV h H).get? b=some o):h.get? b=some o/\H b=none:=by
 have e':h.get? b=some o:=iU (trk h H) e
 refine⟨e',?_⟩
 cases q:H b with
 | none=>rfl
 | some x=>
   have hm:b∈trk h H:=lM.mpr ⟨aP.mpr (aD e'),by simp [q]⟩
   have z:(pV h H).get? b=none:=eW (trk h H) hm
   rw [z] at e;cases e
noncomputable def Bi (g h:Heap) (L:Addr):List (Addr×Obj):=(aA h.objs.size).filterMap fun a=>if a=L\/(g.get? a).isSome=true then none else (h.get? a).map fun o=>(a,o)
noncomputable def rest (g h:Heap) (L d:Addr):List (Addr×Obj):=(Bi g h L).filter fun p=>decide (p.1≠d)
end L2
namespace L2
open PySem PySem.Spec PyProof.Rows
structure Mod (K:ai) (mg:Str->Option Value) (base:Heap):Prop where
 kin:K.In base
 glob:base.Ns mainGlobals mg
 blt : ∃ mb,base.Ns builtinsNs mb /\ ∀ x:Str,x≠"__name__"->mb x=bootBuiltins x
 nolimit:base.NoLimit
set_option genInjectivity false in
structure Cx where
 prog:Program
 w:World
 K:ai
 mg:Str->Option Value
 base:Heap
 A:Around
 N:List Str
 s₀:Shared
 H₀:Hp
 env:Env
 outer:List Env
 stack:List Env
 ex:List Addr
 fn:Str->Bool
 calm:Bool
 pn:List (Addr×Obj)
 xe:Value->Shared->Prop
noncomputable def frs (l:List Env):List Addr:=l.filterMap (·.frame)
abbrev Cx.fs (X:Cx):List Addr:=frs X.outer
noncomputable def Vis (sc:Scope) (x:Str):Prop:=sc.names.lookup x=some .local\/sc.names.lookup x=some .cell\/sc.names.lookup x=some .free
noncomputable def Loc (sc:Scope) (x:Str):Prop:=sc.names.lookup x=some .local\/sc.names.lookup x=some .cell
noncomputable def Look (env:Env) (h:Heap) (m:Str->Option Value) (x:Str) (u:Value):Prop:=
 (env.kindOf x=some .local/\m x=some u)\/((env.kindOf x=some .cell\/env.kindOf x=some .free) /\ ∃ c,env.cells.lookup x=some c/\h.IsCell c (some u))
structure Cx.Ok (X:Cx):Prop where
 mod:Mod X.K X.mg X.base
 kind:X.env.scope.kind = .function
 glob:X.env.globals=mainGlobals
 blt:X.env.builtins=builtinsNs
 above:X.s₀.heap.objs.size<=X.env.locals
 inj : ∀ x y c,X.env.cells.lookup x=some c->X.env.cells.lookup y=some c->x=y
 has : ∀ x,(X.env.kindOf x=some .cell\/X.env.kindOf x=some .free) -> ∃ c,X.env.cells.lookup x=some c
 cab : ∀ x c,X.fn x=true->X.env.cells.lookup x=some c->X.s₀.heap.objs.size<=c
 hd:X.calm=true->X.A.handled=none
 frames:X.A.frames=some X.stack
 stk:X.stack=X.outer\/(X.stack=X.env::X.outer/\X.env.frame=some X.env.locals)
 exf : ∀ b∈X.ex,b≠X.env.locals /\ ∀ x c,X.env.cells.lookup x=some c->c≠b
 bs : ∀ b o,X.base.get? b=some o->X.s₀.heap.get? b=some o/\X.H₀ b=none
 bsz:X.base.objs.size<=X.s₀.heap.objs.size
 noex : ∀ b o,X.base.get? b=some o->b∉X.ex
 exfs : ∀ b∈X.ex,b∉X.fs
 funs:X.s₀.heap.FunFrames X.base X.outer
 frf : ∀ b∈X.fs,X.H₀ b=none
structure Inv (X:Cx) (pins:List (Addr×Obj)) (σ:List (Option V)) (H:Hp) (s:Shared):Prop where
 ok:X.Ok
 os:s.os=X.s₀.os
 bare:AllBare s.gens
 base:Un X.fs X.ex X.H₀ H X.s₀.heap s.heap
 loc : ∃ m,s.heap.Ns X.env.locals m /\ ∀ (i:Nat) (x:Str) (v:V),X.N[i]? = some x->σ[i]? = some (some v)->Vis X.env.scope x -> ∃ u,RelV v u/\Look X.env s.heap m x u
 cell : ∀ x c,X.env.cells.lookup x=some c -> ∃ v,s.heap.IsCell c v
 free:H X.env.locals=none
 freeC : ∀ x c,X.env.cells.lookup x=some c->H c=none
 pin : ∀ p∈X.pn++pins,s.heap.get? p.1=some p.2/\H p.1=none/\p.1≠X.env.locals/\p.1∉X.fs /\ ∀ v,p.2.data ≠ .cell v
 hok:HOk X.prog X.w H s.heap
 len:σ.length=X.N.length
section
variable {X:Cx}{pins:List (Addr×Obj)}{σ:List (Option V)}{H H':Hp}{s:Shared}{h':Heap}
theorem Cx.Ok.nofr (ok:X.Ok) {b:Addr}{o:Obj} (e:X.base.get? b=some o):b∉X.fs:=fun hb=>by
 have:=(ok.funs.mem hb).1
 rw [e] at this;cases this
theorem Inv.bs (I:Inv X pins σ H s) : ∀ b o,X.base.get? b=some o->s.heap.get? b=some o/\H b=none:=fun b o e=>
 ⟨I.base.keep b o (I.ok.bs b o e).1 (I.ok.bs b o e).2 (I.ok.nofr e) (I.ok.noex b o e),I.base.free b o (I.ok.bs b o e).1 (I.ok.bs b o e).2 (I.ok.noex b o e)⟩
theorem Inv.bk (I:Inv X pins σ H s) : ∀ b o,X.base.get? b=some o->s.heap.get? b=some o:=fun b o e=>(I.bs b o e).1
theorem Inv.mod (I:Inv X pins σ H s):Mod X.K X.mg X.base:=I.ok.mod
theorem Inv.kIn (I:Inv X pins σ H s):X.K.In s.heap:=I.ok.mod.kin.keeps I.bk
theorem Inv.lt (I:Inv X pins σ H s):X.env.locals < s.heap.objs.size:=let ⟨_,hn,_⟩:=I.loc;hn.lt
theorem Inv.sz (I:Inv X pins σ H s):X.s₀.heap.objs.size<=s.heap.objs.size:=aK I.ok.above (aW I.lt)
theorem Inv.nofs (I:Inv X pins σ H s) {a:Addr} (h:s.heap.objs.size<=a):a∉X.fs:=fun hb=>by
 obtain⟨_,o,ho,_⟩:=I.ok.funs.mem hb
 exact absurd (ah (aD ho) (aK I.sz h)) (bB _)
theorem Inv.cne (I:Inv X pins σ H s) : ∀ x c,X.env.cells.lookup x=some c->c≠X.env.locals:=fun x c e z=>by
 obtain⟨v,o,ho,hd⟩:=I.cell x c e
 obtain⟨m,⟨o',es,ep,ho',hd',_⟩,_⟩:=I.loc
 rw [z,ho'] at ho;cases ho;rw [hd'] at hd;cases hd
theorem Inv.funs (I:Inv X pins σ H s):s.heap.FunFrames X.base X.outer:=by
 have all : ∀ (l:List Env),(∀ b∈frs l,b∈X.fs)->X.s₀.heap.FunFrames X.base l->s.heap.FunFrames X.base l:=by
  intro l
  induction l with
  | nil=>intro _ _;trivial
  | cons env r ih=>
    intro hs hl
    obtain⟨hk,⟨L,o,hf,hn,ho,hd⟩,hr⟩:=hl
    have hL:L∈X.fs:=hs L (by unfold frs;rw [dw,hf];exact aM)
    obtain⟨sl,e⟩:=I.base.slot L o ho (I.ok.frf L hL) hL fun z=>I.ok.exfs L z hL
    exact⟨hk,⟨L,_,hf,hn,e,hd⟩,ih (fun b hb=>hs b (by unfold frs;rw [dw,hf];exact av _ hb)) hr⟩
 exact all X.outer (fun _ hb=>hb) I.ok.funs
theorem Inv.stack (I:Inv X pins σ H s):s.heap.FunFrames X.base X.stack:=by
 rcases I.ok.stk with e | ⟨e,hf⟩
 ·rw [e];exact I.funs
 ·rw [e]
  obtain⟨m,hn,_⟩:=I.loc
  refine .cons (by rw [I.ok.kind];decide) hf hn ?_ I.funs
  exact Heap.get?_none_of_le (aK I.ok.bsz I.ok.above)
theorem Inv.stkSub (I:Inv X pins σ H s) : ∀ b∈frs X.stack,b∈X.env.locals::X.fs:=fun b hb=>by
 rcases I.ok.stk with e | ⟨e,hf⟩
 ·rw [e] at hb;exact av _ hb
 ·rw [e] at hb
  unfold frs at hb
  rw [dw,hf] at hb
  exact hb
theorem Inv.stkFree (I:Inv X pins σ H s) : ∀ b∈frs X.stack,H b=none:=fun b hb=>by
 rcases aR.mp (I.stkSub b hb) with e | hb
 ·rw [e];exact I.free
 ·obtain⟨_,o,ho,_⟩:=I.ok.funs.mem hb
  exact I.base.free b o ho (I.ok.frf b hb) fun z=>I.ok.exfs b z hb
theorem Inv.step {g':Array GenState}{t':Nat}{d':Drawn}{ch:List Addr} (I:Inv X pins σ H s)
  (hch : ∀ b∈ch,(b∈X.ex\/X.s₀.heap.objs.size<=b)/\b≠X.env.locals/\(∀ x c,X.env.cells.lookup x=some c->c≠b) /\ ∀ p∈X.pn++pins,p.1≠b)
  (keep : ∀ b o,b≠X.env.locals->b∉X.fs->b∉ch->s.heap.get? b=some o->H b=none->h'.get? b=some o)
  (slot : ∀ b o,b≠X.env.locals->b∈X.fs->b∉ch->s.heap.get? b=some o->H b=none -> ∃ sl,h'.get? b=some { o with slots:=sl }) (free : ∀ b o,b∉ch->s.heap.get? b=some o->H b=none->H' b=none)
  (there : ∀ b o,b∉ch->s.heap.get? b=some o -> ∃ o',h'.get? b=some o')
  (tups : ∀ b xs,H b=some (.tup xs)->H' b=some (.tup xs)) (frzs : ∀ b o u,H b=some (.frz o u)->H' b=some (.frz o u)) (tbls : ∀ b ps,H b=some (.tbl ps) -> ∃ more,H' b=some (.tbl (ps++more)))
  (ns : ∀ m,s.heap.Ns X.env.locals m->h'.Ns X.env.locals m) (hok:HOk X.prog X.w H' h') (hg:AllBare g') :
  Inv X pins σ H' { s with heap:=h',gens:=g',drawn:=d',toks:=t' }:=by
 have neL : ∀ b o,X.s₀.heap.get? b=some o->b≠X.env.locals:=fun b o e=>bg (ah (aD e) I.ok.above)
 have neC : ∀ b o,X.s₀.heap.get? b=some o->b∉X.ex->b∉ch:=fun b o e hx hb=>by
  rcases (hch b hb).1 with z | z
  ·exact hx z
  ·exact absurd (ah (aD e) z) (bB _)
 have cellK : ∀ x c,X.env.cells.lookup x=some c -> ∀ v,s.heap.IsCell c v->h'.IsCell c v:=fun x c e v ⟨o,ho,hd⟩=>by
  have nch:c∉ch:=fun z=>(hch c z).2.2.1 x c e rfl
  by_cases hc:c∈X.fs
  ·obtain⟨sl,q⟩:=slot c o (I.cne x c e) hc nch ho (I.freeC x c e)
   exact⟨_,q,hd⟩
  ·exact⟨o,keep c o (I.cne x c e) hc nch ho (I.freeC x c e),hd⟩
 refine⟨I.ok,I.os,hg,⟨fun b o e n hb hx => ?_,fun b o e n hb hx => ?_,fun b o e n hx => ?_,fun b o e hx => ?_,fun b xs e=>tups b xs (I.base.tups b xs e),fun b o xs e=>frzs b o xs (I.base.frzs b o xs e),fun b ps e => ?_⟩,?_,fun x c e => ?_,?_,fun x c e => ?_,fun p hp => ?_,hok,I.len⟩
 ·exact keep b o (neL b o e) hb (neC b o e hx) (I.base.keep b o e n hb hx) (I.base.free b o e n hx)
 ·obtain⟨sl,e1⟩:=I.base.slot b o e n hb hx
  obtain⟨sl',e2⟩:=slot b _ (neL b o e) hb (neC b o e hx) e1 (I.base.free b o e n hx)
  exact⟨sl',e2⟩
 ·obtain⟨o',e1⟩:=I.base.there b o e hx
  exact free b o' (neC b o e hx) e1 (I.base.free b o e n hx)
 ·obtain⟨o',e1⟩:=I.base.there b o e hx
  exact there b o' (neC b o e hx) e1
 ·obtain⟨m1,e1⟩:=I.base.tbls b ps e
  obtain⟨m2,e2⟩:=tbls b _ e1
  exact⟨m1++m2,by rw [e2,Array.append_assoc]⟩
 ·obtain⟨m,hn,hl⟩:=I.loc
  refine⟨m,ns m hn,fun i x v e1 e2 e3 => ?_⟩
  obtain⟨u,r,l⟩:=hl i x v e1 e2 e3
  refine⟨u,r,?_⟩
  rcases l with l | ⟨k,c,e,z⟩
  ·exact .inl l
  ·exact .inr ⟨k,c,e,cellK x c e _ z⟩
 ·obtain⟨v,z⟩:=I.cell x c e
  exact⟨v,cellK x c e v z⟩
 ·obtain⟨m,⟨o,_,_,ho,_⟩,_⟩:=I.loc
  exact free _ o (fun z=>(hch _ z).2.1 rfl) ho I.free
 ·obtain⟨v,o,ho,hd⟩:=I.cell x c e
  exact free c o (fun z=>(hch c z).2.2.1 x c e rfl) ho (I.freeC x c e)
 ·obtain⟨e,n,ne,nf,d⟩:=I.pin p hp
  have nch:p.1∉ch:=fun z=>(hch p.1 z).2.2.2 p hp rfl
  exact⟨keep p.1 p.2 ne nf nch e n,free p.1 p.2 nch e n,ne,nf,d⟩
theorem Inv.un {t':Nat} (I:Inv X pins σ H s) (u:Un X.fs [] H H' s.heap h') (hok:HOk X.prog X.w H' h'):Inv X pins σ H' { s with heap:=h',toks:=t' }:=by
 obtain⟨m,⟨o,es,ep,ho,r⟩,_⟩:=id I.loc
 obtain⟨sl,hL⟩:=u.any ho I.free (by simp)
 exact I.step (g':=s.gens) (d':=s.drawn) (ch := []) (fun _ z=>nomatch z) (fun b o _ hb _ e n=>u.keep b o e n hb (by simp)) (fun b o _ hb _ e n=>u.slot b o e n hb (by simp)) (fun b o _ e n=>u.free b o e n (by simp)) (fun b o _ e=>u.there b o e (by simp)) u.tups u.frzs u.tbls (fun m' hm=>by
  obtain⟨o',es',ep',ho',r'⟩:=hm
  rw [ho] at ho';cases ho'
  exact⟨_,es',ep',hL,r'⟩) hok I.bare
theorem Inv.call {g':Array GenState}{t':Nat}{d':Drawn}{ch:List Addr} (I:Inv X pins σ H s) (u:Un (frs X.stack) ch H H' s.heap h') (hok:HOk X.prog X.w H' h') (hg:AllBare g')
  (hch : ∀ b∈ch,(b∈X.ex\/X.s₀.heap.objs.size<=b)/\b≠X.env.locals/\(∀ x c,X.env.cells.lookup x=some c->c≠b) /\ ∀ p∈X.pn++pins,p.1≠b) :
  Inv X pins σ H' { s with heap:=h',gens:=g',drawn:=d',toks:=t' }:=by
 obtain⟨m,⟨o,es,ep,ho,r⟩,_⟩:=id I.loc
 obtain⟨sl,hL⟩:=u.any ho I.free fun z=>(hch _ z).2.1 rfl
 exact I.step (ch:=ch) hch (fun b o hL hb hc e n=>u.keep b o e n (fun z=>(aR.mp (I.stkSub b z)).elim hL hb) hc) (fun b o _ _ hc e n=>u.any e n hc) (fun b o hc e n=>u.free b o e n hc) (fun b o hc e=>u.there b o e hc) u.tups u.frzs u.tbls (fun m' hm=>by
  obtain⟨o',es',ep',ho',r'⟩:=hm
  rw [ho] at ho';cases ho'
  exact⟨_,es',ep',hL,r'⟩) hok hg
theorem Inv.turned {t':Nat}{it:Addr} (I:Inv X pins σ H s) (k : ∀ b o,b≠it->s.heap.get? b=some o->h'.get? b=some o) (hn:H it=none) (hL:it≠X.env.locals)
  (h1:it∈X.ex\/X.s₀.heap.objs.size<=it) (h2 : ∀ x c,X.env.cells.lookup x=some c->c≠it) (h3 : ∀ p∈X.pn++pins,p.1≠it):Inv X pins σ H { s with heap:=h',toks:=t' }:=by
 have nit : ∀ b u,H b=some u->b≠it:=fun b u e z=>by rw [z,hn] at e;cases e
 refine I.step (g':=s.gens) (d':=s.drawn) (ch := [it]) (fun b hb => ?_) (fun b o _ _ hc e _=>k b o (fun z=>hc (by simp [z])) e) (fun b o _ _ hc e _=>⟨o.slots,k b o (fun z=>hc (by simp [z])) e⟩) (fun _ _ _ _ n=>n)
  (fun b o hc e=>⟨o,k b o (fun z=>hc (by simp [z])) e⟩) (fun _ _ e=>e) (fun _ _ _ e=>e) (fun b ps e=>⟨#[],by rw [e];simp⟩) (fun m hm => ?_) (fun b u e => ?_) I.bare
 ·have e:b=it:=by simpa using hb
  subst e
  exact⟨h1,hL,h2,h3⟩
 ·obtain⟨o,es,ep,ho,r⟩:=hm
  exact⟨o,es,ep,k _ o (df hL) ho,r⟩
 ·refine (I.hok b u e).stay (fun c v hc q=>k c v ?_ q) (fun _ q=>q) fun _ _ q=>q
  rcases hc with z | z
  ·rw [z];exact nit b u e
  ·exact nit c _ z
theorem Inv.tok (I:Inv X pins σ H s) (t:Nat):Inv X pins σ H { s with toks:=t }:=I.un (h':=s.heap) (t':=t) Un.refl I.hok
theorem Inv.kept {t':Nat} (I:Inv X pins σ H s) (k : ∀ b u,s.heap.get? b=some u->h'.get? b=some u):Inv X pins σ H { s with heap:=h',toks:=t' }:=I.un (Un.kept k) (I.hok.kept k)
theorem Inv.laid {a:Addr}{o:HO}{t':Nat} (I:Inv X pins σ H s) (k : ∀ b u,s.heap.get? b=some u->h'.get? b=some u) (hp:s.heap.objs.size<=a) (new:d4 X.prog X.w (upd H a o) h' a o) :
  Inv X pins σ (upd H a o) { s with heap:=h',toks:=t' }:=I.un (Un.laid k hp (I.hok.fresh hp)) (I.hok.laid k hp new)
theorem Inv.write {x e:Addr}{o:HO}{t':Nat} (I:Inv X pins σ H s) (mu:Mut (H x)) (he:e=x\/H e=some (.own x)) (k : ∀ b u,b≠e->s.heap.get? b=some u->h'.get? b=some u) (heo : ∃ u,h'.get? e=some u)
  (new:d4 X.prog X.w (upd H x o) h' x o):Inv X pins σ (upd H x o) { s with heap:=h',toks:=t' }:=I.un (Un.write mu he k heo) (I.hok.write mu he k heo new)
theorem Inv.weak {σ':List (Option V)} (I:Inv X pins σ H s) (hl:σ'.length=σ.length) (w : ∀ (i:Nat) v,σ'[i]? = some (some v)->σ[i]? = some (some v)):Inv X pins σ' H s:=
 ⟨I.ok,I.os,I.bare,I.base,let ⟨m,hn,hl'⟩:=I.loc;⟨m,hn,fun i x v e1 e2 e3=>hl' i x v e1 (w i v e2) e3⟩,I.cell,I.free,I.freeC,I.pin,I.hok,hl.trans I.len⟩
theorem Inv.pins_of {pins':List (Addr×Obj)} (I:Inv X pins σ H s) (h : ∀ p∈pins',s.heap.get? p.1=some p.2/\H p.1=none/\p.1≠X.env.locals/\p.1∉X.fs /\ ∀ v,p.2.data ≠ .cell v):Inv X pins' σ H s:=
 ⟨I.ok,I.os,I.bare,I.base,I.loc,I.cell,I.free,I.freeC,fun p hp=>(iK.mp hp).elim (fun z=>I.pin p (cP _ z)) (h p),I.hok,I.len⟩
theorem o5 {N:List Str} (hN:N.Nodup) {i j:Nat}{x:Str} (a:N[i]? = some x) (b:N[j]? = some x):i=j:=by
 obtain⟨h1,e1⟩:=af.mp a
 obtain⟨h2,e2⟩:=af.mp b
 exact (List.getElem_inj hN).mp (e1.trans e2.symm)
theorem qB {M:Model}{A:Around}{E:Value->Shared->Prop}{i:Nat}{x:Str}{v:V}{u:Value}{Q:Unit->Shared->Prop} (I:Inv X pins σ H s) (hN:X.N.Nodup) (hi:X.N[i]? = some x) (hx:Loc X.env.scope x) (r:RelV v u)
  (h : ∀ s',Inv X pins (σ.set i (some v)) H s'->(∃ a,dz a s.heap s'.heap/\(a=X.env.locals\/X.env.cells.lookup x=some a))->Q () s') (hf:X.fn x=true\/X.env.scope.names.lookup x=some .local:=by first | exact .inl rfl | exact .inr rfl | assumption):aJ M A (storeName X.env x u) Q E s:=by
 obtain⟨m,hn,hl⟩:=id I.loc
 have hcls:(X.env.scope.kind == .class||(X.env.scope.kind == .module&&X.env.locals != X.env.globals))=false:=by rw [I.ok.kind];rfl
 have hiσ:i < σ.length:=by rw [I.len];exact (af.mp hi).1
 have cne:=I.cne
 have tracked : ∀ {a:Addr}{h':Heap},(∃ o,s.heap.get? a=some o/\H a=none)->dz a s.heap h'->HOk X.prog X.w H h':=fun {a h'} ha hs b ob e=>by
  obtain⟨_,_,hfree⟩:=ha
  refine (I.hok b ob e).stay (fun c w' hc q=>(hs.2 c ?_).trans q) (fun _ q=>q) fun _ _ q=>q
  rintro rfl
  rcases hc with rfl | hc
  ·rw [hfree] at e;cases e
  ·rw [hfree] at hc;cases hc
 rcases hx with hk | hk
 ·refine wpAny_storeName_local hk hn (fun h' hn' hs => ?_) hcls
  obtain⟨oL,_,_,hoL,_⟩:=id hn
  refine h _ ⟨I.ok,I.os,I.bare,⟨fun b o e n hb hx => ?_,fun b o e n hb hx => ?_,I.base.free,fun b o e hx => ?_,I.base.tups,I.base.frzs,I.base.tbls⟩,⟨_,hn',fun j y v' e1 e2 e3 => ?_⟩,fun y c e => ?_,I.free,I.freeC,fun p hp => ?_,tracked ⟨oL,hoL,I.free⟩ hs,by simpa using I.len⟩ ⟨_,hs,.inl rfl⟩
  ·exact (hs.2 b (bg (ah (aD e) I.ok.above))).trans (I.base.keep b o e n hb hx)
  ·obtain⟨sl,e1⟩:=I.base.slot b o e n hb hx
   exact⟨sl,(hs.2 b (bg (ah (aD e) I.ok.above))).trans e1⟩
  ·obtain⟨o',e1⟩:=I.base.there b o e hx
   exact⟨o',(hs.2 b (bg (ah (aD e) I.ok.above))).trans e1⟩
  ·by_cases hj:j=i
   ·subst hj
    rw [hi] at e1;cases e1
    rw [aN hiσ] at e2
    cases e2
    exact⟨u,r,.inl ⟨hk,by simp⟩⟩
   ·rw [aB (df hj)] at e2
    obtain⟨u',r',q⟩:=hl j y v' e1 e2 e3
    refine⟨u',r',?_⟩
    rcases q with⟨k,e⟩ | ⟨k,c,e,z⟩
    ·refine .inl ⟨k,?_⟩
     have:y≠x:=fun e=>hj (o5 hN e1 (e▸hi))
     simp [this,e]
    ·exact .inr ⟨k,c,e,z.sameBut hs (cne y c e)⟩
  ·obtain⟨w',z⟩:=I.cell y c e
   exact⟨w',z.sameBut hs (cne y c e)⟩
  ·obtain⟨e,n,ne,nf,d⟩:=I.pin p hp
   exact⟨(hs.2 p.1 ne).trans e,n,ne,nf,d⟩
 ·have hfn:X.fn x=true:=by
   rcases hf with z | z
   ·exact z
   ·rw [z] at hk;cases hk
  obtain⟨c,hc⟩:=I.ok.has x (.inl hk)
  obtain⟨w',z⟩:=I.cell x c hc
  refine wpAny_storeName_cell I.ok.kind hk hc z (fun h' hc' hs => ?_)
  obtain⟨oc,hoc,hocd⟩:=id z
  refine h { s with heap:=h' } ⟨I.ok,I.os,I.bare,⟨fun b o e n hb hx => ?_,fun b o e n hb hx => ?_,I.base.free,fun b o e hx => ?_,I.base.tups,I.base.frzs,I.base.tbls⟩,⟨m,hn.sameBut hs (df (cne x c hc)),fun j y v' e1 e2 e3 => ?_⟩,fun y c' e => ?_,I.free,I.freeC,fun p hp => ?_,tracked ⟨oc,hoc,I.freeC x c hc⟩ hs,by simpa using I.len⟩ ⟨c,hs,.inr hc⟩
  ·exact (hs.2 b (bg (ah (aD e) (I.ok.cab x c hfn hc)))).trans (I.base.keep b o e n hb hx)
  ·obtain⟨sl,e1⟩:=I.base.slot b o e n hb hx
   exact⟨sl,(hs.2 b (bg (ah (aD e) (I.ok.cab x c hfn hc)))).trans e1⟩
  ·obtain⟨o',e1⟩:=I.base.there b o e hx
   exact⟨o',(hs.2 b (bg (ah (aD e) (I.ok.cab x c hfn hc)))).trans e1⟩
  ·by_cases hj:j=i
   ·subst hj
    rw [hi] at e1;cases e1
    rw [aN hiσ] at e2
    cases e2
    exact⟨u,r,.inr ⟨.inl hk,c,hc,hc'⟩⟩
   ·rw [aB (df hj)] at e2
    obtain⟨u',r',q⟩:=hl j y v' e1 e2 e3
    refine⟨u',r',?_⟩
    rcases q with q | ⟨k,c',e,z'⟩
    ·exact .inl q
    ·refine .inr ⟨k,c',e,z'.sameBut hs ?_⟩
     rintro rfl
     exact hj (o5 hN e1 (I.ok.inj _ _ _ e hc▸hi))
  ·by_cases hcc:c'=c
   ·subst hcc;exact⟨_,hc'⟩
   ·obtain⟨w2,z2⟩:=I.cell y c' e
    exact⟨w2,z2.sameBut hs hcc⟩
  ·obtain⟨e,n,ne,nf,d⟩:=I.pin p hp
   refine⟨(hs.2 p.1 ?_).trans e,n,ne,nf,d⟩
   intro q
   rw [q,hoc] at e
   have q':oc=p.2:=bu e
   exact d w' (by rw [<- q'];exact hocd)
theorem kh {M:Model}{A:Around}{E:Value->Shared->Prop}{i:Nat}{x:Str}{v:V}{u:Value}{Q:Unit->Shared->Prop} (I:Inv X pins σ H s) (hN:X.N.Nodup) (hi:X.N[i]? = some x) (hx:Loc X.env.scope x) (r:RelV v u)
  (h : ∀ s',Inv X pins (σ.set i (some v)) H s'->Q () s') (hf:X.fn x=true\/X.env.scope.names.lookup x=some .local:=by first | exact .inl rfl | exact .inr rfl | assumption):aJ M A (storeName X.env x u) Q E s:=
 qB I hN hi hx r (fun s' I' _=>h s' I') hf
theorem Inv.call' {s':Shared}{ch:List Addr} (I:Inv X pins σ H s) (ho:s'.os=s.os) (u:Un (frs X.stack) ch H H' s.heap s'.heap) (hok:HOk X.prog X.w H' s'.heap) (hg:AllBare s'.gens)
  (hch : ∀ b∈ch,(b∈X.ex\/X.s₀.heap.objs.size<=b)/\b≠X.env.locals/\(∀ x c,X.env.cells.lookup x=some c->c≠b) /\ ∀ p∈X.pn++pins,p.1≠b):Inv X pins σ H' s':=by
 obtain⟨h',g',d',t',o'⟩:=s'
 have e:o'=s.os:=ho
 subst e
 exact I.call (g':=g') (t':=t') (d':=d') u hok hg hch
end
abbrev XK:=Value->Option Addr->Hp->Prop
abbrev St:=List (Option V)
abbrev VK:=V->Hp->Prop
abbrev TE:=St->Hp->VK->Prop
abbrev TT:=St->Hp->(Bool->Hp->Prop)->Prop
abbrev TA:=St->Hp->(List V->Hp->Prop)->Prop
structure Ends where
 nx:St->Hp->Prop
 rt:VK
 bk:St->Hp->Prop:=fun _ _=>False
 ct:St->Hp->Prop:=fun _ _=>False
abbrev TS:=Ends->St->Hp->Prop
noncomputable def EP (X:Cx) (pins:List (Addr×Obj)) (σ:St) (Q:VK) (u:Value) (s':Shared):Prop := ∃ v H',Inv X pins σ H' s'/\RelV v u/\Q v H'
noncomputable def TP (X:Cx) (pins:List (Addr×Obj)) (σ:St) (Q:Bool->Hp->Prop) (b:Bool) (s':Shared):Prop := ∃ H',Inv X pins σ H' s'/\Q b H'
noncomputable def AP (X:Cx) (pins:List (Addr×Obj)) (σ:St) (Q:List V->Hp->Prop) (us:List Value) (s':Shared):Prop := ∃ vs H',Inv X pins σ H' s'/\bW vs us/\Q vs H'
noncomputable def SP (X:Cx) (pins:List (Addr×Obj)) (D:Ends) (f:Flow) (s':Shared):Prop:=
 match f with
 | .next => ∃ σ' H',Inv X pins σ' H' s'/\D.nx σ' H'
 | .brk => ∃ σ' H',Inv X pins σ' H' s'/\D.bk σ' H'
 | .cont => ∃ σ' H',Inv X pins σ' H' s'/\D.ct σ' H'
 | .ret u => ∃ v σ' H',Inv X pins σ' H' s'/\RelV v u/\D.rt v H'
noncomputable def PE (X:Cx) (e:Expr) (t:TE):Prop:=
 ∀ (pins:List (Addr×Obj)) (s:Shared) (σ:St) (H:Hp) (Q:VK),Inv X pins σ H s->t σ H Q->aJ (model X.prog X.w) X.A (eval e X.env) (EP X pins σ Q) X.xe s
noncomputable def PT (X:Cx) (e:Expr) (t:TT):Prop:=
 ∀ (pins:List (Addr×Obj)) (s:Shared) (σ:St) (H:Hp) (Q:Bool->Hp->Prop),Inv X pins σ H s->t σ H Q->aJ (model X.prog X.w) X.A (isTrue e X.env (eval e X.env)) (TP X pins σ Q) X.xe s
noncomputable def PW (X:Cx) (e:Expr) (t:TT):Prop:=
 ∀ (whole:Sem Value) (pins:List (Addr×Obj)) (s:Shared) (σ:St) (H:Hp) (Q:Bool->Hp->Prop),Inv X pins σ H s->t σ H Q->aJ (model X.prog X.w) X.A (isTrue e X.env whole) (TP X pins σ Q) X.xe s
theorem PW.pt {X:Cx}{e:Expr}{t:TT} (h:PW X e t):PT X e t:=h _
noncomputable def PA (X:Cx) (es:List Expr) (t:TA):Prop:=
 ∀ (pos:Pos) (pins:List (Addr×Obj)) (s:Shared) (σ:St) (H:Hp) (Q:List V->Hp->Prop),Inv X pins σ H s->t σ H Q->aJ (model X.prog X.w) X.A (spliced (backTo pos (starEach es X.env))) (AP X pins σ Q) X.xe s
noncomputable def PS (X:Cx) (st:Stmt) (t:TS):Prop:=
 ∀ (pins:List (Addr×Obj)) (s:Shared) (σ:St) (H:Hp) (D:Ends),Inv X pins σ H s->t D σ H->aJ (model X.prog X.w) X.A (exec st X.env) (SP X pins D) X.xe s
noncomputable def PSs (X:Cx) (st:List Stmt) (t:TS):Prop:=
 ∀ (pins:List (Addr×Obj)) (s:Shared) (σ:St) (H:Hp) (D:Ends),Inv X pins σ H s->t D σ H->aJ (model X.prog X.w) X.A (execs st X.env) (SP X pins D) X.xe s
theorem thn {α:Type}{t:Sem α}{Q Q':α->Shared->Prop}{M:Model}{A:Around}{E:Value->Shared->Prop}{s:Shared} (h:aJ M A t Q E s) (hQ : ∀ a s,Q a s->Q' a s):aJ M A t Q' E s:=bJ h hQ fun _ _ x=>x
end L2
namespace L2
open PySem PySem.Spec PyProof.Rows
section
variable {X:Cx}
noncomputable def I0 (i:Nat):TE:=fun σ H Q => ∃ v,σ[i]? = some (some v)/\Q v H
noncomputable def tC (v:V):TE:=fun _ H Q=>Q v H
theorem rX {i:Nat}{x:Str}{pos:Pos} (hN:X.N[i]? = some x) (hv:Vis X.env.scope x) (hd:(x == ("__debug__":Str))=false:=by decide) (hcd:(x == ("__classdict__":Str))=false:=by decide):PE X (.Name x pos) (I0 i):=by
 intro pins s σ H Q I h
 obtain⟨v,e,h⟩:=h
 obtain⟨m,hn,hl⟩:=I.loc
 obtain⟨u,r,l⟩:=hl i x v hN e hv
 have fin:EP X pins σ Q u s:=⟨v,H,I,r,h⟩
 rcases l with⟨hk,hm⟩ | ⟨hk,c,hc,hcell⟩
 ·exact wpAny_Name (wpAny_loadName_local I.ok.kind hk hn hm fin) hd
 ·rcases hk with hk | hk
  ·exact wpAny_Name (wpAny_loadName_cell I.ok.kind hk hc hcell fin) hd
  ·exact wpAny_Name (wpAny_loadName_free I.ok.kind hk hc hcell fin hcd) hd
theorem Gu {i j pos}:PE X (.Constant (.int i) j pos) (tC (.int i)):=fun _ _ _ H _ I h=>wpAny_Constant_int ⟨.int i,H,I.tok _,⟨_,rfl⟩,h⟩
theorem Jo {b j pos}:PE X (.Constant (.bool b) j pos) (tC (.bl b)):=fun _ _ _ H _ I h=>Constant_bool ⟨.bl b,H,I,rfl,h⟩
theorem EM {j pos}:PE X (.Constant .none j pos) (tC .non):=fun _ _ _ H _ I h=>Constant_none ⟨.non,H,I,rfl,h⟩
theorem zj {x j pos}:PE X (.Constant (.str x) j pos) (tC (.str x)):=fun _ _ _ H _ I h=>nQ ⟨.str x,H,I.tok _,⟨_,rfl⟩,h⟩
noncomputable def Gl (X:Cx) (x:Str):Prop:=X.env.kindOf x=some .globalImplicit
theorem iI {E:Value->Shared->Prop}{pins:List (Addr×Obj)}{s:Shared}{σ:St}{H:Hp}{x:Str}{u:Value}{pos:Pos}{Q:Value->Shared->Prop} (I:Inv X pins σ H s) (hg:Gl X x) (hm:X.mg x=some u) (h:Q u s)
  (hd:(x == ("__debug__":Str))=false:=by decide):aJ (model X.prog X.w) X.A (eval (.Name x pos) X.env) Q E s:=
 uU I.ok.kind hg (Calls.loadGlobal_global (by rw [I.ok.glob];exact I.mod.glob.keeps I.bk) hm h) hd
theorem iP {E:Value->Shared->Prop}{pins:List (Addr×Obj)}{s:Shared}{σ:St}{H:Hp}{x:Str}{u:Value}{pos:Pos}{Q:Value->Shared->Prop} (I:Inv X pins σ H s) (hg:Gl X x) (hm:X.mg x=none) (hv:bootBuiltins x=some u) (h:Q u s)
  (hn:x≠"__name__":=by decide) (hd:(x == ("__debug__":Str))=false:=by decide):aJ (model X.prog X.w) X.A (eval (.Name x pos) X.env) Q E s:=by
 obtain⟨mb,h1,h2⟩:=I.mod.blt
 exact uU I.ok.kind hg (Calls.loadGlobal_builtin (by rw [I.ok.glob];exact I.mod.glob.keeps I.bk) hm (by rw [I.ok.blt];exact h1.keeps I.bk) ((h2 x hn).trans hv) h) hd
theorem B2 {x:Str}{v:V}{u:Value}{pos:Pos} (hg:Gl X x) (hm:X.mg x=some u) (r:RelV v u) (hd:(x == ("__debug__":Str))=false:=by decide):PE X (.Name x pos) (tC v):=
 fun _ _ _ H _ I h=>iI I hg hm ⟨v,H,I,r,h⟩ hd
variable {a b:Expr}{ta tb:TE}{pos:Pos}
noncomputable def tB (t:TE):TT:=fun σ H Q=>t σ H fun x H1 => ∃ c,x = .bl c/\Q c H1
theorem E6 {e:Expr}{t:TE} (h:PE X e t) (he : ∀ whole,isTrue e X.env whole=(do let v <- whole;standAt e.pos;holding [v] (truthy v)):=by intro _;rfl):PT X e (tB t):=by
 intro pins s σ H Q I hw
 refine isTrue_plain (thn (h pins s σ H _ I hw) fun v s1 ⟨x,H1,I1,r1,q1⟩ => ?_) (he _)
 obtain⟨d,rfl,q⟩:=q1
 cases r1
 exact fF ⟨H1,I1,q⟩
variable {tA tB':TT}{rest:List Expr}
noncomputable def GC (t u:TT):TT:=fun σ H Q=>t σ H fun c H1=>if c=true then u σ H1 Q else Q false H1
noncomputable def tOr (t u:TT):TT:=fun σ H Q=>t σ H fun c H1=>if c=true then Q true H1 else u σ H1 Q
noncomputable def Hc (t:TT):TT:=fun σ H Q=>t σ H fun c H1=>Q (!c) H1
theorem Cq (ha:PT X a tA):PW X (.BoolOp .And [a] pos) tA:=by
 intro wh pins s σ H Q I h
 refine isTrue_and (thn (ha pins s σ H Q I h) fun c s1 e => ?_)
 cases c with
 | true=>exact isTrue_and_nil e
 | false=>exact e
theorem F3 (ha:PT X a tA):PW X (.BoolOp .Or [a] pos) tA:=by
 intro wh pins s σ H Q I h
 refine isTrue_or (thn (ha pins s σ H Q I h) fun c s1 e => ?_)
 cases c with
 | false=>exact isTrue_or_nil e
 | true=>exact e
theorem Gc (ha:PT X a tA) (hb:PW X (.BoolOp .And (b::rest) pos) tB'):PW X (.BoolOp .And (a::b::rest) pos) (GC tA tB'):=by
 intro wh pins s σ H Q I h
 refine isTrue_and (thn (ha pins s σ H _ I h) fun c s1 ⟨H1,I1,q1⟩ => ?_)
 cases c with
 | true=>exact hb wh pins s1 σ H1 Q I1 q1
 | false=>exact⟨H1,I1,q1⟩
theorem G0 (ha:PT X a tA) (hb:PW X (.BoolOp .Or (b::rest) pos) tB'):PW X (.BoolOp .Or (a::b::rest) pos) (tOr tA tB'):=by
 intro wh pins s σ H Q I h
 refine isTrue_or (thn (ha pins s σ H _ I h) fun c s1 ⟨H1,I1,q1⟩ => ?_)
 cases c with
 | true=>exact⟨H1,I1,q1⟩
 | false=>exact hb wh pins s1 σ H1 Q I1 q1
theorem Eg (ha:PT X a tA):PT X (.UnaryOp .Not a pos) (Hc tA):=by
 intro pins s σ H Q I h
 exact isTrue_not (ha pins s σ H (fun c H1=>Q (!c) H1) I h)
noncomputable def Do (ta tb:TE):TE:=fun σ H Q=>ta σ H fun x H1 => ∃ c,x = .bl c/\if c=true then tb σ H1 Q else Q (.bl false) H1
noncomputable def Ib (ta tb:TE):TE:=fun σ H Q=>ta σ H fun x H1 => ∃ c,x = .bl c/\if c=true then Q (.bl true) H1 else tb σ H1 Q
noncomputable def Dd (ta:TE):TE:=fun σ H Q=>ta σ H fun x H1 => ∃ c,x = .bl c/\Q (.bl (!c)) H1
theorem Ey {op}{t:TE} (h:PE X a t):PE X (.BoolOp op [a] pos) t:=fun pins s σ H Q I hw=>BoolOp_one (h pins s σ H Q I hw)
theorem EL (ha:PE X a ta) (hb:PE X (.BoolOp .And (b::rest) pos) tb):PE X (.BoolOp .And (a::b::rest) pos) (Do ta tb):=by
 intro pins s σ H Q I h
 refine BoolOp_and (thn (ha pins s σ H _ I h) fun v s1 ⟨x,H1,I1,r1,q1⟩ => ?_)
 obtain⟨c,rfl,q1⟩:=q1
 cases r1
 refine fF ?_
 cases c with
 | true=>exact hb pins s1 σ H1 Q I1 q1
 | false=>exact⟨.bl false,H1,I1,rfl,q1⟩
theorem Ji (ha:PE X a ta) (hb:PE X (.BoolOp .Or (b::rest) pos) tb):PE X (.BoolOp .Or (a::b::rest) pos) (Ib ta tb):=by
 intro pins s σ H Q I h
 refine BoolOp_or (thn (ha pins s σ H _ I h) fun v s1 ⟨x,H1,I1,r1,q1⟩ => ?_)
 obtain⟨c,rfl,q1⟩:=q1
 cases r1
 refine fF ?_
 cases c with
 | false=>exact hb pins s1 σ H1 Q I1 q1
 | true=>exact⟨.bl true,H1,I1,rfl,q1⟩
theorem Gg (ha:PE X a ta):PE X (.UnaryOp .Not a pos) (Dd ta):=by
 intro pins s σ H Q I h
 refine UnaryOp_ (thn (ha pins s σ H _ I h) fun v s1 ⟨x,H1,I1,r1,q1⟩ => ?_)
 obtain⟨c,rfl,q1⟩:=q1
 cases r1
 exact not_of (fF ⟨.bl (!c),H1,I1,rfl,q1⟩)
noncomputable def tIf (t:TT) (ta tb:TE):TE:=fun σ H Q=>t σ H fun c H1=>if c=true then ta σ H1 Q else tb σ H1 Q
theorem Ak {c:Expr} (hc:PT X c tA) (ha:PE X a ta) (hb:PE X b tb):PE X (.IfExp c a b pos) (tIf tA ta tb):=by
 intro pins s σ H Q I h
 refine wpAny_IfExp (thn (hc pins s σ H _ I h) fun d s1 ⟨H1,I1,q1⟩ => ?_)
 cases d with
 | true=>exact ha pins s1 σ H1 Q I1 q1
 | false=>exact hb pins s1 σ H1 Q I1 q1
end
end L2
namespace L2
open PySem PySem.Spec PyProof.Rows
noncomputable def SqL (K:ai) (H:Hp) (a:Addr) (xs:List V):Prop:=
 Rd H a (.lst xs) \/
  ∃ (o:Obj) (its:Array Value) (n:Nat),K.lookup a=some o/\o.cls = .type "list"/\o.dict=none/\o.data = .seq its n/\its.size<=sizeLine/\bW xs its.toList
noncomputable def SqT (K:ai) (H:Hp) (a:Addr) (xs:List V):Prop:=
 Rd H a (.tup xs) \/
  ∃ (o:Obj) (its:Array Value) (n:Nat),K.lookup a=some o/\o.cls = .type "tuple"/\o.data = .seq its n/\its.size<=sizeLine/\bW xs its.toList
noncomputable def JA:Value->Option V
 | .none=>some .non
 | .bool b=>some (.bl b)
 | .int i _=>some (.int i)
 | .str x _=>some (.str x)
 | .bytes b _=>some (.byt b)
 | .float b _=>some (.flt b)
 | .ref a=>some (.ref a)
 | .type n=>some (.ty n)
 | _=>none
theorem RelV.abs {x:V}{u:Value} (r:RelV x u):JA u=some x:=by
 cases x with
 | non=>cases r;rfl
 | bl _=>cases r;rfl
 | int _=>obtain⟨t,rfl⟩:=r;rfl
 | str _=>obtain⟨t,rfl⟩:=r;rfl
 | byt _=>obtain⟨t,rfl⟩:=r;rfl
 | flt _=>obtain⟨t,rfl⟩:=r;rfl
 | ref _=>cases r;rfl
 | ty _=>cases r;rfl
theorem RelV.inj {x y:V}{u:Value} (r:RelV x u) (q:RelV y u):x=y:=bu (r.abs.symm.trans q.abs)
theorem bW.inj : ∀ {xs ys:List V}{us:List Value},bW xs us->bW ys us->xs=ys
 | _,_,_,.nil,.nil=>rfl
 | _,_,_,.cons r t,.cons r' t'=>by rw [r.inj r',bW.inj t t']
section
variable {X:Cx}{pins:List (Addr×Obj)}{σ:St}{H:Hp}{s:Shared}{a:Addr}{xs ys:List V}
theorem SqL.of {K:ai} (h:H a=some (.lst xs)):SqL K H a xs := .inl (.inl h)
theorem Inv.list (I:Inv X pins σ H s) (h:SqL X.K H a xs) : ∃ its:List Value,bW xs its/\PlainL s.heap a its.toArray/\xs.length<=sizeLine:=by
 rcases h with h | ⟨o,its,n,hk,hc,hd,hs,hz,r⟩
 ·obtain⟨z,its,n,r,e⟩:=h.ok I.hok
  exact⟨its,r,⟨_,n,e,rfl,rfl,rfl⟩,z⟩
 ·refine⟨its.toList,r,⟨o,n,I.kIn a o hk,hc,hd,by simpa using hs⟩,?_⟩
  have e:=r.length
  simp only [fG] at e
  omega
theorem Inv.tuple (I:Inv X pins σ H s) (h:SqT X.K H a xs) : ∃ its:List Value,bW xs its/\IsTup s.heap a its.toArray/\xs.length<=sizeLine:=by
 rcases h with h | ⟨o,its,n,hk,hc,hs,hz,r⟩
 ·obtain⟨z,its,r,p⟩:=h.ok I.hok
  exact⟨its,r,p.1,z⟩
 ·refine⟨its.toList,r,⟨o,I.kIn a o hk,hc,n,by simpa using hs⟩,?_⟩
  have e:=r.length
  simp only [fG] at e
  omega
theorem Inv.list_inj (I:Inv X pins σ H s) (h:SqL X.K H a xs) (h':SqL X.K H a ys):xs=ys:=by
 obtain⟨its,r,⟨o,n,e,_,_,d⟩,_⟩:=I.list h
 obtain⟨its',r',⟨o',n',e',_,_,d'⟩,_⟩:=I.list h'
 rw [e] at e';cases e'
 rw [d] at d'
 injection d' with d1 _
 have:its=its':=by simpa using congrArg Array.toList d1
 subst this
 exact r.inj r'
theorem Inv.tuple_inj (I:Inv X pins σ H s) (h:SqT X.K H a xs) (h':SqT X.K H a ys):xs=ys:=by
 obtain⟨its,r,⟨o,e,_,n,d⟩,_⟩:=I.tuple h
 obtain⟨its',r',⟨o',e',_,n',d'⟩,_⟩:=I.tuple h'
 rw [e] at e';cases e'
 rw [d] at d'
 injection d' with d1 _
 have:its=its':=by simpa using congrArg Array.toList d1
 subst this
 exact r.inj r'
end
abbrev Cx.wish (X:Cx) (E:Value->Shared->Prop):Cx:={ X with xe:=E }
abbrev Cx.nox (X:Cx):Cx:=X.wish fun _ _=>False
theorem Cx.Ok.wish {X:Cx} (ok:X.Ok) (E:Value->Shared->Prop):(X.wish E).Ok:=
 ⟨ok.mod,ok.kind,ok.glob,ok.blt,ok.above,ok.inj,ok.has,ok.cab,ok.hd,ok.frames,ok.stk,ok.exf,ok.bs,ok.bsz,ok.noex,ok.exfs,ok.funs,ok.frf⟩
theorem Cx.Ok.unwish {X:Cx}{E:Value->Shared->Prop} (ok:(X.wish E).Ok):X.Ok:=
 ⟨ok.mod,ok.kind,ok.glob,ok.blt,ok.above,ok.inj,ok.has,ok.cab,ok.hd,ok.frames,ok.stk,ok.exf,ok.bs,ok.bsz,ok.noex,ok.exfs,ok.funs,ok.frf⟩
section
variable {X:Cx}{pins:List (Addr×Obj)}{σ:St}{H:Hp}{s:Shared}{E:Value->Shared->Prop}
theorem Inv.wish (I:Inv X pins σ H s) (E:Value->Shared->Prop):Inv (X.wish E) pins σ H s:=⟨I.ok.wish E,I.os,I.bare,I.base,I.loc,I.cell,I.free,I.freeC,I.pin,I.hok,I.len⟩
theorem Inv.unwish (I:Inv (X.wish E) pins σ H s):Inv X pins σ H s:=⟨I.ok.unwish,I.os,I.bare,I.base,I.loc,I.cell,I.free,I.freeC,I.pin,I.hok,I.len⟩
theorem SP.unwish {D:Ends}{f:Flow}{s':Shared} (h:SP (X.wish E) pins D f s'):SP X pins D f s':=by
 cases f with
 | next=>obtain⟨σ',H',I,q⟩:=h;exact⟨σ',H',I.unwish,q⟩
 | brk=>obtain⟨σ',H',I,q⟩:=h;exact⟨σ',H',I.unwish,q⟩
 | cont=>obtain⟨σ',H',I,q⟩:=h;exact⟨σ',H',I.unwish,q⟩
 | ret u=>obtain⟨v,σ',H',I,r,q⟩:=h;exact⟨v,σ',H',I.unwish,r,q⟩
theorem PE.nox {e:Expr}{t:TE} (h:PE X.nox e t):PE X e t:=fun pins s σ H Q I hw=>
 bJ (h pins s σ H Q (I.wish _) hw) (fun _ _ ⟨v,H',I',r,q⟩=>⟨v,H',I'.unwish,r,q⟩) fun _ _ z=>bM z
theorem PT.nox {e:Expr}{t:TT} (h:PT X.nox e t):PT X e t:=fun pins s σ H Q I hw=>
 bJ (h pins s σ H Q (I.wish _) hw) (fun _ _ ⟨H',I',q⟩=>⟨H',I'.unwish,q⟩) fun _ _ z=>bM z
theorem PSs.nox {st:List Stmt}{t:TS} (h:PSs X.nox st t):PSs X st t:=fun pins s σ H D I hw=>
 bJ (h pins s σ H D (I.wish _) hw) (fun _ _ q=>q.unwish) fun _ _ z=>bM z
end
section
variable {X:Cx}{st:Stmt}{rest:List Stmt}{t u:TS}{e:Expr}{te:TE}{pos:Pos}
noncomputable def zO:TS:=fun D σ H=>D.nx σ H
noncomputable def HA (t u:TS):TS:=fun D σ H=>t { D with nx:=u D } σ H
theorem Cj:PSs X [] zO:=fun _ _ σ H _ I h=>gI ⟨σ,H,I,h⟩
theorem jU (h1:PS X st t) (h2:PSs X rest u):PSs X (st::rest) (HA t u):=by
 intro pins s σ H D I h
 refine wd (thn (h1 pins s σ H { D with nx:=u D } I h) fun f s1 q => ?_)
 cases f with
 | next=>
   obtain⟨σ',H',I',q⟩:=q
   exact h2 pins s1 σ' H' D I' q
 | ret v=>exact q
 | brk=>exact q
 | cont=>exact q
theorem wQ (h1:PS X st t):PSs X [st] t:=by
 intro pins s σ H D I h
 refine wd (thn (h1 pins s σ H D I h) fun f s1 q => ?_)
 cases f with
 | next=>exact gI q
 | ret v=>exact q
 | brk=>exact q
 | cont=>exact q
noncomputable def Ew:TS:=fun D σ H=>D.bk σ H
noncomputable def Hf:TS:=fun D σ H=>D.ct σ H
theorem Cd:PS X (.Pass pos) zO:=fun _ _ σ H _ I h=>wpAny_Pass ⟨σ,H,I,h⟩
theorem zM:PS X (.Break pos) Ew:=fun _ _ σ H _ I h=>wpAny_Break ⟨σ,H,I,h⟩
theorem tQ:PS X (.Continue pos) Hf:=fun _ _ σ H _ I h=>wpAny_Continue ⟨σ,H,I,h⟩
theorem Inv.quiet {pins:List (Addr×Obj)}{σ:St}{H:Hp}{s:Shared} (I:Inv X pins σ H s):interactive X.env=false:=by simp [interactive,I.ok.kind]
noncomputable def Dk (te:TE):TS:=fun D σ H=>te σ H fun _ H1=>D.nx σ H1
theorem wy (he:PE X e te) (hs:swapsWith e none pos.line X.env=pure false:=by rfl):PS X (.Expr e pos) (Dk te):=by
 intro pins s σ H D I h
 exact wpAny_Expr_any (thn (he pins s σ H _ I h) fun v s1 ⟨x,H1,I1,r1,q1⟩=>⟨σ,H1,I1,q1⟩) I.quiet hs
noncomputable def IX (te:TE):TS:=fun D σ H=>te σ H D.rt
theorem Ay (he:PE X e te):PS X (.Return (some e) pos) (IX te):=by
 intro pins s σ H D I h
 exact wpAny_Return_some (thn (he pins s σ H _ I h) fun v s1 ⟨x,H1,I1,r1,q1⟩=>⟨x,σ,H1,I1,r1,q1⟩)
noncomputable def Jc:TS:=fun D _ H=>D.rt .non H
theorem Ck:PS X (.Return none pos) Jc:=fun _ _ σ H _ I h=>wpAny_Return_none ⟨.non,σ,H,I,rfl,h⟩
noncomputable def Jh (c:TT) (t u:TS):TS:=fun D σ H=>c σ H fun b H1=>if b=true then t D σ H1 else u D σ H1
theorem Ds {c:Expr}{a b:List Stmt}{tc:TT} (hc:PT X c tc) (ha:PSs X a t) (hb:PSs X b u):PS X (.If c a b pos) (Jh tc t u):=by
 intro pins s σ H D I h
 refine wpAny_If (thn (hc pins s σ H _ I h) fun d s1 ⟨H1,I1,q1⟩ => ?_)
 cases d with
 | true=>exact ha pins s1 σ H1 D I1 q1
 | false=>exact hb pins s1 σ H1 D I1 q1
end
abbrev TG:=V->St->Hp->(St->Hp->Prop)->Prop
abbrev TGs:=List V->St->Hp->(St->Hp->Prop)->Prop
noncomputable def PG (X:Cx) (target:Expr) (t:TG):Prop:=
 ∀ (pins:List (Addr×Obj)) (s:Shared) (σ:St) (H:Hp) (v:V) (u:Value) (Q:St->Hp->Prop),Inv X pins σ H s->RelV v u->t v σ H Q ->
  aJ (model X.prog X.w) X.A (assign target X.env u) (fun _ s' => ∃ σ' H',Inv X pins σ' H' s'/\Q σ' H') X.xe s
noncomputable def PGs (X:Cx) (ts:List Expr) (t:TGs):Prop:=
 ∀ (pins:List (Addr×Obj)) (s:Shared) (σ:St) (H:Hp) (vs:List V) (us:List Value) (Q:St->Hp->Prop),Inv X pins σ H s->bW vs us->t vs σ H Q ->
  aJ (model X.prog X.w) X.A (assignInOrder ((assignEach ts X.env).map (·.2)) us) (fun _ s' => ∃ σ' H',Inv X pins σ' H' s'/\Q σ' H') X.xe s
abbrev zS:=V->V->V->Hp->(Hp->Prop)->Prop
noncomputable def DZ (X:Cx) (t:zS):Prop:=
 ∀ (pins:List (Addr×Obj)) (s:Shared) (σ:St) (H:Hp) (o i v:V) (ov iv u:Value) (Q:Hp->Prop),Inv X pins σ H s->RelV o ov->RelV i iv->RelV v u->t o i v H Q ->
  aJ (model X.prog X.w) X.A (setItem ov iv u) (fun _ s' => ∃ H',Inv X pins σ H' s'/\Q H') X.xe s
abbrev TIp:=V->V->Hp->VK->Prop
noncomputable def PIp (X:Cx) (op:Operator) (t:TIp):Prop:=
 ∀ (pins:List (Addr×Obj)) (s:Shared) (σ:St) (H:Hp) (x y:V) (v u:Value) (Q:VK),Inv X pins σ H s->RelV x v->RelV y u->t x y H Q ->
  aJ (model X.prog X.w) X.A (inplaceOp op v u) (EP X pins σ Q) X.xe s
section
variable {X:Cx}{pos:Pos}
noncomputable def gS (i:Nat):TG:=fun v σ H Q=>Q (σ.set i (some v)) H
theorem wz {i:Nat}{x:Str} (hN:X.N.Nodup) (hi:X.N[i]? = some x) (hx:Loc X.env.scope x) (hf:X.fn x=true\/X.env.scope.names.lookup x=some .local:=by first | exact .inl rfl | exact .inr rfl | assumption):PG X (.Name x pos) (gS i):=by
 intro pins s σ H v u Q I r h
 exact uV (kh I hN hi hx r (fun s' I'=>⟨_,H,I',h⟩) hf)
noncomputable def Io:TGs:=fun vs σ H Q=>vs = []/\Q σ H
noncomputable def Da (t:TG) (u:TGs):TGs:=fun vs σ H Q => ∃ v r,vs=v::r/\t v σ H fun σ' H'=>u r σ' H' Q
theorem BR:PGs X [] Io:=by
 intro pins s σ H vs us Q I r h
 obtain⟨e,h⟩:=h
 subst e
 cases r
 exact assignInOrder_nil ⟨σ,H,I,h⟩
theorem AL {e:Expr}{es:List Expr}{t:TG}{u:TGs} (h1:PG X e t) (h2:PGs X es u)
  (hs:(assignEach (e::es) X.env).map (·.2)=assign e X.env::(assignEach es X.env).map (·.2):=by rfl):PGs X (e::es) (Da t u):=by
 intro pins s σ H vs us Q I r h
 obtain⟨v,vr,e1,h⟩:=h
 subst e1
 cases r with
 | cons r rr=>
   rw [hs]
   refine assignInOrder_cons (thn (h1 pins s σ H _ _ _ I r h) fun _ s1 ⟨σ1,H1,I1,q1⟩ => ?_)
   exact h2 pins s1 σ1 H1 _ _ Q I1 rr q1
noncomputable def Hk (K:ai) (n:Nat) (t:TGs):TG:=fun v σ H Q => ∃ a xs,v = .ref a/\SqT K H a xs/\xs.length=n/\t xs σ H Q
theorem Ee {es:List Expr}{k:Nat}{t:TGs}{n:Nat} (hc:X.calm=true) (h:PGs X es t)
  (hn:(assignEach es X.env).length=n:=by rfl) (hst:(assignEach es X.env).findIdx? (·.1)=none:=by rfl):PG X (.Tuple es k pos) (Hk X.K n t):=by
 intro pins s σ H v u Q I r hw
 obtain⟨a,xs,e1,hq,hl,hw⟩:=hw
 subst e1
 cases r
 obtain⟨its,rv,ht,hz⟩:=I.tuple hq
 refine assign_Tuple_tuple (I.ok.hd hc) ht (by simp [hn,<- hl,rv.length]) hst fun h' hx => ?_
 have I1:Inv X pins σ H { s with heap:=h' }:=I.kept (t':=s.toks) fun b o e=>hx b o (bg (aD e)) e
 exact h pins _ σ H xs _ Q I1 (by simpa using rv) hw
noncomputable def GY (to ti:TE) (t:zS):TG:=fun v σ H Q=>to σ H fun o H1=>ti σ H1 fun i H2=>t o i v H2 fun H3=>Q σ H3
theorem FI {o i:Expr}{to ti:TE}{t:zS} (ho:PE X o to) (hi:PE X i ti) (hs:DZ X t)
  (ha : ∀ v,assign (.Subscript o i pos) X.env v=(do
   let ov <- holding [v] (eval o X.env)
   let iv <- holding [v,ov] (eval i X.env)
   standAt pos
   holding [v,ov,iv] (setItem ov iv v)
   release [v,ov,iv] []):=by intro _;rfl):PG X (.Subscript o i pos) (GY to ti t):=by
 intro pins s σ H v u Q I r h
 rw [ha]
 refine aj (qY (thn (ho pins s σ H _ I h) fun ov s1 ⟨x,H1,I1,r1,q1⟩ => ?_))
 refine aj (qY (thn (hi pins s1 σ H1 _ I1 q1) fun iv s2 ⟨y,H2,I2,r2,q2⟩ => ?_))
 refine aj (wpAny_standAt (aj (qY (thn (hs pins s2 σ H2 x y v ov iv u _ I2 r1 r2 r q2) fun _ s3 ⟨H3,I3,q3⟩ => ?_))))
 exact wpAny_release ⟨σ,H3,I3,q3⟩
noncomputable def zT (te:TE) (g:TG):TS:=fun D σ H=>te σ H fun x H1=>g x σ H1 D.nx
theorem Em {tg e:Expr}{te:TE}{g:TG} (he:PE X e te) (hg:PG X tg g) (hs:swapsWithSole [tg] e pos.line X.env=pure false:=by rfl) (hw:swappedStores [tg] e X.env=pure none:=by rfl)
  (h1:(assignEach [tg] X.env).map (·.2) = [assign tg X.env]:=by rfl):PS X (.Assign [tg] e pos) (zT te g):=by
 intro pins s σ H D I h
 refine wpAny_Assign_stores (thn (he pins s σ H _ I h) fun v s1 ⟨x,H1,I1,r1,q1⟩ => ?_) hs hw
 rw [h1]
 exact thn (hg pins s1 σ H1 x v _ I1 r1 q1) fun _ s2 q=>q
theorem vU {i:Nat}{x:Str}{e:Expr}{te:TE}{pos':Pos} (hN:X.N.Nodup) (hi:X.N[i]? = some x) (hx:Loc X.env.scope x) (he:PE X e te) (hs:swapsWith e (some (.Name x pos')) pos.line X.env=pure false:=by rfl) (hf:X.fn x=true\/X.env.scope.names.lookup x=some .local:=by first | exact .inl rfl | exact .inr rfl | assumption) :
  PS X (.Assign [.Name x pos'] e pos) (zT te (gS i)):=by
 intro pins s σ H D I h
 refine wpAny_Assign_Name (thn (he pins s σ H _ I h) fun v s1 ⟨y,H1,I1,r1,q1⟩ => ?_) hs
 exact kh I1 hN hi hx r1 (fun s2 I2=>⟨_,H1,I2,q1⟩) hf
noncomputable def Jj (i:Nat) (te:TE) (ti:TIp):TS:=fun D σ H => ∃ x,σ[i]? = some (some x)/\te σ H fun y H1=>ti x y H1 fun z H2=>D.nx (σ.set i (some z)) H2
theorem DP {i:Nat}{x:Str}{e:Expr}{te:TE}{op:Operator}{ti:TIp}{pos':Pos} (hN:X.N.Nodup) (hi:X.N[i]? = some x) (hx:Loc X.env.scope x) (he:PE X e te) (ho:PIp X op ti) (hf:X.fn x=true\/X.env.scope.names.lookup x=some .local:=by first | exact .inl rfl | exact .inr rfl | assumption) :
  PS X (.AugAssign (.Name x pos') op e pos) (Jj i te ti):=by
 intro pins s σ H D I h
 obtain⟨v,e1,h⟩:=h
 obtain⟨m,hn,hl⟩:=I.loc
 have vis:Vis X.env.scope x:=by rcases hx with k | k;exact .inl k;exact .inr (.inl k)
 obtain⟨u,r,l⟩:=hl i x v hi e1 vis
 refine wpAny_AugAssign_Name ?_
 have go:aJ (model X.prog X.w) X.A (eval e X.env) (fun w s₂=>aJ (model X.prog X.w) X.A (inplaceOp op u w) (fun r s₃=>aJ (model X.prog X.w) X.A (storeName X.env x r) (fun _=>SP X pins D .next) X.xe s₃) X.xe s₂) X.xe s:=by
  refine thn (he pins s σ H _ I h) fun w s1 ⟨y,H1,I1,r1,q1⟩ => ?_
  refine thn (ho pins s1 σ H1 v y u w _ I1 r r1 q1) fun z s2 ⟨zv,H2,I2,r2,q2⟩ => ?_
  exact kh I2 hN hi hx r2 (fun s3 I3=>⟨_,H2,I3,q2⟩) hf
 rcases l with⟨hk,hm⟩ | ⟨hk,c,hc,hcell⟩
 ·exact wpAny_loadName_local I.ok.kind hk hn hm go
 ·rcases hk with hk | hk
  ·exact wpAny_loadName_cell I.ok.kind hk hc hcell go
  ·rcases hx with k | k
   ·have:X.env.scope.names.lookup x=some .free:=hk
    rw [k] at this;cases this
   ·have:X.env.scope.names.lookup x=some .free:=hk
    rw [k] at this;cases this
noncomputable def ipI (f:Int->Int->Int):TIp:=fun x y H Q => ∃ i j,x = .int i/\y = .int j/\Q (.int (f i j)) H
theorem Gq:PIp X .Add (ipI fun i j=>i+j):=by
 intro pins s σ H x y v u Q I r1 r2 h
 obtain⟨i,j,e1,e2,q⟩:=h
 subst e1;subst e2
 obtain⟨t,rfl⟩:=r1
 obtain⟨t',rfl⟩:=r2
 exact iadd_int ⟨.int _,H,I.tok _,⟨_,rfl⟩,q⟩
end
section
variable {X:Cx}{pos:Pos}
noncomputable def zA (c:TT) (tb:TS):TS:=fun D σ H => ∃ W:Nat->St->Hp->Prop,(∃ m,W m σ H) /\ ∀ m σ H,W m σ H ->
 c σ H fun b H1=>if b=true then ∃ N:St->Hp->Prop,(∀ σ' H',N σ' H' -> ∃ m',m' < m/\W m' σ' H')/\tb { D with nx:=N,ct:=N,bk:=D.nx } σ H1 else D.nx σ H1
theorem AN {c:Expr}{body:List Stmt}{tc:TT}{tb:TS} (hp:PassesOwn (model X.prog X.w) X.A X.env X.xe) (hc:PT X c tc) (hb:PSs X body tb):PS X (.While c body [] pos) (zA tc tb):=by
 intro pins s σ H D I h
 obtain⟨W,⟨m0,w0⟩,turn⟩:=h
 refine wpAny_While (codeAny_whileLoop (fun n s' => ∃ σ' H',Inv X pins σ' H' s'/\W n σ' H') ?_ m0 ⟨σ,H,I,w0⟩)
 rintro n s1 ⟨σ1,H1,I1,w1⟩
 refine fo hp (thn (hc pins s1 σ1 H1 _ I1 (turn n σ1 H1 w1)) fun b s2 ⟨H2,I2,q2⟩ => ?_)
 cases b with
 | true=>
   obtain⟨N,hN,q2⟩:=q2
   rw [if_pos rfl]
   refine fo hp (thn (hb pins s2 σ1 H2 _ I2 q2) fun f s3 q3 => ?_)
   cases f with
   | next=>
     obtain⟨σ3,H3,I3,n3⟩:=q3
     obtain⟨m',hm,w3⟩:=hN σ3 H3 n3
     exact⟨m',hm,σ3,H3,I3,w3⟩
   | cont=>
     obtain⟨σ3,H3,I3,n3⟩:=q3
     obtain⟨m',hm,w3⟩:=hN σ3 H3 n3
     exact⟨m',hm,σ3,H3,I3,w3⟩
   | brk=>exact q3
   | ret v=>exact q3
 | false=>
   rw [if_neg bG]
   exact gI ⟨σ1,H2,I2,q2⟩
end
structure It where
 go:Nat->Hp->Prop
 yld:Nat->Hp->V->Hp->Prop
 stop:Nat->Hp->Prop
noncomputable def pP (X:Cx) (pins:List (Addr×Obj)) (H:Hp) (b:Addr):Prop:=
 H b=none/\b≠X.env.locals/\b∉X.fs/\(b∈X.ex\/X.s₀.heap.objs.size<=b)/\(∀ x c,X.env.cells.lookup x=some c->c≠b) /\ ∀ p∈X.pn++pins,p.1≠b
theorem Inv.fpOk {X:Cx}{pins:List (Addr×Obj)}{σ:St}{H H':Hp}{s:Shared}{b:Addr} (I:Inv X pins σ H s) (hb:s.heap.objs.size<=b) (hn:H' b=none):pP X pins H' b:=by
 refine⟨hn,bY (ah I.lt hb),I.nofs hb,.inr (aK I.sz hb),fun x c e z => ?_,fun p hp z => ?_⟩
 ·obtain⟨v,q⟩:=I.cell x c e
  exact absurd (ah q.lt (by rw [z];exact hb)) (bB _)
 ·exact absurd (ah (aD (I.pin p hp).1) (by rw [z];exact hb)) (bB _)
structure Turn (P:Program) (w:World) (K:ai) (tg:Expr) (J:It) (fp:List Addr) (it:Addr) (tn:Nat->Heap->Prop):Prop where
 mem:it∈fp
 obj : ∀ i h,tn i h -> ∀ b∈fp,∃ o,h.get? b=some o /\ ∀ v,o.data ≠ .cell v
 keep : ∀ i h h',tn i h->(∀ b∈fp,∀ o,h.get? b=some o->h'.get? b=some o)->tn i h'
 item : ∀ (X:Cx),X.prog=P->X.w=w->X.K=K->X.calm=true -> ∀ (i:Nat) (pins:List (Addr×Obj)) (s:Shared) (σ:St) (H:Hp) (E:Value->Shared->Prop),Inv X pins σ H s->(∀ b∈fp,pP X pins H b)->tn i s.heap->J.go i H ->
  aJ (model P w) X.A (pyNext (.ref it)) (fun r s1 => ∃ u,r=some u /\
   aJ (model P w) X.A (letOwnedTupleGo tg (.ref it) u) (fun _ s2 => ∃ x H',Inv X pins σ H' s2/\RelV x u/\J.yld i H x H'/\tn (i+1) s2.heap /\ ∀ b∈fp,H' b=none) E s1) E s
 done : ∀ (X:Cx),X.prog=P->X.w=w->X.K=K->X.calm=true -> ∀ (i:Nat) (pins:List (Addr×Obj)) (s:Shared) (σ:St) (H:Hp) (E:Value->Shared->Prop),Inv X pins σ H s->(∀ b∈fp,pP X pins H b)->tn i s.heap->J.stop i H ->
  aJ (model P w) X.A (pyNext (.ref it)) (fun r s1=>r=none/\Inv X pins σ H s1) E s
 self : ∀ (A:Around) (i:Nat) (s:Shared) (Q:Value->Shared->Prop) (E:Value->Shared->Prop),tn i s.heap->Q (.ref it) s->aJ (model P w) A (pyIter (.ref it)) Q E s
abbrev TI:=St->Hp->(It->Hp->Prop)->Prop
noncomputable def PIE (X:Cx) (pins:List (Addr×Obj)) (σ:St) (tg:Expr) (R:It->Hp->Prop) (itv:Value) (s2:Shared):Prop:=
 ∃ (it:Addr) (fp:List Addr) (tn:Nat->Heap->Prop) (J:It) (H':Hp),itv = .ref it/\Inv X pins σ H' s2/\Turn X.prog X.w X.K tg J fp it tn/\tn 0 s2.heap/\(∀ b∈fp,pP X pins H' b)/\R J H'
noncomputable def PI (X:Cx) (tg iter:Expr) (wi:TI):Prop:=
 ∀ (pins:List (Addr×Obj)) (s:Shared) (σ:St) (H:Hp) (R:It->Hp->Prop),Inv X pins σ H s->wi σ H R ->
  aJ (model X.prog X.w) X.A (eval iter X.env) (fun v s1=>aJ (model X.prog X.w) X.A (pyIter v) (PIE X pins σ tg R) X.xe s1) X.xe s
theorem wX {M:Model}{A:Around}{E:Value->Shared->Prop}{s:Shared}{tg:Expr}{it:Addr}{u:Value}{o:Obj}{n:String}{vs:Array Value}{Q:Unit->Shared->Prop} (ho:s.heap.get? it=some o) (hc:o.cls = .type n) (hd:o.data = .fields vs)
  (hn : ["enumerate","zip","dict_itemiterator","dict_reverseitemiterator","odict_iterator","itertools.zip_longest","itertools.pairwise"].contains n=false) (hQ:Q () s):aJ M A (letOwnedTupleGo tg (.ref it) u) Q E s:=by
 unfold letOwnedTupleGo
 cases tg <;> first
  | exact bc hQ
  | (cases u <;> first
    | exact bc hQ
    | (refine aj (wpAny_load ho ?_)
       rw [hc,hd]
       show aJ M A (if (["enumerate","zip","dict_itemiterator","dict_reverseitemiterator","odict_iterator","itertools.zip_longest","itertools.pairwise"].contains n&&vs[0]? == some (rawInt _))=true then _ else _) Q E s
       rw [if_neg (by intro h;rw [hn,Bool.false_and] at h;cases h)]
       exact bc hQ))
noncomputable def Itl (K:ai) (a:Addr):It:=
 ⟨fun i H => ∃ xs x,SqL K H a xs/\xs[i]? = some x,fun i H x H'=>H'=H /\ ∀ xs,SqL K H a xs->xs[i]? = some x,fun i H => ∃ xs,SqL K H a xs/\xs.length<=i⟩
noncomputable def Itt (K:ai) (a:Addr):It:=
 ⟨fun i H => ∃ xs x,SqT K H a xs/\xs[i]? = some x,fun i H x H'=>H'=H /\ ∀ xs,SqT K H a xs->xs[i]? = some x,fun i H => ∃ xs,SqT K H a xs/\xs.length<=i⟩
noncomputable def Itr (lo:Int) (n:Nat):It:=⟨fun i _=>i < n,fun i H x H'=>H'=H/\x = .int (lo+i),fun i _=>n<=i⟩
theorem yn {P:Program}{w:World}{K:ai}{tg:Expr} (a it:Addr):Turn P w K tg (Itl K a) [it] it (fun i h=>h.IsListIter it a i) where
 mem:=by simp
 obj:=fun i h st b hb=>by
  have e:b=it:=by simpa using hb
  subst e
  obtain⟨o,e,c,d⟩:=st
  exact⟨o,e,fun v z=>by rw [d] at z;cases z⟩
 keep:=fun i h h' st k=>st.at fun o e=>k it (by simp) o e
 item:=by
  intro X hP hw hK hc i pins s σ H E I hf st hg
  subst hP hw hK
  obtain⟨xs,x,hq,hx⟩:=hg
  obtain⟨its,rv,p,hz⟩:=I.list hq
  obtain⟨u,hu,ru⟩:=rv.get hx
  obtain⟨f0,f1,f2,f3,f4,f5⟩:=hf it (by simp)
  refine wpAny_pyNext_list_item st p.isList (x:=u) (by simpa using hu) fun h' st' sb => ?_
  have I1:Inv X pins σ H { s with heap:=h' }:=I.turned (t':=s.toks) (fun b o hb e=>(sb.2 b hb).trans e) f0 f1 f3 f4 f5
  obtain⟨o,e,c,d⟩:=id st'
  exact⟨u,rfl,wX (s:={ s with heap:=h' }) e c d (by decide) ⟨x,H,I1,ru,⟨rfl,fun ys hy=>by rw [I.list_inj hy hq];exact hx⟩,st',fun b hb=>(hf b hb).1⟩⟩
 done:=by
  intro X hP hw hK hc i pins s σ H E I hf st hg
  subst hP hw hK
  obtain⟨xs,hq,hx⟩:=hg
  obtain⟨its,rv,p,hz⟩:=I.list hq
  obtain⟨f0,f1,f2,f3,f4,f5⟩:=hf it (by simp)
  have hl:=rv.length
  exact wpAny_pyNext_list_end (I.ok.hd hc) st p.isList (by simp;omega) fun h' eb=>⟨rfl,I.turned (t':=s.toks) (fun b o hb e=>eb b o hb e) f0 f1 f3 f4 f5⟩
 self:=fun _ _ _ _ _ st h=>wpAny_pyIter_listiter st h
theorem vh {P:Program}{w:World}{K:ai}{tg:Expr} (a it:Addr):Turn P w K tg (Itt K a) [it] it (fun i h=>h.IsTupleIter it a i) where
 mem:=by simp
 obj:=fun i h st b hb=>by
  have e:b=it:=by simpa using hb
  subst e
  obtain⟨o,e,c,d⟩:=st
  exact⟨o,e,fun v z=>by rw [d] at z;cases z⟩
 keep:=fun i h h' st k=>st.at fun o e=>k it (by simp) o e
 item:=by
  intro X hP hw hK hc i pins s σ H E I hf st hg
  subst hP hw hK
  obtain⟨xs,x,hq,hx⟩:=hg
  obtain⟨its,rv,p,hz⟩:=I.tuple hq
  obtain⟨u,hu,ru⟩:=rv.get hx
  obtain⟨f0,f1,f2,f3,f4,f5⟩:=hf it (by simp)
  refine wpAny_pyNext_tuple_item st (show s.heap.IsTuple a its.toArray from p) (x:=u) (by simpa using hu) fun h' st' sb => ?_
  have I1:Inv X pins σ H { s with heap:=h' }:=I.turned (t':=s.toks) (fun b o hb e=>(sb.2 b hb).trans e) f0 f1 f3 f4 f5
  obtain⟨o,e,c,d⟩:=id st'
  exact⟨u,rfl,wX (s:={ s with heap:=h' }) e c d (by decide) ⟨x,H,I1,ru,⟨rfl,fun ys hy=>by rw [I.tuple_inj hy hq];exact hx⟩,st',fun b hb=>(hf b hb).1⟩⟩
 done:=by
  intro X hP hw hK hc i pins s σ H E I hf st hg
  subst hP hw hK
  obtain⟨xs,hq,hx⟩:=hg
  obtain⟨its,rv,p,hz⟩:=I.tuple hq
  obtain⟨f0,f1,f2,f3,f4,f5⟩:=hf it (by simp)
  have hl:=rv.length
  exact wpAny_pyNext_tuple_end (I.ok.hd hc) st (show s.heap.IsTuple a its.toArray from p) (by simp;omega) fun h' eb=>⟨rfl,I.turned (t':=s.toks) (fun b o hb e=>eb b o hb e) f0 f1 f3 f4 f5⟩
 self:=fun _ _ _ _ _ st h=>wpAny_pyIter_tupleiter st h
theorem vK {P:Program}{w:World}{K:ai}{tg:Expr} (it:Addr) (lo:Int) (n:Nat):Turn P w K tg (Itr lo n) [it] it (fun i h=>IsRangeIter h it (lo+(i:Nat)*1) ((n:Int) - (i:Nat)) 1) where
 mem:=by simp
 obj:=fun i h st b hb=>by
  have e:b=it:=by simpa using hb
  subst e
  exact⟨_,st,fun v z=>by
   have z':A6 _=Data.cell v:=z
   cases z'⟩
 keep:=fun i h h' st k=>k it (by simp) _ st
 item:=by
  intro X hP hw hK hc i pins s σ H E I hf st hg
  subst hP hw hK
  obtain⟨f0,f1,f2,f3,f4,f5⟩:=hf it (by simp)
  have W:=Walks.range (prog:=X.prog) (w:=X.w) (I.ok.hd hc) it lo 1 n
  refine W.item i s _ _ hg st fun v h' tk hv st' kk => ?_
  obtain⟨t,rfl⟩:=hv
  have I1:Inv X pins σ H { s with heap:=h',toks:=tk }:=I.turned (fun b o hb e=>kk b o (by simpa using hb) e) f0 f1 f3 f4 f5
  refine⟨_,rfl,wX (s:={ s with heap:=h',toks:=tk }) (n:="range_iterator") st' rfl rfl (by decide) ⟨.int (lo+i),H,I1,⟨t,?_⟩,⟨rfl,rfl⟩,st',fun b hb=>(hf b hb).1⟩⟩
  rw [Int.mul_one]
 done:=by
  intro X hP hw hK hc i pins s σ H E I hf st hg
  subst hP hw hK
  obtain⟨f0,f1,f2,f3,f4,f5⟩:=hf it (by simp)
  exact wpAny_pyNext_range_end (I.ok.hd hc) st (by have:n<=i:=hg;omega) fun h' eb=>⟨rfl,I.turned (t':=s.toks) (fun b o hb e=>eb b o hb e) f0 f1 f3 f4 f5⟩
 self:=fun _ _ _ _ _ st h=>wpAny_pyIter_rangeiter st h
end L2
namespace L2
open PySem PySem.Spec PyProof.Rows
section
variable {X:Cx}{tg:Expr}
noncomputable def tU (K:ai) (tl:TE):TI:=fun σ H R=>tl σ H fun x H1 => ∃ a,x = .ref a/\(∃ xs,SqL K H1 a xs)/\R (Itl K a) H1
noncomputable def zx (K:ai) (tl:TE):TI:=fun σ H R=>tl σ H fun x H1 => ∃ a,x = .ref a/\(∃ xs,SqT K H1 a xs)/\R (Itt K a) H1
theorem Bg {l:Expr}{tl:TE} (hl:PE X l tl):PI X tg l (tU X.K tl):=by
 intro pins s σ H R I h
 refine thn (hl pins s σ H _ I h) fun v s1 ⟨x,H1,I1,r1,q1⟩ => ?_
 obtain⟨a,e,⟨xs,hq⟩,q⟩:=q1
 subst e
 cases r1
 obtain⟨its,rv,p,hz⟩:=I1.list hq
 refine wpAny_pyIter_list p.isList ?_
 refine⟨s1.heap.objs.size,[s1.heap.objs.size],_,_,H1,rfl,I1.kept (t':=s1.toks) fun b o e=>ar _ e,yn a _,⟨_,aF _ rfl,rfl,rfl⟩,fun b hb => ?_,q⟩
 have e:b=s1.heap.objs.size:=by simpa using hb
 subst e
 exact I1.fpOk (ak _) (I1.hok.fresh (ak _))
theorem ES {l:Expr}{tl:TE} (hl:PE X l tl):PI X tg l (zx X.K tl):=by
 intro pins s σ H R I h
 refine thn (hl pins s σ H _ I h) fun v s1 ⟨x,H1,I1,r1,q1⟩ => ?_
 obtain⟨a,e,⟨xs,hq⟩,q⟩:=q1
 subst e
 cases r1
 obtain⟨its,rv,p,hz⟩:=I1.tuple hq
 refine sv (show s1.heap.IsTuple a its.toArray from p) ?_
 refine⟨s1.heap.objs.size,[s1.heap.objs.size],_,_,H1,rfl,I1.kept (t':=s1.toks) fun b o e=>ar _ e,vh a _,⟨_,aF _ rfl,rfl,rfl⟩,fun b hb => ?_,q⟩
 have e:b=s1.heap.objs.size:=by simpa using hb
 subst e
 exact I1.fpOk (ak _) (I1.hok.fresh (ak _))
theorem tL {pins:List (Addr×Obj)}{σ:St}{H:Hp}{s:Shared}{R:It->Hp->Prop}{E:Value->Shared->Prop}{lo hi:Int}{t u v:Tok}{tk:Nat} (I:Inv X pins σ H s) (h1 : -(2 ^ 62)<=lo) (h2:lo < 2 ^ 62) (h3 : -(2 ^ 62)<=hi) (h4:hi < 2 ^ 62)
  (q:R (Itr lo (hi - lo).toNat) H):aJ (model X.prog X.w) X.A (pyIter (.ref s.heap.objs.size)) (PIE X pins σ tg R) E { s with heap:=s.heap.push { cls := .type "range",data := .fields #[.int lo t,.int hi u,.int 1 v] },toks:=tk }:=by
 refine wpAny_pyIter_range (IsRange.new ..) (small_one h1 h2 h3 h4) ?_
 have I1:Inv X pins σ H { s with heap:=s.heap.push { cls := .type "range",data := .fields #[.int lo t,.int hi u,.int 1 v] },toks:=tk }:=I.kept fun b o e=>ar _ e
 refine⟨(s.heap.push { cls := .type "range",data := .fields #[.int lo t,.int hi u,.int 1 v] }).objs.size,[(s.heap.push { cls := .type "range",data := .fields #[.int lo t,.int hi u,.int 1 v] }).objs.size],_,_,H,rfl,
  I1.kept (t':=tk) fun b o e=>ar _ e,vK _ lo (hi - lo).toNat,?_,fun b hb => ?_,q⟩
 ·have e1:lo+((0:Nat):Int)*1=lo:=by simp
  have e2:(((hi - lo).toNat:Nat):Int) - ((0:Nat):Int)=pJ lo hi 1:=by rw [rangeSize_one];split <;> omega
  show IsRangeIter _ _ (lo+((0:Nat):Int)*1) ((((hi - lo).toNat:Nat):Int) - ((0:Nat):Int)) 1
  rw [e1,e2]
  exact aF _ rfl
 ·have e:b=(s.heap.push { cls := .type "range",data := .fields #[.int lo t,.int hi u,.int 1 v] }).objs.size:=by simpa using hb
  subst e
  exact I1.fpOk (ak _) (I1.hok.fresh (ak _))
noncomputable def uB (ta:TA):TI:=fun σ H R=>ta σ H fun vs H1 => ∃ j:Int,vs = [.int j] /\ -(2 ^ 62)<=j/\j < 2 ^ 62/\R (Itr 0 j.toNat) H1
noncomputable def uN (ta:TA):TI:=fun σ H R=>ta σ H fun vs H1 => ∃ i j:Int,vs = [.int i,.int j]/\(-(2 ^ 62)<=i/\i < 2 ^ 62 /\ -(2 ^ 62)<=j/\j < 2 ^ 62)/\R (Itr i (j - i).toNat) H1
theorem yE {a:Expr}{ta:TA}{p pos:Pos} (hg:Gl X "range") (hm:X.mg "range"=none) (ha:PA X [a] ta) (hs:starEach [a] X.env = [(false,eval a X.env)]:=by rfl):PI X tg (.Call (.Name "range" p) [a] [] pos) (uB ta):=by
 intro pins s σ H R I h
 refine Call_ (iP I hg hm boot_range (bZ (thn (ha pos pins s σ H _ I h) fun us s1 ⟨vs,H1,I1,r1,q1⟩ => ?_) hs rfl))
 obtain⟨j,e,q1,q2,q⟩:=q1
 subst e
 cases r1 with
 | cons r rr=>
   cases rr
   obtain⟨t,rfl⟩:=r
   exact call_range_1 (tL I1 (by omega) (by omega) q1 q2 (by simpa using q))
theorem ya {a b:Expr}{ta:TA}{p pos:Pos} (hg:Gl X "range") (hm:X.mg "range"=none) (ha:PA X [a,b] ta) (hs:starEach [a,b] X.env = [(false,eval a X.env),(false,eval b X.env)]:=by rfl) (hs2:starEach [b] X.env = [(false,eval b X.env)]:=by rfl) :
  PI X tg (.Call (.Name "range" p) [a,b] [] pos) (uN ta):=by
 intro pins s σ H R I h
 refine Call_ (iP I hg hm boot_range (bZ (thn (ha pos pins s σ H _ I h) fun us s1 ⟨vs,H1,I1,r1,q1⟩ => ?_) (by rw [hs,hs2]) (by rw [hs2];rfl)))
 obtain⟨i,j,e,⟨q1,q2,q3,q4⟩,q⟩:=q1
 subst e
 cases r1 with
 | cons r rr=>
   cases rr with
   | cons r' rr=>
     cases rr
     obtain⟨t,rfl⟩:=r
     obtain⟨t',rfl⟩:=r'
     exact call_range_2 (tL I1 q1 q2 q3 q4 q)
noncomputable def rZ (wi:TI) (g:TG) (tb:TS):TS:=fun D σ H=>wi σ H fun J H1 => ∃ W:Nat->Nat->St->Hp->Prop,(∃ m,W 0 m σ H1) /\ ∀ i m σ H,W i m σ H ->
 (J.stop i H/\D.nx σ H)\/(J.go i H /\ ∃ N:St->Hp->Prop,(∀ σ' H',N σ' H' -> ∃ m',m' < m/\W (i+1) m' σ' H') /\ ∀ x H',J.yld i H x H'->g x σ H' fun σ2 H2=>tb { D with nx:=N,ct:=N,bk:=D.nx } σ2 H2)
noncomputable def pq (fp:List Addr) (h:Heap):List (Addr×Obj):=fp.filterMap fun b=>(h.get? b).map fun o=>(b,o)
theorem jr {fp:List Addr}{h:Heap}{b:Addr}{o:Obj} (hb:b∈fp) (e:h.get? b=some o):(b,o)∈pq fp h:=List.mem_filterMap.mpr ⟨b,hb,by rw [e];rfl⟩
theorem yb {fp:List Addr}{h:Heap}{p:Addr×Obj} (hp:p∈pq fp h):p.1∈fp/\h.get? p.1=some p.2:=by
 obtain⟨b,hb,e⟩:=List.mem_filterMap.mp hp
 cases q:h.get? b with
 | none=>rw [q] at e;cases e
 | some o=>
   rw [q] at e
   have e':(b,o)=p:=bu e
   subst e'
   exact⟨hb,q⟩
theorem Inv.pinned {pins:List (Addr×Obj)}{σ:St}{H:Hp}{s:Shared}{fp:List Addr} (I:Inv X pins σ H s) (hf : ∀ b∈fp,pP X pins H b) (ho : ∀ b∈fp,∃ o,s.heap.get? b=some o /\ ∀ v,o.data ≠ .cell v):Inv X (pins++pq fp s.heap) σ H s:=
 I.pins_of fun p hp=>(iK.mp hp).elim (fun z=>I.pin p (aT _ z)) fun z=>by
  obtain⟨hb,e⟩:=yb z
  obtain⟨f0,f1,f2,_⟩:=hf p.1 hb
  obtain⟨o,e',d⟩:=ho p.1 hb
  rw [e] at e';cases e'
  exact⟨e,f0,f1,f2,d⟩
theorem Inv.unpinned {pins pl:List (Addr×Obj)}{σ:St}{H:Hp}{s:Shared} (I:Inv X (pins++pl) σ H s):Inv X pins σ H s:=I.pins_of fun p hp=>I.pin p (aT _ (cP _ hp))
theorem A1 {iter:Expr}{body:List Stmt}{wi:TI}{g:TG}{tb:TS}{pos:Pos} (hp:PassesOwn (model X.prog X.w) X.A X.env X.xe) (hc:X.calm=true) (hi:PI X tg iter wi) (hg:PG X tg g) (hb:PSs X body tb)
  (hs : ∀ x,foldedSetIterable iter X.env x=pure x:=by intro _;rfl):PS X (.For tg iter body [] pos) (rZ wi g tb):=by
 intro pins s σ H D I h
 refine wpAny_For (thn (hi pins s σ H _ I h) fun v s1 h1=>thn h1 fun itv s2 h2 => ?_) hs
 obtain⟨it,fp,tn,J,H2,e,I2,T,st2,f2,W,⟨m0,w0⟩,turn⟩:=h2
 subst e
 have stat : ∀ {H':Hp},(∀ b∈fp,H' b=none) -> ∀ b∈fp,pP X pins H' b:=fun hn b hb=>⟨hn b hb,(f2 b hb).2⟩
 refine codeAny_forLoop_any (fun n s' => ∃ i σ' H',Inv X pins σ' H' s'/\tn i s'.heap/\(∀ b∈fp,H' b=none)/\W i n σ' H') ?_ m0 ⟨0,σ,H2,I2,st2,fun b hb=>(f2 b hb).1,w0⟩
 rintro n s3 ⟨i,σ3,H3,I3,st3,fr3,w3⟩
 rcases turn i n σ3 H3 w3 with⟨stop,qn⟩ | ⟨go,N,hN,step⟩
 ·refine fo hp (thn (T.done X rfl rfl rfl hc i pins s3 σ3 H3 X.xe I3 (stat fr3) st3 stop) fun r s4 ⟨hr,I4⟩ => ?_)
  subst hr
  exact gI ⟨σ3,H3,I4,qn⟩
 ·refine fo hp (thn (T.item X rfl rfl rfl hc i pins s3 σ3 H3 X.xe I3 (stat fr3) st3 go) fun r s4 ⟨u,hr,h4⟩ => ?_)
  subst hr
  refine fo hp (thn h4 fun _ s5 ⟨x,H5,I5,r5,y5,st5,fr5⟩ => ?_)
  have I5':=I5.pinned (stat fr5) (T.obj _ _ st5)
  refine fo hp (thn (hg _ s5 σ3 H5 x u _ I5' r5 (step x H5 y5)) fun _ s6 ⟨σ6,H6,I6,q6⟩ => ?_)
  refine fo hp (thn (hb _ s6 σ6 H6 _ I6 q6) fun f s7 q7 => ?_)
  have again : ∀ {σ7:St}{H7:Hp},Inv X (pins++pq fp s5.heap) σ7 H7 s7->N σ7 H7 -> ∃ m,m < n /\ ∃ i σ' H',Inv X pins σ' H' s7/\tn i s7.heap/\(∀ b∈fp,H' b=none)/\W i m σ' H':=fun {σ7 H7} I7 n7=>by
   obtain⟨m',hm,w7⟩:=hN σ7 H7 n7
   refine⟨m',hm,i+1,σ7,H7,I7.unpinned,T.keep _ _ _ st5 fun b hb o e=>(I7.pin (b,o) (aT _ (aT _ (jr hb e)))).1,fun b hb => ?_,w7⟩
   obtain⟨o,e,d⟩:=T.obj _ _ st5 b hb
   exact (I7.pin (b,o) (aT _ (aT _ (jr hb e)))).2.1
  cases f with
  | next=>obtain⟨σ7,H7,I7,n7⟩:=q7;exact again I7 n7
  | cont=>obtain⟨σ7,H7,I7,n7⟩:=q7;exact again I7 n7
  | brk=>obtain⟨σ7,H7,I7,q7⟩:=q7;exact⟨σ7,H7,I7.unpinned,q7⟩
  | ret v=>obtain⟨x7,σ7,H7,I7,r7,q7⟩:=q7;exact⟨x7,σ7,H7,I7.unpinned,r7,q7⟩
end
theorem Cp {K:ai}{a:Addr}{xs:List V}{g:TG}{tb:TS}{D:Ends}{σ:St}{H:Hp} (Pv:Nat->St->Hp->Prop) (h0:Pv 0 σ H) (hl : ∀ i σ H,i<=xs.length->Pv i σ H->SqT K H a xs)
  (hs : ∀ i x σ H,xs[i]? = some x->Pv i σ H->g x σ H fun σ2 H2=>tb { D with nx:=Pv (i+1),ct:=Pv (i+1),bk:=D.nx } σ2 H2) (hd : ∀ σ H,Pv xs.length σ H->D.nx σ H) :
  ∃ W:Nat->Nat->St->Hp->Prop,(∃ m,W 0 m σ H) /\ ∀ i m σ H,W i m σ H ->
   ((Itt K a).stop i H/\D.nx σ H)\/((Itt K a).go i H /\ ∃ N:St->Hp->Prop,(∀ σ' H',N σ' H' -> ∃ m',m' < m/\W (i+1) m' σ' H') /\ ∀ x H',(Itt K a).yld i H x H'->g x σ H' fun σ2 H2=>tb { D with nx:=N,ct:=N,bk:=D.nx } σ2 H2):=by
 refine⟨fun i m σ H=>m=xs.length - i/\i<=xs.length/\Pv i σ H,⟨xs.length,by simp,eA _,h0⟩,?_⟩
 rintro i m σ H ⟨rfl,hi,p⟩
 have q:=hl i σ H hi p
 by_cases hlt:i < xs.length
 ·refine .inr ⟨⟨xs,xs[i],q,by simp [hlt]⟩,Pv (i+1),fun σ' H' p'=>⟨xs.length - (i+1),by omega,rfl,hlt,p'⟩,fun x H' y => ?_⟩
  obtain⟨e,y⟩:=y
  subst e
  exact hs i x σ _ (y xs q) p
 ·have e:i=xs.length:=by omega
  subst e
  exact .inl ⟨⟨xs,q,ak _⟩,hd σ H p⟩
theorem yz {lo:Int}{n:Nat}{g:TG}{tb:TS}{D:Ends}{σ:St}{H:Hp} (Pv:Nat->St->Hp->Prop) (h0:Pv 0 σ H)
  (hs : ∀ i σ H,i < n->Pv i σ H->g (.int (lo+i)) σ H fun σ2 H2=>tb { D with nx:=Pv (i+1),ct:=Pv (i+1),bk:=D.nx } σ2 H2) (hd : ∀ σ H,Pv n σ H->D.nx σ H) :
  ∃ W:Nat->Nat->St->Hp->Prop,(∃ m,W 0 m σ H) /\ ∀ i m σ H,W i m σ H ->
   ((Itr lo n).stop i H/\D.nx σ H)\/((Itr lo n).go i H /\ ∃ N:St->Hp->Prop,(∀ σ' H',N σ' H' -> ∃ m',m' < m/\W (i+1) m' σ' H') /\ ∀ x H',(Itr lo n).yld i H x H'->g x σ H' fun σ2 H2=>tb { D with nx:=N,ct:=N,bk:=D.nx } σ2 H2):=by
 refine⟨fun i m σ H=>m=n - i/\i<=n/\Pv i σ H,⟨n,by simp,eA _,h0⟩,?_⟩
 rintro i m σ H ⟨rfl,hi,p⟩
 by_cases hlt:i < n
 ·refine .inr ⟨hlt,Pv (i+1),fun σ' H' p'=>⟨n - (i+1),by omega,rfl,hlt,p'⟩,fun x H' y => ?_⟩
  obtain⟨e,y⟩:=y
  subst e y
  exact hs i σ _ hlt p
 ·have e:i=n:=by omega
  subst e
  exact .inl ⟨ak _,hd σ H p⟩
end L2
namespace L2
open PySem PySem.Spec PyProof.Rows
abbrev R2:=V->V->Hp->VK->Prop
noncomputable def OpR (X:Cx) (f:Value->Value->Sem Value) (r:R2):Prop:=
 ∀ (pins:List (Addr×Obj)) (s:Shared) (σ:St) (H:Hp) (x y:V) (v u:Value) (Q:VK),Inv X pins σ H s->RelV x v->RelV y u->r x y H Q ->
  aJ (model X.prog X.w) X.A (f v u) (EP X pins σ Q) X.xe s
noncomputable def UnR (X:Cx) (f:Value->Sem Value) (r:V->Hp->VK->Prop):Prop:=
 ∀ (pins:List (Addr×Obj)) (s:Shared) (σ:St) (H:Hp) (x:V) (v:Value) (Q:VK),Inv X pins σ H s->RelV x v->r x H Q ->
  aJ (model X.prog X.w) X.A (f v) (EP X pins σ Q) X.xe s
noncomputable def gz (X:Cx) (f:Value) (r:List V->Hp->VK->Prop):Prop:=
 ∀ (pins:List (Addr×Obj)) (s:Shared) (σ:St) (H:Hp) (xs:List V) (us:List Value) (Q:VK),Inv X pins σ H s->bW xs us->r xs H Q ->
  aJ (model X.prog X.w) X.A (call f us) (EP X pins σ Q) X.xe s
noncomputable def tOp (r:R2) (ta tb:TE):TE:=fun σ H Q=>ta σ H fun x H1=>tb σ H1 fun y H2=>r x y H2 Q
noncomputable def tUn (r:V->Hp->VK->Prop) (ta:TE):TE:=fun σ H Q=>ta σ H fun x H1=>r x H1 Q
noncomputable def rI (C:Int->Int->Prop) (g:Int->Int->V):R2:=fun x y H Q => ∃ i j,x = .int i/\y = .int j/\C i j/\Q (g i j) H
noncomputable def rI0 (g:Int->Int->V):R2:=fun x y H Q => ∃ i j,x = .int i/\y = .int j/\Q (g i j) H
noncomputable def rU (g:Int->V):V->Hp->VK->Prop:=fun x H Q => ∃ i,x = .int i/\Q (g i) H
section
variable {X:Cx}{a b c:Expr}{ta tb tc:TE}{pos:Pos}
theorem FU (ha:PE X a ta) (hb:PE X b tb) {pins:List (Addr×Obj)}{s:Shared}{σ:St}{H:Hp}{R:V->V->Hp->Prop} (I:Inv X pins σ H s)
  (h:ta σ H fun x H1=>tb σ H1 fun y H2=>R x y H2) {Q:Value->Shared->Prop}{f:Value->Value->Sem Value}
  (hf : ∀ v u s2 x y H2,Inv X pins σ H2 s2->RelV x v->RelV y u->R x y H2->aJ (model X.prog X.w) X.A (f v u) Q X.xe s2) :
  aJ (model X.prog X.w) X.A (eval a X.env) (fun v s₁=>aJ (model X.prog X.w) X.A (eval b X.env) (fun u s₂=>aJ (model X.prog X.w) X.A (f v u) Q X.xe s₂) X.xe s₁) X.xe s:=by
 refine thn (ha pins s σ H _ I h) fun v s1 ⟨x,H1,I1,r1,q1⟩ => ?_
 refine thn (hb pins s1 σ H1 _ I1 q1) fun u s2 ⟨y,H2,I2,r2,q2⟩ => ?_
 exact hf v u s2 x y H2 I2 r1 r2 q2
theorem qH {op:Operator}{r:R2} (ho:OpR X (binaryOp op) r) (ha:PE X a ta) (hb:PE X b tb):PE X (.BinOp a op b pos) (tOp r ta tb):=by
 intro pins s σ H Q I h
 exact wpAny_BinOp (FU ha hb I h fun v u s2 x y H2 I2 rx ry q=>ho pins s2 σ H2 x y v u Q I2 rx ry q)
theorem G9 {op:UnaryOp}{r:V->Hp->VK->Prop} (ho:UnR X (unaryOp op) r) (ha:PE X a ta):PE X (.UnaryOp op a pos) (tUn r ta):=by
 intro pins s σ H Q I h
 exact UnaryOp_ (thn (ha pins s σ H _ I h) fun v s1 ⟨x,H1,I1,r1,q1⟩=>ho pins s1 σ H1 x v Q I1 r1 q1)
theorem opI {f:Value->Value->Sem Value}{C:Int->Int->Prop}{g:Int->Int->Int}
  (rule : ∀ (i j:Int) (t u:Tok) (s:Shared) (Q:Value->Shared->Prop) (E:Value->Shared->Prop),C i j->Q (.int (g i j) s.toks) { s with toks:=s.toks+1 }->aJ (model X.prog X.w) X.A (f (.int i t) (.int j u)) Q E s) :
  OpR X f (rI C fun i j => .int (g i j)):=by
 intro pins s σ H x y v u Q I rx ry h
 obtain⟨i,j,rfl,rfl,hc,q⟩:=h
 obtain⟨t,rfl⟩:=rx
 obtain⟨t',rfl⟩:=ry
 exact rule i j t t' s _ _ hc ⟨.int (g i j),H,I.tok _,⟨_,rfl⟩,q⟩
theorem Gx {f:Value->Value->Sem Value}{g:Int->Int->Int}
  (rule : ∀ (i j:Int) (t u:Tok) (s:Shared) (Q:Value->Shared->Prop) (E:Value->Shared->Prop),Q (.int (g i j) s.toks) { s with toks:=s.toks+1 }->aJ (model X.prog X.w) X.A (f (.int i t) (.int j u)) Q E s) :
  OpR X f (rI0 fun i j => .int (g i j)):=by
 intro pins s σ H x y v u Q I rx ry h
 obtain⟨i,j,rfl,rfl,q⟩:=h
 obtain⟨t,rfl⟩:=rx
 obtain⟨t',rfl⟩:=ry
 exact rule i j t t' s _ _ ⟨.int (g i j),H,I.tok _,⟨_,rfl⟩,q⟩
theorem CO {f:Value->Value->Sem Value}{g:Int->Int->Bool}
  (rule : ∀ (i j:Int) (t u:Tok) (s:Shared) (Q:Value->Shared->Prop) (E:Value->Shared->Prop),Q (.bool (g i j)) s->aJ (model X.prog X.w) X.A (f (.int i t) (.int j u)) Q E s) :
  OpR X f (rI0 fun i j => .bl (g i j)):=by
 intro pins s σ H x y v u Q I rx ry h
 obtain⟨i,j,rfl,rfl,q⟩:=h
 obtain⟨t,rfl⟩:=rx
 obtain⟨t',rfl⟩:=ry
 exact rule i j t t' s _ _ ⟨.bl (g i j),H,I,rfl,q⟩
noncomputable def Il (i j:Int):Prop:=0 < j/\j < 1073741824
noncomputable def G6 (i j:Int):Prop:=0<=j/\j<=1000000/\i.natAbs < 2 ^ 64
noncomputable def BB (i j:Int):Prop:=(-(2 ^ 64) < i/\i < 2 ^ 64)\/(-(2 ^ 64) < j/\j < 2 ^ 64)
theorem BB.ok {i j:Int} (h:BB i j):IntMulOk i j:=by
 rcases h with⟨h1,h2⟩ | ⟨h1,h2⟩
 ·exact .of_left (intBits_le_64 h1 h2)
 ·exact .of_right (intBits_le_64 h1 h2)
theorem FW:OpR X (binaryOp .Add) (rI0 fun i j => .int (i+j)):=Gx fun _ _ _ _ _ _ _ q=>add_int q
theorem E1:OpR X (binaryOp .Sub) (rI0 fun i j => .int (i - j)):=Gx fun _ _ _ _ _ _ _ q=>sub_int q
theorem E9:OpR X (binaryOp .Mult) (rI BB fun i j => .int (i*j)):=opI fun _ _ _ _ _ _ _ hc q=>mul_int q hc.ok
theorem By:OpR X (binaryOp .FloorDiv) (rI Il fun i j => .int (i / j)):=opI fun i j _ _ _ _ _ hc q=>by
 have h1:(0:Int) < j:=hc.1
 have h2:j < 1073741824:=hc.2
 exact floordiv_int (by omega) (by rw [Int.fdiv_eq_ediv_of_nonneg i (by omega)];exact q) (.inl (PyProof.noPylong_small (by omega)))
theorem Gi:OpR X (binaryOp .Mod) (rI (fun _ j=>0 < j) fun i j => .int (i % j)):=opI fun i j _ _ _ _ _ hc q=>by
 have h1:(0:Int) < j:=hc
 exact mod_int' (by omega) (by rw [Int.fmod_eq_emod_of_nonneg i (by omega)];exact q)
theorem EH:OpR X (binaryOp .Pow) (rI G6 fun i j => .int (i ^ j.toNat)):=opI fun _ _ _ _ _ _ _ hc q=>pow_int_small hc.1 hc.2.1 hc.2.2 q
theorem unI {f:Value->Sem Value}{g:Int->Int}
  (rule : ∀ (i:Int) (t:Tok) (s:Shared) (Q:Value->Shared->Prop) (E:Value->Shared->Prop),Q (.int (g i) s.toks) { s with toks:=s.toks+1 }->aJ (model X.prog X.w) X.A (f (.int i t)) Q E s) :
  UnR X f (rU fun i => .int (g i)):=by
 intro pins s σ H x v Q I rx h
 obtain⟨i,rfl,q⟩:=h
 obtain⟨t,rfl⟩:=rx
 exact rule i t s _ _ ⟨.int (g i),H,I.tok _,⟨_,rfl⟩,q⟩
theorem ED:UnR X (unaryOp .USub) (rU fun i => .int (-i)):=unI fun _ _ _ _ _ q=>neg_int q
end
section
variable {X:Cx}{a b c:Expr}{ta tb tc:TE}{pos:Pos}
theorem Ii:OpR X (compareOp .Lt) (rI0 fun i j => .bl (decide (i < j))):=CO fun _ _ _ _ _ _ _ q=>lt_int q
theorem IJ:OpR X (compareOp .LtE) (rI0 fun i j => .bl (decide (i<=j))):=CO fun _ _ _ _ _ _ _ q=>le_int q
theorem Jp:OpR X (compareOp .Gt) (rI0 fun i j => .bl (decide (j < i))):=CO fun _ _ _ _ _ _ _ q=>gt_int q
theorem HF:OpR X (compareOp .GtE) (rI0 fun i j => .bl (decide (j<=i))):=CO fun _ _ _ _ _ _ _ q=>ge_int q
theorem OpR.or {f:Value->Value->Sem Value}{r r':R2} (h:OpR X f r) (h':OpR X f r'):OpR X f (fun x y H Q=>r x y H Q\/r' x y H Q):=by
 intro pins s σ H x y v u Q I rx ry q
 rcases q with q | q
 ·exact h pins s σ H x y v u Q I rx ry q
 ·exact h' pins s σ H x y v u Q I rx ry q
theorem CP {op:CmpOp}{r:R2} (ho:OpR X (compareOp op) r) (ha:PE X a ta) (hb:PE X b tb) (hm:behindInMarks op b=false):PE X (.Compare a [op] [b] pos) (tOp r ta tb):=by
 intro pins s σ H Q I h
 exact wpAny_Compare1 (FU ha hb I h fun v u s2 x y H2 I2 rx ry q=>ho pins s2 σ H2 x y v u Q I2 rx ry q) hm
noncomputable def Dh (t:TE):TT:=fun σ H Q=>t σ H fun x H' => ∃ k,x = .bl k/\Q k H'
theorem Bo {op:CmpOp}{r:R2} (ho:OpR X (compareOp op) r) (ha:PE X a ta) (hb:PE X b tb) (hm:behindInMarks op b=false):PT X (.Compare a [op] [b] pos) (Dh (tOp r ta tb)):=by
 intro pins s σ H Q I h
 refine wpAny_isTrue_Compare1 (thn (ha pins s σ H _ I h) fun v s1 ⟨x,H1,I1,r1,q1⟩=>thn (hb pins s1 σ H1 _ I1 q1) fun u s2 ⟨y,H2,I2,r2,q2⟩=>
  thn (ho pins s2 σ H2 x y v u _ I2 r1 r2 q2) fun c s3 ⟨z,H3,I3,r3,k,e,q3⟩ => ?_) hm
 subst e
 cases r3
 exact fF ⟨H3,I3,q3⟩
theorem lG:(sizeLine:Nat) < 2 ^ 63:=by rw [sizeLine_eq];decide
theorem vals1 {x:V}{us:List Value} (r:bW [x] us) : ∃ u,us = [u]/\RelV x u:=by
 cases r with
 | cons r1 r2=>cases r2;exact⟨_,rfl,r1⟩
theorem vals2 {x y:V}{us:List Value} (r:bW [x,y] us) : ∃ u w',us = [u,w']/\RelV x u/\RelV y w':=by
 cases r with
 | cons r1 r2=>
   cases r2 with
   | cons r3 r4=>cases r4;exact⟨_,_,rfl,r1,r3⟩
theorem yC (hc:X.calm=true):gz X (.builtin "max") (fun xs H Q => ∃ i j,xs = [.int i,.int j]/\Q (.int (if j > i then j else i)) H):=by
 intro pins s σ H xs us Q I r h
 obtain⟨i,j,rfl,q⟩:=h
 obtain⟨u,w',rfl,⟨t,rfl⟩,⟨t',rfl⟩⟩:=vals2 r
 refine max_two_ints (I.ok.hd hc) fun h' tk k=>⟨_,H,I.kept k,?_,q⟩
 by_cases hj:j > i
 ·rw [if_pos hj,if_pos hj];exact⟨_,rfl⟩
 ·rw [if_neg hj,if_neg hj];exact⟨_,rfl⟩
theorem xT (hc:X.calm=true):gz X (.builtin "min") (fun xs H Q => ∃ i j,xs = [.int i,.int j]/\Q (.int (if j < i then j else i)) H):=by
 intro pins s σ H xs us Q I r h
 obtain⟨i,j,rfl,q⟩:=h
 obtain⟨u,w',rfl,⟨t,rfl⟩,⟨t',rfl⟩⟩:=vals2 r
 refine min_two_ints (I.ok.hd hc) fun h' tk k=>⟨_,H,I.kept k,?_,q⟩
 by_cases hj:j < i
 ·rw [if_pos hj,if_pos hj];exact⟨_,rfl⟩
 ·rw [if_neg hj,if_neg hj];exact⟨_,rfl⟩
theorem yo:gz X (.type "int") (fun xs H Q=>(∃ i,xs = [.int i]/\Q (.int i) H) \/ ∃ k,xs = [.bl k]/\Q (.int (if k then 1 else 0)) H):=by
 intro pins s σ H xs us Q I r h
 rcases h with⟨i,rfl,q⟩ | ⟨k,rfl,q⟩
 ·obtain⟨u,rfl,t,rfl⟩:=vals1 r
  exact call_int_int ⟨.int i,H,I,⟨_,rfl⟩,q⟩
 ·obtain⟨u,rfl,r1⟩:=vals1 r
  cases r1
  exact call_int_bool ⟨.int (if k then 1 else 0),H,I.tok _,⟨_,rfl⟩,q⟩
end
end L2
namespace L2
open PySem PySem.Spec PyProof.Rows
structure J2 (h:Heap) (x dx C:Addr) (mA:Str->Option Value):Prop where
 obj:h.get? x=some (PySem.W.instObj C dx)
 ns:h.Ns1 dx mA
 ne:dx≠x
section
variable {prog:Program}{w:World}{A:Around}{E:Value->Shared->Prop}{s:Shared}{K:ai}{x dx C f:Addr}{mA:Str->Option Value}{name:Str}{v:Value}
end
theorem pW.some_of {v:V}{o:Option Value} (r:pW (some v) o) : ∃ u,o=some u/\RelV v u:=by
 cases o with
 | none=>exact (show False from r).elim
 | some u=>exact⟨u,rfl,r⟩
section
variable {P:Program}{w:World}{H H':Hp}{h h':Heap}{a C dx:Addr}{fs fs':List (Str×V)}
end
structure Cls (K:ai) (C:Addr):Prop where
 pg:PySem.W.plainGet K C sx=true
 hd:PySem.W.hasDictIn K C=true
 po:PySem.W.plainOver K C=true
 sa:iV K (.ref C) "__setattr__"=some (some (.builtin "object.__setattr__"))
structure Con (K:ai) (C:Addr) (f:Str) (v:V) (u:Value):Prop where
 at_:iV K (.ref C) f=some (some u)
 rel:RelV v u
 get:A7 K u "__get__"=some none
 cp:PySem.W.copiedNames.contains f=false
structure J0 (K:ai) (C:Addr) (m:Str) (f:Addr):Prop where
 at_:iV K (.ref C) m=some (some (.ref f))
 fn:PySem.W.isFn K (.ref f)=true
 kp:bN K (.ref f)=true
section
variable {X:Cx}{pins:List (Addr×Obj)}{σ:St}{H:Hp}{s:Shared}{a C dx:Addr}{fs:List (Str×V)}{f:Str}{v:V}{A:Around}{E:Value->Shared->Prop}
end
section
variable {X:Cx}{o e value:Expr}{f:Str}{pos pos' tpos:Pos}{ta tv:TE}
end
section
variable {X:Cx}{pins:List (Addr×Obj)}{σ:St}{H:Hp}{s:Shared}{A:Around}{E:Value->Shared->Prop}{Q:Value->Shared->Prop}{c:Value}{b:Bool}
inductive o6 (K:ai) (H:Hp):V->Value->Prop where
 | non:o6 K H .non (.type "NoneType")
 | bl (x:Bool):o6 K H (.bl x) (.type "bool")
 | int (i:Int):o6 K H (.int i) (.type "int")
 | str (x:Str):o6 K H (.str x) (.type "str")
 | flt (x:UInt64):o6 K H (.flt x) (.type "float")
 | lst {a:Addr}{xs:List V} (e:H a=some (.lst xs)):o6 K H (.ref a) (.type "list")
 | frz {a:Addr}{o:Obj}{xs:List V} (e:H a=some (.frz o (.lst xs))):o6 K H (.ref a) (.type "list")
 | tup {a:Addr}{xs:List V} (e:H a=some (.tup xs)):o6 K H (.ref a) (.type "tuple")
 | dK {a:Addr}{kvs:List (Key×V)} (e:H a=some (.dK kvs)):o6 K H (.ref a) (.type "dict")
 | dT {a:Addr}{kvs:List (List Key×V)} (e:H a=some (.dT kvs)):o6 K H (.ref a) (.type "dict")
 | ins {a C dx:Addr}{fs:List (Str×V)} (e:H a=some (.ins C dx fs)) (cl:Cls K C) (ha:iV K (.ref C) "__class__"=some (some (.builtin "object.__class__")))
   (hn:A7 K (.builtin "object.__class__") "__get__"=some (some (.builtin "getset_descriptor.__get__"))) (htk:PySem.W.takesIn K (.builtin "object.__class__")=some true)
   (hm:PySem.W.mroIn K C (.type "object")=some true):o6 K H (.ref a) (.ref C)
end
end L2
namespace L2
open PySem PySem.Spec PyProof.Rows
structure i6 (k:Nat) (A:Around):Prop where
 hd:A.handled=none
 dp:A.depth+3*k+5 < recursionLimit
 un:A.units+16*k+200 < cLine
 gu:A.guards=some []
theorem i6.mono {j k:Nat}{A:Around} (r:i6 k A) (h:j<=k):i6 j A:=⟨r.hd,by have:=r.dp;omega,by have:=r.un;omega,r.gu⟩
theorem i6.deeper {k:Nat}{A:Around} (r:i6 (k+1) A) (env:Env):i6 k (A.deeper env):=
 ⟨r.hd,by have:=r.dp;show A.depth+1+3*k+5 < _;omega,by have:=r.un;show A.units+3+16*k+200 < _;omega,r.gu⟩
theorem i6.depth {k:Nat}{A:Around} (r:i6 k A):A.depth < recursionLimit:=by have:=r.dp;omega
theorem i6.units {k:Nat}{A:Around} (r:i6 k A):A.units+64 < cLine:=by have:=r.un;omega
noncomputable def zV:TA:=fun _ H Q=>Q [] H
noncomputable def wF (ta:TE) (tr:TA):TA:=fun σ H Q=>ta σ H fun x H1=>tr σ H1 fun xs H2=>Q (x::xs) H2
section
variable {X:Cx}{e:Expr}{es:List Expr}{te:TE}{t:TA}{pos:Pos}
theorem vR:PA X [] zV:=fun _ _ _ _ H Q I h=>gH ⟨[],H,I,.nil,h⟩
theorem mL (ha:PE X e te) (hr:PA X es t) (hs:starEach (e::es) X.env=(false,eval e X.env)::starEach es X.env:=by rfl):PA X (e::es) (wF te t):=by
 intro pos pins s σ H Q I h
 rw [hs]
 show aJ _ _ (spliced ((false,eval e X.env)::backTo pos (starEach es X.env))) _ _ s
 refine ek (thn (ha pins s σ H _ I h) fun u s1 ⟨x,H1,I1,r1,q1⟩ => ?_)
 exact thn (hr pos pins s1 σ H1 _ I1 q1) fun us s2 ⟨xs,H2,I2,r2,q2⟩=>⟨x::xs,H2,I2,.cons r1 r2,q2⟩
noncomputable def Iq (t:TA):TE:=fun σ H Q=>t σ H fun xs H1=>xs.length<=sizeLine /\ ∀ p,H1 p=none->Q (.ref p) (upd H1 p (.tup xs))
noncomputable def GU (t:TA):TE:=fun σ H Q=>t σ H fun xs H1=>xs.length<=sizeLine /\ ∀ p,H1 p=none->Q (.ref p) (upd H1 p (.lst xs))
theorem Fb {x1} (h:PA X es t):PE X (.Tuple es x1 pos) (Iq t):=by
 intro pins s σ H Q I hq
 refine wpAny_Tuple_spliced (thn (h pos pins s σ H _ I hq) fun us s1 ⟨xs,H1,I1,r,z,q⟩=>⟨by rw [<- r.length];exact z,?_⟩)
 have hf:H1 s1.heap.objs.size=none:=I1.hok.fresh (ak _)
 refine⟨.ref s1.heap.objs.size,upd H1 s1.heap.objs.size (.tup xs),I1.laid (t':=s1.toks) (fun b u e=>ar _ e) (ak _) ?_,rfl,q _ hf⟩
 exact⟨z,us,r,⟨_,aF _ rfl,rfl,_,rfl⟩,_,aF _ rfl,rfl⟩
theorem Ej (h:PA X es t):PE X (.List es pos) (GU t):=by
 intro pins s σ H Q I hq
 refine wpAny_List_spliced (thn (h pos pins s σ H _ I hq) fun us s1 ⟨xs,H1,I1,r,z,q⟩=>⟨by rw [<- r.length];exact z,?_⟩)
 have hf:H1 s1.heap.objs.size=none:=I1.hok.fresh (ak _)
 refine⟨.ref s1.heap.objs.size,upd H1 s1.heap.objs.size (.lst xs),I1.laid (t':=s1.toks) (fun b u e=>ar _ e) (ak _) ?_,rfl,q _ hf⟩
 exact⟨z,us,0,r,aF _ rfl⟩
end
abbrev Sp:=List V->Hp->VK->XK->Prop
abbrev CXT:=List Env->Hp->Shared->XK->Value->Shared->Prop
structure yf (P:Program) (w:World) (K:ai) (mg:Str->Option Value) (base:Heap) (A:Around) (outer:List Env) (s:Shared) (H:Hp):Prop where
 frames:A.frames=some outer
 mod:Mod K mg base
 bs : ∀ b o,base.get? b=some o->s.heap.get? b=some o/\H b=none
 bsz:base.objs.size<=s.heap.objs.size
 funs:s.heap.FunFrames base outer
 frf : ∀ b∈frs outer,H b=none
 hok:HOk P w H s.heap
 bare:AllBare s.gens
noncomputable def CE (outer:List Env) (P:Program) (w:World) (H:Hp) (s:Shared) (Q:VK) (u:Value) (s':Shared):Prop:=
 ∃ v H',s'.os=s.os/\AllBare s'.gens/\Un (frs outer) [] H H' s.heap s'.heap/\HOk P w H' s'.heap/\RelV v u/\Q v H'
noncomputable def CR (CX:CXT) (outer:List Env) (P:Program) (w:World) (H:Hp) (s:Shared) (Q:VK) (E:XK) (r:Result) (s':Shared):Prop:=
 match r with
 | .ok (.ret u)=>CE outer P w H s Q u s'
 | .ok _=>False
 | .error e=>CX outer H s E e s'
structure gZ (P:Program) (w:World) (K:ai) (mg:Str->Option Value) (base:Heap) (CX:CXT) (k:Nat) (f:Addr) (fd:FuncData) (ps:List Str) (sp:Sp):Prop where
 len : ∀ vs H Q E,sp vs H Q E->vs.length=ps.length
 run : ∀ (A:Around) (outer:List Env) (s:Shared) (H:Hp) (args:Args) (us:List Value) (vs:List V) (Q:VK) (E:XK),i6 k A->yf P w K mg base A outer s H->BindsTo s fd args (ps.zip us)->bW vs us->sp vs H Q E ->
  nr (model P w) A (.call (.ref f) args) (CR CX outer P w H s Q E) s
theorem gZ.imp {P:Program}{w:World}{K:ai}{mg:Str->Option Value}{base:Heap}{CX:CXT}{k:Nat}{f:Addr}{fd:FuncData}{ps:List Str}{sp sp':Sp} (F:gZ P w K mg base CX k f fd ps sp)
  (h : ∀ vs H Q E,sp' vs H Q E->sp vs H Q E):gZ P w K mg base CX k f fd ps sp':=
 ⟨fun vs H Q E q=>F.len vs H Q E (h _ _ _ _ q),fun A outer s H args us vs Q E hr he hb hv hs=>F.run A outer s H args us vs Q E hr he hb hv (h _ _ _ _ hs)⟩
section
variable {X:Cx}{pins:List (Addr×Obj)}{σ:St}{H:Hp}{s s':Shared}
theorem Inv.env0 (I:Inv X pins σ H s):yf X.prog X.w X.K X.mg X.base X.A X.stack s H:=
 ⟨I.ok.frames,I.ok.mod,I.bs,aK I.ok.bsz I.sz,I.stack,I.stkFree,I.hok,I.bare⟩
theorem Inv.after {Q:VK}{u:Value} (I:Inv X pins σ H s) (h:CE X.stack X.prog X.w H s Q u s'):EP X pins σ Q u s':=by
 obtain⟨v,H',os,bare,un,hok,r,q⟩:=h
 obtain⟨hh,g,d,t,os'⟩:=s'
 obtain rfl:os'=s.os:=os
 exact⟨v,H',I.call (h':=hh) (g':=g) (d':=d) (t':=t) (ch := []) un hok bare (fun b z=>absurd z (by simp)),r,q⟩
end
noncomputable def Af (sp:Sp) (dvs:List V) (E:XK) (t:TA):TE:=fun σ H Q=>t σ H fun vs H1=>sp (vs++dvs) H1 Q E
noncomputable def Binds (K:ai) (fd:FuncData) (ps:List Str) (ds:List Value):Prop:=
 ∀ (s:Shared) (us:List Value),K.In s.heap->(us++ds).length=ps.length->BindsTo s fd ⟨us,[]⟩ (ps.zip (us++ds))
theorem Binds.all {K:ai}{fd:FuncData}{ps:List Str} (h : ∀ us:List Value,us.length=ps.length->bindArgs fd ⟨us,[]⟩=pure (ps.zip us)):Binds K fd ps []:=fun s us _ hl=>by
 rw [dg] at hl ⊢
 exact .of_eq (h us hl)
noncomputable def oY (CX:CXT) (X:Cx) (E:XK):Prop := ∀ (pins:List (Addr×Obj)) (σ:St) (H:Hp) (s:Shared) (e:Value) (s':Shared),Inv X pins σ H s->CX X.stack H s E e s'->X.xe e s'
section
variable {X:Cx}{CX:CXT}{k:Nat}{f C:Addr}{fd:FuncData}{ps:List Str}{sp:Sp}{dvs:List V}{ds:List Value}{E:XK}{x m:Str}{p pos apos:Pos}{e o:Expr}{es:List Expr}{ta:TE}{t:TA}
theorem vY {pins:List (Addr×Obj)}{σ:St}{H:Hp}{s:Shared}{Q:VK}{us:List Value}{vs:List V} (F:gZ X.prog X.w X.K X.mg X.base CX k f fd ps sp) (hr:i6 k X.A) (hb:Binds X.K fd ps ds) (hd:bW dvs ds) (hx:oY CX X E)
  (I:Inv X pins σ H s) (r:bW vs us) (h:sp (vs++dvs) H Q E):aJ (model X.prog X.w) X.A (call (.ref f) us) (EP X pins σ Q) X.xe s:=by
 have r2:bW (vs++dvs) (us++ds):=r.append hd
 have hl:(us++ds).length=ps.length:=by rw [<- r2.length];exact F.len _ _ _ _ h
 refine wpAny_call (jF (F.run X.A X.stack s H ⟨us,[]⟩ (us++ds) (vs++dvs) Q E hr I.env0 (hb s us I.kIn hl) r2 h) fun r s' hq => ?_)
 cases r with
 | error e=>exact hx pins σ H s e s' I hq
 | ok fl=>
   cases fl with
   | ret u=>exact I.after hq
   | next=>exact bM hq
   | brk=>exact bM hq
   | cont=>exact bM hq
theorem si (F:gZ X.prog X.w X.K X.mg X.base CX k f fd ps sp) (hr:i6 k X.A) (hg:Gl X x) (hm:X.mg x=some (.ref f)) (hk:bN X.K (.ref f)=true) (hb:Binds X.K fd ps ds) (hd:bW dvs ds) (hx:oY CX X E)
  (ha:PA X (e::es) t) (hdb:(x == ("__debug__":Str))=false:=by decide) (he:starEach (e::es) X.env=(false,eval e X.env)::starEach es X.env:=by rfl) (hpl:(backTo pos (starEach es X.env)).any (·.1)=false:=by rfl) :
  PE X (.Call (.Name x p) (e::es) [] pos) (Af sp dvs E t):=by
 intro pins s σ H Q I h
 refine dP (iI I hg hm ?_ hdb)
 refine A2 (h₀:=X.base) I.ok.mod.kin hk (thn (ha pos pins s σ H _ I h) fun us s1 ⟨vs,H1,I1,r,q⟩=>⟨I1.kIn,?_⟩) he hpl
 exact vY F hr hb hd hx I1 r q
theorem z9 (F:gZ X.prog X.w X.K X.mg X.base CX k f fd ps sp) (hr:i6 k X.A) (hg:Gl X x) (hm:X.mg x=some (.ref f)) (hk:bN X.K (.ref f)=true) (hb:Binds X.K fd ps ds) (hd:bW dvs ds) (hx:oY CX X E)
  (hdb:(x == ("__debug__":Str))=false:=by decide):PE X (.Call (.Name x p) [] [] pos) (Af sp dvs E zV):=by
 intro pins s σ H Q I h
 refine dP (iI I hg hm ?_ hdb)
 exact yW I.kIn hk (vY (us := []) F hr hb hd hx I .nil h)
structure Mk (K:ai) (C f:Addr):Prop where
 makes:PySem.W.makesIn K C=true
 init:iV K (.ref C) "__init__"=some (some (.ref f))
 fn:PySem.W.isFn K (.ref f)=true
 kp:bN K (.ref C)=true
end
section
variable {X:Cx}{CX:CXT}{k:Nat}{f C:Addr}{fd:FuncData}{ps ks:List Str}{sp:Sp}{E:XK}{x m:Str}{p pos apos kpos:Pos}{e o:Expr}{es:List Expr}{kws:List Keyword}{te ta:TE}{t tk:TA}{nm:Option Str}
structure JG (K:ai) (fd:FuncData) (ps ks:List Str) (g:List Value->List Value->List Value) (gV:List V->List V->List V):Prop where
 to : ∀ (s:Shared) (us ws:List Value),K.In s.heap->(g us ws).length=ps.length->BindsTo s fd ⟨us,ks.zip ws⟩ (ps.zip (g us ws))
 rel : ∀ {vs:List V}{us:List Value}{zs:List V}{ws:List Value},bW vs us->bW zs ws->bW (gV vs zs) (g us ws)
variable {g:List Value->List Value->List Value}{gV:List V->List V->List V}
end
structure bC (N P:List Str) (sc:Scope):Prop where
 kind:sc.kind = .function
 co:sc.isCoroutine=false
 gen:sc.isGenerator=false
 nd:N.Nodup
 pre:N.take P.length=P
 par : ∀ x∈P,sc.names.lookup x=some .local\/sc.names.lookup x=some .cell
 nofree : ∀ y∈sc.names,y.2 ≠ .free
theorem qA {kindOf:Str->Option NameKind}{x:Str} : ∀ {binds:List (Str×Value)}{m:Str->Option Value},(∀ v,(x,v)∉binds)->bindL kindOf binds m x=m x
 | [],_,_=>rfl
 | (n,v)::r,m,h=>by
   unfold bindL
   rw [qA fun w hw=>h w (av _ hw)]
   split
   ·have:x≠n:=by rintro rfl;exact h v aM
    simp [this]
   ·rfl
theorem qT {kindOf:Str->Option NameKind}{x:Str} : ∀ {binds:List (Str×Value)}{m:Str->Option Value},(∀ v,(x,v)∉binds)->bindC kindOf binds m x=m x
 | [],_,_=>rfl
 | (n,v)::r,m,h=>by
   unfold bindC
   rw [qT fun w hw=>h w (av _ hw)]
   split
   ·rfl
   ·have:x≠n:=by rintro rfl;exact h v aM
    simp [this]
theorem m8 {kindOf:Str->Option NameKind}{x:Str}{v:Value} : ∀ {P:List Str}{vs:List Value}{i:Nat}{m:Str->Option Value},P.Nodup->P[i]? = some x->vs[i]? = some v->kindOf x=some .local ->
  bindL kindOf (P.zip vs) m x=some v
 | [],_,_,_,_,h,_,_=>by simp at h
 | _::_,[],_,_,_,_,h,_=>by simp at h
 | p::P,w::vs,0,m,nd,h1,h2,hk=>by
   simp at h1 h2;subst h1;subst h2
   show bindL kindOf ((p,w)::P.zip vs) m p=_
   unfold bindL
   rw [qA fun v hv=>(fR.mp nd).1 (iL hv).1,if_pos hk]
   simp
 | p::P,w::vs,i+1,m,nd,h1,h2,hk=>by
   show bindL kindOf ((p,w)::P.zip vs) m x=_
   unfold bindL
   exact m8 (i:=i) (fR.mp nd).2 (by simpa using h1) (by simpa using h2) hk
theorem nh {kindOf:Str->Option NameKind}{x:Str}{v:Value} : ∀ {P:List Str}{vs:List Value}{i:Nat}{m:Str->Option Value},P.Nodup->P[i]? = some x->vs[i]? = some v->kindOf x≠some .local ->
  bindC kindOf (P.zip vs) m x=some v
 | [],_,_,_,_,h,_,_=>by simp at h
 | _::_,[],_,_,_,_,h,_=>by simp at h
 | p::P,w::vs,0,m,nd,h1,h2,hk=>by
   simp at h1 h2;subst h1;subst h2
   show bindC kindOf ((p,w)::P.zip vs) m p=_
   unfold bindC
   rw [qT fun v hv=>(fR.mp nd).1 (iL hv).1,if_neg hk]
   simp
 | p::P,w::vs,i+1,m,nd,h1,h2,hk=>by
   show bindC kindOf ((p,w)::P.zip vs) m x=_
   unfold bindC
   exact nh (i:=i) (fR.mp nd).2 (by simpa using h1) (by simpa using h2) hk
noncomputable def start (N:List Str) (vs:List V):St:=vs.map some++ay (N.length - vs.length) none
noncomputable def o4 (CX:CXT) (P:Program) (w:World) (K:ai) (mg:Str->Option Value) (base:Heap) (N:List Str) (qual:Str) (scope:Scope) (f:Addr) (cd:Value) (A:Around) (outer:List Env) (s:Shared) (H:Hp) (E:XK):Cx where
 prog:=P
 w:=w
 K:=K
 mg:=mg
 base:=base
 A:=A.deeper (envOfC qual scope s.heap.objs.size f cd)
 N:=N
 s₀:=s
 H₀:=H
 env:=envOfC qual scope s.heap.objs.size f cd
 outer:=outer
 stack:=envOfC qual scope s.heap.objs.size f cd::outer
 ex := []
 calm:=true
 fn:=fun _=>true
 pn := []
 xe:=fun e s'=>aJ (model P w) (A.deeper (envOfC qual scope s.heap.objs.size f cd)) (leaving (envOfC qual scope s.heap.objs.size f cd) e) (fun _ s''=>CX outer H s E e s'') (fun e' s''=>CX outer H s E e' s'') s'
theorem ib {sc:Scope}{n:Nat}{x:Str} (h:sc.names.lookup x=some .cell) : ∃ c,(cellsFrom n sc.names []).lookup x=some c:=by
 have q:=fX sc.names n [] (.inl h)
 exact cb.mp q
theorem xO {CX:CXT}{P:Program}{w:World}{K:ai}{mg:Str->Option Value}{base:Heap}{N ps:List Str}{qual:Str}{scope:Scope}{f:Addr}{cd:Value}{A:Around}{outer:List Env}{s s1:Shared}{H:Hp}{E:XK}{us:List Value}{vs:List V}
  (S:bC N ps scope) (hd:A.handled=none) (e0:yf P w K mg base A outer s H) (hl:vs.length=ps.length) (r:bW vs us)
  (x:InCallC s s.heap.objs.size (bindL (envOfC qual scope s.heap.objs.size f cd).kindOf (ps.zip us) fun _=>none) (cellsFrom (s.heap.objs.size+1) scope.names []) (bindC (envOfC qual scope s.heap.objs.size f cd).kindOf (ps.zip us) fun _=>none) s1) :
  Inv (o4 CX P w K mg base N qual scope f cd A outer s H E) [] (start N vs) H s1:=by
 have hpl:ps.length<=N.length:=by have:=congrArg A8 S.pre;rw [List.length_take] at this;omega
 obtain⟨h1,tk,rfl,hk⟩:=x.done
 have noA : ∀ b:Addr,b∉(o4 CX P w K mg base N qual scope f cd A outer s H E).ex:=fun b z=>absurd (show b∈([]:List Addr) from z) (by simp)
 refine⟨⟨e0.mod,S.kind,rfl,rfl,ak _,fun y z c h1 h2 => ?_,fun y hy => ?_,fun y c _ h => ?_,fun _=>hd,yX e0.frames,.inr ⟨rfl,rfl⟩,fun b z=>absurd z (noA b),e0.bs,e0.bsz,fun b _ _=>noA b,fun b z=>absurd z (noA b),e0.funs,e0.frf⟩,
  rfl,e0.bare,Un.kept hk,⟨_,x.toInCall.ns,fun i y v h1 h2 h3 => ?_⟩,fun y c h=>⟨_,x.cell y c h⟩,e0.hok.fresh (ak _),fun y c h => ?_,fun p hp=>absurd (show p∈([]:List (Addr×Obj)) from hp) (by simp),e0.hok.kept hk,?_⟩
 ·exact name_of_addr x.apart (bI h1) (bI h2)
 ·have hy:scope.names.lookup y=some .cell\/scope.names.lookup y=some .free:=hy
  rcases hy with hy | hy
  ·exact ib hy
  ·exact absurd rfl (S.nofree _ (bI hy))
 ·exact aW (x.above y c (bI h))
 ·have hi:i < vs.length:=by
   unfold start at h2
   by_cases hi:i < vs.length
   ·exact hi
   ·rw [aq (by simpa using hi)] at h2
    rw [fY] at h2
    split at h2 <;> cases h2
  have ha:vs[i]? = some v:=by
   unfold start at h2
   rw [aQ (by simpa using hi),da] at h2
   cases e:vs[i]? with
   | none=>rw [e] at h2;cases h2
   | some a=>rw [e] at h2;cases h2;rfl
  obtain⟨u,hu,rv⟩:=r.get ha
  have hp:ps[i]? = some y:=by
   rw [<- S.pre,List.getElem?_take_of_lt (by omega)];exact h1
  have ndP:ps.Nodup:=by rw [<- S.pre];exact S.nd.sublist (List.take_sublist _ _)
  refine⟨u,rv,?_⟩
  rcases S.par y (cj hp) with k | k
  ·exact .inl ⟨k,m8 ndP hp hu k⟩
  ·obtain⟨c,e⟩:=ib (n:=s.heap.objs.size+1) k
   refine .inr ⟨.inl k,c,e,?_⟩
   have q:=x.cell y c e
   rw [nh ndP hp hu (by show scope.names.lookup y≠_;rw [k];decide)] at q
   exact q
 ·exact e0.hok.fresh (aW (x.above y c (bI h)))
 ·unfold start
  show _=N.length
  rw [be,aI,lU]
  omega
theorem tW {CX:CXT}{P:Program}{w:World}{K:ai}{mg:Str->Option Value}{base:Heap}{k:Nat}{f:Addr}{name qual:Str}{params:Arguments}{body:List Stmt}{scope:Scope}{dV kV doc pm cdv ct oc:Value}{an od:Option Addr}
  {osl:Array (Option Value)}{N ps:List Str}{sp:Sp} (lk:K.lookup f=some ⟨oc,od,.func (cH name qual params body scope dV kV doc pm an cdv ct),osl⟩) (hcd:eX K cdv qual=true) (S:bC N ps scope)
  (len : ∀ vs H Q E,sp vs H Q E->vs.length=ps.length)
  (hbody : ∀ (A:Around) (outer:List Env) (s:Shared) (H:Hp) (vs:List V) (Q:VK) (E:XK),i6 k (A.deeper (envOfC qual scope s.heap.objs.size f cdv))->sp vs H Q E ->
   ∃ t,PSs (o4 CX P w K mg base N qual scope f cdv A outer s H E) body t/\t { nx:=fun _ H'=>Q .non H',rt:=Q } (start N vs) H) :
  gZ P w K mg base CX (k+1) f (cH name qual params body scope dV kV doc pm an cdv ct) ps sp:=by
 refine⟨len,fun A outer s H args us vs Q E hr e0 hb r hsp => ?_⟩
 have hl:=len _ _ _ _ hsp
 have KX:K.In s.heap:=e0.mod.kin.keeps fun b o e=>(e0.bs b o e).1
 have lim:s.heap.NoLimit:=e0.mod.nolimit.keeps fun b o e=>(e0.bs b o e).1
 have hkind : ∀ y∈ps.zip us,scope.names.lookup y.1=some .local\/(scope.names.lookup y.1=some .cell/\((cellsFrom (s.heap.objs.size+1) scope.names []).lookup y.1).isSome=true):=fun⟨n,v⟩ hy=>by
  rcases S.par n (iL hy).1 with q | q
  ·exact .inl q
  ·exact .inr ⟨q,fX _ _ _ (.inl q)⟩
 refine codeAny_call_function hr.depth (KX _ _ lk) rfl S.co S.gen rfl (PySem.W.codeRec_of KX hcd) (hb _ _ _ _ ?_)
 refine wpAny_newFunctionEnv_cells S.kind hkind fun env he s1 x => ?_
 subst he
 refine⟨lim.keeps x.toInCall.keep,codeAny_func ?_⟩
 obtain⟨t,ht,hq⟩:=hbody A outer s H vs Q E (hr.deeper _) hsp
 have I:Inv (o4 CX P w K mg base N qual scope f cdv A outer s H E) [] (start N vs) H s1:=xO S hr.hd e0 hl r x
 refine bJ (ht [] s1 (start N vs) H _ I hq) (fun fl s' hs => ?_) fun e s' hs=>hs
 have fin : ∀ {σ':St}{H':Hp}{v:V}{u:Value},Inv (o4 CX P w K mg base N qual scope f cdv A outer s H E) [] σ' H' s'->RelV v u->Q v H'->CE outer P w H s Q u s':=
  fun {σ' H' v u} J rv q=>⟨v,H',J.os,J.bare,J.base,J.hok,rv,q⟩
 cases fl with
 | ret u=>
   obtain⟨v,σ',H',J,rv,q⟩:=hs
   exact fin J rv q
 | next=>
   obtain⟨σ',H',J,q⟩:=hs
   exact fin (v:=V.non) (u:=fk) J rfl q
 | brk=>
   obtain⟨_,_,_,q⟩:=hs
   exact bM q
 | cont=>
   obtain⟨_,_,_,q⟩:=hs
   exact bM q
end L2
namespace L2
open PySem PySem.Spec PyProof.Rows
section
variable {X:Cx}{x:Str}{p pos:Pos}{e:Expr}{es:List Expr}{t:TA}{id T:String}{r:List V->Hp->VK->Prop}
noncomputable def tCB (r:List V->Hp->VK->Prop) (t:TA):TE:=fun σ H Q=>t σ H fun vs H1=>r vs H1 Q
theorem jY (hc:gz X (.builtin id) r) (hg:Gl X x) (hm:X.mg x=none) (hv:bootBuiltins x=some (.builtin id)) (ha:PA X (e::es) t) (hn:x≠"__name__":=by decide) (hdb:(x == ("__debug__":Str))=false:=by decide)
  (he:starEach (e::es) X.env=(false,eval e X.env)::starEach es X.env:=by rfl) (hpl:(backTo pos (starEach es X.env)).any (·.1)=false:=by rfl):PE X (.Call (.Name x p) (e::es) [] pos) (tCB r t):=by
 intro pins s σ H Q I h
 refine dP (iP I hg hm hv ?_ hn hdb)
 exact PyProof.Rows.callWith_builtin1 (thn (ha pos pins s σ H _ I h) fun us s1 ⟨vs,H1,I1,r1,q1⟩=>hc pins s1 σ H1 vs us Q I1 r1 q1) he hpl
theorem kD (hc:gz X (.type T) r) (hg:Gl X x) (hm:X.mg x=none) (hv:bootBuiltins x=some (.type T)) (ha:PA X (e::es) t) (hn:x≠"__name__":=by decide) (hdb:(x == ("__debug__":Str))=false:=by decide)
  (he:starEach (e::es) X.env=(false,eval e X.env)::starEach es X.env:=by rfl) (hpl:(backTo pos (starEach es X.env)).any (·.1)=false:=by rfl):PE X (.Call (.Name x p) (e::es) [] pos) (tCB r t):=by
 intro pins s σ H Q I h
 refine dP (iP I hg hm hv ?_ hn hdb)
 exact bZ (thn (ha pos pins s σ H _ I h) fun us s1 ⟨vs,H1,I1,r1,q1⟩=>hc pins s1 σ H1 vs us Q I1 r1 q1) he hpl
end
end L2
namespace HT
open PySem PyProof.Rows
section
open PySem.SeqAt
open PySem.AutoSeq1 (wpAny_loadPart')
open PySem.MeetsSeq PySem.MeetsSeq2 PySem.MeetsSeq3
end
section
variable {prog:Program}{w:World}{A:Around}{E:Value->Shared->Prop}{s:Shared}
theorem cat_tup {t b:Addr}{vs ws:List Value}{Q:Value->Shared->Prop} (ht:IsTup s.heap t vs.toArray) (hb:IsTup s.heap b ws.toArray) (hv:vs ≠ [])
  (h1:ws = []->Q (.ref t) s) (h2:ws ≠ []->Q (.ref s.heap.objs.size) { s with heap:=s.heap.push { cls := .type "tuple",data := .seq (vs++ws).toArray } })
  (hsz:vs.length+ws.length<=sizeLine):aJ (model prog w) A (binaryOp .Add (.ref t) (.ref b)) Q E s:=by
 obtain⟨⟨cls,dd,data,sl⟩,ho,hc,n,hd⟩:=id ht
 obtain⟨⟨cls2,dd2,data2,sl2⟩,ho2,hc2,n2,hd2⟩:=id hb
 simp only at hc hd hc2 hd2
 subst hc hd hc2 hd2
 have e:vs.toArray++ws.toArray=(vs++ws).toArray:=by simp
 by_cases hw:ws = []
 ·exact concat_meets ⟨_,ho,rfl⟩ ⟨_,ho2,rfl⟩ noFill_tuple_add seq_tuple_add ko jG (ju _ _)
   (tuple_addW1 t b vs.toArray ws.toArray n n2 dd dd2 sl sl2 (by simpa using hv) (by simp [hw])) ⟨ho,ho2,h1 hw⟩
 ·refine concat_meets ⟨_,ho,rfl⟩ ⟨_,ho2,rfl⟩ noFill_tuple_add seq_tuple_add ko jG (ju _ _)
   (tuple_addW2 t b vs.toArray ws.toArray n n2 dd dd2 sl sl2 (by simpa using hv) (by simpa using hw) (by rw [aG,aG];exact hsz)) ⟨ho,ho2,?_⟩
  rw [e]
  exact h2 hw
end
end HT
namespace L2
open PySem PySem.Spec PyProof.Rows
abbrev TO:=St->Hp->(Option Int->Hp->Prop)->Prop
section
variable {X:Cx}{e:Expr}{te:TE}{lo hi:Option Expr}{tl th:TO}{pos p2:Pos}
noncomputable def DE (K:ai):R2:=fun x y H Q => ∃ a b xs ys,x = .ref a/\y = .ref b/\SqT K H a xs/\SqT K H b ys/\xs ≠ []/\xs.length+ys.length<=sizeLine /\
 (ys = []->Q (.ref a) H)/\(ys ≠ [] -> ∀ p,H p=none->Q (.ref p) (upd H p (.tup (xs++ys))))
theorem bW.nil_iff {xs:List V}{us:List Value} (r:bW xs us):us = []↔xs = []:=by
 cases r with
 | nil=>simp
 | cons _ _=>simp
theorem Bz:OpR X (binaryOp .Add) (DE X.K):=by
 intro pins s σ H x y v u Q I rx ry h
 obtain⟨a,b,xs,ys,rfl,rfl,ha,hb,hx,hz,q1,q2⟩:=h
 cases rx
 cases ry
 obtain⟨its,r1,p1,_⟩:=I.tuple ha
 obtain⟨its2,r2,p2,_⟩:=I.tuple hb
 refine HT.cat_tup p1 p2 (fun z=>hx (r1.nil_iff.mp z)) (fun z=>⟨.ref a,H,I,rfl,q1 (r2.nil_iff.mp z)⟩) (fun z => ?_) (by rw [<- r1.length,<- r2.length];exact hz)
 refine⟨.ref s.heap.objs.size,_,I.laid (t':=s.toks) (o := .tup (xs++ys)) (fun b ob q=>ar _ q) (ak _) ?_,rfl,q2 (fun w=>z (r2.nil_iff.mpr w)) _ (I.hok.fresh (ak _))⟩
 exact⟨by rw [be];exact hz,_,r1.append r2,xI _ _,_,aF _ rfl,rfl⟩
end
end L2
namespace L2
open PySem PySem.Spec PyProof.Rows
noncomputable def ixN (n:Nat) (i:Int):Option Nat:=if 0<=i then (if i < n then some i.toNat else none) else if -(n:Int)<=i then some (i+n).toNat else none
noncomputable def atI {α:Type} (xs:List α) (i:Int):Option α:=(ixN xs.length i).bind fun j=>xs[j]?
theorem xx {n:Nat}{i:Int}{j:Nat} (h:ixN n i=some j):seqIndex? i n=some j/\j < n /\ -(n:Int)<=i/\i < n:=by
 unfold ixN at h
 by_cases h0:0<=i
 ·rw [if_pos h0] at h
  by_cases h1:i < n
  ·rw [if_pos h1] at h
   have e:i.toNat=j:=bu h
   exact⟨by rw [seqIndex_of h0 h1,e],by omega,by omega,h1⟩
  ·rw [if_neg h1] at h;cases h
 ·rw [if_neg h0] at h
  by_cases h1 : -(n:Int)<=i
  ·rw [if_pos h1] at h
   have e:(i+n).toNat=j:=bu h
   exact⟨by rw [seqIndex_neg (by omega) h1,e],by omega,h1,by omega⟩
  ·rw [if_neg h1] at h;cases h
theorem rk {α:Type}{xs:List α}{i:Int}{v:α} (h:atI xs i=some v) : ∃ j,seqIndex? i xs.length=some j/\xs[j]? = some v/\j < xs.length /\ -(xs.length:Int)<=i/\i < xs.length:=by
 unfold atI at h
 cases e:ixN xs.length i with
 | none=>rw [e] at h;cases h
 | some j=>
   rw [e] at h
   obtain⟨h1,h2,h3,h4⟩:=xx e
   exact⟨j,h1,h,h2,h3,h4⟩
noncomputable def rh (b:Expr):Prop := ∀ o i,subscripted b false o i=operate [o,i] (getItem o i)
noncomputable def IxR (X:Cx) (r:R2):Prop:=
 ∀ (value slice:Expr) (pins:List (Addr×Obj)) (s:Shared) (σ:St) (H:Hp) (x y:V) (v u:Value) (Q:VK),Inv X pins σ H s->RelV x v->RelV y u->r x y H Q ->
  subscripted slice false v u=operate [v,u] (getItem v u)->aJ (model X.prog X.w) X.A (subscriptTail value slice v u) (EP X pins σ Q) X.xe s
noncomputable def MtR (X:Cx) (id:String) (r:V->List V->Hp->VK->Prop):Prop:=
 ∀ (pins:List (Addr×Obj)) (s:Shared) (σ:St) (H:Hp) (x:V) (xs:List V) (v:Value) (us:List Value) (Q:VK),Inv X pins σ H s->RelV x v->bW xs us->r x xs H Q ->
  aJ (model X.prog X.w) X.A (call (.builtin id) (v::us)) (EP X pins σ Q) X.xe s
section
variable {X:Cx}{a b:Expr}{ta tb:TE}{pos:Pos}
theorem IxR.or {r r':R2} (h:IxR X r) (h':IxR X r'):IxR X (fun x y H Q=>r x y H Q\/r' x y H Q):=by
 intro value slice pins s σ H x y v u Q I rx ry q hs
 rcases q with q | q
 ·exact h value slice pins s σ H x y v u Q I rx ry q hs
 ·exact h' value slice pins s σ H x y v u Q I rx ry q hs
theorem DC {r:R2} (hr:IxR X r) (ha:PE X a ta) (hb:PE X b tb) (hs:rh b):PE X (.Subscript a b pos) (tOp r ta tb):=by
 intro pins s σ H Q I h
 exact Subscript_ (FU ha hb I h fun v u s2 x y H2 I2 rx ry q=>hr a b pins s2 σ H2 x y v u Q I2 rx ry q (hs _ _))
noncomputable def Iv (K:ai):R2:=fun x y H Q => ∃ p xs i v,x = .ref p/\y = .int i/\SqL K H p xs/\atI xs i=some v/\Q v H
noncomputable def Iz (K:ai):R2:=fun x y H Q => ∃ p xs i v,x = .ref p/\y = .int i/\SqT K H p xs/\atI xs i=some v/\Q v H
noncomputable def HU:R2:=fun x y H Q => ∃ z i c,x = .str z/\y = .int i/\z.length<=sizeLine/\atI z.cps.toList i=some c/\Q (.str ⟨#[c]⟩) H
theorem Cw:IxR X (Iv X.K):=by
 intro value slice pins s σ H x y v u Q I rx ry h hs
 obtain⟨p,xs,i,z,rfl,rfl,hq,he,q⟩:=h
 cases rx
 obtain⟨t,rfl⟩:=ry
 obtain⟨its,r,pl,hz⟩:=I.list hq
 obtain⟨j,h1,h2,h3,h4,h5⟩:=rk he
 obtain⟨w,ew,rw'⟩:=r.get h2
 have hl:=r.length
 have hn:=lG
 have fin:EP X pins σ Q w s:=⟨z,H,I,rw',q⟩
 by_cases h0:0<=i
 ·have hj:i.toNat=j:=by
   rw [seqIndex_of h0 h5] at h1
   exact bu h1
  exact item_listR pl.isList h0 (by omega) (by rw [hj];simpa using ew) fin hs
 ·have hj:(i+(its.toArray.size:Int)).toNat=j:=by
   rw [seqIndex_neg (by omega) h4] at h1
   rw [aG,<- hl]
   exact bu h1
  exact subscriptTail_builtinR (x:=w) pl.isList.typeIs slot_list_getitem.lookup
   (wpAny_getItem_list_neg (Q:=fun r s'=>r=w/\EP X pins σ Q r s') pl.isList (by omega) (by rw [aG] <;> omega) (by omega) (by rw [hj];simpa using ew) ⟨rfl,fin⟩) hs
theorem EA:IxR X (Iz X.K):=by
 intro value slice pins s σ H x y v u Q I rx ry h hs
 obtain⟨p,xs,i,z,rfl,rfl,hq,he,q⟩:=h
 cases rx
 obtain⟨t,rfl⟩:=ry
 obtain⟨its,r,pl,hz⟩:=I.tuple hq
 obtain⟨j,h1,h2,h3,h4,h5⟩:=rk he
 obtain⟨w,ew,rw'⟩:=r.get h2
 have hl:=r.length
 have hn:=lG
 have fin:EP X pins σ Q w s:=⟨z,H,I,rw',q⟩
 exact subscriptTail_builtinR (x:=w) pl.typeIs slot_tuple_getitem.lookup
  (getItem_tuple (j:=j) (Q:=fun r s'=>r=w/\EP X pins σ Q r s') pl (by omega) (by omega) (by rw [aG,<- hl];exact h1) (by simpa using ew) ⟨rfl,fin⟩) hs
theorem EE:IxR X HU:=by
 intro value slice pins s σ H x y v u Q I rx ry h hs
 obtain⟨z,i,c,rfl,rfl,hz,he,q⟩:=h
 obtain⟨t,rfl⟩:=rx
 obtain⟨t',rfl⟩:=ry
 obtain⟨j,h1,h2,h3,h4,h5⟩:=rk he
 have hl:z.cps.toList.length=z.length:=by simp [Str.length]
 rw [hl] at h1 h4 h5
 have hn:=lG
 exact tail_any (typeIs_str s z t) slot_str_getitem.lookup (getItem_str (c:=c) (by
  have e1:decide (i < -(2 ^ 63:Int))=false:=decide_eq_false (by omega)
  have e2:decide (i >= 2 ^ 63)=false:=decide_eq_false (by omega)
  rw [e1,e2,Bool.or_false]) (by rw [h1];simpa using h2) ⟨.str ⟨#[c]⟩,H,I.tok _,⟨_,rfl⟩,q⟩) hs
noncomputable def rIx (K:ai):R2:=fun x y H Q=>Iv K x y H Q\/Iz K x y H Q\/HU x y H Q
theorem Ef:IxR X (rIx X.K):=Cw.or (EA.or EE)
theorem vf (its:List Value) (n j:Nat) (u:Value):eJ (·.setIfInBounds j u) { cls := .type "list",data := .seq its.toArray n }={ cls := .type "list",data := .seq (its.set j u).toArray n }:=by
 simp [eJ]
theorem Inv.lst {pins:List (Addr×Obj)}{σ:St}{H:Hp}{s:Shared}{p:Addr}{xs:List V} (I:Inv X pins σ H s) (h:H p=some (.lst xs)) :
  ∃ (its:List Value) (n:Nat),bW xs its/\s.heap.get? p=some { cls := .type "list",data := .seq its.toArray n }/\xs.length<=sizeLine:=by
 obtain⟨z,its,n,r,e⟩:=I.hok p _ h
 exact⟨its,n,r,e,z⟩
theorem Inv.lstUpd {pins:List (Addr×Obj)}{σ:St}{H:Hp}{s:Shared}{p:Addr}{xs ys:List V}{its its':List Value}{n n':Nat}{f:Obj->Obj} (I:Inv X pins σ H s) (h:H p=some (.lst xs))
  (ho:s.heap.get? p=some { cls := .type "list",data := .seq its.toArray n }) (hf:f { cls := .type "list",data := .seq its.toArray n }={ cls := .type "list",data := .seq its'.toArray n' }) (r:bW ys its') (hz:ys.length<=sizeLine) (t:Nat) :
  Inv X pins σ (upd H p (.lst ys)) { s with heap:=s.heap.update p f,toks:=t }:=by
 have e:(s.heap.update p f).get? p=some { cls := .type "list",data := .seq its'.toArray n' }:=by
  rw [eQ f ho (by rw [hf] <;> rfl),hf]
 refine I.write (x:=p) (e:=p) (by rw [h];trivial) (.inl rfl) (fun b u hb q=>(eB _ _ (df hb)).trans q) ⟨_,e⟩ ?_
 exact⟨hz,its',n',r,e⟩
noncomputable def DL:V->V->V->Hp->(Hp->Prop)->Prop:=fun o i v H Q => ∃ p xs k j,o = .ref p/\i = .int k/\H p=some (.lst xs)/\ixN xs.length k=some j/\Q (upd H p (.lst (xs.set j v)))
theorem set_list:DZ X DL:=by
 intro pins s σ H o i v ov iv u Q I ro ri rv h
 obtain⟨p,xs,k,j,rfl,rfl,hp,hj,q⟩:=h
 cases ro
 obtain⟨t,rfl⟩:=ri
 obtain⟨its,n,r,ho,hz⟩:=I.lst hp
 obtain⟨h1,h2,h3,h4⟩:=xx hj
 have hl:=r.length
 have hn:=lG
 have I':Inv X pins σ (upd H p (.lst (xs.set j v))) { s with heap:=s.heap.update p (eJ (·.setIfInBounds j u)) }:=
  I.lstUpd hp ho (vf its n j u) (r.set rv j) (by rw [eN];exact hz) s.toks
 by_cases h0:0<=k
 ·have hk:k.toNat=j:=by
   rw [seqIndex_of h0 h4] at h1
   exact bu h1
  exact PySem.W.ki_setAt ho h0 (by omega) (by rw [aG,<- hl];exact h4) (by rw [hk];exact⟨_,I',q⟩)
 ·have hk:(k+(its.toArray.size:Int)).toNat=j:=by
   rw [seqIndex_neg (by omega) h3] at h1
   rw [aG,<- hl]
   exact bu h1
  exact PySem.W.ki_setBack ho (by omega) (by rw [aG,<- hl];exact h3) (by omega) (by rw [hk];exact⟨_,I',q⟩)
noncomputable def ll:V->Bool
 | .non=>true
 | .bl _=>true
 | .int _=>true
 | .str _=>true
 | _=>false
noncomputable def eqV:V->V->Bool
 | .non,.non=>true
 | .bl a,.bl b=>a == b
 | .bl a,.int b=>(if a then 1 else 0) == b
 | .int a,.bl b=>a == (if b then 1 else 0)
 | .int a,.int b=>a == b
 | .str a,.str b=>a == b
 | _,_=>false
theorem DQ {A:Around}{s:Shared}{y x:V}{u v:Value} (ry:RelV y u) (rx:RelV x v) (fy:ll y=true) (fx:ll x=true):SeqAt.EqAt A s u v (eqV y x):=by
 cases y with
 | non=>
   cases ry
   cases x with
   | non=>cases rx;exact SeqAt.EqAt.same _
   | bl b=>cases rx;exact SeqAt.EqAt.none_bool b
   | int b=>obtain⟨t,rfl⟩:=rx;exact SeqAt.EqAt.none_int b t
   | str b=>obtain⟨t,rfl⟩:=rx;exact SeqAt.EqAt.none_str b t
   | _=>exact absurd (show false=true from fx) bG
 | bl a=>
   cases ry
   cases x with
   | non=>cases rx;exact SeqAt.EqAt.bool_none a
   | bl b=>cases rx;exact SeqAt.EqAt.bool_bool a b
   | int b=>obtain⟨t,rfl⟩:=rx;exact SeqAt.EqAt.bool_int a b t
   | str b=>obtain⟨t,rfl⟩:=rx;exact SeqAt.EqAt.bool_str a b t
   | _=>exact absurd (show false=true from fx) bG
 | int a=>
   obtain⟨t',rfl⟩:=ry
   cases x with
   | non=>cases rx;exact SeqAt.EqAt.int_none a t'
   | bl b=>cases rx;exact SeqAt.EqAt.int_bool a t' b
   | int b=>obtain⟨t,rfl⟩:=rx;exact SeqAt.EqAt.int_int a t' b t
   | str b=>obtain⟨t,rfl⟩:=rx;exact xG a t' b t
   | _=>exact absurd (show false=true from fx) bG
 | str a=>
   obtain⟨t',rfl⟩:=ry
   cases x with
   | non=>cases rx;exact SeqAt.EqAt.str_none a t'
   | bl b=>cases rx;exact SeqAt.EqAt.str_bool a t' b
   | int b=>obtain⟨t,rfl⟩:=rx;exact xH a t' b t
   | str b=>obtain⟨t,rfl⟩:=rx;exact SeqAt.EqAt.str_str a t' b t
   | _=>exact absurd (show false=true from fx) bG
 | _=>exact absurd (show false=true from fy) bG
noncomputable def eqU (x:V) (u:Value):Bool:=match u with
 | .none=>eqV .non x
 | .bool b=>eqV (.bl b) x
 | .int i _=>eqV (.int i) x
 | .str z _=>eqV (.str z) x
 | _=>false
theorem AS {x y:V}{u:Value} (r:RelV y u) (f:ll y=true):eqU x u=eqV y x:=by
 cases y with
 | non=>cases r;rfl
 | bl b=>cases r;rfl
 | int i=>obtain⟨t,rfl⟩:=r;rfl
 | str z=>obtain⟨t,rfl⟩:=r;rfl
 | _=>exact absurd (show false=true from f) bG
theorem mK {x:V} : ∀ {xs:List V}{us:List Value},bW xs us->xs.all ll=true->us.any (eqU x)=xs.any fun y=>eqV y x
 | _,_,.nil,_=>rfl
 | y::xs,u::us,.cons r t,f=>by
   rw [bK,ax] at f
   rw [fQ,fQ,AS r f.1,mK t f.2]
theorem kl {A:Around}{s:Shared}{x:V}{v:Value} (rx:RelV x v) (fx:ll x=true) : ∀ {xs:List V}{us:List Value},bW xs us->xs.all ll=true -> ∀ u∈us,SeqAt.EqAt A s u v (eqU x u)
 | _,_,.nil,_=>fun u hu=>by cases hu
 | y::xs,u::us,.cons r t,f=>fun u' hu=>by
   rw [bK,ax] at f
   rcases aR.mp hu with rfl | hu
   ·rw [AS r f.1];exact DQ r rx f.1 fx
   ·exact kl rx fx t f.2 u' hu
noncomputable def inV (x:V) (xs:List V):Bool:=xs.any fun y=>eqV y x
noncomputable def rIn (K:ai) (neg:Bool):R2:=fun x y H Q => ∃ p xs,y = .ref p/\(SqL K H p xs\/SqT K H p xs)/\ll x=true/\xs.all ll=true/\Q (.bl (if neg then !inV x xs else inV x xs)) H
theorem xU:OpR X (compareOp .In) (rIn X.K false):=by
 intro pins s σ H x y v u Q I rx ry h
 obtain⟨p,xs,rfl,hq,fx,fs,q⟩:=h
 cases ry
 rcases hq with hq | hq
 ·obtain⟨its,r,pl,hz⟩:=I.list hq
  refine SeqAt.in_listAt (eqU x) pl.isList (fun w hw=>kl rx fx r fs w (by simpa using hw)) ⟨.bl _,H,I,rfl,?_⟩
  rw [show its.toArray.any (eqU x)=its.any (eqU x) by simp,mK r fs]
  exact q
 ·obtain⟨its,r,pl,hz⟩:=I.tuple hq
  refine SeqAt.in_tupleAt (eqU x) pl (fun w hw=>kl rx fx r fs w (by simpa using hw)) ⟨.bl _,H,I,rfl,?_⟩
  rw [show its.toArray.any (eqU x)=its.any (eqU x) by simp,mK r fs]
  exact q
theorem rO:OpR X (compareOp .NotIn) (rIn X.K true):=by
 intro pins s σ H x y v u Q I rx ry h
 obtain⟨p,xs,rfl,hq,fx,fs,q⟩:=h
 cases ry
 rcases hq with hq | hq
 ·obtain⟨its,r,pl,hz⟩:=I.list hq
  refine SeqAt.notIn_listAt (eqU x) pl.isList (fun w hw=>kl rx fx r fs w (by simpa using hw)) ⟨.bl _,H,I,rfl,?_⟩
  rw [show its.toArray.any (eqU x)=its.any (eqU x) by simp,mK r fs]
  exact q
 ·obtain⟨its,r,pl,hz⟩:=I.tuple hq
  refine SeqAt.notIn_tupleAt (eqU x) pl (fun w hw=>kl rx fx r fs w (by simpa using hw)) ⟨.bl _,H,I,rfl,?_⟩
  rw [show its.toArray.any (eqU x)=its.any (eqU x) by simp,mK r fs]
  exact q
theorem rT:gz X (.builtin "len") (fun xs H Q => ∃ p ys,xs = [.ref p]/\(SqL X.K H p ys\/SqT X.K H p ys)/\Q (.int ys.length) H):=by
 intro pins s σ H xs us Q I r h
 obtain⟨p,ys,rfl,hq,q⟩:=h
 obtain⟨u,rfl,rx⟩:=vals1 r
 cases rx
 have hn:=lG
 rcases hq with hq | hq
 ·obtain⟨its,r',pl,hz⟩:=I.list hq
  have hlen:=r'.length
  exact Calls.call_len_list pl.isList (by simp only [aG] <;> omega) ⟨.int ys.length,H,I.tok _,⟨s.toks+1,by rw [aG,hlen]⟩,q⟩
 ·obtain⟨its,r',pl,hz⟩:=I.tuple hq
  have hlen:=r'.length
  exact len_tuple pl (by simp only [aG] <;> omega) ⟨.int ys.length,H,I.tok _,⟨s.toks+1,by rw [aG,hlen]⟩,q⟩
theorem gz.or {f:Value}{r r':List V->Hp->VK->Prop} (h:gz X f r) (h':gz X f r'):gz X f (fun xs H Q=>r xs H Q\/r' xs H Q):=by
 intro pins s σ H xs us Q I rs q
 rcases q with q | q
 ·exact h pins s σ H xs us Q I rs q
 ·exact h' pins s σ H xs us Q I rs q
theorem qi:gz X (.type "tuple") (fun xs H Q => ∃ p ys,xs = [.ref p]/\((SqL X.K H p ys /\ ∀ l,H l=none->Q (.ref l) (upd H l (.tup ys)))\/(SqT X.K H p ys/\Q (.ref p) H))):=by
 intro pins s σ H xs us Q I r h
 obtain⟨p,ys,rfl,h⟩:=h
 obtain⟨u,rfl,rx⟩:=vals1 r
 cases rx
 rcases h with⟨hq,q⟩ | ⟨hq,q⟩
 ·obtain⟨its,r',pl,hz⟩:=I.list hq
  have hlen:=r'.length
  refine call_tuple_list pl.isList (fun h' kp => ?_) (by simp only [aG] <;> omega)
  have I1:Inv X pins σ H { s with heap:=h' }:=I.kept (t':=s.toks) kp
  have I2:Inv X pins σ (upd H h'.objs.size (.tup ys)) { s with heap:=h'.push { cls := .type "tuple",data := .seq its.toArray } }:=
   I1.laid (t':=s.toks) (fun b o e=>ar _ e) (ak _) (show d4 X.prog X.w _ _ _ (.tup ys) from⟨hz,its,r',xI _ _,_,aF _ rfl,rfl⟩)
  exact⟨.ref h'.objs.size,_,I2,rfl,q _ (I1.hok.fresh (ak _))⟩
 ·obtain⟨its,r',pl,hz⟩:=I.tuple hq
  exact call_tuple_same pl ⟨.ref p,H,I,rfl,q⟩
noncomputable def tyV (K:ai) (T:String) (x:V) (H:Hp):Prop:=match x with
 | .str _=>T="str"
 | .int _=>T="int"
 | .ref p=>(T="list" /\ ∃ xs,SqL K H p xs)\/(T="tuple" /\ ∃ o,K.lookup p=some o/\o.cls = .type "tuple"/\o.dict=none) \/
   (T="dict"/\((∃ kvs,H p=some (.dK kvs)) \/ ∃ kvs,H p=some (.dT kvs)))\/(T="set" /\ ∃ S n,H p=some (.set S n))
 | _=>False
theorem E7 {pins:List (Addr×Obj)}{σ:St}{H:Hp}{s:Shared}{T:String}{x:V}{v:Value} (I:Inv X pins σ H s) (r:RelV x v) (ty:tyV X.K T x H) :
  s.TypeIs v T /\ ∀ a,v = .ref a -> ∃ ob,s.heap.get? a=some ob/\ob.dict=none:=by
 cases x with
 | str z=>
   obtain⟨t,rfl⟩:=r
   cases (show T="str" from ty)
   exact⟨typeIs_str s z t,fun _ e=>nomatch e⟩
 | int i=>
   obtain⟨t,rfl⟩:=r
   cases (show T="int" from ty)
   exact⟨typeIs_int s i t,fun _ e=>nomatch e⟩
 | ref p=>
   cases r
   rcases ty with⟨rfl,xs,hq⟩ | ⟨rfl,o,hk,hc,hd⟩ | ⟨rfl,hk⟩ | ⟨rfl,S,n,hk⟩
   ·obtain⟨its,_,pl,_⟩:=I.list hq
    refine⟨pl.isList.typeIs,fun a e => ?_⟩
    cases e
    obtain⟨o,n,e,c,hd,_⟩:=pl
    exact⟨o,e,hd⟩
   ·refine⟨⟨o,I.kIn p o hk,hc⟩,fun a e => ?_⟩
    cases e
    exact⟨o,I.kIn _ o hk,hd⟩
   ·have z : ∃ o,s.heap.get? p=some o/\o.ExactDict:=by
     rcases hk with⟨kvs,hk⟩ | ⟨kvs,hk⟩
     ·obtain⟨_,_,_,_,o,_,_,e,ex,_⟩:=I.hok p _ hk
      exact⟨o,e,ex⟩
     ·obtain⟨_,_,_,_,o,_,_,e,ex,_⟩:=I.hok p _ hk
      exact⟨o,e,ex⟩
    obtain⟨o,e,ex⟩:=z
    refine⟨⟨o,e,ex.1⟩,fun a e2 => ?_⟩
    cases e2
    exact⟨o,e,ex.2.1⟩
   ·obtain⟨o,_,_,_,e,ex,_⟩:=I.hok p _ hk
    refine⟨⟨o,e,ex.1⟩,fun a e2 => ?_⟩
    cases e2
    exact⟨o,e,ex.2.1⟩
 | _=>exact bM ty
noncomputable def tBM (K:ai) (T:String) (r:V->List V->Hp->VK->Prop) (to:TE) (t:TA):TE:=fun σ H Q=>to σ H fun x H1=>tyV K T x H1/\t σ H1 fun xs H2=>r x xs H2 Q
variable {o e:Expr}{es:List Expr}{to:TE}{t:TA}{name:Str}{apos cpos:Pos}{T id:String}{r:V->List V->Hp->VK->Prop}
theorem DM (pa:PlainAttrs T) (slot:Slot T name id) (hty:typeOf (.builtin id)=pure (.type "method_descriptor")) (hm:MtR X id r) (ho:PE X o to) (ha:PA X (e::es) t)
  (hbase:attributeBase o name X.env (eval o X.env)=eval o X.env:=by rfl)
  (hfew:((backTo cpos (starEach (e::es) X.env)).all (fun x => !x.1)&&(backToKw cpos (keywordEach [] X.env)).all (fun x=>x.1.isSome)
   && decide ((e::es).length+([]:List Keyword).length+(if ([]:List Keyword).isEmpty then 0 else 1) < 30))=true:=by rfl)
  (hline:(apos.endLine == cpos.line)=true:=by rfl) (hs:starEach (e::es) X.env=(false,eval e X.env)::starEach es X.env:=by rfl) (hplain:(backTo cpos (starEach es X.env)).any (·.1)=false:=by rfl) :
  PE X (.Call (.Attribute o name apos) (e::es) [] cpos) (tBM X.K T r to t):=by
 intro pins s σ H Q I h
 refine wpAny_Call_method_late hbase hfew hline rfl (thn (ho pins s σ H _ I h) fun v s1 ⟨x,H1,I1,r1,ty,q1⟩ => ?_)
 obtain⟨h1,h2⟩:=E7 I1 r1 ty
 refine⟨T,id,pa,slot,hty,h1,h2,?_⟩
 have hA:=ha cpos pins s1 σ H1 _ I1 q1
 rw [hs] at hA ⊢
 refine yO (by show (false||(backTo cpos (starEach es X.env)).any (·.1))=false;rw [hplain] <;> rfl) (mP ?_)
 exact thn hA fun us s2 ⟨vs,H2,I2,r2,q2⟩=>hm pins s2 σ H2 x vs v us Q I2 r1 r2 q2
end
end L2
namespace L2
open PySem PySem.Spec PyProof.Rows
noncomputable def MtM (X:Cx) (id:String) (r:V->List V->Hp->VK->Prop):Prop:=
 ∀ (pins:List (Addr×Obj)) (s:Shared) (σ:St) (H:Hp) (x:V) (xs:List V) (v:Value) (us:List Value) (Q:VK),Inv X pins σ H s->RelV x v->bW xs us->r x xs H Q ->
  aJ (model X.prog X.w) X.A (call (.builtin id) (v::us)) (EP X pins σ Q) X.xe s
theorem bW.one : ∀ {x:V}{us:List Value},bW [x] us -> ∃ u,us = [u]/\RelV x u
 | _,_,.cons r .nil=>⟨_,rfl,r⟩
theorem bW.zero : ∀ {us:List Value},bW [] us->us = []
 | _,.nil=>rfl
theorem bW.dropLast {xs:List V}{us:List Value} (h:bW xs us):bW xs.dropLast us.dropLast:=by
 induction h with
 | nil=>exact .nil
 | cons r t ih=>
   cases t with
   | nil=>exact .nil
   | cons q t'=>exact .cons r ih
theorem bW.eraseIdx : ∀ {xs:List V}{us:List Value} (i:Nat),bW xs us->bW (xs.eraseIdx i) (us.eraseIdx i)
 | _,_,_,.nil => .nil
 | _,_,0,.cons _ t=>t
 | _,_,i+1,.cons r t => .cons r (bW.eraseIdx i t)
theorem bW.rep {xs:List V}{us:List Value} (h:bW xs us) : ∀ k:Nat,bW (ay k xs).flatten (ay k us).flatten
 | 0 => .nil
 | k+1=>by
   rw [de,de,eY,eY]
   exact bW.append h (bW.rep h k)
theorem qL {α:Type} : ∀ (l:List α) (i:Nat),(l.eraseIdx i).length<=l.length
 | [],_=>ak _
 | _::_,0=>ck _
 | _::r,i+1=>Nat.succ_le_succ (qL r i)
section
variable {X:Cx}{pins:List (Addr×Obj)}{σ:St}{H:Hp}{s:Shared}{l b:Addr}{xs ys zs:List V}
theorem Inv.lset {its its':List Value}{n:Nat}{f:Array Value->Array Value}{t':Nat} (I:Inv X pins σ H s) (hH:H l=some (.lst xs))
  (e:s.heap.get? l=some { cls := .type "list",data := .seq its.toArray n }) (hf:f its.toArray=its'.toArray) (hv:bW ys its') (hz:ys.length<=sizeLine) :
  Inv X pins σ (upd H l (.lst ys)) { s with heap:=s.heap.update l (eJ f),toks:=t' }:=by
 have q:=A3 e f
 rw [hf] at q
 refine I.write (x:=l) (e:=l) (by rw [hH];exact trivial) (.inl rfl) (fun b' u hb hu=>(eB s.heap (eJ f) (df hb)).trans hu) ⟨_,q⟩ ?_
 exact⟨hz,its',_,hv,q⟩
theorem Inv.lnew {its:List Value}{t':Nat} (I:Inv X pins σ H s) (hv:bW ys its) (hz:ys.length<=sizeLine) :
  Inv X pins σ (upd H s.heap.objs.size (.lst ys)) { s with heap:=s.heap.push { cls := .type "list",data := .seq its.toArray },toks:=t' }:=
 I.laid (fun _ _ q=>ar _ q) (ak _) ⟨hz,its,0,hv,aF _ rfl⟩
theorem Inv.fresh (I:Inv X pins σ H s):H s.heap.objs.size=none:=I.hok.fresh (ak _)
theorem Inv.lstM (I:Inv X pins σ H s) (hH:H l=some (.lst xs)):xs.length<=sizeLine /\ ∃ (its:List Value) (n:Nat),bW xs its/\xs.length=its.length/\s.heap.get? l=some { cls := .type "list",data := .seq its.toArray n }:=by
 obtain⟨z,its,n,r,e⟩:=I.hok l _ hH
 exact⟨z,its,n,r,r.length,e⟩
end
section
variable {X:Cx}
noncomputable def wU:V->List V->Hp->VK->Prop:=fun x vs H Q => ∃ l xs y,x = .ref l/\vs = [y]/\H l=some (.lst xs)/\xs.length < sizeLine/\Q .non (upd H l (.lst (xs ++ [y])))
theorem xV:MtM X "list.append" wU:=by
 intro pins s σ H x vs v us Q I rx rv h
 obtain⟨l,xs,y,rfl,rfl,hH,hz,q⟩:=h
 cases rx
 obtain⟨u,rfl,ru⟩:=rv.one
 obtain⟨z,its,n,r,hl,e⟩:=I.lstM hH
 refine call_meets F.slot_list_append ⟨_,e,rfl⟩ F.entry_list_append (F.args_list_append_2 _ _) (PySem.list_append l its.toArray n u (by rw [aG];omega)) ⟨e,?_⟩
 refine⟨.non,_,I.lset (its':=its ++ [u]) hH e (by simp) (r.append (.cons ru .nil)) ?_,rfl,q⟩
 rw [be,List.length_singleton]
 omega
noncomputable def zU:V->List V->Hp->VK->Prop:=fun x vs H Q => ∃ l xs i k y,x = .ref l/\vs = [.int i]/\H l=some (.lst xs) /\ -(2 ^ 63)<=i/\i < 2 ^ 63/\seqIndex? i xs.length=some k/\xs[k]? = some y/\Q y (upd H l (.lst (xs.eraseIdx k)))
theorem zI:MtM X "list.pop" zU:=by
 intro pins s σ H x vs v us Q I rx rv h
 obtain⟨l,xs,i,k,y,rfl,rfl,hH,h1,h2,hk,hy,q⟩:=h
 cases rx
 obtain⟨u,rfl,ru⟩:=rv.one
 obtain⟨t,rfl⟩:=ru
 obtain⟨z,its,n,r,hl,e⟩:=I.lstM hH
 obtain⟨w,hw,rw'⟩:=r.get hy
 refine call_meets F.slot_list_pop ⟨_,e,rfl⟩ F.entry_list_pop (F.args_list_pop_2 _ _)
  (MeetsSeq.list_pop_at l its.toArray n i t k w (fitsIndex_both h1 h2) (by rw [aG,<- hl];exact hk) (by rw [<- Array.getElem?_toList];exact hw) (by rw [aG];omega)) ⟨e,?_⟩
 refine⟨y,_,I.lset (its':=its.eraseIdx k) hH e ?_ (r.eraseIdx k) ?_,rw',q⟩
 ·show its.toArray.eraseIdxIfInBounds k=(its.eraseIdx k).toArray
  rw [List.eraseIdxIfInBounds_toArray]
 ·have:=qL xs k
  omega
noncomputable def Hz:R2:=fun x y H Q => ∃ l b xs zs,x = .ref l/\y = .ref b/\H l=some (.lst xs)/\H b=some (.lst zs)/\xs.length+zs.length<=sizeLine /\ ∀ p,H p=none->Q (.ref p) (upd H p (.lst (xs++zs)))
theorem DW:OpR X (binaryOp .Add) Hz:=by
 intro pins s σ H x y v u Q I rx ry h
 obtain⟨l,b,xs,zs,rfl,rfl,hH,hB,hz,q⟩:=h
 cases rx
 cases ry
 obtain⟨z,its,n,r,hl,e⟩:=I.lstM hH
 obtain⟨z2,its2,n2,r2,hl2,e2⟩:=I.lstM hB
 refine PySem.P.add_list e e2 ?_ (by rw [aG,aG];omega)
 have ea:its.toArray++its2.toArray=(its++its2).toArray:=by simp
 rw [ea]
 exact⟨.ref _,_,I.lnew (t':=s.toks) (r.append r2) (by rw [be];omega),rfl,q _ I.fresh⟩
theorem len_rep {α:Type} (xs:List α) (k:Nat):(ay k xs).flatten.length=k*xs.length:=by
 induction k with
 | zero=>simp
 | succ k ih=>rw [de,eY,be,ih,qr,lN]
end
section
variable {prog:Program}{w:World}{A:Around}{E:Value->Shared->Prop}{s:Shared}
end
section
variable {X:Cx}
end
end L2
namespace Att
open PySem PySem.W PySem.Calls PyProof.Rows
theorem nN {P:Params}{h:Heap} : ∀ (ns:List Int) (vs:List Value),WellAll P h vs (ns.map WData.int)->IntsAre vs ns:=by
 intro ns
 induction ns with
 | nil=>
   intro vs w
   rw [yY] at w
   cases w
   exact .nil
 | cons n ns ih=>
   intro vs w
   rw [bT] at w
   cases w with
   | cons a b=>
     cases a
     exact .cons _ _ (ih _ b)
theorem yg {l:OpenLaw}{n:Nat} (hn:l.most=some n) {P:Params}{h:Heap}{args:List WData}{vals:List Value}
  (hpre:l.row.toRowW.claim.pre args=true) (hwl:WellAll P h vals args) :
  ∃ a vs ns,vals = [bj a]/\args = [WData.list (ns.map WData.int)]/\h.get? a=some { cls := .type "list",data := .seq vs.toArray }/\IntsAre vs ns/\ns.length<=n:=by
 have hsh:WShape.hasAll [] args [.list .int]=true:=(pre_splitW hpre).1
 have hc:l.pre.holds [] { args:=args }=true:=(pre_splitW hpre).2
 obtain⟨d,r,rfl,h1,h2⟩:=hasAllW_cons hsh
 obtain rfl:=hasAllW_nil h2
 obtain⟨xs,rfl,h3⟩:=hasW_list h1
 obtain⟨ns,rfl⟩:=items_int h3
 have hlen:ns.length<=n:=by
  unfold OpenLaw.pre at hc
  have h4:(WTm.not (.lt (.lit (.int (n:Int))) (.len (.arg 0)))).holds [] { args := [.list (ns.map .int)] }=true:=by
   have h4:=(holds_andW hc).1
   rw [hn] at h4
   exact h4
  have h5:=condW_of h4 (w_not (w_lt w_lit (w_len_list (w_arg rfl))))
  rw [aI] at h5
  refine dn fun q => ?_
  have q':(n:Int) < ((ns.length:Nat):Int):=by omega
  first
   | (rw [decide_eq_true q'] at h5;exact absurd h5 (by decide))
   | (simp at h5;omega)
 cases hwl with
 | cons w1 w2=>
   cases w2
   cases w1 with
   | list ho hall=>exact⟨_,_,ns,rfl,rfl,ho,nN ns _ hall,hlen⟩
theorem yx (l:OpenLaw) (args:List WData):l.row.toRowW.claim.post args (.bool true) args=true:=
 postW_of (r:=l.row.toRowW) (X:=(true == true))
  (show WShape.has [] (.bool true) .bool=true by first | rfl | decide | simp [WShape.has,WShape.arms,WShape.armsAll])
  (show (WTm.eq .res (.lit (.bool true))).value [] { args:=args,res:=some (.bool true),after:=args }=some (.bool (true == true)) from w_eq_bool (w_res rfl) w_lit) rfl
theorem attach_call {l:OpenLaw}{n:Nat}{q:Program}{loose:List Str}{XP:(Str->Option Value)->Heap->Prop}{YP:World->Heap->Prop}{d:DefRec}
  (hn:l.most=some n) (hdf:d.params.defaults = [])
  (call : ∀ (w:World) (s₀ s₁:Shared) (mg mb:Str->Option Value) (fa:Addr) (o:Obj) (pm cd doc:Value) (a:Addr) (vs:List Value) (ns:List Int),
   Ground q loose [] XP w s₀ mg mb s₁.heap->YP w s₁.heap ->
   s₁.heap.get? fa=some o->o.data = .func (docDef d.name d.params d.body d.scope pm cd doc)->s₁.heap.CodeRec cd d.name->mg d.name=some (.ref fa) ->
   s₁.heap.get? a=some { cls := .type "list",data := .seq vs.toArray }->IntsAre vs ns->ns.length<=n->s₁.gens = #[] ->
   nr (model l.prog w) callerA (.call (.ref fa) ⟨[.ref a],[]⟩) (fun r s'=>r = .ok (.ret (.bool true))/\OldK s₁.heap s'.heap/\s'.os=s₁.os/\AllBare s'.gens) s₁) :
  WalkO q loose XP YP l.row.toRowW d [] (fun f vs=>PySem.call f vs):=by
 intro w s₀ s₁ mg mb G Y fa o pm cd doc dV kV ho hd hcd hD hmg hg args vals as hpre hlay hrd hwl hlo
 obtain rfl:dV = .none:=Dflts.none hD hdf
 obtain rfl:kV = .none:=Dflts.noKw hD
 obtain⟨a,vs,ns,rfl,rfl,hobj,hints,hlen⟩:=yg hn hpre hwl
 refine enter_call (jF (call w s₀ s₁ mg mb fa o pm cd doc a vs ns G Y ho (fd_plain hd) hcd hmg hobj hints hlen hg) fun r s' hq => ?_)
 obtain⟨rfl,h2,h3,h4⟩:=hq
 exact⟨.inl ⟨.bool true,.bool true,[],rfl,fun _=>rfl,.bool true,yx l _,fun _=>⟨fH,fun _ hm=>(nomatch hm)⟩⟩,h2,h3,h4⟩
section
variable {prog:Program}{w:World}{A:Around}{E:Value->Shared->Prop}{s:Shared}{K:Frag}
end
end Att
namespace L2
open PySem PySem.Spec PyProof.Rows
end L2
namespace L2
open PySem PySem.Spec PyProof.Rows
abbrev KOf {K:ai}{h:Heap} (_:K.In h):ai:=K
end L2
namespace L2
open PySem PySem.Spec PyProof.Rows
noncomputable def ft (s:Stmt):Arguments:=match s with
 | .FunctionDef _ a _ _ _ _ _ _ _ _=>a
 | _=>{ posonlyargs := [],args := [],vararg:=none,kwonlyargs := [],kw_defaults := [],kwarg:=none,defaults := [] }
noncomputable def aY (s:Stmt):List Stmt:=match s with
 | .FunctionDef _ _ b _ _ _ _ _ _ _=>b
 | _ => []
noncomputable def aw (s:Stmt):Scope:=match s with
 | .FunctionDef _ _ _ _ _ _ sc _ _ _=>sc
 | _=>{ kind := .function,names := [],isGenerator:=false,isCoroutine:=false }
abbrev CX0:CXT:=fun _ _ _ _ _ _=>False
abbrev E0:XK:=fun _ _ _=>False
theorem xl {X:Cx}:oY CX0 X E0:=fun _ _ _ _ _ _ _ h=>h.elim
structure Fun (K:ai) (x qual:Str) (st:Stmt) (f:Addr) (fd:FuncData):Prop where
 ex : ∃ (oc:Value) (od:Option Addr) (kV doc pm:Value) (an:Option Addr) (cdv ct:Value) (osl:Array (Option Value)),
  fd=cH x qual (ft st) (aY st) (aw st) .none kV doc pm an cdv ct/\K.lookup f=some ⟨oc,od,.func fd,osl⟩/\eX K cdv qual=true
 kp:bN K (.ref f)=true
section
variable {P:Program}{w:World}{K:ai}{mg:Str->Option Value}{base:Heap}
theorem Fun.ok {x qual:Str}{st:Stmt}{f:Addr}{fd:FuncData}{N ps:List Str}{k:Nat}{sp:Sp} (F:Fun K x qual st f fd) (S:bC N ps (aw st)) (len : ∀ vs H Q E,sp vs H Q E->vs.length=ps.length)
  (hbody : ∀ (cdv:Value) (A:Around) (outer:List Env) (s:Shared) (H:Hp) (vs:List V) (Q:VK) (E:XK),i6 k (A.deeper (envOfC qual (aw st) s.heap.objs.size f cdv))->sp vs H Q E ->
   ∃ t,PSs (o4 CX0 P w K mg base N qual (aw st) f cdv A outer s H E).nox (aY st) t/\t { nx:=fun _ H'=>Q .non H',rt:=Q } (start N vs) H):gZ P w K mg base CX0 (k+1) f fd ps sp:=by
 obtain⟨oc,od,kV,doc,pm,an,cdv,ct,osl,rfl,lk,hcd⟩:=F.ex
 refine tW lk hcd S len fun A outer s H vs Q E hr hsp => ?_
 obtain⟨t,h,q⟩:=hbody cdv A outer s H vs Q E hr hsp
 exact⟨t,h.nox,q⟩
theorem Fun.binds {x qual:Str}{st:Stmt}{f:Addr}{fd:FuncData}{ps:List Str} (F:Fun K x qual st f fd)
  (h : ∀ (kV doc pm:Value) (an:Option Addr) (cdv ct:Value) (us:List Value),us.length=ps.length->bindArgs (cH x qual (ft st) (aY st) (aw st) .none kV doc pm an cdv ct) ⟨us,[]⟩=pure (ps.zip us)):Binds K fd ps []:=by
 obtain⟨oc,od,kV,doc,pm,an,cdv,ct,osl,rfl,lk,hcd⟩:=F.ex
 exact .all (h kV doc pm an cdv ct)
theorem Eu {x qual:Str}{st:Stmt}{f:Addr}{oc:Value}{od an:Option Addr}{osl:Array (Option Value)}{kV doc pm cdv ct:Value} (l:K.lookup f=some ⟨oc,od,.func (cH x qual (ft st) (aY st) (aw st) .none kV doc pm an cdv ct),osl⟩)
  (c:eX K cdv qual=true) (k:bN K (.ref f)=true):Fun K x qual st f (cH x qual (ft st) (aY st) (aw st) .none kV doc pm an cdv ct):=⟨⟨oc,od,kV,doc,pm,an,cdv,ct,osl,rfl,l,c⟩,k⟩
end
section
variable {X:Cx}
end
theorem Js {A B:Prop} (h:B):if false=true then A else B:=by
 rw [if_neg bG]
 exact h
theorem JT {A B:Prop} (h:A):if true=true then A else B:=by
 rw [if_pos rfl]
 exact h
end L2
end
section
namespace PySem
namespace GR
theorem vb:typeLookup (.type "tuple") "__reversed__"=pure none:=by rw [typeLookup_type,builtinLookup_eq_fast];kernel_rfl
theorem uo:isSubtype (.type "tuple") (.type "dict")=pure false:=by rw [isSubtype_type];kernel_rfl
theorem qS:Manifest.owners.lookup (String.ofList ['d','e','s','r','e','v','e','r'].reverse)=some Manifest.sig_reversed:=by kernel_rfl
theorem fg:Slot "reversed" "__next__" "reversed.__next__":=
 .of (owner:="reversed") (n:="__next__") (by rw [typeLookup_type,builtinLookup_eq_fast];kernel_rfl) (by decide +kernel) (by decide +kernel) (by decide +kernel) (by first | exact .inl (by decide +kernel) | exact .inr (by decide +kernel)) (by rw [isSubtype_type];kernel_rfl)
theorem j0:entryFor table "reversed.__next__"=some Builtin.«reversed.__next__»:=entryFor_of_tree (by kernel_rfl)
theorem jy (a:Value):argsOk "reversed.__next__" ⟨[a],[]⟩:=by
 unfold argsOk;rw [signature?_of (id:="reversed.__next__") (n := ['_','_','t','x','e','n','_','_']) (o := ['d','e','s','r','e','v','e','r']) (by kernel_rfl) qS];kernel_rfl
theorem lh:Slot "reversed" "__iter__" "reversed.__iter__":=
 .of (owner:="reversed") (n:="__iter__") (by rw [typeLookup_type,builtinLookup_eq_fast];kernel_rfl) (by decide +kernel) (by decide +kernel) (by decide +kernel) (by first | exact .inl (by decide +kernel) | exact .inr (by decide +kernel)) (by rw [isSubtype_type];kernel_rfl)
theorem nI (a:Value):argsOk "reversed.__iter__" ⟨[a],[]⟩:=by
 unfold argsOk;rw [signature?_of (id:="reversed.__iter__") (n := ['_','_','r','e','t','i','_','_']) (o := ['d','e','s','r','e','v','e','r']) (by kernel_rfl) qS];kernel_rfl
theorem pf:entryFor table "reversed.__iter__"=some Builtin.«dict_keyiterator.__iter__»:=
 entryFor_alias (id':="dict_keyiterator.__iter__") (by kernel_rfl) (by first | rfl | decide +kernel | (unfold String.splitOn;simp +decide [String.splitOnAux])) (by decide +kernel) (by kernel_rfl)
theorem wN:mroOf (.type "reversed")=pure [.type "reversed",.type "object"]:=by rw [mroOf_type];kernel_rfl
theorem oS:typeLookup (.type "reversed") "__new__"=pure (some (.builtin "reversed.__new__")):=by rw [typeLookup_type,builtinLookup_eq_fast];kernel_rfl
theorem pZ:Slot "reversed" "__init__" "object.__init__":=
 .of (owner:="object") (n:="__init__") (by rw [typeLookup_type,builtinLookup_eq_fast];kernel_rfl) (by decide +kernel) (by decide +kernel) (by decide +kernel) (by first | exact .inl (by decide +kernel) | exact .inr (by decide +kernel)) (by rw [isSubtype_type];kernel_rfl)
theorem vz:TypeCalled "reversed" "reversed.__new__" "object.__init__":=
 ⟨by decide +kernel,by decide +kernel,⟨_,_,wN⟩,madeBy_type wN oS (by decide +kernel),by decide +kernel,by rw [isSubtype_type];kernel_rfl,pZ⟩
theorem pb (a:Value):checkTypeCall "reversed" ⟨[a],[]⟩=pure ():=by kernel_rfl
theorem qg (a:Value):checkBuiltinCall "reversed.__new__" ⟨[.type "reversed",a],[]⟩=pure ():=by kernel_rfl
theorem qo:entryFor table "reversed.__new__"=some Builtin.«reversed.__new__»:=entryFor_of_tree (by kernel_rfl)
theorem Bk:isSubtype (.type "reversed") (.type "reversed")=pure true:=by rw [isSubtype_type];kernel_rfl
theorem su (a:Value):lO "reversed" ⟨[.type "reversed",a],[]⟩=pure (.type "reversed",[a]):=by
 unfold lO;simp only [isType,Bk,pure_bind,Bool.not_true,dj,if_false]
noncomputable def revT (t:Addr) (i:Int):Obj:={ cls := .type "reversed",data := .fields #[.ref t,rawInt i] }
noncomputable def IsRevT (h:Heap) (a t:Addr) (i:Int):Prop := ∃ o,h.get? a=some o/\o.cls = .type "reversed"/\o.data = .fields #[.ref t,rawInt i]
theorem IsRevT.typeIs {s:Shared}{a t:Addr}{i:Int} (x:IsRevT s.heap a t i):s.TypeIs (.ref a) "reversed":=let ⟨o,ho,hc,_⟩:=x;⟨o,ho,hc⟩
theorem IsRevT.at {h h':Heap}{a t:Addr}{i:Int} (x:IsRevT h a t i) (e : ∀ o,h.get? a=some o->h'.get? a=some o):IsRevT h' a t i:=let ⟨o,ho,r⟩:=x;⟨o,e _ ho,r⟩
open PyProof.Rows in
theorem pX (t:Addr) (items:Array Value):Meets (Builtin.«reversed.__new__» ⟨[.type "reversed",.ref t],[]⟩) (fun _ R s=>IsTup s.heap t items/\(items.size:Int) < 2 ^ 63 /\
   R (.ok (.ret (.ref s.heap.objs.size))) { s with heap:=s.heap.push (revT t ((items.size:Int) - 1)),toks:=s.toks+1+1 }):=
 .of_wp fun prog w A R s h=>by
  obtain⟨ht,hz,h⟩:=h;unfold Builtin.«reversed.__new__»;refine aj (gX (su _) ?_);(try dsimp only);refine aj (gX (a:=()) (by first | rfl | kernel_rfl) ?_);refine aj (gX (a:=()) (by first | rfl | kernel_rfl) ?_);(try dsimp only);refine aj (yP ht.typeIs vb ?_);(try dsimp only);refine aj ?_;show aJ _ _ (isInstance (.ref t) (.type "dict") >>= _) _ _ s;refine aj (we ht.typeIs uo ?_);rw [if_neg bG];show aJ _ _ (specialOf (.ref t) (fI "__getitem__") >>= _) _ _ s;refine aj (yP ht.typeIs slot_tuple_getitem.lookup ?_);refine wpAny_ite ?_;rw [if_pos (by decide +kernel)];refine bc ?_;rw [if_neg (by decide)];refine aj (len_tuple ht hz ?_);refine aj (gX (a:=some (items.size:Int)) rfl ?_);refine aj ?_;unfold Builtin.SmallTypes.newRecord;exact d8 (bc ⟨_,rfl,h⟩)
section
variable {prog:Program}{w:World}{A:Around}{E:Value->Shared->Prop}{s:Shared}
open PyProof.Rows
theorem call_rev {t:Addr}{items:Array Value}{Q:Value->Shared->Prop} (ht:IsTup s.heap t items) (hz:(items.size:Int) < 2 ^ 63)
  (h:Q (.ref s.heap.objs.size) { s with heap:=s.heap.push (revT t ((items.size:Int) - 1)),toks:=s.toks+1+1 }):aJ (model prog w) A (call (.type "reversed") [.ref t]) Q E s:=
 callType_new vz (by decide) (pb _) (qg _) (fun obj=>F.args_object_init_2 obj _) qo (pX t items) ⟨ht,hz,⟨_,aF _ rfl,rfl⟩,h⟩
theorem next_rev_item {it t:Addr}{i:Nat}{items:Array Value}{x:Value}{Q:Option Value->Shared->Prop} (hit:IsRevT s.heap it t (i:Int)) (ht:IsTup s.heap t items) (hx:items[i]? = some x) (hz:(items.size:Int) < 2 ^ 63)
  (hQ : ∀ h',IsRevT h' it t ((i:Int) - 1)->dz it s.heap h'->Q (some x) { s with heap:=h',toks:=s.toks+1 }):aJ (model prog w) A (pyNext (.ref it)) Q E s:=by
 obtain⟨o,ho,hc,hd⟩:=id hit
 have hi:i < items.size:=(Array.getElem?_eq_some_iff.mp hx).1
 unfold pyNext;refine aj (lP (dA (name:=fI "__next__") hit.typeIs fg (dJ fg hit.typeIs j0 ?_ (jy _))));unfold Builtin.«reversed.__next__»;refine aj (gX (a:=(bj it,[])) rfl ?_);(try dsimp only);refine aj (cZ ho hd (x := .ref t) rfl ?_);refine aj (cZ ho hd (x:=rawInt (i:Int)) rfl ?_);show aJ _ _ (if (i:Int) < 0 then _ else _) _ _ s;rw [if_neg (by omega)];refine aj (yP ht.typeIs slot_tuple_getitem.lookup ?_);(try dsimp only);rw [if_neg (by simp)];refine aj (wpAny_mkInt ?_);refine aj (lP (getItem_tuple (j:=i) (x:=x) (s:={ s with toks:=s.toks+1 }) ht (by omega) (by omega) ?_ hx ?_))
 ·unfold seqIndex?
  simp
  omega
 ·refine aj (cZ (s:={ s with toks:=s.toks+1 }) ho hd (x:=rawInt (i:Int)) rfl ?_);refine aj (kq (s:={ s with toks:=s.toks+1 }) ho hd (by simp) ?_);refine bc ⟨x,rfl,bc (hQ _ ?_ (eR ..))⟩
  exact⟨_,eQ _ ho (mQ (eK hd _)),(Obj.cls_mapFields ..).trans hc,by
   rw [eK hd];simp⟩
theorem next_rev_end {it t:Addr}{Q:Option Value->Shared->Prop} (hh:A.handled=none) (hit:IsRevT s.heap it t (-1))
  (hQ : ∀ h',sy it s.heap h'->Q none { s with heap:=h' }):aJ (model prog w) A (pyNext (.ref it)) Q E s:=by
 obtain⟨o,ho,hc,hd⟩:=id hit;unfold pyNext;refine aj (lP (dA (name:=fI "__next__") hit.typeIs fg (dJ fg hit.typeIs j0 ?_ (jy _))));unfold Builtin.«reversed.__next__»;refine aj (gX (a:=(bj it,[])) rfl ?_);(try dsimp only);refine aj (cZ ho hd (x := .ref t) rfl ?_);refine aj (cZ ho hd (x:=rawInt (-1)) rfl ?_);show aJ _ _ (if (-1:Int) < 0 then _ else _) _ _ s;rw [if_pos (by decide)];refine aj (wpAny_rule ?_);refine aj ?_;show aJ _ _ (setField (.ref it) 1 (rawInt (-1)) >>= _) _ _ s;refine aj (kq ho hd (by simp) ?_)
 have g1:=eQ (h:=s.heap) (a:=it) (Obj.mapFields (·.setIfInBounds 1 (rawInt (-1)))) ho (mQ (eK hd _))
 have d1:=eK hd (·.setIfInBounds 1 (rawInt (-1)))
 refine kq g1 d1 (by simp) ?_;refine aj ?_;show aJ _ _ (newExc (.type "StopIteration") [] >>= _) _ _ _;refine aj ?_;simp only [newExc,newTuple];refine aj (d8 ?_ (by size_fits));refine aj (m:=firstArgMember _ _) (gX (a:=fk) (by first | rfl | (simp only [firstArgMember];rfl)) ?_);refine d8 ?_ (by size_fits);simp only [raiseNew];refine aj (wpAny_handled ?_)
 first | rw [show A.in1.handled=none from hh] | rw [hh]
 refine aj (bc (wpAny_throw ?_));refine aj (we (T:="StopIteration") (b:=true) ⟨_,aF _ rfl,rfl⟩ isSubtype_stop ?_);exact bc (hQ _ ((((eR ..).extBut.trans (eR ..).extBut).push _).push _))
theorem iter_rev {it t:Addr}{i:Int}{Q:Value->Shared->Prop} (hit:IsRevT s.heap it t i) (h:Q (.ref it) s):aJ (model prog w) A (pyIter (.ref it)) Q E s:=by
 refine wpAny_pyIter_slot hit.typeIs lh (dJ lh hit.typeIs pf ?_ (nI _));show aJ _ _ (ret (.ref it)) _ _ s;exact bc ⟨_,rfl,"reversed",_,hit.typeIs,fg.lookup,h⟩
end
end GR
end PySem
namespace L2
open PySem PySem.Spec PyProof.Rows
noncomputable def Itv (K:ai) (a:Addr) (n:Nat):It:=
 ⟨fun i H => ∃ xs x,SqT K H a xs/\xs.length=n/\xs.reverse[i]? = some x,fun i H x H'=>H'=H /\ ∀ xs,SqT K H a xs->xs.reverse[i]? = some x,fun i H => ∃ xs,SqT K H a xs/\xs.length=n/\n<=i⟩
theorem Am {P:Program}{w:World}{K:ai}{tg:Expr} (a it:Addr) (n:Nat):Turn P w K tg (Itv K a n) [it] it (fun i h=>i<=n/\GR.IsRevT h it a ((n:Int) - 1 - (i:Nat))) where
 mem:=by simp
 obj:=fun i h st b hb=>by
  have e:b=it:=by simpa using hb
  subst e;obtain⟨_,o,e,c,d⟩:=st;exact⟨o,e,fun v z=>by rw [d] at z;cases z⟩
 keep:=fun i h h' st k=>⟨st.1,st.2.at fun o e=>k it (by simp) o e⟩
 item:=by
  intro X hP hw hK hc i pins s σ H E I hf st hg
  subst hP hw hK;obtain⟨xs,x,hq,hn,hx⟩:=hg;obtain⟨its,rv,p,hz⟩:=I.tuple hq
  have hl:=rv.length
  have hi:i < n:=by have:=(af.mp hx).1;rw [nE] at this;omega
  have hx':xs[n - 1 - i]? = some x:=by
   rw [List.getElem?_reverse (by omega),hn] at hx;exact hx
  obtain⟨u,hu,ru⟩:=rv.get hx';obtain⟨f0,f1,f2,f3,f4,f5⟩:=hf it (by simp)
  have hn63:=lG
  have st1:=st.2
  rw [show (n:Int) - 1 - (i:Nat)=((n - 1 - i:Nat):Int) by omega] at st1
  refine GR.next_rev_item st1 p (x:=u) (by simpa using hu) (by rw [aG];omega) fun h' st' sb => ?_
  have I1:Inv X pins σ H { s with heap:=h',toks:=s.toks+1 }:=I.turned (t':=s.toks+1) (fun b o hb e=>(sb.2 b hb).trans e) f0 f1 f3 f4 f5
  rw [show ((n - 1 - i:Nat):Int) - 1=(n:Int) - 1 - ((i+1:Nat):Int) by omega] at st'
  obtain⟨o,e,c,d⟩:=id st';exact⟨u,rfl,wX (s:={ s with heap:=h',toks:=s.toks+1 }) e c d (by decide) ⟨x,H,I1,ru,⟨rfl,fun ys hy=>by rw [I.tuple_inj hy hq];exact hx⟩,⟨by assumption,st'⟩,fun b hb=>(hf b hb).1⟩⟩
 done:=by
  intro X hP hw hK hc i pins s σ H E I hf st hg
  subst hP hw hK;obtain⟨xs,hq,hn,hx⟩:=hg;obtain⟨f0,f1,f2,f3,f4,f5⟩:=hf it (by simp)
  have st1:=st.2
  rw [show (n:Int) - 1 - (i:Nat) = -1 by have:=st.1;omega] at st1;exact GR.next_rev_end (I.ok.hd hc) st1 fun h' eb=>⟨rfl,I.turned (t':=s.toks) (fun b o hb e=>eb b o hb e) f0 f1 f3 f4 f5⟩
 self:=fun _ _ _ _ _ st h=>GR.iter_rev st.2 h
section
variable {X:Cx}{tg:Expr}
noncomputable def sX (K:ai) (ta:TA):TI:=fun σ H R=>ta σ H fun vs H1 => ∃ a xs,vs = [.ref a]/\SqT K H1 a xs/\R (Itv K a xs.length) H1
theorem EJ {a:Expr}{ta:TA}{p pos:Pos} (hg:Gl X "reversed") (hm:X.mg "reversed"=none) (ha:PA X [a] ta) (hs:starEach [a] X.env = [(false,eval a X.env)]:=by rfl):PI X tg (.Call (.Name "reversed" p) [a] [] pos) (sX X.K ta):=by
 intro pins s σ H R I h
 refine Call_ (iP I hg hm PyProof.Rows.boot_reversed (bZ (thn (ha pos pins s σ H _ I h) fun us s1 ⟨vs,H1,I1,r1,q1⟩ => ?_) hs rfl));obtain⟨b,xs,e,hq,q⟩:=q1;subst e
 cases r1 with
 | cons r rr=>
   cases rr
   cases r
   obtain⟨its,rv,pt,hz⟩:=I1.tuple hq
   have hl:=rv.length
   have hn63:=lG
   refine GR.call_rev pt (by rw [aG];omega) ?_
   have I2:Inv X pins σ H1 { s1 with heap:=s1.heap.push (GR.revT b ((its.toArray.size:Int) - 1)),toks:=s1.toks+1+1 }:=I1.kept fun b o e=>ar _ e
   have st:GR.IsRevT (s1.heap.push (GR.revT b ((its.toArray.size:Int) - 1))) s1.heap.objs.size b ((xs.length:Int) - 1 - (0:Nat)):=⟨_,aF _ rfl,rfl,by
    show A6 #[.ref b,rawInt _]=_;rw [aG,hl];simp⟩
   refine GR.iter_rev st ?_;refine⟨s1.heap.objs.size,[s1.heap.objs.size],_,_,H1,rfl,I2,Am b _ xs.length,⟨eA _,st⟩,fun c hc => ?_,q⟩
   have e:c=s1.heap.objs.size:=by simpa using hc
   subst e;exact I1.fpOk (ak _) (I1.hok.fresh (ak _))
end
end L2
end
section
namespace PySem
namespace GE
open AutoSeq1 (wpAny_loadPart')
theorem vF (l:Addr) (items:Array Value) (n:Nat) (dct:Option Addr) (sl:Array (Option Value)):Meets (Builtin.«enumerate.__new__» ⟨[.type "enumerate",.ref l],[]⟩) (fun _ R s=>s.heap.get? l=some { cls := .type "tuple",dict:=dct,data := .seq items n,slots:=sl } /\
   R (.ok (.ret (.ref (s.heap.push { cls := .type "tuple_iterator",data := .fields #[.ref l,.int 0 0] }).objs.size))) { s with heap:=(s.heap.push { cls := .type "tuple_iterator",data := .fields #[.ref l,.int 0 0] }).push { cls := .type "enumerate",data := .fields #[.none,.bool false,.ref s.heap.objs.size,rawInt 0,.none,.none] } }):=
 .of_wp fun prog w A R s h=>by
  obtain⟨hp,g,d,tk,os⟩:=s;obtain⟨hl,h⟩:=h;have hsub:=sub_enumerate;have hT:Heap.IsTuple (Shared.heap ⟨hp,g,d,tk,os⟩) l items:=⟨_,hl,rfl,n,rfl⟩
  wp_walk using dk hl
  refine wpAny_stack_any fun st=>bc ?_;split
  ·rename_i c _ _ _ _ _
   cases (c == uT "enumerate") <;> (wp_walk using dk hl,sv hT;exact⟨_,rfl,h⟩)
  ·wp_walk using dk hl,sv hT;exact⟨_,rfl,h⟩
section
variable {prog:Program}{w:World}{A:Around}{E:Value->Shared->Prop}{s:Shared}
theorem vw {l:Addr}{items:Array Value}{Q:Value->Shared->Prop} (hT:s.heap.IsTuple l items)
  (h : ∀ h',IsEnum h' (s.heap.objs.size+1) s.heap.objs.size 0 .none->h'.IsTupleIter s.heap.objs.size l 0->h'.objs.size=s.heap.objs.size+2->(∀ b o,s.heap.get? b=some o->h'.get? b=some o)->Q (.ref (s.heap.objs.size+1)) { s with heap:=h' }):aJ (model prog w) A (call (.type "enumerate") [.ref l]) Q E s:=by
 obtain⟨⟨c,dct,dt,sl⟩,hl,hc,n,hd⟩:=hT;replace hc:c = .type "tuple":=hc;replace hd:dt = .seq items n:=hd;subst hc hd
 refine callType_new F.called_enumerate (by decide) (F.typeCall_enumerate_1 _) (F.newCall_enumerate_1 _) (fun obj=>F.args_object_init_2 obj _) F.entry_enumerate_new (vF l items n dct sl) ⟨hl,?_⟩
 have hz:(s.heap.push { cls := .type "tuple_iterator",data := .fields #[.ref l,.int 0 0] }).objs.size=s.heap.objs.size+1:=bw ..;show _/\_;rw [hz]
 have he:IsEnum ((s.heap.push { cls := .type "tuple_iterator",data := .fields #[.ref l,.int 0 0] }).push { cls := .type "enumerate",data := .fields #[.none,.bool false,.ref s.heap.objs.size,rawInt 0,.none,.none] }) (s.heap.objs.size+1) s.heap.objs.size 0 .none:=by
  have:=aF (s.heap.push { cls := .type "tuple_iterator",data := .fields #[.ref l,.int 0 0] }) (o:={ cls := .type "enumerate",data := .fields #[.none,.bool false,.ref s.heap.objs.size,rawInt 0,.none,.none] }) rfl;rw [hz] at this;exact this
 refine⟨⟨_,he,rfl⟩,h _ he ⟨_,ar _ (aF _ rfl),rfl,rfl⟩ (by rw [bw,hz]) fun b o x=>ar _ (ar _ x)⟩
theorem uF {it t:Addr}{i:Nat}{items:Array Value}{x:Value}{Q:Value->Shared->Prop} (hit:s.heap.IsTupleIter it t i) (ht:s.heap.IsTuple t items) (hx:items[i]? = some x)
  (hQ : ∀ h',h'.IsTupleIter it t (i+1)->dz it s.heap h'->Q x { s with heap:=h' }):aJ (model prog w) A (eh (.ref it)) Q E s:=by
 obtain⟨o,ho,hc,hd⟩:=id hit;obtain⟨ol,hol,_,nl,hdl⟩:=ht;unfold eh
 refine aj (dA (name:=fI "__next__") hit.typeIs fJ (dJ fJ hit.typeIs xJ ?_ (wg _)))
 show aJ _ _ (field (.ref it) 0 >>= _) _ _ s;refine aj (cZ ho hd (x := .ref t) rfl ?_);show aJ _ _ (if (bj t == fk)=true then _ else _) _ _ s;rw [if_neg (show ¬ ((bj t == fk)=true) from bG)]
 show aJ _ _ (field (.ref it) 1 >>= _) _ _ s;refine aj (cZ ho hd (x := .int i 0) rfl ?_);show aJ _ _ (seqItems? (.ref t) >>= _) _ _ s;refine aj (wpAny_seqItems hol hdl ?_);simp only [jI,hx]
 refine aj (kq ho hd (by simp) (bc ⟨x,rfl,bc (hQ _ ?_ (eR ..))⟩));exact⟨_,eQ _ ho (mQ (eK hd _)),(Obj.cls_mapFields ..).trans hc,by rw [eK hd];simp [rawInt]⟩
theorem vm {it t:Addr}{i:Nat}{items:Array Value}{Q:Value->Shared->Prop} (hh:A.handled=none) (hit:s.heap.IsTupleIter it t i) (ht:s.heap.IsTuple t items) (hx:items[i]? = none)
  (hE : ∀ h' e,sy it s.heap h'->(∃ o,h'.get? e=some o/\o.cls = .type "StopIteration")->E (.ref e) { s with heap:=h' }):aJ (model prog w) A (eh (.ref it)) Q E s:=by
 obtain⟨o,ho,hc,hd⟩:=id hit;obtain⟨ol,hol,_,nl,hdl⟩:=ht;unfold eh
 refine aj (dA (name:=fI "__next__") hit.typeIs fJ (dJ fJ hit.typeIs xJ ?_ (wg _)))
 show aJ _ _ (field (.ref it) 0 >>= _) _ _ s;refine aj (cZ ho hd (x := .ref t) rfl ?_);show aJ _ _ (if (bj t == fk)=true then _ else _) _ _ s;rw [if_neg (show ¬ ((bj t == fk)=true) from bG)]
 show aJ _ _ (field (.ref it) 1 >>= _) _ _ s;refine aj (cZ ho hd (x := .int i 0) rfl ?_);show aJ _ _ (seqItems? (.ref t) >>= _) _ _ s;refine aj (wpAny_seqItems hol hdl ?_);simp only [jI,hx]
 refine aj (wpAny_rule (aj (kq ho hd (by simp) ?_)));show aJ _ _ (newExc (.type "StopIteration") [] >>= _) _ _ _;refine aj ?_;simp only [newExc,newTuple];refine aj (d8 ?_ (by size_fits))
 refine aj (m:=firstArgMember _ _) (gX (a:=fk) (by first | rfl | (simp only [firstArgMember];rfl)) ?_);refine d8 ?_ (by size_fits);simp only [raiseNew];refine aj (wpAny_handled ?_)
 (first | rw [show A.in1.handled=none from hh] | rw [hh]);refine aj (bc (wpAny_throw ?_));exact hE _ _ (((eR ..).extBut.push _).push _) ⟨_,aF _ rfl,rfl⟩
theorem vA {e it l:Addr}{i:Nat}{items:Array Value}{x old:Value}{Q:Value->Shared->Prop} (he:IsEnum s.heap e it i old) (hit:s.heap.IsTupleIter it l i) (hl:s.heap.IsTuple l items) (hx:items[i]? = some x) (hne:e≠it)
  (hQ : ∀ h',IsEnumOut h' e it ((i:Int)+1) x s.heap.objs.size->h'.IsTupleIter it l (i+1)->h'.get? s.heap.objs.size=some { cls := .type "tuple",data := .seq #[.int i s.toks,x] }->h'.objs.size=s.heap.objs.size+1 ->
   (∀ b o,b≠e->b≠it->s.heap.get? b=some o->h'.get? b=some o)->Q (.ref s.heap.objs.size) { s with heap:=h',toks:=s.toks+1 }):aJ (model prog w) A (Builtin.«enumerate.__next__» ⟨[.ref e],[]⟩) (fun fin s' => ∃ v,fin = .done (.ret v)/\Q v s') E s:=by
 obtain⟨hp,g,d,tk,os⟩:=s;show aJ _ _ (field (.ref e) 2 >>= _) _ _ _;refine aj (cZ he rfl (x := .ref it) rfl ?_);refine aj (uF hit hl hx fun h₁ hit₁ hs₁ => ?_)
 replace hs₁:dz it hp h₁:=hs₁;have he₁:IsEnum h₁ e it i old:=(hs₁.2 e hne).trans he;show aJ _ _ (field (.ref e) 3 >>= _) _ _ ⟨h₁,g,d,tk,os⟩;refine aj (cZ he₁ rfl (x:=rawInt i) rfl ?_)
 show aJ _ _ (field (.ref e) 4 >>= _) _ _ ⟨h₁,g,d,tk,os⟩;refine aj (cZ he₁ rfl (x := .none) rfl ?_);show aJ _ _ (mkInt i >>= _) _ _ ⟨h₁,g,d,tk,os⟩;refine aj (wpAny_mkInt ?_)
 show aJ _ _ (setField (.ref e) 3 (rawInt ((i:Int)+1)) >>= _) _ _ ⟨h₁,g,d,tk+1,os⟩;refine aj (gQ he₁ (by simp) fun h₂ he₂ hs₂ => ?_);replace hs₂:dz e h₁ h₂:=hs₂;replace he₂:IsEnum h₂ e it ((i:Int)+1) old:=he₂
 show aJ _ _ (setField (.ref e) 4 .none >>= _) _ _ ⟨h₂,g,d,tk+1,os⟩;refine aj (gQ he₂ (by simp) fun h₃ he₃ hs₃ => ?_);replace hs₃:dz e h₂ h₃:=hs₃;replace he₃:IsEnum h₃ e it ((i:Int)+1) old:=he₃
 show aJ _ _ (newTuple [.int i tk,x] >>= _) _ _ ⟨h₃,g,d,tk+1,os⟩;refine aj (wpAny_newTuple ?_);have he₄:IsEnum (h₃.push { cls := .type "tuple",data := .seq #[.int i tk,x] }) e it ((i:Int)+1) old:=ar _ he₃
 generalize hh₄:h₃.push { cls := .type "tuple",data := .seq #[.int i tk,x] }=h₄ at he₄;have hsz:h₃.objs.size=hp.objs.size:=by rw [hs₃.1,hs₂.1,hs₁.1]
 have hel:e < hp.objs.size:=aD he;have ht₄:h₄.get? hp.objs.size=some { cls := .type "tuple",data := .seq #[.int i tk,x] }:=by rw [<- hh₄,<- hsz];exact aF _ rfl
 have hz₄:h₄.objs.size=hp.objs.size+1:=by rw [<- hh₄,bw,hsz]
 have hk₄ : ∀ b o,b≠e->b≠it->hp.get? b=some o->h₄.get? b=some o:=fun b o hbe hbi hb=>by rw [<- hh₄];exact ar _ (hs₃.extBut b o hbe (hs₂.extBut b o hbe (hs₁.extBut b o hbi hb)))
 have hit₄:h₄.IsTupleIter it l (i+1):=by rw [<- hh₄];obtain⟨o,ho,r⟩:=(hit₁.extBut hs₂.extBut (df hne)).extBut hs₃.extBut (df hne);exact⟨o,ar _ ho,r⟩
 show aJ _ _ (jv (.ref e) >>= _) _ _ ⟨h₄,g,d,tk+1,os⟩;rw [hsz];clear hh₄ he₃ hs₃ he₂ hs₂ he₁ hs₁ hit₁ hsz h₃ h₂ h₁
 refine aj ?_;unfold jv;refine aj (cZ he₄ rfl (x := .none) rfl (bc ?_));simp only [if_true];refine aj (wpAny_rule ?_);refine aj (cZ he₄ rfl (x:=old) rfl ?_)
 refine aj (gQ he₄ (by simp) fun h₅ he₅ hs₅ => ?_);replace hs₅:dz e h₄ h₅:=hs₅;replace he₅:IsEnum h₅ e it ((i:Int)+1) x:=he₅;show aJ _ _ (jd (.ref e) (.ref hp.objs.size) >>= _) _ _ ⟨h₅,g,d,tk+1,os⟩
 refine aj ?_;unfold jd;refine aj (gQ he₅ (by simp) fun h₆ he₆ hs₆ => ?_);replace hs₆:dz e h₅ h₆:=hs₆;replace he₆:IsEnumOut h₆ e it ((i:Int)+1) x hp.objs.size:=he₆
 refine gQ he₆ (by simp) fun h₇ he₇ hs₇ => ?_;replace hs₇:dz e h₆ h₇:=hs₇;replace he₇:IsEnumOut h₇ e it ((i:Int)+1) x hp.objs.size:=he₇;refine aj (wpAny_letGo (bc ⟨_,rfl,hQ h₇ he₇ ?_ ?_ ?_ ?_⟩))
 ·exact ((hit₄.extBut hs₅.extBut (df hne)).extBut hs₆.extBut (df hne)).extBut hs₇.extBut (df hne)
 ·exact hs₇.extBut _ _ (bY hel) (hs₆.extBut _ _ (bY hel) (hs₅.extBut _ _ (bY hel) ht₄))
 ·rw [hs₇.1,hs₆.1,hs₅.1,hz₄]
 ·exact fun b o hbe hbi hb=>hs₇.extBut b o hbe (hs₆.extBut b o hbe (hs₅.extBut b o hbe (hk₄ b o hbe hbi hb)))
theorem next_item {e it l:Addr}{i:Nat}{items:Array Value}{x old:Value}{Q:Option Value->Shared->Prop} (he:IsEnum s.heap e it i old) (hit:s.heap.IsTupleIter it l i) (hl:s.heap.IsTuple l items) (hx:items[i]? = some x) (hne:e≠it)
  (hQ : ∀ h',IsEnumOut h' e it ((i:Int)+1) x s.heap.objs.size->h'.IsTupleIter it l (i+1)->h'.get? s.heap.objs.size=some { cls := .type "tuple",data := .seq #[.int i s.toks,x] }->h'.objs.size=s.heap.objs.size+1 ->
   (∀ b o,b≠e->b≠it->s.heap.get? b=some o->h'.get? b=some o)->Q (some (.ref s.heap.objs.size)) { s with heap:=h',toks:=s.toks+1 }):aJ (model prog w) A (pyNext (.ref e)) Q E s:=by
 have hT:s.TypeIs (.ref e) "enumerate":=⟨_,he,rfl⟩;unfold pyNext
 exact aj (lP (dA (name:=fI "__next__") hT iy (dJ iy hT F.entry_enumerate_next (vA he hit hl hx hne fun h' a b c d k=>bc (hQ h' a b c d k)) (A9 _))))
theorem next_end {e it l:Addr}{i:Nat}{items:Array Value}{old:Value}{Q:Option Value->Shared->Prop} (hh:A.handled=none) (he:IsEnum s.heap e it i old) (hit:s.heap.IsTupleIter it l i) (hl:s.heap.IsTuple l items) (hx:items[i]? = none)
  (hQ : ∀ h',sy it s.heap h'->Q none { s with heap:=h' }):aJ (model prog w) A (pyNext (.ref e)) Q E s:=by
 have hT:s.TypeIs (.ref e) "enumerate":=⟨_,he,rfl⟩;unfold pyNext
 refine aj (lP (dA (name:=fI "__next__") hT iy (dJ iy hT F.entry_enumerate_next ?_ (A9 _))))
 show aJ _ _ (field (.ref e) 2 >>= _) _ _ _;refine aj (cZ he rfl (x := .ref it) rfl ?_);refine aj (vm hh hit hl hx fun h' x he' hx' => ?_);obtain⟨o,ho,hc⟩:=hx'
 refine aj (we (T:="StopIteration") (b:=true) ⟨o,ho,hc⟩ isSubtype_stop ?_);exact bc (hQ _ he')
end
end GE
end PySem
namespace L2
open PySem PySem.Spec PyProof.Rows
theorem Inv.turnNew {X:Cx}{pins:List (Addr×Obj)}{σ:St}{H:Hp}{s:Shared}{h':Heap}{t':Nat}{fp:List Addr}{T:Addr}{o:HO} (I:Inv X pins σ H s) (hf : ∀ b∈fp,pP X pins H b) (k : ∀ b u,b∉fp->s.heap.get? b=some u->h'.get? b=some u)
  (hT:s.heap.objs.size<=T) (new:d4 X.prog X.w (upd H T o) h' T o):Inv X pins σ (upd H T o) { s with heap:=h',toks:=t' }:=by
 have hn:H T=none:=I.hok.fresh hT
 have neT : ∀ b u,s.heap.get? b=some u->b≠T:=fun b u e z=>absurd (ah (aD e) (by rw [z];exact hT)) (bB _)
 have nfp : ∀ b u,H b=some u->b∉fp:=fun b u e z=>by rw [(hf b z).1] at e;cases e
 refine I.step (g':=s.gens) (d':=s.drawn) (ch:=fp) (fun b hb=>⟨(hf b hb).2.2.2.1,(hf b hb).2.1,(hf b hb).2.2.2.2.1,(hf b hb).2.2.2.2.2⟩) (fun b o _ _ hc e _=>k b o hc e) (fun b o _ _ hc e _=>⟨o.slots,k b o hc e⟩)
  (fun b o _ e n=>by rw [aV (neT b o e)];exact n) (fun b o hc e=>⟨o,k b o hc e⟩) (fun b xs e=>by rw [aV (aS e hn)];exact e) (fun b o u e=>by rw [aV (aS e hn)];exact e) (fun b ps e=>⟨#[],by rw [aV (aS e hn),e];simp⟩) (fun m hm => ?_) (fun b u e => ?_) I.bare
 ·obtain⟨o,es,ep,ho,r⟩:=hm
  exact⟨o,es,ep,k _ o (fun z=>(hf _ z).2.1 rfl) ho,r⟩
 ·by_cases hb:b=T
  ·subst hb;rw [cq] at e;cases e;exact new
  ·rw [aV hb] at e
   refine (I.hok b u e).stay (fun c v hc q=>k c v ?_ q) (fun c q=>by rw [aV (aS q hn)];exact q) fun c xs q=>by rw [aV (aS q hn)];exact q
   rcases hc with z | z
   ·rw [z];exact nfp b u e
   ·exact nfp c _ z
noncomputable def Ite (K:ai) (a:Addr):It:=
 ⟨fun i H => ∃ xs x,SqT K H a xs/\xs[i]? = some x,fun i H x H' => ∃ T u,(∀ xs,SqT K H a xs->xs[i]? = some u)/\H T=none/\x = .ref T/\H'=upd H T (.tup [.int i,u]),fun i H => ∃ xs,SqT K H a xs/\xs.length<=i⟩
theorem yc {P:Program}{w:World}{K:ai}{ts:List Expr}{kt:Nat}{pt:Pos} (a e it:Addr) (hne:e≠it):Turn P w K (.Tuple ts kt pt) (Ite K a) [e,it] e (fun i h=>(∃ old,IsEnum h e it (i:Nat) old)/\h.IsTupleIter it a i) where
 mem:=by simp
 obj:=fun i h st b hb=>by
  obtain⟨⟨old,he⟩,o,ho,c,d⟩:=st
  rcases aR.mp hb with z | z
  ·subst z;exact⟨_,he,fun v y=>by have y':A6 _=Data.cell v:=y;cases y'⟩
  ·have z:b=it:=by simpa using z
   subst z;exact⟨o,ho,fun v y=>by rw [d] at y;cases y⟩
 keep:=fun i h h' st k=>by
  obtain⟨⟨old,he⟩,o,ho,r⟩:=st
  exact⟨⟨old,k e (by simp) _ he⟩,o,k it (by simp) _ ho,r⟩
 item:=by
  intro X hP hw hK hc i pins s σ H E I hf st hg
  subst hP hw hK
  obtain⟨xs,x,hq,hx⟩:=hg
  obtain⟨its,rv,p,hz⟩:=I.tuple hq
  obtain⟨u,hu,ru⟩:=rv.get hx
  obtain⟨⟨old,he⟩,hit⟩:=st
  have hel:=aD he
  have hil:it < s.heap.objs.size:=by obtain⟨o,ho,_⟩:=hit;exact aD ho
  refine GE.next_item he hit (show s.heap.IsTuple a its.toArray from p) (x:=u) (by simpa using hu) hne fun h' ho hit' hT hsz hk => ?_
  refine⟨_,rfl,wpAny_letOwnedTupleGo_enum (s:={ s with heap:=h',toks:=s.toks+1 }) ho fun h2 he2 hs2 => ?_⟩
  have hT2:h2.get? s.heap.objs.size=some { cls := .type "tuple",data := .seq #[.int i s.toks,u] }:=(hs2.2 _ (bY hel)).trans hT
  have k : ∀ b o,b ∉ [e,it]->s.heap.get? b=some o->h2.get? b=some o:=fun b o hb eo=>by
   have hb1:b≠e:=fun z=>hb (by simp [z])
   have hb2:b≠it:=fun z=>hb (by simp [z])
   exact (hs2.2 b hb1).trans (hk b o hb1 hb2 eo)
  have new:d4 X.prog X.w (upd H s.heap.objs.size (.tup [.int i,x])) h2 s.heap.objs.size (.tup [.int i,x]):=⟨by rw [sizeLine_eq];show 2<=16777216;decide,[.int i s.toks,u],.cons ⟨s.toks,rfl⟩ (.cons ru .nil),⟨_,hT2,rfl,_,rfl⟩,_,hT2,rfl⟩
  have it2:h2.IsTupleIter it a (i+1):=hit'.extBut hs2.extBut (df hne)
  exact⟨.ref s.heap.objs.size,_,I.turnNew (t':=s.toks+1) hf k (ak _) new,rfl,⟨_,x,fun ys hy=>by rw [I.tuple_inj hy hq];exact hx,I.hok.fresh (ak _),rfl,rfl⟩,⟨⟨u,by simpa using he2⟩,it2⟩,fun b hb=>by
   have hb0:=(hf b hb).1
   rw [aV (fun z => ?_)]
   ·exact hb0
   ·rcases aR.mp hb with y | y
    ·exact absurd (y.symm.trans z) (bg hel)
    ·have y:b=it:=by simpa using y
     exact absurd (y.symm.trans z) (bg hil)⟩
 done:=by
  intro X hP hw hK hc i pins s σ H E I hf st hg
  subst hP hw hK
  obtain⟨xs,hq,hx⟩:=hg
  obtain⟨its,rv,p,hz⟩:=I.tuple hq
  obtain⟨⟨old,he⟩,hit⟩:=st
  obtain⟨f0,f1,f2,f3,f4,f5⟩:=hf it (by simp)
  have hl:=rv.length
  exact GE.next_end (I.ok.hd hc) he hit (show s.heap.IsTuple a its.toArray from p) (by simp;omega) fun h' eb=>⟨rfl,I.turned (t':=s.toks) (fun b o hb e=>eb b o hb e) f0 f1 f3 f4 f5⟩
 self:=fun _ _ _ _ _ st h=>by
  obtain⟨⟨old,he⟩,_⟩:=st
  exact wpAny_pyIter_enum he h
section
variable {X:Cx}
noncomputable def rW (K:ai) (ta:TA):TI:=fun σ H R=>ta σ H fun vs H1=>(∃ a xs,vs = [.ref a]/\SqT K H1 a xs/\R (Ite K a) H1)\/False
theorem Cy {a:Expr}{ta:TA}{p pos:Pos}{ts:List Expr}{kt:Nat}{pt:Pos} (hg:Gl X "enumerate") (hm:X.mg "enumerate"=none) (ha:PA X [a] ta) (hs:starEach [a] X.env = [(false,eval a X.env)]:=by rfl):PI X (.Tuple ts kt pt) (.Call (.Name "enumerate" p) [a] [] pos) (rW X.K ta):=by
 intro pins s σ H R I h
 refine Call_ (iP I hg hm boot_enumerate (bZ (thn (ha pos pins s σ H _ I h) fun us s1 ⟨vs,H1,I1,r1,q1⟩ => ?_) hs rfl))
 rcases q1 with q1 | q1
 ·obtain⟨b,xs,e,hq,q⟩:=q1
  subst e
  cases r1 with
  | cons r rr=>
    cases rr
    cases r
    obtain⟨its,rv,pt,hz⟩:=I1.tuple hq
    refine GE.vw (show s1.heap.IsTuple b its.toArray from pt) fun h' he hit hsz hk => ?_
    have I2:Inv X pins σ H1 { s1 with heap:=h',toks:=s1.toks }:=I1.kept hk
    refine wpAny_pyIter_enum (s:={ s1 with heap:=h' }) he ?_
    refine⟨s1.heap.objs.size+1,[s1.heap.objs.size+1,s1.heap.objs.size],_,_,H1,rfl,I2,yc b _ _ (Nat.succ_ne_self _),⟨⟨_,he⟩,hit⟩,fun c hc => ?_,q⟩
    rcases aR.mp hc with z | z
    ·subst z;exact I1.fpOk (ck _) (I1.hok.fresh (ck _))
    ·have z:c=s1.heap.objs.size:=by simpa using z
     subst z;exact I1.fpOk (ak _) (I1.hok.fresh (ak _))
 ·exact q1.elim
end
end L2
end
section
namespace PySem
namespace GE
section
variable {prog:Program}{w:World}{A:Around}{E:Value->Shared->Prop}{s:Shared}
end
section
variable {prog:Program}{w:World}{A:Around}{E:Value->Shared->Prop}{s:Shared}
end
end GE
end PySem
namespace L2
open PySem PySem.Spec PyProof.Rows
section
variable {X:Cx}
end
end L2
end
section
namespace L2
open PySem PySem.Spec PyProof.Rows
section
variable {κ:Type} [DecidableEq κ]
noncomputable def jT (kvs:List (κ×V)) (k:κ):Option V:=(kvs.find? fun kv=>decide (kv.1=k)).map (·.2)
noncomputable def putK (kvs:List (κ×V)) (k:κ) (v:V):List (κ×V):=
 if (kvs.any fun kv=>decide (kv.1=k))=true then kvs.map (fun kv=>if kv.1=k then (kv.1,v) else kv) else kvs ++ [(k,v)]
theorem kg {p:κ×V}{r:List (κ×V)}{k:κ} (e:p.1=k):jT (p::r) k=some p.2:=by simp [jT,dh,e]
theorem j7 {p:κ×V}{r:List (κ×V)}{k:κ} (e : ¬ p.1=k):jT (p::r) k=jT r k:=by simp [jT,dh,e]
theorem tE (k:κ) : ∀ kvs:List (κ×V),(kvs.any fun kv=>decide (kv.1=k))=(jT kvs k).isSome
 | []=>rfl
 | p::r=>by
   rw [fQ]
   by_cases e:p.1=k
   ·simp only [kg e,decide_eq_true e,Bool.true_or,Ba]
   ·rw [j7 e,decide_eq_false e,Bool.false_or];exact tE k r
theorem nA (kvs:List (κ×V)) (k:κ) (v:V):(putK kvs k v).length<=kvs.length+1:=by
 unfold putK
 split
 ·rw [aI];omega
 ·rw [be,ed,lQ];omega
theorem pW.isSome_eq {o:Option V}{u:Option Value} (r:pW o u):o.isSome=u.isSome:=by
 cases o with
 | none=>cases u with
   | none=>rfl
   | some _=>exact (show False from r).elim
 | some _=>cases u with
   | none=>exact (show False from r).elim
   | some _=>rfl
theorem KV.val {kvs:List (κ×V)}{vs:List (κ×Value)} (r:KV kvs vs) (k:κ):pW (jT kvs k) (valueAt vs k):=by
 unfold KV at r
 induction r with
 | nil=>exact u9
 | @cons p q ps qs h t ih=>
   obtain⟨h1,h2⟩:=h
   by_cases e:p.1=k
   ·have e':q.1=k:=h1.symm.trans e
    have b:valueAt (q::qs) k=some q.2:=by simp [valueAt,dh,e']
    rw [kg e,b];exact h2
   ·have e' : ¬ q.1=k:=fun z=>e (h1.trans z)
    have b:valueAt (q::qs) k=valueAt qs k:=by simp [valueAt,dh,e']
    rw [j7 e,b];exact ih
theorem KV.any {kvs:List (κ×V)}{vs:List (κ×Value)} (r:KV kvs vs) (k:κ):(kvs.any fun kv=>decide (kv.1=k))=vs.any fun kv=>decide (kv.1=k):=by
 unfold KV at r
 induction r with
 | nil=>rfl
 | cons h t ih=>rw [fQ,fQ,ih,h.1]
theorem KV.repl {kvs:List (κ×V)}{vs:List (κ×Value)} (r:KV kvs vs) (k:κ) {y:V}{u:Value} (ry:RelV y u) :
  KV (kvs.map fun kv=>if kv.1=k then (kv.1,y) else kv) (vs.map fun kv=>if kv.1=k then (kv.1,u) else kv):=by
 unfold KV at r ⊢
 induction r with
 | nil=>exact .nil
 | @cons p q ps qs h t ih=>
   rw [bT,bT]
   refine .cons ?_ ih
   obtain⟨h1,h2⟩:=h
   by_cases e:p.1=k
   ·rw [if_pos e,if_pos (h1.symm.trans e)];exact⟨h1,ry⟩
   ·rw [if_neg e,if_neg (fun z=>e (h1.trans z))];exact⟨h1,h2⟩
theorem KV.put {kvs:List (κ×V)}{vs:List (κ×Value)} (r:KV kvs vs) (k:κ) {y:V}{u:Value} (ry:RelV y u):KV (putK kvs k y) (stored vs k u):=by
 unfold putK stored
 rw [r.any k]
 by_cases e:(vs.any fun kv=>decide (kv.1=k))=true
 ·rw [if_pos e,if_pos e];exact r.repl k ry
 ·rw [if_neg e,if_neg e];exact Paired.snoc r ⟨rfl,ry⟩
theorem KV.length {kvs:List (κ×V)}{vs:List (κ×Value)} (r:KV kvs vs):kvs.length=vs.length:=u0 r
end
theorem ur {P:Program}{w:World}{k:Key}{u:Value} (r:RelV (kV k) u):(eP P w).is k u=true:=by
 cases k with
 | inl i=>obtain⟨t,e⟩:=(show ∃ t,u=xD i t from r);subst e;exact t8 P w i t
 | inr x=>obtain⟨t,e⟩:=(show ∃ t,u=xF x t from r);subst e;exact uy P w x t
theorem qz {P:Program}{w:World} : ∀ {ks:List Key}{us:List Value},bW (ks.map kV) us->ItemsAre (eP P w) ks us
 | [],_,r=>by rw [yY] at r;cases r;exact .nil
 | k::ks,_,r=>by
   rw [bT] at r
   cases r with
   | cons h t=>exact .cons (ur h) (qz t)
abbrev KT (H:Hp):List (List Key×V)->List (List Key×Addr×Value)->Prop:=Paired fun p q=>p.1=q.1/\H q.2.1=some (.tup (p.1.map kV))/\RelV p.2 q.2.2
theorem KT.val {H:Hp}{kvs:List (List Key×V)}{xs:List (List Key×Addr×Value)} (r:KT H kvs xs) (k:List Key):pW (jT kvs k) ((atKey xs k).map (·.2)):=by
 induction r with
 | nil=>exact u9
 | @cons p q ps qs h t ih=>
   obtain⟨h1,_,h2⟩:=h
   by_cases e:p.1=k
   ·have e':q.1=k:=h1.symm.trans e
    have b:atKey (q::qs) k=some q.2:=by simp [atKey,dh,e']
    rw [kg e,b];exact h2
   ·have e' : ¬ q.1=k:=fun z=>e (h1.trans z)
    have b:atKey (q::qs) k=atKey qs k:=by simp [atKey,dh,e']
    rw [j7 e,b];exact ih
theorem KT.repl {H:Hp}{kvs:List (List Key×V)}{xs:List (List Key×Addr×Value)} (r:KT H kvs xs) (k:List Key) {y:V}{u:Value} (ry:RelV y u) :
  KT H (kvs.map fun kv=>if kv.1=k then (kv.1,y) else kv) (xs.map (putAt k u)):=by
 induction r with
 | nil=>exact .nil
 | @cons p q ps qs h t ih=>
   rw [bT,bT]
   refine .cons ?_ ih
   obtain⟨h1,h2,h3⟩:=h
   unfold putAt
   by_cases e:p.1=k
   ·rw [if_pos e,if_pos (h1.symm.trans e)];exact⟨h1,h2,ry⟩
   ·rw [if_neg e,if_neg (fun z=>e (h1.trans z))];exact⟨h1,h2,h3⟩
theorem KT.put {H:Hp}{kvs:List (List Key×V)}{xs:List (List Key×Addr×Value)} (r:KT H kvs xs) (k:List Key) {b:Addr}{y:V}{u:Value} (hb:H b=some (.tup (k.map kV))) (ry:RelV y u) :
  KT H (putK kvs k y) (storedH xs k b u):=by
 have e:(kvs.any fun kv=>decide (kv.1=k))=(atKey xs k).isSome:=by
  rw [tE,(r.val k).isSome_eq,om]
 unfold putK storedH
 rw [e]
 by_cases q:(atKey xs k).isSome=true
 ·rw [if_pos q,if_pos q];exact r.repl k ry
 ·rw [if_neg q,if_neg q];exact Paired.snoc r ⟨rfl,hb,ry⟩
theorem KT.keeps {H H':Hp}{kvs:List (List Key×V)}{xs:List (List Key×Addr×Value)} (r:KT H kvs xs) (ht : ∀ b ys,H b=some (.tup ys)->H' b=some (.tup ys)):KT H' kvs xs:=
 Paired.mapP r fun _ _ z=>⟨z.1,ht _ _ z.2.1,z.2.2⟩
section
variable {P:Program}{w:World}{H:Hp}{h:Heap}{a:Addr}
theorem Dj {u:HO} (ok:HOk P w H h) (e:Rd H a u):d4 P w H h a u:=e.ok ok
theorem qF {kvs:List (Key×V)} (ok:HOk P w H h) (e:Rd H a (.dK kvs)):kvs.length<=sizeLine/\(a == sysModules)=false /\ ∃ vs,KV kvs vs/\h.DictOf (eP P w) a vs:=
 show d4 P w H h a (.dK kvs) from Dj ok e
theorem HB {kvs:List (Key×V)} (ok:HOk P w H h) (e:H a=some (.dK kvs)):kvs.length<=sizeLine/\(a == sysModules)=false /\ ∃ vs,KV kvs vs/\h.DictOf (eP P w) a vs:=qF ok (.inl e)
theorem o8 {ks:List Key} (ok:HOk P w H h) (e:H a=some (.tup (ks.map kV))):(tupleKind (eP P w)).is h ks a:=by
 obtain⟨_,its,r,⟨o,h1,h2,n,h3⟩,_⟩:=(show d4 P w H h a (.tup (ks.map kV)) from ok a _ e)
 exact⟨o,its.toArray,n,h1,h2,h3,by simpa using qz r⟩
theorem tN {kvs:List (List Key×V)} (ok:HOk P w H h) (e:Rd H a (.dT kvs)):kvs.length<=sizeLine/\(a == sysModules)=false /\
  ∃ xs,KT H kvs xs/\h.DictOfH (tupleKind (eP P w)) a xs:=by
 obtain⟨z,y,xs,r,o,es,ep,h1,h2,h3,h4,h5⟩:=(show d4 P w H h a (.dT kvs) from Dj ok e)
 refine⟨z,y,xs,r,o,es,ep,h1,h2,h3,h4,fun x hx => ?_,h5⟩
 have all : ∀ {l:List (List Key×V)}{m:List (List Key×Addr×Value)},KT H l m -> ∀ x∈m,(tupleKind (eP P w)).is h x.1 x.2.1:=by
  intro l m q
  induction q with
  | nil=>intro x hx;exact nomatch hx
  | @cons p q ps qs hq t ih=>
    intro x hx
    rcases aR.mp hx with e | hx
    ·subst e
     exact o8 ok (by rw [<- hq.1];exact hq.2.1)
    ·exact ih x hx
 exact all r x hx
theorem IA {kvs:List (List Key×V)} (ok:HOk P w H h) (e:H a=some (.dT kvs)):kvs.length<=sizeLine/\(a == sysModules)=false /\
  ∃ xs,KT H kvs xs/\h.DictOfH (tupleKind (eP P w)) a xs:=tN ok (.inl e)
end
noncomputable def qc (H:Hp) (a:Addr) (y:V) (r:Option V):Prop:=
 (∃ kvs k,Rd H a (.dK kvs)/\y=kV k/\r=jT kvs k) \/ ∃ kvs k b,Rd H a (.dT kvs)/\y = .ref b/\H b=some (.tup (k.map kV))/\r=jT kvs k
noncomputable def xM (H:Hp) (a:Addr) (y v:V) (H':Hp):Prop:=
 (∃ kvs k,H a=some (.dK kvs)/\y=kV k/\kvs.length < sizeLine/\H'=upd H a (.dK (putK kvs k v))) \/
 ∃ kvs k b,H a=some (.dT kvs)/\y = .ref b/\H b=some (.tup (k.map kV))/\kvs.length < sizeLine/\H'=upd H a (.dT (putK kvs k v))
theorem qc.k {H:Hp}{a:Addr}{kvs:List (Key×V)}{k:Key} (e:H a=some (.dK kvs)):qc H a (kV k) (jT kvs k) := .inl ⟨kvs,k,.inl e,rfl,rfl⟩
theorem qc.t {H:Hp}{a b:Addr}{kvs:List (List Key×V)}{k:List Key} (e:H a=some (.dT kvs)) (eb:H b=some (.tup (k.map kV))):qc H a (.ref b) (jT kvs k) := .inr ⟨kvs,k,b,.inl e,rfl,eb,rfl⟩
theorem xM.k {H:Hp}{a:Addr}{kvs:List (Key×V)}{k:Key}{v:V} (e:H a=some (.dK kvs)) (hl:kvs.length < sizeLine):xM H a (kV k) v (upd H a (.dK (putK kvs k v))) := .inl ⟨kvs,k,e,rfl,hl,rfl⟩
theorem xM.t {H:Hp}{a b:Addr}{kvs:List (List Key×V)}{k:List Key}{v:V} (e:H a=some (.dT kvs)) (eb:H b=some (.tup (k.map kV))) (hl:kvs.length < sizeLine) :
  xM H a (.ref b) v (upd H a (.dT (putK kvs k v))) := .inr ⟨kvs,k,b,e,rfl,eb,hl,rfl⟩
section
variable {X:Cx}{pins:List (Addr×Obj)}{σ:St}{H:Hp}{s:Shared}{a:Addr}{y v:V}{u r:Value}{o:Option V}{A:Around}{E:Value->Shared->Prop}
theorem xP {Q:Value->Shared->Prop} (hu:A.units+1 < cLine) (I:Inv X pins σ H s) (g:qc H a y (some v)) (ry:RelV y u) (h : ∀ w' s',Inv X pins σ H s'->RelV v w'->Q w' s') :
  aJ (model X.prog X.w) A (getItem (.ref a) u) Q E s:=by
 rcases g with⟨kvs,k,e,ey,l⟩ | ⟨kvs,k,b,e,ey,eb,l⟩
 ·subst ey
  obtain⟨z,hd,vs,rel,dd⟩:=qF I.hok e
  obtain⟨w',hw,rw'⟩:=pW.some_of (v:=v) (o:=valueAt vs k) (by rw [l];exact rel.val k)
  exact wpAny_getItem_of (ur ry) dd.mapOf hw (h w' _ (I.tok _) rw')
 ·subst ey
  cases (show u=bj b from ry)
  obtain⟨z,hd,xs,rel,dd⟩:=tN I.hok e
  obtain⟨w',hw,rw'⟩:=pW.some_of (v:=v) (o:=(atKey xs k).map (·.2)) (by rw [l];exact rel.val k)
  obtain⟨p,hp,hp2⟩:=xK.mp hw
  refine wpAny_getItem_heap (tupleKind_room_in1 hu) (o8 I.hok eb) dd hp ?_
  rw [hp2]
  exact h w' _ (I.tok _) rw'
theorem JD {Q:Value->Shared->Prop} (hu:A.units+1 < cLine) (I:Inv X pins σ H s) (g:qc H a y o) (ry:RelV y u) (h : ∀ s',Inv X pins σ H s'->Q (.bool o.isSome) s') :
  aJ (model X.prog X.w) A (compareOp .In u (.ref a)) Q E s:=by
 rcases g with⟨kvs,k,e,ey,l⟩ | ⟨kvs,k,b,e,ey,eb,l⟩
 ·subst ey
  obtain⟨z,hd,vs,rel,dd⟩:=qF I.hok e
  refine wpAny_in_of (ur ry) hd dd.mapOf ?_
  rw [<- (rel.val k).isSome_eq,<- l]
  exact h _ (I.tok _)
 ·subst ey
  cases (show u=bj b from ry)
  obtain⟨z,hd,xs,rel,dd⟩:=tN I.hok e
  refine wpAny_in_heap (tupleKind_room_in1 hu) (o8 I.hok eb) hd dd ?_
  have q:=(rel.val k).isSome_eq
  rw [om] at q
  rw [<- q,<- l]
  exact h _ (I.tok _)
theorem BS {Q:Value->Shared->Prop} (hu:A.units+1 < cLine) (I:Inv X pins σ H s) (g:qc H a y o) (ry:RelV y u) (h : ∀ s',Inv X pins σ H s'->Q (.bool (!o.isSome)) s') :
  aJ (model X.prog X.w) A (compareOp .NotIn u (.ref a)) Q E s:=by
 rcases g with⟨kvs,k,e,ey,l⟩ | ⟨kvs,k,b,e,ey,eb,l⟩
 ·subst ey
  obtain⟨z,hd,vs,rel,dd⟩:=qF I.hok e
  refine wpAny_notIn_of (ur ry) hd dd.mapOf ?_
  rw [<- (rel.val k).isSome_eq,<- l]
  exact h _ (I.tok _)
 ·subst ey
  cases (show u=bj b from ry)
  obtain⟨z,hd,xs,rel,dd⟩:=tN I.hok e
  refine wpAny_notIn_heap (tupleKind_room_in1 hu) (o8 I.hok eb) hd dd ?_
  have q:=(rel.val k).isSome_eq
  rw [om] at q
  rw [<- q,<- l]
  exact h _ (I.tok _)
theorem wY {h':Heap}{t':Nat}{ob:HO} (I:Inv X pins σ H s) (mu:Mut (H a)) (hs:dz a s.heap h') (he : ∃ q,h'.get? a=some q) (new:d4 X.prog X.w (upd H a ob) h' a ob) :
  Inv X pins σ (upd H a ob) { s with heap:=h',toks:=t' }:=
 I.write (x:=a) (e:=a) mu (.inl rfl) (fun b q hb z=>(hs.2 b hb).trans z) he new
theorem E5 {P:Program}{w:World}{H':Hp}{h':Heap}{kvs:List (Key×V)}{vs:List (Key×Value)} (z:kvs.length<=sizeLine) (hd:(a == sysModules)=false) (rel:KV kvs vs) (dd:h'.DictOf (eP P w) a vs) :
  d4 P w H' h' a (.dK kvs):=⟨z,hd,vs,rel,dd⟩
theorem yL {H':Hp}{Q:Unit->Shared->Prop} (hu:A.units+1 < cLine) (I:Inv X pins σ H s) (g:xM H a y v H') (ry:RelV y u) (rv:RelV v r) (h : ∀ s',Inv X pins σ H' s'->Q () s') :
  aJ (model X.prog X.w) A (setItem (.ref a) u r) Q E s:=by
 rcases g with⟨kvs,k,e,ey,l,eH⟩ | ⟨kvs,k,b,e,ey,eb,l,eH⟩
 ·subst ey eH
  obtain⟨z,hd,vs,rel,dd⟩:=HB I.hok e
  have hz:vs.length<=sizeLine:=by rw [<- rel.length];exact z
  have hl:(putK kvs k v).length<=sizeLine:=by have:=nA kvs k v;omega
  refine wpAny_setItem_pairs (hsz:=hz) (ur ry) dd fun h' dd' hs=>h _ ?_
  have he : ∃ q,h'.get? a=some q:=let ⟨q,_,_,hq,_⟩:=dd';⟨q,hq⟩
  exact wY I (by rw [e];exact u9) hs he (E5 hl hd (rel.put k rv) dd')
 ·subst ey eH
  cases (show u=bj b from ry)
  obtain⟨z,hd,xs,rel,dd⟩:=IA I.hok e
  have hz:xs.length<=sizeLine:=by rw [<- u0 rel];exact z
  have hl:(putK kvs k v).length<=sizeLine:=by have:=nA kvs k v;omega
  refine wpAny_setItem_heap (hsz:=hz) (tupleKind_room_in1 hu) (o8 I.hok eb) dd fun h' dd' hs=>h _ ?_
  obtain⟨q,es,ep,hq,h2,h3,h4,_,h5⟩:=dd'
  refine wY I (by rw [e];exact u9) hs ⟨q,hq⟩ ⟨hl,hd,_,(rel.put k eb rv).keeps fun c ys ec => ?_,q,es,ep,hq,h2,h3,h4,h5⟩
  rw [aV (oy ec e (fun z=>nomatch z))]
  exact ec
end
section
variable {X:Cx}{pins:List (Addr×Obj)}{σ:St}{H:Hp}{s:Shared}{a:Addr}{kvs:List (Key×V)}{k:Key}{u:Value}{A:Around}{E:Value->Shared->Prop}
theorem z6 {Q:Value->Shared->Prop} (I:Inv X pins σ H s) (e:Rd H a (.dK kvs)) (h : ∀ t s',Inv X pins σ H s'->Q (.int kvs.length t) s'):aJ (model X.prog X.w) A (call (.builtin "len") [.ref a]) Q E s:=by
 obtain⟨z,hd,vs,rel,dd⟩:=qF I.hok e
 refine call_len_dict hd dd (by rw [<- rel.length];rw [sizeLine_eq] at z;omega) ?_
 rw [<- rel.length]
 exact h _ _ (I.tok _)
end
theorem tZ {X:Cx}{pins:List (Addr×Obj)}{σ:St}{H:Hp}{s:Shared}{a:Addr}{y:V}{o:Option V} (I:Inv X pins σ H s) (g:qc H a y o):s.TypeIs (.ref a) "dict":=by
 rcases g with⟨kvs,k,e,_,_⟩ | ⟨kvs,k,b,e,_,_,_⟩
 ·obtain⟨_,_,vs,_,dd⟩:=qF I.hok e
  exact dd.typeIs
 ·obtain⟨_,_,xs,_,dd⟩:=tN I.hok e
  exact dd.typeIs
section
variable {X:Cx}{o i e value:Expr}{pos pos' tpos:Pos}{td ty tv:TE}
end
section
variable {X:Cx}{pos:Pos}
end
structure M1 (X:Cx) (o:Expr) (m:Str) (apos:Pos) (e:Expr) (cpos:Pos):Prop where
 base:attributeBase o m X.env (eval o X.env)=eval o X.env
 few:((backTo cpos (starEach [e] X.env)).all (fun x => !x.1)&&(backToKw cpos (keywordEach [] X.env)).all (fun x=>x.1.isSome)
  && decide (([e]:List Expr).length+([]:List Keyword).length+(if ([]:List Keyword).isEmpty then 0 else 1) < 30))=true
 line:(apos.endLine == cpos.line)=true
 trees:backTo cpos (starEach [e] X.env) = [(false,eval e X.env)]
structure M2 (X:Cx) (o:Expr) (m:Str) (apos:Pos) (e f:Expr) (cpos:Pos):Prop where
 base:attributeBase o m X.env (eval o X.env)=eval o X.env
 few:((backTo cpos (starEach [e,f] X.env)).all (fun x => !x.1)&&(backToKw cpos (keywordEach [] X.env)).all (fun x=>x.1.isSome)
  && decide (([e,f]:List Expr).length+([]:List Keyword).length+(if ([]:List Keyword).isEmpty then 0 else 1) < 30))=true
 line:(apos.endLine == cpos.line)=true
 trees:backTo cpos (starEach [e,f] X.env) = [(false,eval e X.env),(false,eval f X.env)]
section
variable {X:Cx}{pins:List (Addr×Obj)}{σ:St}{H:Hp}{s:Shared}{a:Addr}{y d:V}{u r:Value}{o:Option V}{A:Around}{E:Value->Shared->Prop}
end
section
variable {X:Cx}{o e f:Expr}{apos cpos:Pos}{td ty tx:TE}
end
section
variable {X:Cx}{pins:List (Addr×Obj)}{σ:St}{H:Hp}{s:Shared}{a:Addr}{kvs:List (Key×V)}{A:Around}{E:Value->Shared->Prop}
end
section
variable {X:Cx}{pins:List (Addr×Obj)}{σ:St}{H:Hp}{s:Shared}{a:Addr}{y:V}{u:Value}{A:Around}{E:Value->Shared->Prop}
end
end L2
namespace L2
open PySem PySem.Spec PyProof.Rows
section
variable {X:Cx}
theorem ym:gz X (.builtin "len") (fun xs H Q => ∃ a kvs,xs = [V.ref a]/\H a=some (.dK kvs)/\Q (.int kvs.length) H):=by
 intro pins s σ H xs us Q I r h
 obtain⟨a,kvs,rfl,ha,q⟩:=h
 obtain⟨u,rfl,ru⟩:=vals1 r
 cases ru
 exact z6 I (.inl ha) fun t s' I'=>⟨.int kvs.length,H,I',⟨t,rfl⟩,q⟩
end
section
variable {κ:Type} [DecidableEq κ]
end
end L2
end
section
namespace PySem
open Sem (wp)
noncomputable def iA (env:Env):List (Str×NameKind)->List (Str×Addr)->List (Str×Addr)
 | [],acc=>acc
 | (n,k)::r,acc=>if k == .free then iA env r ((n,(env.cells.lookup n).getD 0)::acc) else iA env r acc
theorem jB {scope:Scope}{env:Env} (h : ∀ y∈scope.names,y.2 = .free -> ∃ c,env.cells.lookup y.1=some c):closureFor scope env=pure (iA env scope.names []):=by
 simp only [closureFor]
 have go : ∀ (names:List (Str×NameKind)) (acc:List (Str×Addr)),(∀ y∈names,y.2 = .free -> ∃ c,env.cells.lookup y.1=some c) ->
   (forIn (m:=Sem) names acc fun x r=>if (x.2 == aO)=true then cellOf env x.1 >>= fun a=>pure (cY ((x.1,a)::r)) else pure (cY r))=pure (iA env names acc):=by
  intro names
  induction names with
  | nil=>intro acc _;rfl
  | cons y r ih=>
    intro acc hy
    obtain⟨n,k⟩:=y
    rw [iM]
    by_cases hk:k = .free
    ·subst hk
     obtain⟨c,hc⟩:=hy (n,.free) aM rfl
     have e1:cellOf env n=pure c:=by unfold cellOf;rw [hc]
     have e2:iA env ((n,aO)::r) acc=iA env r ((n,c)::acc):=by
      show (if (aO == aO)=true then _ else _)=_
      rw [if_pos (by decide),hc];rfl
     rw [e2,<- ih _ fun z hz=>hy z (av _ hz)]
     simp only [beq_self_eq_true,if_true,e1]
     rfl
    ·have hb:(k == aO)=false:=by simpa using hk
     have e2:iA env ((n,k)::r) acc=iA env r acc:=by
      show (if (k == aO)=true then _ else _)=_
      rw [if_neg (by rw [hb];decide)]
     rw [e2,<- ih _ fun z hz=>hy z (av _ hz)]
     simp only [hb,dj,if_false]
     rfl
 exact (congrArg (fun z=>z >>= pure) (go scope.names [] h)).trans rfl
theorem mO {env:Env} : ∀ (names:List (Str×NameKind)) (acc:List (Str×Addr)),(∀ y∈names,y.2 = .free -> ∃ c,env.cells.lookup y.1=some c) -> ∀ x c,(iA env names acc).lookup x=some c->env.cells.lookup x=some c\/acc.lookup x=some c
 | [],_,_,_,_,h => .inr h
 | (n,k)::r,acc,hy,x,c,h=>by
   unfold iA at h
   split at h
   ·rename_i hk
    have hk':k = .free:=by simpa using hk
    subst hk'
    obtain⟨d,hd⟩:=hy (n,.free) aM rfl
    rcases mO r _ (fun z hz=>hy z (av _ hz)) x c h with e | e
    ·exact .inl e
    ·rw [aL] at e
     cases hb:x == n with
     | true=>
       rw [hb] at e
       rw [beq_iff_eq.mp hb,hd]
       rw [hd] at e
       exact .inl e
     | false=>rw [hb] at e;exact .inr e
   ·exact mO r acc (fun z hz=>hy z (av _ hz)) x c h
theorem mx {env:Env}{x:Str} : ∀ (names:List (Str×NameKind)) (acc:List (Str×Addr)),(names.lookup x=some .free\/(acc.lookup x).isSome=true)->((iA env names acc).lookup x).isSome=true
 | [],_,h=>h.elim (fun e=>by cases e) id
 | (y,k)::r,acc,h=>by
   unfold iA
   by_cases hk:(k == .free)=true
   ·rw [if_pos hk]
    refine mx r ((y,(env.cells.lookup y).getD 0)::acc) ?_
    by_cases hy:(x == y)=true
    ·exact .inr (by rw [aL,hy];rfl)
    ·refine h.imp (fun e => ?_) fun e => ?_
     ·rw [aL] at e;simpa only [hy] using e
     ·rw [aL];simpa only [hy] using e
   ·rw [if_neg hk]
    refine mx r acc ?_
    refine h.imp (fun e => ?_) id
    rw [aL] at e
    cases hb:x == y with
    | true=>rw [hb] at e;cases e;exact absurd rfl hk
    | false=>rw [hb] at e;exact e
theorem d9 : ∀ (names:List (Str×NameKind)) (n:Nat) (acc:List (Str×Addr)),cellsFrom n names acc=cellsFrom n names []++acc
 | [],_,_=>rfl
 | (y,k)::r,n,acc=>by
   unfold cellsFrom
   split
   ·rw [d9 r (n+1) ((y,n)::acc),d9 r (n+1) [(y,n)],bf];rfl
   ·exact d9 r n acc
theorem iS {x:Str} : ∀ (names:List (Str×NameKind)) (n:Nat) (acc:List (Str×Addr)) (c:Addr),(cellsFrom n names acc).lookup x=some c->(∃ k∈names,k.1=x/\k.2 = .cell)\/acc.lookup x=some c
 | [],_,_,_,h => .inr h
 | (y,k)::r,n,acc,c,h=>by
   unfold cellsFrom at h
   split at h
   ·rename_i hk
    rcases iS r _ _ c h with⟨z,hz,e⟩ | e
    ·exact .inl ⟨z,av _ hz,e⟩
    ·rw [aL] at e
     cases hb:x == y with
     | true=>exact .inl ⟨(y,k),aM,(beq_iff_eq.mp hb).symm,by simpa using hk⟩
     | false=>rw [hb] at e;exact .inr e
   ·rcases iS r _ _ c h with⟨z,hz,e⟩ | e
    ·exact .inl ⟨z,av _ hz,e⟩
    ·exact .inr e
section
variable {M:Model}{A:Around}{E:Value->Shared->Prop}{s:Shared}
theorem mw {scope:Scope}{globals:Addr}{cl:List (Str×Addr)}{qual:Str}{env:Env}{Q:Env->Shared->Prop}
  (hQ:Q { scope:=scope,locals:=s.heap.objs.size,globals:=globals,cells:=cellsFrom (s.heap.objs.size+1) scope.names cl,qual:=qual,func:=none,code:=env.code,frame:=env.frame,builtins:=env.builtins }
   { s with heap:=pushCells (s.heap.push { cls := .type "dict",data := .dict #[] }) scope.names }) :
  aJ M A (newFunctionEnv scope globals cl [] qual none .none (some env)) Q E s:=by
 simp only [newFunctionEnv,Ba,if_true]
 refine aj (wpAny_alloc ?_)
 refine aj (wpAny_layCells _ (fun name kind cells=>by cases hkc:kind == b0 <;> simp [hkc]) _ _ _ _ ?_)
 rw [show ({ s with heap:=s.heap.push { cls := .type "dict",data := .dict #[] } }:Shared).heap.objs.size=s.heap.objs.size+1 from bw ..]
 exact bc hQ
end
section
variable {prog:Program}{w:World}{A:Around}{R:Result->Shared->Prop}{s:Shared}
theorem j9 {elt target iter:Expr}{ifs:List Expr}{scope:Scope}{pos:Pos}{it acc:Value}{env:Env} (I:Nat->Shared->Prop)
  (turn : ∀ n s,I n s->aJ (model prog w) A (pyNext it) (fun r s₁=>match r with
   | none=>R (.ok .next) s₁
   | some v=>aJ (model prog w) A (letOwnedTupleGo target it v) (fun _ s₁=>aJ (model prog w) A (assign target env v) (fun _ s₂=>
     aJ (model prog w) A (forIn ifs true fun c r=>if r=true then do let ok <- isTrue c env (eval c env);pure (cY ok) else pure (cY r)) (fun ok s₃=>
      if ok=true then aJ (model prog w) A (eval elt env) (fun x s₄=>
       aJ (model prog w) A (call (.builtin "list.append") [acc,x]) (fun _ s₅ => ∃ m,m < n/\I m s₅) (fun _ _=>False) s₄) (fun _ _=>False) s₃
      else ∃ m,m < n/\I m s₃) (fun _ _=>False) s₂) (fun _ _=>False) s₁) (fun _ _=>False) s₁) (fun _ _=>False) s)
  (n:Nat) (h:I n s) :
  nr (model prog w) A (.compLoop (.ListComp elt [⟨target,iter,ifs,0⟩] scope pos) 0 it acc env) R s:=by
 refine codeAny_loop rfl I (fun n s hI => ?_) n h
 show aJ _ A ((compTurn (.ListComp elt [⟨target,iter,ifs,0⟩] scope pos) 0 it acc env).onRaise (fun x=>do noteFrame x env;theTreesLotGoes x)) _ _ s
 refine wpAny_noted ?_
 rw [compTurn_list]
 refine aj (wpAny_standAt (aj (bJ (turn n s hI) (fun r s₁ h₁ => ?_) fun _ _ h'=>h'.elim)))
 cases r with
 | none=>exact bc h₁
 | some v=>
   refine aj (bJ h₁ (fun _ s₁ h₁ => ?_) fun _ _ h'=>h'.elim)
   refine aj (bJ h₁ (fun _ s₂ h₂=>aj (bJ h₂ (fun ok s₃ h₃ => ?_) fun _ _ h'=>h'.elim)) fun _ _ h'=>h'.elim)
   cases ok with
   | false=>exact bc ⟨rfl,h₃⟩
   | true=>
     exact aj (aj (bJ h₃ (fun x s₄ h₄=>aj (bJ h₄ (fun _ s₅ h₅=>bc (bc ⟨rfl,h₅⟩)) fun _ _ h'=>h'.elim)) fun _ _ h'=>h'.elim))
end
end PySem
end
section
namespace G
open PySem
section
inductive U where
 | non | bl (b:Bool) | int (i:Int) | str (x:Str) | tup (us:List U) | ref (n:Nat) | obj (a:Addr)
 deriving Inhabited
inductive Cell where
 | lst (us:List U)
 | frz (us:List U)
 | dic (kvs:List (L2.Key×U))
 deriving Inhabited
abbrev Sto:=List Cell
abbrev Rho:=List (Option U)
abbrev Res (α:Type):=Option (α×Sto)
abbrev ME:=Rho->Sto->Res U
abbrev MT:=Rho->Sto->Res Bool
abbrev MA:=Rho->Sto->Res (List U)
abbrev MF:=List U->Sto->Res U
noncomputable def bnd {α β:Type} (r:Option (α×Sto)) (k:α->Sto->Option β):Option β:=match r with
 | none=>none
 | some p=>k p.1 p.2
theorem aE {α β:Type}{a:α}{S:Sto}{k:α->Sto->Option β}:bnd (some (a,S)) k=k a S:=rfl
theorem ba {α β:Type}{r:Option (α×Sto)}{k:α->Sto->Option β}{b:β} (h:bnd r k=some b) : ∃ a S,r=some (a,S)/\k a S=some b:=by
 cases r with
 | none=>cases h
 | some p=>exact⟨p.1,p.2,rfl,h⟩
noncomputable def big:Nat:=16777216
noncomputable def getL (S:Sto) (n:Nat):Option (List U):=match S[n]? with
 | some (.lst us)=>some us
 | some (.frz us)=>some us
 | some (.dic _)=>none
 | none=>none
abbrev F2:=U->U->Sto->Res U
noncomputable def bV:F2:=fun x y S=>match x,y with
 | .int i,.int j=>some (.int (i+j),S)
 | .tup xs,.tup ys=>if xs.length+ys.length<=big then some (.tup (xs++ys),S) else none
 | .ref n,.ref m=>match S[n]?,S[m]? with
   | some (.lst xs),some (.lst ys)=>if xs.length+ys.length<=big then some (.ref S.length,S ++ [.lst (xs++ys)]) else none
   | _,_=>none
 | _,_=>none
noncomputable def kT:F2:=fun x y S=>match x,y with
 | .int i,.int j=>some (.int (i - j),S)
 | _,_=>none
noncomputable def iF (i j:Int):Prop:=(-(2 ^ 64) < i/\i < 2 ^ 64)\/(-(2 ^ 64) < j/\j < 2 ^ 64)
noncomputable instance (i j:Int):Decidable (iF i j):=bR _
noncomputable def xp (n:Nat) (k:Int):Prop:=0<=k/\k < 1000/\0 < n/\n < 1000
noncomputable instance (n:Nat) (k:Int):Decidable (xp n k):=bR _
noncomputable def dX:F2:=fun x y S=>match x,y with
 | .int i,.int j=>if iF i j then some (.int (i*j),S) else none
 | .tup xs,.int k=>if xp xs.length k then some (.tup (ay k.toNat xs).flatten,S) else none
 | _,_=>none
noncomputable def oA (j:Int):Prop:=0 < j/\j < 1073741824
noncomputable instance (j:Int):Decidable (oA j):=bR _
noncomputable def oDiv:F2:=fun x y S=>match x,y with
 | .int i,.int j=>if oA j then some (.int (i / j),S) else none
 | _,_=>none
noncomputable def oMod:F2:=fun x y S=>match x,y with
 | .int i,.int j=>if 0 < j then some (.int (i % j),S) else none
 | _,_=>none
noncomputable def Dg (i j:Int):Prop:=0<=j/\j<=1000000/\i.natAbs < 2 ^ 64
noncomputable instance (i j:Int):Decidable (Dg i j):=bR _
noncomputable def rA:F2:=fun x y S=>match x,y with
 | .int i,.int j=>if Dg i j then some (.int (i ^ j.toNat),S) else none
 | _,_=>none
noncomputable def yI (p:Int->Int->Bool):F2:=fun x y S=>match x,y with
 | .int i,.int j=>some (.bl (p i j),S)
 | _,_=>none
abbrev oLt:F2:=yI fun i j=>decide (i < j)
abbrev oLe:F2:=yI fun i j=>decide (i<=j)
abbrev oGt:F2:=yI fun i j=>decide (j < i)
abbrev oGe:F2:=yI fun i j=>decide (j<=i)
noncomputable def du (S:Sto):U->Option (List U)
 | .tup us=>some us
 | .ref n=>getL S n
 | _=>none
noncomputable def dq {α β:Type} (f:α->Option β):List α->Option (List β)
 | []=>some []
 | x::xs=>(f x).bind fun y=>(dq f xs).map fun ys=>y::ys
noncomputable def toD (S:Sto):Nat->U->Option PyData
 | 0,_=>none
 | _+1,.non=>some .none
 | _+1,.bl b=>some (.bool b)
 | _+1,.int i=>some (.int i)
 | _+1,.str x=>if gm (.str x)=true then some (.str x) else none
 | f+1,.tup us=>(dq (toD S f) us).map .tuple
 | f+1,.ref n=>(getL S n).bind fun us=>(dq (toD S f) us).map .list
 | _+1,.obj _=>none
noncomputable def eqU (S:Sto) (x y:U):Option Bool:=(toD S 40 x).bind fun a=>(toD S 40 y).map fun b=>iY a b
noncomputable def oEq:F2:=fun x y S=>(eqU S x y).map fun b=>(.bl b,S)
noncomputable def oNe:F2:=fun x y S=>(eqU S x y).map fun b=>(.bl (!b),S)
noncomputable def keyOf:U->Option L2.Key
 | .int i=>some (.inl i)
 | .str x=>some (.inr x)
 | _=>none
noncomputable def pk (kvs:List (L2.Key×U)) (k:L2.Key):Option U:=(kvs.find? fun kv=>decide (kv.1=k)).map (·.2)
noncomputable def B3 (kvs:List (L2.Key×U)) (k:L2.Key) (u:U):List (L2.Key×U):=
 if (kvs.any fun kv=>decide (kv.1=k))=true then kvs.map (fun kv=>if kv.1=k then (kv.1,u) else kv) else kvs ++ [(k,u)]
noncomputable def fP (S:Sto):U->Option (List (L2.Key×U))
 | .ref n=>match S[n]? with
   | some (.dic kvs)=>some kvs
   | _=>none
 | _=>none
noncomputable def oIx:F2:=fun x y S=>match fP S x with
 | some kvs=>(keyOf y).bind fun k=>(pk kvs k).map fun u=>(u,S)
 | none=>match y with
   | .int i=>((du S x).bind fun us=>L2.atI us i).map fun u=>(u,S)
   | _=>none
noncomputable def ae (i:Nat):ME:=fun ρ S=>match ρ[i]? with
 | some (some u)=>some (u,S)
 | _=>none
noncomputable def mC (u:U):ME:=fun _ S=>some (u,S)
noncomputable def m1 (f:U->Sto->Res U) (a:ME):ME:=fun ρ S=>bnd (a ρ S) fun x S1=>f x S1
noncomputable def m2 (f:F2) (a b:ME):ME:=fun ρ S=>bnd (a ρ S) fun x S1=>bnd (b ρ S1) fun y S2=>f x y S2
noncomputable def ag:MA:=fun _ S=>some ([],S)
noncomputable def aa (a:ME) (r:MA):MA:=fun ρ S=>bnd (a ρ S) fun x S1=>bnd (r ρ S1) fun xs S2=>some (x::xs,S2)
noncomputable def eU (a:MA):ME:=fun ρ S=>bnd (a ρ S) fun xs S1=>if xs.length<=big then some (.tup xs,S1) else none
noncomputable def cf (a:MA):ME:=fun ρ S=>bnd (a ρ S) fun xs S1=>if xs.length<=big then some (.ref S1.length,S1 ++ [.lst xs]) else none
noncomputable def mFn (f:MF) (a:MA):ME:=fun ρ S=>bnd (a ρ S) fun xs S1=>f xs S1
noncomputable def lC:U->Sto->Res U:=fun x S=>match x with
 | .int i=>some (.int (-i),S)
 | _=>none
noncomputable def Cf (c:MT) (a b:ME):ME:=fun ρ S=>bnd (c ρ S) fun k S1=>if k then a ρ S1 else b ρ S1
noncomputable def cOf (a:ME):MT:=fun ρ S=>bnd (a ρ S) fun x S1=>match x with
 | .bl b=>some (b,S1)
 | _=>none
noncomputable def nJ (a b:MT):MT:=fun ρ S=>bnd (a ρ S) fun k S1=>if k then b ρ S1 else some (false,S1)
noncomputable def cOr (a b:MT):MT:=fun ρ S=>bnd (a ρ S) fun k S1=>if k then some (true,S1) else b ρ S1
noncomputable def km (a:MT):MT:=fun ρ S=>bnd (a ρ S) fun k S1=>some (!k,S1)
noncomputable def cTT:MT:=fun _ S=>some (true,S)
inductive Src where
 | imm (us:List U)
 | mut (n:Nat)
 | enl (n:Nat)
 | zlt (n:Nat) (us:List U)
abbrev MI:=Rho->Sto->Option (Src×Sto)
noncomputable def okR (i:Int):Prop := -(2 ^ 62)<=i/\i < 2 ^ 62
noncomputable instance (i:Int):Decidable (okR i):=bR _
noncomputable def aU (i:Int) (n:Nat):List U:=(aA n).map fun (k:Nat) => .int (i+k)
noncomputable def iR1 (a:MA):MI:=fun ρ S=>bnd (a ρ S) fun xs S1=>match xs with
 | [.int j]=>if okR j then some (.imm (aU 0 j.toNat),S1) else none
 | _=>none
noncomputable def iR2 (a:MA):MI:=fun ρ S=>bnd (a ρ S) fun xs S1=>match xs with
 | [.int i,.int j]=>if okR i/\okR j then some (.imm (aU i (j - i).toNat),S1) else none
 | _=>none
noncomputable def iB (a:ME):MI:=fun ρ S=>bnd (a ρ S) fun x S1=>match x with
 | .tup us=>some (.imm us,S1)
 | .ref n=>(getL S1 n).map fun _=>(.mut n,S1)
 | _=>none
noncomputable def uJ (a:MA):MI:=fun ρ S=>bnd (a ρ S) fun xs S1=>match xs with
 | [.tup us]=>some (.imm us.reverse,S1)
 | _=>none
noncomputable def gW (us:List U):List U:=us.mapIdx fun i u => .tup [.int i,u]
noncomputable def nB (a:MA):MI:=fun ρ S=>bnd (a ρ S) fun xs S1=>match xs with
 | [.tup us]=>some (.imm (gW us),S1)
 | _=>none
noncomputable def d7 (t:MT) (e:ME) (ρ:Rho):List U->List U->Sto->Res (List U)
 | [],acc,S=>some (acc,S)
 | x::xs,acc,S=>bnd (t (ρ ++ [some x]) S) fun k S1=>if k then bnd (e (ρ ++ [some x]) S1) fun y S2=>d7 t e ρ xs (acc ++ [y]) S2 else d7 t e ρ xs acc S1
noncomputable def jQ (t:MT) (e:ME) (ρ:Rho) (n:Nat):Nat->Nat->List U->Sto->Res (List U)
 | 0,_,_,_=>none
 | f+1,i,acc,S=>(getL S n).bind fun us=>match us[i]? with
   | none=>some (acc,S)
   | some x=>bnd (t (ρ ++ [some x]) S) fun k S1=>if k then bnd (e (ρ ++ [some x]) S1) fun y S2=>jQ t e ρ n f (i+1) (acc ++ [y]) S2 else jQ t e ρ n f (i+1) acc S1
noncomputable def fuel:Nat:=100000
noncomputable def wV (t:MT) (e:ME) (ρ:Rho):Src->Sto->Res (List U)
 | .imm us,S=>d7 t e ρ us [] S
 | .mut n,S=>jQ t e ρ n fuel 0 [] S
 | _,_=>none
noncomputable def cw (it:MI) (t:MT) (e:ME):ME:=fun ρ S=>bnd (it ρ S) fun src S1=>bnd (wV t e ρ src S1) fun ys S2=>if ys.length < big then some (.ref S2.length,S2 ++ [.lst ys]) else none
inductive Fl where
 | nx | rt (u:U) | bk | ct
abbrev MS:=Rho->Sto->Option (Fl×Rho×Sto)
noncomputable def cD:MS:=fun ρ S=>some (.nx,ρ,S)
noncomputable def aZ (a b:MS):MS:=fun ρ S=>match a ρ S with
 | some (.nx,ρ1,S1)=>b ρ1 S1
 | r=>r
noncomputable def br (i:Nat) (e:ME):MS:=fun ρ S=>bnd (e ρ S) fun x S1=>some (.nx,ρ.set i (some x),S1)
noncomputable def lF (o i e:ME):MS:=fun ρ S=>bnd (e ρ S) fun x S1=>bnd (o ρ S1) fun p S2=>bnd (i ρ S2) fun j S3=>match p with
 | .ref n=>match S3[n]? with
   | some (.lst us)=>(match j with
     | .int k=>(L2.ixN us.length k).map fun m=>(.nx,ρ,S3.set n (.lst (us.set m x)))
     | _=>none)
   | some (.dic kvs)=>(keyOf j).bind fun k=>if kvs.length < big then some (.nx,ρ,S3.set n (.dic (B3 kvs k x))) else none
   | _=>none
 | _=>none
noncomputable def dy (e:ME):MS:=fun ρ S=>bnd (e ρ S) fun _ S1=>some (.nx,ρ,S1)
noncomputable def cW (e:ME):MS:=fun ρ S=>bnd (e ρ S) fun x S1=>some (.rt x,ρ,S1)
noncomputable def sIf (c:MT) (a b:MS):MS:=fun ρ S=>bnd (c ρ S) fun k S1=>if k then a ρ S1 else b ρ S1
noncomputable def aft (r:Option (Fl×Rho×Sto)) (k:MS):Option (Fl×Rho×Sto):=match r with
 | some (.nx,ρ1,S1)=>k ρ1 S1
 | some (.ct,ρ1,S1)=>k ρ1 S1
 | some (.bk,ρ1,S1)=>some (.nx,ρ1,S1)
 | r=>r
noncomputable def jE (i:Nat) (b:MS):List U->MS
 | [],ρ,S=>some (.nx,ρ,S)
 | x::xs,ρ,S=>aft (b (ρ.set i (some x)) S) (jE i b xs)
noncomputable def forL (i:Nat) (b:MS) (n:Nat):Nat->Nat->MS
 | 0,_,_,_=>none
 | f+1,k,ρ,S=>(getL S n).bind fun us=>match us[k]? with
   | none=>some (.nx,ρ,S)
   | some x=>aft (b (ρ.set i (some x)) S) (forL i b n f (k+1))
noncomputable def JR (i:Nat) (b:MS):Src->MS
 | .imm us=>jE i b us
 | .mut n=>forL i b n fuel 0
 | _=>fun _ _=>none
noncomputable def d5 (i:Nat) (it:MI) (b:MS):MS:=fun ρ S=>bnd (it ρ S) fun src S1=>JR i b src ρ S1
noncomputable def whl (c:MT) (b:MS):Nat->MS
 | 0,_,_=>none
 | f+1,ρ,S=>bnd (c ρ S) fun k S1=>if k then aft (b ρ S1) (whl c b f) else some (.nx,ρ,S1)
noncomputable def ki (c:MT) (b:MS):MS:=whl c b fuel
noncomputable def run (k n:Nat) (b:MS):MF:=fun us S=>if us.length=k then match b (us.map some++ay (n - k) none) S with
  | some (.rt u,_,S1)=>some (u,S1)
  | some (.nx,_,S1)=>some (.non,S1)
  | _=>none
 else none
noncomputable def cQ:MF:=fun us S=>match us with
 | [x]=>(match fP S x with
   | some kvs=>some (.int kvs.length,S)
   | none=>(du S x).map fun xs=>(.int xs.length,S))
 | _=>none
noncomputable def bS:MF:=fun us S=>match us with
 | [x]=>(du S x).map fun xs=>(.tup xs,S)
 | _=>none
noncomputable def sZ:MF:=fun us S=>match us with
 | [.int i,.int j]=>some (.int (if j > i then j else i),S)
 | _=>none
noncomputable def zt:U->Option Int
 | .int i=>some i
 | _=>none
noncomputable def vc:List Int->Option Int
 | []=>none
 | x::xs=>match vc xs with
   | none=>some x
   | some m=>some (if m < x then m else x)
noncomputable def nK:MF:=fun us S=>match us with
 | [.int i,.int j]=>some (.int (if j < i then j else i),S)
 | [.ref n]=>((getL S n).bind fun xs=>(dq zt xs).bind vc).map fun m=>(.int m,S)
 | _=>none
noncomputable def fV (it:MI):ME:=fun ρ S=>bnd (it ρ S) fun src S1=>match src with
 | .imm us=>if us.length<=big then some (.ref S1.length,S1 ++ [.lst us]) else none
 | _=>none
noncomputable def Gf (d:PyData):Prop:=d.showable=true/\d.shown.length<=sizeLine
noncomputable instance (d:PyData):Decidable (Gf d):=bR _
noncomputable def mML (f:Nat->List U->Sto->Res U) (o:ME) (a:MA):ME:=fun ρ S=>bnd (o ρ S) fun p S1=>match p with
 | .ref n=>(getL S1 n).bind fun _=>bnd (a ρ S1) fun xs S2=>f n xs S2
 | _=>none
noncomputable def cm:Nat->List U->Sto->Res U:=fun n xs S=>match xs with
 | [x]=>match S[n]? with
   | some (.lst us)=>if us.length < big then some (.non,S.set n (.lst (us ++ [x]))) else none
   | _=>none
 | _=>none
noncomputable def iR:Nat->List U->Sto->Res U:=fun n xs S=>match xs with
 | [.int i]=>match S[n]? with
   | some (.lst us)=>if okR i then (L2.ixN us.length i).bind fun j=>us[j]?.map fun y=>(y,S.set n (.lst (us.eraseIdx j))) else none
   | _=>none
 | _=>none
noncomputable def JZ:Nat->List U->Sto->Res U:=fun n xs S=>match xs with
 | []=>match S[n]? with
   | some (.lst us)=>us[us.length - 1]?.map fun y=>(y,S.set n (.lst us.dropLast))
   | _=>none
 | _=>none
noncomputable def mMT (f:List U->List U->Sto->Res U) (o:ME) (a:MA):ME:=fun ρ S=>bnd (o ρ S) fun p S1=>match p with
 | .tup us=>bnd (a ρ S1) fun xs S2=>f us xs S2
 | _=>none
end
end G
end
section
namespace L2
open PySem PySem.Spec PyProof.Rows
noncomputable def blk (X:Cx) (N':List Str) (scope:Scope) (s₂:Shared) (H₂:Hp) (fp:List Addr):Cx:=
 { X with
  N:=N'
  s₀:=s₂
  H₀:=H₂
  env:={ scope:=relabel scope X.env,locals:=s₂.heap.objs.size+1,globals:=X.env.globals,cells:=cellsFrom (s₂.heap.objs.size+2) scope.names (iA X.env scope.names []),qual:=X.env.qual,func:=none,code:=X.env.code,frame:=X.env.frame,builtins:=X.env.builtins }
  outer:=X.stack
  ex:=fp
  fn:=fun x=>scope.names.lookup x == some .cell
  pn := []
  xe:=fun _ _=>False }
structure gJ (X:Cx) (N':List Str) (scope:Scope) (xs:List Str):Prop where
 kind:scope.kind = .function
 nd:(scope.names.map (·.1)).Nodup
 free : ∀ y∈scope.names,y.2 = .free->X.env.kindOf y.1=some .cell\/X.env.kindOf y.1=some .free
 own : ∀ x∈xs,scope.names.lookup x=some .local\/scope.names.lookup x=some .cell
 ndN:N'.Nodup
 len:N'.length=X.N.length+xs.length
 last : ∀ (j:Nat) (x:Str),xs[j]? = some x->N'[X.N.length+j]? = some x
 vis : ∀ (i:Nat) (y:Str),i < X.N.length->N'[i]? = some y->(scope.names.lookup y=some .local\/scope.names.lookup y=some .cell\/scope.names.lookup y=some .free)->X.N[i]? = some y/\scope.names.lookup y=some .free
theorem fM {env:Env} : ∀ {names:List (Str×NameKind)}{x:Str}{k:NameKind},
  (names.map fun (n,k)=>if (k == aO&&env.scope.kind == .function&&env.kindOf n == some .cell) then (n,b0) else (n,k)).lookup x=some k ->
  names.lookup x=some k\/(names.lookup x=some .free/\k = .cell)
 | [],_,_,h=>by simp at h
 | (n,k')::r,x,k,h=>by
   have ih := @fM env r x k
   have h':mR x ((if (k' == aO&&env.scope.kind == .function&&env.kindOf n == some .cell)=true then (n,b0) else (n,k'))::(r.map fun (n,k)=>if (k == aO&&env.scope.kind == .function&&env.kindOf n == some .cell) then (n,b0) else (n,k)))=some k:=h
   by_cases hc:(k' == aO&&env.scope.kind == .function&&env.kindOf n == some .cell)=true
   ·rw [if_pos hc] at h'
    rw [aL] at h' ⊢
    cases hx:x == n with
    | true=>
      rw [hx] at h'
      have hk:k' = .free:=by
       rw [ax,ax] at hc
       simpa using hc.1.1
      subst hk
      exact .inr ⟨rfl,(bu h').symm⟩
    | false=>rw [hx] at h';exact ih h'
   ·rw [if_neg hc] at h'
    rw [aL] at h' ⊢
    cases hx:x == n with
    | true=>rw [hx] at h';exact .inl h'
    | false=>rw [hx] at h';exact ih h'
theorem jl {env:Env} : ∀ {names:List (Str×NameKind)}{x:Str},names.lookup x=some .cell ->
  (names.map fun (n,k)=>if (k == aO&&env.scope.kind == .function&&env.kindOf n == some .cell) then (n,b0) else (n,k)).lookup x=some .cell
 | [],_,h=>by simp at h
 | (n,k')::r,x,h=>by
   have ih := @jl env r x
   show mR x ((if (k' == aO&&env.scope.kind == .function&&env.kindOf n == some .cell)=true then (n,b0) else (n,k'))::_)=_
   rw [aL] at h
   cases hx:x == n with
   | true=>
     rw [hx] at h
     cases h
     simp [aL,hx]
   | false=>
     rw [hx] at h
     by_cases hc:(k' == aO&&env.scope.kind == .function&&env.kindOf n == some .cell)=true
     ·rw [if_pos hc];simp only [aL,hx];exact ih h
     ·rw [if_neg hc];simp only [aL,hx];exact ih h
theorem jj {env:Env} : ∀ {names:List (Str×NameKind)}{x:Str},names.lookup x=some .free ->
  (names.map fun (n,k)=>if (k == aO&&env.scope.kind == .function&&env.kindOf n == some .cell) then (n,b0) else (n,k)).lookup x=some .cell \/
  (names.map fun (n,k)=>if (k == aO&&env.scope.kind == .function&&env.kindOf n == some .cell) then (n,b0) else (n,k)).lookup x=some .free
 | [],_,h=>by simp at h
 | (n,k')::r,x,h=>by
   have ih := @jj env r x
   show mR x ((if (k' == aO&&env.scope.kind == .function&&env.kindOf n == some .cell)=true then (n,b0) else (n,k'))::_)=_\/mR x ((if (k' == aO&&env.scope.kind == .function&&env.kindOf n == some .cell)=true then (n,b0) else (n,k'))::_)=_
   rw [aL] at h
   by_cases hc:(k' == aO&&env.scope.kind == .function&&env.kindOf n == some .cell)=true
   ·rw [if_pos hc]
    cases hx:x == n with
    | true=>exact .inl (by simp [aL,hx])
    | false=>
      rw [hx] at h
      simp only [aL,hx];exact ih h
   ·rw [if_neg hc]
    cases hx:x == n with
    | true=>rw [hx] at h;cases h;exact .inr (by simp [aL,hx])
    | false=>
      rw [hx] at h
      simp only [aL,hx];exact ih h
theorem mF {env:Env} : ∀ {names:List (Str×NameKind)}{x:Str},names.lookup x=some .globalImplicit ->
  (names.map fun (n,k)=>if (k == aO&&env.scope.kind == .function&&env.kindOf n == some .cell) then (n,b0) else (n,k)).lookup x=some .globalImplicit
 | [],_,h=>by simp at h
 | (n,k')::r,x,h=>by
   have ih := @mF env r x
   show mR x ((if (k' == aO&&env.scope.kind == .function&&env.kindOf n == some .cell)=true then (n,b0) else (n,k'))::_)=_
   rw [aL] at h
   cases hx:x == n with
   | true=>
     rw [hx] at h
     cases h
     simp [aL,hx]
   | false=>
     rw [hx] at h
     by_cases hc:(k' == aO&&env.scope.kind == .function&&env.kindOf n == some .cell)=true
     ·rw [if_pos hc];simp only [aL,hx];exact ih h
     ·rw [if_neg hc];simp only [aL,hx];exact ih h
theorem kK : ∀ {names:List (Str×NameKind)}{x:Str}{k:NameKind},(names.map (·.1)).Nodup->(x,k)∈names->names.lookup x=some k
 | [],_,_,_,h=>by simp at h
 | (n,k')::r,x,k,nd,h=>by
   rw [bT,fR] at nd
   rw [aL]
   rcases aR.mp h with e | h2
   ·cases e;simp
   ·have hne:x≠n:=by
     intro e
     subst e
     exact nd.1 (bX.mpr ⟨(x,k),h2,rfl⟩)
    have hb:(x == n)=false:=beq_eq_false_iff_ne.mpr hne
    rw [hb]
    exact kK nd.2 h2
theorem i7 {X:Cx}{scope:Scope}{n:Nat} (hf : ∀ y∈scope.names,y.2 = .free -> ∃ c,X.env.cells.lookup y.1=some c) {x:Str}{c:Addr}
  (h:(cellsFrom n scope.names (iA X.env scope.names [])).lookup x=some c):(cellsFrom n scope.names []).lookup x=some c\/X.env.cells.lookup x=some c:=by
 rw [d9,fT] at h
 cases q:(cellsFrom n scope.names []).lookup x with
 | some d=>rw [q] at h;exact .inl h
 | none=>
   rw [q] at h
   have h':(iA X.env scope.names []).lookup x=some c:=h
   rcases mO scope.names [] hf x c h' with e | e
   ·exact .inr e
   ·cases e
section
variable {X:Cx}{pins:List (Addr×Obj)}{σ:St}{H₂:Hp}{s₂:Shared}{N':List Str}{scope:Scope}{xs:List Str}{fp:List Addr}
theorem gJ.frees (C:gJ X N' scope xs) (ok:X.Ok) : ∀ y∈scope.names,y.2 = .free -> ∃ c,X.env.cells.lookup y.1=some c:=fun y hy e=>ok.has y.1 (C.free y hy e)
theorem BI (C:gJ X N' scope xs) {y:Str}{n:Nat} (h:scope.names.lookup y=some .cell\/scope.names.lookup y=some .free) : ∃ c,(cellsFrom n scope.names (iA X.env scope.names [])).lookup y=some c:=by
 refine cb.mp (fX scope.names n _ ?_)
 rcases h with h | h
 ·exact .inl h
 ·exact .inr (mx scope.names [] (.inl h))
theorem ET (I:Inv X pins σ H₂ s₂) (C:gJ X N' scope xs) (hfp : ∀ b∈fp,pP X pins H₂ b) (hlt : ∀ b∈fp,b < s₂.heap.objs.size):(blk X N' scope s₂ H₂ fp).Ok:=by
 have own : ∀ y c,(cellsFrom (s₂.heap.objs.size+2) scope.names []).lookup y=some c->s₂.heap.objs.size+2<=c:=fun y c h=>by
  have ok:=cellsFrom_ok scope.names ((s₂.heap.push default).push default) (s₂.heap.objs.size+2) [] ⟨fun _ _ hm=>(nomatch hm),fH⟩ (by rw [bw,bw];exact ak _)
  rw [bw,bw] at ok
  exact (ok.empty y c (bI h)).2
 have apart:(cellsFrom (s₂.heap.objs.size+2) scope.names []).Pairwise fun x y=>x.2≠y.2:=by
  have ok:=cellsFrom_ok scope.names ((s₂.heap.push default).push default) (s₂.heap.objs.size+2) [] ⟨fun _ _ hm=>(nomatch hm),fH⟩ (by rw [bw,bw];exact ak _)
  rw [bw,bw] at ok
  exact ok.apart
 have old : ∀ y c,X.env.cells.lookup y=some c->c < s₂.heap.objs.size:=fun y c h=>by obtain⟨v,z⟩:=I.cell y c h;exact z.lt
 refine⟨I.ok.mod,C.kind,I.ok.glob,I.ok.blt,ck _,fun y z c h1 h2 => ?_,fun y hy => ?_,fun y c hy h => ?_,I.ok.hd,I.ok.frames,.inl rfl,fun b hb=>⟨?_,fun y c h z => ?_⟩,I.bs,aK I.ok.bsz I.sz,fun b o e hb => ?_,fun b hb z => ?_,I.stack,I.stkFree⟩
 ·rcases i7 (C.frees I.ok) h1 with a | a <;> rcases i7 (C.frees I.ok) h2 with b | b
  ·exact name_of_addr apart (bI a) (bI b)
  ·exact absurd (ah (old z c b) (aK (iu _ 2) (own y c a))) (bB _)
  ·exact absurd (ah (old y c a) (aK (iu _ 2) (own z c b))) (bB _)
  ·exact I.ok.inj y z c a b
 ·have hy:(relabel scope X.env).names.lookup y=some .cell\/(relabel scope X.env).names.lookup y=some .free:=hy
  refine BI C ?_
  rcases hy with hy | hy
  ·rcases fM hy with e | ⟨e,_⟩
   ·exact .inl e
   ·exact .inr e
  ·rcases fM hy with e | ⟨e,_⟩
   ·exact .inr e
   ·exact .inr e
 ·have hy':scope.names.lookup y=some .cell:=by simpa [blk] using hy
  have h':(cellsFrom (s₂.heap.objs.size+2) scope.names (iA X.env scope.names [])).lookup y=some c:=h
  rw [d9,fT] at h'
  have q:=cb.mp (fX scope.names (s₂.heap.objs.size+2) [] (.inl hy'))
  obtain⟨d,hd⟩:=q
  rw [hd] at h'
  have e:d=c:=bu h'
  subst e
  have:=own y d hd
  show s₂.heap.objs.size<=d
  omega
 ·have:=hlt b hb
  exact bg (eZ this)
 ·have:=hlt b hb
  rcases i7 (C.frees I.ok) h with a | a
  ·exact absurd (ah this (aK (iu _ 2) (z▸own y c a))) (bB _)
  ·exact (hfp b hb).2.2.2.2.1 y c a z
 ·have z:=(hfp b hb).2.2.2.1
  rcases z with z | z
  ·exact I.ok.noex b o e z
  ·exact absurd (ah (aD e) (aK I.ok.bsz z)) (bB _)
 ·rcases aR.mp (I.stkSub b z) with e | e
  ·exact (hfp b hb).2.1 e
  ·exact (hfp b hb).2.2.1 e
theorem yk (I:Inv X pins σ H₂ s₂) (C:gJ X N' scope xs) (hfp : ∀ b∈fp,pP X pins H₂ b) (hlt : ∀ b∈fp,b < s₂.heap.objs.size) {lo do':Obj} (hdo:do'.data = .dict #[]) (hdo2:do'.isFreed=false) (hlo:lo.isFreed=false) :
  Inv (blk X N' scope s₂ H₂ fp) [] (σ++ay xs.length none) H₂ { s₂ with heap:=pushCells ((s₂.heap.push lo).push do') scope.names }:=by
 have sz:((s₂.heap.push lo).push do').objs.size=s₂.heap.objs.size+2:=by rw [bw,bw]
 have okc:=cellsFrom_ok scope.names ((s₂.heap.push lo).push do') (s₂.heap.objs.size+2) [] ⟨fun _ _ hm=>(nomatch hm),fH⟩ (by rw [sz];exact ak _)
 rw [sz] at okc
 have kp : ∀ b o,s₂.heap.get? b=some o->(pushCells ((s₂.heap.push lo).push do') scope.names).get? b=some o:=fun b o e=>pushCells_keeps _ _ b o (ar _ (ar _ e))
 have hL:(pushCells ((s₂.heap.push lo).push do') scope.names).get? (s₂.heap.objs.size+1)=some do':=pushCells_keeps _ _ _ _ (by
  have e:s₂.heap.objs.size+1=(s₂.heap.push lo).objs.size:=by rw [bw]
  rw [e];exact aF _ hdo2)
 refine⟨ET I C hfp hlt,rfl,I.bare,Un.kept kp,⟨fun _=>none,⟨do',#[],_,hL,hdo,fun e he=>by simp at he,fun _=>rfl⟩,fun i y v h1 h2 h3 => ?_⟩,fun y c h => ?_,I.hok.fresh (ck _),fun y c h => ?_,fun p hp=>absurd (show p∈([]:List (Addr×Obj)) from hp) (by simp),I.hok.kept kp,?_⟩
 ·have hi:i < X.N.length:=by
   by_cases hi:i < X.N.length
   ·exact hi
   ·rw [aq (by rw [I.len];exact dn (by assumption)),fY] at h2
    split at h2 <;> simp at h2
  rw [aQ (by rw [I.len];exact hi)] at h2
  have hv:scope.names.lookup y=some .local\/scope.names.lookup y=some .cell\/scope.names.lookup y=some .free:=by
   rcases h3 with h3 | h3 | h3 <;> rcases fM h3 with e | ⟨e,e'⟩
   ·exact .inl e
   ·cases e'
   ·exact .inr (.inl e)
   ·exact .inr (.inr e)
   ·exact .inr (.inr e)
   ·cases e'
  obtain⟨hN,hfr⟩:=C.vis i y hi h1 hv
  have hmem:(y,aO)∈scope.names:=bI hfr
  have hk:=C.free _ hmem rfl
  have vis:Vis X.env.scope y := .inr hk
  obtain⟨m,hn,hl⟩:=I.loc
  obtain⟨u,r,l⟩:=hl i y v hN h2 vis
  refine⟨u,r,.inr ⟨jj hfr,?_⟩⟩
  rcases l with⟨hk',_⟩ | ⟨_,c,hc,hcell⟩
  ·rcases hk with hk | hk
   ·rw [hk] at hk';cases hk'
   ·rw [hk] at hk';cases hk'
  ·have nown:(cellsFrom (s₂.heap.objs.size+2) scope.names []).lookup y=none:=by
    cases q:(cellsFrom (s₂.heap.objs.size+2) scope.names []).lookup y with
    | none=>rfl
    | some d=>
      rcases iS scope.names _ _ d q with⟨z,hz,e1,e2⟩ | e
      ·obtain⟨z1,z2⟩:=z
       simp only at e1 e2
       subst e1;subst e2
       exact absurd (kK C.nd hz) (by rw [hfr];simp)
      ·cases e
   obtain⟨d,hd⟩:=cb.mp (mx (env:=X.env) (x:=y) scope.names [] (.inl hfr))
   have hd':X.env.cells.lookup y=some d:=by
    rcases mO scope.names [] (C.frees I.ok) y d hd with e | e
    ·exact e
    ·cases e
   rw [hc] at hd';cases hd'
   refine⟨c,?_,hcell.keeps kp⟩
   show (cellsFrom (s₂.heap.objs.size+2) scope.names (iA X.env scope.names [])).lookup y=some c
   rw [d9,fT,nown]
   exact hd
 ·rcases i7 (C.frees I.ok) h with a | a
  ·exact⟨none,(okc.empty y c (bI a)).1⟩
  ·obtain⟨v,z⟩:=I.cell y c a
   exact⟨v,z.keeps kp⟩
 ·rcases i7 (C.frees I.ok) h with a | a
  ·exact I.hok.fresh (aK (iu _ 2) (okc.empty y c (bI a)).2)
  ·exact I.freeC y c a
 ·show (σ++ay xs.length none).length=N'.length
  rw [be,lU,I.len,C.len]
end
noncomputable def PTs (X:Cx) (ifs:List Expr) (t:TT):Prop:=
 ∀ (pins:List (Addr×Obj)) (s:Shared) (σ:St) (H:Hp) (Q:Bool->Hp->Prop),Inv X pins σ H s->t σ H Q ->
  aJ (model X.prog X.w) X.A (forIn ifs true fun c r=>if r=true then do let ok <- isTrue c X.env (eval c X.env);pure (cY ok) else pure (cY r)) (TP X pins σ Q) X.xe s
theorem B5 {X:Cx}:PTs X [] (fun _ H Q=>Q true H):=fun pins s σ H Q I h=>by
 rw [List.forIn_nil]
 exact bc ⟨H,I,h⟩
theorem B6 {X:Cx}{c:Expr}{t:TT} (h:PT X c t):PTs X [c] t:=fun pins s σ H Q I q=>by
 rw [iM]
 simp only [if_true]
 refine aj (aj (thn (h pins s σ H Q I q) fun b s1 e=>bc ?_))
 show aJ _ _ (forIn [] b _) _ _ _
 rw [List.forIn_nil]
 exact bc e
noncomputable def mM (wi:TI) (tt:TT) (te:TE):TE:=fun σ H Q=>wi σ H fun J H1 => ∃ W:Nat->Nat->List V->Hp->Prop,(∃ m,W 0 m [] H1) /\ ∀ i m ys H,W i m ys H->ys.length < sizeLine /\
 ((J.stop i H /\ ∀ D,H D=none->Q (.ref D) (upd H D (.lst ys))) \/
  (J.go i H /\ ∀ x H',J.yld i H x H'->tt (σ ++ [some x]) H' fun b H3=>if b=true then te (σ ++ [some x]) H3 fun y H4 => ∃ m',m' < m/\W (i+1) m' (ys ++ [y]) H4 else ∃ m',m' < m/\W (i+1) m' ys H3))
theorem HOk.track {P:Program}{w:World}{H:Hp}{h:Heap}{a:Addr}{o:HO} (x:HOk P w H h) (hn:H a=none) (new:d4 P w (upd H a o) h a o):HOk P w (upd H a o) h:=fun b u e=>by
 by_cases hb:b=a
 ·subst hb;rw [cq] at e;cases e;exact new
 ·rw [aV hb] at e
  exact (x b u e).stay (fun c v _ q=>q) (fun c q=>by rw [aV (aS q hn)];exact q) fun c xs q=>by rw [aV (aS q hn)];exact q
theorem HOk.but {P:Program}{w:World}{H:Hp}{h h':Heap}{a:Addr} (x:HOk P w H h) (hn:H a=none) (k : ∀ b o,b≠a->h.get? b=some o->h'.get? b=some o):HOk P w H h':=fun b u e=>by
 refine (x b u e).stay (fun c v hc q=>k c v ?_ q) (fun _ q=>q) fun _ _ q=>q
 rcases hc with rfl | hc
 ·exact aS e hn
 ·exact aS hc hn
noncomputable def Fc (gT:V->Hp->(St->Hp->Prop)->Prop) (wi:TI) (tt:TT) (te:TE):TE:=fun σ H Q=>wi σ H fun J H1 => ∃ W:Nat->Nat->List V->Hp->Prop,(∃ m,W 0 m [] H1) /\ ∀ i m ys H,W i m ys H->ys.length < sizeLine /\
 ((J.stop i H /\ ∀ D,H D=none->Q (.ref D) (upd H D (.lst ys))) \/
  (J.go i H /\ ∀ x H',J.yld i H x H'->gT x H' fun τ H2=>tt (σ++τ) H2 fun b H3=>if b=true then te (σ++τ) H3 fun y H4 => ∃ m',m' < m/\W (i+1) m' (ys ++ [y]) H4 else ∃ m',m' < m/\W (i+1) m' ys H3))
noncomputable def gT1:V->Hp->(St->Hp->Prop)->Prop:=fun v H Q=>Q [some v] H
section
variable {X:Cx}{N':List Str}{scope:Scope}{x:Str}{xs:List Str}{tg:Expr}{gT:V->Hp->(St->Hp->Prop)->Prop}{px pos:Pos}{elt iter:Expr}{ifs:List Expr}{wi:TI}{tt:TT}{te:TE}
theorem qD {use:Option (Value->Sem Unit)}{Qf:Value->Shared->Prop} (hc:X.calm=true) (C:gJ X N' scope xs) (hi:PI X tg iter wi)
  (ht : ∀ s₂ H₂ fp,PTs (blk X N' scope s₂ H₂ fp) ifs tt) (he : ∀ s₂ H₂ fp,PE (blk X N' scope s₂ H₂ fp) elt te) {pins:List (Addr×Obj)}{s:Shared}{σ:St}{H:Hp}{Q:VK} (I:Inv X pins σ H s) (h:Fc gT wi tt te σ H Q)
  (htg : ∀ (s₂:Shared) (H₂:Hp) (fp:List Addr) (pl:List (Addr×Obj)) (s:Shared) (H:Hp) (v:V) (u:Value) (Q:St->Hp->Prop),Inv (blk X N' scope s₂ H₂ fp) pl (σ++ay xs.length none) H s->RelV v u->gT v H Q ->
   aJ (model X.prog X.w) X.A (assign tg (blk X N' scope s₂ H₂ fp).env u) (fun _ s' => ∃ τ H',τ.length=xs.length/\Inv (blk X N' scope s₂ H₂ fp) pl (σ++τ) H' s'/\Q τ H') (fun _ _=>False) s)
  (hfin : ∀ (s':Shared) (L D:Addr) (H':Hp) (ml:Str->Option Value),s'.heap.Ns L ml->Inv X pins σ H' s'->H' L=none->L≠X.env.locals->X.s₀.heap.objs.size<=L->(∀ y c,X.env.cells.lookup y=some c->c≠L)->(∀ p∈X.pn++pins,p.1≠L) ->
   Q (.ref D) H'->compPost (model X.prog X.w) X.A X.xe use Qf (.ref D) L (.ok .next) s') :
  aJ (model X.prog X.w) X.A (eval iter X.env) (fun xv s₁=>aJ (model X.prog X.w) X.A (pyIter xv) (fun it s₂=>aJ (model X.prog X.w) X.A (newList []) (fun acc s₃=>
   aJ (model X.prog X.w) X.A (newFunctionEnv scope X.env.globals (iA X.env scope.names []) [] X.env.qual none .none (some X.env)) (fun cenv s₄=>
    nr (model X.prog X.w) X.A (.compStart (.ListComp elt [⟨tg,iter,ifs,0⟩] scope pos) 0 it acc { cenv with scope:=relabel scope X.env }) (compPost (model X.prog X.w) X.A X.xe use Qf acc cenv.locals) s₄) X.xe s₃) X.xe s₂) X.xe s₁) X.xe s:=by
 refine thn (hi pins s σ H _ I h) fun v s1 h1=>thn h1 fun itv s2 h2 => ?_
 obtain⟨it,fp,tn,J,H2,e,I2,T,st2,f2,W,⟨m0,w0⟩,turn⟩:=h2
 subst e
 have hlt : ∀ b∈fp,b < s2.heap.objs.size:=fun b hb=>by obtain⟨o,ho,_⟩:=T.obj _ _ st2 b hb;exact aD ho
 refine d8 (mw ?_)
 dsimp only
 have I4:Inv (blk X N' scope s2 H2 fp) [] (σ++ay xs.length none) H2 { s2 with heap:=pushCells ((s2.heap.push { cls := .type "list",dict:=none,data := .seq ([]:List Value).toArray }).push { cls := .type "dict",data := .dict #[] }) scope.names }:=
  yk I2 C f2 hlt rfl rfl rfl
 generalize hXb:blk X N' scope s2 H2 fp=Xb at I4
 have hD4:(pushCells ((s2.heap.push { cls := .type "list",dict:=none,data := .seq ([]:List Value).toArray }).push { cls := .type "dict",data := .dict #[] }) scope.names).get? s2.heap.objs.size=some { cls := .type "list",data := .seq ([]:List Value).toArray }:=
  pushCells_keeps _ _ _ _ (ar _ (aF _ rfl))
 have st4:tn 0 (pushCells ((s2.heap.push { cls := .type "list",dict:=none,data := .seq ([]:List Value).toArray }).push { cls := .type "dict",data := .dict #[] }) scope.names):=
  T.keep _ _ _ st2 fun b hb o e=>pushCells_keeps _ _ b o (ar _ (ar _ e))
 have henv:({ scope:=relabel scope X.env,locals:=(s2.heap.push { cls := .type "list",dict:=none,data := .seq ([]:List Value).toArray }).objs.size,globals:=X.env.globals,cells:=cellsFrom ((s2.heap.push { cls := .type "list",dict:=none,data := .seq ([]:List Value).toArray }).objs.size+1) scope.names (iA X.env scope.names []),qual:=X.env.qual,func:=none,code:=X.env.code,frame:=X.env.frame,builtins:=X.env.builtins }:Env)=Xb.env:=by
  rw [<- hXb,bw];rfl
 generalize hs4:({ s2 with heap:=pushCells ((s2.heap.push { cls := .type "list",dict:=none,data := .seq ([]:List Value).toArray }).push { cls := .type "dict",data := .dict #[] }) scope.names }:Shared)=s4 at I4
 have hD4':s4.heap.get? s2.heap.objs.size=some { cls := .type "list",data := .seq ([]:List Value).toArray }:=by rw [<- hs4];exact hD4
 have st4':tn 0 s4.heap:=by rw [<- hs4];exact st4
 have hL:Xb.env.locals=s2.heap.objs.size+1:=by rw [<- hXb];rfl
 have hex:Xb.ex=fp:=by rw [<- hXb];rfl
 have hs0:Xb.s₀=s2:=by rw [<- hXb];rfl
 have hH0:Xb.H₀=H2:=by rw [<- hXb];rfl
 have hfs:Xb.fs=frs X.stack:=by rw [<- hXb];rfl
 have hpn:Xb.pn = []:=by rw [<- hXb];rfl
 have hK:Xb.K=X.K:=by rw [<- hXb];rfl
 have hP:Xb.prog=X.prog:=by rw [<- hXb];rfl
 have hw:Xb.w=X.w:=by rw [<- hXb];rfl
 have hA:Xb.A=X.A:=by rw [<- hXb];rfl
 have hxe:Xb.xe=fun _ _=>False:=by rw [<- hXb];rfl
 have hcb:Xb.calm=true:=by rw [<- hXb];exact hc
 have hNb:Xb.N=N':=by rw [<- hXb];rfl
 have hfn : ∀ y,scope.names.lookup y=some .cell->Xb.fn y=true:=fun y hy=>by rw [<- hXb];show (scope.names.lookup y == some .cell)=true;rw [hy];rfl
 have htb:PTs Xb ifs tt:=by rw [<- hXb];exact ht _ _ _
 have heb:PE Xb elt te:=by rw [<- hXb];exact he _ _ _
 have hgb : ∀ (pl:List (Addr×Obj)) (s:Shared) (H:Hp) (v:V) (u:Value) (Q:St->Hp->Prop),Inv Xb pl (σ++ay xs.length none) H s->RelV v u->gT v H Q ->
   aJ (model X.prog X.w) X.A (assign tg Xb.env u) (fun _ s' => ∃ τ H',τ.length=xs.length/\Inv Xb pl (σ++τ) H' s'/\Q τ H') (fun _ _=>False) s:=by
  rw [<- hXb];exact htg _ _ _
 have cellne : ∀ y c,Xb.env.cells.lookup y=some c->c≠s2.heap.objs.size:=fun y c e z=>by
  obtain⟨v,o,ho,hd⟩:=I4.cell y c e
  rw [z,hD4'] at ho
  cases ho
  cases hd
 have stat : ∀ {H':Hp}{pl:List (Addr×Obj)},(∀ b∈fp,H' b=none)->(∀ p∈pl,p.1=s2.heap.objs.size) -> ∀ b∈fp,pP Xb pl H' b:=fun {H' pl} hn hpl b hb=>by
  refine⟨hn b hb,?_,?_,.inl (by rw [hex];exact hb),fun y c e z => ?_,fun p hp z => ?_⟩
  ·rw [hL];exact bg (eZ (hlt b hb))
  ·exact I4.ok.exfs b (by rw [hex];exact hb)
  ·exact (I4.ok.exf b (by rw [hex];exact hb)).2 y c e z
  ·rw [hpn] at hp
   have h1:=hpl p (by simpa using hp)
   have h2:=hlt b hb
   exact absurd h2 (by rw [<- z,h1];exact bB _)
 have Dfs:s2.heap.objs.size∉Xb.fs:=by
  rw [hfs]
  intro z
  rcases aR.mp (I2.stkSub _ z) with e | e
  ·exact absurd I2.lt (by rw [<- e];exact bB _)
  ·exact I2.nofs (ak _) e
 have fin : ∀ (s':Shared) (i m:Nat) (ys:List V) (its:List Value) (n:Nat) (H':Hp) (σ':St),Inv Xb [] σ' H' s'->H' s2.heap.objs.size=none->s'.heap.get? s2.heap.objs.size=some { cls := .type "list",data := .seq its.toArray n }->bW ys its->ys.length < sizeLine ->
   (∀ D,H' D=none->Q (.ref D) (upd H' D (.lst ys)))->compPost (model X.prog X.w) X.A X.xe use Qf (.ref s2.heap.objs.size) Xb.env.locals (.ok .next) s':=by
  intro s' i m ys its n H' σ' I' hDn hDo rv hz q
  obtain⟨ml,hml,_⟩:=I'.loc
  have kb : ∀ b o,b≠Xb.env.locals->s'.heap.get? b=some o->s'.heap.get? b=some o:=fun b o _ e=>e
  have hDL:s2.heap.objs.size≠Xb.env.locals:=by rw [hL];exact bg (cR _)
  have hok1:HOk X.prog X.w H' s'.heap:=by
   have:=I'.hok.but I'.free kb
   rw [hP,hw] at this;exact this
  have hok2:HOk X.prog X.w (upd H' s2.heap.objs.size (.lst ys)) s'.heap:=hok1.track hDn ⟨aW hz,its,n,rv,kb _ _ hDL hDo⟩
  have base:=I'.base
  rw [hs0,hH0,hex,hfs] at base
  have un:Un (frs X.stack) fp H2 (upd H' s2.heap.objs.size (.lst ys)) s2.heap s'.heap:=by
   have ltL : ∀ b o,s2.heap.get? b=some o->b≠Xb.env.locals:=fun b o e=>by rw [hL];exact bg (eZ (aD e))
   have ltD : ∀ b o,s2.heap.get? b=some o->b≠s2.heap.objs.size:=fun b o e=>bg (aD e)
   refine⟨fun b o e n hb hx=>kb b o (ltL b o e) (base.keep b o e n hb hx),fun b o e n hb hx => ?_,fun b o e n hx => ?_,fun b o e hx => ?_,fun b xs e => ?_,fun b o u e => ?_,fun b ps e => ?_⟩
   ·obtain⟨sl,q⟩:=base.slot b o e n hb hx
    exact⟨sl,kb b _ (ltL b o e) q⟩
   ·rw [aV (ltD b o e)];exact base.free b o e n hx
   ·obtain⟨o',q⟩:=base.there b o e hx
    exact⟨o',kb b _ (ltL b o e) q⟩
   ·have q:=base.tups b xs e
    rw [aV (aS q hDn)];exact q
   ·have q:=base.frzs b o u e
    rw [aV (aS q hDn)];exact q
   ·obtain⟨more,q⟩:=base.tbls b ps e
    exact⟨more,by rw [aV (aS q hDn)];exact q⟩
  have os:s'.os=s2.os:=by rw [I'.os,hs0]
  have If:=I2.call' (s':=s') os un hok2 I'.bare fun b hb=>⟨(f2 b hb).2.2.2.1,(f2 b hb).2.1,(f2 b hb).2.2.2.2.1,(f2 b hb).2.2.2.2.2⟩
  refine hfin s' _ _ _ ml hml If ?_ ?_ ?_ ?_ ?_ (q _ hDn)
  ·rw [aV (df hDL)];exact I'.free
  ·rw [hL];exact bY (eZ I2.lt)
  ·rw [hL];exact fb I2.sz
  ·intro y c e z
   obtain⟨v,o,ho,_⟩:=I2.cell y c e
   have:=aD ho
   rw [z,hL] at this;exact absurd (Nat.lt_of_succ_lt this) (bB _)
  ·intro p hp z
   have:=aD (I2.pin p hp).1
   rw [z,hL] at this;exact absurd (Nat.lt_of_succ_lt this) (bB _)
 have loop : ∀ it':Addr,it'=it->nr (model X.prog X.w) X.A (.compLoop (.ListComp elt [⟨tg,iter,ifs,0⟩] scope pos) 0 (.ref it') (.ref s2.heap.objs.size) Xb.env) (compPost (model X.prog X.w) X.A X.xe use Qf (.ref s2.heap.objs.size) Xb.env.locals) s4:=by
  rintro it' rfl
  refine j9 (fun n s' => ∃ (i:Nat) (ys:List V) (its:List Value) (nn:Nat) (H':Hp),Inv Xb [] (σ++ay xs.length none) H' s'/\tn i s'.heap/\(∀ b∈fp,H' b=none)/\H' s2.heap.objs.size=none /\
   s'.heap.get? s2.heap.objs.size=some { cls := .type "list",data := .seq its.toArray nn }/\bW ys its/\W i n ys H') ?_ m0 ⟨0,[],[],_,H2,I4,st4',fun b hb=>(f2 b hb).1,I2.hok.fresh (ak _),hD4',.nil,w0⟩
  rintro n s3 ⟨i,ys,its,nn,H3,I3,st3,fr3,hD3,hDo3,rv3,w3⟩
  obtain⟨hz,turn⟩:=turn i n ys H3 w3
  have pinD : ∀ {s':Shared}{H':Hp}{σ':St}{oD:Obj},Inv Xb [] σ' H' s'->H' s2.heap.objs.size=none->s'.heap.get? s2.heap.objs.size=some oD->(∀ v,oD.data ≠ .cell v)->Inv Xb [(s2.heap.objs.size,oD)] σ' H' s':=fun {s' H' σ' oD} I' hn ho hd=>
   I'.pins_of fun p hp=>by
    have e:p=(s2.heap.objs.size,oD):=by simpa using hp
    subst e
    exact⟨ho,hn,by rw [hL];show s2.heap.objs.size≠_;exact bg (cR _),Dfs,hd⟩
  have I3p:=pinD I3 hD3 hDo3 (fun v z=>by cases z)
  have hpl : ∀ p ∈ [(s2.heap.objs.size,({ cls := .type "list",data := .seq its.toArray nn }:Obj))],p.1=s2.heap.objs.size:=fun p hp=>by
   have e:=dG.mp hp
   rw [e]
  rcases turn with⟨stop,qn⟩ | ⟨go,step⟩
  ·have q:=T.done Xb hP hw hK hcb i _ s3 _ H3 (fun _ _=>False) I3p (stat fr3 hpl) st3 stop
   rw [hA] at q
   refine bJ q (fun r s5 ⟨hr,I5⟩ => ?_) fun _ _ z=>bM z
   subst hr
   exact fin s5 i n ys its nn H3 _ (I5.pins_of fun p hp=>absurd hp (by simp)) hD3 (I5.pin _ (aT _ (dG.mpr rfl))).1 rv3 hz qn
  ·have q:=T.item Xb hP hw hK hcb i _ s3 _ H3 (fun _ _=>False) I3p (stat fr3 hpl) st3 go
   rw [hA] at q
   refine bJ q (fun r s45 ⟨u,hr,h5⟩ => ?_) fun _ _ z=>bM z
   subst hr
   refine bJ h5 (fun _ s5 ⟨y5,H5,I5,r5,yl5,st5,fr5⟩ => ?_) fun _ _ z=>bM z
   have hD5:=(I5.pin _ (aT _ (dG.mpr rfl)))
   have I5':=I5.pinned (stat fr5 hpl) (T.obj _ _ st5)
   refine bJ (hgb _ s5 H5 y5 _ _ I5' r5 (step y5 H5 yl5)) (fun _ s6 ⟨τ,H6,hτ,I6,q6⟩ => ?_) fun _ _ z=>bM z
   have qt:=htb _ s6 _ H6 _ I6 q6
   rw [hP,hw,hA,hxe] at qt
   refine bJ qt (fun b s7 ⟨H7,I7,q7⟩ => ?_) fun _ _ z=>bM z
   have again : ∀ {s8:Shared}{H8:Hp}{σ8:St},Inv Xb ([(s2.heap.objs.size,({ cls := .type "list",data := .seq its.toArray nn }:Obj))]++pq fp s5.heap) σ8 H8 s8->tn (i+1) s8.heap/\(∀ b∈fp,H8 b=none)/\H8 s2.heap.objs.size=none/\s8.heap.get? s2.heap.objs.size=some { cls := .type "list",data := .seq its.toArray nn }:=fun {s8 H8 σ8} I8=>by
    refine⟨T.keep _ _ _ st5 fun b hb o e=>(I8.pin (b,o) (aT _ (aT _ (jr hb e)))).1,fun b hb => ?_,?_,?_⟩
    ·obtain⟨o,e,d⟩:=T.obj _ _ st5 b hb
     exact (I8.pin (b,o) (aT _ (aT _ (jr hb e)))).2.1
    ·exact (I8.pin _ (aT _ (cP _ (dG.mpr rfl)))).2.1
    ·exact (I8.pin _ (aT _ (cP _ (dG.mpr rfl)))).1
   have forget : ∀ {s8:Shared}{H8:Hp}{pl:List (Addr×Obj)},Inv Xb pl (σ++τ) H8 s8->Inv Xb [] (σ++ay xs.length none) H8 s8:=fun {s8 H8 pl} I8=>
    (I8.pins_of (pins' := []) fun p hp=>absurd hp (by simp)).weak (by simp [hτ]) fun j v hj=>by
     by_cases hjs:j < σ.length
     ·rw [aQ hjs] at hj ⊢;exact hj
     ·rw [aq (by exact dn (by assumption)),fY] at hj
      split at hj <;> simp at hj
   cases b with
   | false=>
     have q7' : ∃ m',m' < n/\W (i+1) m' ys H7:=q7
     obtain⟨m',hm,w7⟩:=q7'
     obtain⟨a1,a2,a3,a4⟩:=again I7
     exact⟨m',hm,i+1,ys,its,nn,H7,forget I7,a1,a2,a3,a4,rv3,w7⟩
   | true=>
     have q7':te (σ++τ) H7 fun y H4 => ∃ m',m' < n/\W (i+1) m' (ys ++ [y]) H4:=q7
     have qe:=heb _ s7 _ H7 _ I7 q7'
     rw [hP,hw,hA,hxe] at qe
     refine bJ qe (fun uv s8 ⟨y8,H8,I8,r8,m',hm,w8⟩ => ?_) fun _ _ z=>bM z
     obtain⟨a1,a2,a3,a4⟩:=again I8
     have I9:=forget I8
     have hl3:=rv3.length
     refine call_meets F.slot_list_append ⟨_,a4,rfl⟩ F.entry_list_append (F.args_list_append_2 _ _) (PySem.list_append s2.heap.objs.size its.toArray nn uv (by rw [aG];omega)) ⟨a4,?_⟩
     have hup:=A3 a4 (·.push uv)
     have e1:(its.toArray.push uv)=(its ++ [uv]).toArray:=by simp
     rw [e1] at hup
     have I10:Inv Xb [] (σ++ay xs.length none) H8 { s8 with heap:=s8.heap.update s2.heap.objs.size (eJ (·.push uv)) }:=
      I9.turned (t':=s8.toks) (fun b' u hb hu=>(eB s8.heap (eJ (·.push uv)) (df hb)).trans hu) a3 (by rw [hL];exact bg (cR _)) (.inr (by rw [hs0];exact ak _)) cellne (fun p hp=>by rw [hpn] at hp;exact absurd hp (by simp))
     refine⟨m',hm,i+1,ys ++ [y8],its ++ [uv],_,H8,I10,T.keep _ _ _ a1 fun b hb o e => ?_,a2,a3,hup,rv3.append (.cons r8 .nil),w8⟩
     exact (eB s8.heap (eJ (·.push uv)) (by first | exact bY (hlt b hb) | exact bg (hlt b hb))).trans e
 have start:=codeAny_compStart_list (loop it rfl) (T.self X.A 0 s4 _ _ st4' (loop it rfl))
 rw [henv]
 have eL:(s2.heap.push { cls := .type "list",dict:=none,data := .seq ([]:List Value).toArray }).objs.size=Xb.env.locals:=by rw [bw,hL]
 rw [eL]
 exact start
theorem wW (C:gJ X N' scope [x]) {σ:St} (s₂:Shared) (H₂:Hp) (fp:List Addr) (pl:List (Addr×Obj)) (s:Shared) (H:Hp) (v:V) (u:Value) (Q:St->Hp->Prop) (I:Inv (blk X N' scope s₂ H₂ fp) pl (σ++ay [x].length none) H s) (r:RelV v u) (q:gT1 v H Q) :
  aJ (model X.prog X.w) X.A (assign (.Name x px) (blk X N' scope s₂ H₂ fp).env u) (fun _ s' => ∃ τ H',τ.length = [x].length/\Inv (blk X N' scope s₂ H₂ fp) pl (σ++τ) H' s'/\Q τ H') (fun _ _=>False) s:=by
 have hl:σ.length=X.N.length:=by
  have:=I.len
  rw [show (blk X N' scope s₂ H₂ fp).N=N' from rfl,C.len,be,lU] at this
  omega
 have hlocx:Loc (blk X N' scope s₂ H₂ fp).env.scope x:=by
  rcases C.own x (by simp) with e | e
  ·exact .inl (lookup_relabel_local e)
  ·exact .inr (jl e)
 have hfx:(blk X N' scope s₂ H₂ fp).fn x=true\/(blk X N' scope s₂ H₂ fp).env.scope.names.lookup x=some .local:=by
  rcases C.own x (by simp) with e | e
  ·right;exact lookup_relabel_local e
  ·left;show (scope.names.lookup x == some .cell)=true;rw [e];rfl
 refine uV (kh I C.ndN (i:=X.N.length) (C.last 0 x rfl) hlocx r (fun s6 I6 => ?_) hfx)
 have hset:(σ++ay [x].length none).set X.N.length (some v)=σ ++ [some v]:=by
  rw [<- hl,lV _ _ (ak _)];simp
 rw [hset] at I6
 exact⟨[some v],H,rfl,I6,q⟩
theorem CL (hc:X.calm=true) (C:gJ X N' scope [x]) (hi:PI X (.Name x px) iter wi)
  (ht : ∀ s₂ H₂ fp,PTs (blk X N' scope s₂ H₂ fp) ifs tt) (he : ∀ s₂ H₂ fp,PE (blk X N' scope s₂ H₂ fp) elt te)
  (hs : ∀ x,foldedSetIterable iter X.env x=pure x:=by intro _;rfl) :
  PE X (.ListComp elt [⟨.Name x px,iter,ifs,0⟩] scope pos) (mM wi tt te):=by
 intro pins s σ H Q I h
 rw [eval_ListComp]
 refine wpAny_comprehension_free (use:=none) (cl:=iA X.env scope.names []) rfl hs (jB (C.frees I.ok)) C.kind (fun y hy e=>kK C.nd (by rw [<- e];exact hy)) ?_
 refine qD (gT:=gT1) hc C hi ht he I h (wW C) fun s' L D H' ml hml I' hn h1 h2 h3 h4 q => ?_
 exact⟨ml,hml,fun h' hsb=>⟨.ref D,H',I'.turned (t':=s'.toks) (fun b o hb e=>(hsb.2 b hb).trans e) hn h1 (.inr h2) h3 h4,rfl,q⟩⟩
theorem CG {i:Nat}{y:Str}{py spos:Pos} (hN:X.N.Nodup) (hi':X.N[i]? = some y) (hy:Loc X.env.scope y) (hc:X.calm=true) (C:gJ X N' scope [x]) (hi:PI X (.Name x px) iter wi)
  (ht : ∀ s₂ H₂ fp,PTs (blk X N' scope s₂ H₂ fp) ifs tt) (he : ∀ s₂ H₂ fp,PE (blk X N' scope s₂ H₂ fp) elt te)
  (hsw:swapsWith (.ListComp elt [⟨.Name x px,iter,ifs,0⟩] scope pos) (some (.Name y py)) spos.line X.env=pure true)
  (hs : ∀ x,foldedSetIterable iter X.env x=pure x:=by intro _;rfl) (hf:X.fn y=true\/X.env.scope.names.lookup y=some .local:=by first | exact .inl rfl | exact .inr rfl | assumption) :
  PS X (.Assign [.Name y py] (.ListComp elt [⟨.Name x px,iter,ifs,0⟩] scope pos) spos) (zT (mM wi tt te) (gS i)):=by
 intro pins s σ H D I h
 rw [exec_Assign_Name_used _ _ _ _ hsw]
 refine aj (wpAny_standAt (aj ?_))
 show aJ _ X.A (do let _ <- comprehension (.ListComp elt [⟨.Name x px,iter,ifs,0⟩] scope pos) scope X.env _ (newList []) false (eval iter X.env) (some (assign (.Name y py) X.env))) _ _ s
 refine aj (bJ (wpAny_comprehension_free (use:=some (assign (.Name y py) X.env)) (Q:=fun _ s'=>SP X pins D .next s') (cl:=iA X.env scope.names []) rfl hs (jB (C.frees I.ok)) C.kind (fun y hy e=>kK C.nd (by rw [<- e];exact hy))
  (qD (gT:=gT1) (Q:=fun v H1=>gS i v σ H1 D.nx) hc C hi ht he I h (wW C) fun s' L D' H' ml hml I' hn h1 h2 h3 h4 q => ?_)) (fun _ s' hq=>bc (bc hq)) fun _ _ e=>e)
 show aJ _ X.A (assign (.Name y py) X.env (.ref D')) _ _ _
 refine uV (qB (v := .ref D') I' hN hi' hy rfl (fun s6 I6 hsb => ?_) hf)
 obtain⟨a,hsb,ha⟩:=hsb
 have haL:L≠a:=by
  rcases ha with e | e
  ·rw [e];exact h1
  ·exact df (h3 _ _ e)
 refine⟨ml,hml.sameBut hsb haL,fun h' hsb' => ?_⟩
 exact⟨_,H',I6.turned (t':=s6.toks) (fun b o hb e=>(hsb'.2 b hb).trans e) hn h1 (.inr h2) h3 h4,q⟩
inductive ox:List Expr->List Str->Prop
 | nil:ox [] []
 | cons (x:Str) (p:Pos) {es xs}:ox es xs->ox (.Name x p::es) (x::xs)
end
end L2
end
section
namespace HT
open PySem PyProof.Rows
open PySem.SeqAt
open PySem.AutoSeq1 (wpAny_loadPart')
open PySem.MeetsSeq PySem.MeetsSeq2 PySem.MeetsSeq3
section
variable {prog:Program}{w:World}{A:Around}{E:Value->Shared->Prop}{s:Shared}
theorem cat_tup0 {t b:Addr}{ws:List Value}{Q:Value->Shared->Prop} (ht:IsTup s.heap t ([]:List Value).toArray) (hb:IsTup s.heap b ws.toArray) (h:Q (.ref b) s):aJ (model prog w) A (binaryOp .Add (.ref t) (.ref b)) Q E s:=by
 obtain⟨⟨cls,dd,data,sl⟩,ho,hc,n,hd⟩:=id ht
 obtain⟨⟨cls2,dd2,data2,sl2⟩,ho2,hc2,n2,hd2⟩:=id hb
 simp only at hc hd hc2 hd2
 subst hc hd hc2 hd2
 exact concat_meets ⟨_,ho,rfl⟩ ⟨_,ho2,rfl⟩ noFill_tuple_add seq_tuple_add ko jG (ju _ _)
   (tuple_addW0 t b #[] ws.toArray n n2 dd dd2 sl sl2 (by simp)) ⟨ho,ho2,h⟩
end
end HT
end
section
namespace G
open PySem PySem.SeqAt
open PySem.AutoSeq1 (wpAny_loadPart')
open PySem.MeetsSeq PySem.MeetsSeq2 PySem.MeetsSeq3
theorem qh (l:Addr) (items:Array Value) (n:Nat) (dd:Option Addr) (sl:Array (Option Value)) (x:Value) (e:Value->Bool) (j:Nat) (hj:j < items.size)
  (hit:e items[j]=true) (hno : ∀ m (hm:m < items.size),m < j->e items[m]=false) :
  Meets (Builtin.«tuple.index» ⟨[.ref l,x],[]⟩)
   (fun A R s=>s.heap.get? l=some { cls := .type "tuple",dict:=dd,data := .seq items n,slots:=sl }/\(∀ y,y∈items->EqAt A.in1 s y x (e y))/\R (.ok (.ret (.int j s.toks))) { s with toks:=s.toks+1 }):=
 .of_wp fun prog w A R s h=>by
  obtain⟨hp,g,d,tk,os⟩:=s;obtain⟨hl,he,h⟩:=h
  simp only [Builtin.«tuple.index»,Std.Legacy.Range.forIn_eq_forIn_range']
  wp_walk using dk hl,wpAny_forIn_list _ (fun rest b s'=>b.1=none/\s'=⟨hp,g,d,tk,os⟩ /\ ∃ i,i<=j/\rest=bD i (items.size - i)) _
  case turn=>
   rintro y rest b s' ⟨hb,rfl,i,hij,hrest⟩
   have hlt:i < items.size:=by
    rcases Nat.lt_or_ge i items.size with q | q
    ·exact q
    ·exact aH (by assumption) (by assumption)
   obtain⟨k,hk⟩ : ∃ k,items.size - i=k+1:=⟨items.size - i - 1,by omega⟩
   rw [hk,kN] at hrest
   injection hrest with h1 h2
   subst h1
   have hg:items[y]? = some items[y]:=by simp [hlt]
   rw [hg]
   refine aj (he _ (Array.getElem_mem hlt) prog w _ _ ?_)
   by_cases hyj:y=j
   ·subst hyj
    rw [hit]
    wp_walk
    exact⟨_,rfl,h⟩
   ·rw [hno y hlt (by exact fZ (by assumption) (by assumption))]
    wp_walk
    exact⟨rfl,rfl,y+1,by exact fZ (by assumption) (by assumption),by rw [h2];congr 1;omega⟩
  case fin=>
   rintro ⟨b1,b2⟩ s' ⟨hb,rfl,i,hij,hrest⟩
   exfalso
   have h3:=congrArg A8 hrest
   simp at h3
   omega
  case h=>
   exact⟨rfl,rfl,0,eA _,by simp⟩
end G
end
section
namespace G
open PySem PySem.SeqAt
open PySem.AutoSeq1 (wpAny_loadPart')
open PySem.MeetsSeq PySem.MeetsSeq2 PySem.MeetsSeq3
theorem nc:fillsNumberSlot (.type "tuple") "mul"=pure false:=
 fillsNumberSlot_seq (id:="tuple.__mul__") (r:=some (.builtin "tuple.__rmul__")) F.slot_tuple_mul.lookup (by decide +kernel) F.slot_tuple_rmul.lookup (by decide +kernel)
theorem rM:seqRepeat? (.type "tuple")=pure (some (.builtin "tuple.__mul__")):=by
 unfold seqRepeat?
 rw [seqSlot_of (T:="tuple") (name:="__mul__") (id:="tuple.__mul__") F.slot_tuple_mul.lookup (by decide +kernel),seqSlot_of (T:="tuple") (name:="__rmul__") (id:="tuple.__rmul__") F.slot_tuple_rmul.lookup (by decide +kernel)]
 rfl
theorem pB (a:Int) (t:Tok) (l:Addr) (items:Array Value) (n:Nat) (dd:Option Addr) (sl:Array (Option Value)) :
  Meets (Builtin.«int.__rmul__» ⟨[.int a t,.ref l],[]⟩) (fun _ R s=>s.heap.get? l=some { cls := .type "tuple",dict:=dd,data := .seq items n,slots:=sl }/\R (.ok (.ret Value.notImplemented)) s):=
 .of_wp fun prog w A R s h=>by obtain⟨hp,g,d,tk,os⟩:=s;obtain⟨hl,h⟩:=h;wp_walk;exact⟨_,rfl,h⟩
theorem pO (l:Addr) (items:Array Value) (n:Nat) (dd:Option Addr) (sl:Array (Option Value)) (t:Tok) :
  Meets (Builtin.«tuple.__mul__» ⟨[.ref l,.int 1 t],[]⟩) (fun _ R s=>s.heap.get? l=some { cls := .type "tuple",dict:=dd,data := .seq items n,slots:=sl }/\R (.ok (.ret (bj l))) { s with toks:=s.toks }):=
 .of_wp fun prog w A R s h=>by
  obtain⟨hp,g,d,tk,os⟩:=s;obtain⟨hl,h⟩:=h
  have f1:=oo
  have hno : ¬ ((decide ((1:Int) < -2 ^ 63)||decide ((1:Int) >= 2 ^ 63))=true):=by decide
  have hyes:(items.isEmpty||(1:Int) == 1)=true:=by simp
  wp_walk using dk hl
  exact⟨_,rfl,h⟩
theorem vH (l:Addr) (items:Array Value) (n:Nat) (dd:Option Addr) (sl:Array (Option Value)) (t:Tok) (he:items.isEmpty=false) :
  Meets (Builtin.«tuple.__mul__» ⟨[.ref l,.int 0 t],[]⟩) (fun _ R s=>s.heap.get? l=some { cls := .type "tuple",dict:=dd,data := .seq items n,slots:=sl }/\R (.ok (.ret (bj s.heap.objs.size))) { s with heap:=s.heap.push { cls:=uT "tuple",data:=Data.seq #[] },toks:=s.toks }):=
 .of_wp fun prog w A R s h=>by
  obtain⟨hp,g,d,tk,os⟩:=s;obtain⟨hl,h⟩:=h
  have f1:=oo
  have hno : ¬ ((decide ((0:Int) < -2 ^ 63)||decide ((0:Int) >= 2 ^ 63))=true):=by decide
  have hno1 : ¬ ((items.isEmpty||(0:Int) == 1)=true):=by rw [he];decide
  have hyes:(decide ((0:Int)<=0)||items.isEmpty)=true:=by simp
  wp_walk using dk hl
  exact⟨_,rfl,h⟩
theorem vk (l:Addr) (items:Array Value) (n:Nat) (dd:Option Addr) (sl:Array (Option Value)) (k:Int) (t:Tok) (h1 : ¬ (items.isEmpty||k == 1)=true) (h0:0 < k) (hk:k < 1000) (hz:items.size < 1000) :
  Meets (Builtin.«tuple.__mul__» ⟨[.ref l,.int k t],[]⟩) (fun _ R s=>s.heap.get? l=some { cls := .type "tuple",dict:=dd,data := .seq items n,slots:=sl } /\
   R (.ok (.ret (bj s.heap.objs.size))) { s with heap:=s.heap.push { cls:=uT "tuple",data:=Data.seq ((ay k.toNat items).foldl (· ++ ·) #[]) },toks:=s.toks }):=
 .of_wp fun prog w A R s h=>by
  obtain⟨hp,g,d,tk,os⟩:=s;obtain⟨hl,h⟩:=h
  have f1:=oo
  have hno : ¬ ((decide (k < -2 ^ 63)||decide (k >= 2 ^ 63))=true):=by
   rw [lR,decide_eq_true_eq,decide_eq_true_eq];omega
  have he:items.isEmpty=false:=by
   cases q:items.isEmpty with
   | false=>rfl
   | true=>rw [q] at h1;simp at h1
  have hno2 : ¬ ((decide (k<=0)||items.isEmpty)=true):=by
   rw [he,Bool.or_false,decide_eq_true_eq];omega
  have hp1:(items.size:Int)*k<=1000000:=by
   have a1:(items.size:Int)*k<=1000*k:=Int.mul_le_mul_of_nonneg_right (by omega) (by omega)
   omega
  have hm1 : ¬ ((items.size:Int)*k > (2 ^ 63 - 1) / 8):=by omega
  have hm2 : ¬ (nR ((items.size:Int)*k)=true):=by
   unfold nR
   simp only [sizeLine_eq,decide_eq_true_eq,gt_iff_lt]
   omega
  have hsz:(List.foldl (fun x1 x2=>x1++x2) #[] (ay k.toNat items)).size<=sizeLine:=by
   have e : ∀ (m:Nat) (a:Array Value),(List.foldl (fun x1 x2=>x1++x2) a (ay m items)).size=a.size+m*items.size:=by
    intro m
    induction m with
    | zero=>intro a;simp
    | succ m ih=>intro a;rw [de,List.foldl_cons,ih];simp;rw [qr];omega
   rw [e]
   have a2:k.toNat*items.size<=1000*items.size:=fD _ (by omega)
   rw [sizeLine_eq]
   simp;omega
  wp_walk using dk hl
  rw [if_neg hno]
  wp_walk using dk hl
  rw [if_neg h1]
  wp_walk using dk hl
  rw [if_neg hm1]
  wp_walk using dk hl
  all_goals first | exact⟨_,rfl,h⟩ | skip
end G
end
section
namespace G
open PySem PySem.Spec L2
open PyProof.Rows hiding St
mutual
noncomputable def RU (H:Hp) (μ:List Addr):U->V->Prop
 | .non,v=>v = .non
 | .bl b,v=>v = .bl b
 | .int i,v=>v = .int i
 | .str x,v=>v = .str x
 | .tup us,v => ∃ a vs,v = .ref a/\H a=some (.tup vs)/\RUs H μ us vs
 | .ref n,v => ∃ a,v = .ref a/\μ[n]? = some a
 | .obj a,v=>v = .ref a
noncomputable def RUs (H:Hp) (μ:List Addr):List U->List V->Prop
 | [],vs=>vs = []
 | u::us,vs => ∃ v r,vs=v::r/\RU H μ u v/\RUs H μ us r
end
noncomputable def bh (H H':Hp):Prop := ∀ a vs,H a=some (.tup vs)->H' a=some (.tup vs)
noncomputable def Pre (μ μ':List Addr):Prop := ∃ t,μ'=μ++t
theorem bh.refl (H:Hp):bh H H:=fun _ _ h=>h
theorem bh.trans {H H1 H2:Hp} (a:bh H H1) (b:bh H1 H2):bh H H2:=fun c vs h=>b c vs (a c vs h)
theorem Pre.refl (μ:List Addr):Pre μ μ:=⟨[],by simp⟩
theorem Pre.trans {μ μ1 μ2:List Addr} (a:Pre μ μ1) (b:Pre μ1 μ2):Pre μ μ2:=by
 obtain⟨t,rfl⟩:=a
 obtain⟨u,rfl⟩:=b
 exact⟨t++u,by simp⟩
theorem Pre.get {μ μ':List Addr} (p:Pre μ μ') {n:Nat}{a:Addr} (h:μ[n]? = some a):μ'[n]? = some a:=by
 obtain⟨t,rfl⟩:=p
 have hn:n < μ.length:=(af.mp h).1
 rw [aQ hn];exact h
theorem bh.new {H:Hp}{p:Addr}{o:HO} (h:H p=none):bh H (upd H p o):=fun a vs e=>by rw [aV (aS e h)];exact e
theorem bh.wr {H:Hp}{p:Addr}{xs ys:List V} (h:H p=some (.lst xs)):bh H (upd H p (.lst ys)):=fun a vs e=>by
 rw [aV (oy e h (by intro z;cases z))];exact e
mutual
theorem RU.mono {H H':Hp}{μ μ':List Addr} (k:bh H H') (p:Pre μ μ') : ∀ (u:U) (v:V),RU H μ u v->RU H' μ' u v
 | .non,_,h=>by simpa [RU] using h
 | .bl _,_,h=>by simpa [RU] using h
 | .int _,_,h=>by simpa [RU] using h
 | .str _,_,h=>by simpa [RU] using h
 | .obj _,_,h=>by simpa [RU] using h
 | .ref n,v,h=>by
   simp only [RU] at h ⊢
   obtain⟨a,e,q⟩:=h
   exact⟨a,e,p.get q⟩
 | .tup us,v,h=>by
   simp only [RU] at h ⊢
   obtain⟨a,vs,e,q,r⟩:=h
   exact⟨a,vs,e,k a vs q,RUs.mono k p us vs r⟩
theorem RUs.mono {H H':Hp}{μ μ':List Addr} (k:bh H H') (p:Pre μ μ') : ∀ (us:List U) (vs:List V),RUs H μ us vs->RUs H' μ' us vs
 | [],_,h=>by simpa [RUs] using h
 | u::us,vs,h=>by
   simp only [RUs] at h ⊢
   obtain⟨v,r,e,a,b⟩:=h
   exact⟨v,r,e,RU.mono k p u v a,RUs.mono k p us r b⟩
end
section
variable {H:Hp}{μ:List Addr}
theorem RUs.nil:RUs H μ [] []:=by simp [RUs]
theorem RUs.cons {u:U}{us:List U}{v:V}{vs:List V} (a:RU H μ u v) (b:RUs H μ us vs):RUs H μ (u::us) (v::vs):=by
 simp only [RUs];exact⟨v,vs,rfl,a,b⟩
theorem RUs.inv {u:U}{us:List U}{vs:List V} (h:RUs H μ (u::us) vs) : ∃ v r,vs=v::r/\RU H μ u v/\RUs H μ us r:=by simpa only [RUs] using h
theorem RUs.nil_inv {vs:List V} (h:RUs H μ [] vs):vs = []:=by simpa only [RUs] using h
theorem RUs.len : ∀ {us:List U}{vs:List V},RUs H μ us vs->us.length=vs.length
 | [],vs,h=>by rw [h.nil_inv];rfl
 | u::us,vs,h=>by
   obtain⟨v,r,rfl,_,b⟩:=h.inv
   simp [b.len]
theorem RUs.get : ∀ {us:List U}{vs:List V}{i:Nat}{u:U},RUs H μ us vs->us[i]? = some u -> ∃ v,vs[i]? = some v/\RU H μ u v
 | [],vs,i,u,h,e=>by simp at e
 | x::us,vs,0,u,h,e=>by
   obtain⟨v,r,rfl,a,b⟩:=h.inv
   simp at e;subst e
   exact⟨v,rfl,a⟩
 | x::us,vs,i+1,u,h,e=>by
   obtain⟨v,r,rfl,a,b⟩:=h.inv
   obtain⟨w,h1,h2⟩:=RUs.get (i:=i) b (by simpa using e)
   exact⟨w,by simpa using h1,h2⟩
theorem RUs.append : ∀ {us ws:List U}{vs xs:List V},RUs H μ us vs->RUs H μ ws xs->RUs H μ (us++ws) (vs++xs)
 | [],ws,vs,xs,h,g=>by rw [h.nil_inv];exact g
 | u::us,ws,vs,xs,h,g=>by
   obtain⟨v,r,rfl,a,b⟩:=h.inv
   exact .cons a (b.append g)
theorem RUs.set {u:U}{v:V} (q:RU H μ u v) : ∀ {us:List U}{vs:List V} (i:Nat),RUs H μ us vs->RUs H μ (us.set i u) (vs.set i v)
 | [],vs,i,h=>by rw [h.nil_inv];simpa using RUs.nil
 | x::us,vs,0,h=>by
   obtain⟨w,r,rfl,a,b⟩:=h.inv
   exact .cons q b
 | x::us,vs,i+1,h=>by
   obtain⟨w,r,rfl,a,b⟩:=h.inv
   exact .cons a (RUs.set q i b)
theorem RUs.eraseIdx : ∀ {us:List U}{vs:List V} (i:Nat),RUs H μ us vs->RUs H μ (us.eraseIdx i) (vs.eraseIdx i)
 | [],vs,i,h=>by rw [h.nil_inv];simpa using RUs.nil
 | x::us,vs,0,h=>by
   obtain⟨w,r,rfl,a,b⟩:=h.inv
   exact b
 | x::us,vs,i+1,h=>by
   obtain⟨w,r,rfl,a,b⟩:=h.inv
   exact .cons a (RUs.eraseIdx i b)
theorem RUs.take : ∀ {us:List U}{vs:List V} (i:Nat),RUs H μ us vs->RUs H μ (us.take i) (vs.take i)
 | us,vs,0,h=>by simpa using RUs.nil
 | [],vs,i+1,h=>by rw [h.nil_inv];simpa using RUs.nil
 | x::us,vs,i+1,h=>by
   obtain⟨w,r,rfl,a,b⟩:=h.inv
   exact .cons a (RUs.take i b)
theorem RUs.dropLast {us:List U}{vs:List V} (h:RUs H μ us vs):RUs H μ us.dropLast vs.dropLast:=by
 rw [A4,A4,h.len];exact h.take _
theorem RUs.ints : ∀ (ns:List Int),RUs H μ (ns.map U.int) (ns.map V.int)
 | [] => .nil
 | n::ns => .cons (by simp [RU]) (RUs.ints ns)
end
structure KX where
 K:ai
 caps:List U
 capv:List V
 cds:List (Addr×Obj)
 tabs:List (Addr×Str)
noncomputable instance:Coe KX ai:=⟨KX.K⟩
noncomputable def fz:HO := .ext fun _=>True
noncomputable def vG (H:Hp) (P:Addr) (q:Str):Prop := ∃ ps:Array Value,H P=some (.tbl ps)/\TriplesOk ps.toList /\
 ∀ pos cv,codeAmong pos ps.toList=some cv -> ∃ c oc vs t,cv = .ref c/\H c=some (.frz oc fz)/\oc.data = .fields vs/\vs[1]? = some (.str q t)
structure HX (K:KX) (μ:List Addr) (H:Hp):Prop where
 cap:RUs H μ K.caps K.capv
 cds : ∀ q∈K.cds,H q.1=some (.frz q.2 fz)
 tab : ∀ q∈K.tabs,vG H q.1 q.2
theorem HX.upd {K:KX}{μ μ':List Addr}{H:Hp}{p:Addr}{o':HO} (h:HX K μ H) (kp:bh H (upd H p o')) (pre:Pre μ μ') (nf : ∀ o,H p=some o->(∀ o' u,o ≠ .frz o' u) /\ ∀ ps,o ≠ .tbl ps):HX K μ' (upd H p o'):=by
 have f : ∀ a o u,H a=some (.frz o u)->L2.upd H p o' a=some (.frz o u):=fun a o u e=>by
  rw [aV]
  ·exact e
  ·rintro rfl
   exact (nf _ e).1 o u rfl
 refine⟨RUs.mono kp pre _ _ h.cap,fun q hq=>f _ _ _ (h.cds q hq),fun q hq => ?_⟩
 obtain⟨ps,e,tr,al⟩:=h.tab q hq
 refine⟨ps,?_,tr,fun pos cv hc => ?_⟩
 ·rw [aV]
  ·exact e
  ·intro z
   rw [z] at e
   exact (nf _ e).2 ps rfl
 ·obtain⟨c,oc,vs,t,e1,e2,e3,e4⟩:=al pos cv hc
  exact⟨c,oc,vs,t,e1,f _ _ _ e2,e3,e4⟩
noncomputable def dV (kvs:List (Key×U)) (vs:List V):List (Key×V):=(kvs.map (·.1)).zip vs
noncomputable def kY (K:KX) (H:Hp) (μ:List Addr) (a:Addr):Cell->Prop
 | .lst us => ∃ vs,H a=some (.lst vs)/\RUs H μ us vs
 | .frz us => ∃ vs,((∃ o,H a=some (.frz o (.lst vs)))\/SqL K (fun _=>none) a vs)/\RUs H μ us vs
 | .dic kvs => ∃ vs,H a=some (.dK (dV kvs vs))/\RUs H μ (kvs.map (·.2)) vs
noncomputable def Cell.own:Cell->Bool
 | .frz _=>false
 | _=>true
structure HR (K:KX) (μ:List Addr) (S:Sto) (H:Hp):Prop where
 len:μ.length=S.length
 inj : ∀ (n m:Nat) (c d:Cell),S[n]? = some c->S[m]? = some d->c.own=true->d.own=true->μ[n]? = μ[m]? -> n=m
 cell : ∀ (n:Nat) (c:Cell) (a:Addr),S[n]? = some c->μ[n]? = some a->kY K H μ a c
 ext:HX K μ H
structure ER (H:Hp) (μ:List Addr) (ρ:Rho) (σ:St):Prop where
 len:ρ.length=σ.length
 get : ∀ (i:Nat) (u:U),ρ[i]? = some (some u) -> ∃ v,σ[i]? = some (some v)/\RU H μ u v
theorem ER.mono {H H':Hp}{μ μ':List Addr}{ρ:Rho}{σ:St} (e:ER H μ ρ σ) (k:bh H H') (p:Pre μ μ'):ER H' μ' ρ σ:=
 ⟨e.len,fun i u h=>let ⟨v,a,b⟩:=e.get i u h;⟨v,a,RU.mono k p u v b⟩⟩
theorem ER.set {H:Hp}{μ:List Addr}{ρ:Rho}{σ:St} (e:ER H μ ρ σ) {u:U}{v:V} (r:RU H μ u v) (i:Nat):ER H μ (ρ.set i (some u)) (σ.set i (some v)):=by
 refine⟨by simpa using e.len,fun j w h => ?_⟩
 by_cases hj:i=j
 ·subst hj
  rw [List.getElem?_set] at h
  simp only [if_true] at h
  split at h
  ·rename_i hl
   cases h
   refine⟨v,?_,r⟩
   rw [aN (by rw [<- e.len];exact hl)]
  ·cases h
 ·rw [aB hj] at h
  obtain⟨x,a,b⟩:=e.get j w h
  exact⟨x,by rw [aB hj];exact a,b⟩
theorem ER.push {H:Hp}{μ:List Addr}{ρ:Rho}{σ:St} (e:ER H μ ρ σ) {u:U}{v:V} (r:RU H μ u v):ER H μ (ρ ++ [some u]) (σ ++ [some v]):=by
 refine⟨by simp [e.len],fun j w h => ?_⟩
 by_cases hj:j < ρ.length
 ·rw [aQ hj] at h
  obtain⟨x,a,b⟩:=e.get j w h
  exact⟨x,by rw [aQ (by rw [<- e.len];exact hj)];exact a,b⟩
 ·have hj':j=ρ.length:=by
   have:=(af.mp h).1
   simp at this;omega
  subst hj'
  rw [aq (ak _)] at h
  simp at h;subst h
  refine⟨v,?_,r⟩
  rw [e.len,aq (ak _)];simp
section
variable {K:KX}{H:Hp}{μ:List Addr}{S:Sto}
theorem kY.mono {H':Hp}{μ':List Addr}{a:Addr}{c:Cell} (h:kY K H μ a c) (k:bh H H') (p:Pre μ μ') (l:c.own=true->H' a=H a) (f : ∀ o u,H a=some (.frz o u)->H' a=some (.frz o u)):kY K H' μ' a c:=by
 cases c with
 | lst us=>
   obtain⟨vs,e,r⟩:=h
   exact⟨vs,(l rfl).trans e,RUs.mono k p us vs r⟩
 | dic kvs=>
   obtain⟨vs,e,r⟩:=h
   exact⟨vs,(l rfl).trans e,RUs.mono k p _ vs r⟩
 | frz us=>
   obtain⟨vs,e,r⟩:=h
   refine⟨vs,?_,RUs.mono k p us vs r⟩
   rcases e with⟨o,e⟩ | e
   ·exact .inl ⟨o,f o _ e⟩
   ·exact .inr e
theorem kY.has {a:Addr}{c:Cell} (h:kY K H μ a c) (ho:c.own=true) : ∃ o,H a=some o/\(∀ vs,o ≠ .tup vs)/\(∀ o' u,o ≠ .frz o' u) /\ ∀ ps,o ≠ .tbl ps:=by
 cases c with
 | lst us=>obtain⟨vs,e,r⟩:=h;exact⟨_,e,fun _ z=>(by cases z),fun _ _ z=>(by cases z),fun _ z=>(by cases z)⟩
 | dic kvs=>obtain⟨vs,e,r⟩:=h;exact⟨_,e,fun _ z=>(by cases z),fun _ _ z=>(by cases z),fun _ z=>(by cases z)⟩
 | frz us=>cases ho
theorem bh.wrG {H:Hp}{p:Addr}{o o':HO} (h:H p=some o) (ht : ∀ vs,o ≠ .tup vs):bh H (upd H p o'):=fun a vs e=>by
 rw [aV (oy e h (df (ht vs)))];exact e
theorem HR.get (h:HR K μ S H) {n:Nat}{c:Cell} (e:S[n]? = some c) : ∃ a,μ[n]? = some a/\kY K H μ a c:=by
 have hn:n < μ.length:=by rw [h.len];exact (af.mp e).1
 exact⟨μ[n],by simp [hn],h.cell n c _ e (by simp [hn])⟩
theorem HR.wrC (h:HR K μ S H) {n:Nat}{c d:Cell}{a:Addr}{o':HO} (e:S[n]? = some c) (ea:μ[n]? = some a) (hc:c.own=true) (hd:d.own=true) (r:kY K (upd H a o') μ a d):HR K μ (S.set n d) (upd H a o'):=by
 obtain⟨o,e0,nt,nf,nb⟩:=(h.cell n _ a e ea).has hc
 have kp:bh H (upd H a o'):=bh.wrG e0 nt
 have hn:n < S.length:=(af.mp e).1
 have pick : ∀ (m:Nat) (c':Cell),(S.set n d)[m]? = some c'->c'.own=true -> ∃ c'',S[m]? = some c''/\c''.own=true:=fun m c' q hq=>by
  by_cases hm:n=m
  ·subst hm;exact⟨c,e,hc⟩
  ·rw [aB hm] at q;exact⟨c',q,hq⟩
 refine⟨by rw [eN];exact h.len,fun i j u1 u2 q1 q2 o1 o2 q3 => ?_,fun m c' b q1 q2 => ?_,h.ext.upd kp (Pre.refl _) fun o1 q=>by rw [e0] at q;cases q;exact⟨nf,nb⟩⟩
 ·obtain⟨w1,z1,y1⟩:=pick i u1 q1 o1
  obtain⟨w2,z2,y2⟩:=pick j u2 q2 o2
  exact h.inj i j w1 w2 z1 z2 y1 y2 q3
 ·by_cases hm:n=m
  ·subst hm
   rw [aN hn] at q1
   cases q1
   rw [ea] at q2;cases q2
   exact r
  ·rw [aB hm] at q1
   refine (h.cell m c' b q1 q2).mono kp (Pre.refl _) (fun hc' => ?_) fun o u hf => ?_
   ·refine aV ?_
    rintro rfl
    exact hm (h.inj n m c c' e q1 hc hc' (ea.trans q2.symm))
   ·rw [aV (oy hf e0 (df (nf o u)))];exact hf
theorem HR.wr (h:HR K μ S H) {n:Nat}{us ws:List U}{vs:List V}{a:Addr} (e:S[n]? = some (.lst us)) (ea:μ[n]? = some a) (r:RUs H μ ws vs):HR K μ (S.set n (.lst ws)) (upd H a (.lst vs)):=by
 obtain⟨vs0,e0,r0⟩:=h.cell n _ a e ea
 exact h.wrC e ea rfl rfl ⟨vs,cq,RUs.mono (bh.wr e0) (Pre.refl _) ws vs r⟩
theorem HR.newC (h:HR K μ S H) {d:Cell}{p:Addr}{o':HO} (hp:H p=none) (hd:d.own=true) (r:kY K (upd H p o') (μ ++ [p]) p d):HR K (μ ++ [p]) (S ++ [d]) (upd H p o'):=by
 have kp:bh H (upd H p o'):=bh.new hp
 have pre:Pre μ (μ ++ [p]):=⟨[p],rfl⟩
 have old : ∀ (n:Nat) (c:Cell),n < S.length->(S ++ [d])[n]? = some c->S[n]? = some c:=fun n c hn q=>by rwa [aQ hn] at q
 have last : ∀ (n:Nat) (c:Cell),¬ n < S.length->(S ++ [d])[n]? = some c->n=S.length:=fun n c hn q=>by
  have:=(af.mp q).1
  simp at this;omega
 have fresh : ∀ (n:Nat) (c:Cell),S[n]? = some c->c.own=true -> ∀ a,μ[n]? = some a->a≠p:=fun n c q hc a qa=>by
  obtain⟨o,e,_⟩:=(h.cell n _ a q qa).has hc
  exact aS e hp
 have mulast:(μ ++ [p])[S.length]? = some p:=by rw [<- h.len,aq (ak _)];simp
 have muold : ∀ (n:Nat),n < S.length->(μ ++ [p])[n]? = μ[n]? := fun n hn=>aQ (by rw [h.len];exact hn)
 refine⟨by simp [h.len],fun i j u1 u2 q1 q2 o1 o2 q3 => ?_,fun m c b q1 q2 => ?_,h.ext.upd kp pre fun o1 q=>by rw [hp] at q;cases q⟩
 ·by_cases hi:i < S.length
  ·by_cases hj:j < S.length
   ·rw [muold i hi,muold j hj] at q3
    exact h.inj i j u1 u2 (old i _ hi q1) (old j _ hj q2) o1 o2 q3
   ·have e:=last j _ hj q2
    subst e
    obtain⟨a,ha,_⟩:=h.get (old i _ hi q1)
    rw [muold i hi,mulast,ha] at q3
    exact absurd (bu q3) (fresh i u1 (old i _ hi q1) o1 a ha)
  ·have e:=last i _ hi q1
   subst e
   by_cases hj:j < S.length
   ·obtain⟨a,ha,_⟩:=h.get (old j _ hj q2)
    rw [muold j hj,mulast,ha] at q3
    exact absurd (bu q3).symm (fresh j u2 (old j _ hj q2) o2 a ha)
   ·exact (last j _ hj q2).symm
 ·by_cases hm:m < S.length
  ·rw [muold m hm] at q2
   refine (h.cell m c b (old m c hm q1) q2).mono kp pre (fun hc => ?_) fun o u hf => ?_
   ·exact aV (fresh m c (old m _ hm q1) hc b q2)
   ·rw [aV (aS hf hp)];exact hf
  ·have e:=last m c hm q1
   subst e
   rw [mulast] at q2;cases q2
   rw [aq (ak _)] at q1
   simp at q1;subst q1
   exact r
theorem HR.new (h:HR K μ S H) {us:List U}{vs:List V}{p:Addr} (hp:H p=none) (r:RUs H μ us vs):HR K (μ ++ [p]) (S ++ [.lst us]) (upd H p (.lst vs)):=
 h.newC hp rfl ⟨vs,cq,RUs.mono (bh.new hp) ⟨[p],rfl⟩ us vs r⟩
theorem HR.tup (h:HR K μ S H) {vs:List V}{p:Addr} (hp:H p=none):HR K μ S (upd H p (.tup vs)):=by
 have kp:bh H (upd H p (.tup vs)):=bh.new hp
 refine⟨h.len,h.inj,fun m c b q1 q2=>(h.cell m c b q1 q2).mono kp (Pre.refl _) (fun hc => ?_) fun o u hf => ?_,h.ext.upd kp (Pre.refl _) fun o1 q=>by rw [hp] at q;cases q⟩
 ·obtain⟨o,e,_⟩:=(h.cell m _ b q1 q2).has hc
  exact aV (aS e hp)
 ·rw [aV (aS hf hp)];exact hf
theorem HR.sq (h:HR K μ S H) {n:Nat}{us:List U} (e:getL S n=some us) : ∃ a vs,μ[n]? = some a/\SqL K H a vs/\RUs H μ us vs:=by
 unfold getL at e
 split at e
 ·rename_i ws q
  cases e
  obtain⟨a,ha,vs,e1,r⟩:=h.get q
  exact⟨a,vs,ha,SqL.of e1,r⟩
 ·rename_i ws q
  cases e
  obtain⟨a,ha,vs,e1,r⟩:=h.get q
  refine⟨a,vs,ha,?_,r⟩
  rcases e1 with⟨o,e1⟩ | e1
  ·exact .inl (.inr ⟨o,e1⟩)
  ·rcases e1 with (e1 | ⟨o,e1⟩) | e1
   ·cases e1
   ·cases e1
   ·exact .inr e1
 ·cases e
 ·cases e
end
noncomputable def Aft (K:KX) (μ:List Addr) (H:Hp) (u:U) (S':Sto) (Q:VK):Prop := ∀ μ' v H',Pre μ μ'->bh H H'->HR K μ' S' H'->RU H' μ' u v->Q v H'
noncomputable def tM (K:KX) (m:ME):TE:=fun σ H Q => ∃ μ S ρ u S',HR K μ S H/\ER H μ ρ σ/\m ρ S=some (u,S')/\Aft K μ H u S' Q
noncomputable def tMT (K:KX) (m:MT):TT:=fun σ H Q => ∃ μ S ρ b S',HR K μ S H/\ER H μ ρ σ/\m ρ S=some (b,S') /\ ∀ μ' H',Pre μ μ'->bh H H'->HR K μ' S' H'->Q b H'
noncomputable def tMA (K:KX) (m:MA):TA:=fun σ H Q => ∃ μ S ρ us S',HR K μ S H/\ER H μ ρ σ/\m ρ S=some (us,S') /\ ∀ μ' vs H',Pre μ μ'->bh H H'->HR K μ' S' H'->RUs H' μ' us vs->Q vs H'
noncomputable def FlP (K:KX) (μ:List Addr) (H:Hp) (D:Ends):Fl×Rho×Sto->Prop
 | (.nx,ρ',S') => ∀ μ' σ' H',Pre μ μ'->bh H H'->HR K μ' S' H'->ER H' μ' ρ' σ'->D.nx σ' H'
 | (.bk,ρ',S') => ∀ μ' σ' H',Pre μ μ'->bh H H'->HR K μ' S' H'->ER H' μ' ρ' σ'->D.bk σ' H'
 | (.ct,ρ',S') => ∀ μ' σ' H',Pre μ μ'->bh H H'->HR K μ' S' H'->ER H' μ' ρ' σ'->D.ct σ' H'
 | (.rt u,_,S')=>Aft K μ H u S' D.rt
noncomputable def tMS (K:KX) (m:MS):TS:=fun D σ H => ∃ μ S ρ r,HR K μ S H/\ER H μ ρ σ/\m ρ S=some r/\FlP K μ H D r
theorem Aft.mono {K:KX}{μ μ1:List Addr}{H H1:Hp}{u:U}{S':Sto}{Q:VK} (a:Aft K μ H u S' Q) (p:Pre μ μ1) (k:bh H H1):Aft K μ1 H1 u S' Q:=
 fun μ' v H' p' k'=>a μ' v H' (p.trans p') (k.trans k')
theorem FlP.mono {K:KX}{μ μ1:List Addr}{H H1:Hp}{D:Ends}{r:Fl×Rho×Sto} (a:FlP K μ H D r) (p:Pre μ μ1) (k:bh H H1):FlP K μ1 H1 D r:=by
 obtain⟨f,ρ',S'⟩:=r
 cases f with
 | nx=>exact fun μ' σ' H' p' k'=>a μ' σ' H' (p.trans p') (k.trans k')
 | bk=>exact fun μ' σ' H' p' k'=>a μ' σ' H' (p.trans p') (k.trans k')
 | ct=>exact fun μ' σ' H' p' k'=>a μ' σ' H' (p.trans p') (k.trans k')
 | rt u=>exact Aft.mono a p k
end G
end
section
namespace G
open PySem PySem.Spec L2
open PyProof.Rows hiding St
section
variable {K:KX}{σ:St}{H:Hp}{Q:VK}
theorem mn {A B:Prop} (h:A):if true=true then A else B:=by rw [if_pos rfl];exact h
theorem mH {A B:Prop} (h:B):if false=true then A else B:=by rw [if_neg bG];exact h
theorem Jf {i:Nat} (h:tM K (ae i) σ H Q):I0 i σ H Q:=by
 obtain⟨μ,S,ρ,u,S',hr,er,e,k⟩:=h
 unfold ae at e
 split at e
 ·rename_i w q
  cases e
  obtain⟨v,hv,ru⟩:=er.get i _ q
  exact⟨v,hv,k μ v H (Pre.refl _) (bh.refl _) hr ru⟩
 ·cases e
theorem r_c {u:U}{v:V} (hv : ∀ H μ,RU H μ u v) (h:tM K (mC u) σ H Q):tC v σ H Q:=by
 obtain⟨μ,S,ρ,u',S',hr,er,e,k⟩:=h
 cases e
 exact k μ v H (Pre.refl _) (bh.refl _) hr (hv _ _)
noncomputable def OpU (K:KX) (r:R2) (f:F2):Prop := ∀ (μ:List Addr) (S:Sto) (H:Hp) (x y:U) (vx vy:V) (u:U) (S':Sto) (Q:VK),HR K μ S H->RU H μ x vx->RU H μ y vy->f x y S=some (u,S')->Aft K μ H u S' Q->r vx vy H Q
theorem rB {r:R2}{f:F2}{a b:ME} (o:OpU K r f) (h:tM K (m2 f a b) σ H Q):tOp r (tM K a) (tM K b) σ H Q:=by
 obtain⟨μ,S,ρ,u,S',hr,er,e,k⟩:=h
 obtain⟨x,S1,e1,e⟩:=ba e
 obtain⟨y,S2,e2,e⟩:=ba e
 refine⟨μ,S,ρ,x,S1,hr,er,e1,fun μ1 vx H1 p1 k1 hr1 rx => ?_⟩
 refine⟨μ1,S1,ρ,y,S2,hr1,er.mono k1 p1,e2,fun μ2 vy H2 p2 k2 hr2 ry => ?_⟩
 exact o μ2 S2 H2 x y vx vy u S' Q hr2 (RU.mono k2 p2 x vx rx) ry e (k.mono (p1.trans p2) (k1.trans k2))
noncomputable def UnU (K:KX) (r:V->Hp->VK->Prop) (f:U->Sto->Res U):Prop := ∀ (μ:List Addr) (S:Sto) (H:Hp) (x:U) (vx:V) (u:U) (S':Sto) (Q:VK),HR K μ S H->RU H μ x vx->f x S=some (u,S')->Aft K μ H u S' Q->r vx H Q
theorem JN {r:V->Hp->VK->Prop}{f:U->Sto->Res U}{a:ME} (o:UnU K r f) (h:tM K (m1 f a) σ H Q):tUn r (tM K a) σ H Q:=by
 obtain⟨μ,S,ρ,u,S',hr,er,e,k⟩:=h
 obtain⟨x,S1,e1,e⟩:=ba e
 refine⟨μ,S,ρ,x,S1,hr,er,e1,fun μ1 vx H1 p1 k1 hr1 rx => ?_⟩
 exact o μ1 S1 H1 x vx u S' Q hr1 rx e (k.mono p1 k1)
theorem Aft.now {μ:List Addr}{S:Sto}{u:U}{v:V} (k:Aft K μ H u S Q) (hr:HR K μ S H) (r:RU H μ u v):Q v H:=k μ v H (Pre.refl _) (bh.refl _) hr r
theorem dD {μ:List Addr}{i:Int}:RU H μ (.int i) (.int i):=by simp [RU]
theorem jb {μ:List Addr}{b:Bool}:RU H μ (.bl b) (.bl b):=by simp [RU]
theorem oU {μ:List Addr}:RU H μ .non .non:=by simp [RU]
theorem jk {μ:List Addr}{us:List U}{vs:List V}{a:Addr} (e:H a=some (.tup vs)) (r:RUs H μ us vs):RU H μ (.tup us) (.ref a):=by
 simp only [RU];exact⟨a,vs,rfl,e,r⟩
theorem wa {μ:List Addr}{n:Nat}{a:Addr} (e:μ[n]? = some a):RU H μ (.ref n) (.ref a):=by
 simp only [RU];exact⟨a,rfl,e⟩
theorem cy {μ:List Addr}{i:Int}{v:V} (h:RU H μ (.int i) v):v = .int i:=by simpa only [RU] using h
theorem lr {μ:List Addr}{b:Bool}{v:V} (h:RU H μ (.bl b) v):v = .bl b:=by simpa only [RU] using h
theorem ic {μ:List Addr}{us:List U}{v:V} (h:RU H μ (.tup us) v) : ∃ a vs,v = .ref a/\H a=some (.tup vs)/\RUs H μ us vs:=by simpa only [RU] using h
theorem gO {μ:List Addr}{n:Nat}{v:V} (h:RU H μ (.ref n) v) : ∃ a,v = .ref a/\μ[n]? = some a:=by simpa only [RU] using h
theorem w9 {g:Int->Int->V}{f:F2}{k:Int->Int->U} (hf : ∀ x y S u S',f x y S=some (u,S') -> ∃ i j,x = .int i/\y = .int j/\u=k i j/\S'=S) (hg : ∀ H μ i j,RU H μ (k i j) (g i j)):OpU K (rI0 g) f:=by
 intro μ S H x y vx vy u S' Q hr rx ry e a
 obtain⟨i,j,rfl,rfl,rfl,rfl⟩:=hf x y S u S' e
 exact⟨i,j,cy rx,cy ry,a.now hr (hg _ _ _ _)⟩
theorem vC {C:Int->Int->Prop}{g:Int->Int->V}{f:F2}{k:Int->Int->U} (hf : ∀ x y S u S',f x y S=some (u,S') -> ∃ i j,x = .int i/\y = .int j/\C i j/\u=k i j/\S'=S) (hg : ∀ H μ i j,RU H μ (k i j) (g i j)):OpU K (rI C g) f:=by
 intro μ S H x y vx vy u S' Q hr rx ry e a
 obtain⟨i,j,rfl,rfl,c,rfl,rfl⟩:=hf x y S u S' e
 exact⟨i,j,cy rx,cy ry,c,a.now hr (hg _ _ _ _)⟩
theorem EW:OpU K (rI0 fun i j => .int (i - j)) kT:=w9 (k:=fun i j => .int (i - j)) (fun x y S u S' h=>by
 unfold kT at h;split at h <;> simp at h;obtain⟨rfl,rfl⟩:=h;exact⟨_,_,rfl,rfl,rfl,rfl⟩) fun _ _ _ _=>dD
noncomputable def CU (K:ai):R2:=fun x y H Q => ∃ l k xs,x = .ref l/\y = .int k/\H l=some (.tup xs)/\xp xs.length k/\(k=1->Q (.ref l) H)/\(k≠1 -> ∀ p,H p=none->Q (.ref p) (upd H p (.tup (ay k.toNat xs).flatten)))
theorem pv (its:List Value) : ∀ (m:Nat) (a:List Value),List.foldl (fun x1 x2=>x1++x2) a.toArray (ay m its.toArray)=(a++(ay m its).flatten).toArray
 | 0,a=>by simp
 | m+1,a=>by
   rw [de,List.foldl_cons,List.append_toArray,pv its m (a++its),de,eY,bf]
theorem RUs.rep {H:Hp}{μ:List Addr}{us:List U}{vs:List V} (r:RUs H μ us vs) : ∀ (m:Nat),RUs H μ (ay m us).flatten (ay m vs).flatten
 | 0=>by simpa using RUs.nil
 | m+1=>by
   rw [de,eY,de,eY]
   exact r.append (RUs.rep r m)
theorem BN {X:Cx}:OpR X (binaryOp .Mult) (CU X.K):=by
 intro pins s σ H x y v u Q I rx ry h
 obtain⟨l,k,xs,rfl,rfl,hH,⟨h1,h2,h3,h4⟩,q1,q2⟩:=h
 cases (show v=bj l from rx)
 obtain⟨t,rfl⟩:=ry
 obtain⟨z,its,r,⟨⟨cls,dd,data,sl⟩,e,c,n,d⟩,_⟩:=I.hok l _ hH
 simp only at c d
 subst c d
 have hl:its.length=xs.length:=r.length.symm
 refine wpAny_binaryOp_repeat_ref (T:="tuple") (U:="int") (by decide) ⟨_,e,rfl⟩ (fun s'=>typeIs_int s' k t) nc F.fills_int_mul F.slot_int_rmul rM F.slot_int_index.lookup
  (call_meets F.slot_int_rmul (typeIs_int s k t) F.entry_int_rmul (F.args_int_rmul_2 _ _) (pB k t l its.toArray n dd sl) ⟨e,rfl,⟨_,e,rfl⟩,?_⟩)
 by_cases hk:k=1
 ·subst hk
  exact call_meets uW ⟨_,e,rfl⟩ sD (qu _ _) (pO l its.toArray n dd sl t) ⟨e,⟨.ref l,H,I,rfl,q1 rfl⟩⟩
 ·by_cases hk0:k=0
  ·subst hk0
   refine call_meets uW ⟨_,e,rfl⟩ sD (qu _ _) (vH l its.toArray n dd sl t ?_) ⟨e,?_⟩
   ·cases its with
    | nil=>simp at hl;omega
    | cons a b=>rfl
   ·exact⟨.ref s.heap.objs.size,_,I.laid (t':=s.toks) (o := .tup []) (fun b ob q=>ar _ q) (ak _) ⟨eA _,[],.nil,xI _ _,_,aF _ rfl,rfl⟩,rfl,by simpa using q2 hk _ (I.hok.fresh (ak _))⟩
  refine call_meets uW ⟨_,e,rfl⟩ sD (qu _ _) (vk l its.toArray n dd sl k t ?_ (by omega) h2 (by rw [aG];omega)) ⟨e,?_⟩
  ·intro w
   rw [lR] at w
   rcases w with w | w
   ·have:its = []:=by simpa using w
    rw [this] at hl;simp at hl;omega
   ·exact hk (by simpa using w)
  ·rw [show (#[]:Array Value)=([]:List Value).toArray from rfl,pv its k.toNat [],dQ]
   refine⟨.ref s.heap.objs.size,_,I.laid (t':=s.toks) (o := .tup (ay k.toNat xs).flatten) (fun b ob q=>ar _ q) (ak _) ?_,rfl,q2 hk _ (I.hok.fresh (ak _))⟩
   refine⟨?_,_,r.rep k.toNat,xI _ _,_,aF _ rfl,rfl⟩
   rw [len_rep,sizeLine_eq]
   have:k.toNat*xs.length<=1000*xs.length:=fD _ (by omega)
   omega
theorem EG:OpU K (fun x y H Q=>rI BB (fun i j => .int (i*j)) x y H Q\/CU K x y H Q) dX:=by
 intro μ S H x y vx vy u S' Q hr rx ry e a
 unfold dX at e
 split at e
 ·split at e
  ·rename_i hc
   simp at e;obtain⟨rfl,rfl⟩:=e
   exact .inl ⟨_,_,cy rx,cy ry,hc,a.now hr dD⟩
  ·cases e
 ·rename_i xs k
  split at e
  ·rename_i hc
   simp at e;obtain⟨rfl,rfl⟩:=e
   obtain⟨p,vs,rfl,hp,r1⟩:=ic rx
   refine .inr ⟨p,k,vs,rfl,cy ry,hp,by rw [<- r1.len];exact hc,fun hk => ?_,fun hk t ht => ?_⟩
   ·subst hk
    have e1:(ay (1:Int).toNat xs).flatten=xs:=by simp
    rw [e1] at a
    exact a.now hr (jk hp r1)
   ·exact a μ _ _ (Pre.refl _) (bh.new ht) (hr.tup ht) (jk cq (RUs.mono (bh.new ht) (Pre.refl _) _ _ (r1.rep _)))
  ·cases e
 ·cases e
theorem FG:OpU K (rI Il fun i j => .int (i / j)) oDiv:=vC (k:=fun i j => .int (i / j)) (fun x y S u S' h=>by
 unfold oDiv at h;split at h
 ·split at h
  ·rename_i hc;simp at h;obtain⟨rfl,rfl⟩:=h;exact⟨_,_,rfl,rfl,hc,rfl,rfl⟩
  ·cases h
 ·cases h) fun _ _ _ _=>dD
theorem Fz:OpU K (rI (fun _ j=>0 < j) fun i j => .int (i % j)) oMod:=vC (k:=fun i j => .int (i % j)) (fun x y S u S' h=>by
 unfold oMod at h;split at h
 ·split at h
  ·rename_i hc;simp at h;obtain⟨rfl,rfl⟩:=h;exact⟨_,_,rfl,rfl,hc,rfl,rfl⟩
  ·cases h
 ·cases h) fun _ _ _ _=>dD
theorem Eo:OpU K (rI G6 fun i j => .int (i ^ j.toNat)) rA:=vC (k:=fun i j => .int (i ^ j.toNat)) (fun x y S u S' h=>by
 unfold rA at h;split at h
 ·split at h
  ·rename_i hc;simp at h;obtain⟨rfl,rfl⟩:=h;exact⟨_,_,rfl,rfl,hc,rfl,rfl⟩
  ·cases h
 ·cases h) fun _ _ _ _=>dD
theorem rj {p:Int->Int->Bool}:OpU K (rI0 fun i j => .bl (p i j)) (yI p):=w9 (k:=fun i j => .bl (p i j)) (fun x y S u S' h=>by
 unfold yI at h;split at h <;> simp at h;obtain⟨rfl,rfl⟩:=h;exact⟨_,_,rfl,rfl,rfl,rfl⟩) fun _ _ _ _=>jb
noncomputable def Dp (K:ai):R2:=fun x y H Q => ∃ a b ys,x = .ref a/\y = .ref b/\SqT K H a []/\SqT K H b ys/\Q (.ref b) H
theorem Bs {X:Cx}:OpR X (binaryOp .Add) (Dp X.K):=by
 intro pins s σ H x y v u Q I rx ry h
 obtain⟨a,b,ys,rfl,rfl,h1,h2,q⟩:=h
 cases (show v=bj a from rx)
 cases (show u=bj b from ry)
 obtain⟨its,r1,p1,_⟩:=I.tuple h1
 obtain⟨its2,r2,p2,_⟩:=I.tuple h2
 cases r1
 exact HT.cat_tup0 p1 p2 ⟨.ref b,H,I,rfl,q⟩
theorem FP:OpU K (fun x y H Q=>rI0 (fun i j => .int (i+j)) x y H Q\/DE K x y H Q\/Dp K x y H Q\/Hz x y H Q) bV:=by
 intro μ S H x y vx vy u S' Q hr rx ry e a
 unfold bV at e
 split at e
 ·simp at e;obtain⟨rfl,rfl⟩:=e
  exact .inl ⟨_,_,cy rx,cy ry,a.now hr dD⟩
 ·rename_i xs ys
  split at e
  ·rename_i hc
   simp at e;obtain⟨rfl,rfl⟩:=e
   obtain⟨p,vs,rfl,hp,r1⟩:=ic rx
   obtain⟨q,ws,rfl,hq,r2⟩:=ic ry
   by_cases hx:xs = []
   ·subst hx
    have hv:vs = []:=by have:=r1.len;exact eu (by simpa using this.symm)
    subst hv
    exact .inr (.inr (.inl ⟨p,q,ws,rfl,rfl,.inl (.inl hp),.inl (.inl hq),a.now hr (jk hq r2)⟩))
   refine .inr (.inl ⟨p,q,vs,ws,rfl,rfl,.inl (.inl hp),.inl (.inl hq),?_,?_,fun z => ?_,fun z t ht => ?_⟩)
   ·intro z;subst z;have:=r1.len;exact hx (eu (by simpa using this))
   ·have h1:=r1.len;have h2:=r2.len;unfold big at hc;rw [sizeLine_eq];omega
   ·subst z
    have:ys = []:=by have:=r2.len;exact eu (by simpa using this)
    subst this
    rw [dg] at a
    exact a.now hr (jk hp r1)
   ·refine a μ _ _ (Pre.refl _) (bh.new ht) (hr.tup ht) ?_
    have kp:bh H (upd H t (.tup (vs++ws))):=bh.new ht
    exact jk cq ((RUs.mono kp (Pre.refl _) _ _ r1).append (RUs.mono kp (Pre.refl _) _ _ r2))
  ·cases e
 ·rename_i n m
  split at e
  ·rename_i xs ys q1 q2
   split at e
   ·rename_i hc
    simp at e;obtain⟨rfl,rfl⟩:=e
    obtain⟨p,rfl,hp⟩:=gO rx
    obtain⟨q,rfl,hq⟩:=gO ry
    obtain⟨vs,e1,r1⟩:=hr.cell n _ p q1 hp
    obtain⟨ws,e2,r2⟩:=hr.cell m _ q q2 hq
    refine .inr (.inr (.inr ⟨p,q,vs,ws,rfl,rfl,e1,e2,?_,fun t ht => ?_⟩))
    ·have h1:=r1.len;have h2:=r2.len;unfold big at hc;rw [sizeLine_eq];omega
    ·refine a (μ ++ [t]) _ _ ⟨[t],rfl⟩ (bh.new ht) (hr.new ht (r1.append r2)) (wa ?_)
     rw [<- hr.len,aq (ak _)];simp
   ·cases e
  ·cases e
 ·cases e
theorem HR.seq {μ:List Addr}{S:Sto}{x:U}{v:V}{us:List U} (hr:HR K μ S H) (r:RU H μ x v) (e:du S x=some us) : ∃ a vs,v = .ref a/\(SqL K H a vs\/SqT K H a vs)/\RUs H μ us vs:=by
 unfold du at e
 split at e
 ·cases e
  obtain⟨a,vs,rfl,h,q⟩:=ic r
  exact⟨a,vs,rfl,.inr (.inl (.inl h)),q⟩
 ·obtain⟨a,rfl,ha⟩:=gO r
  obtain⟨a',vs,ha',hs,q⟩:=hr.sq e
  rw [ha] at ha';cases ha'
  exact⟨a,vs,rfl,.inl hs,q⟩
 ·cases e
theorem Cz {μ:List Addr}{us:List U}{vs:List V}{i:Int}{u:U} (r:RUs H μ us vs) (e:atI us i=some u) : ∃ v,atI vs i=some v/\RU H μ u v:=by
 unfold atI at e ⊢
 rw [<- r.len]
 cases q:ixN us.length i with
 | none=>rw [q] at e;cases e
 | some j=>
   rw [q] at e
   exact r.get e
theorem nZ {μ:List Addr}{y:U}{v:V}{k:Key} (r:RU H μ y v) (e:keyOf y=some k):v=kV k:=by
 cases y <;> simp only [keyOf,ei,reduceCtorEq] at e <;> subst e <;> (simp only [RU] at r;exact r)
theorem xq {μ:List Addr}{k:Key}{u:U} : ∀ {kvs:List (Key×U)}{vs:List V},RUs H μ (kvs.map (·.2)) vs->pk kvs k=some u -> ∃ v,jT (dV kvs vs) k=some v/\RU H μ u v
 | [],vs,r,e=>by cases e
 | (j,x)::kvs,vs,r,e=>by
   obtain⟨v,r',rfl,a,b⟩:=r.inv
   show ∃ w,jT ((j,v)::dV kvs r') k=some w/\_
   by_cases h:j=k
   ·rw [kg h]
    simp [pk,dh,h] at e
    subst e
    exact⟨v,rfl,a⟩
   ·rw [j7 h]
    refine xq b ?_
    simpa [pk,dh,h] using e
theorem oG {k:Key} : ∀ {kvs:List (Key×U)}{vs:List V},kvs.length=vs.length->(jT (dV kvs vs) k).isSome=(pk kvs k).isSome
 | [],vs,_=>by simp [dV,jT,pk]
 | (j,x)::kvs,[],h=>by simp at h
 | (j,x)::kvs,v::vs,h=>by
   show (jT ((j,v)::dV kvs vs) k).isSome=_
   by_cases hj:j=k
   ·rw [kg hj];simp [pk,dh,hj]
   ·rw [j7 hj,oG (by simpa using h)];simp [pk,dh,hj]
theorem zN {k:Key} : ∀ {kvs:List (Key×U)}{vs:List V},kvs.length=vs.length->((dV kvs vs).any fun kv=>decide (kv.1=k))=kvs.any fun kv=>decide (kv.1=k)
 | [],vs,_=>by simp [dV]
 | (j,x)::kvs,[],h=>by simp at h
 | (j,x)::kvs,v::vs,h=>by
   show (((j,v)::dV kvs vs).any fun kv=>decide (kv.1=k))=_
   rw [fQ,fQ,zN (by simpa using h)]
theorem zP {kvs:List (Key×U)}{vs:List V} (h:kvs.length=vs.length):(dV kvs vs).length=kvs.length:=by
 simp [dV,h]
theorem xu {μ:List Addr}{k:Key}{u:U}{v:V} (ru:RU H μ u v) : ∀ {kvs:List (Key×U)}{vs:List V},RUs H μ (kvs.map (·.2)) vs ->
  ∃ ws,dV (kvs.map fun kv=>if kv.1=k then (kv.1,u) else kv) ws=(dV kvs vs).map (fun kv=>if kv.1=k then (kv.1,v) else kv)/\RUs H μ ((kvs.map fun kv=>if kv.1=k then (kv.1,u) else kv).map (·.2)) ws
 | [],vs,r=>⟨[],by simp [dV],.nil⟩
 | (j,x)::kvs,vs,r=>by
   obtain⟨w,r',rfl,a,b⟩:=r.inv
   obtain⟨ws,e,q⟩:=xu ru b
   show ∃ ws',dV ((if j=k then (j,u) else (j,x))::kvs.map fun kv=>if kv.1=k then (kv.1,u) else kv) ws'=(if j=k then (j,v) else (j,w))::(dV kvs r').map (fun kv=>if kv.1=k then (kv.1,v) else kv)/\RUs H μ (((if j=k then (j,u) else (j,x))::kvs.map fun kv=>if kv.1=k then (kv.1,u) else kv).map (·.2)) ws'
   by_cases h:j=k
   ·rw [if_pos h,if_pos h]
    exact⟨v::ws,by rw [<- e];rfl,.cons ru q⟩
   ·rw [if_neg h,if_neg h]
    exact⟨w::ws,by rw [<- e];rfl,.cons a q⟩
theorem Cr {μ:List Addr}{k:Key}{u:U}{v:V}{kvs:List (Key×U)}{vs:List V} (ru:RU H μ u v) (r:RUs H μ (kvs.map (·.2)) vs) : ∃ ws,dV (B3 kvs k u) ws=putK (dV kvs vs) k v/\RUs H μ ((B3 kvs k u).map (·.2)) ws:=by
 have hl:kvs.length=vs.length:=by have:=r.len;rwa [aI] at this
 unfold B3 putK
 rw [zN hl]
 split
 ·exact xu ru r
 ·refine⟨vs ++ [v],?_,by rw [bF];exact r.append (.cons ru .nil)⟩
  unfold dV
  rw [bF,List.zip_append (by simpa using hl)]
  rfl
theorem HR.dic {μ:List Addr}{S:Sto}{x:U}{v:V}{kvs:List (Key×U)} (hr:HR K μ S H) (r:RU H μ x v) (e:fP S x=some kvs) : ∃ a vs,v = .ref a/\H a=some (.dK (dV kvs vs))/\RUs H μ (kvs.map (·.2)) vs:=by
 unfold fP at e
 split at e
 ·split at e
  ·rename_i q
   cases e
   obtain⟨a,rfl,ha⟩:=gO r
   obtain⟨vs,e1,r1⟩:=hr.cell _ _ a q ha
   exact⟨a,vs,rfl,e1,r1⟩
  ·cases e
 ·cases e
noncomputable def Hh:R2:=fun x y H Q => ∃ a v,x = .ref a/\qc H a y (some v)/\Q v H
noncomputable def Ju (K:ai):R2:=fun x y H Q=>rIx K x y H Q\/Hh x y H Q
theorem FL {X:Cx} (hu:X.A.units+1 < cLine):IxR X Hh:=by
 intro value slice pins s σ H x y v u Q I rx ry h hs
 obtain⟨a,w,rfl,g,q⟩:=h
 obtain rfl:v=bj a:=rx
 exact tail_any (tZ I g) PySem.F.slot_dict_getitem.lookup (xP hu I g ry fun w' s3 I3 rw'=>⟨w,H,I3,rw',q⟩) hs
theorem Hb:OpU K (Ju K) oIx:=by
 intro μ S H x y vx vy u S' Q hr rx ry e a
 unfold oIx at e
 split at e
 ·rename_i kvs qd
  cases qk:keyOf y with
  | none=>rw [qk] at e;cases e
  | some kk=>
    rw [qk] at e
    simp only [ao] at e
    cases qv:pk kvs kk with
    | none=>rw [qv] at e;cases e
    | some w=>
      rw [qv] at e
      simp at e;obtain⟨rfl,rfl⟩:=e
      obtain⟨p,vs,rfl,hp,r⟩:=hr.dic rx qd
      obtain⟨v,hv,rv⟩:=xq r qv
      rw [nZ ry qk]
      exact .inr ⟨p,v,rfl,.inl ⟨_,kk,.inl hp,rfl,hv.symm⟩,a.now hr rv⟩
 split at e
 ·rename_i i
  refine .inl ?_
  cases q:du S x with
  | none=>rw [q] at e;cases e
  | some us=>
    rw [q] at e
    simp only [ao] at e
    cases z:atI us i with
    | none=>rw [z] at e;cases e
    | some w=>
      rw [z] at e
      simp at e;obtain⟨rfl,rfl⟩:=e
      obtain⟨p,vs,rfl,hs,r⟩:=hr.seq rx q
      obtain⟨v,hv,rv⟩:=Cz r z
      rcases hs with hs | hs
      ·exact .inl ⟨p,vs,i,v,rfl,cy ry,hs,hv,a.now hr rv⟩
      ·exact .inr (.inl ⟨p,vs,i,v,rfl,cy ry,hs,hv,a.now hr rv⟩)
 ·cases e
theorem DU:UnU K (rU fun i => .int (-i)) lC:=by
 intro μ S H x vx u S' Q hr rx e a
 unfold lC at e
 split at e
 ·cases e
  exact⟨_,cy rx,a.now hr dD⟩
 ·cases e
theorem Jm {Q:List V->Hp->Prop} (h:tMA K ag σ H Q):zV σ H Q:=by
 obtain⟨μ,S,ρ,us,S',hr,er,e,k⟩:=h
 cases e
 exact k μ [] H (Pre.refl _) (bh.refl _) hr .nil
theorem Ea {a:ME}{r:MA}{Q:List V->Hp->Prop} (h:tMA K (aa a r) σ H Q):wF (tM K a) (tMA K r) σ H Q:=by
 obtain⟨μ,S,ρ,us,S',hr,er,e,k⟩:=h
 obtain⟨x,S1,e1,e⟩:=ba e
 obtain⟨xs,S2,e2,e⟩:=ba e
 cases e
 refine⟨μ,S,ρ,x,S1,hr,er,e1,fun μ1 vx H1 p1 k1 hr1 rx => ?_⟩
 refine⟨μ1,S1,ρ,xs,_,hr1,er.mono k1 p1,e2,fun μ2 vs H2 p2 k2 hr2 rs => ?_⟩
 exact k μ2 _ H2 (p1.trans p2) (k1.trans k2) hr2 (.cons (RU.mono k2 p2 x vx rx) rs)
theorem HP {a:MA} (h:tM K (eU a) σ H Q):Iq (tMA K a) σ H Q:=by
 obtain⟨μ,S,ρ,u,S',hr,er,e,k⟩:=h
 obtain⟨xs,S1,e1,e⟩:=ba e
 split at e
 ·rename_i hc
  cases e
  refine⟨μ,S,ρ,xs,_,hr,er,e1,fun μ1 vs H1 p1 k1 hr1 rs=>⟨?_,fun p hp => ?_⟩⟩
  ·have:=rs.len;unfold big at hc;rw [sizeLine_eq];omega
  ·exact k μ1 _ _ p1 (k1.trans (bh.new hp)) (hr1.tup hp) (jk cq (RUs.mono (bh.new hp) (Pre.refl _) _ _ rs))
 ·cases e
theorem mv {μ:List Addr}{S:Sto}{us:List U}{vs:List V}{p:Addr} (k:Aft K μ H (.ref S.length) (S ++ [.lst us]) Q) (hr:HR K μ S H) (rs:RUs H μ us vs) (hp:H p=none):Q (.ref p) (upd H p (.lst vs)):=by
 refine k (μ ++ [p]) _ _ ⟨[p],rfl⟩ (bh.new hp) (hr.new hp rs) (wa ?_)
 rw [<- hr.len,aq (ak _)];simp
theorem HI {a:MA} (h:tM K (cf a) σ H Q):GU (tMA K a) σ H Q:=by
 obtain⟨μ,S,ρ,u,S',hr,er,e,k⟩:=h
 obtain⟨xs,S1,e1,e⟩:=ba e
 split at e
 ·rename_i hc
  cases e
  refine⟨μ,S,ρ,xs,S1,hr,er,e1,fun μ1 vs H1 p1 k1 hr1 rs=>⟨?_,fun p hp => ?_⟩⟩
  ·have:=rs.len;unfold big at hc;rw [sizeLine_eq];omega
  ·exact mv (k.mono p1 k1) hr1 rs hp
 ·cases e
noncomputable def ny (K:KX) (r:List V->Hp->VK->Prop) (f:MF):Prop := ∀ (μ:List Addr) (S:Sto) (H:Hp) (us:List U) (vs:List V) (u:U) (S':Sto) (Q:VK),HR K μ S H->RUs H μ us vs->f us S=some (u,S')->Aft K μ H u S' Q->r vs H Q
theorem ve {r:List V->Hp->VK->Prop}{f:MF}{a:MA} (o:ny K r f) (h:tM K (mFn f a) σ H Q):tCB r (tMA K a) σ H Q:=by
 obtain⟨μ,S,ρ,u,S',hr,er,e,k⟩:=h
 obtain⟨xs,S1,e1,e⟩:=ba e
 refine⟨μ,S,ρ,xs,S1,hr,er,e1,fun μ1 vs H1 p1 k1 hr1 rs => ?_⟩
 exact o μ1 S1 H1 xs vs u S' Q hr1 rs e (k.mono p1 k1)
noncomputable def spM (K:KX) (m:MF):Sp:=fun vs H Q _ => ∃ μ S us u S',HR K μ S H/\RUs H μ us vs/\m us S=some (u,S')/\Aft K μ H u S' Q
theorem Eb {f:MF}{a:MA}{E:XK} (h:tM K (mFn f a) σ H Q):Af (spM K f) [] E (tMA K a) σ H Q:=by
 obtain⟨μ,S,ρ,u,S',hr,er,e,k⟩:=h
 obtain⟨xs,S1,e1,e⟩:=ba e
 refine⟨μ,S,ρ,xs,S1,hr,er,e1,fun μ1 vs H1 p1 k1 hr1 rs => ?_⟩
 show spM K f (vs ++ []) H1 Q E
 rw [dg]
 exact⟨μ1,S1,xs,u,S',hr1,rs,e,k.mono p1 k1⟩
theorem FD:ny K (fun xs H Q=>(∃ p ys,xs = [.ref p]/\(SqL K H p ys\/SqT K H p ys)/\Q (.int ys.length) H) \/ ∃ a kvs,xs = [V.ref a]/\H a=some (.dK kvs)/\Q (.int kvs.length) H) cQ:=by
 intro μ S H us vs u S' Q hr rs e a
 unfold cQ at e
 split at e
 ·rename_i x
  obtain⟨v,r,rfl,rx,rn⟩:=rs.inv
  rw [rn.nil_inv]
  split at e
  ·rename_i kvs qd
   cases e
   obtain⟨p,ws,rfl,hp,r'⟩:=hr.dic rx qd
   refine .inr ⟨p,_,rfl,hp,?_⟩
   have hl:kvs.length=ws.length:=by have:=r'.len;rwa [aI] at this
   rw [zP hl]
   exact a.now hr dD
  cases q:du S x with
  | none=>rw [q] at e;cases e
  | some ws=>
    rw [q] at e;cases e
    obtain⟨p,ys,rfl,hs,r'⟩:=hr.seq rx q
    refine .inl ⟨p,ys,rfl,hs,?_⟩
    rw [<- r'.len]
    exact a.now hr dD
 ·cases e
theorem Ac:ny K (fun xs H Q => ∃ p ys,xs = [.ref p]/\((SqL K H p ys /\ ∀ l,H l=none->Q (.ref l) (upd H l (.tup ys)))\/(SqT K H p ys/\Q (.ref p) H))) bS:=by
 intro μ S H us vs u S' Q hr rs e a
 unfold bS at e
 split at e
 ·rename_i x
  obtain⟨v,r,rfl,rx,rn⟩:=rs.inv
  rw [rn.nil_inv]
  unfold du at e
  split at e
  ·cases e
   obtain⟨p,ys,rfl,hp,r'⟩:=ic rx
   exact⟨p,ys,rfl,.inr ⟨.inl (.inl hp),a.now hr (jk hp r')⟩⟩
  ·rename_i n
   cases q:getL S n with
   | none=>rw [q] at e;cases e
   | some ws=>
     rw [q] at e;cases e
     obtain⟨p,rfl,hp⟩:=gO rx
     obtain⟨p',ys,hp',hs,r'⟩:=hr.sq q
     rw [hp] at hp';cases hp'
     refine⟨p,ys,rfl,.inl ⟨hs,fun l hl => ?_⟩⟩
     exact a μ _ _ (Pre.refl _) (bh.new hl) (hr.tup hl) (jk cq (RUs.mono (bh.new hl) (Pre.refl _) _ _ r'))
  ·cases e
 ·cases e
theorem Gv:ny K (fun xs H Q => ∃ i j,xs = [.int i,.int j]/\Q (.int (if j > i then j else i)) H) sZ:=by
 intro μ S H us vs u S' Q hr rs e a
 unfold sZ at e
 split at e
 ·cases e
  obtain⟨v,r,rfl,rx,rs⟩:=rs.inv
  obtain⟨w,r,rfl,ry,rn⟩:=rs.inv
  rw [rn.nil_inv,cy rx,cy ry]
  exact⟨_,_,rfl,a.now hr dD⟩
 ·cases e
theorem qQ : ∀ {ns:List Int}{m:Int},vc ns=some m->m∈ns /\ ∀ a∈ns,m<=a
 | [],m,h=>by cases h
 | x::xs,m,h=>by
   unfold vc at h
   cases q:vc xs with
   | none=>
     rw [q] at h;cases h
     cases xs with
     | nil=>exact⟨aM,fun a ha=>by simp at ha;omega⟩
     | cons y ys=>
       exfalso
       unfold vc at q
       split at q <;> cases q
   | some k=>
     rw [q] at h
     obtain⟨h1,h2⟩:=qQ q
     have e:(if k < x then k else x)=m:=bu h
     by_cases hk:k < x
     ·rw [if_pos hk] at e;subst e
      refine⟨av _ h1,fun a ha => ?_⟩
      rcases aR.mp ha with z | z
      ·omega
      ·exact h2 a z
     ·rw [if_neg hk] at e;subst e
      refine⟨aM,fun a ha => ?_⟩
      rcases aR.mp ha with z | z
      ·omega
      ·have:=h2 a z;omega
theorem xk {μ:List Addr} : ∀ {us:List U}{vs:List V}{ns:List Int},RUs H μ us vs->dq zt us=some ns->vs=ns.map V.int
 | [],vs,ns,r,e=>by cases e;rw [r.nil_inv];rfl
 | u::us,vs,ns,r,e=>by
   obtain⟨v,r',rfl,a,b⟩:=r.inv
   unfold dq at e
   cases u with
   | int x=>
     simp only [zt,ao] at e
     cases q:dq zt us with
     | none=>rw [q] at e;cases e
     | some cs=>
       rw [q] at e;cases e
       rw [cy a,xk b q];rfl
   | _=>cases e
noncomputable def Hq (K:ai):List V->Hp->VK->Prop:=fun xs H Q=>((∃ i j,xs = [.int i,.int j]/\Q (.int (if j < i then j else i)) H) \/ ∃ (p:Addr) (ns:List Int) (m:Int),xs = [.ref p]/\SqL K H p (ns.map V.int)/\m∈ns/\(∀ a∈ns,m<=a)/\Q (.int m) H)
theorem qJ : ∀ {ns:List Int}{us:List Value},bW (ns.map V.int) us->IntsAre us ns
 | [],us,r=>by cases r;exact .nil
 | n::ns,us,r=>by
   cases r with
   | cons a b=>
     obtain⟨t,rfl⟩:=a
     exact .cons n t (qJ b)
theorem yh {X:Cx} (hc:X.calm=true) (hu:X.A.units+64 < cLine):gz X (.builtin "min") (Hq X.K):=by
 intro pins s σ H xs us Q I rs h
 rcases h with h | ⟨p,ns,m,rfl,hS,hm,hle,q⟩
 ·exact xT hc pins s σ H xs us Q I rs h
 cases rs with
 | cons r1 rr=>
   cases rr
   cases (show _=bj p from r1)
   obtain⟨its,rv,pl,_⟩:=I.list hS
   have hI:=qJ rv
   have hl:=pl.isList
   obtain⟨ys,ey⟩:=hI.allInts.items
   have en:ns=ys.toList.map Prod.fst:=by rw [<- hI.numsOf,<- nums_intItems,<- ey]
   have lenE:ns.length=ys.size:=by rw [en];simp
   have pos:0 < ys.size:=by rw [<- lenE];exact List.length_pos_of_mem hm
   rw [ey] at hl
   refine min_intList (I.ok.hd hc) hl pos fun v h' tk hv hk => ?_
   obtain⟨t,rfl⟩:=intItems_at hv
   obtain⟨b1,b2⟩:=argBest_lt (numAt ys) (ys.size - 1)
   have hin:numAt ys (argBest (fun i j=>decide (numAt ys i < numAt ys j)) (ys.size - 1))∈ns:=by
    rw [en,numAt_eq]
    exact getD_mem (by rw [aI,fG];omega)
   obtain⟨j,hj,ej⟩:=mem_getD (show m∈ys.toList.map Prod.fst from en▸hm)
   have hj':j<=ys.size - 1:=by rw [aI,fG] at hj;omega
   have le2:=b2 j hj'
   rw [numAt_eq ys j,ej] at le2
   have le1:=hle _ hin
   have eq:numAt ys (argBest (fun i j=>decide (numAt ys i < numAt ys j)) (ys.size - 1))=m:=by omega
   exact⟨.int m,H,I.kept hk,⟨t,by rw [eq]⟩,q⟩
theorem EI:ny K (Hq K) nK:=by
 intro μ S H us vs u S' Q hr rs e a
 unfold nK at e
 split at e
 ·cases e
  obtain⟨v,r,rfl,rx,rs⟩:=rs.inv
  obtain⟨w,r,rfl,ry,rn⟩:=rs.inv
  rw [rn.nil_inv,cy rx,cy ry]
  exact .inl ⟨_,_,rfl,a.now hr dD⟩
 ·rename_i n
  obtain⟨v,r,rfl,rx,rn⟩:=rs.inv
  rw [rn.nil_inv]
  cases q:getL S n with
  | none=>rw [q] at e;cases e
  | some xs=>
    rw [q] at e
    simp only [ao] at e
    cases q2:dq zt xs with
    | none=>rw [q2] at e;cases e
    | some ns=>
      rw [q2] at e
      simp only [ao] at e
      cases q3:vc ns with
      | none=>rw [q3] at e;cases e
      | some m=>
        rw [q3] at e;cases e
        obtain⟨p,rfl,hp⟩:=gO rx
        obtain⟨p',ys,hp',hs,r'⟩:=hr.sq q
        rw [hp] at hp';cases hp'
        rw [xk r' q2] at hs
        obtain⟨h1,h2⟩:=qQ q3
        exact .inr ⟨p,ns,_,rfl,hs,h1,h2,a.now hr dD⟩
 ·cases e
noncomputable def MtU (K:KX) (r:V->List V->Hp->VK->Prop) (f:Nat->List U->Sto->Res U):Prop := ∀ (μ:List Addr) (S:Sto) (H:Hp) (n:Nat) (p:Addr) (us:List U) (vs:List V) (u:U) (S':Sto) (Q:VK),HR K μ S H->μ[n]? = some p->RUs H μ us vs->f n us S=some (u,S')->Aft K μ H u S' Q->r (.ref p) vs H Q
theorem GO {r:V->List V->Hp->VK->Prop}{f:Nat->List U->Sto->Res U}{o:ME}{a:MA} (m:MtU K r f) (h:tM K (mML f o a) σ H Q):tBM K "list" r (tM K o) (tMA K a) σ H Q:=by
 obtain⟨μ,S,ρ,u,S',hr,er,e,k⟩:=h
 obtain⟨x,S1,e1,e⟩:=ba e
 split at e
 ·rename_i n
  cases q:getL S1 n with
  | none=>rw [q] at e;cases e
  | some ws=>
    rw [q] at e
    obtain⟨xs,S2,e2,e⟩:=ba e
    refine⟨μ,S,ρ,_,S1,hr,er,e1,fun μ1 vx H1 p1 k1 hr1 rx => ?_⟩
    obtain⟨p,rfl,hp⟩:=gO rx
    obtain⟨p',ys,hp',hs,r'⟩:=hr1.sq q
    rw [hp] at hp';cases hp'
    refine⟨.inl ⟨rfl,ys,hs⟩,μ1,S1,ρ,xs,S2,hr1,er.mono k1 p1,e2,fun μ2 vs H2 p2 k2 hr2 rs => ?_⟩
    exact m μ2 S2 H2 n p xs vs u S' Q hr2 (p2.get hp) rs e (k.mono (p1.trans p2) (k1.trans k2))
 ·cases e
theorem AW {μ:List Addr}{S:Sto}{n:Nat}{us ws:List U}{vs:List V}{p:Addr}{u:U}{v:V} (k:Aft K μ H u (S.set n (.lst ws)) Q) (hr:HR K μ S H) (e:S[n]? = some (.lst us)) (hp:μ[n]? = some p) (rs:RUs H μ ws vs) (ru:RU H μ u v) :
  Q v (upd H p (.lst vs)):=by
 obtain⟨vs0,e0,_⟩:=hr.cell n _ p e hp
 exact k μ _ _ (Pre.refl _) (bh.wr e0) (hr.wr e hp rs) (RU.mono (bh.wr e0) (Pre.refl _) _ _ ru)
theorem xX:MtU K wU cm:=by
 intro μ S H n p us vs u S' Q hr hp rs e a
 unfold cm at e
 split at e
 ·split at e
  ·rename_i ws q
   split at e
   ·rename_i hc
    cases e
    obtain⟨v,r,rfl,rx,rn⟩:=rs.inv
    rw [rn.nil_inv]
    obtain⟨xs,e0,r0⟩:=hr.cell n _ p q hp
    refine⟨p,xs,v,rfl,rfl,e0,?_,AW a hr q hp (r0.append (.cons rx .nil)) oU⟩
    have:=r0.len;unfold big at hc;rw [sizeLine_eq];omega
   ·cases e
  ·cases e
 ·cases e
theorem EK {n:Nat}{i:Int}{j:Nat} (h:ixN n i=some j):j < n /\ -(n:Int)<=i/\i < n:=by
 unfold ixN at h
 split at h
 ·split at h
  ·cases h;omega
  ·cases h
 ·split at h
  ·cases h;omega
  ·cases h
theorem CK {n:Nat}{i:Int}{j:Nat} (h:ixN n i=some j):seqIndex? i n=some j:=by
 unfold ixN at h
 unfold seqIndex?
 split at h
 ·split at h
  ·cases h
   rename_i h0 h1
   simp only [show ¬ i < 0 by omega,if_false]
   first
    | (rw [if_pos (by omega)])
    | (simp;omega)
  ·cases h
 ·split at h
  ·cases h
   rename_i h0 h1
   simp only [show i < 0 by omega,if_true]
   first
    | (rw [if_pos (by omega)])
    | (simp;omega)
  ·cases h
theorem AG:MtU K zU iR:=by
 intro μ S H n p us vs u S' Q hr hp rs e a
 unfold iR at e
 split at e
 ·rename_i i
  split at e
  ·rename_i ws q
   split at e
   rotate_left
   ·cases e
   rename_i hR
   cases z:ixN ws.length i with
   | none=>rw [z] at e;cases e
   | some j=>
     rw [z] at e
     simp only [ao] at e
     cases z2:ws[j]? with
     | none=>rw [z2] at e;cases e
     | some y=>
       rw [z2] at e;cases e
       obtain⟨v,r,rfl,rx,rn⟩:=rs.inv
       rw [rn.nil_inv,cy rx]
       obtain⟨xs,e0,r0⟩:=hr.cell n _ p q hp
       obtain⟨w,hw,rw'⟩:=r0.get z2
       have hl:=EK z
       have hlen:=r0.len
       refine⟨p,xs,i,j,w,rfl,rfl,e0,?_,?_,?_,hw,AW a hr q hp (r0.eraseIdx j) rw'⟩
       ·have:=hR.1;omega
       ·have:=hR.2;omega
       ·rw [<- hlen];exact CK z
  ·cases e
 ·cases e
theorem zZ {t:TE}{m:ME}{Q:Bool->Hp->Prop} (ht : ∀ Q,tM K m σ H Q->t σ H Q) (h:tMT K (cOf m) σ H Q):Dh t σ H Q:=by
 obtain⟨μ,S,ρ,b,S',hr,er,e,k⟩:=h
 obtain⟨x,S1,e1,e⟩:=ba e
 split at e
 ·cases e
  refine ht _ ⟨μ,S,ρ,_,_,hr,er,e1,fun μ1 vx H1 p1 k1 hr1 rx => ?_⟩
  exact⟨_,lr rx,k μ1 H1 p1 k1 hr1⟩
 ·cases e
theorem JI {t:TE}{m:ME}{Q:Bool->Hp->Prop} (ht : ∀ Q,tM K m σ H Q->t σ H Q) (h:tMT K (cOf m) σ H Q):tB t σ H Q:=zZ ht h
theorem Jb {a b:MT}{Q:Bool->Hp->Prop} (h:tMT K (nJ a b) σ H Q):L2.GC (tMT K a) (tMT K b) σ H Q:=by
 obtain⟨μ,S,ρ,c,S',hr,er,e,k⟩:=h
 obtain⟨x,S1,e1,e⟩:=ba e
 refine⟨μ,S,ρ,x,S1,hr,er,e1,fun μ1 H1 p1 k1 hr1 => ?_⟩
 cases x with
 | true=>exact mn ⟨μ1,S1,ρ,c,S',hr1,er.mono k1 p1,e,fun μ2 H2 p2 k2=>k μ2 H2 (p1.trans p2) (k1.trans k2)⟩
 | false=>
   have e':some (false,S1)=some (c,S'):=e
   cases e'
   exact mH (k μ1 H1 p1 k1 hr1)
theorem Jw {a b:MT}{Q:Bool->Hp->Prop} (h:tMT K (cOr a b) σ H Q):L2.tOr (tMT K a) (tMT K b) σ H Q:=by
 obtain⟨μ,S,ρ,c,S',hr,er,e,k⟩:=h
 obtain⟨x,S1,e1,e⟩:=ba e
 refine⟨μ,S,ρ,x,S1,hr,er,e1,fun μ1 H1 p1 k1 hr1 => ?_⟩
 cases x with
 | true=>
   have e':some (true,S1)=some (c,S'):=e
   cases e'
   exact mn (k μ1 H1 p1 k1 hr1)
 | false=>exact mH ⟨μ1,S1,ρ,c,S',hr1,er.mono k1 p1,e,fun μ2 H2 p2 k2=>k μ2 H2 (p1.trans p2) (k1.trans k2)⟩
theorem G4 {a:MT}{Q:Bool->Hp->Prop} (h:tMT K (km a) σ H Q):L2.Hc (tMT K a) σ H Q:=by
 obtain⟨μ,S,ρ,c,S',hr,er,e,k⟩:=h
 obtain⟨x,S1,e1,e⟩:=ba e
 cases e
 exact⟨μ,S,ρ,x,_,hr,er,e1,fun μ1 H1 p1 k1 hr1=>k μ1 H1 p1 k1 hr1⟩
theorem Hd {c:MT}{a b:ME} (h:tM K (Cf c a b) σ H Q):tIf (tMT K c) (tM K a) (tM K b) σ H Q:=by
 obtain⟨μ,S,ρ,u,S',hr,er,e,k⟩:=h
 obtain⟨x,S1,e1,e⟩:=ba e
 refine⟨μ,S,ρ,x,S1,hr,er,e1,fun μ1 H1 p1 k1 hr1 => ?_⟩
 cases x with
 | true=>exact mn ⟨μ1,S1,ρ,u,S',hr1,er.mono k1 p1,e,k.mono p1 k1⟩
 | false=>exact mH ⟨μ1,S1,ρ,u,S',hr1,er.mono k1 p1,e,k.mono p1 k1⟩
section
variable {D:Ends}
theorem zc (h:tMS K cD D σ H):zO D σ H:=by
 obtain⟨μ,S,ρ,r,hr,er,e,k⟩:=h
 cases e
 exact k μ σ H (Pre.refl _) (bh.refl _) hr er
theorem IH {a b:MS} (h:tMS K (aZ a b) D σ H):HA (tMS K a) (tMS K b) D σ H:=by
 obtain⟨μ,S,ρ,r,hr,er,e,k⟩:=h
 unfold aZ at e
 split at e
 ·rename_i ρ1 S1 q
  refine⟨μ,S,ρ,_,hr,er,q,fun μ1 σ1 H1 p1 k1 hr1 er1 => ?_⟩
  exact⟨μ1,S1,ρ1,r,hr1,er1,e,k.mono p1 k1⟩
 ·rename_i q
  refine⟨μ,S,ρ,r,hr,er,e,?_⟩
  obtain⟨f,ρ',S'⟩:=r
  cases f with
  | nx=>exact absurd e (q ρ' S')
  | bk=>exact k
  | ct=>exact k
  | rt u=>exact k
theorem DK {i:Nat}{m:ME} (h:tMS K (br i m) D σ H):zT (tM K m) (gS i) D σ H:=by
 obtain⟨μ,S,ρ,r,hr,er,e,k⟩:=h
 obtain⟨x,S1,e1,e⟩:=ba e
 cases e
 exact⟨μ,S,ρ,x,S1,hr,er,e1,fun μ1 vx H1 p1 k1 hr1 rx=>k μ1 _ H1 p1 k1 hr1 ((er.mono k1 p1).set rx i)⟩
noncomputable def Ja:zS:=fun o i v H Q => ∃ a H',o = .ref a/\xM H a i v H'/\Q H'
noncomputable def DH:zS:=fun o i v H Q=>DL o i v H Q\/Ja o i v H Q
theorem Bm {X:Cx} (hu:X.A.units+1 < cLine):DZ X DH:=by
 intro pins s σ H o i v ov iv u Q I ro ri rv h
 rcases h with h | ⟨a,H',rfl,g,q⟩
 ·exact set_list pins s σ H o i v ov iv u Q I ro ri rv h
 ·obtain rfl:ov=bj a:=ro
  exact yL hu I g ri rv fun s4 I4=>⟨H',I4,q⟩
theorem Cv {o i m:ME} (h:tMS K (lF o i m) D σ H):zT (tM K m) (GY (tM K o) (tM K i) DH) D σ H:=by
 obtain⟨μ,S,ρ,r,hr,er,e,k⟩:=h
 obtain⟨x,S1,e1,e⟩:=ba e
 obtain⟨p,S2,e2,e⟩:=ba e
 obtain⟨j,S3,e3,e⟩:=ba e
 cases p with
 | ref n=>
   simp only at e
   split at e
   ·rename_i us q
    split at e
    rotate_left
    ·cases e
    rename_i kk
    cases z:ixN us.length kk with
    | none=>rw [z] at e;cases e
    | some m'=>
      rw [z] at e;cases e
      refine⟨μ,S,ρ,x,S1,hr,er,e1,fun μ1 vx H1 p1 k1 hr1 rx => ?_⟩
      refine⟨μ1,S1,ρ,_,S2,hr1,er.mono k1 p1,e2,fun μ2 vo H2 p2 k2 hr2 ro => ?_⟩
      refine⟨μ2,S2,ρ,_,S3,hr2,er.mono (k1.trans k2) (p1.trans p2),e3,fun μ3 vi H3 p3 k3 hr3 ri => ?_⟩
      obtain⟨a,rfl,ha⟩:=gO ro
      have ha3:=p3.get ha
      obtain⟨vs,e0,r0⟩:=hr3.cell n _ a q ha3
      have rx3:RU H3 μ3 x vx:=RU.mono (k2.trans k3) (p2.trans p3) _ _ rx
      refine .inl ⟨a,vs,kk,m',rfl,cy ri,e0,by rw [<- r0.len];exact z,?_⟩
      have kw:bh H3 (upd H3 a (.lst (vs.set m' vx))):=bh.wr e0
      exact k μ3 _ _ (p1.trans (p2.trans p3)) (k1.trans (k2.trans (k3.trans kw))) (hr3.wr q ha3 (r0.set rx3 m')) (er.mono (k1.trans (k2.trans (k3.trans kw))) (p1.trans (p2.trans p3)))
   ·rename_i kvs q
    cases qk:keyOf j with
    | none=>rw [qk] at e;cases e
    | some kk=>
      rw [qk] at e
      simp only [ao] at e
      split at e
      ·rename_i hz
       cases e
       refine⟨μ,S,ρ,x,S1,hr,er,e1,fun μ1 vx H1 p1 k1 hr1 rx => ?_⟩
       refine⟨μ1,S1,ρ,_,S2,hr1,er.mono k1 p1,e2,fun μ2 vo H2 p2 k2 hr2 ro => ?_⟩
       refine⟨μ2,S2,ρ,_,S3,hr2,er.mono (k1.trans k2) (p1.trans p2),e3,fun μ3 vi H3 p3 k3 hr3 ri => ?_⟩
       obtain⟨a,rfl,ha⟩:=gO ro
       have ha3:=p3.get ha
       obtain⟨vs,e0,r0⟩:=hr3.cell n _ a q ha3
       have rx3:RU H3 μ3 x vx:=RU.mono (k2.trans k3) (p2.trans p3) _ _ rx
       have hl:kvs.length=vs.length:=by have:=r0.len;rwa [aI] at this
       obtain⟨ws,ew,rw'⟩:=Cr (k:=kk) rx3 r0
       have kw:bh H3 (upd H3 a (.dK (putK (dV kvs vs) kk vx))):=bh.wrG e0 fun _ z=>by cases z
       refine .inr ⟨a,_,rfl,.inl ⟨_,kk,e0,nZ ri qk,by rw [zP hl,sizeLine_eq];exact hz,rfl⟩,?_⟩
       exact k μ3 _ _ (p1.trans (p2.trans p3)) (k1.trans (k2.trans (k3.trans kw))) (hr3.wrC q ha3 rfl rfl ⟨ws,by rw [ew];exact cq,RUs.mono kw (Pre.refl _) _ _ rw'⟩) (er.mono (k1.trans (k2.trans (k3.trans kw))) (p1.trans (p2.trans p3)))
      ·cases e
   ·cases e
 | _=>cases e
theorem FZ {m:ME} (h:tMS K (dy m) D σ H):Dk (tM K m) D σ H:=by
 obtain⟨μ,S,ρ,r,hr,er,e,k⟩:=h
 obtain⟨x,S1,e1,e⟩:=ba e
 cases e
 exact⟨μ,S,ρ,x,S1,hr,er,e1,fun μ1 vx H1 p1 k1 hr1 rx=>k μ1 σ H1 p1 k1 hr1 (er.mono k1 p1)⟩
theorem II {m:ME} (h:tMS K (cW m) D σ H):IX (tM K m) D σ H:=by
 obtain⟨μ,S,ρ,r,hr,er,e,k⟩:=h
 obtain⟨x,S1,e1,e⟩:=ba e
 cases e
 exact⟨μ,S,ρ,x,S1,hr,er,e1,k⟩
theorem Jr {c:MT}{a b:MS} (h:tMS K (sIf c a b) D σ H):Jh (tMT K c) (tMS K a) (tMS K b) D σ H:=by
 obtain⟨μ,S,ρ,r,hr,er,e,k⟩:=h
 obtain⟨x,S1,e1,e⟩:=ba e
 refine⟨μ,S,ρ,x,S1,hr,er,e1,fun μ1 H1 p1 k1 hr1 => ?_⟩
 cases x with
 | true=>exact mn ⟨μ1,S1,ρ,r,hr1,er.mono k1 p1,e,k.mono p1 k1⟩
 | false=>exact mH ⟨μ1,S1,ρ,r,hr1,er.mono k1 p1,e,k.mono p1 k1⟩
theorem kE {b:MS}{ρ:Rho}{S:Sto}{μ μ0:List Addr}{H0:Hp}{k:MS}{r:Fl×Rho×Sto}{N:St->Hp->Prop} (hr:HR K μ S H) (er:ER H μ ρ σ) (e:aft (b ρ S) k=some r) (p:Pre μ0 μ) (kp:bh H0 H) (fl:FlP K μ0 H0 D r)
  (hN : ∀ μ1 σ1 H1 ρ1 S1,Pre μ0 μ1->bh H0 H1->HR K μ1 S1 H1->ER H1 μ1 ρ1 σ1->k ρ1 S1=some r->N σ1 H1):tMS K b { D with nx:=N,ct:=N,bk:=D.nx } σ H:=by
 unfold aft at e
 split at e
 ·rename_i ρ1 S1 q
  exact⟨μ,S,ρ,_,hr,er,q,fun μ1 σ1 H1 p1 k1 hr1 er1=>hN μ1 σ1 H1 ρ1 S1 (p.trans p1) (kp.trans k1) hr1 er1 e⟩
 ·rename_i ρ1 S1 q
  exact⟨μ,S,ρ,_,hr,er,q,fun μ1 σ1 H1 p1 k1 hr1 er1=>hN μ1 σ1 H1 ρ1 S1 (p.trans p1) (kp.trans k1) hr1 er1 e⟩
 ·rename_i ρ1 S1 q
  cases e
  exact⟨μ,S,ρ,_,hr,er,q,fun μ1 σ1 H1 p1 k1 hr1 er1=>fl μ1 σ1 H1 (p.trans p1) (kp.trans k1) hr1 er1⟩
 ·rename_i q1 q2 q3
  refine⟨μ,S,ρ,r,hr,er,e,?_⟩
  obtain⟨f,ρ',S'⟩:=r
  cases f with
  | nx=>exact absurd e (q1 ρ' S')
  | ct=>exact absurd e (q2 ρ' S')
  | bk=>exact absurd e (q3 ρ' S')
  | rt u=>exact Aft.mono fl p kp
theorem drop_cons {α:Type}{l:List α}{i:Nat}{x:α} (h:l[i]? = some x):l.drop i=x::l.drop (i+1):=by
 obtain⟨hi,e⟩:=af.mp h
 rw [List.drop_eq_getElem_cons hi,e]
theorem Ft {i:Nat}{b:MS}{us:List U}{vs:List V}{ρ:Rho}{S:Sto}{μ:List Addr}{a:Addr}{r:Fl×Rho×Sto} (hr:HR K μ S H) (er:ER H μ ρ σ) (e:jE i b us ρ S=some r) (fl:FlP K μ H D r) (ha:H a=some (.tup vs)) (ru:RUs H μ us vs) :
  ∃ W:Nat->Nat->St->Hp->Prop,(∃ m,W 0 m σ H) /\ ∀ k m σ H,W k m σ H ->
   ((Itt K a).stop k H/\D.nx σ H)\/((Itt K a).go k H /\ ∃ N:St->Hp->Prop,(∀ σ' H',N σ' H' -> ∃ m',m' < m/\W (k+1) m' σ' H') /\ ∀ x H',(Itt K a).yld k H x H'->gS i x σ H' fun σ2 H2=>tMS K b { D with nx:=N,ct:=N,bk:=D.nx } σ2 H2):=by
 refine Cp (xs:=vs) (fun k σ1 H1 => ∃ μ1 S1 ρ1,Pre μ μ1/\bh H H1/\HR K μ1 S1 H1/\ER H1 μ1 ρ1 σ1/\jE i b (us.drop k) ρ1 S1=some r) ⟨μ,S,ρ,Pre.refl _,bh.refl _,hr,er,e⟩ ?_ ?_ ?_
 ·rintro k σ1 H1 _ ⟨μ1,S1,ρ1,p1,k1,_⟩
  exact .inl (.inl (k1 a vs ha))
 ·rintro k x σ1 H1 hx ⟨μ1,S1,ρ1,p1,k1,hr1,er1,e1⟩
  have hk:k < us.length:=by rw [ru.len];exact (af.mp hx).1
  have hu:us[k]? = some us[k]:=by simp [hk]
  obtain⟨v,hv,rv⟩:=ru.get hu
  rw [hx] at hv;cases hv
  rw [drop_cons hu] at e1
  have rv1:RU H1 μ1 us[k] x:=RU.mono k1 p1 _ _ rv
  exact kE hr1 (er1.set rv1 i) e1 p1 k1 fl fun μ2 σ2 H2 ρ2 S2 p2 k2 hr2 er2 e2=>⟨μ2,S2,ρ2,p2,k2,hr2,er2,e2⟩
 ·rintro σ1 H1 ⟨μ1,S1,ρ1,p1,k1,hr1,er1,e1⟩
  rw [<- ru.len,kO] at e1
  cases e1
  exact fl μ1 σ1 H1 p1 k1 hr1 er1
theorem zK {i:Nat}{b:MS}{lo:Int}{n:Nat}{ρ:Rho}{S:Sto}{μ:List Addr}{r:Fl×Rho×Sto} (hr:HR K μ S H) (er:ER H μ ρ σ) (e:jE i b (aU lo n) ρ S=some r) (fl:FlP K μ H D r) :
  ∃ W:Nat->Nat->St->Hp->Prop,(∃ m,W 0 m σ H) /\ ∀ k m σ H,W k m σ H ->
   ((Itr lo n).stop k H/\D.nx σ H)\/((Itr lo n).go k H /\ ∃ N:St->Hp->Prop,(∀ σ' H',N σ' H' -> ∃ m',m' < m/\W (k+1) m' σ' H') /\ ∀ x H',(Itr lo n).yld k H x H'->gS i x σ H' fun σ2 H2=>tMS K b { D with nx:=N,ct:=N,bk:=D.nx } σ2 H2):=by
 refine yz (fun k σ1 H1 => ∃ μ1 S1 ρ1,Pre μ μ1/\bh H H1/\HR K μ1 S1 H1/\ER H1 μ1 ρ1 σ1/\jE i b ((aU lo n).drop k) ρ1 S1=some r) ⟨μ,S,ρ,Pre.refl _,bh.refl _,hr,er,e⟩ ?_ ?_
 ·rintro k σ1 H1 hk ⟨μ1,S1,ρ1,p1,k1,hr1,er1,e1⟩
  have hu:(aU lo n)[k]? = some (.int (lo+k)):=by simp [aU,hk]
  rw [drop_cons hu] at e1
  exact kE hr1 (er1.set dD i) e1 p1 k1 fl fun μ2 σ2 H2 ρ2 S2 p2 k2 hr2 er2 e2=>⟨μ2,S2,ρ2,p2,k2,hr2,er2,e2⟩
 ·rintro σ1 H1 ⟨μ1,S1,ρ1,p1,k1,hr1,er1,e1⟩
  have hl:(aU lo n).length=n:=by simp [aU]
  rw [List.drop_eq_nil_of_le (by exact qw (by assumption))] at e1
  cases e1
  exact fl μ1 σ1 H1 p1 k1 hr1 er1
theorem EO {i:Nat}{b:MS}{n f:Nat}{ρ:Rho}{S:Sto}{μ:List Addr}{a:Addr}{r:Fl×Rho×Sto} (hr:HR K μ S H) (er:ER H μ ρ σ) (e:forL i b n f 0 ρ S=some r) (fl:FlP K μ H D r) (ha:μ[n]? = some a) :
  ∃ W:Nat->Nat->St->Hp->Prop,(∃ m,W 0 m σ H) /\ ∀ k m σ H,W k m σ H ->
   ((Itl K a).stop k H/\D.nx σ H)\/((Itl K a).go k H /\ ∃ N:St->Hp->Prop,(∀ σ' H',N σ' H' -> ∃ m',m' < m/\W (k+1) m' σ' H') /\ ∀ x H',(Itl K a).yld k H x H'->gS i x σ H' fun σ2 H2=>tMS K b { D with nx:=N,ct:=N,bk:=D.nx } σ2 H2):=by
 refine⟨fun k m σ1 H1 => ∃ μ1 S1 ρ1,Pre μ μ1/\bh H H1/\HR K μ1 S1 H1/\ER H1 μ1 ρ1 σ1/\forL i b n m k ρ1 S1=some r,⟨f,μ,S,ρ,Pre.refl _,bh.refl _,hr,er,e⟩,?_⟩
 rintro k m σ1 H1 ⟨μ1,S1,ρ1,p1,k1,hr1,er1,e1⟩
 cases m with
 | zero=>cases e1
 | succ m=>
   unfold forL at e1
   cases q:getL S1 n with
   | none=>rw [q] at e1;cases e1
   | some us=>
     rw [q] at e1
     simp only [ao] at e1
     obtain⟨a',vs,ha',hs,rs⟩:=hr1.sq q
     rw [p1.get ha] at ha';cases ha'
     cases z:us[k]? with
     | none=>
       rw [z] at e1
       cases e1
       refine .inl ⟨⟨vs,hs,?_⟩,fl μ1 σ1 H1 p1 k1 hr1 er1⟩
       rw [<- rs.len];exact wj.mp z
     | some u=>
       rw [z] at e1
       obtain⟨v,hv,rv⟩:=rs.get z
       refine .inr ⟨⟨vs,v,hs,hv⟩,fun σ2 H2 => ∃ μ2 S2 ρ2,Pre μ μ2/\bh H H2/\HR K μ2 S2 H2/\ER H2 μ2 ρ2 σ2/\forL i b n m (k+1) ρ2 S2=some r,fun σ' H' w=>⟨m,cR _,w⟩,fun x H' y => ?_⟩
       obtain⟨e',y⟩:=y
       subst e'
       have hx:=y vs hs
       rw [hv] at hx;cases hx
       exact kE hr1 (er1.set rv i) e1 p1 k1 fl fun μ2 σ2 H2 ρ2 S2 p2 k2 hr2 er2 e2=>⟨μ2,S2,ρ2,p2,k2,hr2,er2,e2⟩
theorem CA {c:MT}{b:MS} (h:tMS K (ki c b) D σ H):zA (tMT K c) (tMS K b) D σ H:=by
 obtain⟨μ,S,ρ,r,hr,er,e,fl⟩:=h
 refine⟨fun m σ1 H1 => ∃ μ1 S1 ρ1,Pre μ μ1/\bh H H1/\HR K μ1 S1 H1/\ER H1 μ1 ρ1 σ1/\whl c b m ρ1 S1=some r,⟨fuel,μ,S,ρ,Pre.refl _,bh.refl _,hr,er,e⟩,?_⟩
 rintro m σ1 H1 ⟨μ1,S1,ρ1,p1,k1,hr1,er1,e1⟩
 cases m with
 | zero=>cases e1
 | succ m=>
   unfold whl at e1
   obtain⟨x,S2,e2,e1⟩:=ba e1
   refine⟨μ1,S1,ρ1,x,S2,hr1,er1,e2,fun μ2 H2 p2 k2 hr2 => ?_⟩
   cases x with
   | true=>
     refine mn ⟨fun σ3 H3 => ∃ μ3 S3 ρ3,Pre μ μ3/\bh H H3/\HR K μ3 S3 H3/\ER H3 μ3 ρ3 σ3/\whl c b m ρ3 S3=some r,fun σ' H' w=>⟨m,cR _,w⟩,?_⟩
     exact kE hr2 (er1.mono k2 p2) e1 (p1.trans p2) (k1.trans k2) fl fun μ3 σ3 H3 ρ3 S3 p3 k3 hr3 er3 e3=>⟨μ3,S3,ρ3,p3,k3,hr3,er3,e3⟩
   | false=>
     have e':some (Fl.nx,ρ1,S2)=some r:=e1
     cases e'
     exact mH (fl μ2 σ1 H2 (p1.trans p2) (k1.trans k2) hr2 (er1.mono k2 p2))
end
end
end G
end
section
namespace G
open PySem PySem.Spec L2
open PyProof.Rows hiding St
section
variable {K:KX}{σ:St}{H:Hp}{Q:VK}{D:Ends}
theorem Dw {a:MA}{R:It->Hp->Prop}{μ:List Addr}{S S1:Sto}{ρ:Rho}{src:Src} (hr:HR K μ S H) (er:ER H μ ρ σ) (e:iR1 a ρ S=some (src,S1))
  (hR : ∀ μ1 H1 n,Pre μ μ1->bh H H1->HR K μ1 S1 H1->src = .imm (aU 0 n)->R (Itr 0 n) H1):uB (tMA K a) σ H R:=by
 obtain⟨xs,S2,e1,e⟩:=ba e
 split at e
 ·rename_i j
  split at e
  ·rename_i hj
   cases e
   refine⟨μ,S,ρ,_,_,hr,er,e1,fun μ1 vs H1 p1 k1 hr1 rs => ?_⟩
   obtain⟨v,r,rfl,rx,rn⟩:=rs.inv
   rw [rn.nil_inv,cy rx]
   exact⟨j,rfl,hj.1,hj.2,hR μ1 H1 _ p1 k1 hr1 rfl⟩
  ·cases e
 ·cases e
theorem Dy {a:MA}{R:It->Hp->Prop}{μ:List Addr}{S S1:Sto}{ρ:Rho}{src:Src} (hr:HR K μ S H) (er:ER H μ ρ σ) (e:iR2 a ρ S=some (src,S1))
  (hR : ∀ μ1 H1 lo n,Pre μ μ1->bh H H1->HR K μ1 S1 H1->src = .imm (aU lo n)->R (Itr lo n) H1):uN (tMA K a) σ H R:=by
 obtain⟨xs,S2,e1,e⟩:=ba e
 split at e
 ·rename_i i j
  split at e
  ·rename_i hj
   cases e
   refine⟨μ,S,ρ,_,_,hr,er,e1,fun μ1 vs H1 p1 k1 hr1 rs => ?_⟩
   obtain⟨v,r,rfl,rx,rs⟩:=rs.inv
   obtain⟨w,r,rfl,ry,rn⟩:=rs.inv
   rw [rn.nil_inv,cy rx,cy ry]
   exact⟨i,j,rfl,⟨hj.1.1,hj.1.2,hj.2.1,hj.2.2⟩,hR μ1 H1 _ _ p1 k1 hr1 rfl⟩
  ·cases e
 ·cases e
theorem Av {a:ME}{R:It->Hp->Prop}{μ:List Addr}{S S1:Sto}{ρ:Rho}{src:Src} (hr:HR K μ S H) (er:ER H μ ρ σ) (e:iB a ρ S=some (src,S1))
  (hT : ∀ μ1 H1 us p vs,Pre μ μ1->bh H H1->HR K μ1 S1 H1->src = .imm us->H1 p=some (.tup vs)->RUs H1 μ1 us vs->R (Itt K p) H1)
  (hL : ∀ μ1 H1 n p,Pre μ μ1->bh H H1->HR K μ1 S1 H1->src = .mut n->μ1[n]? = some p->R (Itl K p) H1):tU K (tM K a) σ H R\/zx K (tM K a) σ H R:=by
 obtain⟨x,S2,e1,e⟩:=ba e
 split at e
 ·cases e
  refine .inr ⟨μ,S,ρ,_,_,hr,er,e1,fun μ1 vx H1 p1 k1 hr1 rx => ?_⟩
  obtain⟨p,vs,rfl,hp,r⟩:=ic rx
  exact⟨p,rfl,⟨vs,.inl (.inl hp)⟩,hT μ1 H1 _ p vs p1 k1 hr1 rfl hp r⟩
 ·rename_i n
  cases q:getL S2 n with
  | none=>rw [q] at e;cases e
  | some ws=>
    rw [q] at e;cases e
    refine .inl ⟨μ,S,ρ,_,_,hr,er,e1,fun μ1 vx H1 p1 k1 hr1 rx => ?_⟩
    obtain⟨p,rfl,hp⟩:=gO rx
    obtain⟨p',ys,hp',hs,r'⟩:=hr1.sq q
    rw [hp] at hp';cases hp'
    exact⟨p,rfl,⟨ys,hs⟩,hL μ1 H1 n p p1 k1 hr1 rfl hp⟩
 ·cases e
theorem GS {i:Nat}{a:MA}{b:MS} (h:tMS K (d5 i (iR1 a) b) D σ H):rZ (uB (tMA K a)) (gS i) (tMS K b) D σ H:=by
 obtain⟨μ,S,ρ,r,hr,er,e,fl⟩:=h
 obtain⟨src,S1,e1,e⟩:=ba e
 refine Dw hr er e1 fun μ1 H1 n p1 k1 hr1 hs => ?_
 subst hs
 exact zK hr1 (er.mono k1 p1) e (fl.mono p1 k1)
theorem Hy {i:Nat}{a:MA}{b:MS} (h:tMS K (d5 i (iR2 a) b) D σ H):rZ (uN (tMA K a)) (gS i) (tMS K b) D σ H:=by
 obtain⟨μ,S,ρ,r,hr,er,e,fl⟩:=h
 obtain⟨src,S1,e1,e⟩:=ba e
 refine Dy hr er e1 fun μ1 H1 lo n p1 k1 hr1 hs => ?_
 subst hs
 exact zK hr1 (er.mono k1 p1) e (fl.mono p1 k1)
theorem JL {i:Nat}{a:ME}{b:MS} (h:tMS K (d5 i (iB a) b) D σ H):rZ (fun σ H R=>tU K (tM K a) σ H R\/zx K (tM K a) σ H R) (gS i) (tMS K b) D σ H:=by
 obtain⟨μ,S,ρ,r,hr,er,e,fl⟩:=h
 obtain⟨src,S1,e1,e⟩:=ba e
 refine Av hr er e1 (fun μ1 H1 us p vs p1 k1 hr1 hs hp rs => ?_) fun μ1 H1 n p p1 k1 hr1 hs hp => ?_
 ·subst hs
  exact Ft hr1 (er.mono k1 p1) e (fl.mono p1 k1) hp rs
 ·subst hs
  exact EO hr1 (er.mono k1 p1) e (fl.mono p1 k1) hp
theorem m7 {t:MT}{e:ME}{ρ:Rho} : ∀ {us acc ys:List U}{S S':Sto},d7 t e ρ us acc S=some (ys,S')->acc.length<=ys.length
 | [],acc,ys,S,S',h=>by cases h;exact ak _
 | x::us,acc,ys,S,S',h=>by
   obtain⟨k,S1,e1,h⟩:=ba h
   cases k with
   | true=>
     obtain⟨y,S2,e2,h⟩:=ba (show bnd (e (ρ ++ [some x]) S1) (fun y S2=>d7 t e ρ us (acc ++ [y]) S2)=some (ys,S') from h)
     have:=m7 h
     simp at this;exact aW (by assumption)
   | false=>exact m7 (show d7 t e ρ us acc S1=some (ys,S') from h)
theorem nj {t:MT}{e:ME}{ρ:Rho}{n:Nat} : ∀ {f i:Nat}{acc ys:List U}{S S':Sto},jQ t e ρ n f i acc S=some (ys,S')->acc.length<=ys.length
 | 0,i,acc,ys,S,S',h=>by cases h
 | f+1,i,acc,ys,S,S',h=>by
   unfold jQ at h
   cases q:getL S n with
   | none=>rw [q] at h;cases h
   | some us=>
     rw [q] at h
     simp only [ao] at h
     cases z:us[i]? with
     | none=>rw [z] at h;cases h;exact ak _
     | some x=>
       rw [z] at h
       obtain⟨k,S1,e1,h⟩:=ba h
       cases k with
       | true=>
         obtain⟨y,S2,e2,h⟩:=ba (show bnd (e (ρ ++ [some x]) S1) (fun y S2=>jQ t e ρ n f (i+1) (acc ++ [y]) S2)=some (ys,S') from h)
         have:=nj h
         simp at this;exact aW (by assumption)
       | false=>exact nj (show jQ t e ρ n f (i+1) acc S1=some (ys,S') from h)
noncomputable def uE (J:It) (σ:St) (tt:TT) (te:TE) (H1:Hp) (Q:VK):Prop := ∃ W:Nat->Nat->List V->Hp->Prop,(∃ m,W 0 m [] H1) /\ ∀ i m ys H,W i m ys H->ys.length < sizeLine /\
 ((J.stop i H /\ ∀ D,H D=none->Q (.ref D) (upd H D (.lst ys))) \/
  (J.go i H /\ ∀ x H',J.yld i H x H'->tt (σ ++ [some x]) H' fun b H3=>if b=true then te (σ ++ [some x]) H3 fun y H4 => ∃ m',m' < m/\W (i+1) m' (ys ++ [y]) H4 else ∃ m',m' < m/\W (i+1) m' ys H3))
theorem pC {J:It}{t:MT}{e:ME}{ρ:Rho}{us ys:List U}{μ:List Addr}{S S':Sto} (hr:HR K μ S H) (er:ER H μ ρ σ) (h:d7 t e ρ us [] S=some (ys,S')) (hz:ys.length < big) (k:Aft K μ H (.ref S'.length) (S' ++ [.lst ys]) Q)
  (hstop : ∀ H',bh H H'->J.stop us.length H') (hgo : ∀ (i:Nat) H',i < us.length->bh H H'->J.go i H')
  (hy : ∀ (i:Nat) H' x H'' (u:U),us[i]? = some u->bh H H'->J.yld i H' x H''->H''=H'/\RU H μ u x):uE J σ (tMT K t) (tM K e) H Q:=by
 have hz':ys.length < sizeLine:=by unfold big at hz;rw [sizeLine_eq];exact hz
 refine⟨fun i m acc H1=>m=us.length - i/\i<=us.length /\ ∃ μ1 S1 au,Pre μ μ1/\bh H H1/\HR K μ1 S1 H1/\RUs H1 μ1 au acc/\d7 t e ρ (us.drop i) au S1=some (ys,S'),⟨_,rfl,eA _,μ,S,[],Pre.refl _,bh.refl _,hr,.nil,h⟩,?_⟩
 rintro i m acc H1 ⟨rfl,hi,μ1,S1,au,p1,k1,hr1,ra,e1⟩
 have hl:=m7 e1
 have hl2:=ra.len
 refine⟨by omega,?_⟩
 by_cases hlt:i < us.length
 ·have hu:us[i]? = some us[i]:=by simp [hlt]
  rw [drop_cons hu] at e1
  obtain⟨b,S2,e2,e1⟩:=ba e1
  refine .inr ⟨hgo i H1 hlt k1,fun x H' y => ?_⟩
  obtain⟨rfl,rx⟩:=hy i H1 x H' us[i] hu k1 y
  have er1:ER H' μ1 (ρ ++ [some us[i]]) (σ ++ [some x]):=(er.mono k1 p1).push (RU.mono k1 p1 _ _ rx)
  refine⟨μ1,S1,_,b,S2,hr1,er1,e2,fun μ2 H2 p2 k2 hr2 => ?_⟩
  have ra2:=RUs.mono k2 p2 _ _ ra
  cases b with
  | true=>
    obtain⟨y',S3,e3,e1⟩:=ba (show bnd (e (ρ ++ [some us[i]]) S2) (fun y S2=>d7 t e ρ (us.drop (i+1)) (au ++ [y]) S2)=some (ys,S') from e1)
    refine mn ⟨μ2,S2,_,y',S3,hr2,er1.mono k2 p2,e3,fun μ3 v3 H3 p3 k3 hr3 rv3 => ?_⟩
    exact⟨us.length - (i+1),by omega,rfl,hlt,μ3,S3,au ++ [y'],p1.trans (p2.trans p3),k1.trans (k2.trans k3),hr3,(RUs.mono k3 p3 _ _ ra2).append (.cons rv3 .nil),e1⟩
  | false=>
    exact mH ⟨us.length - (i+1),by omega,rfl,hlt,μ2,S2,au,p1.trans p2,k1.trans k2,hr2,ra2,e1⟩
 ·have e:i=us.length:=by omega
  subst e
  rw [kO] at e1
  cases e1
  exact .inl ⟨hstop H1 k1,fun D hD=>mv (k.mono p1 k1) hr1 ra hD⟩
theorem zH {t:MT}{e:ME}{ρ:Rho}{n f:Nat}{ys:List U}{μ:List Addr}{S S':Sto}{p:Addr} (hr:HR K μ S H) (er:ER H μ ρ σ) (h:jQ t e ρ n f 0 [] S=some (ys,S')) (hz:ys.length < big) (k:Aft K μ H (.ref S'.length) (S' ++ [.lst ys]) Q)
  (hp:μ[n]? = some p):uE (Itl K p) σ (tMT K t) (tM K e) H Q:=by
 have hz':ys.length < sizeLine:=by unfold big at hz;rw [sizeLine_eq];exact hz
 refine⟨fun i m acc H1 => ∃ μ1 S1 au,Pre μ μ1/\bh H H1/\HR K μ1 S1 H1/\RUs H1 μ1 au acc/\jQ t e ρ n m i au S1=some (ys,S'),⟨f,μ,S,[],Pre.refl _,bh.refl _,hr,.nil,h⟩,?_⟩
 rintro i m acc H1 ⟨μ1,S1,au,p1,k1,hr1,ra,e1⟩
 have hl:=nj e1
 have hl2:=ra.len
 refine⟨by omega,?_⟩
 cases m with
 | zero=>cases e1
 | succ m=>
   unfold jQ at e1
   cases q:getL S1 n with
   | none=>rw [q] at e1;cases e1
   | some us=>
     rw [q] at e1
     simp only [ao] at e1
     obtain⟨a',vs,ha',hs,rs⟩:=hr1.sq q
     rw [p1.get hp] at ha';cases ha'
     cases z:us[i]? with
     | none=>
       rw [z] at e1
       cases e1
       exact .inl ⟨⟨vs,hs,by rw [<- rs.len];exact wj.mp z⟩,fun D hD=>mv (k.mono p1 k1) hr1 ra hD⟩
     | some u=>
       rw [z] at e1
       obtain⟨v,hv,rv⟩:=rs.get z
       obtain⟨b,S2,e2,e1⟩:=ba e1
       refine .inr ⟨⟨vs,v,hs,hv⟩,fun x H' y => ?_⟩
       obtain⟨e',y⟩:=y
       subst e'
       have hx:=y vs hs
       rw [hv] at hx;cases hx
       have er1:ER _ μ1 (ρ ++ [some u]) (σ ++ [some v]):=(er.mono k1 p1).push rv
       refine⟨μ1,S1,_,b,S2,hr1,er1,e2,fun μ2 H2 p2 k2 hr2 => ?_⟩
       have ra2:=RUs.mono k2 p2 _ _ ra
       cases b with
       | true=>
         obtain⟨y',S3,e3,e1⟩:=ba (show bnd (e (ρ ++ [some u]) S2) (fun y S2=>jQ t e ρ n m (i+1) (au ++ [y]) S2)=some (ys,S') from e1)
         refine mn ⟨μ2,S2,_,y',S3,hr2,er1.mono k2 p2,e3,fun μ3 v3 H3 p3 k3 hr3 rv3 => ?_⟩
         exact⟨m,cR _,μ3,S3,au ++ [y'],p1.trans (p2.trans p3),k1.trans (k2.trans k3),hr3,(RUs.mono k3 p3 _ _ ra2).append (.cons rv3 .nil),e1⟩
       | false=>
         exact mH ⟨m,cR _,μ2,S2,au,p1.trans p2,k1.trans k2,hr2,ra2,e1⟩
theorem uD {lo:Int}{n:Nat}{t:MT}{e:ME}{ρ:Rho}{ys:List U}{μ:List Addr}{S S':Sto} (hr:HR K μ S H) (er:ER H μ ρ σ) (h:d7 t e ρ (aU lo n) [] S=some (ys,S')) (hz:ys.length < big) (k:Aft K μ H (.ref S'.length) (S' ++ [.lst ys]) Q) :
  uE (Itr lo n) σ (tMT K t) (tM K e) H Q:=by
 have hl:(aU lo n).length=n:=by simp [aU]
 refine pC hr er h hz k (fun H' _=>by rw [hl];exact ak _) (fun i H' hi _=>by rw [hl] at hi;exact hi) fun i H' x H'' u hu _ y => ?_
 obtain⟨rfl,rfl⟩:=y
 have hi:i < n:=by rw [<- hl];exact (af.mp hu).1
 have e2:(aU lo n)[i]? = some (.int (lo+i)):=by simp [aU,hi]
 rw [e2] at hu;cases hu
 exact⟨rfl,dD⟩
theorem AF {us:List U}{vs:List V}{p:Addr}{t:MT}{e:ME}{ρ:Rho}{ys:List U}{μ:List Addr}{S S':Sto} (hr:HR K μ S H) (er:ER H μ ρ σ) (h:d7 t e ρ us [] S=some (ys,S')) (hz:ys.length < big) (k:Aft K μ H (.ref S'.length) (S' ++ [.lst ys]) Q)
  (hp:H p=some (.tup vs)) (rs:RUs H μ us vs):uE (Itt K p) σ (tMT K t) (tM K e) H Q:=by
 refine pC hr er h hz k (fun H' kp=>⟨vs,.inl (.inl (kp p vs hp)),by rw [rs.len];exact ak _⟩) (fun i H' hi kp => ?_) fun i H' x H'' u hu kp y => ?_
 ·have hi':i < vs.length:=by rw [<- rs.len];exact hi
  exact⟨vs,vs[i],.inl (.inl (kp p vs hp)),by simp [hi']⟩
 ·obtain⟨rfl,y⟩:=y
  obtain⟨v,hv,rv⟩:=rs.get hu
  have:=y vs (.inl (.inl (kp p vs hp)))
  rw [hv] at this;cases this
  exact⟨rfl,rv⟩
theorem GA {a:MA}{t:MT}{e:ME} (h:tM K (cw (iR1 a) t e) σ H Q):mM (uB (tMA K a)) (tMT K t) (tM K e) σ H Q:=by
 obtain⟨μ,S,ρ,u,S',hr,er,e0,k⟩:=h
 obtain⟨src,S1,e1,e0⟩:=ba e0
 obtain⟨ys,S2,e2,e0⟩:=ba e0
 split at e0
 ·rename_i hz
  cases e0
  refine Dw hr er e1 fun μ1 H1 n p1 k1 hr1 hs => ?_
  subst hs
  exact uD hr1 (er.mono k1 p1) e2 hz (k.mono p1 k1)
 ·cases e0
theorem G2 {a:MA}{t:MT}{e:ME} (h:tM K (cw (iR2 a) t e) σ H Q):mM (uN (tMA K a)) (tMT K t) (tM K e) σ H Q:=by
 obtain⟨μ,S,ρ,u,S',hr,er,e0,k⟩:=h
 obtain⟨src,S1,e1,e0⟩:=ba e0
 obtain⟨ys,S2,e2,e0⟩:=ba e0
 split at e0
 ·rename_i hz
  cases e0
  refine Dy hr er e1 fun μ1 H1 lo n p1 k1 hr1 hs => ?_
  subst hs
  exact uD hr1 (er.mono k1 p1) e2 hz (k.mono p1 k1)
 ·cases e0
theorem Jv {a:ME}{t:MT}{e:ME} (h:tM K (cw (iB a) t e) σ H Q):mM (fun σ H R=>tU K (tM K a) σ H R\/zx K (tM K a) σ H R) (tMT K t) (tM K e) σ H Q:=by
 obtain⟨μ,S,ρ,u,S',hr,er,e0,k⟩:=h
 obtain⟨src,S1,e1,e0⟩:=ba e0
 obtain⟨ys,S2,e2,e0⟩:=ba e0
 split at e0
 ·rename_i hz
  cases e0
  refine Av hr er e1 (fun μ1 H1 us p vs p1 k1 hr1 hs hp rs => ?_) fun μ1 H1 n p p1 k1 hr1 hs hp => ?_
  ·subst hs
   exact AF hr1 (er.mono k1 p1) e2 hz (k.mono p1 k1) hp rs
  ·subst hs
   exact zH hr1 (er.mono k1 p1) e2 hz (k.mono p1 k1) hp
 ·cases e0
end
end G
end
section
namespace G
open PySem PySem.Spec L2
open PyProof.Rows hiding St
section
variable {K:KX}{σ:St}{H:Hp}{Q:VK}{D:Ends}
theorem RUs.revs {H:Hp}{μ:List Addr} : ∀ {us:List U}{vs:List V},RUs H μ us vs->RUs H μ us.reverse vs.reverse
 | [],vs,r=>by rw [r.nil_inv];exact .nil
 | u::us,vs,r=>by
   obtain⟨v,vs,rfl,a,b⟩:=r.inv
   rw [pK,pK]
   exact (RUs.revs b).append (.cons a .nil)
theorem zy {a:MA}{R:It->Hp->Prop}{μ:List Addr}{S S1:Sto}{ρ:Rho}{src:Src} (hr:HR K μ S H) (er:ER H μ ρ σ) (e:uJ a ρ S=some (src,S1))
  (hR : ∀ μ1 H1 us p vs,Pre μ μ1->bh H H1->HR K μ1 S1 H1->src = .imm us.reverse->H1 p=some (.tup vs)->RUs H1 μ1 us vs->R (Itv K p vs.length) H1):sX K (tMA K a) σ H R:=by
 obtain⟨xs,S2,e1,e⟩:=ba e
 split at e
 ·rename_i us
  cases e
  refine⟨μ,S,ρ,_,_,hr,er,e1,fun μ1 vs H1 p1 k1 hr1 rs => ?_⟩
  obtain⟨v,r,rfl,rx,rn⟩:=rs.inv
  rw [rn.nil_inv]
  obtain⟨p,vs,rfl,hp,r⟩:=ic rx
  exact⟨p,vs,rfl,.inl (.inl hp),hR μ1 H1 _ p vs p1 k1 hr1 rfl hp r⟩
 ·cases e
theorem An {us:List U}{vs:List V}{p:Addr}{t:MT}{e:ME}{ρ:Rho}{ys:List U}{μ:List Addr}{S S':Sto} (hr:HR K μ S H) (er:ER H μ ρ σ) (h:d7 t e ρ us.reverse [] S=some (ys,S')) (hz:ys.length < big) (k:Aft K μ H (.ref S'.length) (S' ++ [.lst ys]) Q)
  (hp:H p=some (.tup vs)) (rs:RUs H μ us vs):uE (Itv K p vs.length) σ (tMT K t) (tM K e) H Q:=by
 have rr:=rs.revs
 have hl:=rr.len
 refine pC hr er h hz k (fun H' kp=>⟨vs,.inl (.inl (kp p vs hp)),rfl,by rw [hl,nE];exact ak _⟩) (fun i H' hi kp => ?_) fun i H' x H'' u hu kp y => ?_
 ·have hi':i < vs.reverse.length:=by rw [<- hl];exact hi
  exact⟨vs,vs.reverse[i],.inl (.inl (kp p vs hp)),rfl,bO hi'⟩
 ·obtain⟨rfl,y⟩:=y
  obtain⟨v,hv,rv⟩:=rr.get hu
  have:=y vs (.inl (.inl (kp p vs hp)))
  rw [hv] at this;cases this
  exact⟨rfl,rv⟩
theorem FS {a:MA}{t:MT}{e:ME} (h:tM K (cw (uJ a) t e) σ H Q):mM (sX K (tMA K a)) (tMT K t) (tM K e) σ H Q:=by
 obtain⟨μ,S,ρ,u,S',hr,er,e0,k⟩:=h
 obtain⟨src,S1,e1,e0⟩:=ba e0
 obtain⟨ys,S2,e2,e0⟩:=ba e0
 split at e0
 ·rename_i hz
  cases e0
  refine zy hr er e1 fun μ1 H1 us p vs p1 k1 hr1 hs hp rs => ?_
  subst hs
  exact An hr1 (er.mono k1 p1) e2 hz (k.mono p1 k1) hp rs
 ·cases e0
theorem zL {i:Nat}{b:MS}{us:List U}{vs:List V}{ρ:Rho}{S:Sto}{μ:List Addr}{a:Addr}{r:Fl×Rho×Sto} (hr:HR K μ S H) (er:ER H μ ρ σ) (e:jE i b us.reverse ρ S=some r) (fl:FlP K μ H D r) (ha:H a=some (.tup vs)) (ru:RUs H μ us vs) :
  ∃ W:Nat->Nat->St->Hp->Prop,(∃ m,W 0 m σ H) /\ ∀ k m σ H,W k m σ H ->
   ((Itv K a vs.length).stop k H/\D.nx σ H)\/((Itv K a vs.length).go k H /\ ∃ N:St->Hp->Prop,(∀ σ' H',N σ' H' -> ∃ m',m' < m/\W (k+1) m' σ' H') /\ ∀ x H',(Itv K a vs.length).yld k H x H'->gS i x σ H' fun σ2 H2=>tMS K b { D with nx:=N,ct:=N,bk:=D.nx } σ2 H2):=by
 have rr:=ru.revs
 refine⟨fun k m σ1 H1=>m+k=us.reverse.length /\ ∃ μ1 S1 ρ1,Pre μ μ1/\bh H H1/\HR K μ1 S1 H1/\ER H1 μ1 ρ1 σ1/\jE i b (us.reverse.drop k) ρ1 S1=some r,⟨us.reverse.length,rfl,μ,S,ρ,Pre.refl _,bh.refl _,hr,er,e⟩,?_⟩
 rintro k m σ1 H1 ⟨hm,μ1,S1,ρ1,p1,k1,hr1,er1,e1⟩
 have hq:SqT K H1 a vs := .inl (.inl (k1 a vs ha))
 cases m with
 | zero=>
   have hk:k=us.reverse.length:=by omega
   subst hk
   rw [kO] at e1
   cases e1
   exact .inl ⟨⟨vs,hq,rfl,by rw [rr.len,nE];exact ak _⟩,fl μ1 σ1 H1 p1 k1 hr1 er1⟩
 | succ m=>
   have hk:k < us.reverse.length:=by omega
   have hu:us.reverse[k]? = some us.reverse[k]:=bO hk
   obtain⟨v,hv,rv⟩:=rr.get hu
   rw [drop_cons hu] at e1
   refine .inr ⟨⟨vs,v,hq,rfl,hv⟩,fun σ2 H2 => ∃ μ2 S2 ρ2,Pre μ μ2/\bh H H2/\HR K μ2 S2 H2/\ER H2 μ2 ρ2 σ2/\jE i b (us.reverse.drop (k+1)) ρ2 S2=some r,fun σ' H' w=>⟨m,cR _,by omega,w⟩,fun x H' y => ?_⟩
   obtain⟨e',y⟩:=y
   subst e'
   have hx:=y vs hq
   rw [hv] at hx;cases hx
   exact kE hr1 (er1.set (RU.mono k1 p1 _ _ rv) i) e1 p1 k1 fl fun μ2 σ2 H2 ρ2 S2 p2 k2 hr2 er2 e2=>⟨μ2,S2,ρ2,p2,k2,hr2,er2,e2⟩
theorem FM {i:Nat}{a:MA}{b:MS} (h:tMS K (d5 i (uJ a) b) D σ H):rZ (sX K (tMA K a)) (gS i) (tMS K b) D σ H:=by
 obtain⟨μ,S,ρ,r,hr,er,e,fl⟩:=h
 obtain⟨src,S1,e1,e⟩:=ba e
 refine zy hr er e1 fun μ1 H1 us p vs p1 k1 hr1 hs hp rs => ?_
 subst hs
 exact zL hr1 (er.mono k1 p1) e (fl.mono p1 k1) hp rs
end
end G
end
section
namespace G
open PySem PySem.Spec L2
open PyProof.Rows hiding St
theorem PE.con {X:Cx}{e:Expr}{t t':TE} (h:PE X e t) (hm : ∀ σ H Q,t' σ H Q->t σ H Q):PE X e t':=fun pins s σ H Q I q=>h pins s σ H Q I (hm σ H Q q)
theorem PT.con {X:Cx}{e:Expr}{t t':TT} (h:PT X e t) (hm : ∀ σ H Q,t' σ H Q->t σ H Q):PT X e t':=fun pins s σ H Q I q=>h pins s σ H Q I (hm σ H Q q)
theorem PW.con {X:Cx}{e:Expr}{t t':TT} (h:PW X e t) (hm : ∀ σ H Q,t' σ H Q->t σ H Q):PW X e t':=fun wh pins s σ H Q I q=>h wh pins s σ H Q I (hm σ H Q q)
theorem PA.con {X:Cx}{e:List Expr}{t t':TA} (h:PA X e t) (hm : ∀ σ H Q,t' σ H Q->t σ H Q):PA X e t':=fun pos pins s σ H Q I q=>h pos pins s σ H Q I (hm σ H Q q)
theorem PS.con {X:Cx}{e:Stmt}{t t':TS} (h:PS X e t) (hm : ∀ D σ H,t' D σ H->t D σ H):PS X e t':=fun pins s σ H D I q=>h pins s σ H D I (hm D σ H q)
theorem PSs.con {X:Cx}{e:List Stmt}{t t':TS} (h:PSs X e t) (hm : ∀ D σ H,t' D σ H->t D σ H):PSs X e t':=fun pins s σ H D I q=>h pins s σ H D I (hm D σ H q)
theorem PTs.con {X:Cx}{e:List Expr}{t t':TT} (h:PTs X e t) (hm : ∀ σ H Q,t' σ H Q->t σ H Q):PTs X e t':=fun pins s σ H Q I q=>h pins s σ H Q I (hm σ H Q q)
theorem PI.or {X:Cx}{tg it:Expr}{w1 w2:TI} (h1:PI X tg it w1) (h2:PI X tg it w2):PI X tg it (fun σ H R=>w1 σ H R\/w2 σ H R):=fun pins s σ H R I q=>by
 rcases q with q | q
 ·exact h1 pins s σ H R I q
 ·exact h2 pins s σ H R I q
structure Mo where
 P:Program
 w:World
 K:KX
 mg:Str->Option Value
 base:Heap
 mkr:Option (Addr×Str)
noncomputable def mY (ns:List (Str×NameKind)) (x:Str):Bool:=match ns.lookup x with
 | some .local=>true
 | some .cell=>true
 | some .free=>true
 | _=>false
noncomputable def ji (ns:List (Str×NameKind)) (x:Str):Bool:=match ns.lookup x with
 | some .local=>true
 | some .cell=>true
 | _=>false
noncomputable def dm (ns:List (Str×NameKind)) (x:Str):Bool:=match ns.lookup x with
 | some .globalImplicit=>true
 | _=>false
structure Sc (M:Mo) (X:Cx) (k:Nat) (N:List Str) (ns:List (Str×NameKind)):Prop where
 hP:X.prog=M.P
 hw:X.w=M.w
 hK:X.K=M.K
 hm:X.mg=M.mg
 hb:X.base=M.base
 hN:X.N=N
 nd:N.Nodup
 calm:X.calm=true
 loc : ∀ y,ns.lookup y=some .local->X.env.scope.names.lookup y=some .local
 cel : ∀ y,ns.lookup y=some .cell->X.env.scope.names.lookup y=some .cell/\X.fn y=true
 fre : ∀ y,ns.lookup y=some .free->X.env.scope.names.lookup y=some .cell\/X.env.scope.names.lookup y=some .free
 glo : ∀ y,ns.lookup y=some .globalImplicit->X.env.scope.names.lookup y=some .globalImplicit
 room:i6 k X.A
 own:PassesOwn (model X.prog X.w) X.A X.env X.xe
 cod : ∀ c q,M.mkr=some (c,q)->X.env.code = .ref c/\X.env.qual=q
section
variable {M:Mo}{X:Cx}{k:Nat}{N:List Str}{ns:List (Str×NameKind)}
theorem Sc.vis (S:Sc M X k N ns) {x:Str} (h:mY ns x=true):Vis X.env.scope x:=by
 unfold mY at h
 split at h
 ·rename_i e;exact .inl (S.loc x e)
 ·rename_i e;exact .inr (.inl (S.cel x e).1)
 ·rename_i e;exact .inr (S.fre x e)
 ·cases h
theorem Sc.lo (S:Sc M X k N ns) {x:Str} (h:ji ns x=true):Loc X.env.scope x/\(X.fn x=true\/X.env.scope.names.lookup x=some .local):=by
 unfold ji at h
 split at h
 ·rename_i e;exact⟨.inl (S.loc x e),.inr (S.loc x e)⟩
 ·rename_i e;exact⟨.inr (S.cel x e).1,.inl (S.cel x e).2⟩
 ·cases h
theorem Sc.gl (S:Sc M X k N ns) {x:Str} (h:dm ns x=true):Gl X x:=by
 unfold dm at h
 split at h
 ·rename_i e;exact S.glo x e
 ·cases h
variable {a b c e:Expr}{es:List Expr}{ma mb mc:ME}{mt:MT}{mas:MA}{pos p1 p2:Pos}{x:Str}
theorem Dn (S:Sc M X k N ns) (i:Nat) (hi:N[i]? = some x) (hv:mY ns x=true) (hd:(x == ("__debug__":Str))=false) (hcd:(x == ("__classdict__":Str))=false):PE X (.Name x pos) (tM M.K (ae i)):=
 PE.con (rX (by rw [S.hN];exact hi) (S.vis hv) hd hcd) fun _ _ _ h=>Jf h
theorem Iy {i:Int}{j}:PE X (.Constant (.int i) j pos) (tM M.K (mC (.int i))):=PE.con Gu fun _ _ _ h=>r_c (fun _ _=>dD) h
theorem JJ {i:Bool}{j}:PE X (.Constant (.bool i) j pos) (tM M.K (mC (.bl i))):=PE.con Jo fun _ _ _ h=>r_c (fun _ _=>jb) h
theorem zG {j}:PE X (.Constant .none j pos) (tM M.K (mC .non)):=PE.con EM fun _ _ _ h=>r_c (fun _ _=>oU) h
theorem EC {u:U}{v:V}{g:Value} (S:Sc M X k N ns) (hg:dm ns x=true) (hm:M.mg x=some g) (r:RelV v g) (hv : ∀ H μ,RU H μ u v) (hd:(x == ("__debug__":Str))=false):PE X (.Name x pos) (tM M.K (mC u)):=
 PE.con (B2 (S.gl hg) (by rw [S.hm];exact hm) r hd) fun _ _ _ h=>r_c hv h
theorem CT (S:Sc M X k N ns) (ha:PE X a (tM M.K ma)) (hb:PE X b (tM M.K mb)):PE X (.BinOp a .Add b pos) (tM M.K (m2 bV ma mb)):=
 PE.con (qH (FW.or (OpR.or (S.hK▸Bz) (OpR.or (S.hK▸Bs) DW))) ha hb) fun _ _ _ h=>rB FP h
theorem Hg (ha:PE X a (tM M.K ma)) (hb:PE X b (tM M.K mb)):PE X (.BinOp a .Sub b pos) (tM M.K (m2 kT ma mb)):=PE.con (qH E1 ha hb) fun _ _ _ h=>rB EW h
theorem GZ (S:Sc M X k N ns) (ha:PE X a (tM M.K ma)) (hb:PE X b (tM M.K mb)):PE X (.BinOp a .Mult b pos) (tM M.K (m2 dX ma mb)):=PE.con (qH (E9.or (S.hK▸BN)) ha hb) fun _ _ _ h=>rB EG h
theorem HD (ha:PE X a (tM M.K ma)) (hb:PE X b (tM M.K mb)):PE X (.BinOp a .FloorDiv b pos) (tM M.K (m2 oDiv ma mb)):=PE.con (qH By ha hb) fun _ _ _ h=>rB FG h
theorem GL (ha:PE X a (tM M.K ma)) (hb:PE X b (tM M.K mb)):PE X (.BinOp a .Mod b pos) (tM M.K (m2 oMod ma mb)):=PE.con (qH Gi ha hb) fun _ _ _ h=>rB Fz h
theorem HK (ha:PE X a (tM M.K ma)) (hb:PE X b (tM M.K mb)):PE X (.BinOp a .Pow b pos) (tM M.K (m2 rA ma mb)):=PE.con (qH EH ha hb) fun _ _ _ h=>rB Eo h
theorem ID (ha:PE X a (tM M.K ma)):PE X (.UnaryOp .USub a pos) (tM M.K (m1 lC ma)):=PE.con (G9 ED ha) fun _ _ _ h=>JN DU h
theorem Jq (S:Sc M X k N ns) (ha:PE X a (tM M.K ma)) (hb:PE X b (tM M.K mb)) (hs:rh b):PE X (.Subscript a b pos) (tM M.K (m2 oIx ma mb)):=
 PE.con (DC (IxR.or (S.hK▸Ef) (FL (by have:=S.room.units;omega))) ha hb hs) fun _ _ _ h=>rB Hb h
theorem IS (hc:PT X c (tMT M.K mt)) (ha:PE X a (tM M.K ma)) (hb:PE X b (tM M.K mb)):PE X (.IfExp c a b pos) (tM M.K (Cf mt ma mb)):=PE.con (Ak hc ha hb) fun _ _ _ h=>Hd h
theorem wD:PA X [] (tMA M.K ag):=PA.con vR fun _ _ _ h=>Jm h
theorem j6 (ha:PE X a (tM M.K ma)) (hr:PA X es (tMA M.K mas)) (hs:starEach (a::es) X.env=(false,eval a X.env)::starEach es X.env:=by rfl):PA X (a::es) (tMA M.K (aa ma mas)):=
 PA.con (mL ha hr hs) fun _ _ _ h=>Ea h
theorem GD {x1} (h:PA X es (tMA M.K mas)):PE X (.Tuple es x1 pos) (tM M.K (eU mas)):=PE.con (Fb h) fun _ _ _ h=>HP h
theorem zo (h:PA X es (tMA M.K mas)):PE X (.List es pos) (tM M.K (cf mas)):=PE.con (Ej h) fun _ _ _ h=>HI h
theorem GK (ha:PT X a (tMT M.K mt)) {mt':MT} (hb:PW X (.BoolOp .And (b::es) pos) (tMT M.K mt')):PW X (.BoolOp .And (a::b::es) pos) (tMT M.K (nJ mt mt')):=PW.con (Gc ha hb) fun _ _ _ h=>Jb h
theorem JO (ha:PT X a (tMT M.K mt)) {mt':MT} (hb:PW X (.BoolOp .Or (b::es) pos) (tMT M.K mt')):PW X (.BoolOp .Or (a::b::es) pos) (tMT M.K (cOr mt mt')):=PW.con (G0 ha hb) fun _ _ _ h=>Jw h
theorem Gj (ha:PT X a (tMT M.K mt)):PW X (.BoolOp .And [a] pos) (tMT M.K mt):=Cq ha
theorem IR (ha:PT X a (tMT M.K mt)):PW X (.BoolOp .Or [a] pos) (tMT M.K mt):=F3 ha
theorem Df (ha:PT X a (tMT M.K mt)):PT X (.UnaryOp .Not a pos) (tMT M.K (km mt)):=PT.con (Eg ha) fun _ _ _ h=>G4 h
theorem CZ (ha:PE X a (tM M.K ma)) (he : ∀ whole,isTrue a X.env whole=(do let v <- whole;standAt a.pos;holding [v] (truthy v)):=by intro _;rfl):PT X a (tMT M.K (cOf ma)):=PT.con (E6 ha he) fun _ _ _ h=>JI (fun _ q=>q) h
theorem z6 (S:Sc M X k N ns) (hg:dm ns "len"=true) (hm:M.mg "len"=none) (ha:PA X (e::es) (tMA M.K mas)) (he:starEach (e::es) X.env=(false,eval e X.env)::starEach es X.env:=by rfl) (hpl:(backTo pos (starEach es X.env)).any (·.1)=false:=by rfl) :
  PE X (.Call (.Name "len" p1) (e::es) [] pos) (tM M.K (mFn cQ mas)):=
 PE.con (jY (gz.or (S.hK▸rT) ym) (S.gl hg) (by rw [S.hm];exact hm) PySem.boot_len ha (by decide) (by decide) he hpl) fun _ _ _ h=>ve FD h
theorem Bl (S:Sc M X k N ns) (hg:dm ns "tuple"=true) (hm:M.mg "tuple"=none) (ha:PA X (e::es) (tMA M.K mas)) (he:starEach (e::es) X.env=(false,eval e X.env)::starEach es X.env:=by rfl) (hpl:(backTo pos (starEach es X.env)).any (·.1)=false:=by rfl) :
  PE X (.Call (.Name "tuple" p1) (e::es) [] pos) (tM M.K (mFn bS mas)):=
 PE.con (kD (S.hK▸qi) (S.gl hg) (by rw [S.hm];exact hm) PyProof.Rows.boot_tuple ha (by decide) (by decide) he hpl) fun _ _ _ h=>ve Ac h
theorem IF (S:Sc M X k N ns) (hg:dm ns "max"=true) (hm:M.mg "max"=none) (ha:PA X (e::es) (tMA M.K mas)) (he:starEach (e::es) X.env=(false,eval e X.env)::starEach es X.env:=by rfl) (hpl:(backTo pos (starEach es X.env)).any (·.1)=false:=by rfl) :
  PE X (.Call (.Name "max" p1) (e::es) [] pos) (tM M.K (mFn sZ mas)):=
 PE.con (jY (yC S.calm) (S.gl hg) (by rw [S.hm];exact hm) PyProof.Rows.boot_max ha (by decide) (by decide) he hpl) fun _ _ _ h=>ve Gv h
theorem GP (S:Sc M X k N ns) (hg:dm ns "min"=true) (hm:M.mg "min"=none) (ha:PA X (e::es) (tMA M.K mas)) (he:starEach (e::es) X.env=(false,eval e X.env)::starEach es X.env:=by rfl) (hpl:(backTo pos (starEach es X.env)).any (·.1)=false:=by rfl) :
  PE X (.Call (.Name "min" p1) (e::es) [] pos) (tM M.K (mFn nK mas)):=
 PE.con (jY (S.hK▸yh S.calm (by have:=S.room.units;assumption)) (S.gl hg) (by rw [S.hm];exact hm) PyProof.Rows.boot_min ha (by decide) (by decide) he hpl) fun _ _ _ h=>ve EI h
structure Fn (M:Mo) (x:Str) (k:Nat) (ps:List Str) (m:MF):Prop where
 ex : ∃ (f:Addr) (fd:FuncData),M.mg x=some (.ref f)/\bN M.K (.ref f)=true/\Binds M.K fd ps []/\gZ M.P M.w M.K M.mg M.base CX0 k f fd ps (spM M.K m)
theorem DR {mf:MF}{ps:List Str}{k':Nat} (S:Sc M X k N ns) (F:Fn M x k' ps mf) (hk:k'<=k) (hg:dm ns x=true) (ha:PA X (e::es) (tMA M.K mas)) (hd:(x == ("__debug__":Str))=false) (he:starEach (e::es) X.env=(false,eval e X.env)::starEach es X.env:=by rfl) (hpl:(backTo pos (starEach es X.env)).any (·.1)=false:=by rfl) :
  PE X (.Call (.Name x p1) (e::es) [] pos) (tM M.K (mFn mf mas)):=by
 obtain⟨f,fd,hm,hkp,hb,F⟩:=F.ex
 rw [<- S.hP,<- S.hw,<- S.hK,<- S.hm,<- S.hb] at F
 rw [<- S.hm] at hm
 rw [<- S.hK] at hkp hb
 exact PE.con (si F (S.room.mono hk) (S.gl hg) hm hkp hb .nil xl ha hd he hpl) fun _ _ _ h=>Eb h
theorem CS {mf:MF}{ps:List Str}{k':Nat} (S:Sc M X k N ns) (F:Fn M x k' ps mf) (hk:k'<=k) (hg:dm ns x=true) (hd:(x == ("__debug__":Str))=false) :
  PE X (.Call (.Name x p1) [] [] pos) (tM M.K (mFn mf ag)):=by
 obtain⟨f,fd,hm,hkp,hb,F⟩:=F.ex
 rw [<- S.hP,<- S.hw,<- S.hK,<- S.hm,<- S.hb] at F
 rw [<- S.hm] at hm
 rw [<- S.hK] at hkp hb
 refine PE.con (z9 F (S.room.mono hk) (S.gl hg) hm hkp hb .nil xl hd) fun σ H Q h => ?_
 obtain⟨μ,S,ρ,u,S',hr,er,e,kk⟩:=h
 exact⟨μ,S,[],u,S',hr,.nil,e,kk⟩
theorem tO (S:Sc M X k N ns) (ho:PE X a (tM M.K ma)) (ha:PA X (e::es) (tMA M.K mas)) (hbase:attributeBase a "append" X.env (eval a X.env)=eval a X.env:=by rfl)
  (hfew:((backTo pos (starEach (e::es) X.env)).all (fun x => !x.1)&&(backToKw pos (keywordEach [] X.env)).all (fun x=>x.1.isSome)
   && decide ((e::es).length+([]:List Keyword).length+(if ([]:List Keyword).isEmpty then 0 else 1) < 30))=true:=by rfl)
  (hline:(p1.endLine == pos.line)=true:=by rfl) (hs:starEach (e::es) X.env=(false,eval e X.env)::starEach es X.env:=by rfl) (hpl:(backTo pos (starEach es X.env)).any (·.1)=false:=by rfl) :
  PE X (.Call (.Attribute a "append" p1) (e::es) [] pos) (tM M.K (mML cm ma mas)):=by
 exact PE.con (DM va PySem.F.slot_list_append PySem.F.type_list_append xV ho ha hbase hfew hline hs hpl) fun _ _ _ h=>S.hK▸GO xX h
theorem BW (S:Sc M X k N ns) (ho:PE X a (tM M.K ma)) (ha:PA X (e::es) (tMA M.K mas)) (hbase:attributeBase a "pop" X.env (eval a X.env)=eval a X.env:=by rfl)
  (hfew:((backTo pos (starEach (e::es) X.env)).all (fun x => !x.1)&&(backToKw pos (keywordEach [] X.env)).all (fun x=>x.1.isSome)
   && decide ((e::es).length+([]:List Keyword).length+(if ([]:List Keyword).isEmpty then 0 else 1) < 30))=true:=by rfl)
  (hline:(p1.endLine == pos.line)=true:=by rfl) (hs:starEach (e::es) X.env=(false,eval e X.env)::starEach es X.env:=by rfl) (hpl:(backTo pos (starEach es X.env)).any (·.1)=false:=by rfl) :
  PE X (.Call (.Attribute a "pop" p1) (e::es) [] pos) (tM M.K (mML iR ma mas)):=by
 exact PE.con (DM va PySem.F.slot_list_pop PySem.F.type_list_pop zI ho ha hbase hfew hline hs hpl) fun _ _ _ h=>S.hK▸GO AG h
theorem Ik {tg:Expr} (S:Sc M X k N ns) (hg:dm ns "range"=true) (hm:M.mg "range"=none) (ha:PA X [a] (tMA M.K mas)) (hs:starEach [a] X.env = [(false,eval a X.env)]:=by rfl):PI X tg (.Call (.Name "range" p1) [a] [] pos) (uB (tMA M.K mas)):=
 yE (S.gl hg) (by rw [S.hm];exact hm) ha hs
theorem GT {tg:Expr} (S:Sc M X k N ns) (hg:dm ns "range"=true) (hm:M.mg "range"=none) (ha:PA X [a,b] (tMA M.K mas)) (hs:starEach [a,b] X.env = [(false,eval a X.env),(false,eval b X.env)]:=by rfl) (hs2:starEach [b] X.env = [(false,eval b X.env)]:=by rfl):PI X tg (.Call (.Name "range" p1) [a,b] [] pos) (uN (tMA M.K mas)):=
 ya (S.gl hg) (by rw [S.hm];exact hm) ha hs hs2
theorem FV {tg:Expr} (S:Sc M X k N ns) (hg:dm ns "reversed"=true) (hm:M.mg "reversed"=none) (ha:PA X [a] (tMA M.K mas)) (hs:starEach [a] X.env = [(false,eval a X.env)]:=by rfl):PI X tg (.Call (.Name "reversed" p1) [a] [] pos) (sX M.K (tMA M.K mas)):=
 S.hK▸EJ (S.gl hg) (by rw [S.hm];exact hm) ha hs
theorem Jy {tg:Expr} (S:Sc M X k N ns) (ha:PE X a (tM M.K ma)):PI X tg a (fun σ H R=>tU M.K (tM M.K ma) σ H R\/zx M.K (tM M.K ma) σ H R):=by
 have h:=PI.or (Bg (tg:=tg) ha) (ES ha)
 rw [S.hK] at h
 exact h
noncomputable def rC (N N':List Str) (ns names:List (Str×NameKind)) (xs:List Str):Bool:=
 decide ((names.map (·.1)).Nodup)&&names.all (fun y=>if y.2 == .free then (match ns.lookup y.1 with | some .cell=>true | some .free=>true | _=>false) else true)&&xs.all (ji names)&&decide N'.Nodup &&
 (N'.length == N.length+xs.length)&&((aA xs.length).all fun j=>N'[N.length+j]? == xs[j]?)&&(aA N.length).all fun i=>match N'[i]? with
  | none=>true
  | some y=>if mY names y then N[i]? == some y&&names.lookup y == some .free else true
noncomputable def mj (N N':List Str) (ns names:List (Str×NameKind)) (x:Str):Bool:=rC N N' ns names [x]
theorem v8 {N':List Str}{scope:Scope}{xs:List Str} (S:Sc M X k N ns) (hk:scope.kind = .function) (h:rC N N' ns scope.names xs=true):gJ X N' scope xs:=by
 unfold rC at h
 simp only [ax] at h
 obtain⟨⟨⟨⟨⟨⟨h1,h2⟩,h3⟩,h4⟩,h5⟩,h6⟩,h7⟩:=h
 refine⟨hk,of_decide_eq_true h1,fun y hy e => ?_,fun x hx => ?_,of_decide_eq_true h4,?_,fun j x hj => ?_,fun i y hi e hv => ?_⟩
 ·have:=bA.mp h2 y hy
  rw [if_pos (by rw [e];rfl)] at this
  split at this
  ·rename_i q;exact .inl (S.cel y.1 q).1
  ·rename_i q;exact S.fre y.1 q
  ·cases this
 ·have h3:=bA.mp h3 x hx
  unfold ji at h3
  split at h3
  ·rename_i q;exact .inl q
  ·rename_i q;exact .inr q
  ·cases h3
 ·rw [S.hN];exact eq_of_beq h5
 ·have hl:=(af.mp hj).1
  have:=bA.mp h6 j (aP.mpr hl)
  rw [S.hN,eq_of_beq this];exact hj
 ·rw [S.hN] at hi ⊢
  have:=bA.mp h7 i (aP.mpr hi)
  rw [e] at this
  simp only at this
  have hvb:mY scope.names y=true:=by
   unfold mY
   rcases hv with q | q | q <;> rw [q]
  rw [if_pos hvb,ax] at this
  exact⟨eq_of_beq this.1,eq_of_beq this.2⟩
theorem qN {N':List Str}{scope:Scope} (S:Sc M X k N ns) (hk:scope.kind = .function) (h:mj N N' ns scope.names x=true):gJ X N' scope [x]:=v8 S hk h
theorem rq {N':List Str}{scope:Scope}{xs:List Str} (S:Sc M X k N ns) (C:gJ X N' scope xs) (s₂:Shared) (H₂:Hp) (fp:List Addr):Sc M (blk X N' scope s₂ H₂ fp) k N' scope.names where
 hP:=S.hP
 hw:=S.hw
 hK:=S.hK
 hm:=S.hm
 hb:=S.hb
 hN:=rfl
 nd:=C.ndN
 calm:=S.calm
 loc:=fun y h=>lookup_relabel_local h
 cel:=fun y h=>⟨jl h,by show (scope.names.lookup y == some .cell)=true;rw [h];rfl⟩
 fre:=fun y h=>jj h
 glo:=fun y h=>mF h
 room:=S.room
 own:=jJ
 cod:=S.cod
theorem z7 {N':List Str}{scope:Scope}{px:Pos}{iter elt:Expr}{ifs:List Expr}{wi:TI}{mi:MI} (S:Sc M X k N ns) (hk:scope.kind = .function) (ok:mj N N' ns scope.names x=true) (hi:PI X (.Name x px) iter wi)
  (ht : ∀ X',Sc M X' k N' scope.names->PTs X' ifs (tMT M.K mt)) (he : ∀ X',Sc M X' k N' scope.names->PE X' elt (tM M.K mc)) (hr : ∀ σ H Q,tM M.K (cw mi mt mc) σ H Q->mM wi (tMT M.K mt) (tM M.K mc) σ H Q)
  (hs : ∀ x,foldedSetIterable iter X.env x=pure x:=by intro _;rfl):PE X (.ListComp elt [⟨.Name x px,iter,ifs,0⟩] scope pos) (tM M.K (cw mi mt mc)):=by
 have C:=qN S hk ok
 exact PE.con (CL S.calm C hi (fun s₂ H₂ fp=>ht _ (rq S C s₂ H₂ fp)) (fun s₂ H₂ fp=>he _ (rq S C s₂ H₂ fp)) hs) hr
theorem FY:PTs X [] (tMT M.K cTT):=PTs.con B5 fun σ H Q h=>by
 obtain⟨μ,S,ρ,b,S',hr,er,e,kk⟩:=h
 cases e
 exact kk μ H (Pre.refl _) (bh.refl _) hr
theorem GB (h:PT X c (tMT M.K mt)):PTs X [c] (tMT M.K mt):=B6 h
variable {st:Stmt}{sts:List Stmt}{ms ms':MS}
theorem CV:PSs X [] (tMS M.K cD):=PSs.con Cj fun _ _ _ h=>zc h
theorem tF (h1:PS X st (tMS M.K ms)) (h2:PSs X sts (tMS M.K ms')):PSs X (st::sts) (tMS M.K (aZ ms ms')):=PSs.con (jU h1 h2) fun _ _ _ h=>IH h
theorem AY (h1:PS X st (tMS M.K ms)):PSs X [st] (tMS M.K ms):=wQ h1
theorem tD (S:Sc M X k N ns) (i:Nat) (hi:N[i]? = some x) (ho:ji ns x=true) (he:PE X e (tM M.K ma)) (hs:swapsWith e (some (.Name x p1)) pos.line X.env=pure false:=by rfl):PS X (.Assign [.Name x p1] e pos) (tMS M.K (br i ma)):=
 PS.con (vU (by rw [S.hN];exact S.nd) (by rw [S.hN];exact hi) (S.lo ho).1 he hs (S.lo ho).2) fun _ _ _ h=>DK h
theorem BV (S:Sc M X k N ns) (ho:PE X a (tM M.K ma)) (hi:PE X b (tM M.K mb)) (he:PE X e (tM M.K mc)) (hs:swapsWithSole [.Subscript a b p1] e pos.line X.env=pure false:=by rfl) (hw:swappedStores [.Subscript a b p1] e X.env=pure none:=by rfl)
  (h1:(assignEach [.Subscript a b p1] X.env).map (·.2) = [assign (.Subscript a b p1) X.env]:=by rfl)
  (hasn : ∀ v,assign (.Subscript a b p1) X.env v=(do
   let ov <- holding [v] (eval a X.env)
   let iv <- holding [v,ov] (eval b X.env)
   standAt p1
   holding [v,ov,iv] (setItem ov iv v)
   release [v,ov,iv] []):=by intro _;rfl):PS X (.Assign [.Subscript a b p1] e pos) (tMS M.K (lF ma mb mc)):=
 PS.con (Em he (FI ho hi (Bm (by have:=S.room.units;omega)) hasn) hs hw h1) fun _ _ _ h=>Cv h
theorem Aj (he:PE X e (tM M.K ma)) (hs:swapsWith e none pos.line X.env=pure false:=by rfl):PS X (.Expr e pos) (tMS M.K (dy ma)):=PS.con (wy he hs) fun _ _ _ h=>FZ h
theorem Dr (he:PE X e (tM M.K ma)):PS X (.Return (some e) pos) (tMS M.K (cW ma)):=PS.con (Ay he) fun _ _ _ h=>II h
theorem Ho {sts':List Stmt} (hc:PT X c (tMT M.K mt)) (ha:PSs X sts (tMS M.K ms)) (hb:PSs X sts' (tMS M.K ms')):PS X (.If c sts sts' pos) (tMS M.K (sIf mt ms ms')):=PS.con (Ds hc ha hb) fun _ _ _ h=>Jr h
theorem Hm {iter:Expr}{wi:TI}{mi:MI} (S:Sc M X k N ns) (i:Nat) (hi:N[i]? = some x) (ho:ji ns x=true) (hit:PI X (.Name x p1) iter wi) (hb:PSs X sts (tMS M.K ms)) (hr : ∀ D σ H,tMS M.K (d5 i mi ms) D σ H->rZ wi (gS i) (tMS M.K ms) D σ H)
  (hs : ∀ x,foldedSetIterable iter X.env x=pure x:=by intro _;rfl):PS X (.For (.Name x p1) iter sts [] pos) (tMS M.K (d5 i mi ms)):=
 PS.con (A1 S.own S.calm hit (wz (by rw [S.hN];exact S.nd) (by rw [S.hN];exact hi) (S.lo ho).1 (S.lo ho).2) hb hs) hr
theorem CC (S:Sc M X k N ns) (hc:PT X c (tMT M.K mt)) (hb:PSs X sts (tMS M.K ms)):PS X (.While c sts [] pos) (tMS M.K (ki mt ms)):=PS.con (AN S.own hc hb) fun _ _ _ h=>CA h
end
theorem Sc.def {M:Mo}{N ps:List Str}{qual:Str}{scope:Scope}{f:Addr}{cdv:Value}{A:Around}{outer:List Env}{s:Shared}{H:Hp}{E:XK}{k:Nat} (S:bC N ps scope) (hr:i6 k (A.deeper (envOfC qual scope s.heap.objs.size f cdv))) (h0 : ∀ c q,M.mkr=some (c,q)->cdv = .ref c/\qual++".<locals>."=q) :
  Sc M (o4 CX0 M.P M.w M.K M.mg M.base N qual scope f cdv A outer s H E).nox k N scope.names:=
 ⟨rfl,rfl,rfl,rfl,rfl,rfl,S.nd,rfl,fun _ h=>h,fun _ h=>⟨h,rfl⟩,fun _ h => .inr h,fun _ h=>h,hr,jJ,h0⟩
theorem kC {H:Hp}{μ:List Addr}{N:List Str}{us:List U}{vs:List V} (r:RUs H μ us vs):ER H μ (us.map some++ay (N.length - us.length) none) (L2.start N vs):=by
 unfold L2.start
 refine⟨by simp [r.len],fun i u h => ?_⟩
 by_cases hi:i < us.length
 ·rw [aQ (by simpa using hi),da] at h
  cases e:us[i]? with
  | none=>rw [e] at h;cases h
  | some w=>
    rw [e] at h;cases h
    obtain⟨v,hv,rv⟩:=r.get e
    refine⟨v,?_,rv⟩
    rw [aQ (by simpa [<- r.len] using hi),da,hv];rfl
 ·rw [aq (by simpa using hi)] at h
  rw [fY] at h
  split at h <;> cases h
theorem Dq {M:Mo} (h0:M.mkr=none) {x qual:Str}{st:Stmt}{f:Addr}{fd:FuncData}{N ps:List Str}{k:Nat}{ms:MS} (F:Fun M.K x qual st f fd) (S:bC N ps (aw st))
  (hb : ∀ X,Sc M X k N (aw st).names->PSs X (aY st) (tMS M.K ms)):gZ M.P M.w M.K M.mg M.base CX0 (k+1) f fd ps (spM M.K (run ps.length N.length ms)):=by
 refine F.ok S (fun vs H Q E h => ?_) fun cdv A outer s H vs Q E hr h=>⟨tMS M.K ms,hb _ (Sc.def S hr fun c q h=>by rw [h0] at h;cases h),?_⟩
 ·obtain⟨μ,S',us,u,S'',hr,rs,e,_⟩:=h
  unfold run at e
  split at e
  ·rename_i hl;rw [<- rs.len];exact hl
  ·cases e
 ·obtain⟨μ,S1,us,u,S2,hr,rs,e,ka⟩:=h
  unfold run at e
  split at e
  ·rename_i hl
   have er:=kC (N:=N) rs
   rw [hl] at er
   split at e
   ·rename_i w ρ' S3 q
    cases e
    exact⟨μ,S1,_,_,hr,er,q,ka⟩
   ·rename_i ρ' S3 q
    cases e
    exact⟨μ,S1,_,_,hr,er,q,fun μ' σ' H' p' k' hr' er'=>ka μ' _ H' p' k' hr' oU⟩
   ·cases e
  ·cases e
end G
end
section
namespace G
open PySem PySem.Spec L2
open PyProof.Rows hiding St
mutual
inductive mV (K:ai) (H:Hp):V->PyData->Prop where
 | non:mV K H .non .none
 | bl (b:Bool):mV K H (.bl b) (.bool b)
 | int (i:Int):mV K H (.int i) (.int i)
 | str (x:Str):mV K H (.str x) (.str x)
 | tup {a:Addr}{vs:List V}{ds:List PyData}:SqT K H a vs->jz K H vs ds->mV K H (.ref a) (.tuple ds)
 | lst {a:Addr}{vs:List V}{ds:List PyData}:SqL K H a vs->jz K H vs ds->mV K H (.ref a) (.list ds)
inductive jz (K:ai) (H:Hp):List V->List PyData->Prop where
 | nil:jz K H [] []
 | cons {v:V}{vs:List V}{d:PyData}{ds:List PyData}:mV K H v d->jz K H vs ds->jz K H (v::vs) (d::ds)
end
section
variable {X:Cx}{pins:List (Addr×Obj)}{σ:St}{H:Hp}{s:Shared}
mutual
theorem mV.reads (I:Inv X pins σ H s) : ∀ {v:V}{d:PyData}{w:Value},mV X.K H v d->RelV v w -> ∃ as,Reads s.heap w d as
 | _,_,_,.non,r=>⟨[],by cases (show _=fk from r);exact .none⟩
 | _,_,_,.bl b,r=>⟨[],by cases (show _=Value.bool b from r);exact .bool b⟩
 | _,_,_,.int i,r=>by
   obtain⟨t,e⟩:=(show ∃ t,_=xD i t from r)
   subst e;exact⟨[],.int i t⟩
 | _,_,_,.str x,r=>by
   obtain⟨t,e⟩:=(show ∃ t,_=xF x t from r)
   subst e;exact⟨[],.str x t⟩
 | _,_,_,.tup (a:=a) h rs,r=>by
   cases (show _=bj a from r)
   obtain⟨its,rv,⟨o,e,c,n,dt⟩,_⟩:=I.tuple h
   obtain⟨as,q⟩:=jz.reads I rs rv
   exact⟨as,.tuple e c dt q⟩
 | _,_,_,.lst (a:=a) h rs,r=>by
   cases (show _=bj a from r)
   obtain⟨its,rv,⟨o,n,e,c,dd,dt⟩,_⟩:=I.list h
   obtain⟨as,q⟩:=jz.reads I rs rv
   exact⟨a::as,.list e c dt q⟩
theorem jz.reads (I:Inv X pins σ H s) : ∀ {vs:List V}{ds:List PyData}{ws:List Value},jz X.K H vs ds->bW vs ws -> ∃ as,ReadsAll s.heap ws ds as
 | _,_,_,.nil,r=>by cases r;exact⟨[],.nil⟩
 | _,_,_,.cons h rs,r=>by
   cases r with
   | cons r1 r2=>
     obtain⟨as,q⟩:=mV.reads I h r1
     obtain⟨bs,q'⟩:=jz.reads I rs r2
     exact⟨as++bs,.cons q q'⟩
end
end
theorem mh {α β:Type}{f:α->Option β}{P:α->β->Prop} (hf : ∀ x y,f x=some y->P x y) : ∀ {xs:List α}{ys:List β},dq f xs=some ys->Paired P xs ys
 | [],ys,h=>by cases h;exact .nil
 | x::xs,ys,h=>by
   unfold dq at h
   cases e:f x with
   | none=>rw [e] at h;cases h
   | some y=>
     rw [e] at h
     simp only [ao] at h
     cases e2:dq f xs with
     | none=>rw [e2] at h;cases h
     | some zs=>
       rw [e2] at h;cases h
       exact .cons (hf x y e) (mh hf e2)
theorem oa {f:Nat} : ∀ {us:List U}{ds:List PyData},Paired (fun (_:U) (d:PyData)=>d.canLay0=true/\d.depth<=f) us ds->jw ds=true/\iz ds<=f
 | _,_,.nil=>⟨by simp [jw],by simp [iz]⟩
 | _,_,.cons h t=>by
   obtain⟨a,b⟩:=oa t
   exact⟨by simp [jw,h.1,a],by simp only [iz];exact Nat.max_le.mpr ⟨h.2,b⟩⟩
section
variable {K:KX}{H:Hp}{μ:List Addr}{S:Sto}
theorem og {f:Nat} (hr:HR K μ S H) (ih : ∀ (u:U) (d:PyData),toD S f u=some d -> ∀ v,RU H μ u v->mV K H v d) : ∀ {us:List U}{ds:List PyData},dq (toD S f) us=some ds -> ∀ {vs:List V},RUs H μ us vs->jz K H vs ds
 | [],ds,h,vs,r=>by cases h;rw [r.nil_inv];exact .nil
 | u::us,ds,h,vs,r=>by
   unfold dq at h
   cases e:toD S f u with
   | none=>rw [e] at h;cases h
   | some y=>
     rw [e] at h
     simp only [ao] at h
     cases e2:dq (toD S f) us with
     | none=>rw [e2] at h;cases h
     | some zs=>
       rw [e2] at h;cases h
       obtain⟨v,r',rfl,a,b⟩:=r.inv
       exact .cons (ih u y e v a) (og hr ih e2 b)
theorem oj (hr:HR K μ S H) : ∀ (f:Nat) (u:U) (d:PyData),toD S f u=some d -> ∀ v,RU H μ u v->mV K H v d
 | 0,u,d,h,v,r=>by cases u <;> cases h
 | f+1,.non,d,h,v,r=>by cases h;rw [show v = .non by simpa only [RU] using r];exact .non
 | f+1,.bl b,d,h,v,r=>by cases h;rw [lr r];exact .bl b
 | f+1,.int i,d,h,v,r=>by cases h;rw [cy r];exact .int i
 | f+1,.str x,d,h,v,r=>by
   unfold toD at h
   split at h
   ·cases h;rw [show v = .str x by simpa only [RU] using r];exact .str x
   ·cases h
 | f+1,.tup us,d,h,v,r=>by
   unfold toD at h
   cases e:dq (toD S f) us with
   | none=>rw [e] at h;cases h
   | some ds=>
     rw [e] at h;cases h
     obtain⟨a,vs,rfl,ha,rs⟩:=ic r
     exact .tup (.inl (.inl ha)) (og hr (oj hr f) e rs)
 | f+1,.ref n,d,h,v,r=>by
   unfold toD at h
   cases e0:getL S n with
   | none=>rw [e0] at h;cases h
   | some us=>
     rw [e0] at h
     simp only [ao] at h
     cases e:dq (toD S f) us with
     | none=>rw [e] at h;cases h
     | some ds=>
       rw [e] at h;cases h
       obtain⟨a,rfl,ha⟩:=gO r
       obtain⟨a',vs,ha',hs,rs⟩:=hr.sq e0
       rw [ha] at ha';cases ha'
       exact .lst hs (og hr (oj hr f) e rs)
 | f+1,.obj a,d,h,v,r=>by cases h
end
theorem nU (S:Sto) : ∀ (f:Nat) (u:U) (d:PyData),toD S f u=some d->d.canLay0=true/\d.depth<=f
 | 0,u,d,h=>by cases u <;> cases h
 | f+1,.non,d,h=>by cases h;exact⟨by simp [gm],by simp [iN]⟩
 | f+1,.bl b,d,h=>by cases h;exact⟨by simp [gm],by simp [iN]⟩
 | f+1,.int i,d,h=>by cases h;exact⟨by simp [gm],by simp [iN]⟩
 | f+1,.str x,d,h=>by
   unfold toD at h
   split at h
   ·rename_i q;cases h;exact⟨q,by simp [iN]⟩
   ·cases h
 | f+1,.tup us,d,h=>by
   unfold toD at h
   cases e:dq (toD S f) us with
   | none=>rw [e] at h;cases h
   | some ds=>
     rw [e] at h;cases h
     obtain⟨a,b⟩:=oa (mh (fun x y q=>nU S f x y q) e)
     exact⟨by simpa [gm] using a,by simp only [iN];exact qx (by assumption)⟩
 | f+1,.ref n,d,h=>by
   unfold toD at h
   cases e0:getL S n with
   | none=>rw [e0] at h;cases h
   | some us=>
     rw [e0] at h
     simp only [ao] at h
     cases e:dq (toD S f) us with
     | none=>rw [e] at h;cases h
     | some ds=>
       rw [e] at h;cases h
       obtain⟨a,b⟩:=oa (mh (fun x y q=>nU S f x y q) e)
       exact⟨by simpa [gm] using a,by simp only [iN];exact qx (by assumption)⟩
 | f+1,.obj a,d,h=>by cases h
noncomputable def oH (K:ai) (H:Hp) (v:V) (d:PyData):Prop:=mV K H v d/\d.canLay0=true/\d.depth<=40
noncomputable def GH (K:ai):R2:=fun x y H Q => ∃ a b,oH K H x a/\oH K H y b/\Q (.bl (iY a b)) H
noncomputable def H9 (K:ai):R2:=fun x y H Q => ∃ a b,oH K H x a/\oH K H y b/\Q (.bl (!iY a b)) H
theorem ky {K:ai}{H:Hp}{v:V}{d:PyData} (h:oH K H v d):SeqAt.shaped d=true:=by
 unfold SeqAt.shaped
 rw [h.2.1,decide_eq_true (aK h.2.2 (by decide))];rfl
section
variable {X:Cx}
theorem Fk (hu:X.A.units+64 < cLine):OpR X (compareOp .Eq) (GH X.K):=by
 intro pins s σ H x y v u Q I rx ry h
 obtain⟨a,b,ha,hb,q⟩:=h
 obtain⟨as,r1⟩:=ha.1.reads I rx
 obtain⟨bs,r2⟩:=hb.1.reads I ry
 exact SeqAt.compareEq_shaped r1 r2 (ky ha) (ky hb) hu ⟨.bl _,H,I,rfl,q⟩
theorem Fm (hu:X.A.units+64 < cLine):OpR X (compareOp .NotEq) (H9 X.K):=by
 intro pins s σ H x y v u Q I rx ry h
 obtain⟨a,b,ha,hb,q⟩:=h
 obtain⟨as,r1⟩:=ha.1.reads I rx
 obtain⟨bs,r2⟩:=hb.1.reads I ry
 exact SeqAt.compareNe_shaped r1 r2 (ky ha) (ky hb) hu ⟨.bl _,H,I,rfl,q⟩
end
section
variable {K:KX}{μ:List Addr}{S:Sto}{H:Hp}
theorem uA {u:U}{v:V}{d:PyData} (hr:HR K μ S H) (r:RU H μ u v) (h:toD S 40 u=some d):oH K H v d:=⟨oj hr 40 u d h v r,nU S 40 u d h⟩
theorem xw {x y:U}{b:Bool} (h:eqU S x y=some b) : ∃ a c,toD S 40 x=some a/\toD S 40 y=some c/\b=iY a c:=by
 unfold eqU at h
 cases e1:toD S 40 x with
 | none=>rw [e1] at h;cases h
 | some a=>
   rw [e1] at h
   simp only [ao] at h
   cases e2:toD S 40 y with
   | none=>rw [e2] at h;cases h
   | some c=>rw [e2] at h;cases h;exact⟨a,c,rfl,rfl,rfl⟩
theorem Ih:OpU K (GH K) oEq:=by
 intro μ S H x y vx vy u S' Q hr rx ry e a
 unfold oEq at e
 cases q:eqU S x y with
 | none=>rw [q] at e;cases e
 | some b=>
   rw [q] at e;cases e
   obtain⟨d1,d2,e1,e2,rfl⟩:=xw q
   exact⟨d1,d2,uA hr rx e1,uA hr ry e2,a.now hr jb⟩
theorem GX:OpU K (H9 K) oNe:=by
 intro μ S H x y vx vy u S' Q hr rx ry e a
 unfold oNe at e
 cases q:eqU S x y with
 | none=>rw [q] at e;cases e
 | some b=>
   rw [q] at e;cases e
   obtain⟨d1,d2,e1,e2,rfl⟩:=xw q
   exact⟨d1,d2,uA hr rx e1,uA hr ry e2,a.now hr jb⟩
end
end G
end
section
namespace G
open PySem PySem.Spec L2
open PyProof.Rows hiding St
section
section
variable {K:KX}{σ:St}{H:Hp}{Q:VK}
end
section
variable {M:Mo}{X:Cx}{k:Nat}{N:List Str}{ns:List (Str×NameKind)}{a b c e:Expr}{es:List Expr}{ma mb mc:ME}{mt:MT}{mas:MA}{pos p1 p2:Pos}{x:Str}
inductive rD (M:Mo) (X:Cx):Option Expr->Option ME->Prop where
 | none:rD M X .none .none
 | some {e:Expr}{m:ME}:PE X e (tM M.K m)->rD M X (.some e) (.some m)
end
noncomputable def E4 (a b:ME):ME:=fun ρ S=>bnd (a ρ S) fun x S1=>match x with
 | .bl true=>b ρ S1
 | .bl false=>some (.bl false,S1)
 | _=>none
noncomputable def mOr (a b:ME):ME:=fun ρ S=>bnd (a ρ S) fun x S1=>match x with
 | .bl true=>some (.bl true,S1)
 | .bl false=>b ρ S1
 | _=>none
noncomputable def BL:U->Sto->Res U:=fun x S=>match x with
 | .bl b=>some (.bl (!b),S)
 | _=>none
section
variable {K:KX}{σ:St}{H:Hp}{Q:VK}
theorem Et {a b:ME} (h:tM K (E4 a b) σ H Q):Do (tM K a) (tM K b) σ H Q:=by
 obtain⟨μ,S,ρ,u,S',hr,er,e,k⟩:=h
 obtain⟨x,S1,e1,e⟩:=ba e
 refine⟨μ,S,ρ,x,S1,hr,er,e1,fun μ1 vx H1 p1 k1 hr1 rx => ?_⟩
 split at e
 ·exact⟨true,lr rx,mn ⟨μ1,S1,ρ,u,S',hr1,er.mono k1 p1,e,k.mono p1 k1⟩⟩
 ·cases e
  exact⟨false,lr rx,mH (k μ1 _ H1 p1 k1 hr1 jb)⟩
 ·cases e
theorem Jn {a b:ME} (h:tM K (mOr a b) σ H Q):Ib (tM K a) (tM K b) σ H Q:=by
 obtain⟨μ,S,ρ,u,S',hr,er,e,k⟩:=h
 obtain⟨x,S1,e1,e⟩:=ba e
 refine⟨μ,S,ρ,x,S1,hr,er,e1,fun μ1 vx H1 p1 k1 hr1 rx => ?_⟩
 split at e
 ·cases e
  exact⟨true,lr rx,mn (k μ1 _ H1 p1 k1 hr1 jb)⟩
 ·exact⟨false,lr rx,mH ⟨μ1,S1,ρ,u,S',hr1,er.mono k1 p1,e,k.mono p1 k1⟩⟩
 ·cases e
theorem FB {a:ME} (h:tM K (m1 BL a) σ H Q):Dd (tM K a) σ H Q:=by
 obtain⟨μ,S,ρ,u,S',hr,er,e,k⟩:=h
 obtain⟨x,S1,e1,e⟩:=ba e
 refine⟨μ,S,ρ,x,S1,hr,er,e1,fun μ1 vx H1 p1 k1 hr1 rx => ?_⟩
 unfold BL at e
 split at e
 ·cases e
  exact⟨_,lr rx,k μ1 _ H1 p1 k1 hr1 jb⟩
 ·cases e
end
section
variable {X:Cx}{a b:Expr}{ta:TA}{p pos:Pos}
noncomputable def DB (ta:TA):TE:=fun σ H Q=>ta σ H fun vs H1 => ∃ j:Int,vs = [.int j] /\ -(2 ^ 62)<=j/\j < 2 ^ 62 /\ ∀ r,H1 r=none->Q (.ref r) (upd H1 r (.rng 0 j))
noncomputable def Dv (ta:TA):TE:=fun σ H Q=>ta σ H fun vs H1 => ∃ i j:Int,vs = [.int i,.int j]/\(-(2 ^ 62)<=i/\i < 2 ^ 62 /\ -(2 ^ 62)<=j/\j < 2 ^ 62) /\ ∀ r,H1 r=none->Q (.ref r) (upd H1 r (.rng i j))
theorem uP {pins:List (Addr×Obj)}{σ:St}{H:Hp}{s:Shared}{Q:VK}{lo hi:Int}{t u v:Tok}{tk:Nat} (I:Inv X pins σ H s) (q : ∀ r,H r=none->Q (.ref r) (upd H r (.rng lo hi))) :
  EP X pins σ Q (.ref s.heap.objs.size) { s with heap:=s.heap.push { cls := .type "range",data := .fields #[.int lo t,.int hi u,.int 1 v] },toks:=tk }:=by
 refine⟨.ref s.heap.objs.size,_,I.laid (t':=tk) (o := .rng lo hi) (fun b ob q=>ar _ q) (ak _) ?_,rfl,q _ (I.hok.fresh (ak _))⟩
 exact⟨t,u,v,aF _ rfl⟩
theorem BH (hg:Gl X "range") (hm:X.mg "range"=none) (ha:PA X [a] ta) (hs:starEach [a] X.env = [(false,eval a X.env)]:=by rfl):PE X (.Call (.Name "range" p) [a] [] pos) (DB ta):=by
 intro pins s σ H Q I h
 refine Call_ (iP I hg hm boot_range (bZ (thn (ha pos pins s σ H _ I h) fun us s1 ⟨vs,H1,I1,r1,q1⟩ => ?_) (by rw [hs];rfl) rfl))
 obtain⟨j,e,q1,q2,q⟩:=q1
 subst e
 cases r1 with
 | cons r rr=>
   cases rr
   obtain⟨t,rfl⟩:=r
   exact call_range_1 (uP I1 q)
theorem BC (hg:Gl X "range") (hm:X.mg "range"=none) (ha:PA X [a,b] ta) (hs:starEach [a,b] X.env = [(false,eval a X.env),(false,eval b X.env)]:=by rfl) (hs2:starEach [b] X.env = [(false,eval b X.env)]:=by rfl) :
  PE X (.Call (.Name "range" p) [a,b] [] pos) (Dv ta):=by
 intro pins s σ H Q I h
 refine Call_ (iP I hg hm boot_range (bZ (thn (ha pos pins s σ H _ I h) fun us s1 ⟨vs,H1,I1,r1,q1⟩ => ?_) (by rw [hs,hs2]) (by rw [hs2];rfl)))
 obtain⟨i,j,e,⟨q1,q2,q3,q4⟩,q⟩:=q1
 subst e
 cases r1 with
 | cons r rr=>
   cases rr with
   | cons r' rr=>
     cases rr
     obtain⟨t,rfl⟩:=r
     obtain⟨t',rfl⟩:=r'
     exact call_range_2 (uP I1 q)
theorem xa : ∀ {xs:List V}{us:List Value},xs.length=us.length->(∀ (i:Nat) (x:V) (u:Value),xs[i]? = some x->us[i]? = some u->RelV x u)->bW xs us
 | [],[],_,_ => .nil
 | [],_::_,h,_=>by simp at h
 | _::_,[],h,_=>by simp at h
 | x::xs,u::us,h,k => .cons (k 0 x u rfl rfl) (xa (by simpa using h) fun i y w h1 h2=>k (i+1) y w (by simpa using h1) (by simpa using h2))
noncomputable def qb (i:Int) (n:Nat):List V:=(aA n).map fun (k:Nat) => .int (i+k)
theorem kZ (hc:X.calm=true):gz X (.type "list") (fun xs H Q => ∃ r lo hi,xs = [.ref r]/\H r=some (.rng lo hi)/\(-(2 ^ 62)<=lo/\lo < 2 ^ 62 /\ -(2 ^ 62)<=hi/\hi < 2 ^ 62)/\(hi - lo).toNat<=sizeLine /\ ∀ l,H l=none->Q (.ref l) (upd H l (.lst (qb lo (hi - lo).toNat)))):=by
 intro pins s σ H xs us Q I rs h
 obtain⟨r,lo,hi,rfl,hr,⟨h1,h2,h3,h4⟩,hz,q⟩:=h
 cases rs with
 | cons r1 rr=>
   cases rr
   cases (show _=bj r from r1)
   obtain⟨t,u,v,e⟩:=I.hok r _ hr
   have hn:pJ lo hi 1=((hi - lo).toNat:Nat):=by rw [rangeSize_one];split <;> omega
   refine call_list_range (n:=(hi - lo).toNat) (I.ok.hd hc) e (small_one h1 h2 h3 h4) hn (by rw [sizeLine_eq] at hz;exact hz) fun h' tk acc c' hk hl hacc => ?_
   obtain⟨hsz,hit⟩:=hacc
   refine⟨.ref s.heap.objs.size,_,I.laid (t':=tk) (o := .lst (qb lo (hi - lo).toNat)) hk (ak _) ?_,rfl,q _ (I.hok.fresh (ak _))⟩
   refine⟨by rw [qb,aI,bU];exact hz,acc.toList,c',?_,by simpa using hl⟩
   refine xa (by rw [qb,aI,bU,fG,hsz]) fun i x w h5 h6 => ?_
   have hlt:i < (hi - lo).toNat:=by
    have:=(af.mp h5).1
    rwa [qb,aI,bU] at this
   have hx:(qb lo (hi - lo).toNat)[i]? = some (.int (lo+i)):=by simp [qb,hlt]
   rw [hx] at h5;cases h5
   obtain⟨t',e'⟩:=hit i w (by simpa using h6)
   exact⟨t',by rw [e'];simp⟩
end
end
end G
end
section
namespace G
open PySem PySem.Spec L2
open PyProof.Rows hiding St
section
theorem CI {H:Hp}{μ:List Addr} (i:Int) (n:Nat):RUs H μ (aU i n) (qb i n):=by
 unfold aU qb
 induction n with
 | zero=>simpa using RUs.nil
 | succ n ih=>rw [dr,bF,bF];exact ih.append (.cons dD .nil)
section
variable {K:KX}{σ:St}{H:Hp}{Q:VK}
noncomputable def rLR:List V->Hp->VK->Prop:=fun xs H Q => ∃ r lo hi,xs = [.ref r]/\H r=some (.rng lo hi)/\(-(2 ^ 62)<=lo/\lo < 2 ^ 62 /\ -(2 ^ 62)<=hi/\hi < 2 ^ 62)/\(hi - lo).toNat<=sizeLine /\ ∀ l,H l=none->Q (.ref l) (upd H l (.lst (qb lo (hi - lo).toNat)))
theorem HR.rng {μ:List Addr}{S:Sto}{p:Addr}{i j:Int} (h:HR K μ S H) (hp:H p=none):HR K μ S (upd H p (.rng i j)):=by
 have kp:bh H (upd H p (.rng i j)):=bh.new hp
 refine⟨h.len,h.inj,fun m c b q1 q2=>(h.cell m c b q1 q2).mono kp (Pre.refl _) (fun hc => ?_) fun o u hf => ?_,h.ext.upd kp (Pre.refl _) fun o1 q=>by rw [hp] at q;cases q⟩
 ·obtain⟨o,e,_⟩:=(h.cell m _ b q1 q2).has hc
  exact aV (aS e hp)
 ·rw [aV (aS hf hp)];exact hf
theorem wJ {μ:List Addr}{S1:Sto}{i j:Int}{r:Addr} (hr1:HR K μ S1 H) (ho:okR i/\okR j) (hz:(aU i (j - i).toNat).length<=big) (k:Aft K μ H (.ref S1.length) (S1 ++ [.lst (aU i (j - i).toNat)]) Q) (hrn:H r=none):rLR [.ref r] (upd H r (.rng i j)) Q:=by
 refine⟨r,i,j,rfl,cq,⟨ho.1.1,ho.1.2,ho.2.1,ho.2.2⟩,?_,fun l hl => ?_⟩
 ·unfold aU big at hz;rw [aI,bU] at hz;rw [sizeLine_eq];exact hz
 ·exact mv (k.mono (Pre.refl _) (bh.new hrn)) (hr1.rng hrn) (CI _ _) hl
theorem zQ {a:MA} (h:tM K (fV (iR1 a)) σ H Q):tCB rLR (wF (DB (tMA K a)) zV) σ H Q:=by
 obtain⟨μ,S,ρ,u,S',hr,er,e,k⟩:=h
 obtain⟨src,S1,e1,e⟩:=ba e
 obtain⟨xs,S2,e2,e1⟩:=ba e1
 refine⟨μ,S,ρ,xs,S2,hr,er,e2,fun μ1 vs H1 p1 k1 hr1 rs => ?_⟩
 split at e1
 ·rename_i j
  split at e1
  ·rename_i hj
   cases e1
   simp only at e
   split at e
   ·rename_i hz
    cases e
    obtain⟨v,r,rfl,rx,rn⟩:=rs.inv
    rw [rn.nil_inv,cy rx]
    refine⟨j,rfl,hj.1,hj.2,fun r hrn => ?_⟩
    have ez:(j - 0).toNat=j.toNat:=by simp
    exact wJ (i:=0) hr1 ⟨⟨by decide,by decide⟩,hj⟩ (by rw [ez];exact hz) (by rw [ez];exact k.mono p1 k1) hrn
   ·cases e
  ·cases e1
 ·cases e1
theorem Ap {a:MA} (h:tM K (fV (iR2 a)) σ H Q):tCB rLR (wF (Dv (tMA K a)) zV) σ H Q:=by
 obtain⟨μ,S,ρ,u,S',hr,er,e,k⟩:=h
 obtain⟨src,S1,e1,e⟩:=ba e
 obtain⟨xs,S2,e2,e1⟩:=ba e1
 refine⟨μ,S,ρ,xs,S2,hr,er,e2,fun μ1 vs H1 p1 k1 hr1 rs => ?_⟩
 split at e1
 ·rename_i i j
  split at e1
  ·rename_i hj
   cases e1
   simp only at e
   split at e
   ·rename_i hz
    cases e
    obtain⟨v,r,rfl,rx,rs⟩:=rs.inv
    obtain⟨w,r,rfl,ry,rn⟩:=rs.inv
    rw [rn.nil_inv,cy rx,cy ry]
    exact⟨i,j,rfl,⟨hj.1.1,hj.1.2,hj.2.1,hj.2.2⟩,fun r hrn=>wJ hr1 hj hz (k.mono p1 k1) hrn⟩
   ·cases e
  ·cases e1
 ·cases e1
end
noncomputable def Ab (S:Sto) (x:U) (us:List U):Option Nat:=(dq (toD S 39) us).bind fun ds=>(toD S 40 x).bind fun d=>ds.findIdx? fun y=>iY y d
noncomputable def fq:List U->List U->Sto->Res U:=fun us xs S=>match xs with
 | [x]=>(Ab S x us).map fun k=>(.int k,S)
 | _=>none
noncomputable def Fp (K:ai) (to:TE) (t:TA):TE:=fun σ H Q=>to σ H fun x H1=>(∃ p ys,x = .ref p/\H1 p=some (.tup ys))/\t σ H1 fun xs H2 => ∃ p ys v ds d j,x = .ref p/\xs = [v]/\H2 p=some (.tup ys) /\
 jz K H2 ys ds/\jw ds=true/\iz ds<=40/\oH K H2 v d/\ds.findIdx? (fun y=>iY y d)=some j/\Q (.int j) H2
theorem zd {X:Cx}{o e:Expr}{es:List Expr}{to:TE}{t:TA}{apos cpos:Pos} (hu:X.A.units+64 < cLine) (ho:PE X o to) (ha:PA X (e::es) t)
  (hbase:attributeBase o "index" X.env (eval o X.env)=eval o X.env:=by rfl)
  (hfew:((backTo cpos (starEach (e::es) X.env)).all (fun x => !x.1)&&(backToKw cpos (keywordEach [] X.env)).all (fun x=>x.1.isSome)
   && decide ((e::es).length+([]:List Keyword).length+(if ([]:List Keyword).isEmpty then 0 else 1) < 30))=true:=by rfl)
  (hline:(apos.endLine == cpos.line)=true:=by rfl) (hs:starEach (e::es) X.env=(false,eval e X.env)::starEach es X.env:=by rfl) (hplain:(backTo cpos (starEach es X.env)).any (·.1)=false:=by rfl) :
  PE X (.Call (.Attribute o "index" apos) (e::es) [] cpos) (Fp X.K to t):=by
 intro pins s σ H Q I h
 refine wpAny_Call_method_late hbase hfew hline rfl (thn (ho pins s σ H _ I h) fun v s1 ⟨x,H1,I1,r1,⟨p,ys,hx,hp⟩,q1⟩ => ?_)
 subst hx
 cases (show v=bj p from r1)
 obtain⟨_,its,rv,⟨o1,e1,c1,n1,d1⟩,o2,e2,c2⟩:=I1.hok p _ hp
 refine⟨"tuple",_,PySem.F.plainAttrs_tuple,uX,PySem.F.type_tuple_index,⟨o1,e1,c1⟩,fun a ea=>by cases ea;exact⟨o2,e2,c2⟩,?_⟩
 have hA:=ha cpos pins s1 σ H1 _ I1 q1
 rw [hs] at hA ⊢
 refine yO (by show (false||(backTo cpos (starEach es X.env)).any (·.1))=false;rw [hplain] <;> rfl) (mP ?_)
 refine thn hA fun us s2 ⟨vs,H2,I2,r2,q2⟩ => ?_
 obtain⟨p',ys',v',ds,d,j,hx,hxs,hp',rd,hl,hdp,hd,hj,q⟩:=q2
 cases hx
 subst hxs
 cases r2 with
 | cons ra rr=>
   cases rr
   obtain⟨_,its2,rv2,⟨⟨cls,dd,data,sl⟩,e3,c3,n3,d3⟩,_⟩:=I2.hok p _ hp'
   simp only at c3 d3
   subst c3 d3
   obtain⟨as,rds⟩:=rd.reads I2 rv2
   obtain⟨bs,rdv⟩:=hd.1.reads I2 ra
   have hlen:its2.length=ds.length:=SeqAt.ReadsAll.length _ _ _ rds
   have hjl:j < ds.length:=by
    obtain⟨h1,_⟩:=dM.mp hj
    exact h1
   have hmap:=SeqAt.readsAll_map ds _ _ hl rds
   have hget : ∀ (m:Nat) (h1:m < its2.length) (h2:m < ds.length),SeqAt.readOf s2.heap its2[m]=ds[m]:=fun m h1 h2=>by
    have:=congrArg (fun l=>l[m]?) hmap
    simp [h1,h2] at this
    exact this
   have heq:=SeqAt.items_eqAt (A:=X.A) (vs:=its2.toArray) (by simpa using rds) rdv hl hd.2.1 (by have:=iW (iz ds) d.depth;omega)
   obtain⟨h1,h2,h3⟩:=dM.mp hj
   refine call_meets uX ⟨_,e3,rfl⟩ PySem.F.entry_tuple_index (PySem.F.args_tuple_index_2 _ _)
    (qh p its2.toArray n3 dd sl _ (fun y=>iY (SeqAt.readOf s2.heap y) d) j (by rw [aG];omega) ?_ ?_) ⟨e3,heq,?_⟩
   ·have:=hget j (by omega) hjl
    simp only [Bb,this];exact h2
   ·intro m hm hmj
    rw [aG] at hm
    have:=hget m hm (by exact cM (by assumption) (by assumption))
    simp only [Bb,this]
    simpa using h3 m hmj
   ·exact⟨.int j,H2,I2.tok _,⟨_,rfl⟩,q⟩
theorem Cs {K:KX}{σ:St}{H:Hp}{Q:VK}{o:ME}{a:MA} (h:tM K (mMT fq o a) σ H Q):Fp K (tM K o) (tMA K a) σ H Q:=by
 obtain⟨μ,S,ρ,u,S',hr,er,e,k⟩:=h
 obtain⟨x,S1,e1,e⟩:=ba e
 refine⟨μ,S,ρ,x,S1,hr,er,e1,fun μ1 vx H1 p1 k1 hr1 rx => ?_⟩
 cases x with
 | tup us=>
   obtain⟨xs,S2,e2,e⟩:=ba e
   obtain⟨p,vs,rfl,hp,rs⟩:=ic rx
   refine⟨⟨p,vs,rfl,hp⟩,μ1,S1,ρ,xs,S2,hr1,er.mono k1 p1,e2,fun μ2 ws H2 p2 k2 hr2 rws => ?_⟩
   unfold fq at e
   split at e
   ·rename_i x
    obtain⟨v,r,rfl,rx',rn⟩:=rws.inv
    rw [rn.nil_inv]
    cases q:Ab S2 x us with
    | none=>rw [q] at e;cases e
    | some j=>
      rw [q] at e;cases e
      unfold Ab at q
      cases q1:dq (toD S' 39) us with
      | none=>rw [q1] at q;cases q
      | some ds=>
        rw [q1] at q
        simp only [ao] at q
        cases q2:toD S' 40 x with
        | none=>rw [q2] at q;cases q
        | some d=>
          rw [q2] at q
          simp only [ao] at q
          obtain⟨l1,l2⟩:=oa (mh (fun x y z=>nU S' 39 x y z) q1)
          exact⟨p,vs,v,ds,d,j,rfl,rfl,k2 p vs hp,og hr2 (oj hr2 39) q1 (RUs.mono k2 p2 _ _ rs),l1,by exact aK (by assumption) (by decide),uA hr2 rx' q2,q,k μ2 _ H2 (p1.trans p2) (k1.trans k2) hr2 dD⟩
   ·cases e
 | _=>cases e
end
end G
end
section
namespace G
open PySem PySem.Spec L2
open PyProof.Rows hiding St
section
theorem Cm {h h':Heap}{o:Obj} (hk : ∀ b x,b ∉ [h.objs.size]->(h.push o).get? b=some x->h'.get? b=some x) : ∀ b x,h.get? b=some x->h'.get? b=some x:=
 fun b x e=>hk b x (fun hm=>by rw [dG.mp hm] at e;exact bB _ (aD e)) (ar _ e)
theorem vN (bs:List Bool):((aA bs.length).all fun i=>(bs[i]?).getD true)=bs.all id:=by
 rw [Bool.eq_iff_iff,bA,bA]
 constructor
 ·intro h b hb
  obtain⟨i,hi,rfl⟩:=List.getElem_of_mem hb
  have:=h i (aP.mpr hi)
  simpa [bO hi] using this
 ·intro h i hi
  have hi':=aP.mp hi
  simp only [bO hi',Option.getD_some]
  exact h _ (qZ hi')
theorem yp {bs:List Bool} : ∀ {us:List Value}{i:Nat}{v:Value},bW (bs.map V.bl) us->us[i]? = some v -> ∃ b,bs[i]? = some b/\v = .bool b:=fun {us i v} r h=>by
 have hl:=r.length
 rw [aI] at hl
 have hi:i < bs.length:=by rw [hl];exact (af.mp h).1
 obtain⟨u,hu,ru⟩:=r.get (i:=i) (x := .bl bs[i]) (by simp [hi])
 rw [h] at hu;cases hu
 exact⟨bs[i],by simp [hi],ru⟩
section
variable {X:Cx}
theorem yl (hc:X.calm=true):gz X (.builtin "all") (fun xs H Q => ∃ (p:Addr) (bs:List Bool),xs = [.ref p]/\SqL X.K H p (bs.map V.bl)/\Q (.bl (bs.all id)) H):=by
 intro pins s σ H xs us Q I rs h
 obtain⟨p,bs,rfl,hS,q⟩:=h
 cases rs with
 | cons r1 rr=>
   cases rr
   cases (show _=bj p from r1)
   obtain⟨its,rv,pl,_⟩:=I.list hS
   have hl:=pl.isList
   have hlt:p < s.heap.objs.size:=by obtain⟨_,e,_⟩:=hl;exact aD e
   refine call_all_walk (wpAny_pyIter_list hl ?_)
   refine⟨s.heap.objs.size,[s.heap.objs.size,p],[s.heap.objs.size],its.toArray.size,_,_,fun i=>(bs[i]?).getD true,rfl,Walks.list (A:=X.A.in1) (I.ok.hd hc) _ p (bg hlt) its.toArray,
    ⟨⟨_,aF _ rfl,rfl,rfl⟩,hl.push _⟩,fun i v s' Q' E' hP hQ => ?_,fun h' tk hk => ?_⟩
   ·obtain⟨b,e,rfl⟩:=yp rv (by simpa using hP)
    simp only [e,Option.getD_some] at hQ
    exact fF hQ
   ·have e:((aA its.toArray.size).all fun i=>(bs[i]?).getD true)=bs.all id:=by
     rw [aG,<- rv.length,aI];exact vN bs
    rw [e]
    exact⟨.bl _,H,I.kept (Cm hk),rfl,q⟩
end
noncomputable def jN:U->Option Bool
 | .bl b=>some b
 | _=>none
noncomputable def pQ:MF:=fun us S=>match us with
 | [.ref n]=>(getL S n).bind fun xs=>(dq jN xs).map fun bs=>(.bl (bs.all id),S)
 | _=>none
theorem sW {H:Hp}{μ:List Addr} : ∀ {us:List U}{vs:List V}{bs:List Bool},RUs H μ us vs->dq jN us=some bs->vs=bs.map V.bl
 | [],vs,bs,r,e=>by cases e;rw [r.nil_inv];rfl
 | u::us,vs,bs,r,e=>by
   obtain⟨v,r',rfl,a,b⟩:=r.inv
   unfold dq at e
   cases u with
   | bl x=>
     simp only [jN,ao] at e
     cases q:dq jN us with
     | none=>rw [q] at e;cases e
     | some cs=>
       rw [q] at e;cases e
       rw [lr a,sW b q];rfl
   | _=>cases e
section
variable {K:KX}
theorem FJ:ny K (fun xs H Q => ∃ (p:Addr) (bs:List Bool),xs = [.ref p]/\SqL K H p (bs.map V.bl)/\Q (.bl (bs.all id)) H) pQ:=by
 intro μ S H us vs u S' Q hr rs e a
 unfold pQ at e
 split at e
 ·rename_i n
  obtain⟨v,r,rfl,rx,rn⟩:=rs.inv
  rw [rn.nil_inv]
  cases q:getL S n with
  | none=>rw [q] at e;cases e
  | some xs=>
    rw [q] at e
    simp only [ao] at e
    cases q2:dq jN xs with
    | none=>rw [q2] at e;cases e
    | some bs=>
      rw [q2] at e;cases e
      obtain⟨p,rfl,hp⟩:=gO rx
      obtain⟨p',ys,hp',hs,r'⟩:=hr.sq q
      rw [hp] at hp';cases hp'
      rw [sW r' q2] at hs
      exact⟨p,bs,rfl,hs,a.now hr jb⟩
 ·cases e
end
end
end G
end
section
namespace G
open PySem PySem.Spec L2
open PyProof.Rows hiding St
section
noncomputable def eI:U->Option V
 | .non=>some .non
 | .bl b=>some (.bl b)
 | .int i=>some (.int i)
 | .str x=>some (.str x)
 | _=>none
noncomputable def oIn:F2:=fun x y S=>match fP S y with
 | some kvs=>(keyOf x).map fun k=>(.bl (pk kvs k).isSome,S)
 | none=>(eI x).bind fun vx=>(du S y).bind fun ys=>(dq eI ys).map fun vs=>(.bl (inV vx vs),S)
noncomputable def jZ:F2:=fun x y S=>match fP S y with
 | some kvs=>(keyOf x).map fun k=>(.bl (!(pk kvs k).isSome),S)
 | none=>(eI x).bind fun vx=>(du S y).bind fun ys=>(dq eI ys).map fun vs=>(.bl (!inV vx vs),S)
theorem rH {H:Hp}{μ:List Addr}{u:U}{v w:V} (e:eI u=some v) (r:RU H μ u w):w=v/\ll v=true:=by
 cases u <;> simp only [eI,ei,reduceCtorEq] at e <;> subst e <;> exact⟨by simpa only [RU] using r,rfl⟩
theorem oV {H:Hp}{μ:List Addr} : ∀ {us:List U}{vs ws:List V},dq eI us=some vs->RUs H μ us ws->ws=vs/\vs.all ll=true
 | [],vs,ws,e,r=>by cases e;rw [r.nil_inv];exact⟨rfl,rfl⟩
 | u::us,vs,ws,e,r=>by
   obtain⟨v,r',rfl,a,b⟩:=r.inv
   unfold dq at e
   cases q1:eI u with
   | none=>rw [q1] at e;cases e
   | some x=>
     cases q2:dq eI us with
     | none=>rw [q1,q2] at e;cases e
     | some xs=>
       rw [q1,q2] at e;cases e
       obtain⟨e1,f1⟩:=rH q1 a
       obtain⟨e2,f2⟩:=oV q2 b
       exact⟨by rw [e1,e2],by rw [bK,f1,f2];rfl⟩
section
variable {K:KX}
noncomputable def BU (K:ai) (neg:Bool):R2:=fun y x H Q=>rIn K neg y x H Q \/ ∃ a o,x = .ref a/\qc H a y o/\Q (.bl (if neg then !o.isSome else o.isSome)) H
theorem En {X:Cx} (hu:X.A.units+1 < cLine):OpR X (compareOp .In) (BU X.K false):=by
 intro pins s σ H x y v u Q I rx ry h
 rcases h with h | ⟨a,o,rfl,g,q⟩
 ·exact xU pins s σ H x y v u Q I rx ry h
 ·obtain rfl:u=bj a:=ry
  exact JD hu I g rx fun s3 I3=>⟨.bl o.isSome,H,I3,rfl,q⟩
theorem yA {X:Cx} (hu:X.A.units+1 < cLine):OpR X (compareOp .NotIn) (BU X.K true):=by
 intro pins s σ H x y v u Q I rx ry h
 rcases h with h | ⟨a,o,rfl,g,q⟩
 ·exact rO pins s σ H x y v u Q I rx ry h
 ·obtain rfl:u=bj a:=ry
  exact BS hu I g rx fun s3 I3=>⟨.bl (!o.isSome),H,I3,rfl,q⟩
theorem Hn:OpU K (BU K false) oIn:=by
 intro μ S H x y vx vy u S' Q hr rx ry e a
 unfold oIn at e
 split at e
 ·rename_i kvs qd
  cases qk:keyOf x with
  | none=>rw [qk] at e;cases e
  | some kk=>
    rw [qk] at e;cases e
    obtain⟨p,vs,rfl,hp,r⟩:=hr.dic ry qd
    have hl:kvs.length=vs.length:=by have:=r.len;rwa [aI] at this
    refine .inr ⟨p,_,rfl,.inl ⟨_,kk,.inl hp,nZ rx qk,rfl⟩,?_⟩
    simp only [dj,if_false]
    rw [oG hl]
    exact a.now hr jb
 refine .inl ?_
 cases q1:eI x with
 | none=>rw [q1] at e;cases e
 | some fx=>
   cases q2:du S y with
   | none=>rw [q1,q2] at e;cases e
   | some ys=>
     cases q3:dq eI ys with
     | none=>rw [q1,q2] at e;simp only [ao,q3] at e;cases e
     | some vs=>
       rw [q1,q2] at e;simp only [ao,q3] at e;cases e
       obtain⟨rfl,f1⟩:=rH q1 rx
       obtain⟨p,zs,rfl,hs,r'⟩:=hr.seq ry q2
       obtain⟨rfl,f2⟩:=oV q3 r'
       exact⟨p,zs,rfl,hs,f1,f2,a.now hr jb⟩
theorem zB:OpU K (BU K true) jZ:=by
 intro μ S H x y vx vy u S' Q hr rx ry e a
 unfold jZ at e
 split at e
 ·rename_i kvs qd
  cases qk:keyOf x with
  | none=>rw [qk] at e;cases e
  | some kk=>
    rw [qk] at e;cases e
    obtain⟨p,vs,rfl,hp,r⟩:=hr.dic ry qd
    have hl:kvs.length=vs.length:=by have:=r.len;rwa [aI] at this
    refine .inr ⟨p,_,rfl,.inl ⟨_,kk,.inl hp,nZ rx qk,rfl⟩,?_⟩
    simp only [if_true]
    rw [oG hl]
    exact a.now hr jb
 refine .inl ?_
 cases q1:eI x with
 | none=>rw [q1] at e;cases e
 | some fx=>
   cases q2:du S y with
   | none=>rw [q1,q2] at e;cases e
   | some ys=>
     cases q3:dq eI ys with
     | none=>rw [q1,q2] at e;simp only [ao,q3] at e;cases e
     | some vs=>
       rw [q1,q2] at e;simp only [ao,q3] at e;cases e
       obtain⟨rfl,f1⟩:=rH q1 rx
       obtain⟨p,zs,rfl,hs,r'⟩:=hr.seq ry q2
       obtain⟨rfl,f2⟩:=oV q3 r'
       exact⟨p,zs,rfl,hs,f1,f2,a.now hr jb⟩
end
noncomputable def nz (ns:List Int):List Int:=ns.mergeSort fun i j=>decide (i<=j)
noncomputable def oW:U->Option Int
 | .int i=>some i
 | _=>none
noncomputable def vB (n:Nat):Prop:=n < 64
noncomputable instance (n:Nat):Decidable (vB n):=bR _
noncomputable def tz (S:Sto) (x:U):Option (List Int):=match fP S x with
 | some _=>none
 | none=>(du S x).bind fun xs=>dq oW xs
noncomputable def gY:MF:=fun us S=>match us with
 | [x]=>(tz S x).bind fun ns=>if vB ns.length then some (.ref S.length,S ++ [.lst ((nz ns).map U.int)]) else none
 | _=>none
theorem ij (ns:List Int):(nz ns).Perm ns:=List.mergeSort_perm _ _
theorem uQ (ns:List Int):(nz ns).Pairwise (· <= ·):=by
 have h:=List.pairwise_mergeSort (le:=fun (i j:Int)=>decide (i<=j)) (fun a b c h1 h2=>by simp at *;omega) (fun a b=>by simp;omega) ns
 exact h.imp fun h=>by simpa using h
theorem nv : ∀ {as bs:List Int},as.Perm bs->as.Pairwise (· <= ·)->bs.Pairwise (· <= ·)->as=bs
 | [],bs,p,_,_=>by rw [List.nil_perm.mp p]
 | a::as,[],p,_,_=>by cases List.perm_nil.mp p
 | a::as,b::bs,p,h1,h2=>by
   rw [List.pairwise_cons] at h1 h2
   have e:a=b:=by
    have m1:a∈b::bs:=p.subset (by simp)
    have m2:b∈a::as:=p.symm.subset (by simp)
    rcases aR.mp m1 with e | m1
    ·exact e
    ·rcases aR.mp m2 with e | m2
     ·exact e.symm
     ·have:=h1.1 b m2;have:=h2.1 a m1;omega
   subst e
   rw [nv (List.perm_cons _ |>.mp p) h1.2 h2.2]
theorem uw {ns ms:List Int} (p:ms.Perm ns) (h:ms.Pairwise (· <= ·)):ms=nz ns:=nv (p.trans (ij ns).symm) h (uQ ns)
theorem wR {H:Hp}{μ:List Addr} : ∀ {us:List U}{vs:List V}{ns:List Int},RUs H μ us vs->dq oW us=some ns->vs=ns.map V.int
 | [],vs,ns,r,e=>by cases e;rw [r.nil_inv];rfl
 | u::us,vs,ns,r,e=>by
   obtain⟨v,r',rfl,a,b⟩:=r.inv
   unfold dq at e
   cases u with
   | int x=>
     simp only [oW,ao] at e
     cases q:dq oW us with
     | none=>rw [q] at e;cases e
     | some cs=>
       rw [q] at e;cases e
       rw [cy a,wR b q];rfl
   | _=>cases e
theorem intsAre_of : ∀ {ns:List Int}{us:List Value},bW (ns.map V.int) us->IntsAre us ns
 | [],us,r=>by cases r;exact .nil
 | n::ns,us,r=>by
   cases r with
   | cons a b=>
     obtain⟨t,rfl⟩:=a
     exact .cons n t (intsAre_of b)
theorem ng : ∀ {ns:List Int}{us:List Value},IntsAre us ns->bW (ns.map V.int) us
 | _,_,.nil => .nil
 | _,_,.cons n t r => .cons ⟨t,rfl⟩ (ng r)
theorem kc : ∀ {ns:List Int}{us:List Value},IntsAre us ns->us.length=ns.length
 | _,_,.nil=>rfl
 | _,_,.cons n t r=>by simp [kc r]
theorem vn {prog:Program}{w:World}{A:Around}{E:Value->Shared->Prop}{s:Shared}{Q:List Value->Shared->Prop} (it:Addr) {T:String}{o:Obj}{items:Array Value}{n:Nat} (hT:T="list"\/T="tuple")
  (ho:s.heap.get? it=some o) (hc:o.cls = .type T) (hd:o.data = .seq items n) (hsz:items.size<=sizeLine)
  (hQ : ∀ h',(∀ b o',s.heap.get? b=some o'->h'.get? b=some o')->s.heap.objs.size<=h'.objs.size->Q items.toList { s with heap:=h' }) :
  aJ (model prog w) A (collect (.ref it)) Q E s:=by
 unfold collect
 refine aj (wpAny_runValue (yQ F.entry_proto_collect ?_))
 rw [yZ F.plain_proto_collect _]
 show aJ _ A.in1 (newList [] >>= fun l=>again (.builtin "list.__iadd__" ⟨[l,.ref it],[]⟩)) _ _ s
 refine aj (d8 (bc ⟨plainId_quiet F.plain_list_iadd _,yQ F.entry_list_iadd ?_⟩))
 rw [yZ F.plain_list_iadd _]
 have hS:(s.heap.push { cls := .type "list",data := .seq ([]:List Value).toArray }).get? s.heap.objs.size=some { cls := .type "list",data := .seq #[] 0 }:=aF _ rfl
 have hS₂:=eQ (eJ (· ++ items)) hS rfl
 refine bJ (wpAny_extend_seq (hsz:=hsz) (A:=A) (R:=fun r s'=>r = .ok (.ret (.ref s.heap.objs.size))/\s'={ s with heap:=(s.heap.push { cls := .type "list",data := .seq ([]:List Value).toArray }).update s.heap.objs.size (eJ (· ++ items)) })
  (s:={ s with heap:=s.heap.push { cls := .type "list",data := .seq ([]:List Value).toArray } }) _ it _ 0 hT hS (ar _ ho) hc hd ⟨rfl,rfl⟩) (fun fin s' h => ?_) (fun e s' h=>absurd h.1 (by simp))
 have fin':aJ (model prog w) A (match bj s.heap.objs.size with
   | bj a=>do
     match (<- load a).data with
      | Data.seq xs _=>pure xs.toList
      | _=>unsupported "internal:collect"
   | _=>unsupported "internal:collect") Q E { s with heap:=(s.heap.push { cls := .type "list",data := .seq ([]:List Value).toArray }).update s.heap.objs.size (eJ (· ++ items)) }:=by
  show aJ _ A (load s.heap.objs.size >>= _) _ _ _
  refine aj (wpAny_load hS₂ (bc ?_))
  show Q ((#[]:Array Value)++items).toList _
  rw [show ((#[]:Array Value)++items).toList=items.toList by simp]
  exact hQ _ (fun b o' hb=>(eB _ _ (bY (aD hb))).trans (ar _ hb)) (by rw [Heap.size_update,size_push'];exact ck _)
 cases fin with
 | done f=>
   obtain⟨e,rfl⟩:=h
   cases e
   exact fin'
 | again c'=>exact⟨h.1,jF h.2 fun r s'' hr=>by obtain⟨rfl,rfl⟩:=hr;exact fin'⟩
theorem oZ {prog:Program}{w:World}{A:Around}{E:Value->Shared->Prop}{s:Shared}{l:Addr}{T:String}{o:Obj}{n:Nat}{vs:List Value}{ns:List Int}{Q:Value->Shared->Prop} (hT:T="list"\/T="tuple")
  (ho:s.heap.get? l=some o) (hc:o.cls = .type T) (hd:o.data = .seq vs.toArray n) (hI:IntsAre vs ns) (h64:vs.length < 64)
  (h : ∀ (out:Array Value) (ns':List Int) (a:Addr) (e:Nat) (h':Heap),IntsAre out.toList ns'->ns'.Perm ns->ns'.Pairwise (· <= ·)->s.heap.objs.size<=a->(∀ b o',s.heap.get? b=some o'->h'.get? b=some o') ->
   h'.get? a=some (seqObj "list" out e)->Q (.ref a) { s with heap:=h' }) :
  aJ (model prog w) A (call (.builtin "sorted") [.ref l]) Q E s:=by
 refine Calls.call_function_entry kind_sorted plain_sorted entry_sorted (args_sorted1 _) ?_
 unfold Builtin.«sorted»
 refine aj (m:=checkCount "sorted" 1 1 _) (bc ?_)
 refine aj (vn l hT ho hc hd (by rw [aG,sizeLine_eq];omega) fun h1 hk hle => ?_)
 refine aj (wpAny_newList ?_)
 have hoL:(h1.push (seqObj "list" vs.toArray 0)).get? h1.objs.size=some (seqObj "list" vs.toArray 0):=aF _ rfl
 show aJ _ _ _ _ _ { s with heap:=h1.push (seqObj "list" vs.toArray 0) }
 refine aj (qY (dJ slot_list_sort ⟨_,hoL,rfl⟩ entry_list_sort (list_sort_tree hoL hI h64 fun out ns' a1 a2 a3=>⟨_,rfl,?_⟩) (args_list_sort _)))
 obtain⟨e,he⟩:=sortedHeap_at (out:=out) hoL
 exact bc ⟨_,rfl,h out ns' _ e _ a1 a2 a3 hle (fun b o' hb=>by
  have hb1:=hk b o' hb
  have hlt:=aD hb1
  rw [sortedHeap_old (bg hlt) (by rw [size_push'];exact eZ hlt),Heap.get?_push_ne _ _ _ (bg hlt)]
  exact hb1) he⟩
section
variable {X:Cx}
noncomputable def xh (K:ai):List V->Hp->VK->Prop:=fun xs H Q => ∃ (p:Addr) (ns:List Int),xs = [.ref p]/\((SqL K H p (ns.map V.int)\/SqT K H p (ns.map V.int))\/False)/\ns.length < 64 /\ ∀ l,H l=none->Q (.ref l) (upd H l (.lst ((nz ns).map V.int)))
theorem ui (hc:X.calm=true):gz X (.builtin "sorted") (xh X.K):=by
 intro pins s σ H xs us Q I rs h
 obtain⟨p,ns,rfl,hS,h64,q⟩:=h
 cases rs with
 | cons r1 rr=>
   cases rr
   cases (show _=bj p from r1)
   have fin : ∀ (out:Array Value) (ns':List Int) (a:Addr) (e:Nat) (h':Heap) (tk:Nat),IntsAre out.toList ns'->ns'.Perm ns->ns'.Pairwise (· <= ·)->s.heap.objs.size<=a->(∀ b o',s.heap.get? b=some o'->h'.get? b=some o') ->
    h'.get? a=some (seqObj "list" out e)->EP X pins σ Q (.ref a) { s with heap:=h',toks:=tk }:=by
    intro out ns' a e h' tk a1 a2 a3 hle hk he
    have e':=uw a2 a3
    subst e'
    refine⟨.ref a,_,I.laid (t':=tk) (o := .lst ((nz ns).map V.int)) hk hle ?_,rfl,q _ (I.hok.fresh hle)⟩
    refine⟨by rw [aI,(ij ns).length_eq,sizeLine_eq];omega,out.toList,e,ng a1,?_⟩
    rw [he]
   rcases hS with (hS | hS) | hS
   ·obtain⟨its,rv,pl,_⟩:=I.list hS
    have hl:=pl.isList
    obtain⟨o,ho,hc,n,hd⟩:=hl
    have hI:=intsAre_of rv
    exact oZ (.inl rfl) ho hc hd hI (by rw [kc hI];exact h64) fun out ns' a e h'=>fin out ns' a e h' s.toks
   ·obtain⟨its,rv,pl,_⟩:=I.tuple hS
    obtain⟨o,ho,hc,n,hd⟩:=pl
    have hI:=intsAre_of rv
    exact oZ (.inr rfl) ho hc hd hI (by rw [kc hI];exact h64) fun out ns' a e h'=>fin out ns' a e h' s.toks
   ·exact hS.elim
end
section
variable {K:KX}
theorem uL {H:Hp}{μ:List Addr} : ∀ ns:List Int,RUs H μ (ns.map U.int) (ns.map V.int)
 | [] => .nil
 | n::ns => .cons dD (uL ns)
theorem yF:ny K (xh K) gY:=by
 intro μ S H us vs u S' Q hr rs e a
 unfold gY at e
 split at e
 ·rename_i x
  obtain⟨v,r,rfl,rx,rn⟩:=rs.inv
  rw [rn.nil_inv]
  cases q:tz S x with
  | none=>rw [q] at e;cases e
  | some ns=>
    rw [q] at e;simp only [ao] at e
    split at e
    rotate_left
    ·cases e
    rename_i hc
    cases e
    unfold tz at q
    split at q
    ·cases q
    ·cases q1:du S x with
     | none=>rw [q1] at q;cases q
     | some ws=>
       rw [q1] at q
       obtain⟨p,ys,rfl,hs,r'⟩:=hr.seq rx q1
       rw [wR r' q] at hs
       exact⟨p,ns,rfl,.inl hs,hc,fun l hl=>mv a hr (uL _) hl⟩
 ·cases e
end
section
variable {X:Cx}
end
section
variable {K:KX}
end
end
end G
end
section
namespace G
open PySem PySem.Spec L2
open PyProof.Rows hiding St
section
section
variable {prog:Program}{w:World}{A:Around}{E:Value->Shared->Prop}{s:Shared}
end
section
variable {X:Cx}{e:Expr}{te:TE}{pos p2 p3 p4:Pos}{j:Nat}
end
section
variable {K:KX}{σ:St}{H:Hp}{Q:VK}
end
end
end G
end
section
namespace G
open PySem PySem.Spec L2
open PyProof.Rows hiding St
section
section
variable {K:KX}{σ:St}{H:Hp}{Q:VK}
noncomputable def vD:MF:=fun us S=>match us with
 | [.int i]=>some (.int i,S)
 | [.bl k]=>some (.int (if k then 1 else 0),S)
 | _=>none
noncomputable def HJ (i:Int):Prop:=i.natAbs.log2 < 1920
noncomputable instance (i:Int):Decidable (HJ i):=bR _
theorem EN:ny K (fun xs H Q=>(∃ i,xs = [.int i]/\Q (.int i) H) \/ ∃ k,xs = [.bl k]/\Q (.int (if k then 1 else 0)) H) vD:=by
 intro μ S H us vs u S' Q hr rs e a
 unfold vD at e
 split at e
 ·cases e
  obtain⟨v,r,rfl,rx,rn⟩:=rs.inv
  rw [rn.nil_inv,cy rx]
  exact .inl ⟨_,rfl,a.now hr dD⟩
 ·cases e
  obtain⟨v,r,rfl,rx,rn⟩:=rs.inv
  rw [rn.nil_inv,lr rx]
  exact .inr ⟨_,rfl,a.now hr dD⟩
 ·cases e
end
end
end G
end
section
namespace G
open PySem PySem.Spec L2
open PyProof.Rows hiding St
section
abbrev MG:=U->Rho->Sto->Option (Rho×Sto)
abbrev MGs:=List U->Rho->Sto->Option (Rho×Sto)
noncomputable def gN (i:Nat):MG:=fun u ρ S=>some (ρ.set i (some u),S)
noncomputable def qW:MGs:=fun us ρ S=>match us with
 | []=>some (ρ,S)
 | _=>none
noncomputable def gK (g:MG) (r:MGs):MGs:=fun us ρ S=>match us with
 | []=>none
 | u::us=>(g u ρ S).bind fun p=>r us p.1 p.2
noncomputable def gTp (n:Nat) (gs:MGs):MG:=fun u ρ S=>match u with
 | .tup us=>if us.length=n then gs us ρ S else none
 | _=>none
noncomputable def tG (K:KX) (g:MG):TG:=fun v σ H Q => ∃ μ S ρ u r,HR K μ S H/\ER H μ ρ σ/\RU H μ u v/\g u ρ S=some r /\ ∀ μ' σ' H',Pre μ μ'->bh H H'->HR K μ' r.2 H'->ER H' μ' r.1 σ'->Q σ' H'
noncomputable def tGs (K:KX) (g:MGs):TGs:=fun vs σ H Q => ∃ μ S ρ us r,HR K μ S H/\ER H μ ρ σ/\RUs H μ us vs/\g us ρ S=some r /\ ∀ μ' σ' H',Pre μ μ'->bh H H'->HR K μ' r.2 H'->ER H' μ' r.1 σ'->Q σ' H'
theorem PG.con {X:Cx}{tg:Expr}{t u:TG} (h:PG X tg t) (k : ∀ v σ H Q,u v σ H Q->t v σ H Q):PG X tg u:=fun pins s σ H v w Q I r q=>h pins s σ H v w Q I r (k _ _ _ _ q)
theorem PGs.con {X:Cx}{tg:List Expr}{t u:TGs} (h:PGs X tg t) (k : ∀ v σ H Q,u v σ H Q->t v σ H Q):PGs X tg u:=fun pins s σ H v w Q I r q=>h pins s σ H v w Q I r (k _ _ _ _ q)
section
variable {K:KX}{σ:St}{H:Hp}{Q:St->Hp->Prop}{v:V}{D:Ends}
theorem JE {i:Nat} (h:tG K (gN i) v σ H Q):gS i v σ H Q:=by
 obtain⟨μ,S,ρ,u,r,hr,er,ru,e,k⟩:=h
 cases e
 exact k μ _ H (Pre.refl _) (bh.refl _) hr (er.set ru i)
theorem Fj {vs:List V} (h:tGs K qW vs σ H Q):Io vs σ H Q:=by
 obtain⟨μ,S,ρ,us,r,hr,er,rs,e,k⟩:=h
 cases us with
 | nil=>cases e;exact⟨rs.nil_inv,k μ _ H (Pre.refl _) (bh.refl _) hr er⟩
 | cons u us=>cases e
theorem BK {g:MG}{gs:MGs}{vs:List V} (h:tGs K (gK g gs) vs σ H Q):Da (tG K g) (tGs K gs) vs σ H Q:=by
 obtain⟨μ,S,ρ,us,r,hr,er,rs,e,k⟩:=h
 cases us with
 | nil=>cases e
 | cons u us=>
   obtain⟨v,vr,rfl,ra,rb⟩:=rs.inv
   cases q:g u ρ S with
   | none=>rw [show gK g gs (u::us) ρ S=(g u ρ S).bind fun p=>gs us p.1 p.2 from rfl,q] at e;cases e
   | some p=>
     rw [show gK g gs (u::us) ρ S=(g u ρ S).bind fun p=>gs us p.1 p.2 from rfl,q] at e
     refine⟨v,vr,rfl,μ,S,ρ,u,p,hr,er,ra,q,fun μ1 σ1 H1 p1 k1 hr1 er1 => ?_⟩
     exact⟨μ1,p.2,p.1,us,r,hr1,er1,RUs.mono k1 p1 _ _ rb,e,fun μ2 σ2 H2 p2 k2=>k μ2 σ2 H2 (p1.trans p2) (k1.trans k2)⟩
theorem Ig {n:Nat}{gs:MGs} (h:tG K (gTp n gs) v σ H Q):Hk K n (tGs K gs) v σ H Q:=by
 obtain⟨μ,S,ρ,u,r,hr,er,ru,e,k⟩:=h
 unfold gTp at e
 split at e
 ·rename_i us
  split at e
  ·rename_i hl
   obtain⟨a,vs,rfl,ha,rs⟩:=ic ru
   exact⟨a,vs,rfl,.inl (.inl ha),by rw [<- rs.len];exact hl,μ,S,ρ,us,r,hr,er,rs,e,k⟩
  ·cases e
 ·cases e
end
end
end G
end
section
namespace G
open PySem PySem.Spec L2
open PyProof.Rows hiding St
section
noncomputable def pE (g:MG) (b:MS):List U->MS
 | [],ρ,S=>some (.nx,ρ,S)
 | x::xs,ρ,S=>(g x ρ S).bind fun p=>aft (b p.1 p.2) (pE g b xs)
noncomputable def DD (g:MG) (b:MS) (n:Nat):Nat->Nat->MS
 | 0,_,_,_=>none
 | f+1,k,ρ,S=>(getL S n).bind fun us=>match us[k]? with
   | none=>some (.nx,ρ,S)
   | some x=>(g x ρ S).bind fun p=>aft (b p.1 p.2) (DD g b n f (k+1))
noncomputable def DG (g:MG) (b:MS) (n:Nat):Nat->Nat->MS
 | 0,_,_,_=>none
 | f+1,k,ρ,S=>(getL S n).bind fun us=>match us[k]? with
   | none=>some (.nx,ρ,S)
   | some x=>(g (.tup [.int k,x]) ρ S).bind fun p=>aft (b p.1 p.2) (DG g b n f (k+1))
noncomputable def Gw (g:MG) (b:MS):Src->MS
 | .imm us=>pE g b us
 | .mut n=>DD g b n fuel 0
 | .enl n=>DG g b n fuel 0
 | _=>fun _ _=>none
noncomputable def qC (g:MG) (it:MI) (b:MS):MS:=fun ρ S=>bnd (it ρ S) fun src S1=>Gw g b src ρ S1
section
variable {K:KX}{σ:St}{H:Hp}{Q:VK}{D:Ends}
theorem AV {g:MG}{b:MS}{ρ:Rho}{S:Sto}{x:U}{v:V}{μ μ0:List Addr}{H0:Hp}{k:MS}{r:Fl×Rho×Sto}{N:St->Hp->Prop} (hr:HR K μ S H) (er:ER H μ ρ σ) (rx:RU H μ x v) (e:((g x ρ S).bind fun p=>aft (b p.1 p.2) k)=some r) (p:Pre μ0 μ) (kp:bh H0 H) (fl:FlP K μ0 H0 D r)
  (hN : ∀ μ1 σ1 H1 ρ1 S1,Pre μ0 μ1->bh H0 H1->HR K μ1 S1 H1->ER H1 μ1 ρ1 σ1->k ρ1 S1=some r->N σ1 H1):tG K g v σ H fun σ2 H2=>tMS K b { D with nx:=N,ct:=N,bk:=D.nx } σ2 H2:=by
 cases q:g x ρ S with
 | none=>rw [q] at e;cases e
 | some y=>
   rw [q] at e
   exact⟨μ,S,ρ,x,y,hr,er,rx,q,fun μ1 σ1 H1 p1 k1 hr1 er1=>kE hr1 er1 e (p.trans p1) (kp.trans k1) fl hN⟩
theorem Cg {a:MA}{R:It->Hp->Prop}{μ:List Addr}{S S1:Sto}{ρ:Rho}{src:Src} (hr:HR K μ S H) (er:ER H μ ρ σ) (e:nB a ρ S=some (src,S1))
  (hR : ∀ μ1 H1 us p vs,Pre μ μ1->bh H H1->HR K μ1 S1 H1->src = .imm (gW us)->H1 p=some (.tup vs)->RUs H1 μ1 us vs->R (Ite K p) H1):rW K (tMA K a) σ H R:=by
 obtain⟨xs,S2,e1,e⟩:=ba e
 split at e
 ·rename_i us
  cases e
  refine⟨μ,S,ρ,_,_,hr,er,e1,fun μ1 vs H1 p1 k1 hr1 rs => ?_⟩
  obtain⟨v,r,rfl,rx,rn⟩:=rs.inv
  rw [rn.nil_inv]
  obtain⟨p,vs,rfl,hp,r⟩:=ic rx
  exact .inl ⟨p,vs,rfl,.inl (.inl hp),hR μ1 H1 _ p vs p1 k1 hr1 rfl hp r⟩
 ·cases e
theorem B7 {g:MG}{b:MS}{us:List U}{vs:List V}{ρ:Rho}{S:Sto}{μ:List Addr}{a:Addr}{r:Fl×Rho×Sto} (hr:HR K μ S H) (er:ER H μ ρ σ) (e:pE g b (gW us) ρ S=some r) (fl:FlP K μ H D r) (ha:H a=some (.tup vs)) (ru:RUs H μ us vs) :
  ∃ W:Nat->Nat->St->Hp->Prop,(∃ m,W 0 m σ H) /\ ∀ k m σ H,W k m σ H ->
   ((Ite K a).stop k H/\D.nx σ H)\/((Ite K a).go k H /\ ∃ N:St->Hp->Prop,(∀ σ' H',N σ' H' -> ∃ m',m' < m/\W (k+1) m' σ' H') /\ ∀ x H',(Ite K a).yld k H x H'->tG K g x σ H' fun σ2 H2=>tMS K b { D with nx:=N,ct:=N,bk:=D.nx } σ2 H2):=by
 have hlen:(gW us).length=us.length:=by simp [gW]
 refine⟨fun k m σ1 H1=>m+k=us.length /\ ∃ μ1 S1 ρ1,Pre μ μ1/\bh H H1/\HR K μ1 S1 H1/\ER H1 μ1 ρ1 σ1/\pE g b ((gW us).drop k) ρ1 S1=some r,⟨us.length,rfl,μ,S,ρ,Pre.refl _,bh.refl _,hr,er,e⟩,?_⟩
 rintro k m σ1 H1 ⟨hm,μ1,S1,ρ1,p1,k1,hr1,er1,e1⟩
 have hq:SqT K H1 a vs := .inl (.inl (k1 a vs ha))
 cases m with
 | zero=>
   have hk:k=(gW us).length:=by omega
   subst hk
   rw [kO] at e1
   cases e1
   exact .inl ⟨⟨vs,hq,by rw [hlen,ru.len];exact ak _⟩,fl μ1 σ1 H1 p1 k1 hr1 er1⟩
 | succ m=>
   have hk:k < us.length:=by omega
   have hu:us[k]? = some us[k]:=by simp [hk]
   obtain⟨v,hv,rv⟩:=ru.get hu
   have hu2:(gW us)[k]? = some (.tup [.int k,us[k]]):=by simp [gW,Bc,hk]
   rw [drop_cons hu2] at e1
   refine .inr ⟨⟨vs,v,hq,hv⟩,fun σ2 H2 => ∃ μ2 S2 ρ2,Pre μ μ2/\bh H H2/\HR K μ2 S2 H2/\ER H2 μ2 ρ2 σ2/\pE g b ((gW us).drop (k+1)) ρ2 S2=some r,fun σ' H' w=>⟨m,cR _,by omega,w⟩,fun x H' y => ?_⟩
   obtain⟨T,u,hy,hT,rfl,rfl⟩:=y
   have hyk:=hy vs hq
   rw [hv] at hyk;cases hyk
   have kp:bh H1 (upd H1 T (.tup [.int k,v])):=bh.new hT
   have rx:RU (upd H1 T (.tup [.int k,v])) μ1 (.tup [.int k,us[k]]) (.ref T):=jk cq (.cons dD (.cons (RU.mono (k1.trans kp) p1 _ _ rv) .nil))
   exact AV (hr1.tup hT) (er1.mono kp (Pre.refl _)) rx e1 p1 (k1.trans kp) fl fun μ2 σ2 H2 ρ2 S2 p2 k2 hr2 er2 e2=>⟨μ2,S2,ρ2,p2,k2,hr2,er2,e2⟩
theorem HG {g:MG}{a:MA}{b:MS} (h:tMS K (qC g (nB a) b) D σ H):rZ (rW K (tMA K a)) (tG K g) (tMS K b) D σ H:=by
 obtain⟨μ,S,ρ,r,hr,er,e,fl⟩:=h
 obtain⟨src,S1,e1,e⟩:=ba e
 refine Cg hr er e1 (fun μ1 H1 us p vs p1 k1 hr1 hs hp rs => ?_)
 subst hs
 exact B7 hr1 (er.mono k1 p1) e (fl.mono p1 k1) hp rs
end
end
end G
end
section
namespace G
open PySem PySem.Spec L2
open PyProof.Rows hiding St
section
section
variable {K:KX}{σ:St}{H:Hp}{Q:VK}
end
end
end G
end
section
namespace G
open PySem PySem.Spec L2
open PyProof.Rows hiding St
section
section
variable {prog:Program}{w:World}{A:Around}{E:Value->Shared->Prop}{s:Shared}
end
section
variable {K:KX}{σ:St}{H:Hp}{Q:VK}
end
end
end G
end
section
namespace G
open PySem PySem.Spec L2
open PyProof.Rows hiding St
section
noncomputable def ke (is:List Nat) (ρ:Rho):Option (List U):=dq (fun i=>(ρ[i]?).bind id) is
noncomputable def qj (np:Nat) (ml:ME) (cs:List U):MF:=fun us S=>if us.length=np then ml (us.map some++cs.map some) S else none
end
structure Lam (M:Mo) (f:Addr) (k:Nat) (ps:List Str) (φ:MF):Prop where
 ex : ∃ fd:FuncData,((∃ (oc:Value) (od:Option Addr) (sl:Array (Option Value)),M.base.get? f=some ⟨oc,od,.func fd,sl⟩)\/bN M.K (.ref f)=true)/\Binds M.K fd ps []/\gZ M.P M.w M.K M.mg M.base CX0 k f fd ps (spM M.K φ)
section
variable {M:Mo}{X:Cx}{k:Nat}{N:List Str}{ns:List (Str×NameKind)}{e:Expr}{es:List Expr}{mas:MA}{x:Str}{p1 pos:Pos}
end
end G
end
section
namespace G
open PySem PySem.Spec L2
open PySem.W (envX kla_fn kla_obj CodeHd tabObj)
open PyProof.Rows hiding St
structure i9 (ps fs:List Str) (scope:Scope):Prop where
 kind:scope.kind = .function
 co:scope.isCoroutine=false
 gen:scope.isGenerator=false
 nd:(ps++fs).Nodup
 par : ∀ p∈ps,scope.names.lookup p=some .local\/scope.names.lookup p=some .cell
 cel : ∀ x∈scope.names,x.2 = .cell->scope.names.lookup x.1=some .cell
 fre : ∀ y∈scope.names,y.2 = .free->y.1∈fs
 free : ∀ y∈fs,scope.names.lookup y=some .free
theorem lK : ∀ (names:List (Str×NameKind)) (n:Nat) (a b:List (Str×Addr)),cellsFrom n names (a++b)=cellsFrom n names a++b
 | [],_,_,_=>rfl
 | (x,k)::r,n,a,b=>by
   unfold cellsFrom
   cases k == b0 with
   | true=>exact lK r (n+1) ((x,n)::a) b
   | false=>exact lK r n a b
theorem yv (names:List (Str×NameKind)) (n:Nat) (b:List (Str×Addr)):cellsFrom n names b=cellsFrom n names []++b:=lK names n [] b
theorem mW : ∀ (names:List (Str×NameKind)) (n:Nat) (a:List (Str×Addr)) {x:Str}{c:Addr},(x,c)∈cellsFrom n names a->(x,b0)∈names\/(x,c)∈a
 | [],_,_,_,_,h => .inr h
 | (y,k)::r,n,a,x,c,h=>by
   unfold cellsFrom at h
   split at h
   ·rename_i hk
    rcases mW r (n+1) _ h with h | h
    ·exact .inl (av _ h)
    ·rcases aR.mp h with e | h
     ·cases e;rw [eq_of_beq hk];exact .inl aM
     ·exact .inr h
   ·exact (mW r n a h).imp (av _) id
theorem fv {α:Type}{x:Str}{c:α} : ∀ {a b:List (Str×α)},a.lookup x=some c->(a++b).lookup x=some c
 | a,b,h=>by rw [fT,h];rfl
theorem gM {α:Type}{x:Str} : ∀ {a b:List (Str×α)},a.lookup x=none->(a++b).lookup x=b.lookup x
 | a,b,h=>by rw [fT,h];rfl
theorem fU {α:Type}{x:Str}{c:α}{a b:List (Str×α)} (h:(a++b).lookup x=some c):a.lookup x=some c\/(a.lookup x=none/\b.lookup x=some c):=by
 cases q:a.lookup x with
 | some d=>rw [fv q] at h;exact .inl h
 | none=>rw [gM q] at h;exact .inr ⟨rfl,h⟩
theorem o7 {f g:Str×Value->PUnit->Sem (ForInStep PUnit)} : ∀ {l:List (Str×Value)},(∀ x∈l,∀ u,f x u=g x u)->forIn l nS f=forIn l nS g
 | [],_=>rfl
 | x::l,h=>by
   rw [iM,iM,h x aM]
   have ih:=o7 (l:=l) fun y hy=>h y (av _ hy)
   congr 1
   funext r
   cases r with
   | done u=>rfl
   | yield u=>exact ih
theorem vJ {env:Env}{cs:List (Str×Addr)}{x:Str}{v:Value} (h:env.kindOf x=some .local\/env.cells.lookup x=cs.lookup x):storeName env x v=storeName { env with cells:=cs } x v:=by
 rcases h with h | h
 ·have h':Env.kindOf { env with cells:=cs } x=some .local:=h
  unfold storeName
  rw [h,h']
  rfl
 ·have e:cellOf env x=cellOf { env with cells:=cs } x:=by unfold cellOf;rw [h]
  unfold storeName
  rw [e]
  rfl
theorem xb {M:Model}{A:Around}{E:Value->Shared->Prop}{s:Shared}{scope:Scope}{g:Addr}{cl:List (Str×Addr)}{binds:List (Str×Value)}{qual:Str}{func:Option Addr}{code:Value}{bt:Addr}{Q:Env->Shared->Prop} (hk:scope.kind = .function)
  (hb : ∀ x∈binds,scope.names.lookup x.1=some .local\/scope.names.lookup x.1=some .cell)
  (hQ : ∀ s',InCallC s s.heap.objs.size (bindL (fun x=>scope.names.lookup x) binds fun _=>none) (cellsFrom (s.heap.objs.size+1) scope.names []) (bindC (fun x=>scope.names.lookup x) binds fun _=>none) s' ->
   Q (newEnv scope s.heap.objs.size g (cellsFrom (s.heap.objs.size+1) scope.names []++cl) qual func code none bt) s') :
  aJ M A (newFunctionEnv scope g cl binds qual func code none bt) Q E s:=by
 have ok:CellsOk (pushCells (s.heap.push { cls := .type "frame",data := .dict #[] }) scope.names) (s.heap.objs.size+1) (cellsFrom (s.heap.push { cls := .type "frame",data := .dict #[] }).objs.size scope.names []):=
  cellsFrom_ok scope.names _ _ [] ⟨fun _ _ z=>(nomatch z),fH⟩ (by rw [bw];exact ak _)
 rw [bw] at ok
 have inC:InCallC s s.heap.objs.size (fun _=>none) (cellsFrom (s.heap.objs.size+1) scope.names []) (fun _=>none) { s with heap:=pushCells (s.heap.push { cls := .type "frame",data := .dict #[] }) scope.names }:=
  ⟨⟨⟨_,s.toks,rfl⟩,(Heap.Ns.new s.heap (.type "frame")).keeps fun b o e=>pushCells_keeps _ _ b o e,fun b o e=>pushCells_keeps _ _ b o (ar _ e),ak _⟩,
   fun n c hc=>(ok.empty n c (mem_of_lookup hc)).1,ok.apart,fun n c hm=>Nat.lt_of_succ_le (ok.empty n c hm).2⟩
 simp only [newFunctionEnv,Option.isSome_none,dj,if_false]
 refine aj (wpAny_alloc (aj (wpAny_layCells _ (fun nm kd cs=>by cases q:kd == b0 <;> simp [q]) _ _ _ _ ?_)))
 rw [show ({ s with heap:=s.heap.push { cls := .type "frame",data := .dict #[] } }:Shared).heap.objs.size=s.heap.objs.size+1 from bw ..,yv]
 refine aj ?_
 have same : ∀ x∈binds,∀ v:Value,storeName (newEnv scope s.heap.objs.size g (cellsFrom (s.heap.objs.size+1) scope.names []++cl) qual func code none bt) x.1 v=storeName (newEnv scope s.heap.objs.size g (cellsFrom (s.heap.objs.size+1) scope.names []) qual func code none bt) x.1 v:=fun x hx v=>by
  refine vJ (env:=newEnv scope s.heap.objs.size g (cellsFrom (s.heap.objs.size+1) scope.names []++cl) qual func code none bt) ?_
  rcases hb x hx with h | h
  ·exact .inl h
  ·obtain⟨c,hc⟩:=ib (n:=s.heap.objs.size+1) h
   exact .inr (by rw [hc];exact fv hc)
 show aJ M A (forIn binds nS fun x _=>(do storeName (newEnv scope s.heap.objs.size g (cellsFrom (s.heap.objs.size+1) scope.names []++cl) qual func code none bt) x.1 x.2;pure (cY nS))) _ E _
 rw [o7 (g:=fun x _=>(do storeName (newEnv scope s.heap.objs.size g (cellsFrom (s.heap.objs.size+1) scope.names []) qual func code none bt) x.1 x.2;pure (cY nS))) fun x hx u=>by rw [same x hx]]
 refine wpAny_bindParams (s₀:=s) (env:=newEnv scope s.heap.objs.size g (cellsFrom (s.heap.objs.size+1) scope.names []) qual func code none bt) _ (fun _ _ _=>rfl) hk binds _ _ _ _ inC (fun x hx => ?_) fun s' x=>bc (hQ s' x)
 rcases hb x hx with h | h
 ·exact .inl h
 ·obtain⟨c,hc⟩:=ib (n:=s.heap.objs.size+1) h
  exact .inr ⟨h,by show ((cellsFrom (s.heap.objs.size+1) scope.names []).lookup x.1).isSome=true;rw [hc];rfl⟩
noncomputable def jO (base:Heap) (cl:List (Str×Addr)):List Str->List V->Prop
 | [],[]=>True
 | y::fs,v::vs=>(∃ c o u,cl.lookup y=some c/\base.get? c=some o/\o.data = .cell (some u)/\RelV v u)/\jO base cl fs vs
 | _,_=>False
theorem jO.len {base:Heap}{cl:List (Str×Addr)} : ∀ {fs:List Str}{vs:List V},jO base cl fs vs->fs.length=vs.length
 | [],[],_=>rfl
 | _::_,_::_,h=>by simp [jO.len h.2]
 | [],_::_,h=>h.elim
 | _::_,[],h=>h.elim
theorem jO.get {base:Heap}{cl:List (Str×Addr)} : ∀ {fs:List Str}{vs:List V}{i:Nat}{y:Str}{v:V},jO base cl fs vs->fs[i]? = some y->vs[i]? = some v -> ∃ c o u,cl.lookup y=some c/\base.get? c=some o/\o.data = .cell (some u)/\RelV v u
 | [],_,i,y,v,_,h1,_=>by simp at h1
 | _::_,[],i,y,v,h,_,_=>h.elim
 | _::_,_::_,0,y,v,h,h1,h2=>by
   simp at h1 h2;subst h1;subst h2
   exact h.1
 | _::_,_::_,i+1,y,v,h,h1,h2=>jO.get (i:=i) h.2 (by simpa using h1) (by simpa using h2)
noncomputable def lL (qual:Str) (scope:Scope) (L f:Addr) (cd:Value) (cl:List (Str×Addr)):Env:=envX qual scope L f cd (cellsFrom (L+1) scope.names []++cl)
noncomputable def tm (P:Program) (w:World) (K:ai) (mg:Str->Option Value) (base:Heap) (N:List Str) (qual:Str) (scope:Scope) (f:Addr) (cd:Value) (cl:List (Str×Addr)) (A:Around) (outer:List Env) (s:Shared) (H:Hp):Cx where
 prog:=P
 w:=w
 K:=K
 mg:=mg
 base:=base
 A:=A.deeper (lL qual scope s.heap.objs.size f cd cl)
 N:=N
 s₀:=s
 H₀:=H
 env:=lL qual scope s.heap.objs.size f cd cl
 outer:=outer
 stack:=lL qual scope s.heap.objs.size f cd cl::outer
 ex := []
 calm:=true
 fn:=fun x=>scope.names.lookup x == some .cell
 pn := []
 xe:=fun _ _=>False
theorem wm {P:Program}{w:World}{K:ai}{mg:Str->Option Value}{base:Heap}{ps fs:List Str}{qual:Str}{scope:Scope}{f:Addr}{cd:Value}{cl:List (Str×Addr)}{A:Around}{outer:List Env}{s s1:Shared}{H:Hp}{us:List Value}{vs cv:List V}
  (S:i9 ps fs scope) (hd:A.handled=none) (e0:yf P w K mg base A outer s H) (hl:vs.length=ps.length) (r:bW vs us) (C:jO base cl fs cv)
  (hcl : ∀ y c,cl.lookup y=some c -> ∃ o v,base.get? c=some o/\o.data = .cell v) (inj : ∀ x y c,cl.lookup x=some c->cl.lookup y=some c->x=y)
  (x:InCallC s s.heap.objs.size (bindL (fun y=>scope.names.lookup y) (ps.zip us) fun _=>none) (cellsFrom (s.heap.objs.size+1) scope.names []) (bindC (fun y=>scope.names.lookup y) (ps.zip us) fun _=>none) s1) :
  Inv (tm P w K mg base (ps++fs) qual scope f cd cl A outer s H) [] (vs.map some++cv.map some) H s1:=by
 obtain⟨h1,tk,rfl,hk⟩:=x.done
 have ndP:ps.Nodup:=(pL.mp S.nd).1
 have newc : ∀ y c,(cellsFrom (s.heap.objs.size+1) scope.names []).lookup y=some c->scope.names.lookup y=some .cell/\s.heap.objs.size < c:=fun y c e=>by
  have m:=mem_of_lookup e
  rcases mW _ _ _ m with z | z
  ·exact⟨S.cel _ z rfl,x.above y c m⟩
  ·simp at z
 have oldc : ∀ y c,cl.lookup y=some c->c < s.heap.objs.size/\(∃ v,h1.IsCell c v)/\H c=none:=fun y c e=>by
  obtain⟨o,v,e1,e2⟩:=hcl y c e
  exact⟨aD (e0.bs c o e1).1,⟨v,o,hk _ _ (e0.bs c o e1).1,e2⟩,(e0.bs c o e1).2⟩
 have frc : ∀ y∈fs,(cellsFrom (s.heap.objs.size+1) scope.names []).lookup y=none:=fun y hy=>by
  cases q:(cellsFrom (s.heap.objs.size+1) scope.names []).lookup y with
  | none=>rfl
  | some c=>
    have:=(newc y c q).1
    rw [S.free y hy] at this;cases this
 have noA : ∀ b:Addr,b∉(tm P w K mg base (ps++fs) qual scope f cd cl A outer s H).ex:=fun b z=>absurd (show b∈([]:List Addr) from z) (by simp)
 refine⟨⟨e0.mod,S.kind,rfl,rfl,ak _,fun y z c e1 e2 => ?_,fun y hy => ?_,fun y c hy e => ?_,fun _=>hd,yX e0.frames,.inr ⟨rfl,rfl⟩,fun b z=>absurd z (noA b),e0.bs,e0.bsz,fun b _ _=>noA b,fun b z=>absurd z (noA b),e0.funs,e0.frf⟩,
  rfl,e0.bare,Un.kept hk,⟨_,x.toInCall.ns,fun i y v h2 h3 h4 => ?_⟩,fun y c h => ?_,e0.hok.fresh (ak _),fun y c h => ?_,fun p hp=>absurd (show p∈([]:List (Addr×Obj)) from hp) (by simp),e0.hok.kept hk,?_⟩
 ·rcases fU e1 with e1 | ⟨_,e1⟩
  ·rcases fU e2 with e2 | ⟨_,e2⟩
   ·exact name_of_addr x.apart (mem_of_lookup e1) (mem_of_lookup e2)
   ·exact absurd (cM (newc y c e1).2 (oldc z c e2).1) (bB _)
  ·rcases fU e2 with e2 | ⟨_,e2⟩
   ·exact absurd (cM (newc z c e2).2 (oldc y c e1).1) (bB _)
   ·exact inj y z c e1 e2
 ·have hy:scope.names.lookup y=some .cell\/scope.names.lookup y=some .free:=hy
  rcases hy with hy | hy
  ·obtain⟨c,hc⟩:=ib (n:=s.heap.objs.size+1) hy
   exact⟨c,fv hc⟩
  ·have hf:=S.fre _ (mem_of_lookup hy) rfl
   obtain⟨i,hi⟩:=List.getElem?_of_mem hf
   have hi2:i < cv.length:=by rw [<- C.len];exact (af.mp hi).1
   obtain⟨c,o,u,e,_⟩:=C.get hi (bO hi2)
   exact⟨c,(gM (frc y hf)).trans e⟩
 ·rcases fU e with e | ⟨_,e⟩
  ·exact aW (newc y c e).2
  ·have hy':scope.names.lookup y=some .cell:=eq_of_beq hy
   obtain⟨c',hc'⟩:=ib (n:=s.heap.objs.size+1) hy'
   rename_i z
   rw [hc'] at z;cases z
 ·have hN:(ps++fs)[i]? = some y:=h2
  by_cases hi:i < ps.length
  ·rw [aQ hi] at hN
   rw [aQ (by simpa [hl] using hi),da] at h3
   cases e:vs[i]? with
   | none=>rw [e] at h3;cases h3
   | some a=>
     rw [e] at h3;cases h3
     obtain⟨u,hu,rv⟩:=r.get e
     refine⟨u,rv,?_⟩
     rcases S.par y (cj hN) with kd | kd
     ·exact .inl ⟨kd,m8 ndP hN hu kd⟩
     ·obtain⟨c,hc⟩:=ib (n:=s.heap.objs.size+1) kd
      refine .inr ⟨.inl kd,c,fv hc,?_⟩
      have z:=x.cell y c hc
      rw [nh ndP hN hu (by show scope.names.lookup y≠_;rw [kd];decide)] at z
      exact z
  ·rw [aq (by exact dn (by assumption))] at hN
   rw [aq (by simp;omega),da] at h3
   simp only [aI,hl] at h3
   cases e:cv[i - ps.length]? with
   | none=>rw [e] at h3;cases h3
   | some a=>
     rw [e] at h3;cases h3
     have hf:=cj hN
     obtain⟨c,o,u,e1,e2,e3,e4⟩:=C.get hN e
     exact⟨u,e4,.inr ⟨.inr (S.free y hf),c,(gM (frc y hf)).trans e1,o,hk _ _ (e0.bs c o e2).1,e3⟩⟩
 ·rcases fU h with e | ⟨_,e⟩
  ·exact⟨_,x.cell y c e⟩
  ·exact (oldc y c e).2.1
 ·rcases fU h with e | ⟨_,e⟩
  ·exact e0.hok.fresh (aW (newc y c e).2)
  ·exact (oldc y c e).2.2
 ·show (vs.map some++cv.map some).length=(ps++fs).length
  simp [hl,C.len]
theorem E8 {M:Mo} (h0:M.mkr=none) {name qual:Str}{params:Arguments}{body:Expr}{scope:Scope}{cl:List (Str×Addr)}{pm ctv:Value}{c f:Addr}{oc:Obj}{ws:Array Value}{t:Tok}{ps fs:List Str}{k:Nat}{ml:ME}{od:Option Addr}{fc:Value}{fsl:Array (Option Value)}
  (hf:M.base.get? f=some ⟨fc,od,.func (kla_fn name qual params body scope cl pm (.ref c) ctv),fsl⟩) (hc:(c,oc)∈M.K.cds) (hoc:oc.data = .fields ws) (hq:ws[1]? = some (.str qual t))
  (S:i9 ps fs scope) (C:jO M.base cl fs M.K.capv) (hcl : ∀ y c,cl.lookup y=some c -> ∃ o v,M.base.get? c=some o/\o.data = .cell v) (inj : ∀ x y c,cl.lookup x=some c->cl.lookup y=some c->x=y)
  (hb : ∀ X,Sc M X k (ps++fs) scope.names->PE X body (tM M.K ml)) :
  gZ M.P M.w M.K M.mg M.base CX0 (k+1) f (kla_fn name qual params body scope cl pm (.ref c) ctv) ps (spM M.K (qj ps.length ml M.K.caps)):=by
 have len : ∀ vs H Q E,spM M.K (qj ps.length ml M.K.caps) vs H Q E->vs.length=ps.length:=fun vs H Q E h=>by
  obtain⟨μ,S',us,u,S'',hr,rs,e,_⟩:=h
  unfold qj at e
  split at e
  ·rename_i hl;rw [<- rs.len];exact hl
  ·cases e
 refine⟨len,fun A outer s H args us vs Q E hr e0 hbd r hsp => ?_⟩
 have hl:=len _ _ _ _ hsp
 obtain⟨μ,S1,zs,u,S2,hR,rs,e,ka⟩:=hsp
 have hco:s.heap.get? c=some oc:=(e0.hok c _ (hR.ext.cds _ hc)).1
 have lim:s.heap.NoLimit:=e0.mod.nolimit.keeps fun b o e=>(e0.bs b o e).1
 refine yR hr.depth (e0.bs f _ hf).1 rfl S.co S.gen rfl ⟨c,oc,ws,t,rfl,hco,hoc,hq⟩ (hbd _ _ _ _ ?_)
 refine xb S.kind (fun x hx=>S.par _ (iL hx).1) fun s1 x=>⟨lim.keeps x.toInCall.keep,?_⟩
 show nr _ _ (.expr body (lL qual scope s.heap.objs.size f (.ref c) cl)) _ _
 have I:=wm (qual:=qual) (f:=f) (cd := .ref c) S hr.hd e0 hl r C hcl inj x
 have SS:Sc M (tm M.P M.w M.K M.mg M.base (ps++fs) qual scope f (.ref c) cl A outer s H) k (ps++fs) scope.names:=
  ⟨rfl,rfl,rfl,rfl,rfl,rfl,S.nd,rfl,fun _ h=>h,fun y h=>⟨h,by show (scope.names.lookup y == some .cell)=true;rw [h];rfl⟩,fun _ h => .inr h,fun _ h=>h,hr.deeper _,jJ,fun c q h=>by rw [h0] at h;cases h⟩
 unfold qj at e
 split at e
 rotate_left
 ·cases e
 have er:ER H μ (zs.map some++M.K.caps.map some) (vs.map some++M.K.capv.map some):=by
  have all:=rs.append hR.ext.cap
  refine⟨by simp [rs.len,hR.ext.cap.len],fun i w hw => ?_⟩
  rw [<- bF,da] at hw
  cases q:(zs++M.K.caps)[i]? with
  | none=>rw [q] at hw;cases hw
  | some w'=>
    rw [q] at hw;cases hw
    obtain⟨v,hv,rv⟩:=all.get q
    exact⟨v,by rw [<- bF,da,hv];rfl,rv⟩
 refine yS (bJ (hb _ SS [] _ _ H Q I ⟨μ,S1,_,u,S2,hR,er,e,ka⟩) (fun v s' hs => ?_) fun e s' hs=>hs.elim)
 obtain⟨x,H',J,rv,q⟩:=hs
 exact⟨x,H',J.os,J.bare,J.base,J.hok,rv,q⟩
noncomputable def eF (cells:List (Str×Addr)):List (Str×NameKind)->List (Str×Addr)->List (Str×Addr)
 | [],acc=>acc
 | (y,k)::r,acc=>if k == .free then (match cells.lookup y with
   | some c=>eF cells r ((y,c)::acc)
   | none=>eF cells r acc) else eF cells r acc
theorem vP {env:Env}{scope:Scope} (h : ∀ y∈scope.names,y.2 = .free -> ∃ c,env.cells.lookup y.1=some c):closureFor scope env=pure (eF env.cells scope.names []):=by
 unfold closureFor
 have key : ∀ (l:List (Str×NameKind)) (acc:List (Str×Addr)),(∀ y∈l,y.2 = .free -> ∃ c,env.cells.lookup y.1=some c) ->
   (forIn l acc fun (x:Str×NameKind) (r:List (Str×Addr))=>if (x.2 == aO)=true then (do let a <- cellOf env x.1;pure (cY ((x.1,a)::r))) else pure (cY r):Sem _)=pure (eF env.cells l acc):=by
  intro l
  induction l with
  | nil=>intro acc _;rfl
  | cons y l ih=>
    intro acc hh
    rw [iM]
    unfold eF
    cases q:y.2 == aO with
    | true=>
      obtain⟨c,hc⟩:=hh y aM (eq_of_beq q)
      have e:cellOf env y.1=pure c:=by unfold cellOf;rw [hc]
      simp only [if_true,e,pure_bind,hc]
      exact ih _ fun z hz=>hh z (av _ hz)
    | false=>
      simp only [dj,if_false,pure_bind]
      exact ih _ fun z hz=>hh z (av _ hz)
 have e:=key scope.names [] h
 show (forIn scope.names ([]:List (Str×Addr)) _ >>= fun r=>pure r:Sem _)=_
 rw [bind_pure]
 refine Eq.trans ?_ e
 congr 1
theorem kJ {cells:List (Str×Addr)} : ∀ (l:List (Str×NameKind)) (acc:List (Str×Addr)) {y:Str}{c:Addr},(y,c)∈eF cells l acc->(y,c)∈acc\/(cells.lookup y=some c/\(y,aO)∈l)
 | [],acc,y,c,h => .inl h
 | (z,k)::l,acc,y,c,h=>by
   unfold eF at h
   split at h
   ·rename_i hk
    split at h
    ·rename_i d hd
     rcases kJ l _ h with h | h
     ·rcases aR.mp h with e | h
      ·cases e;exact .inr ⟨hd,by rw [eq_of_beq hk];exact aM⟩
      ·exact .inl h
     ·exact .inr ⟨h.1,av _ h.2⟩
    ·exact (kJ l _ h).imp id fun h=>⟨h.1,av _ h.2⟩
   ·exact (kJ l _ h).imp id fun h=>⟨h.1,av _ h.2⟩
theorem kI {cells:List (Str×Addr)} : ∀ (l:List (Str×NameKind)) (acc:List (Str×Addr)) {y:Str}{c:Addr},(y,c)∈acc->(y,c)∈eF cells l acc
 | [],acc,y,c,h=>h
 | (z,k)::l,acc,y,c,h=>by
   unfold eF
   split
   ·split
    ·exact kI l _ (av _ h)
    ·exact kI l _ h
   ·exact kI l _ h
theorem ku {cells:List (Str×Addr)} : ∀ (l:List (Str×NameKind)) (acc:List (Str×Addr)) {y:Str}{c:Addr},(y,aO)∈l->cells.lookup y=some c->(y,c)∈eF cells l acc
 | [],acc,y,c,h,_=>by simp at h
 | (z,k)::l,acc,y,c,h,hc=>by
   unfold eF
   rcases aR.mp h with e | h
   ·cases e
    simp only [beq_self_eq_true,if_true,hc]
    exact kI l _ aM
   ·split
    ·split
     ·exact ku l _ h hc
     ·exact ku l _ h hc
    ·exact ku l _ h hc
theorem lookup_mem {α:Type} : ∀ {l:List (Str×α)}{y:Str}{c:α},(y,c)∈l -> ∃ d,l.lookup y=some d
 | [],y,c,h=>by simp at h
 | (z,d)::l,y,c,h=>by
   rw [aL]
   cases q:y == z with
   | true=>exact⟨d,rfl⟩
   | false=>
     rcases aR.mp h with e | h
     ·cases e;simp at q
     ·exact lookup_mem h
theorem jo {cells:List (Str×Addr)}{l:List (Str×NameKind)}{y:Str}{c:Addr} (h:(eF cells l []).lookup y=some c):cells.lookup y=some c/\(y,aO)∈l:=by
 rcases kJ l [] (bI h) with h | h
 ·simp at h
 ·exact h
theorem yu {cells:List (Str×Addr)}{l:List (Str×NameKind)}{y:Str}{c:Addr} (h:(y,aO)∈l) (hc:cells.lookup y=some c):(eF cells l []).lookup y=some c:=by
 obtain⟨d,hd⟩:=lookup_mem (ku l [] h hc)
 have:=(jo hd).1
 rw [hc] at this;cases this
 exact hd
end G
end
section
namespace G
open PySem PySem.Spec L2
open PySem.W (envX kla_fn kla_obj CodeHd tabObj)
open PyProof.Rows hiding St
theorem vj {pos:Pos}{a b:Int}{c cv:Value} (l:List Value) (h:TriplesOk l) (hc:codeAmong pos (l ++ [rawInt a,rawInt b,c])=some cv):codeAmong pos l=some cv\/cv=c:=by
 fun_induction TriplesOk l with
 | case1=>
   simp only [dQ,rawInt,codeAmong] at hc
   split at hc
   ·cases hc;exact .inr rfl
   ·cases hc
 | case2 x t y u z rest ih=>
   simp only [List.cons_append,codeAmong] at hc ⊢
   split at hc
   ·rename_i q;rw [if_pos q];exact .inl hc
   ·rename_i q;rw [if_neg q];exact ih h hc
 | case3 l h1 h2=>exact h.elim
section
variable {K:KX}{H:Hp}{μ:List Addr}{S:Sto}
theorem HR.table {P c:Addr}{ps:Array Value}{oc:Obj}{ws:Array Value}{t:Tok}{a b:Int}{q:Str} (h:HR K μ S H) (hP:H P=some (.tbl ps)) (hc:H c=none) (hoc:oc.data = .fields ws) (hq:ws[1]? = some (.str q t)) (un : ∀ r∈K.tabs,r.1=P->r.2=q) :
  bh H (upd (upd H c (.frz oc fz)) P (.tbl (ps ++ #[rawInt a,rawInt b,.ref c])))/\HR K μ S (upd (upd H c (.frz oc fz)) P (.tbl (ps ++ #[rawInt a,rawInt b,.ref c]))):=by
 have stay : ∀ x o,H x=some o->(∀ ps,o ≠ .tbl ps)->upd (upd H c (.frz oc fz)) P (.tbl (ps ++ #[rawInt a,rawInt b,.ref c])) x=some o:=fun x o e n=>by
  rw [aV (oy e hP (n ps)),aV (aS e hc)];exact e
 have kp:bh H (upd (upd H c (.frz oc fz)) P (.tbl (ps ++ #[rawInt a,rawInt b,.ref c]))):=fun x vs e=>stay x _ e fun _ z=>by cases z
 have fr : ∀ x o u,H x=some (.frz o u)->upd (upd H c (.frz oc fz)) P (.tbl (ps ++ #[rawInt a,rawInt b,.ref c])) x=some (.frz o u):=fun x o u e=>stay x _ e fun _ z=>by cases z
 have hcP:c≠P:=(aS hP hc).symm
 refine⟨kp,h.len,h.inj,fun m d x q1 q2=>(h.cell m d x q1 q2).mono kp (Pre.refl _) (fun hd => ?_) fun o u e=>fr x o u e,RUs.mono kp (Pre.refl _) _ _ h.ext.cap,fun r hr=>fr _ _ _ (h.ext.cds r hr),fun r hr => ?_⟩
 ·obtain⟨o,e,_,_,nb⟩:=(h.cell m d x q1 q2).has hd
  rw [stay x o e nb,e]
 ·obtain⟨ps',e,tr,al⟩:=h.ext.tab r hr
  by_cases hr':r.1=P
  ·rw [hr',hP] at e
   cases e
   refine⟨ps ++ #[rawInt a,rawInt b,.ref c],by rw [hr',cq],by rw [Be];exact TriplesOk_snoc _ _ _ _ tr,fun pos cv hcv => ?_⟩
   rw [Be] at hcv
   rcases vj _ tr hcv with z | z
   ·obtain⟨d,od,vs,t',e1,e2,e3,e4⟩:=al pos cv z
    exact⟨d,od,vs,t',e1,fr _ _ _ e2,e3,e4⟩
   ·exact⟨c,oc,ws,t,z,by rw [aV hcP,cq],hoc,by rw [un r hr hr'];exact hq⟩
  ·refine⟨ps',by rw [aV hr',aV (aS e hc)];exact e,tr,fun pos cv hcv => ?_⟩
   obtain⟨d,od,vs,t',e1,e2,e3,e4⟩:=al pos cv hcv
   exact⟨d,od,vs,t',e1,fr _ _ _ e2,e3,e4⟩
end
section
variable {X:Cx}{pins:List (Addr×Obj)}{σ:St}{H:Hp}{s:Shared}
theorem yM {P c:Addr}{ps more:Array Value}{oc ob:Obj}{h':Heap}{tk:Nat} (I:Inv X pins σ H s) (hP:H P=some (.tbl ps)) (hx:sy P s.heap h') (hge:s.heap.objs.size<=c) (hc:h'.get? c=some oc) (htb:h'.get? P=some (tabObj (ps++more))) :
  Inv X pins σ (upd (upd H c (.frz oc fz)) P (.tbl (ps++more))) { s with heap:=h'.push ob,toks:=tk }:=by
 have hcn:H c=none:=I.hok.fresh hge
 have kp : ∀ b o,b≠P->s.heap.get? b=some o->(h'.push ob).get? b=some o:=fun b o n e=>ar _ (hx b o n e)
 have nP : ∀ b,H b=none->b≠P:=fun b n z=>by rw [z,hP] at n;cases n
 have stay : ∀ x o,H x=some o->(∀ ps,o ≠ .tbl ps)->upd (upd H c (.frz oc fz)) P (.tbl (ps++more)) x=some o:=fun x o e n=>by
  rw [aV (oy e hP (n ps)),aV (aS e hcn)];exact e
 refine I.step (g':=s.gens) (d':=s.drawn) (ch := []) (fun _ z=>nomatch z) (fun b o _ _ _ e n=>kp b o (nP b n) e) (fun b o _ _ _ e n=>⟨o.slots,kp b o (nP b n) e⟩)
  (fun b o _ e n=>by rw [aV (nP b n),aV (bg (ah (aD e) hge))];exact n) (fun b o _ e => ?_) (fun b xs e=>stay b _ e fun _ z=>by cases z) (fun b o u e=>stay b _ e fun _ z=>by cases z)
  (fun b qs e => ?_) (fun m hm => ?_) (fun b u e => ?_) I.bare
 ·by_cases hb:b=P
  ·exact⟨_,by rw [hb];exact ar _ htb⟩
  ·exact⟨o,kp b o hb e⟩
 ·by_cases hb:b=P
  ·rw [hb,hP] at e
   cases e
   exact⟨more,by rw [hb,cq]⟩
  ·exact⟨#[],by rw [aV hb,aV (aS e hcn),e];simp⟩
 ·exact (hm.extBut hx (nP _ I.free)).push _
 ·by_cases hb:b=P
  ·rw [hb,cq] at e
   cases e
   rw [hb]
   exact ar _ htb
  ·rw [aV hb] at e
   by_cases hbc:b=c
   ·rw [hbc,cq] at e
    cases e
    rw [hbc]
    exact⟨ar _ hc,trivial,⟨_,ar _ hc⟩,fun _ _ _ _=>trivial⟩
   ·rw [aV hbc] at e
    refine (I.hok b u e).stay (fun d v hd q=>kp d v ?_ q) (fun d q=>stay d _ q fun _ z=>by cases z) fun d xs q=>stay d _ q fun _ z=>by cases z
    rcases hd with z | z
    ·rw [z];exact hb
    ·exact oy z hP (by intro z;cases z)
noncomputable def baseOf (h:Heap) (H:Hp) (fr:List Addr):Heap:=bL (pV h H) fr
theorem fB {h:Heap}{H:Hp}{fr:List Addr}{b:Addr}{o:Obj} (e:h.get? b=some o) (n:H b=none) (hf:b∉fr):(baseOf h H fr).get? b=some o:=dU _ (md e n) hf
theorem xN {h:Heap}{H:Hp}{fr:List Addr}{b:Addr}{o:Obj} (e:(baseOf h H fr).get? b=some o):h.get? b=some o/\H b=none:=wK (iU fr e)
theorem tJ (I:Inv X pins σ H s) : ∀ b o,X.base.get? b=some o->(baseOf s.heap H (frs X.stack)).get? b=some o:=fun b o e=>
 fB (I.bs b o e).1 (I.bs b o e).2 fun z=>by
  have:=(I.stack.mem z).1
  rw [e] at this;cases this
theorem x6 (I:Inv X pins σ H s):yf X.prog X.w X.K X.mg (baseOf s.heap H (frs X.stack)) X.A X.stack s H:=by
 have k:=tJ I
 obtain⟨m1,m2,⟨mb,m3,m4⟩,m5⟩:=I.ok.mod
 refine⟨I.ok.frames,⟨m1.keeps k,m2.keeps k,⟨mb,m3.keeps k,m4⟩,m5.keeps k⟩,fun b o e=>xN e,by rw [baseOf,yN,qU];exact ak _,?_,I.stkFree,I.hok,I.bare⟩
 have all : ∀ l:List Env,(∀ b∈frs l,b∈frs X.stack)->s.heap.FunFrames X.base l->s.heap.FunFrames (baseOf s.heap H (frs X.stack)) l:=by
  intro l
  induction l with
  | nil=>intro _ _;trivial
  | cons env r ih=>
    intro hs hl
    obtain⟨hk,⟨L,o,hf,hn,ho,hd⟩,hr⟩:=hl
    have hL:L∈frs X.stack:=hs L (by unfold frs;rw [dw,hf];exact aM)
    exact⟨hk,⟨L,o,hf,eW _ hL,ho,hd⟩,ih (fun b hb=>hs b (by unfold frs;rw [dw,hf];exact av _ hb)) hr⟩
 exact all X.stack (fun _ h=>h) I.stack
end
end G
end
section
namespace G
open PySem PySem.Spec L2
open PySem.W (envX kla_fn kla_obj CodeHd tabObj)
open PyProof.Rows hiding St
noncomputable def fN (mg:Str->Option Value) (base:Heap):Prop := ∃ bm ob,mg "__builtins__"=some (.ref bm)/\bm≠builtinsNs/\base.get? bm=some ob/\ob.cls = .type "module"/\ob.dict=some builtinsNs/\ob.data = .plain
theorem fN.keeps {mg:Str->Option Value}{b b':Heap} (h:fN mg b) (k : ∀ a o,b.get? a=some o->b'.get? a=some o):fN mg b':=
 let ⟨bm,ob,e1,e2,e3,r⟩:=h;⟨bm,ob,e1,e2,k _ _ e3,r⟩
structure Mkr (M:Mo) (c P:Addr) (q:Str):Prop where
 hd : ∀ h:Heap,M.K.K.In h->CodeHd h c P
 bl:fN M.mg M.base
 gP:mainGlobals≠P
 mem:(P,q)∈M.K.tabs
 un : ∀ r∈M.K.tabs,r.1=P->r.2=q
noncomputable def KX.to (K:KX) (caps:List U) (capv:List V) (cds:List (Addr×Obj)):KX:=⟨K.K,caps,capv,cds,K.tabs⟩
noncomputable def Mo.to (M:Mo) (caps:List U) (capv:List V) (cds:List (Addr×Obj)) (base:Heap):Mo:=⟨M.P,M.w,M.K.to caps capv cds,M.mg,base,none⟩
structure FnC (M:Mo) (x:Str) (k:Nat) (ps:List Str) (F:Addr->MF->MF):Prop where
 ex : ∃ (f:Addr) (fd:FuncData),M.mg x=some (.ref f)/\bN M.K (.ref f)=true/\Binds M.K fd ps [] /\
  ∀ (caps:List U) (capv:List V) (cds:List (Addr×Obj)) (base:Heap) (g:Addr) (j:Nat) (lps:List Str) (φ:MF),fN M.mg base->k<=j->Lam (M.to caps capv cds base) g j lps φ ->
   gZ M.P M.w M.K M.mg base CX0 (j+1) f fd ps (spM (M.K.to caps capv cds) (F g φ))
section
variable {M:Mo}{X:Cx}{k:Nat}{N:List Str}{ns:List (Str×NameKind)}{pins:List (Addr×Obj)}{σ:St}{H:Hp}{s:Shared}
theorem uz (S:Sc M X k N ns) (I:Inv X pins σ H s) {y:Str}{c:Addr} (hy:ns.lookup y=some .cell) (hc:X.env.cells.lookup y=some c):c∉frs X.stack:=fun z=>by
 have fn:=(S.cel y hy).2
 rcases aR.mp (I.stkSub c z) with e | hb
 ·exact I.cne y c hc e
 ·obtain⟨_,o,ho,_⟩:=I.ok.funs.mem hb
  exact absurd (ah (aD ho) (I.ok.cab y c fn hc)) (bB _)
theorem wG (S:Sc M X k N ns) (I:Inv X pins σ H s) {μ:List Addr}{ρ:Rho} (er:ER H μ ρ σ) {names:List (Str×NameKind)} : ∀ {fs:List Str}{is:List Nat}{cs:List U},(∀ y∈fs,ns.lookup y=some .cell/\(y,aO)∈names) ->
  dq (fun y=>N.findIdx? (· == y)) fs=some is->ke is ρ=some cs -> ∃ cv,RUs H μ cs cv/\jO (baseOf s.heap H (frs X.stack)) (eF X.env.cells names []) fs cv
 | [],is,cs,_,h1,h2=>by cases h1;cases h2;exact⟨[],.nil,trivial⟩
 | y::fs,is,cs,hf,h1,h2=>by
   unfold dq at h1
   cases e1:N.findIdx? (· == y) with
   | none=>rw [e1] at h1;cases h1
   | some i=>
     rw [e1] at h1
     simp only [ao] at h1
     cases e2:dq (fun y=>N.findIdx? (· == y)) fs with
     | none=>rw [e2] at h1;cases h1
     | some is'=>
       rw [e2] at h1;cases h1
       unfold ke dq at h2
       cases e3:(ρ[i]?).bind id with
       | none=>rw [e3] at h2;cases h2
       | some u=>
         rw [e3] at h2
         simp only [ao] at h2
         cases e4:dq (fun i=>(ρ[i]?).bind id) is' with
         | none=>rw [e4] at h2;cases h2
         | some cs'=>
           rw [e4] at h2;cases h2
           obtain⟨cv,r1,r2⟩:=wG S I er (fun z hz=>hf z (av _ hz)) e2 (show ke is' ρ=some cs' from e4)
           have hρ:ρ[i]? = some (some u):=by
            cases q:ρ[i]? with
            | none=>rw [q] at e3;cases e3
            | some o=>rw [q] at e3;cases o with
              | none=>cases e3
              | some w=>cases e3;rfl
           obtain⟨v,hσ,rv⟩:=er.get i u hρ
           obtain⟨hi,hy,_⟩:=dM.mp e1
           have hN:X.N[i]? = some y:=by rw [S.hN,bO hi,eq_of_beq hy]
           obtain⟨m,hn,hl⟩:=I.loc
           have hcl:=(S.cel y (hf y aM).1).1
           obtain⟨w,rw',l⟩:=hl i y v hN hσ (.inr (.inl hcl))
           rcases l with⟨hk,_⟩ | ⟨_,c,hc,o,ho,hd⟩
           ·have hk':X.env.scope.names.lookup y=some .local:=hk
            rw [hcl] at hk';cases hk'
           ·refine⟨v::cv,.cons rv r1,⟨c,o,w,yu (hf y aM).2 hc,?_,hd,rw'⟩,r2⟩
            exact fB ho (I.freeC y c hc) (uz S I (hf y aM).1 hc)
end
end G
end
section
namespace G
open PySem PySem.Spec L2
open PyProof.Rows hiding St
noncomputable def Trc (e T:Addr) (cls:Value) (h:Heap):Prop := ∃ (oe:Obj) (vs:Array Value) (a0:Value) (oT:Obj) (ts:Array Value),h.get? e=some oe/\(oe.cls=cls/\vs[0]? = some a0)/\oe.data = .fields vs/\vs[1]? = some (.ref T)/\T≠e/\h.get? T=some oT/\oT.data = .fields ts/\ts[3]? = some .none
noncomputable def CX1 (P:Program) (w:World):CXT:=fun outer H s E ev s' => ∃ (e T:Addr) (cls:Value) (H':Hp),ev = .ref e/\s'.os=s.os/\AllBare s'.gens/\Un (frs outer) [] H H' s.heap s'.heap/\HOk P w H' s'.heap/\Trc e T cls s'.heap/\s.heap.get? e=none/\s.heap.get? T=none/\H' e=none/\H' T=none/\E cls none H'
theorem Trc.of {base h:Heap}{e:Addr}{cls a0:Value} (t:h.TracedW base e cls a0) : ∃ T,Trc e T cls h/\base.get? T=none:=by
 obtain⟨oe,vs,T,oT,ts,h1,h2,h3,h4,h5,h6,h7,h8,h9⟩:=t
 exact⟨T,⟨oe,vs,a0,oT,ts,h1,h2,h3,h4,h6,h7,h8,h9⟩,h5⟩
theorem Trc.to {base h:Heap}{e T:Addr}{cls:Value} (t:Trc e T cls h) (hT:base.get? T=none) : ∃ a0,h.TracedW base e cls a0:=by
 obtain⟨oe,vs,a0,oT,ts,h1,h2,h3,h4,h6,h7,h8,h9⟩:=t
 exact⟨a0,oe,vs,T,oT,ts,h1,h2,h3,h4,hT,h6,h7,h8,h9⟩
theorem d4.has {P:Program}{w:World}{H:Hp}{h:Heap}{a:Addr}{o:HO} (x:d4 P w H h a o) : ∃ u,h.get? a=some u:=by
 cases o with
 | lst xs=>obtain⟨_,_,_,_,e⟩:=x;exact⟨_,e⟩
 | tup xs=>obtain⟨_,_,_,_,o,e,_⟩:=x;exact⟨_,e⟩
 | dK kvs=>obtain⟨_,_,_,_,o,_,_,e,_⟩:=x;exact⟨_,e⟩
 | dT kvs=>obtain⟨_,_,_,_,o,_,_,e,_⟩:=x;exact⟨_,e⟩
 | set S n=>obtain⟨o,_,_,_,e,_⟩:=x;exact⟨_,e⟩
 | ins C dx fs=>obtain⟨_,_,_,e,_⟩:=x;exact⟨_,e⟩
 | own y=>obtain⟨_,e⟩:=x;exact⟨_,e⟩
 | xd fs=>obtain⟨_,⟨_,_,_,e,_⟩,_⟩:=x;exact⟨_,e⟩
 | rng lo hi=>obtain⟨_,_,_,e⟩:=x;exact⟨_,e⟩
 | frz ob u=>obtain⟨e,_⟩:=x;exact⟨_,e⟩
 | tbl ps=>exact⟨_,(show h.get? a=some _ from x)⟩
 | met f y=>exact⟨_,(show h.get? a=some _ from x)⟩
 | ext φ=>obtain⟨_,e,_⟩:=x;exact e
theorem HOk.none_of {P:Program}{w:World}{H:Hp}{h:Heap}{a:Addr} (x:HOk P w H h) (e:h.get? a=none):H a=none:=by
 cases q:H a with
 | none=>rfl
 | some o=>
   obtain⟨u,hu⟩:=d4.has (x a o q)
   rw [e] at hu;cases hu
theorem mU {h g base:Heap}{S:List Addr} : ∀ {l:List Env},(∀ b∈frs l,b∈S)->h.FunFrames base l->h.FunFrames (bL g S) l
 | [],_,_=>trivial
 | env::r,hs,⟨hk,⟨L,o,hf,hn,ho,hd⟩,hr⟩=>by
   have hL:L∈S:=hs L (by unfold frs;rw [dw,hf];exact aM)
   exact⟨hk,⟨L,o,hf,eW _ hL,ho,hd⟩,mU (fun b hb=>hs b (by unfold frs;rw [dw,hf];exact av _ hb)) hr⟩
structure Left (fs:List Addr) (e T:Addr) (h h':Heap):Prop where
 keep : ∀ b o,b∉fs->b≠e->b≠T->h.get? b=some o->h'.get? b=some o
 slot : ∀ b o,b∈fs->h.get? b=some o -> ∃ sl,h'.get? b=some { o with slots:=sl }
theorem Left.un {fs:List Addr}{e T:Addr}{H H':Hp}{h h1 h2:Heap} (l:Left fs e T h1 h2) (u:Un fs [] H H' h h1) (he:h.get? e=none) (hT:h.get? T=none):Un fs [] H H' h h2 where
 keep:=fun b o q n hb hx=>l.keep b o hb (fun z=>by rw [z,he] at q;cases q) (fun z=>by rw [z,hT] at q;cases q) (u.keep b o q n hb hx)
 slot:=fun b o q n hb hx=>by
  obtain⟨sl,e1⟩:=u.slot b o q n hb hx
  obtain⟨sl',e2⟩:=l.slot b _ hb e1
  exact⟨sl',e2⟩
 free:=fun b o q n hx=>u.free b o q n hx
 there:=fun b o q hx=>by
  obtain⟨o',e1⟩:=u.there b o q hx
  by_cases hb:b∈fs
  ·obtain⟨sl,e2⟩:=l.slot b _ hb e1
   exact⟨_,e2⟩
  ·exact⟨o',l.keep b o' hb (fun z=>by rw [z,he] at q;cases q) (fun z=>by rw [z,hT] at q;cases q) e1⟩
 tups:=u.tups
 frzs:=u.frzs
 tbls:=u.tbls
theorem Left.hok {P:Program}{w:World}{fs:List Addr}{e T:Addr}{H:Hp}{h h':Heap} (l:Left fs e T h h') (x:HOk P w H h) (hf : ∀ b∈fs,H b=none) (he:H e=none) (hT:H T=none):HOk P w H h':=fun a o q=>by
 refine (x a o q).stay (fun b u hb e1 => ?_) (fun _ z=>z) fun _ _ z=>z
 have key : ∃ o,H b=some o:=by
  rcases hb with rfl | z
  ·exact⟨_,q⟩
  ·exact⟨_,z⟩
 obtain⟨ob,key⟩:=key
 exact l.keep b u (fun z=>by rw [hf b z] at key;cases key) (fun z=>by rw [z,he] at key;cases key) (fun z=>by rw [z,hT] at key;cases key) e1
section
variable {X:Cx}{pins:List (Addr×Obj)}{σ:St}{H H':Hp}{s s':Shared}
theorem flying {e T:Addr}{cls:Value} (I:Inv X pins σ H' s') (t:Trc e T cls s'.heap) : ∃ a0,lu (bL s'.heap (e::T::frs X.stack)) X.stack e cls a0 s'.heap:=by
 obtain⟨a0,z⟩:=t.to (base:=bL s'.heap (e::T::frs X.stack)) (eW _ (av _ aM))
 exact⟨a0,fun b o q=>iU _ q,eW _ aM,mU (fun b hb=>av _ (av _ hb)) I.stack,z⟩
theorem rK {e T:Addr}{h2:Heap} (I:Inv X pins σ H' s') (k:(bL s'.heap (e::T::frs X.stack)).StaysIn h2) (sl:s'.heap.UpToSlots h2):Left (frs X.stack) e T s'.heap h2:=by
 refine⟨fun b o hb he hT q=>k b o (dU _ q fun z => ?_),fun b o hb q => ?_⟩
 ·rcases aR.mp z with z | z
  ·exact he z
  ·rcases aR.mp z with z | z
   ·exact hT z
   ·exact hb z
 ·obtain⟨_,o',ho,hd⟩:=I.stack.mem hb
  rw [q] at ho;cases ho
  exact sl b o q hd
theorem Bv {e T T2:Addr}{cls:Value}{h2:Heap} (I:Inv X pins σ H' s') (t2:Trc e T2 cls h2) (hn:(bL s'.heap (e::T::frs X.stack)).get? T2=none) (sl:s'.heap.UpToSlots h2):T2=T\/s'.heap.get? T2=none:=by
 cases q:s'.heap.get? T2 with
 | none=>exact .inr rfl
 | some o=>
   left
   obtain⟨oe,vs,a0,oT,ts,h1,h2',h3,h4,h6,h7,h8,h9⟩:=t2
   by_cases hm:T2∈e::T::frs X.stack
   ·rcases aR.mp hm with z | z
    ·exact absurd z h6
    ·rcases aR.mp z with z | z
     ·exact z
     ·obtain⟨_,o',ho,hd⟩:=I.stack.mem z
      obtain⟨sl',e2⟩:=sl T2 o' ho hd
      rw [h7] at e2;cases e2
      exact absurd h8 (hd ts)
   ·rw [dU _ q hm] at hn;cases hn
theorem Ai {e T:Addr}{cls:Value}{E:XK} (hex:X.ex = []) (I:Inv X pins σ H s) (os:s'.os=s.os) (hg:AllBare s'.gens) (un:Un (frs X.stack) [] H H' s.heap s'.heap) (hok:HOk X.prog X.w H' s'.heap) (t:Trc e T cls s'.heap) (he:s.heap.get? e=none) (hT:s.heap.get? T=none) (ne:H' e=none) (nT:H' T=none) (q:E cls none H') :
  CX1 X.prog X.w X.outer X.H₀ X.s₀ E (.ref e) s':=by
 have I2:Inv X pins σ H' s':=I.call' os un hok hg fun b z=>nomatch z
 have old : ∀ a,s.heap.get? a=none->X.s₀.heap.get? a=none:=fun a ha=>by
  cases q:X.s₀.heap.get? a with
  | none=>rfl
  | some o=>
    obtain⟨o',e1⟩:=I.base.there a o q (by rw [hex];simp)
    rw [ha] at e1;cases e1
 have b:=I2.base
 rw [hex] at b
 exact⟨e,T,cls,H',rfl,os.trans I.os,hg,b,hok,t,old e he,old T hT,ne,nT,q⟩
structure Lv (X:Cx) (E:XK):Prop where
 stk:X.stack=X.env::X.outer
 fr:X.env.frame=some X.env.locals
 ex:X.ex = []
 xe:X.xe=fun e s'=>aJ (model X.prog X.w) X.A (leaving X.env e) (fun _ s''=>CX1 X.prog X.w X.outer X.H₀ X.s₀ E e s'') (fun e' s''=>CX1 X.prog X.w X.outer X.H₀ X.s₀ E e' s'') s'
theorem Lv.pass {E:XK} (L:Lv X E):oY (CX1 X.prog X.w) X E:=by
 rintro pins σ H s ev s' I ⟨e,T,cls,H',rfl,os,hg,un,hok,t,he,hT,ne,nT,q⟩
 have I1:Inv X pins σ H' s':=I.call' os un hok hg fun b z=>nomatch z
 rw [L.xe]
 obtain⟨a0,fl⟩:=flying I1 t
 have fl':=fl
 rw [show lu (bL s'.heap (e::T::frs X.stack)) X.stack e cls a0 s'.heap=lu (bL s'.heap (e::T::frs X.stack)) (X.env::X.outer) e cls a0 s'.heap by rw [<- L.stk]] at fl'
 refine wpAny_leaves_onW (by rw [I.ok.frames,L.stk]) L.fr fl' fun h2 fl2 sl => ?_
 obtain⟨f1,f2,f3,f4⟩:=fl2
 obtain⟨T2,t2,hn2⟩:=Trc.of f4
 have lf:=rK I1 f1 sl
 have new:=Bv I1 t2 hn2 sl
 refine Ai (s':={ s' with heap:=h2 }) L.ex I os hg (lf.un un he hT) (lf.hok hok I1.stkFree ne nT) t2 he ?_ ne ?_ q
 ·rcases new with z | z
  ·rw [z];exact hT
  ·cases q:s.heap.get? T2 with
   | none=>rfl
   | some o=>
     obtain⟨o',e1⟩:=un.there T2 o q (by simp)
     rw [z] at e1;cases e1
 ·rcases new with z | z
  ·rw [z];exact nT
  ·exact HOk.none_of hok z
theorem Lv.made {E:XK}{C:Addr}{args:List Value}{e:Addr}{h1:Heap} (L:Lv X E) (I:Inv X pins σ H s) (hx:Heap.MadeExcOf s.heap h1 e (.ref C) args) (q:E (.ref C) none H):X.xe (.ref e) { s with heap:=h1 }:=by
 rw [L.xe]
 have fs:s.heap.FunFrames (bL s.heap (frs X.stack)) (X.env::X.outer):=by
  have:=mU (g:=s.heap) (S:=frs X.stack) (fun b hb=>hb) I.stack
  rwa [show s.heap.FunFrames (bL s.heap (frs X.stack)) X.stack=s.heap.FunFrames (bL s.heap (frs X.stack)) (X.env::X.outer) by rw [<- L.stk]] at this
 refine wpAny_leaves_madeW (s:={ s with heap:=h1 }) (base:=bL s.heap (frs X.stack)) (h:=s.heap) (by rw [I.ok.frames,L.stk]) L.fr (fun b o q=>iU _ q) fs hx fun h2 t fl2 _ _ sl => ?_
 obtain⟨f1,f2,f3,f4⟩:=fl2
 obtain⟨T2,t2,hn2⟩:=Trc.of f4
 have sl':s.heap.UpToSlots h2:=fun b o q nf=>sl b o (hx.keeps b o q) nf
 have slt : ∀ b o,b∈frs X.stack->s.heap.get? b=some o -> ∃ sl,h2.get? b=some { o with slots:=sl }:=fun b o hb q=>by
  obtain⟨_,o',ho,hd⟩:=I.stack.mem hb
  rw [q] at ho;cases ho
  exact sl' b o q hd
 have lf:Left (frs X.stack) e e s.heap h2:=⟨fun b o hb _ _ q=>f1 b o (dU _ q hb),slt⟩
 have ne:H e=none:=HOk.none_of I.hok hx.new
 have hT:s.heap.get? T2=none:=by
  cases q:s.heap.get? T2 with
  | none=>rfl
  | some o=>
    by_cases hm:T2∈frs X.stack
    ·obtain⟨_,o',ho,hd⟩:=I.stack.mem hm
     obtain⟨sl'',e2⟩:=sl' T2 o' ho hd
     obtain⟨oe,vs,a0,oT,ts,h1,h2',h3,h4,h6,h7,h8,h9⟩:=t2
     rw [h7] at e2;cases e2
     exact absurd h8 (hd ts)
    ·rw [dU _ q hm] at hn2;cases hn2
 exact Ai (s':={ s with heap:=h2 }) L.ex I rfl I.bare (lf.un Un.refl hx.new hx.new) (lf.hok I.hok I.stkFree ne ne) t2 hx.new hT ne (HOk.none_of I.hok hT) q
end
end G
end
section
namespace G
open PySem PySem.Spec L2
open PySem.W (envX kla_fn kla_obj CodeHd tabObj)
open PyProof.Rows hiding St
section
abbrev MX:=Rho->Sto->Option (Nat×Sto)
abbrev RF:=List U->Sto->Option (Nat×Sto)
noncomputable def xFn (r:RF) (a:MA):MX:=fun ρ S=>bnd (a ρ S) fun us S1=>r us S1
noncomputable def sh (np:Nat) (r:MX) (cs:List U):RF:=fun us S=>if us.length=np then r (us.map some++cs.map some) S else none
noncomputable def kL (b:Nat->Bool) (is:List Nat):Cell := .lst (is.map fun i => .bl (b i))
noncomputable def fO (b:Nat->Bool):Sto := [kL b [0,1,2],kL b [3,4,5],kL b [0,1,2,3,4,5,6]]
noncomputable def bQ (q:Nat) (j:Nat):Bool:=decide (q=j)||decide (j=7)
noncomputable def yr (rz:List Nat) (φ:MF) (ψ:RF) (S:Sto):Res U:=match φ [] S with
 | some r=>some (.non,r.2++fO fun _=>false)
 | none=>match ψ [] S with
   | some r=>if r.1∈rz then some (.ref (r.2.length+3),r.2++(fO (bQ r.1) ++ [.lst [.int r.1]])) else none
   | none=>none
noncomputable def yG (rz:List Nat) (g:Addr) (φ:MF) (ψ:RF):MF:=fun us S=>match us with
 | [.obj a]=>if a=g then yr rz φ ψ S else none
 | _=>none
noncomputable def hX (rz:List Nat) (is:List Nat) (ml:ME) (rl:MX):ME:=fun ρ S=>(ke is ρ).bind fun cs=>yr rz (qj 0 ml cs) (sh 0 rl cs) S
end
noncomputable def AK (cl:Nat->Addr) (K:KX) (μ:List Addr) (H:Hp) (C:Nat) (S':Sto) (E:XK):Prop := ∀ μ' H',Pre μ μ'->bh H H'->HR K μ' S' H'->E (.ref (cl C)) none H'
noncomputable def tX (cl:Nat->Addr) (K:KX) (r:MX) (E:XK) (σ:St) (H:Hp):Prop := ∃ μ S ρ C S',HR K μ S H/\ER H μ ρ σ/\r ρ S=some (C,S')/\AK cl K μ H C S' E
noncomputable def tXE (cl:Nat->Addr) (K:KX) (r:MX) (E:XK):TE:=fun σ H _=>tX cl K r E σ H
noncomputable def tXA (cl:Nat->Addr) (K:KX) (r:MX) (E:XK):TA:=fun σ H _=>tX cl K r E σ H
noncomputable def tXS (cl:Nat->Addr) (K:KX) (r:MX) (E:XK):TS:=fun _ σ H=>tX cl K r E σ H
noncomputable def spX (cl:Nat->Addr) (K:KX) (r:RF):Sp:=fun vs H _ E => ∃ μ S us C S',HR K μ S H/\RUs H μ us vs/\r us S=some (C,S')/\AK cl K μ H C S' E
theorem AK.mono {cl:Nat->Addr}{K:KX}{μ μ1:List Addr}{H H1:Hp}{C:Nat}{S':Sto}{E:XK} (a:AK cl K μ H C S' E) (p:Pre μ μ1) (k:bh H H1):AK cl K μ1 H1 C S' E:=fun μ' H' p' k'=>a μ' H' (p.trans p') (k.trans k')
abbrev vE:List Value := [.type "ValueError",.type "Exception",.type "BaseException",.type "object"]
structure FnX (M:Mo) (cl:Nat->Addr) (x:Str) (k:Nat) (ps:List Str) (r:RF):Prop where
 ex : ∃ (f:Addr) (fd:FuncData),M.mg x=some (.ref f)/\bN M.K (.ref f)=true/\Binds M.K fd ps []/\gZ M.P M.w M.K M.mg M.base (CX1 M.P M.w) k f fd ps (spX cl M.K r)
theorem _root_.L2.PA.nox {X:Cx}{es:List Expr}{t:TA} (h:PA X.nox es t):PA X es t:=fun pos pins s σ H Q I hw=>
 bJ (h pos pins s σ H Q (I.wish _) hw) (fun us s' ⟨vs,H',J,r,q⟩=>⟨vs,H',J.unwish,r,q⟩) fun _ _ z=>z.elim
theorem _root_.L2.PS.nox {X:Cx}{st:Stmt}{t:TS} (h:PS X.nox st t):PS X st t:=fun pins s σ H D I hw=>
 bJ (h pins s σ H D (I.wish _) hw) (fun f s' hs=>SP.unwish hs) fun _ _ z=>z.elim
theorem PE.never {X:Cx}{e:Expr}:PE X e fun _ _ _=>False:=fun _ _ _ _ _ _ h=>h.elim
theorem PSs.never {X:Cx}{e:List Stmt}:PSs X e fun _ _ _=>False:=fun _ _ _ _ _ _ h=>h.elim
structure tq (M:Mo) (cl:Nat->Addr) (f:Addr) (k:Nat) (ps:List Str) (r:RF):Prop where
 ex : ∃ fd:FuncData,((∃ (oc:Value) (od:Option Addr) (sl:Array (Option Value)),M.base.get? f=some ⟨oc,od,.func fd,sl⟩)\/bN M.K (.ref f)=true)/\Binds M.K fd ps []/\gZ M.P M.w M.K M.mg M.base (CX1 M.P M.w) k f fd ps (spX cl M.K r)
theorem CM {M:Mo}{cl:Nat->Addr} (h0:M.mkr=none) {name qual:Str}{params:Arguments}{body:Expr}{scope:Scope}{cl':List (Str×Addr)}{pm ctv:Value}{c f:Addr}{oc:Obj}{ws:Array Value}{t:Tok}{ps fs:List Str}{k:Nat}{ml:MX}{od:Option Addr}{fc:Value}{fsl:Array (Option Value)}
  (hf:M.base.get? f=some ⟨fc,od,.func (kla_fn name qual params body scope cl' pm (.ref c) ctv),fsl⟩) (hc:(c,oc)∈M.K.cds) (hoc:oc.data = .fields ws) (hq:ws[1]? = some (.str qual t))
  (S:i9 ps fs scope) (C:jO M.base cl' fs M.K.capv) (hcl : ∀ y c,cl'.lookup y=some c -> ∃ o v,M.base.get? c=some o/\o.data = .cell v) (inj : ∀ x y c,cl'.lookup x=some c->cl'.lookup y=some c->x=y)
  (hb : ∀ X E,Lv X E->Sc M X.nox k (ps++fs) scope.names->PE X body (tXE cl M.K ml E)) :
  gZ M.P M.w M.K M.mg M.base (CX1 M.P M.w) (k+1) f (kla_fn name qual params body scope cl' pm (.ref c) ctv) ps (spX cl M.K (sh ps.length ml M.K.caps)):=by
 have len : ∀ vs H Q E,spX cl M.K (sh ps.length ml M.K.caps) vs H Q E->vs.length=ps.length:=fun vs H Q E h=>by
  obtain⟨μ,S',us,u,S'',hr,rs,e,_⟩:=h
  unfold sh at e
  split at e
  ·rename_i hl;rw [<- rs.len];exact hl
  ·cases e
 refine⟨len,fun A outer s H args us vs Q E hr e0 hbd r hsp => ?_⟩
 have hl:=len _ _ _ _ hsp
 obtain⟨μ,S1,zs,u,S2,hR,rs,e,ka⟩:=hsp
 have hco:s.heap.get? c=some oc:=(e0.hok c _ (hR.ext.cds _ hc)).1
 have lim:s.heap.NoLimit:=e0.mod.nolimit.keeps fun b o e=>(e0.bs b o e).1
 refine yR hr.depth (e0.bs f _ hf).1 rfl S.co S.gen rfl ⟨c,oc,ws,t,rfl,hco,hoc,hq⟩ (hbd _ _ _ _ ?_)
 refine xb S.kind (fun x hx=>S.par _ (iL hx).1) fun s1 x=>⟨lim.keeps x.toInCall.keep,?_⟩
 show nr _ _ (.expr body (lL qual scope s.heap.objs.size f (.ref c) cl')) _ _
 have I:=wm (qual:=qual) (f:=f) (cd := .ref c) S hr.hd e0 hl r C hcl inj x
 have SS:Sc M (tm M.P M.w M.K M.mg M.base (ps++fs) qual scope f (.ref c) cl' A outer s H) k (ps++fs) scope.names:=
  ⟨rfl,rfl,rfl,rfl,rfl,rfl,S.nd,rfl,fun _ h=>h,fun y h=>⟨h,by show (scope.names.lookup y == some .cell)=true;rw [h];rfl⟩,fun _ h => .inr h,fun _ h=>h,hr.deeper _,jJ,fun c q h=>by rw [h0] at h;cases h⟩
 unfold sh at e
 split at e
 rotate_left
 ·cases e
 have er:ER H μ (zs.map some++M.K.caps.map some) (vs.map some++M.K.capv.map some):=by
  have all:=rs.append hR.ext.cap
  refine⟨by simp [rs.len,hR.ext.cap.len],fun i w hw => ?_⟩
  rw [<- bF,da] at hw
  cases q:(zs++M.K.caps)[i]? with
  | none=>rw [q] at hw;cases hw
  | some w'=>
    rw [q] at hw;cases hw
    obtain⟨v,hv,rv⟩:=all.get q
    exact⟨v,by rw [<- bF,da,hv];rfl,rv⟩
 let X1:Cx:=(tm M.P M.w M.K M.mg M.base (ps++fs) qual scope f (.ref c) cl' A outer s H).wish fun e s'=>aJ (model M.P M.w) (A.deeper (lL qual scope s.heap.objs.size f (.ref c) cl')) (leaving (lL qual scope s.heap.objs.size f (.ref c) cl') e) (fun _ s''=>CX1 M.P M.w outer H s E e s'') (fun e' s''=>CX1 M.P M.w outer H s E e' s'') s'
 refine yS (bJ (hb X1 E ⟨rfl,rfl,rfl,rfl⟩ SS [] _ _ H (fun _ _=>False) (I.wish _) ⟨μ,S1,_,u,S2,hR,er,e,ka⟩) (fun v s' hs => ?_) fun e s' hs=>hs)
 obtain⟨x,H',J,rv,q⟩:=hs
 exact q.elim
structure FnR (M:Mo) (cl:Nat->Addr) (x:Str) (k:Nat) (rz:List Nat):Prop where
 ex : ∃ (f:Addr) (fd:FuncData),M.mg x=some (.ref f)/\bN M.K (.ref f)=true/\Binds M.K fd ["call"] [] /\
  ∀ (caps:List U) (capv:List V) (cds:List (Addr×Obj)) (base:Heap) (g:Addr) (j:Nat) (φ:MF) (ψ:RF),fN M.mg base->k<=j->Lam (M.to caps capv cds base) g j [] φ->tq (M.to caps capv cds base) cl g j [] ψ ->
   gZ M.P M.w M.K M.mg base CX0 (j+1) f fd ["call"] (spM (M.K.to caps capv cds) (yG rz g φ ψ))
theorem tq.imp {M:Mo}{cl:Nat->Addr}{f:Addr}{k:Nat}{ps:List Str}{r r':RF} (L:tq M cl f k ps r) (h : ∀ us S q,r' us S=some q->r us S=some q):tq M cl f k ps r':=by
 obtain⟨fd,a,b,F⟩:=L.ex
 refine⟨fd,a,b,F.imp fun vs H Q E => ?_⟩
 rintro ⟨μ,S,us,C,S',h1,h2,h3,h4⟩
 exact⟨μ,S,us,C,S',h1,h2,h _ _ _ h3,h4⟩
noncomputable def t9:Arguments:=⟨[],[],none,[],[],none,[]⟩
theorem oE {K:ai}{name qual:Str}{body:Expr}{scope:Scope}{cl:List (Str×Addr)}{pm cdv ct:Value}:Binds K (kla_fn name qual t9 body scope cl pm cdv ct) [] [] := .all fun us hl=>by
 match us,hl with
 | [],_=>rfl
section
variable {M:Mo}{X:Cx}{k:Nat}{N:List Str}{ns:List (Str×NameKind)}{pins:List (Addr×Obj)}{σ:St}{H:Hp}{s:Shared}{cl:Nat->Addr}{rz:List Nat}
theorem ze {f0:Addr}{fd0:FuncData}{fs:List Str}{is:List Nat}{k' j:Nat}{ml:ME}{rl:MX}{body:Expr}{scope:Scope}{qual:Str}{pm ctv:Value}{c' f:Addr}{oc:Obj}{ws:Array Value}{t:Tok}
  {μ:List Addr}{S1 S':Sto}{ρ:Rho}{u:U}{cs:List U}{Q:VK}
  (S:Sc M X k N ns) (hB:fN M.mg M.base) (hj:k'<=j+1) (hk:j+2<=k) (hbd:Binds M.K fd0 ["call"] [])
  (FF : ∀ (caps:List U) (capv:List V) (cds:List (Addr×Obj)) (base:Heap) (g:Addr) (j:Nat) (φ:MF) (ψ:RF),fN M.mg base->k'<=j->Lam (M.to caps capv cds base) g j [] φ->tq (M.to caps capv cds base) cl g j [] ψ->gZ M.P M.w M.K M.mg base CX0 (j+1) f0 fd0 ["call"] (spM (M.K.to caps capv cds) (yG rz g φ ψ)))
  (LS:i9 [] fs scope) (hfs : ∀ y∈fs,ns.lookup y=some .cell/\(y,aO)∈scope.names) (his:dq (fun y=>N.findIdx? (· == y)) fs=some is)
  (hb : ∀ (caps:List U) (capv:List V) (cds:List (Addr×Obj)) (base:Heap),fN M.mg base -> ∀ (X':Cx),Sc (M.to caps capv cds base) X' j ([]++fs) scope.names->PE X' body (tM (M.K.to caps capv cds) ml))
  (hx : ∀ (caps:List U) (capv:List V) (cds:List (Addr×Obj)) (base:Heap),fN M.mg base -> ∀ (X':Cx) (E:XK),Lv X' E->Sc (M.to caps capv cds base) X'.nox j ([]++fs) scope.names->PE X' body (tXE cl (M.K.to caps capv cds) rl E))
  (I:Inv X pins σ H s) (hr:HR M.K μ S1 H) (er:ER H μ ρ σ) (hcs:ke is ρ=some cs) (spec:yr rz (qj 0 ml cs) (sh 0 rl cs) S1=some (u,S')) (aft:Aft M.K μ H u S' Q)
  (hf:s.heap.get? f=some (kla_obj "<lambda>" qual t9 body scope (eF X.env.cells scope.names []) pm c' ctv)) (hfn:H f=none) (hff:f∉frs X.stack) (hc:H c'=some (.frz oc fz)) (hoc:oc.data = .fields ws) (hq:ws[1]? = some (.str qual t)) :
  aJ (model X.prog X.w) X.A (call (.ref f0) [.ref f]) (EP X pins σ Q) X.xe s:=by
 obtain⟨cv,rc,C⟩:=wG S I er hfs his hcs
 have hB':fN M.mg (baseOf s.heap H (frs X.stack)):=hB.keeps fun a o e=>tJ I a o (by rw [S.hb];exact e)
 have hcl : ∀ y c,(eF X.env.cells scope.names []).lookup y=some c -> ∃ o v,(baseOf s.heap H (frs X.stack)).get? c=some o/\o.data = .cell v:=fun y c e=>by
  obtain⟨e1,e2⟩:=jo e
  obtain⟨v,o,ho,hd⟩:=I.cell y c e1
  exact⟨o,v,fB ho (I.freeC y c e1) (uz S I (hfs y (LS.fre _ e2 rfl)).1 e1),hd⟩
 have inj : ∀ y z c,(eF X.env.cells scope.names []).lookup y=some c->(eF X.env.cells scope.names []).lookup z=some c->y=z:=fun y z c e1 e2=>I.ok.inj y z c (jo e1).1 (jo e2).1
 have lam:Lam (M.to cs cv (M.K.cds ++ [(c',oc)]) (baseOf s.heap H (frs X.stack))) f (j+1) [] (qj 0 ml cs):=
  ⟨_,.inl ⟨_,_,_,fB hf hfn hff⟩,oE,E8 (M:=M.to cs cv (M.K.cds ++ [(c',oc)]) (baseOf s.heap H (frs X.stack))) rfl (fB hf hfn hff) (aT _ aM) hoc hq LS C hcl inj (hb _ _ _ _ hB')⟩
 have lamx:tq (M.to cs cv (M.K.cds ++ [(c',oc)]) (baseOf s.heap H (frs X.stack))) cl f (j+1) [] (sh 0 rl cs):=
  ⟨_,.inl ⟨_,_,_,fB hf hfn hff⟩,oE,CM (M:=M.to cs cv (M.K.cds ++ [(c',oc)]) (baseOf s.heap H (frs X.stack))) rfl (fB hf hfn hff) (aT _ aM) hoc hq LS C hcl inj (hx _ _ _ _ hB')⟩
 have FO:=FF _ _ _ _ f (j+1) _ _ hB' hj lam lamx
 rw [<- S.hP,<- S.hw,<- S.hK,<- S.hm] at FO
 have hr':HR (M.K.to cs cv (M.K.cds ++ [(c',oc)])) μ S1 H:=⟨hr.len,hr.inj,hr.cell,rc,fun q hq=>by
  rcases iK.mp hq with z | z
  ·exact hr.ext.cds q z
  ·have e:q=(c',oc):=by simpa using z
   rw [e];exact hc,hr.ext.tab⟩
 have hsp:spM (M.K.to cs cv (M.K.cds ++ [(c',oc)])) (yG rz f (qj 0 ml cs) (sh 0 rl cs)) [.ref f] H Q E0:=by
  refine⟨μ,S1,[.obj f],u,S',hr',.cons (by simp only [RU]) .nil,(if_pos rfl).trans spec,fun μ' v H' p' k' hr2 ru2 => ?_⟩
  exact aft μ' v H' p' k' ⟨hr2.len,hr2.inj,hr2.cell,RUs.mono k' p' _ _ hr.ext.cap,fun q hq=>hr2.ext.cds q (cP _ hq),hr2.ext.tab⟩ ru2
 rw [<- S.hK] at hbd
 refine wpAny_call (jF (FO.run X.A X.stack s H ⟨[.ref f],[]⟩ [.ref f] [.ref f] Q E0 (S.room.mono hk) (x6 I) (hbd s _ I.kIn rfl) (.cons rfl .nil) hsp) fun r s' hq => ?_)
 cases r with
 | error e=>exact hq.elim
 | ok fl=>
   cases fl with
   | ret u=>exact I.after hq
   | next=>exact bM hq
   | brk=>exact bM hq
   | cont=>exact bM hq
theorem Co {fs:List Str}{is:List Nat}{k' j:Nat}{ml:ME}{rl:MX}{g q:Str}{c P:Addr}{body:Expr}{scope:Scope}{p1 lp pos:Pos}
  (S:Sc M X k N ns) (FC:FnR M cl g k' rz) (hj:k'<=j+1) (hk:j+2<=k) (hmk:M.mkr=some (c,q)) (MK:Mkr M c P (q++"<lambda>"))
  (hg:dm ns g=true) (hgd:(g == ("__debug__":Str))=false)
  (LS:i9 [] fs scope) (hfs : ∀ y∈fs,ns.lookup y=some .cell/\(y,aO)∈scope.names) (his:dq (fun y=>N.findIdx? (· == y)) fs=some is)
  (hb : ∀ (caps:List U) (capv:List V) (cds:List (Addr×Obj)) (base:Heap),fN M.mg base -> ∀ (X':Cx),Sc (M.to caps capv cds base) X' j ([]++fs) scope.names->PE X' body (tM (M.K.to caps capv cds) ml))
  (hx : ∀ (caps:List U) (capv:List V) (cds:List (Addr×Obj)) (base:Heap),fN M.mg base -> ∀ (X':Cx) (E:XK),Lv X' E->Sc (M.to caps capv cds base) X'.nox j ([]++fs) scope.names->PE X' body (tXE cl (M.K.to caps capv cds) rl E)) :
  PE X (.Call (.Name g p1) [.Lambda t9 body scope lp] [] pos) (tM M.K (hX rz is ml rl)):=by
 intro pins s σ H Q I h
 obtain⟨μ,S1,ρ,u,S',hr1,er,qm,aft⟩:=h
 unfold hX at qm
 cases hcs:ke is ρ with
 | none=>rw [hcs] at qm;cases qm
 | some cs=>
 rw [hcs] at qm
 simp only [ao] at qm
 obtain⟨f0,fd0,hm,hkp,hbd,FF⟩:=FC.ex
 rw [<- S.hK] at hkp
 refine dP (iI I (S.gl hg) (by rw [S.hm];exact hm) ?_ hgd)
 refine A2 (h₀:=X.base) I.ok.mod.kin hkp ?_ rfl rfl
 obtain⟨hcode,hqual⟩:=S.cod c q hmk
 obtain⟨ps0,hP,tr,al⟩:=hr1.ext.tab _ MK.mem
 have hPh:s.heap.get? P=some (tabObj ps0):=I.hok P _ hP
 have kin:M.K.K.In s.heap:=by have:=I.kIn;rwa [S.hK] at this
 have C:CodeHd s.heap c P:=MK.hd _ kin
 have hgl:s.heap.Ns mainGlobals X.mg:=I.mod.glob.keeps I.bk
 obtain⟨bm,ob,b1,b2,b5,b6,b7,b8⟩:=MK.bl
 have b5':s.heap.get? bm=some ob:=I.bk bm ob (by rw [S.hb];exact b5)
 have b3:bm≠mainGlobals:=fun z=>by
  obtain⟨o,es,ep,e,hd,_⟩:=hgl
  rw [<- z,b5'] at e;cases e;rw [b8] at hd;cases hd
 have b4:bm≠P:=fun z=>by
  rw [z,hPh] at b5';cases b5';cases b8
 have BA:s.heap.BuiltinsAt X.mg P:=⟨bm,ob,by rw [S.hm];exact b1,b2,b3,b4,b5',b6,b7,b8⟩
 have hclo:closureFor scope X.env=pure (eF X.env.cells scope.names []):=vP fun y hy hyf=>I.ok.has y.1 (.inl (S.cel y.1 (hfs y.1 (LS.fre y hy hyf)).1).1)
 show aJ _ _ (spliced [(false,eval (.Lambda t9 body scope lp) X.env)]) _ _ s
 refine ek (PySem.W.kla_eval rfl ?_)
 have fin : ∀ (H2:Hp) (s2:Shared) (c' f:Addr) (ctv:Value) (oc:Obj) (ws:Array Value) (t:Tok),Inv X pins σ H2 s2->bh H H2->HR M.K μ S1 H2 ->
   s2.heap.get? f=some (kla_obj "<lambda>" (X.env.qual++"<lambda>") t9 body scope (eF X.env.cells scope.names []) ((X.mg "__name__").getD .none) c' ctv)->H2 f=none->s.heap.objs.size<=f->H2 c'=some (.frz oc fz)->oc.data = .fields ws->ws[1]? = some (.str (q++"<lambda>") t) ->
   aJ (model X.prog X.w) X.A (spliced []) (fun vs s₂=>X.K.In s₂.heap/\aJ (model X.prog X.w) X.A (call (.ref f0) ([]++(bj f::vs))) (EP X pins σ Q) X.xe s₂) X.xe s2:=by
  intro H2 s2 c' f ctv oc ws t I2 kp2 hr2 hf hfn hfs' hc hoc hq
  have hff:f∉frs X.stack:=fun z=>by
   obtain⟨_,o,ho,_⟩:=I.stack.mem z
   exact absurd (ah (aD ho) hfs') (bB _)
  rw [<- hqual] at hq
  exact gH ⟨I2.kIn,ze S MK.bl hj hk hbd FF LS hfs his hb hx I2 hr2 (er.mono kp2 (Pre.refl _)) hcs qm (aft.mono (Pre.refl _) kp2) hf hfn hff hc hoc hq⟩
 cases ham:codeAmong lp ps0.toList with
 | none=>
   refine PySem.W.kla_makeFunction (mg:=X.mg) hclo I.ok.glob hgl hcode C hPh tr ham MK.gP BA fun c' ctv h' tk hx hge hlt hrec htb => ?_
   obtain⟨c2,oc,ws,t,e,hoc,hd,hq'⟩:=hrec
   cases e
   have I2:=yM (ob:=kla_obj "<lambda>" (X.env.qual++"<lambda>") t9 body scope (eF X.env.cells scope.names []) ((X.mg "__name__").getD .none) c' ctv) (tk:=tk) I hP hx hge hoc htb
   rw [hqual] at hq'
   obtain⟨kp2,hr2⟩:=hr1.table (a:=(lp.line:Int)) (b:=(lp.col:Int)) hP (I.hok.fresh hge) hd hq' MK.un
   have hsz:s.heap.objs.size<=h'.objs.size:=aK hge (aW hlt)
   refine fin _ _ c' h'.objs.size ctv oc ws t I2 kp2 hr2 (aF _ rfl) ?_ hsz ?_ hd hq'
   ·rw [aV (bY (aD htb)),aV (bY hlt)]
    exact I.hok.fresh hsz
   ·rw [aV (aS hP (I.hok.fresh hge)).symm,cq]
 | some cv=>
   obtain⟨c',oc,ws,t,rfl,hfr,hd,hq'⟩:=al lp cv ham
   refine PySem.W.kla_makeFunctionHit (mg:=X.mg) hclo I.ok.glob hgl hcode C hPh tr ham BA fun ctv h' tk hk hsz => ?_
   have I2:=I.kept (t':=tk) (h':=h'.push (kla_obj "<lambda>" (X.env.qual++"<lambda>") t9 body scope (eF X.env.cells scope.names []) ((X.mg "__name__").getD .none) c' ctv)) (fun b o e=>ar _ (hk b o e))
   exact fin H _ c' h'.objs.size ctv oc ws t I2 (bh.refl _) hr1 (aF _ rfl) (I.hok.fresh hsz) hsz hfr hd hq'
end
end G
end
section
namespace G
open PySem PySem.Spec L2
open PySem.W (envX fnX fnMade CodeHd tabObj)
open PyProof.Rows hiding St
section
end
section
noncomputable def sml (i:Int):Prop := -(2 ^ 64) < i/\i < 2 ^ 64
noncomputable instance (i:Int):Decidable (sml i):=bR _
end
section
variable {M:Mo}{X:Cx}{k:Nat}{N:List Str}{ns:List (Str×NameKind)}
end
section
variable {M:Mo}{X:Cx}{k:Nat}{N:List Str}{ns:List (Str×NameKind)}{pins:List (Addr×Obj)}{σ:St}{H:Hp}{s:Shared}
end
end G
end
section
namespace G
open PySem PySem.Spec L2
open PyProof.Rows hiding St
section
abbrev NS:=List (Str×NameKind)
structure Zt where
 R:List (Str×RF)
 F:List (Str×List Nat)
 cl:Nat->Addr
 nm:Str
noncomputable def Zt.to (z:Zt) (nm:Str):Zt:=⟨z.R,z.F,z.cl,nm⟩
structure Tb where
 D:List (Str×MF)
 C:List (Str×U)
 L:List (Str×Addr×MF)
 H:List (Str×(Addr->MF->MF))
 mkr:Bool
 Z:Zt
noncomputable def Tb.bare (T:Tb):Tb:=⟨T.D,T.C,[],T.H,false,T.Z⟩
noncomputable def frees (sc:Scope):List Str:=(sc.names.filter fun y=>y.2 == .free).map (·.1)
noncomputable def vd (ps:List Str) (sc:Scope) (ns:NS):Bool:=
 sc.kind == .function && !sc.isCoroutine && !sc.isGenerator&&decide ((ps++frees sc).Nodup)&&ps.all (fun p=>sc.names.lookup p == some .local||sc.names.lookup p == some .cell)&&sc.names.all (fun y => !(y.2 == .cell)||sc.names.lookup y.1 == some .cell)&&(frees sc).all fun y=>sc.names.lookup y == some .free&&ns.lookup y == some .cell
noncomputable def notStar:Expr->Bool
 | .Starred _ _=>false
 | _=>true
noncomputable def jn:Expr->Bool
 | .ListComp _ _ _ _=>false
 | .SetComp _ _ _ _=>false
 | .DictComp _ _ _ _ _=>false
 | _=>true
noncomputable def jX:Expr->Bool
 | .Set _ _ _=>false
 | _=>true
noncomputable def j4:Expr->Bool
 | .Slice _ _ _ _=>false
 | _=>true
noncomputable def baseOk:Expr->Bool
 | .Call (.Name _ _) [] [] _=>false
 | _=>true
noncomputable def plainT:Expr->Bool
 | .Name _ _=>true
 | .Call _ _ _ _=>true
 | .Subscript _ _ _=>true
 | .Constant _ _ _=>true
 | _=>false
noncomputable def dummy (N:List Str):Str:=⟨#[N.length+1]⟩
noncomputable def xY (N:List Str) (x:Str):List Str:=(N.map fun y=>if y == x then dummy N else y) ++ [x]
noncomputable def bH (x:Str):Bool := !(x == ("__debug__":Str)) && !(x == ("__classdict__":Str))
noncomputable def slot (N:List Str) (x:Str):Option Nat:=N.findIdx? (· == x)
noncomputable def Fg (g:Str):Option MF:=
 if g == ("len":Str) then some cQ else if g == ("tuple":Str) then some bS
 else if g == ("max":Str) then some sZ else if g == ("min":Str) then some nK else if g == ("all":Str) then some pQ
 else if g == ("sorted":Str) then some gY else if g == ("int":Str) then some vD   else none
noncomputable def hJ:List Str := ["len","tuple","list","max","min","range","isinstance","bool","int","str","dict","all","any","sorted","reversed","zip","enumerate","set","sum","repr"]
noncomputable def Ec:Operator->Option F2
 | .Add=>some bV
 | .Sub=>some kT
 | .Mult=>some dX
 | .FloorDiv=>some oDiv
 | .Mod=>some oMod
 | .Pow=>some rA
 | _=>none
noncomputable def Br:CmpOp->Option F2
 | .Lt=>some oLt
 | .LtE=>some oLe
 | .Gt=>some oGt
 | .GtE=>some oGe
 | .Eq=>some oEq
 | .NotEq=>some oNe
 | .In=>some oIn
 | .NotIn=>some jZ
 | _=>none
noncomputable def vu (i:Nat) (e:ME):MS:=fun ρ S=>match ρ[i]? with
 | some (some (.int x))=>bnd (e ρ S) fun y S1=>match y with
   | .int y=>some (.nx,ρ.set i (some (.int (x+y))),S1)
   | _=>none
 | _=>none
noncomputable def sNo:MS:=fun _ _=>none
noncomputable def Ij:MS:=fun ρ S=>some (.bk,ρ,S)
noncomputable def IB:MS:=fun ρ S=>some (.ct,ρ,S)
noncomputable def zY (name:Str) (ma:ME) (mas:MA):Option ME:=
 if name == ("append":Str) then some (mML cm ma mas) else if name == ("pop":Str) then some (mML iR ma mas)
 else if name == ("index":Str) then some (mMT fq ma mas)
  else none
set_option genInjectivity false in
structure Rc where
 e:Tb->List Str->NS->Expr->Option ME
 c:Tb->List Str->NS->Str->List Expr->Option ME
 v:Tb->List Str->NS->Str->List Expr->Option ME
 o:Tb->List Str->NS->Option Expr->Option (Option ME)
 t:Tb->List Str->NS->Expr->Option MT
 l:Tb->List Str->NS->Bool->List Expr->Option MT
 f:Tb->List Str->NS->List Expr->Option MT
 a:Tb->List Str->NS->List Expr->Option MA
 i:Tb->List Str->NS->Expr->Option MI
 g:Tb->List Str->NS->Expr->Option MG
 gs:Tb->List Str->NS->List Expr->Option MGs
 s:Tb->List Str->NS->Stmt->Option MS
 b:Tb->List Str->NS->List Stmt->Option MS
section
variable (R:Rc) (T:Tb) (N:List Str) (ns:NS)
noncomputable def HC:Const->Option ME
 | .int i=>some (mC (.int i))
 | .bool b=>some (mC (.bl b))
 | .none=>some (mC .non)
 | .str x=>some (mC (.str x))
 | _=>none
noncomputable def eUn (a:Expr):UnaryOp->Option ME
 | .USub=>(R.e T N ns a).map (m1 lC)
 | .Not=>(R.e T N ns a).map (m1 BL)
 | _=>none
noncomputable def eBo (op:BoolOp) (p:Pos):List Expr->Option ME
 | []=>none
 | [a]=>R.e T N ns a
 | a::b::r=>(R.e T N ns a).bind fun ma=>match op with
   | .And=>(R.e T N ns (.BoolOp .And (b::r) p)).map (E4 ma)
   | .Or=>(R.e T N ns (.BoolOp .Or (b::r) p)).map (mOr ma)
noncomputable def eCm (a:Expr):List CmpOp->List Expr->Option ME
 | [op],[b]=>if jX b then (R.e T N ns a).bind fun ma=>(R.e T N ns b).bind fun mb=>(Br op).map fun f=>m2 f ma mb else none
 | _,_=>none
noncomputable def eSb (a:Expr):Expr->Option ME
 | .Slice _ _ _ _=>none
 | b=>if j4 b then (R.e T N ns a).bind fun ma=>(R.e T N ns b).map (m2 oIx ma) else none
noncomputable def eLt (elt it:Expr) (ifs:List Expr) (scope:Scope):Expr->Option ME
 | .Name x _=>if scope.kind == .function&&mj N (xY N x) ns scope.names x&&jX it then
    (R.i T N ns it).bind fun mi=>(R.f T (xY N x) scope.names ifs).bind fun mt=>(R.e T (xY N x) scope.names elt).map (cw mi mt)
   else none
 | _=>none
noncomputable def eLc (elt:Expr) (scope:Scope):List Comprehension->Option ME
 | [c]=>if c.is_async=0 then eLt R T N ns elt c.iter c.ifs scope c.target else none
 | _=>none
noncomputable def CY (fs:List Str) (nms:NS):Expr->Option MX
 | .Call (.Name f _) (a::as) [] _=>if dm nms f&&bH f then (T.Z.R.lookup f).bind fun rf=>(R.a T.bare fs nms (a::as)).map (xFn rf) else none
 | _=>none
noncomputable def AC:Arguments->Bool
 | ⟨[],[],none,[],[],none,[]⟩=>true
 | _=>false
noncomputable def Ad (g:Str) (p:Arguments) (b:Expr) (sc:Scope):Option ME:=
 if T.mkr&&T.Z.nm == ("<lambda>":Str)&&AC p&&vd [] sc ns then (dq (fun y=>N.findIdx? (· == y)) (frees sc)).bind fun is=>(R.e T.bare ([]++frees sc) sc.names b).bind fun ml=>(CY R T ([]++frees sc) sc.names b).bind fun rl=>(T.Z.F.lookup g).map fun rz=>hX rz is ml rl else none
noncomputable def eRg (g:Str):List Expr->Option ME
 | [a]=>if g == ("list":Str) then (R.a T N ns [a]).map fun m=>fV (iR1 m) else none
 | [a,b]=>if g == ("list":Str) then (R.a T N ns [a,b]).map fun m=>fV (iR2 m) else none
 | _=>none
noncomputable def eC1 (g:Str):Expr->Option ME
 | .Lambda p b sc _=>Ad R T N ns g p b sc
 | .Call (.Name r q) rs [] rp=>if (g == ("list":Str)||g == ("tuple":Str))&&r == ("range":Str) then (if dm ns r then eRg R T N ns g rs else none) else R.c T N ns g [.Call (.Name r q) rs [] rp]
 | a=>R.c T N ns g [a]
noncomputable def eIs (g t:Str) (tp:Pos) (a:Expr):Option ME:=
 if g == ("isinstance":Str) then none else R.c T N ns g [a,.Name t tp]
noncomputable def eC2 (g:Str) (a:Expr):Expr->Option ME
 | .Name t tp=>eIs R T N ns g t tp a
 | .Lambda _ _ _ _=>none
 | b=>R.c T N ns g [a,b]
noncomputable def eCf (g:Str):List Expr->Option ME
 | []=>(T.D.lookup g).map fun mf=>mFn mf ag
 | [a]=>eC1 R T N ns g a
 | [a,b]=>eC2 R T N ns g a b
 | a::b::c::r=>R.c T N ns g (a::b::c::r)
noncomputable def eMe (o:Expr) (name:Str) (p q:Pos):List Expr->Option ME
 | []=>none
 | [a]=>if baseOk o&&(p.endLine == q.line)&&notStar a then (R.e T N ns o).bind fun mo=>(R.a T N ns [a]).bind (zY name mo) else none
 | _=>none
noncomputable def eCa (as:List Expr) (q:Pos):Expr->Option ME
 | .Name g _=>if dm ns g&&bH g then eCf R T N ns g as else R.v T N ns g as
 | .Attribute o name p=>eMe R T N ns o name p q as
 | _=>none
end
noncomputable def sE (R:Rc) (T:Tb):List Str->NS->Expr->Option ME:=fun N ns e=>match e with
  | .Name x _=>if bH x then (if mY ns x then (slot N x).map ae else if dm ns x then (T.C.lookup x).map mC else none) else none
  | .Constant c _ _=>HC c
  | .BinOp a op b _=>(R.e T N ns a).bind fun ma=>(R.e T N ns b).bind fun mb=>(Ec op).map fun f=>m2 f ma mb
  | .UnaryOp op a _=>eUn R T N ns a op
  | .BoolOp op vs p=>eBo R T N ns op p vs
  | .Compare a ops bs _=>eCm R T N ns a ops bs
  | .IfExp c a b _=>(R.t T N ns c).bind fun mc=>(R.e T N ns a).bind fun ma=>(R.e T N ns b).map (Cf mc ma)
  | .Subscript a b _=>eSb R T N ns a b
  | .Tuple es _ _=>(R.a T N ns es).map eU
  | .List es _=>(R.a T N ns es).map cf
  | .ListComp elt gens scope _=>eLc R T N ns elt scope gens
  | .Call f as kws q=>if kws.isEmpty then eCa R T N ns as q f else none
  | _=>none
noncomputable def sC (R:Rc) (T:Tb):List Str->NS->Str->List Expr->Option ME:=fun N ns g as=>(R.a T N ns as).bind fun mas=>match Fg g with
  | some mf=>some (mFn mf mas)
  | none=>(T.D.lookup g).map fun mf=>mFn mf mas
noncomputable def sV (R:Rc) (T:Tb):List Str->NS->Str->List Expr->Option ME:=fun N ns g as=>match as with
 | []=>none
 | a::as=>none
noncomputable def sO (R:Rc) (T:Tb):List Str->NS->Option Expr->Option (Option ME):=fun N ns o=>match o with
  | none=>some none
  | some e=>(R.e T N ns e).map some
noncomputable def sT (R:Rc) (T:Tb):List Str->NS->Expr->Option MT:=fun N ns e=>match e with
  | .UnaryOp .Not a _=>(R.t T N ns a).map km
  | .BoolOp .And vs _=>R.l T N ns true vs
  | .BoolOp .Or vs _=>R.l T N ns false vs
  | .Compare a ops bs _=>(eCm R T N ns a ops bs).map cOf
  | e=>if plainT e then (R.e T N ns e).map cOf else none
noncomputable def sL (R:Rc) (T:Tb):List Str->NS->Bool->List Expr->Option MT:=fun N ns b vs=>match vs with
  | []=>none
  | [a]=>R.t T N ns a
  | a::r=>(R.t T N ns a).bind fun ma=>(R.l T N ns b r).map fun mr=>if b then nJ ma mr else cOr ma mr
noncomputable def sF (R:Rc) (T:Tb):List Str->NS->List Expr->Option MT:=fun N ns ifs=>match ifs with
  | []=>some cTT
  | [c]=>R.t T N ns c
  | _=>none
noncomputable def sA (R:Rc) (T:Tb):List Str->NS->List Expr->Option MA:=fun N ns es=>match es with
  | []=>some ag
  | e::r=>if notStar e then (R.e T N ns e).bind fun m=>(R.a T N ns r).map (aa m) else none
noncomputable def sI (R:Rc) (T:Tb):List Str->NS->Expr->Option MI:=fun N ns e=>match e with
  | .Call (.Name g q) as [] p=>
    if g == ("range":Str) then
     if dm ns g then match as with
      | [a]=>(R.a T N ns [a]).map iR1
      | [a,b]=>(R.a T N ns [a,b]).map iR2
      | _=>none
     else none
    else if g == ("reversed":Str) then
     if dm ns g then match as with
      | [a]=>(R.a T N ns [a]).map uJ
      | _=>none
     else none
    else (R.e T N ns (.Call (.Name g q) as [] p)).map iB
  | e=>(R.e T N ns e).map iB
noncomputable def sG (R:Rc) (T:Tb):List Str->NS->Expr->Option MG:=fun N ns e=>match e with
  | .Name x _=>if ji ns x then (slot N x).map gN else none
  | .Tuple es _ _=>(R.gs T N ns es).map (gTp es.length)
  | _=>none
noncomputable def sGs (R:Rc) (T:Tb):List Str->NS->List Expr->Option MGs:=fun N ns es=>match es with
  | []=>some qW
  | e::r=>if notStar e then (R.g T N ns e).bind fun g=>(R.gs T N ns r).map (gK g) else none
noncomputable def eIt (R:Rc) (T:Tb) (N:List Str) (ns:NS) (e:Expr):Option MI:=match e with
  | .Call (.Name g q) [a] [] p=>if g == ("enumerate":Str) then (if dm ns g then (R.a T N ns [a]).map nB else none) else none
  | _=>none
noncomputable def F7 (R:Rc) (T:Tb) (N:List Str) (ns:NS) (y:Str) (elt it:Expr) (ifs:List Expr) (scope:Scope):Expr->Option MS
 | .Name x _=>
   if ji ns y&&(scope.kind == .function&&mj N (xY N x) ns scope.names x&&jX it) then
    (slot N y).bind fun i=>(R.i T N ns it).bind fun mi=>(R.f T (xY N x) scope.names ifs).bind fun mt=>(R.e T (xY N x) scope.names elt).map fun me=>br i (cw mi mt me)
   else none
 | _=>none
noncomputable def IU (R:Rc) (T:Tb) (N:List Str) (ns:NS) (y:Str) (elt:Expr) (scope:Scope):List Comprehension->Option MS
 | [c]=>if c.is_async=0 then F7 R T N ns y elt c.iter c.ifs scope c.target else none
 | _=>none
noncomputable def Es (R:Rc) (T:Tb) (N:List Str) (ns:NS) (x:Str):Expr->Option MS
 | .ListComp elt gens scope _=>IU R T N ns x elt scope gens
 | e=>if ji ns x&&jn e then (slot N x).bind fun i=>(R.e T N ns e).map (br i) else none
noncomputable def Ge (R:Rc) (T:Tb) (N:List Str) (ns:NS) (e:Expr):Expr->Option MS
  | .Name x _=>Es R T N ns x e
  | .Subscript a b _=>if jn e&&j4 b then (R.e T N ns a).bind fun ma=>(R.e T N ns b).bind fun mb=>(R.e T N ns e).map (lF ma mb) else none
  | .Tuple ts kt pt=>none
  | _=>none
noncomputable def sAs (R:Rc) (T:Tb) (N:List Str) (ns:NS) (e:Expr):List Expr->Option MS
 | [t]=>Ge R T N ns e t
 | _=>none
noncomputable def sAu (R:Rc) (T:Tb) (N:List Str) (ns:NS) (x:Str) (e:Expr):Operator->Option MS
  | .Add=>if ji ns x then (slot N x).bind fun i=>(R.e T N ns e).map (vu i) else none
  | _=>none
noncomputable def GI (R:Rc) (T:Tb) (N:List Str) (ns:NS) (op:Operator) (e:Expr):Expr->Option MS
 | .Name x _=>sAu R T N ns x e op
 | _=>none
noncomputable def sRt (R:Rc) (T:Tb) (N:List Str) (ns:NS):Option Expr->Option MS
 | some e=>(R.e T N ns e).map cW
 | none=>some (cW (mC .non))
noncomputable def sFo (R:Rc) (T:Tb) (N:List Str) (ns:NS) (it:Expr) (body:List Stmt):Expr->Option MS
  | .Name x _=>if ji ns x&&jX it then (slot N x).bind fun i=>(R.i T N ns it).bind fun mi=>(R.b T N ns body).map (d5 i mi) else none
  | .Tuple ts kt pt=>if jX it then (R.g T N ns (.Tuple ts kt pt)).bind fun g=>(eIt R T N ns it).bind fun mi=>(R.b T N ns body).map (qC g mi) else none
  | _=>none
noncomputable def Jk (R:Rc) (T:Tb) (N:List Str) (ns:NS) (t it:Expr) (body:List Stmt):List Stmt->Option MS
 | []=>sFo R T N ns it body t
 | _=>none
noncomputable def sWh (R:Rc) (T:Tb) (N:List Str) (ns:NS) (c:Expr) (body:List Stmt):List Stmt->Option MS
 | []=>(R.t T N ns c).bind fun mc=>(R.b T N ns body).map (ki mc)
 | _=>none
noncomputable def sS (R:Rc) (T:Tb):List Str->NS->Stmt->Option MS:=fun N ns st=>match st with
  | .Assign ts e _=>sAs R T N ns e ts
  | .AugAssign t op e _=>GI R T N ns op e t
  | .Expr e _=>if jn e then (R.e T N ns e).map dy else none
  | .Return o _=>sRt R T N ns o
  | .If c a b _=>(R.t T N ns c).bind fun mc=>(R.b T N ns a).bind fun ma=>(R.b T N ns b).map (sIf mc ma)
  | .For t it body els _=>Jk R T N ns t it body els
  | .While c body els _=>sWh R T N ns c body els
  | .Pass _=>some cD
  | .Break _=>some Ij
  | .Raise _ _ _=>some sNo
  | .Continue _=>some IB
  | _=>none
section
variable (R:Rc) (T:Tb) (N:List Str) (ns:NS)
end
noncomputable def sB (R:Rc) (T:Tb):List Str->NS->List Stmt->Option MS:=fun N ns sts=>match sts with
  | []=>some cD
  | [s]=>R.s T N ns s
  | s::r=>(R.s T N ns s).bind fun ms=>(R.b T N ns r).map (aZ ms)
noncomputable def rc:Nat->Rc
 | 0=>⟨fun _ _ _ _=>none,fun _ _ _ _ _=>none,fun _ _ _ _ _=>none,fun _ _ _ _=>none,fun _ _ _ _=>none,fun _ _ _ _ _=>none,fun _ _ _ _=>none,fun _ _ _ _=>none,fun _ _ _ _=>none,fun _ _ _ _=>none,fun _ _ _ _=>none,fun _ _ _ _=>none,fun _ _ _ _=>none⟩
 | n+1=>⟨sE (rc n),sC (rc n),sV (rc n),sO (rc n),sT (rc n),sL (rc n),sF (rc n),sA (rc n),sI (rc n),sG (rc n),sGs (rc n),sS (rc n),sB (rc n)⟩
abbrev cE (T:Tb) (n:Nat):=(rc n).e T
abbrev cC (T:Tb) (n:Nat):=(rc n).c T
abbrev cV (T:Tb) (n:Nat):=(rc n).v T
abbrev cO (T:Tb) (n:Nat):=(rc n).o T
abbrev cT (T:Tb) (n:Nat):=(rc n).t T
abbrev cL (T:Tb) (n:Nat):=(rc n).l T
abbrev cF (T:Tb) (n:Nat):=(rc n).f T
abbrev cA (T:Tb) (n:Nat):=(rc n).a T
abbrev cI (T:Tb) (n:Nat):=(rc n).i T
abbrev cG (T:Tb) (n:Nat):=(rc n).g T
abbrev cGs (T:Tb) (n:Nat):=(rc n).gs T
abbrev cS (T:Tb) (n:Nat):=(rc n).s T
abbrev cB (T:Tb) (n:Nat):=(rc n).b T
end
end G
end
section
namespace G
open PySem PySem.Spec L2
open PyProof.Rows hiding St
section
variable {env:Env}{e a b o:Expr}{es:List Expr}{pos q:Pos}
theorem cN (h:notStar e=true) (es:List Expr) (env:Env):starEach (e::es) env=(false,eval e env)::starEach es env:=by
 cases e <;> first | rfl | cases h
theorem m6 (pos:Pos) (env:Env) : ∀ {es:List Expr},es.all notStar=true->(backTo pos (starEach es env)).any (·.1)=false
 | [],_=>rfl
 | e::es,h=>by
   rw [bK,ax] at h
   rw [cN h.1]
   show (false||(backTo pos (starEach es env)).any (·.1))=false
   rw [m6 pos env h.2];rfl
theorem Ag (h:plainT e=true) (env:Env) : ∀ whole,isTrue e env whole=(do let v <- whole;standAt e.pos;holding [v] (truthy v)):=by
 intro whole
 cases e <;> first | rfl | cases h
theorem nX (h:jX e=true) (env:Env) : ∀ x,foldedSetIterable e env x=pure x:=by
 intro x
 cases e <;> first | rfl | cases h
theorem wo (h:jX b=true) (op:CmpOp):behindInMarks op b=false:=by
 cases b <;> first | rfl | cases h
theorem DN (h:j4 b=true):rh b:=by
 intro o i
 cases b <;> first | rfl | cases h
theorem rG (h:baseOk o=true) (name:Str) (env:Env):attributeBase o name env (eval o env)=eval o env:=by
 cases o with
 | Call f as ks p=>
   cases f with
   | Name x p=>
     cases as with
     | nil=>cases ks with
       | nil=>cases h
       | cons k ks=>rfl
     | cons a as=>rfl
   | _=>rfl
 | _=>rfl
theorem mz (h:jn e=true) (t:Option Expr) (line:Nat) (env:Env):swapsWith e t line env=pure false:=by
 cases e <;> first | rfl | cases h
theorem BP (h:jn e=true) (t:Expr) (line:Nat) (env:Env):swapsWithSole [t] e line env=pure false:=by
 unfold swapsWithSole
 exact mz h _ _ _
theorem vX (h:notStar a=true) (q:Pos) (env:Env):((backTo q (starEach [a] env)).all (fun x => !x.1)&&(backToKw q (keywordEach [] env)).all (fun x=>x.1.isSome)
   && decide ([a].length+([]:List Keyword).length+(if ([]:List Keyword).isEmpty then 0 else 1) < 30))=true:=by
 rw [cN h];rfl
theorem Fd (h:j4 b=true) (env:Env) : ∀ v,assign (.Subscript a b pos) env v=(do
   let ov <- holding [v] (eval a env)
   let iv <- holding [v,ov] (eval b env)
   standAt pos
   holding [v,ov,iv] (setItem ov iv v)
   release [v,ov,iv] []):=by
 intro v
 cases b <;> first | rfl | cases h
theorem tS (h:notStar e=true) (es:List Expr) (env:Env):assignEach (e::es) env=(false,assign e env)::assignEach es env:=by
 cases e <;> first | rfl | cases h
theorem wB (env:Env) : ∀ es:List Expr,es.all notStar=true->(assignEach es env).length=es.length/\(assignEach es env).findIdx? (·.1)=none
 | [],_=>⟨rfl,rfl⟩
 | e::es,h=>by
   rw [bK,ax] at h
   obtain⟨a,b⟩:=wB env es h.2
   rw [tS h.1]
   exact⟨by simp [a],by rw [List.findIdx?_cons];simp [b]⟩
theorem vO:swappedStores [.Subscript a b pos] e env=pure none:=by
 cases e <;> rfl
end
theorem gh {T:Tb} : ∀ {n:Nat}{N:List Str}{ns:NS}{es:List Expr}{m:MA},cA T n N ns es=some m->es.all notStar=true
 | 0,_,_,_,_,h=>by simp [cA,rc] at h
 | n+1,_,_,[],_,h=>rfl
 | n+1,N,ns,e::es,m,h=>by
   simp only [cA,rc,sA] at h
   split at h
   ·rename_i hs
    cases e1:(rc n).e T N ns e with
    | none=>rw [e1] at h;cases h
    | some me=>
      rw [e1] at h
      simp only [ao] at h
      cases e2:(rc n).a T N ns es with
      | none=>rw [e2] at h;cases h
      | some mr=>rw [bK,hs,gh e2];rfl
   ·cases h
theorem ub {T:Tb} : ∀ {n:Nat}{N:List Str}{ns:NS}{es:List Expr}{m:MGs},cGs T n N ns es=some m->es.all notStar=true
 | 0,_,_,_,_,h=>by simp [cGs,rc] at h
 | n+1,_,_,[],_,h=>rfl
 | n+1,N,ns,e::es,m,h=>by
   simp only [cGs,rc,sGs] at h
   split at h
   ·rename_i hs
    cases e1:(rc n).g T N ns e with
    | none=>rw [e1] at h;cases h
    | some me=>
      rw [e1] at h
      simp only [ao] at h
      cases e2:(rc n).gs T N ns es with
      | none=>rw [e2] at h;cases h
      | some mr=>rw [bK,hs,ub e2];rfl
   ·cases h
theorem slot_get {N:List Str}{x:Str}{i:Nat} (h:slot N x=some i):N[i]? = some x:=by
 unfold slot at h
 obtain⟨h1,h2,_⟩:=dM.mp h
 rw [bO h1,eq_of_beq h2]
theorem b9 {x:Str} (h:bH x=true):(x == ("__debug__":Str))=false/\(x == ("__classdict__":Str))=false:=by
 unfold bH at h
 rw [ax] at h
 simpa using h
theorem bind_eq {α β:Type}{o:Option α}{f:α->Option β}{b:β} (h:o.bind f=some b) : ∃ a,o=some a/\f a=some b:=by
 cases o with
 | none=>cases h
 | some a=>exact⟨a,rfl,h⟩
theorem map_eq {α β:Type}{o:Option α}{f:α->β}{b:β} (h:o.map f=some b) : ∃ a,o=some a/\f a=b:=by
 cases o with
 | none=>cases h
 | some a=>exact⟨a,rfl,bu h⟩
section
variable {M:Mo}{X:Cx}{k:Nat}{N:List Str}{ns:NS}{a b c e:Expr}{es:List Expr}{ma mb mc:ME}{mt:MT}{mas:MA}{pos p1 p2:Pos}{x:Str}
theorem He (S:Sc M X k N ns) (hg:dm ns "all"=true) (hm:M.mg "all"=none) (ha:PA X (e::es) (tMA M.K mas)) (he:starEach (e::es) X.env=(false,eval e X.env)::starEach es X.env) (hpl:(backTo pos (starEach es X.env)).any (·.1)=false) :
  PE X (.Call (.Name "all" p1) (e::es) [] pos) (tM M.K (mFn pQ mas)):=
 PE.con (jY (S.hK▸yl S.calm) (S.gl hg) (by rw [S.hm];exact hm) PyProof.Rows.boot_all ha (by decide) (by decide) he hpl) fun _ _ _ h=>ve FJ h
theorem Bx {ts:List Expr}{kt:Nat}{pt:Pos}{a:Expr} (S:Sc M X k N ns) (hg:dm ns "enumerate"=true) (hm:M.mg "enumerate"=none) (ha:PA X [a] (tMA M.K mas)) (hs:starEach [a] X.env = [(false,eval a X.env)]):PI X (.Tuple ts kt pt) (.Call (.Name "enumerate" p1) [a] [] pos) (rW M.K (tMA M.K mas)):=
 S.hK▸Cy (S.gl hg) (by rw [S.hm];exact hm) ha hs
theorem Al (S:Sc M X k N ns) (hg:dm ns "sorted"=true) (hm:M.mg "sorted"=none) (ha:PA X (e::es) (tMA M.K mas)) (he:starEach (e::es) X.env=(false,eval e X.env)::starEach es X.env) (hpl:(backTo pos (starEach es X.env)).any (·.1)=false) :
  PE X (.Call (.Name "sorted" p1) (e::es) [] pos) (tM M.K (mFn gY mas)):=
 PE.con (jY (S.hK▸ui S.calm) (S.gl hg) (by rw [S.hm];exact hm) PyProof.Rows.boot_sorted ha (by decide) (by decide) he hpl) fun _ _ _ h=>ve yF h
theorem IW {op:CmpOp}{f:F2} (S:Sc M X k N ns) (h:Br op=some f) : ∃ r,OpR X (compareOp op) r/\OpU M.K r f:=by
 cases op <;> simp only [Br,ei,reduceCtorEq] at h <;> subst h
 ·exact⟨_,S.hK▸Fk S.room.units,Ih⟩
 ·exact⟨_,S.hK▸Fm S.room.units,GX⟩
 ·exact⟨_,Ii,rj⟩
 ·exact⟨_,IJ,rj⟩
 ·exact⟨_,Jp,rj⟩
 ·exact⟨_,HF,rj⟩
 ·exact⟨_,S.hK▸En (by have:=S.room.units;omega),Hn⟩
 ·exact⟨_,S.hK▸yA (by have:=S.room.units;omega),zB⟩
theorem Fh {N':List Str}{scope:Scope}{px py spos:Pos}{iter elt:Expr}{ifs:List Expr}{wi:TI}{mi:MI}{y:Str} (S:Sc M X k N ns) (i:Nat) (hy:N[i]? = some y) (ho:ji ns y=true) (hk:scope.kind = .function) (ok:mj N N' ns scope.names x=true) (hi:PI X (.Name x px) iter wi)
  (ht : ∀ X',Sc M X' k N' scope.names->PTs X' ifs (tMT M.K mt)) (he : ∀ X',Sc M X' k N' scope.names->PE X' elt (tM M.K mc)) (hr : ∀ σ H Q,tM M.K (cw mi mt mc) σ H Q->mM wi (tMT M.K mt) (tM M.K mc) σ H Q)
  (hs : ∀ x,foldedSetIterable iter X.env x=pure x):PS X (.Assign [.Name y py] (.ListComp elt [⟨.Name x px,iter,ifs,0⟩] scope pos) spos) (tMS M.K (br i (cw mi mt mc))):=by
 have C:=qN S hk ok
 have e : ∃ b,swapsWith (.ListComp elt [⟨.Name x px,iter,ifs,0⟩] scope pos) (some (.Name y py)) spos.line X.env=pure b:=⟨_,rfl⟩
 obtain⟨b,e⟩:=e
 cases b with
 | true=>exact PS.con (CG (by rw [S.hN];exact S.nd) (by rw [S.hN];exact hy) (S.lo ho).1 S.calm C hi (fun s₂ H₂ fp=>ht _ (rq S C s₂ H₂ fp)) (fun s₂ H₂ fp=>he _ (rq S C s₂ H₂ fp)) e hs (S.lo ho).2) fun _ _ _ h=>hr _ _ _ (DK h)
 | false=>exact tD S i hy ho (z7 S hk ok hi ht he hr hs) e
theorem Fi (S:Sc M X k N ns) (hg:dm ns "int"=true) (hm:M.mg "int"=none) (ha:PA X (e::es) (tMA M.K mas)) (he:starEach (e::es) X.env=(false,eval e X.env)::starEach es X.env) (hpl:(backTo pos (starEach es X.env)).any (·.1)=false) :
  PE X (.Call (.Name "int" p1) (e::es) [] pos) (tM M.K (mFn vD mas)):=
 PE.con (kD yo (S.gl hg) (by rw [S.hm];exact hm) PyProof.Rows.boot_int ha (by decide) (by decide) he hpl) fun _ _ _ h=>ve EN h
theorem Aw {as:Expr}{q rp:Pos} (S:Sc M X k N ns) (hg:dm ns "list"=true) (hm:M.mg "list"=none) (hg2:dm ns "range"=true) (hm2:M.mg "range"=none) (ha:PA X [as] (tMA M.K mas)) (hs:notStar as=true) :
  PE X (.Call (.Name "list" p1) [.Call (.Name "range" q) [as] [] rp] [] pos) (tM M.K (fV (iR1 mas))):=
 PE.con (kD (kZ S.calm) (S.gl hg) (by rw [S.hm];exact hm) q0 (mL (BH (S.gl hg2) (by rw [S.hm];exact hm2) ha (by rw [cN hs];rfl)) vR) (by decide) (by decide)) fun _ _ _ h=>zQ h
theorem AH {as bs:Expr}{q rp:Pos} (S:Sc M X k N ns) (hg:dm ns "list"=true) (hm:M.mg "list"=none) (hg2:dm ns "range"=true) (hm2:M.mg "range"=none) (ha:PA X [as,bs] (tMA M.K mas)) (hs:notStar as=true) (hs2:notStar bs=true) :
  PE X (.Call (.Name "list" p1) [.Call (.Name "range" q) [as,bs] [] rp] [] pos) (tM M.K (fV (iR2 mas))):=
 PE.con (kD (kZ S.calm) (S.gl hg) (by rw [S.hm];exact hm) q0 (mL (BC (S.gl hg2) (by rw [S.hm];exact hm2) ha (by rw [cN hs,cN hs2];rfl) (by rw [cN hs2];rfl)) vR) (by decide) (by decide)) fun _ _ _ h=>Ap h
theorem BD (S:Sc M X k N ns) (ho:PE X b (tM M.K mb)) (ha:PA X [a] (tMA M.K mas)) (hb:baseOk b=true) (hs:notStar a=true) (hl:(p1.endLine == pos.line)=true):PE X (.Call (.Attribute b "index" p1) [a] [] pos) (tM M.K (mMT fq mb mas)):=by
 refine PE.con (t:=Fp M.K (tM M.K mb) (tMA M.K mas)) ?_ fun _ _ _ h=>Cs h
 rw [<- S.hK]
 exact zd S.room.units ho ha (rG hb _ _) (vX hs _ _) hl (cN hs _ _) rfl
section
variable {X:Cx}
end
theorem IM {st:Stmt}:PS X st (tMS M.K sNo):=by
 intro pins s σ H D I h
 obtain⟨μ,S,ρ,r,hr,er,e,kk⟩:=h
 cases e
theorem G3 {K:KX}{D:Ends}{σ:St}{H:Hp}{i:Nat}{m:ME} (h:tMS K (vu i m) D σ H):Jj i (tM K m) (ipI fun i j=>i+j) D σ H:=by
 obtain⟨μ,S,ρ,r,hr,er,e,kk⟩:=h
 unfold vu at e
 split at e
 ·rename_i x q
  obtain⟨y,S1,e1,e⟩:=ba e
  obtain⟨v,hv,rv⟩:=er.get i _ q
  refine⟨v,hv,μ,S,ρ,y,S1,hr,er,e1,fun μ1 vy H1 p1 k1 hr1 ry => ?_⟩
  split at e
  ·rename_i z
   cases e
   exact⟨x,z,cy rv,cy ry,kk μ1 _ H1 p1 k1 hr1 ((er.mono k1 p1).set dD i)⟩
  ·cases e
 ·cases e
theorem Ir (S:Sc M X k N ns) (i:Nat) (hi:N[i]? = some x) (ho:ji ns x=true) (he:PE X e (tM M.K ma)):PS X (.AugAssign (.Name x p1) .Add e pos) (tMS M.K (vu i ma)):=
 PS.con (DP (by rw [S.hN];exact S.nd) (by rw [S.hN];exact hi) (S.lo ho).1 he Gq (S.lo ho).2) fun _ _ _ h=>G3 h
theorem Iu:PS X (.Break pos) (tMS M.K Ij):=PS.con zM fun D σ H h=>by
 obtain⟨μ,S,ρ,r,hr,er,e,kk⟩:=h
 cases e
 exact kk μ σ H (Pre.refl _) (bh.refl _) hr er
theorem Ip:PS X (.Continue pos) (tMS M.K IB):=PS.con tQ fun D σ H h=>by
 obtain⟨μ,S,ρ,r,hr,er,e,kk⟩:=h
 cases e
 exact kk μ σ H (Pre.refl _) (bh.refl _) hr er
theorem FN:PS X (.Pass pos) (tMS M.K cD):=PS.con Cd fun D σ H h=>zc h
theorem El:PS X (.Return none pos) (tMS M.K (cW (mC .non))):=PS.con Ck fun D σ H h=>by
 obtain⟨μ,S,ρ,r,hr,er,e,kk⟩:=h
 cases e
 exact kk μ _ H (Pre.refl _) (bh.refl _) hr oU
theorem Ek (ha:PE X a (tM M.K ma)) (hb:PE X (.BoolOp .And (b::es) pos) (tM M.K mb)):PE X (.BoolOp .And (a::b::es) pos) (tM M.K (E4 ma mb)):=PE.con (EL ha hb) fun _ _ _ h=>Et h
theorem Ha (ha:PE X a (tM M.K ma)) (hb:PE X (.BoolOp .Or (b::es) pos) (tM M.K mb)):PE X (.BoolOp .Or (a::b::es) pos) (tM M.K (mOr ma mb)):=PE.con (Ji ha hb) fun _ _ _ h=>Jn h
theorem Fy (ha:PE X a (tM M.K ma)):PE X (.UnaryOp .Not a pos) (tM M.K (m1 BL ma)):=PE.con (Gg ha) fun _ _ _ h=>FB h
end
end G
end
section
namespace G
open PySem PySem.Spec L2
open PyProof.Rows hiding St
section
variable {M:Mo}{cl:Nat->Addr}{k n fu:Nat}{N:List Str}{ns:NS}{X:Cx}{E:XK}
theorem x_call {g:Str}{a:Expr}{as:List Expr}{p pos:Pos}{r:RF}{mas:MA}{k':Nat}{ps:List Str} (L:Lv X E) (S:Sc M X.nox k N ns) (F:FnX M cl g k' ps r) (hk:k'<=k) (hg:dm ns g=true) (hp:bH g=true) (ha:PA X.nox (a::as) (tMA M.K mas)) (hs:(a::as).all notStar=true) :
  PE X (.Call (.Name g p) (a::as) [] pos) (tXE cl M.K (xFn r mas) E):=by
 obtain⟨f,fd,hm,hkp,hb,F⟩:=F.ex
 have e1:X.prog=M.P:=S.hP
 have e2:X.w=M.w:=S.hw
 have e3:X.K=M.K:=S.hK
 have e4:X.mg=M.mg:=S.hm
 have e5:X.base=M.base:=S.hb
 rw [<- e1,<- e2,<- e3,<- e4,<- e5] at F
 rw [<- e4] at hm
 rw [<- e3] at hkp hb
 rw [bK,ax] at hs
 refine PE.con (si F (S.room.mono hk) (S.gl hg) hm hkp hb .nil L.pass ha.nox (b9 hp).1 (cN hs.1 _ _) (m6 _ _ hs.2)) fun σ H Q h => ?_
 obtain⟨μ,S0,ρ,C,S',hr,er,q,aft⟩:=h
 obtain⟨us,S1,e1,q⟩:=ba q
 refine⟨μ,S0,ρ,us,S1,hr,er,e1,fun μ1 vs H1 p1 k1 hr1 rs => ?_⟩
 show spX cl M.K r (vs ++ []) H1 Q E
 rw [dg]
 exact⟨μ1,S1,us,C,S',hr1,rs,q,aft.mono p1 k1⟩
end
end G
end
section
namespace G
open PySem PySem.Spec L2
open PyProof.Rows hiding St
structure TOk (M:Mo) (T:Tb) (k:Nat):Prop where
 D : ∀ x mf,T.D.lookup x=some mf -> ∃ k' ps,k'<=k/\Fn M x k' ps mf
 C : ∀ x u,T.C.lookup x=some u -> ∃ g v,M.mg x=some g/\RelV v g /\ ∀ H μ,RU H μ u v
 B : ∀ x∈hJ,M.mg x=none
 L : ∀ x q,T.L.lookup x=some q -> ∃ k' ps,k'<=k/\Lam M q.1 k' ps q.2
 mkr:T.mkr=true -> ∃ c q P,M.mkr=some (c,q)/\Mkr M c P (q++T.Z.nm)
 Z : ∀ x r,T.Z.R.lookup x=some r -> ∃ k' ps,k'<=k/\FnX M T.Z.cl x k' ps r
noncomputable def GOk (M:Mo) (T:Tb) (k:Nat):Prop:=TOk M T k/\(T.mkr=true -> ∃ j,j+2<=k/\(∀ x F,T.H.lookup x=some F -> ∃ k' ps,k'<=j+1/\FnC M x k' ps F)/\(∀ x rz,T.Z.F.lookup x=some rz -> ∃ k',k'<=j+1/\FnR M T.Z.cl x k' rz) /\ ∀ caps capv cds base,fN M.mg base->TOk (M.to caps capv cds base) T.bare j)
noncomputable def IOk (M:Mo) (X:Cx) (tg it:Expr) (mi:MI):Prop := ∃ wi,PI X tg it wi /\
 (∀ i ms D σ H,tMS M.K (d5 i mi ms) D σ H->rZ wi (gS i) (tMS M.K ms) D σ H) /\
 (∀ mt mc σ H Q,tM M.K (cw mi mt mc) σ H Q->mM wi (tMT M.K mt) (tM M.K mc) σ H Q)
structure Snd (M:Mo) (T:Tb) (k n:Nat):Prop where
 e : ∀ N ns e m,cE T n N ns e=some m -> ∀ X,Sc M X k N ns->PE X e (tM M.K m)
 c : ∀ N ns g as m,cC T n N ns g as=some m->dm ns g=true->bH g=true -> ∀ a r,as=a::r -> ∀ X p1 pos,Sc M X k N ns->PE X (.Call (.Name g p1) as [] pos) (tM M.K m)
 v : ∀ N ns g as m,cV T n N ns g as=some m -> ∀ a r,as=a::r -> ∀ X p1 pos,Sc M X k N ns->PE X (.Call (.Name g p1) as [] pos) (tM M.K m)
 v0 : ∀ N ns g m,cV T n N ns g []≠some m
 o : ∀ N ns o m,cO T n N ns o=some m -> ∀ X,Sc M X k N ns->rD M X o m
 t : ∀ N ns e m,cT T n N ns e=some m -> ∀ X,Sc M X k N ns->PT X e (tMT M.K m)
 l : ∀ N ns b vs m pos,cL T n N ns b vs=some m -> ∀ X,Sc M X k N ns->PW X (.BoolOp (if b then .And else .Or) vs pos) (tMT M.K m)
 f : ∀ N ns vs m,cF T n N ns vs=some m -> ∀ X,Sc M X k N ns->PTs X vs (tMT M.K m)
 a : ∀ N ns es m,cA T n N ns es=some m -> ∀ X,Sc M X k N ns->PA X es (tMA M.K m)
 i : ∀ N ns tg it m,cI T n N ns it=some m -> ∀ X,Sc M X k N ns->IOk M X tg it m
 g : ∀ N ns e m,cG T n N ns e=some m -> ∀ X,Sc M X k N ns->PG X e (tG M.K m)
 gs : ∀ N ns es m,cGs T n N ns es=some m -> ∀ X,Sc M X k N ns->PGs X es (tGs M.K m)
 s : ∀ N ns st m,cS T n N ns st=some m -> ∀ X,Sc M X k N ns->PS X st (tMS M.K m)
 b : ∀ N ns sts m,cB T n N ns sts=some m -> ∀ X,Sc M X k N ns->PSs X sts (tMS M.K m)
theorem dv {α:Type}{x:α}{P:Prop} (h:(none:Option α)=some x):P:=by cases h
theorem JC (M:Mo) (T:Tb) (k:Nat):Snd M T k 0:=
 ⟨fun _ _ _ _ h=>dv h,fun _ _ _ _ _ h=>dv h,fun _ _ _ _ _ h=>dv h,fun _ _ _ _ h=>dv h,fun _ _ _ _ h=>dv h,fun _ _ _ _ h=>dv h,fun _ _ _ _ _ _ h=>dv h,fun _ _ _ _ h=>dv h,fun _ _ _ _ h=>dv h,fun _ _ _ _ _ h=>dv h,fun _ _ _ _ h=>dv h,fun _ _ _ _ h=>dv h,fun _ _ _ _ h=>dv h,fun _ _ _ _ h=>dv h⟩
section
variable {M:Mo}{T:Tb}{k n:Nat}
theorem DY {N:List Str}{ns:NS}{X:Cx}{a b:Expr}{ma mb:ME}{op:Operator}{f:F2}{pos:Pos} (h:Ec op=some f) (S:Sc M X k N ns) (ha:PE X a (tM M.K ma)) (hb:PE X b (tM M.K mb)):PE X (.BinOp a op b pos) (tM M.K (m2 f ma mb)):=by
 cases op <;> simp only [Ec,ei,reduceCtorEq] at h <;> subst h
 ·exact CT S ha hb
 ·exact Hg ha hb
 ·exact GZ S ha hb
 ·exact GL ha hb
 ·exact HK ha hb
 ·exact HD ha hb
theorem EV {N:List Str}{ns:NS}{X:Cx}{a b:Expr}{ma mb:ME}{op:CmpOp}{f:F2}{pos:Pos} (h:Br op=some f) (S:Sc M X k N ns) (ha:PE X a (tM M.K ma)) (hb:PE X b (tM M.K mb)) (hs:jX b=true) :
  PE X (.Compare a [op] [b] pos) (tM M.K (m2 f ma mb))/\PT X (.Compare a [op] [b] pos) (tMT M.K (cOf (m2 f ma mb))):=by
 obtain⟨r,ho,ou⟩:=IW S h
 exact⟨PE.con (CP ho ha hb (wo hs _)) fun _ _ _ h=>rB ou h,PT.con (Bo ho ha hb (wo hs _)) fun _ _ _ h=>zZ (fun _ q=>rB ou q) h⟩
theorem CB {N:List Str}{ns:NS}{X:Cx}{g:Str}{e:Expr}{es:List Expr}{mas:MA}{p1 pos:Pos}{mf:MF} (O:TOk M T k) (h:Fg g=some mf) (hg:dm ns g=true) (S:Sc M X k N ns) (ha:PA X (e::es) (tMA M.K mas)) (hs:(e::es).all notStar=true) :
  PE X (.Call (.Name g p1) (e::es) [] pos) (tM M.K (mFn mf mas)):=by
 rw [bK,ax] at hs
 have he:=cN hs.1 es X.env
 have hp:=m6 pos X.env hs.2
 unfold Fg at h
 repeat' split at h
 all_goals first
  | (cases h;done)
  | (rename_i q
     cases h
     rw [eq_of_beq q] at hg ⊢
     first
      | exact z6 S hg (O.B _ (by decide +kernel)) ha he hp
      | exact Bl S hg (O.B _ (by decide +kernel)) ha he hp
      | exact IF S hg (O.B _ (by decide +kernel)) ha he hp
      | exact GP S hg (O.B _ (by decide +kernel)) ha he hp
      | exact He S hg (O.B _ (by decide +kernel)) ha he hp
      | exact Al S hg (O.B _ (by decide +kernel)) ha he hp
      | exact Fi S hg (O.B _ (by decide +kernel)) ha he hp)
theorem CJ {N:List Str}{ns:NS}{X:Cx}{name:Str}{a o:Expr}{mo m:ME}{mas:MA}{p1 pos:Pos} (h:zY name mo mas=some m) (S:Sc M X k N ns) (ho:PE X o (tM M.K mo)) (ha:PA X [a] (tMA M.K mas)) (hb:baseOk o=true) (hl:(p1.endLine == pos.line)=true) (hs:notStar a=true) :
  PE X (.Call (.Attribute o name p1) [a] [] pos) (tM M.K m):=by
 unfold zY at h
 repeat' split at h
 all_goals first
  | (cases h;done)
  | (rename_i q
     cases h
     rw [eq_of_beq q]
     first
      | exact tO S ho ha (rG hb _ _) (vX hs _ _) hl (cN hs _ _) rfl
      | exact BW S ho ha (rG hb _ _) (vX hs _ _) hl (cN hs _ _) rfl
      | exact BD S ho ha hb hs hl)
end
end G
end
section
namespace G
open PySem PySem.Spec L2
open PyProof.Rows hiding St
section
variable {M:Mo}{T:Tb}{k n:Nat}
theorem tI {ps:List Str}{sc:Scope}{ns:NS} (h:vd ps sc ns=true):i9 ps (frees sc) sc /\ ∀ y∈frees sc,ns.lookup y=some .cell/\(y,aO)∈sc.names:=by
 unfold vd at h
 simp only [ax,bA,jH,decide_eq_true_eq] at h
 obtain⟨⟨⟨⟨⟨⟨h1,h2⟩,h3⟩,h4⟩,h5⟩,h6⟩,h7⟩:=h
 have fm : ∀ y∈frees sc,(y,aO)∈sc.names:=fun y hy=>by
  obtain⟨z,hz,e⟩:=bX.mp hy
  obtain⟨a,b⟩:=lM.mp hz
  obtain⟨z1,z2⟩:=z
  cases e
  have:z2 = .free:=eq_of_beq b
  rw [this] at a;exact a
 refine⟨⟨eq_of_beq h1,h2,h3,h4,fun p hp => ?_,fun x hx e => ?_,fun y hy e=>bX.mpr ⟨y,lM.mpr ⟨hy,by rw [e];rfl⟩,rfl⟩,fun y hy=>eq_of_beq (h7 y hy).1⟩,fun y hy=>⟨eq_of_beq (h7 y hy).2,fm y hy⟩⟩
 ·have:=h5 p hp
  rw [lR] at this
  exact this.imp eq_of_beq eq_of_beq
 ·have:=h6 x hx
  rw [e] at this
  simpa using this
theorem GOk.of (O:TOk M T k) (h:T.mkr=false):GOk M T k:=⟨O,fun z=>by rw [h] at z;cases z⟩
theorem GV (O:TOk M T k) (R:Snd M T k n) : ∀ N ns g as m,cV T (n+1) N ns g as=some m -> ∀ a r,as=a::r -> ∀ X p1 pos,Sc M X k N ns->PE X (.Call (.Name g p1) as [] pos) (tM M.K m):=by
 intro N ns g as m h a r e X p1 pos S
 subst e
 simp only [cV,rc,sV] at h
 cases h
section
variable {N:List Str}{ns:NS}{X:Cx}{m:ME}
theorem B4 {c:Const}{j}{pos:Pos} (h:HC c=some m):PE X (.Constant c j pos) (tM M.K m):=by
 cases c <;> first | (cases h;done) | skip
 all_goals cases h
 all_goals first | exact Iy | exact JJ | exact zG | exact PE.con zj fun _ _ _ q=>r_c (fun _ _=>by simp only [RU]) q
theorem Eh (R:Snd M T k n) {op:UnaryOp}{a:Expr}{pos:Pos} (h:eUn (rc n) T N ns a op=some m) (S:Sc M X k N ns):PE X (.UnaryOp op a pos) (tM M.K m):=by
 cases op <;> first | (cases h;done) | skip
 all_goals obtain⟨ma,e1,rfl⟩:=map_eq h
 all_goals first | exact ID (R.e _ _ _ _ e1 X S) | exact Fy (R.e _ _ _ _ e1 X S)
theorem FA (R:Snd M T k n) {op:BoolOp}{vs:List Expr}{p:Pos} (h:eBo (rc n) T N ns op p vs=some m) (S:Sc M X k N ns):PE X (.BoolOp op vs p) (tM M.K m):=by
 unfold eBo at h
 split at h
 ·cases h
 ·exact Ey (R.e _ _ _ _ h X S)
 ·obtain⟨ma,e1,h⟩:=bind_eq h
  cases op
  ·obtain⟨mb,e2,rfl⟩:=map_eq h
   exact Ek (R.e _ _ _ _ e1 X S) (R.e _ _ _ _ e2 X S)
  ·obtain⟨mb,e2,rfl⟩:=map_eq h
   exact Ha (R.e _ _ _ _ e1 X S) (R.e _ _ _ _ e2 X S)
theorem A0 (R:Snd M T k n) {a:Expr}{ops:List CmpOp}{bs:List Expr}{pos:Pos} (h:eCm (rc n) T N ns a ops bs=some m) (S:Sc M X k N ns):PE X (.Compare a ops bs pos) (tM M.K m)/\PT X (.Compare a ops bs pos) (tMT M.K (cOf m)):=by
 unfold eCm at h
 split at h
 ·split at h
  ·rename_i hs
   obtain⟨ma,e1,h⟩:=bind_eq h
   obtain⟨mb,e2,h⟩:=bind_eq h
   obtain⟨f,e3,rfl⟩:=map_eq h
   exact EV e3 S (R.e _ _ _ _ e1 X S) (R.e _ _ _ _ e2 X S) hs
  ·cases h
 ·cases h
theorem Gp (R:Snd M T k n) {a b:Expr}{pos:Pos} (h:eSb (rc n) T N ns a b=some m) (S:Sc M X k N ns):PE X (.Subscript a b pos) (tM M.K m):=by
 unfold eSb at h
 split at h
 ·cases h
 ·split at h
  ·rename_i hs
   obtain⟨ma,e1,h⟩:=bind_eq h
   obtain⟨mb,e2,rfl⟩:=map_eq h
   exact Jq S (R.e _ _ _ _ e1 X S) (R.e _ _ _ _ e2 X S) (DN hs)
  ·cases h
theorem Gb (R:Snd M T k n) {elt:Expr}{scope:Scope}{gens:List Comprehension}{pos:Pos} (h:eLc (rc n) T N ns elt scope gens=some m) (S:Sc M X k N ns):PE X (.ListComp elt gens scope pos) (tM M.K m):=by
 unfold eLc at h
 split at h
 rotate_left
 ·cases h
 rename_i c
 obtain⟨tg,it,ifs,ia⟩:=c
 split at h
 rotate_left
 ·cases h
 rename_i h0
 have h0':ia=0:=h0
 subst h0'
 have h:eLt (rc n) T N ns elt it ifs scope tg=some m:=h
 unfold eLt at h
 split at h
 ·split at h
  ·rename_i hs
   rw [ax,ax] at hs
   obtain⟨mi,e1,h⟩:=bind_eq h
   obtain⟨mt,e2,h⟩:=bind_eq h
   obtain⟨mc,e3,rfl⟩:=map_eq h
   obtain⟨wi,h1,_,h3⟩:=R.i _ _ _ _ _ e1 X S
   exact z7 S (eq_of_beq hs.1.1) hs.1.2 h1 (fun X' S'=>R.f _ _ _ _ e2 X' S') (fun X' S'=>R.e _ _ _ _ e3 X' S') (h3 mt mc) (nX hs.2 _)
  ·cases h
 ·cases h
theorem DS (O:TOk M T k) (R:Snd M T k n) {g:Str}{rs:List Expr}{p1 q rp pos:Pos} (h:eRg (rc n) T N ns g rs=some m) (S:Sc M X k N ns) (hl:g="list"\/g="tuple") (hg:dm ns g=true) (hr:dm ns "range"=true) :
  PE X (.Call (.Name g p1) [.Call (.Name "range" q) rs [] rp] [] pos) (tM M.K m):=by
 unfold eRg at h
 split at h
 ·rcases hl with rfl | rfl
  ·rw [if_pos (by decide +kernel)] at h
   obtain⟨ma,e1,rfl⟩:=map_eq h
   have hst:=gh e1
   simp only [bK,iZ,iw] at hst
   exact Aw S hg (O.B _ (by decide +kernel)) hr (O.B _ (by decide +kernel)) (R.a _ _ _ _ e1 X S) hst
  ·rw [if_neg (by decide +kernel)] at h;cases h
 ·rcases hl with rfl | rfl
  ·rw [if_pos (by decide +kernel)] at h
   obtain⟨ma,e1,rfl⟩:=map_eq h
   have hst:=gh e1
   simp only [bK,iZ,iw,ax] at hst
   exact AH S hg (O.B _ (by decide +kernel)) hr (O.B _ (by decide +kernel)) (R.a _ _ _ _ e1 X S) hst.1 hst.2
  ·rw [if_neg (by decide +kernel)] at h;cases h
 ·cases h
theorem DV (Gk:GOk M T k) (RA : ∀ M T k,GOk M T k->Snd M T k n) {g:Str}{p:Arguments}{b:Expr}{sc:Scope}{p1 lp pos:Pos} (h:Ad (rc n) T N ns g p b sc=some m) (S:Sc M X k N ns) (hg:dm ns g=true) (hn:bH g=true) :
  PE X (.Call (.Name g p1) [.Lambda p b sc lp] [] pos) (tM M.K m):=by
 unfold Ad at h
 split at h
 rotate_left
 ·cases h
 rename_i hc
 simp only [ax] at hc
 obtain⟨⟨⟨hT,hnm⟩,hp⟩,hl⟩:=hc
 have hp':p=t9:=by
  unfold AC at hp
  split at hp
  ·rfl
  ·cases hp
 subst hp'
 obtain⟨is,e1,h⟩:=bind_eq h
 obtain⟨ml,e2,h⟩:=bind_eq h
 obtain⟨rl,e3,h⟩:=bind_eq h
 obtain⟨rz,e4,rfl⟩:=map_eq h
 obtain⟨c,q,P,hmk,MK⟩:=Gk.1.mkr hT
 rw [eq_of_beq hnm] at MK
 obtain⟨j,hj,hH,hF,hB⟩:=Gk.2 hT
 obtain⟨k',hk',FR⟩:=hF _ _ e4
 obtain⟨LS,hfs⟩:=tI hl
 refine Co S FR hk' hj hmk MK hg (b9 hn).1 LS hfs e1 (fun caps capv cds base hbb X' S'=>(RA _ _ _ (.of (hB caps capv cds base hbb) rfl)).e _ _ _ _ e2 X' S') fun caps capv cds base hbb X' E L S' => ?_
 unfold CY at e3
 split at e3
 ·split at e3
  ·rename_i hs
   rw [ax] at hs
   obtain⟨rf,e5,e3⟩:=bind_eq e3
   obtain⟨mas,e6,rfl⟩:=map_eq e3
   obtain⟨k2,ps,hk2,FX⟩:=(hB caps capv cds base hbb).Z _ _ e5
   exact x_call L S' FX hk2 hs.1 hs.2 ((RA _ _ _ (.of (hB caps capv cds base hbb) rfl)).a _ _ _ _ e6 _ S') (gh e6)
  ·cases e3
 ·cases e3
theorem Er (Gk:GOk M T k) (R:Snd M T k n) (RA : ∀ M T k,GOk M T k->Snd M T k n) {g:Str}{as:List Expr}{p1 pos:Pos} (h:eCf (rc n) T N ns g as=some m) (S:Sc M X k N ns) (hg:dm ns g=true) (hn:bH g=true) :
  PE X (.Call (.Name g p1) as [] pos) (tM M.K m):=by
 have O:=Gk.1
 unfold eCf at h
 split at h
 ·obtain⟨mf,e1,rfl⟩:=map_eq h
  obtain⟨k',ps,hk,F⟩:=O.D _ _ e1
  exact CS S F hk hg (b9 hn).1
 ·unfold eC1 at h
  split at h
  ·exact DV Gk RA h S hg hn
  ·split at h
   ·rename_i hl
    rw [ax,lR] at hl
    split at h
    ·rename_i hr
     rw [eq_of_beq hl.2] at hr ⊢
     exact DS O R h S (hl.1.imp eq_of_beq eq_of_beq) hg hr
    ·cases h
   ·exact R.c _ _ _ _ _ h hg hn _ _ rfl X _ _ S
  ·exact R.c _ _ _ _ _ h hg hn _ _ rfl X _ _ S
 ·unfold eC2 at h
  split at h
  ·unfold eIs at h
   split at h
   ·cases h
   ·exact R.c _ _ _ _ _ h hg hn _ _ rfl X _ _ S
  ·cases h
  ·exact R.c _ _ _ _ _ h hg hn _ _ rfl X _ _ S
 ·exact R.c _ _ _ _ _ h hg hn _ _ rfl X _ _ S
theorem Fx (R:Snd M T k n) {o:Expr}{name:Str}{p q:Pos}{as:List Expr} (h:eMe (rc n) T N ns o name p q as=some m) (S:Sc M X k N ns):PE X (.Call (.Attribute o name p) as [] q) (tM M.K m):=by
 unfold eMe at h
 split at h
 ·cases h
 ·split at h
  ·rename_i hs
   rw [ax,ax] at hs
   obtain⟨mo,e1,h⟩:=bind_eq h
   obtain⟨mas,e2,h⟩:=bind_eq h
   exact CJ h S (R.e _ _ _ _ e1 X S) (R.a _ _ _ _ e2 X S) hs.1.1 hs.1.2 hs.2
  ·cases h
 ·cases h
end
theorem Hr (Gk:GOk M T k) (R:Snd M T k n) (RA : ∀ M T k,GOk M T k->Snd M T k n) : ∀ N ns e m,cE T (n+1) N ns e=some m -> ∀ X,Sc M X k N ns->PE X e (tM M.K m):=by
 have O:=Gk.1
 intro N ns e m h X S
 have h:sE (rc n) T N ns e=some m:=h
 cases e with
 | Name x p=>
   have h:(if bH x then (if mY ns x then (slot N x).map ae else if dm ns x then (T.C.lookup x).map mC else none) else none)=some m:=h
   split at h
   ·rename_i hn
    obtain⟨n1,n2⟩:=b9 hn
    split at h
    ·rename_i hv
     obtain⟨i,e1,rfl⟩:=map_eq h
     exact Dn S i (slot_get e1) hv n1 n2
    ·split at h
     ·rename_i hg
      obtain⟨u,e1,rfl⟩:=map_eq h
      obtain⟨g,v,hm,r,hv⟩:=O.C _ _ e1
      exact EC S hg hm r hv n1
     ·cases h
   ·cases h
 | Constant c j p=>exact B4 h
 | BinOp a op b p=>
   obtain⟨ma,e1,h⟩:=bind_eq (show ((rc n).e T N ns a).bind _=some m from h)
   obtain⟨mb,e2,h⟩:=bind_eq h
   obtain⟨f,e3,rfl⟩:=map_eq h
   exact DY e3 S (R.e _ _ _ _ e1 X S) (R.e _ _ _ _ e2 X S)
 | UnaryOp op a p=>exact Eh R h S
 | BoolOp op vs p=>exact FA R h S
 | Compare a ops bs p=>exact (A0 R h S).1
 | IfExp c a b p=>
   obtain⟨mc,e1,h⟩:=bind_eq (show ((rc n).t T N ns c).bind _=some m from h)
   obtain⟨ma,e2,h⟩:=bind_eq h
   obtain⟨mb,e3,rfl⟩:=map_eq h
   exact IS (R.t _ _ _ _ e1 X S) (R.e _ _ _ _ e2 X S) (R.e _ _ _ _ e3 X S)
 | Subscript a b p=>exact Gp R h S
 | Tuple es j p=>
   obtain⟨ma,e1,rfl⟩:=map_eq (show ((rc n).a T N ns es).map eU=some m from h)
   exact GD (R.a _ _ _ _ e1 X S)
 | List es p=>
   obtain⟨ma,e1,rfl⟩:=map_eq (show ((rc n).a T N ns es).map cf=some m from h)
   exact zo (R.a _ _ _ _ e1 X S)
 | ListComp elt gens scope p=>exact Gb R h S
 | Call f as kws q=>
   have h:(if kws.isEmpty then eCa (rc n) T N ns as q f else none)=some m:=h
   cases kws with
   | cons w ws=>cases h
   | nil=>
     have h:eCa (rc n) T N ns as q f=some m:=h
     unfold eCa at h
     split at h
     ·split at h
      ·rename_i hs
       rw [ax] at hs
       exact Er Gk R RA h S hs.1 hs.2
      ·cases as with
       | nil=>exact absurd h (R.v0 _ _ _ _)
       | cons a r=>exact R.v _ _ _ _ _ h _ _ rfl X _ _ S
     ·exact Fx R h S
     ·cases h
 | _=>cases h
theorem HE (O:TOk M T k) (R:Snd M T k n) : ∀ N ns g as m,cC T (n+1) N ns g as=some m->dm ns g=true->bH g=true -> ∀ a r,as=a::r -> ∀ X p1 pos,Sc M X k N ns->PE X (.Call (.Name g p1) as [] pos) (tM M.K m):=by
 intro N ns g as m h hg hn a r e X p1 pos S
 subst e
 simp only [cC,rc,sC] at h
 obtain⟨mas,e1,h⟩:=bind_eq h
 have hst:=gh e1
 split at h
 ·rename_i mf hb
  cases h
  exact CB O hb hg S (R.a _ _ _ _ e1 X S) hst
 ·obtain⟨mf,e2,rfl⟩:=map_eq h
  obtain⟨k',ps,hk,F⟩:=O.D _ _ e2
  rw [bK,ax] at hst
  exact DR S F hk hg (R.a _ _ _ _ e1 X S) (b9 hn).1 (cN hst.1 _ _) (m6 _ _ hst.2)
theorem GQ (R:Snd M T k n) : ∀ N ns o m,cO T (n+1) N ns o=some m -> ∀ X,Sc M X k N ns->rD M X o m:=by
 intro N ns o m h X S
 simp only [cO,rc,sO] at h
 split at h
 ·cases h;exact .none
 ·obtain⟨me,e1,rfl⟩:=map_eq h
  exact .some (R.e _ _ _ _ e1 X S)
theorem Ht (R:Snd M T k n) : ∀ N ns e m,cT T (n+1) N ns e=some m -> ∀ X,Sc M X k N ns->PT X e (tMT M.K m):=by
 intro N ns e m h X S
 simp only [cT,rc,sT] at h
 split at h
 ·obtain⟨ma,e1,rfl⟩:=map_eq h
  exact Df (R.t _ _ _ _ e1 X S)
 ·exact PW.pt (R.l _ _ true _ _ _ h X S)
 ·exact PW.pt (R.l _ _ false _ _ _ h X S)
 ·obtain⟨mc,e1,rfl⟩:=map_eq h
  exact (A0 R e1 S).2
 ·split at h
  ·rename_i hs
   obtain⟨ma,e1,rfl⟩:=map_eq h
   exact CZ (R.e _ _ _ _ e1 X S) (Ag hs _)
  ·cases h
theorem IQ (R:Snd M T k n) : ∀ N ns b vs m pos,cL T (n+1) N ns b vs=some m -> ∀ X,Sc M X k N ns->PW X (.BoolOp (if b then .And else .Or) vs pos) (tMT M.K m):=by
 intro N ns b vs m pos h X S
 simp only [cL,rc,sL] at h
 split at h
 ·cases h
 ·cases b
  ·exact IR (R.t _ _ _ _ h X S)
  ·exact Gj (R.t _ _ _ _ h X S)
 ·rename_i a r hr
  obtain⟨ma,e1,h⟩:=bind_eq h
  obtain⟨mr,e2,rfl⟩:=map_eq h
  cases r with
  | nil=>exact (hr rfl).elim
  | cons c r=>
    have h2:=R.l _ _ b _ _ pos e2 X S
    cases b
    ·exact JO (R.t _ _ _ _ e1 X S) h2
    ·exact GK (R.t _ _ _ _ e1 X S) h2
theorem G5 (R:Snd M T k n) : ∀ N ns vs m,cF T (n+1) N ns vs=some m -> ∀ X,Sc M X k N ns->PTs X vs (tMT M.K m):=by
 intro N ns vs m h X S
 simp only [cF,rc,sF] at h
 split at h
 ·cases h;exact FY
 ·exact GB (R.t _ _ _ _ h X S)
 ·cases h
theorem IZ (R:Snd M T k n) : ∀ N ns es m,cA T (n+1) N ns es=some m -> ∀ X,Sc M X k N ns->PA X es (tMA M.K m):=by
 intro N ns es m h X S
 simp only [cA,rc,sA] at h
 split at h
 ·cases h;exact wD
 ·split at h
  ·rename_i hs
   obtain⟨ma,e1,h⟩:=bind_eq h
   obtain⟨mr,e2,rfl⟩:=map_eq h
   exact j6 (R.e _ _ _ _ e1 X S) (R.a _ _ _ _ e2 X S) (cN hs _ _)
  ·cases h
theorem AJ {N:List Str}{ns:NS}{X:Cx}{tg e:Expr}{m:ME} (S:Sc M X k N ns) (h:PE X e (tM M.K m)):IOk M X tg e (iB m):=
 ⟨_,Jy S h,fun _ _ _ _ _ q=>JL q,fun _ _ _ _ _ q=>Jv q⟩
theorem GN (O:TOk M T k) (R:Snd M T k n) : ∀ N ns tg it m,cI T (n+1) N ns it=some m -> ∀ X,Sc M X k N ns->IOk M X tg it m:=by
 intro N ns tg it m h X S
 simp only [cI,rc,sI] at h
 split at h
 ·split at h
  ·rename_i hr
   split at h
   ·rename_i hg
    rw [eq_of_beq hr] at hg ⊢
    split at h
    ·obtain⟨ma,e1,rfl⟩:=map_eq h
     have hst:=gh e1
     simp only [bK,iZ,iw] at hst
     exact⟨_,Ik S hg (O.B _ (by decide +kernel)) (R.a _ _ _ _ e1 X S) (cN hst _ _),fun _ _ _ _ _ q=>GS q,fun _ _ _ _ _ q=>GA q⟩
    ·obtain⟨ma,e1,rfl⟩:=map_eq h
     have hst:=gh e1
     simp only [bK,iZ,iw,ax] at hst
     exact⟨_,GT S hg (O.B _ (by decide +kernel)) (R.a _ _ _ _ e1 X S) (by rw [cN hst.1,cN hst.2];rfl) (by rw [cN hst.2];rfl),fun _ _ _ _ _ q=>Hy q,fun _ _ _ _ _ q=>G2 q⟩
    ·cases h
   ·cases h
  ·split at h
   ·rename_i hr
    split at h
    ·rename_i hg
     rw [eq_of_beq hr] at hg ⊢
     split at h
     ·obtain⟨ma,e1,rfl⟩:=map_eq h
      have hst:=gh e1
      simp only [bK,iZ,iw] at hst
      exact⟨_,FV S hg (O.B _ (by decide +kernel)) (R.a _ _ _ _ e1 X S) (cN hst _ _),fun _ _ _ _ _ q=>FM q,fun _ _ _ _ _ q=>FS q⟩
     ·cases h
    ·cases h
   ·obtain⟨ma,e1,rfl⟩:=map_eq h
    exact AJ S (R.e _ _ _ _ e1 X S)
 ·obtain⟨ma,e1,rfl⟩:=map_eq h
  exact AJ S (R.e _ _ _ _ e1 X S)
theorem Jd (R:Snd M T k n) : ∀ N ns e m,cG T (n+1) N ns e=some m -> ∀ X,Sc M X k N ns->PG X e (tG M.K m):=by
 intro N ns e m h X S
 simp only [cG,rc,sG] at h
 split at h
 ·split at h
  ·rename_i hs
   obtain⟨i,e1,rfl⟩:=map_eq h
   exact PG.con (wz (by rw [S.hN];exact S.nd) (by rw [S.hN];exact slot_get e1) (S.lo hs).1 (S.lo hs).2) fun _ _ _ _ q=>JE q
  ·cases h
 ·obtain⟨gs,e1,rfl⟩:=map_eq h
  obtain⟨h1,h2⟩:=wB X.env _ (ub e1)
  refine PG.con (Ee S.calm (R.gs _ _ _ _ e1 X S) h1 h2) fun _ _ _ _ q => ?_
  rw [S.hK]
  exact Ig q
 ·cases h
theorem F5 (R:Snd M T k n) : ∀ N ns es m,cGs T (n+1) N ns es=some m -> ∀ X,Sc M X k N ns->PGs X es (tGs M.K m):=by
 intro N ns es m h X S
 simp only [cGs,rc,sGs] at h
 split at h
 ·cases h;exact PGs.con BR fun _ _ _ _ q=>Fj q
 ·split at h
  ·rename_i hs
   obtain⟨g,e1,h⟩:=bind_eq h
   obtain⟨gs,e2,rfl⟩:=map_eq h
   exact PGs.con (AL (R.g _ _ _ _ e1 X S) (R.gs _ _ _ _ e2 X S) (by rw [tS hs];rfl)) fun _ _ _ _ q=>BK q
  ·cases h
theorem Ff (O:TOk M T k) (R:Snd M T k n) {N:List Str}{ns:NS}{it:Expr}{mi:MI}{X:Cx}{ts:List Expr}{kt:Nat}{pt:Pos} (h:eIt (rc n) T N ns it=some mi) (S:Sc M X k N ns) :
  ∃ wi,PI X (.Tuple ts kt pt) it wi /\ ∀ g mb D σ H,tMS M.K (qC g mi mb) D σ H->rZ wi (tG M.K g) (tMS M.K mb) D σ H:=by
 unfold eIt at h
 split at h
 ·split at h
  ·rename_i hr
   split at h
   ·rename_i hg
    rw [eq_of_beq hr] at hg ⊢
    obtain⟨ma,e1,rfl⟩:=map_eq h
    have hst:=gh e1
    simp only [bK,iZ,iw] at hst
    exact⟨_,Bx S hg (O.B _ (by decide +kernel)) (R.a _ _ _ _ e1 X S) (cN hst _ _),fun _ _ _ _ _ q=>HG q⟩
   ·cases h
  ·cases h
 ·cases h
theorem Bu {N:List Str}{ns:NS}{X:Cx}{m:MS} (R:Snd M T k n) {y:Str}{elt it tg:Expr}{ifs:List Expr}{scope:Scope}{p1:Pos}{p2 p3:Pos} (h:F7 (rc n) T N ns y elt it ifs scope tg=some m) (S:Sc M X k N ns) :
  PS X (.Assign [.Name y p1] (.ListComp elt [⟨tg,it,ifs,0⟩] scope p2) p3) (tMS M.K m):=by
 unfold F7 at h
 split at h
 ·split at h
  ·rename_i hs
   rw [ax,ax,ax] at hs
   obtain⟨i,e0,h⟩:=bind_eq h
   obtain⟨mi,e1,h⟩:=bind_eq h
   obtain⟨mt,e2,h⟩:=bind_eq h
   obtain⟨mc,e3,rfl⟩:=map_eq h
   obtain⟨wi,h1,_,h3⟩:=R.i _ _ _ _ _ e1 X S
   exact Fh S i (slot_get e0) hs.1 (eq_of_beq hs.2.1.1) hs.2.1.2 h1 (fun X' S'=>R.f _ _ _ _ e2 X' S') (fun X' S'=>R.e _ _ _ _ e3 X' S') (h3 mt mc) (nX hs.2.2 _)
  ·cases h
 ·cases h
theorem B0 {N:List Str}{ns:NS}{X:Cx}{m:MS} (R:Snd M T k n) {x:Str}{e:Expr}{p1:Pos}{p3:Pos} (h:Es (rc n) T N ns x e=some m) (S:Sc M X k N ns):PS X (.Assign [.Name x p1] e p3) (tMS M.K m):=by
 unfold Es at h
 split at h
 ·unfold IU at h
  split at h
  ·rename_i c
   obtain⟨tg,it,ifs,ia⟩:=c
   split at h
   ·rename_i h0
    have h0':ia=0:=h0
    subst h0'
    exact Bu R h S
   ·cases h
  ·cases h
 ·split at h
  ·rename_i hs
   rw [ax] at hs
   obtain⟨i,e1,h⟩:=bind_eq h
   obtain⟨me,e2,rfl⟩:=map_eq h
   exact tD S i (slot_get e1) hs.1 (R.e _ _ _ _ e2 X S) (mz hs.2 _ _ _)
  ·cases h
theorem BJ {N:List Str}{ns:NS}{X:Cx}{m:MS} (R:Snd M T k n) {t e:Expr}{p3:Pos} (h:Ge (rc n) T N ns e t=some m) (S:Sc M X k N ns):PS X (.Assign [t] e p3) (tMS M.K m):=by
 unfold Ge at h
 split at h
 ·exact B0 R h S
 ·split at h
  ·rename_i hs
   rw [ax] at hs
   obtain⟨ma,e1,h⟩:=bind_eq h
   obtain⟨mb,e2,h⟩:=bind_eq h
   obtain⟨me,e3,rfl⟩:=map_eq h
   exact BV S (R.e _ _ _ _ e1 X S) (R.e _ _ _ _ e2 X S) (R.e _ _ _ _ e3 X S) (BP hs.1 _ _ _) vO rfl (Fd hs.2 _)
  ·cases h
 ·cases h
 ·cases h
theorem FQ {N:List Str}{ns:NS}{X:Cx}{m:MS} (R:Snd M T k n) {x:Str}{e:Expr}{op:Operator}{p1:Pos}{p3:Pos} (h:sAu (rc n) T N ns x e op=some m) (S:Sc M X k N ns):PS X (.AugAssign (.Name x p1) op e p3) (tMS M.K m):=by
 unfold sAu at h
 split at h
 ·split at h
  ·rename_i hs
   obtain⟨i,e1,h⟩:=bind_eq h
   obtain⟨me,e2,rfl⟩:=map_eq h
   exact Ir S i (slot_get e1) hs (R.e _ _ _ _ e2 X S)
  ·cases h
 ·cases h
theorem Ga {N:List Str}{ns:NS}{X:Cx}{m:MS} (O:TOk M T k) (R:Snd M T k n) {t it:Expr}{body:List Stmt}{p3:Pos} (h:sFo (rc n) T N ns it body t=some m) (S:Sc M X k N ns):PS X (.For t it body [] p3) (tMS M.K m):=by
 unfold sFo at h
 split at h
 ·split at h
  ·rename_i hs
   rw [ax] at hs
   obtain⟨i,e1,h⟩:=bind_eq h
   obtain⟨mi,e2,h⟩:=bind_eq h
   obtain⟨mb,e3,rfl⟩:=map_eq h
   obtain⟨wi,h1,h2,_⟩:=R.i _ _ _ _ _ e2 X S
   exact Hm S i (slot_get e1) hs.1 h1 (R.b _ _ _ _ e3 X S) (h2 i mb) (nX hs.2 _)
  ·cases h
 ·rename_i ts kt pt
  split at h
  ·rename_i hs
   obtain⟨g,e1,h⟩:=bind_eq h
   obtain⟨mi,e2,h⟩:=bind_eq h
   obtain⟨mb,e3,rfl⟩:=map_eq h
   obtain⟨wi,h1,h2⟩:=Ff O R (ts:=ts) (kt:=kt) (pt:=pt) e2 S
   exact PS.con (A1 S.own S.calm h1 (R.g _ _ _ _ e1 X S) (R.b _ _ _ _ e3 X S) (nX hs _)) fun _ _ _ q=>h2 _ _ _ _ _ q
  ·cases h
 ·cases h
theorem IE (O:TOk M T k) (R:Snd M T k n) : ∀ N ns st m,cS T (n+1) N ns st=some m -> ∀ X,Sc M X k N ns->PS X st (tMS M.K m):=by
 intro N ns st m h X S
 simp only [cS,rc,sS] at h
 split at h
 ·unfold sAs at h
  split at h
  ·exact BJ R h S
  ·cases h
 ·unfold GI at h
  split at h
  ·exact FQ R h S
  ·cases h
 ·split at h
  ·rename_i hs
   obtain⟨me,e2,rfl⟩:=map_eq h
   exact Aj (R.e _ _ _ _ e2 X S) (mz hs _ _ _)
  ·cases h
 ·unfold sRt at h
  split at h
  ·obtain⟨me,e2,rfl⟩:=map_eq h
   exact Dr (R.e _ _ _ _ e2 X S)
  ·cases h;exact El
 ·obtain⟨mc,e1,h⟩:=bind_eq h
  obtain⟨ma,e2,h⟩:=bind_eq h
  obtain⟨mb,e3,rfl⟩:=map_eq h
  exact Ho (R.t _ _ _ _ e1 X S) (R.b _ _ _ _ e2 X S) (R.b _ _ _ _ e3 X S)
 ·unfold Jk at h
  split at h
  ·exact Ga O R h S
  ·cases h
 ·unfold sWh at h
  split at h
  ·obtain⟨mc,e1,h⟩:=bind_eq h
   obtain⟨mb,e2,rfl⟩:=map_eq h
   exact CC S (R.t _ _ _ _ e1 X S) (R.b _ _ _ _ e2 X S)
  ·cases h
 ·cases h;exact FN
 ·cases h;exact Iu
 ·cases h;exact IM
 ·cases h;exact Ip
 ·cases h
theorem GM (Gk:GOk M T k) (R:Snd M T k n) (RA : ∀ M T k,GOk M T k->Snd M T k n) : ∀ N ns sts m,cB T (n+1) N ns sts=some m -> ∀ X,Sc M X k N ns->PSs X sts (tMS M.K m):=by
 intro N ns sts m h X S
 simp only [cB,rc,sB] at h
 split at h
 ·cases h;exact CV
 ·exact AY (R.s _ _ _ _ h X S)
 ·obtain⟨ma,e1,h⟩:=bind_eq h
  obtain⟨mr,e2,rfl⟩:=map_eq h
  exact tF (R.s _ _ _ _ e1 X S) (R.b _ _ _ _ e2 X S)
theorem snd : ∀ n M T k,GOk M T k->Snd M T k n
 | 0,M,T,k,_=>JC M T k
 | n+1,M,T,k,Gk=>by
   have RA:=snd n
   have R:=RA M T k Gk
   exact⟨Hr Gk R RA,HE Gk.1 R,GV Gk.1 R,fun N ns g m h=>(by cases (show (none:Option ME)=some m from h)),GQ R,Ht R,IQ R,G5 R,IZ R,GN Gk.1 R,Jd R,F5 R,IE Gk.1 R,GM Gk R RA⟩
theorem tW {x qual:Str}{st:Stmt}{f:Addr}{fd:FuncData}{N ps:List Str}{ms:MS}{fu:Nat} (O:TOk M T k) (h0:M.mkr=none) (h1:T.mkr=false) (F:Fun M.K x qual st f fd) (S:bC N ps (aw st)) (hm:M.mg x=some (.ref f)) (hb:Binds M.K fd ps [])
  (h:cB T fu N (aw st).names (aY st)=some ms):Fn M x (k+1) ps (run ps.length N.length ms):=
 ⟨f,fd,hm,F.2,hb,Dq h0 F S fun X S'=>(snd fu M T k (.of O h1)).b _ _ _ _ h X S'⟩
end
end G
end
section
namespace G
open PySem PySem.Spec L2
open PyProof.Rows hiding St
structure Def (K:ai) (x:Str) (st:Stmt):Prop where
 ex : ∃ f fd,bp K mainGlobals x=some (some (.ref f))/\Fun K x x st f fd
theorem dE {K:ai}{x:Str}{st:Stmt}{f:Addr}{od an:Option Addr}{sl:Array (Option Value)}{oc kV doc pm cd ct:Value} (a:bp K mainGlobals x=some (some (.ref f)))
  (l:K.lookup f=some ⟨oc,od,.func (cH x x (ft st) (aY st) (aw st) .none kV doc pm an cd ct),sl⟩) (c:eX K cd x=true) (k:bN K (.ref f)=true):Def K x st:=
 ⟨f,_,a,Eu l c k⟩
section
variable {M:Mo}{T:Tb}{k:Nat}{h:Heap}{x:Str}{st:Stmt}{N ps:List Str}{ms:MS}{fu:Nat}
theorem Def.fn (O:TOk M T k) (h0:M.mkr=none) (h1:T.mkr=false) (X:M.K.K.In h) (Gn:h.Ns mainGlobals M.mg) (D:Def M.K x st) (S:bC N ps (aw st))
  (hb : ∀ (kV doc pm:Value) (an:Option Addr) (cdv ct:Value) (us:List Value),us.length=ps.length->bindArgs (cH x x (ft st) (aY st) (aw st) .none kV doc pm an cdv ct) ⟨us,[]⟩=pure (ps.zip us))
  (hc:cB T fu N (aw st).names (aY st)=some ms):Fn M x (k+1) ps (run ps.length N.length ms):=by
 obtain⟨f,fd,a,F⟩:=D.ex
 exact tW O h0 h1 F S (cz X Gn a) (F.binds hb) hc
theorem TOk.mono {j:Nat} (O:TOk M T k) (hj:k<=j):TOk M T j where
 Z:=fun y r hy=>let ⟨k',ps',hk,F'⟩:=O.Z y r hy;⟨k',ps',aK hk hj,F'⟩
 D:=fun y g hy=>let ⟨k',ps',hk,F'⟩:=O.D y g hy;⟨k',ps',aK hk hj,F'⟩
 C:=O.C
 B:=O.B
 L:=fun y q hy=>let ⟨k',ps',hk,F'⟩:=O.L y q hy;⟨k',ps',aK hk hj,F'⟩
 mkr:=O.mkr
theorem TOk.cons {j:Nat}{mf:MF} (O:TOk M T k) (F:Fn M x j ps mf) (hj:k<=j):TOk M ⟨(x,mf)::T.D,T.C,T.L,T.H,T.mkr,T.Z⟩ j where
 D:=fun y g hy=>by
  rw [aL] at hy
  cases e:y == x with
  | true=>rw [e] at hy;cases hy;rw [eq_of_beq e];exact⟨j,ps,ak _,F⟩
  | false=>
    rw [e] at hy
    obtain⟨k',ps',hk,F'⟩:=O.D y g hy
    exact⟨k',ps',aK hk hj,F'⟩
 C:=O.C
 B:=O.B
 L:=(O.mono hj).L
 mkr:=O.mkr
 Z:=(O.mono hj).Z
theorem TOk.setH {Hs:List (Str×(Addr->MF->MF))} (O:TOk M T k):TOk M ⟨T.D,T.C,T.L,Hs,T.mkr,T.Z⟩ k:=⟨O.D,O.C,O.B,O.L,O.mkr,O.Z⟩
theorem TOk.nil {Fs:List (Str×List Nat)}{cl:Nat->Addr}{nm:Str} (X:M.K.K.In h) (Gn:h.Ns mainGlobals M.mg) (B : ∀ x∈hJ,bp M.K mainGlobals x=some none):TOk M ⟨[],[],[],[],false,⟨[],Fs,cl,nm⟩⟩ 0 where
 D:=fun y g hy=>by cases hy
 C:=fun y g hy=>by cases hy
 B:=fun y hy=>A5 X Gn (B y hy)
 L:=fun y g hy=>by cases hy
 mkr:=fun h=>by cases h
 Z:=fun y g hy=>by cases hy
theorem Def.fnC {y:Str}{msC:Addr->MF->MS} (O : ∀ caps capv cds base,fN M.mg base->TOk (M.to caps capv cds base) T k) (h1:T.mkr=false) (hL:T.L = []) (X:M.K.K.In h) (Gn:h.Ns mainGlobals M.mg) (D:Def M.K x st) (S:bC N ps (aw st))
  (hb : ∀ (kV doc pm:Value) (an:Option Addr) (cdv ct:Value) (us:List Value),us.length=ps.length->bindArgs (cH x x (ft st) (aY st) (aw st) .none kV doc pm an cdv ct) ⟨us,[]⟩=pure (ps.zip us))
  (hc : ∀ g φ,cB ⟨T.D,T.C,[(y,g,φ)],T.H,T.mkr,T.Z⟩ fu N (aw st).names (aY st)=some (msC g φ)):FnC M x k ps fun g φ=>run ps.length N.length (msC g φ):=by
 obtain⟨f,fd,a,F⟩:=D.ex
 refine⟨f,fd,cz X Gn a,F.2,F.binds hb,fun caps capv cds base g j lps φ hbb hkj lam => ?_⟩
 have O':TOk (M.to caps capv cds base) ⟨T.D,T.C,[(y,g,φ)],T.H,T.mkr,T.Z⟩ j:=by
  have O1:=(O caps capv cds base hbb).mono hkj
  refine⟨O1.D,O1.C,O1.B,fun z q hz => ?_,(fun hm=>by rw [h1] at hm;cases hm),O1.Z⟩
  rw [aL] at hz
  cases e:z == y with
  | true=>rw [e] at hz;cases hz;exact⟨j,lps,ak _,lam⟩
  | false=>rw [e] at hz;cases hz
 exact Dq (M:=M.to caps capv cds base) rfl F S fun X' S'=>(snd fu _ _ _ (.of O' h1)).b _ _ _ _ (hc g φ) X' S'
end
structure rY (K:ai) (x:Str) (st:Stmt) (c P:Addr):Prop where
 ex : ∃ (f:Addr) (oc:Value) (od:Option Addr) (kV doc pm:Value) (an:Option Addr) (ct:Value) (sl:Array (Option Value)),bp K mainGlobals x=some (some (.ref f)) /\
  K.lookup f=some ⟨oc,od,.func (cH x x (ft st) (aY st) (aw st) .none kV doc pm an (.ref c) ct),sl⟩/\eX K (.ref c) x=true/\bN K (.ref f)=true
 cd : ∃ (vs:Array Value) (od:Option Addr) (sl:Array (Option Value)) (file:Str) (tf:Tok) (flags:Int) (tg:Tok) (inF:Bool) (text:Int) (tt:Tok),K.lookup c=some ⟨.type "code",od,.fields vs,sl⟩/\vs[11]? = some (.ref P)/\vs.getD 11 .none = .ref P/\vs.getD 18 .none = .str file tf /\
  vs.getD 7 .none = .int flags tg/\vs.getD 9 .none = .bool inF/\vs.getD 10 .none = .int text tt/\c≠P
section
variable {M:Mo}{T:Tb}{k:Nat}{h:Heap}{x:Str}{st:Stmt}{N ps:List Str}{ms:MS}{fu:Nat}{c P:Addr}
theorem rY.mkr (D:rY M.K x st c P) (B:fN M.mg M.base) (X:M.K.K.In h) (Gn:h.Ns mainGlobals M.mg) {q:Str} (hm:(P,q)∈M.K.tabs) (nd:(M.K.tabs.map (·.1)).Nodup) (hg:mainGlobals≠P):Mkr M c P q where
 hd:=fun h' X'=>by
  obtain⟨vs,od,sl,file,tf,flags,tg,inF,text,tt,e,r⟩:=D.cd
  obtain⟨r1,r2,r3,r4,r5,r6,r7⟩:=r
  exact⟨_,vs,file,tf,flags,tg,inF,text,tt,X' _ _ e,rfl,rfl,r1,r2,r3,r4,r5,r6,r7⟩
 bl:=B
 gP:=hg
 mem:=hm
 un:=fun r hr e=>by
  have key : ∀ (l:List (Addr×Str)),(l.map (·.1)).Nodup->r∈l->(P,q)∈l->r.2=q:=by
   intro l
   induction l with
   | nil=>intro _ h;simp at h
   | cons y l ih=>
     intro nd h1 h2
     rw [bT,fR] at nd
     rcases aR.mp h1 with h1 | h1
     ·rcases aR.mp h2 with h2 | h2
      ·rw [h1,<- h2]
      ·exact absurd (bX.mpr ⟨_,h2,rfl⟩) (by rw [<- e,h1] at *;exact nd.1)
     ·rcases aR.mp h2 with h2 | h2
      ·exact absurd (bX.mpr ⟨r,h1,e⟩) (by rw [<- h2] at nd;exact nd.1)
      ·exact ih nd.2 h1 h2
  exact key _ nd hr hm
theorem rY.ok (D:rY M.K x st c P) (h0:M.mkr=none) (O : ∀ caps capv cds base,fN M.mg base->TOk (M.to caps capv cds base) T k) (O0:TOk M T k) (hL:T.L = []) (h1:T.mkr=false) (hH : ∀ y F,T.H.lookup y=some F -> ∃ k' ps,k'<=k+1/\FnC M y k' ps F) (hF : ∀ y rz,T.Z.F.lookup y=some rz -> ∃ k',k'<=k+1/\FnR M T.Z.cl y k' rz) {nm:Str} (MK:Mkr M c P (x++".<locals>."++nm))
  (S:bC N ps (aw st)) (hc:cB ⟨T.D,T.C,T.L,T.H,true,T.Z.to nm⟩ fu N (aw st).names (aY st)=some ms)
  {f:Addr}{oc kV doc pm ct:Value}{od an:Option Addr}{sl:Array (Option Value)} (lk:M.K.K.lookup f=some ⟨oc,od,.func (cH x x (ft st) (aY st) (aw st) .none kV doc pm an (.ref c) ct),sl⟩) (hcd:eX M.K.K (.ref c) x=true) :
  gZ M.P M.w M.K M.mg M.base CX0 (k+3) f (cH x x (ft st) (aY st) (aw st) .none kV doc pm an (.ref c) ct) ps (spM M.K (run ps.length N.length ms)):=by
 let M1:Mo:=⟨M.P,M.w,M.K,M.mg,M.base,some (c,x++".<locals>.")⟩
 have O1:TOk M1 ⟨T.D,T.C,T.L,T.H,true,T.Z.to nm⟩ (k+2):=by
  have Om:=O0.mono (show k<=k+2 by omega)
  refine⟨fun y g hy => ?_,Om.C,Om.B,fun y q hy => ?_,fun _=>⟨c,x++".<locals>.",P,rfl,MK.hd,MK.bl,MK.gP,MK.mem,MK.un⟩,fun y r hy => ?_⟩
  ·obtain⟨k',ps',hk,F'⟩:=Om.D y g hy
   exact⟨k',ps',hk,⟨F'.ex⟩⟩
  ·rw [show (⟨T.D,T.C,T.L,T.H,true,T.Z.to nm⟩:Tb).L=T.L from rfl,hL] at hy
   cases hy
  ·obtain⟨k',ps',hk,F'⟩:=Om.Z y r hy
   exact⟨k',ps',hk,⟨F'.ex⟩⟩
 have G1:GOk M1 ⟨T.D,T.C,T.L,T.H,true,T.Z.to nm⟩ (k+2):=⟨O1,fun _=>⟨k,ak _,fun y F hy=>by
  obtain⟨k',ps',hk,FC⟩:=hH y F hy
  exact⟨k',ps',hk,⟨FC.ex⟩⟩,fun y rz hy=>by
  obtain⟨k',hk,FC⟩:=hF y rz hy
  exact⟨k',hk,⟨FC.ex⟩⟩,fun caps capv cds base hbb=>by
   have Ob:=O caps capv cds base hbb
   exact⟨Ob.D,Ob.C,Ob.B,fun y q hy=>(by cases hy),fun z=>(by cases z),Ob.Z⟩⟩⟩
 have len : ∀ vs H Q E,spM M.K (run ps.length N.length ms) vs H Q E->vs.length=ps.length:=fun vs H Q E h=>by
  obtain⟨μ,S',us,u,S'',hr,rs,e,_⟩:=h
  unfold run at e
  split at e
  ·rename_i hl;rw [<- rs.len];exact hl
  ·cases e
 refine L2.tW lk hcd S len fun A outer s H vs Q E hr h=>⟨tMS M.K ms,((snd fu M1 _ _ G1).b _ _ _ _ hc _ (Sc.def (M:=M1) S hr fun c' q' hq=>by cases hq;exact⟨rfl,rfl⟩)).nox,?_⟩
 obtain⟨μ,S1,us,u,S2,hr,rs,e,ka⟩:=h
 unfold run at e
 split at e
 ·rename_i hl
  have er:=kC (N:=N) rs
  rw [hl] at er
  split at e
  ·rename_i w ρ' S3 q
   cases e
   exact⟨μ,S1,_,_,hr,er,q,ka⟩
  ·rename_i ρ' S3 q
   cases e
   exact⟨μ,S1,_,_,hr,er,q,fun μ' σ' H' p' k' hr' er'=>ka μ' _ H' p' k' hr' oU⟩
  ·cases e
 ·cases e
end
section
variable {M:Mo}
theorem nW {Hs:List (Str×(Addr->MF->MF))}{j k:Nat} (h : ∀ y F,Hs.lookup y=some F -> ∃ k' ps,k'<=j/\FnC M y k' ps F) (hj:j<=k) : ∀ y F,Hs.lookup y=some F -> ∃ k' ps,k'<=k/\FnC M y k' ps F:=fun y F hy=>
 let ⟨k',ps,a,b⟩:=h y F hy;⟨k',ps,aK a hj,b⟩
theorem Bt {Hs:List (Str×(Addr->MF->MF))}{i j k:Nat}{x:Str}{F0:Addr->MF->MF}{ps:List Str} (h : ∀ y F,Hs.lookup y=some F -> ∃ k' ps,k'<=j/\FnC M y k' ps F) (F1:FnC M x i ps F0) (hi:i<=k) (hj:j<=k) : ∀ y F,((x,F0)::Hs).lookup y=some F -> ∃ k' ps,k'<=k/\FnC M y k' ps F:=fun y F hy=>by
 rw [aL] at hy
 cases e:y == x with
 | true=>rw [e] at hy;cases hy;rw [eq_of_beq e];exact⟨i,ps,hi,F1⟩
 | false=>rw [e] at hy;exact nW h hj y F hy
end
theorem Bh {K:ai}{x:Str}{st:Stmt}{f c P:Addr}{od an od':Option Addr}{sl sl':Array (Option Value)}{oc kV doc pm ct:Value}{vs:Array Value}{file:Str}{tf tg tt:Tok}{flags text:Int}{inF:Bool} (a:bp K mainGlobals x=some (some (.ref f)))
  (l:K.lookup f=some ⟨oc,od,.func (cH x x (ft st) (aY st) (aw st) .none kV doc pm an (.ref c) ct),sl⟩) (cc:eX K (.ref c) x=true) (k:bN K (.ref f)=true)
  (e:K.lookup c=some ⟨.type "code",od',.fields vs,sl'⟩) (r1:vs[11]? = some (.ref P)) (r2:vs.getD 11 .none = .ref P) (r3:vs.getD 18 .none = .str file tf) (r4:vs.getD 7 .none = .int flags tg) (r5:vs.getD 9 .none = .bool inF) (r6:vs.getD 10 .none = .int text tt) (r7:c≠P):rY K x st c P:=
 ⟨⟨f,oc,od,kV,doc,pm,an,ct,sl,a,l,cc,k⟩,⟨vs,od',sl',file,tf,flags,tg,inF,text,tt,e,r1,r2,r3,r4,r5,r6,r7⟩⟩
theorem G7 {K:ai}{tabs:List (Addr×Str)}{H:Hp}{a:Addr}{ns:List Int}{m:MF} (hT : ∀ q∈tabs,vG H q.1 q.2) (hS:SqL K H a (ns.map V.int)) (hm : ∀ S:Sto,S.length=1->getL S 0=some (ns.map U.int) -> ∃ S',m [.ref 0] S=some (.bl true,S')) :
  spM ⟨K,[],[],[],tabs⟩ m [.ref a] H (fun v _=>v = .bl true) fun _ _ _=>False:=by
 have key : ∃ c:Cell,kY ⟨K,[],[],[],tabs⟩ H [a] a c/\getL [c] 0=some (ns.map U.int):=by
  rcases hS with (h | ⟨o,h⟩) | h
  ·exact⟨.lst (ns.map U.int),⟨_,h,RUs.ints ns⟩,rfl⟩
  ·exact⟨.frz (ns.map U.int),⟨_,.inl ⟨o,h⟩,RUs.ints ns⟩,rfl⟩
  ·exact⟨.frz (ns.map U.int),⟨_,.inr (.inr h),RUs.ints ns⟩,rfl⟩
 obtain⟨c,hc,hg⟩:=key
 obtain⟨S',e⟩:=hm [c] rfl hg
 refine⟨[a],[c],[.ref 0],.bl true,S',⟨rfl,fun n m us ws q1 q2 _ _ _ => ?_,fun n c' b q1 q2 => ?_,⟨.nil,fun q hq=>(nomatch hq),hT⟩⟩,.cons (wa rfl) .nil,e,fun μ' v H' _ _ _ r=>lr r⟩
 ·have h1:=(af.mp q1).1
  have h2:=(af.mp q2).1
  simp at h1 h2;omega
 ·have h1:=(af.mp q1).1
  simp at h1;subst h1
  cases q1;cases q2
  exact hc
end G
end
section
namespace G
open PySem PySem.Spec L2
open PySem.W (CodeHd tabObj tabIn)
open PyProof.Rows hiding St
theorem rY.tab {K:ai}{x:Str}{st:Stmt}{c P:Addr} (D:rY K x st c P):tabIn K x=some (c,P):=by
 obtain⟨f,oc,od,kV,doc,pm,an,ct,sl,e1,e2,_⟩:=D.ex
 obtain⟨vs,od',sl',file,tf,flags,tg,inF,text,tt,e3,e4,_⟩:=D.cd
 unfold tabIn
 simp only [e1,e2,e3,e4]
noncomputable def tu (K:ai) (tabs:List (Addr×Str)) (a:Addr) (o:Obj) (xs:List V):Hp:=fun b=>
 if b∈tabs.map (·.1) then some (.tbl #[]) else if b=a/\K.lookup a=none then some (.frz o (.lst xs)) else none
section
variable {P:Program}{w:World}{K:ai}{mg mb:Str->Option Value}{k:Nat}{fa a:Addr}{fd:FuncData}{x:Str}{sp:Sp}{s:Shared}{vs:List Value}{ns:List Int}{tabs:List (Addr×Str)}
theorem Ci (kx:K.In s.heap) (hns:s.heap.Ns mainGlobals mg) (hb:s.heap.Ns builtinsNs mb) (hbb : ∀ x:Str,x≠"__name__"->mb x=bootBuiltins x) (hlim:s.heap.NoLimit) (hbm:fN mg s.heap) (hg:s.gens = #[])
  (ha:s.heap.get? a=some { cls := .type "list",data := .seq vs.toArray }) (hi:IntsAre vs ns) (hl:ns.length<=sizeLine) (hr:i6 k callerA)
  (hT : ∀ r∈tabs,K.lookup r.1=none /\ ∃ c,s.heap.TableAt c r.1 #[])
  (F : ∀ base:Heap,K.In base->base.Ns mainGlobals mg->fN mg base->gZ P w K mg base CX0 k fa fd [x] sp) (hbind : ∀ (s:Shared) (u:Value),BindsTo s fd ⟨[u],[]⟩ [(x,u)])
  (hsp : ∀ H:Hp,(∀ r∈tabs,vG H r.1 r.2)->SqL K H a (ns.map V.int)->sp [.ref a] H (fun v _=>v = .bl true) fun _ _ _=>False) :
  nr (model P w) callerA (.call (.ref fa) ⟨[.ref a],[]⟩) (fun r s'=>r = .ok (.ret (.bool true))/\OldK s.heap s'.heap/\s'.os=s.os/\AllBare s'.gens) s:=by
 have rv:=ng hi
 have lenV:=hi.length
 let o:Obj:={ cls := .type "list",data := .seq vs.toArray }
 let H:=tu K tabs a o (ns.map V.int)
 have hH:H=tu K tabs a o (ns.map V.int):=rfl
 have tab : ∀ b,b∈tabs.map (·.1)->H b=some (.tbl #[])/\K.lookup b=none /\ ∃ c,s.heap.TableAt c b #[]:=fun b hb=>by
  obtain⟨r,hr,e⟩:=bX.mp hb
  subst e
  exact⟨if_pos hb,hT r hr⟩
 have anot:a∉tabs.map (·.1):=fun z=>by
  obtain⟨_,_,c,ht⟩:=tab a z
  have e:=ht.2
  rw [ha] at e
  cases e
 have Hof : ∀ b u,H b=some u->(b∈tabs.map (·.1)/\u = .tbl #[])\/(b=a/\K.lookup a=none/\u = .frz o (.lst (ns.map V.int))):=fun b u e=>by
  rw [hH] at e
  unfold tu at e
  split at e
  ·rename_i z;cases e;exact .inl ⟨z,rfl⟩
  ·split at e
   ·rename_i z;cases e;exact .inr ⟨z.1,z.2,rfl⟩
   ·cases e
 have nodic : ∀ {b:Addr}{o:Obj}{es:Array DictEntry}{ep:Nat},s.heap.get? b=some o->o.data = .dict es ep->H b=none:=fun {b o' es ep} e d=>by
  cases q:H b with
  | none=>rfl
  | some u=>
    rcases Hof b u q with⟨z,_⟩ | ⟨z,_⟩
    ·obtain⟨_,_,c,ht⟩:=tab b z
     have e2:=ht.2
     rw [e] at e2;cases e2;cases d
    ·subst z
     rw [ha] at e;cases e;cases d
 have nsK : ∀ {b:Addr}{m:Str->Option Value},s.heap.Ns b m->(pV s.heap H).Ns b m:=fun {b m} ⟨o,es,ep,e,d,r⟩=>⟨o,es,ep,md e (nodic e d),d,r⟩
 have hKb:K.In (pV s.heap H):=fun b o' e=>md (kx b o' e) (by
  cases q:H b with
  | none=>rfl
  | some u=>
    rcases Hof b u q with⟨z,_⟩ | ⟨z,z2,_⟩
    ·rw [(tab b z).2.1] at e;cases e
    ·rw [z,z2] at e;cases e)
 have hok:HOk P w H s.heap:=fun b u e=>by
  rcases Hof b u e with⟨z,rfl⟩ | ⟨rfl,z2,rfl⟩
  ·obtain⟨_,_,c,ht⟩:=tab b z
   exact ht.2
  ·exact⟨ha,by rw [aI];exact hl,vs,_,rv,ha⟩
 have hS:SqL K H a (ns.map V.int):=by
  cases hk:K.lookup a with
  | some o'=>
    have e:=kx a o' hk
    rw [ha] at e
    cases e
    exact .inr ⟨_,vs.toArray,_,hk,rfl,rfl,rfl,by rw [aG,lenV];exact hl,by simpa using rv⟩
  | none=>exact .inl (.inr ⟨o,by show tu K tabs a o (ns.map V.int) a=_;unfold tu;rw [if_neg anot,if_pos ⟨rfl,hk⟩]⟩)
 have hM:Mod K mg (pV s.heap H):=⟨hKb,nsK hns,⟨mb,nsK hb,hbb⟩,let ⟨mc,h1,h2⟩:=hlim;⟨mc,nsK h1,h2⟩⟩
 have e0:yf P w K mg (pV s.heap H) callerA [] s H:=⟨rfl,hM,fun b o e=>wK e,qw (qU _ _),trivial,fun b hb=>absurd (show b∈([]:List Addr) from hb) (by simp),hok,.of_eq hg⟩
 have hBb:fN mg (pV s.heap H):=by
  obtain⟨bm,ob,e1,e2,e3,e4,e5,e6⟩:=hbm
  refine⟨bm,ob,e1,e2,md e3 ?_,e4,e5,e6⟩
  cases q:H bm with
  | none=>rfl
  | some u=>
    rcases Hof bm u q with⟨z,_⟩ | ⟨z,_⟩
    ·obtain⟨_,_,c,ht⟩:=tab bm z
     have e:=ht.2
     rw [e3] at e;cases e;cases e6
    ·rw [z,ha] at e3;cases e3;cases e6
 have hTR : ∀ r∈tabs,vG H r.1 r.2:=fun r hr=>⟨#[],(tab r.1 (bX.mpr ⟨r,hr,rfl⟩)).1,trivial,fun pos cv h=>by cases h⟩
 refine jF ((F _ hKb (nsK hns) hBb).run callerA [] s H ⟨[.ref a],[]⟩ [.ref a] [.ref a] _ _ hr e0 (hbind s (.ref a)) (.cons rfl .nil) (hsp H hTR hS)) fun r s' h => ?_
 cases r with
 | error e=>exact h.elim
 | ok fl=>
   cases fl with
   | next=>exact bM h
   | brk=>exact bM h
   | cont=>exact bM h
   | ret u=>
     obtain⟨v,H',os,bare,un,hok',r',q⟩:=h
     have q':v = .bl true:=q
     subst q'
     obtain rfl:u=Value.bool true:=r'
     refine⟨rfl,⟨fun b o' e => ?_,fun b o' e=>un.there b o' e (by simp)⟩,os,bare⟩
     cases q:H b with
     | none=>exact .inl (un.keep b o' e q (by intro z;exact absurd (show b∈([]:List Addr) from z) (by simp)) (by simp))
     | some u=>
       rcases Hof b u q with⟨z,rfl⟩ | ⟨rfl,_,rfl⟩
       ·obtain⟨_,_,c,ht⟩:=tab b z
        obtain⟨more,e2⟩:=un.tbls b #[] q
        have e3:s'.heap.get? b=some { cls := .none,data := .fields (#[]++more) }:=hok' b _ e2
        have e4:=ht.2
        rw [e] at e4
        cases e4
        exact .inr (.inl ⟨ht.isCodeTable,rfl,#[],more,rfl,e3⟩)
       ·obtain⟨e2,_⟩:=hok' b _ (un.frzs b _ _ q)
        rw [ha] at e
        cases e
        exact .inl e2
end
theorem AI {l:kP}{n k:Nat}{q:Program}{loose:List Str}{XP:(Str->Option Value)->Heap->Prop}{YP:World->Heap->Prop}{d:DefRec}{K:Params->ai}{x:Str}
  (hn:l.most=some n) (hn2:n<=sizeLine) (hdf:d.params.defaults = []) (hr:i6 k callerA) (hY : ∀ (w:World) (h:Heap),YP w h->(K w.params).In h)
  (F : ∀ (w:World) (mg:Str->Option Value) (fa:Addr) (h:Heap),(K w.params).In h->h.Ns mainGlobals mg->mg d.name=some (.ref fa) -> ∃ (tabs:List (Addr×Str)) (fd:FuncData) (sp:Sp),
   (∀ r∈tabs,(K w.params).lookup r.1=none /\ ∃ x d c,(recsOf q).find? (fun e=>e.name == x)=some d/\tabIn (K w.params) x=some (c,r.1)) /\
   (∀ (s:Shared) (u:Value),BindsTo s fd ⟨[u],[]⟩ [(x,u)])/\(∀ base:Heap,(K w.params).In base->base.Ns mainGlobals mg->fN mg base->gZ l.prog w (K w.params) mg base CX0 k fa fd [x] sp) /\
   ∀ (H:Hp) (a:Addr) (ns:List Int),ns.length<=n->(∀ r∈tabs,vG H r.1 r.2)->SqL (K w.params) H a (ns.map V.int)->sp [.ref a] H (fun v _=>v = .bl true) fun _ _ _=>False) :
  PySem.W.WalkO q loose XP YP l.row.toRowW d [] (fun f vs=>PySem.call f vs):=by
 refine Att.attach_call hn hdf fun w s₀ s₁ mg mb fa o pm cd doc a vs ns G Y ho hd hcd hmg hobj hints hlen hg => ?_
 have kx:=hY w _ Y
 obtain⟨tabs,fd,sp,hT,hb,hF,hsp⟩:=F w mg fa _ kx G.T.g hmg
 refine Ci (tabs:=tabs) kx G.T.g G.T.b G.T.builtins G.T.nolimit G.T.bmain hg hobj hints (aK hlen hn2) hr (fun r hr => ?_) hF hb fun H h1 h2=>hsp H a ns hlen h1 h2
 obtain⟨h1,x',d',c,h2,h3⟩:=hT r hr
 obtain⟨h4,h5⟩:=PySem.W.tab_of G.T kx h2 h3
 exact⟨h1,c,h4.tab h5⟩
end G
end
section
namespace G
open PySem PySem.Spec L2
theorem us0 {p:List Value->Prop} (h:p []) : ∀ us:List Value,us.length=0->p us
 | [],_=>h
theorem us1 {p:List Value->Prop} (h : ∀ a,p [a]) : ∀ us:List Value,us.length=1->p us
 | [a],_=>h a
theorem us2 {p:List Value->Prop} (h : ∀ a b,p [a,b]) : ∀ us:List Value,us.length=2->p us
 | [a,b],_=>h a b
theorem us3 {p:List Value->Prop} (h : ∀ a b c,p [a,b,c]) : ∀ us:List Value,us.length=3->p us
 | [a,b,c],_=>h a b c
theorem us4 {p:List Value->Prop} (h : ∀ a b c d,p [a,b,c,d]) : ∀ us:List Value,us.length=4->p us
 | [a,b,c,d],_=>h a b c d
noncomputable def Bd (x:Str) (st:Stmt) (ps:List Str):Prop := ∀ (kV doc pm:Value) (an:Option Addr) (cdv ct:Value) (us:List Value),us.length=ps.length->bindArgs (cH x x (ft st) (aY st) (aw st) .none kV doc pm an cdv ct) ⟨us,[]⟩=pure (ps.zip us)
structure Ch (P:Program) (w:World) (K:ai) (mg:Str->Option Value) (tabs:List (Addr×Str)) (T:Tb) (k:Nat):Prop where
 o : ∀ (caps:List U) (capv:List V) (cds:List (Addr×Obj)) (base:Heap),fN mg base->TOk ⟨P,w,⟨K,caps,capv,cds,tabs⟩,mg,base,none⟩ T k
 h : ∀ (caps:List U) (capv:List V) (cds:List (Addr×Obj)) (base:Heap),fN mg base -> ∀ y F,T.H.lookup y=some F -> ∃ k' ps,k'<=k/\FnC ⟨P,w,⟨K,caps,capv,cds,tabs⟩,mg,base,none⟩ y k' ps F
 r : ∀ (caps:List U) (capv:List V) (cds:List (Addr×Obj)) (base:Heap),fN mg base -> ∀ y rz,T.Z.F.lookup y=some rz -> ∃ k',k'<=k/\FnR ⟨P,w,⟨K,caps,capv,cds,tabs⟩,mg,base,none⟩ T.Z.cl y k' rz
theorem r9 {M:Mo}{Fs:List (Str×List Nat)}{cl:Nat->Addr}{j k:Nat} (h : ∀ y rz,Fs.lookup y=some rz -> ∃ k',k'<=j/\FnR M cl y k' rz) (hj:j<=k) : ∀ y rz,Fs.lookup y=some rz -> ∃ k',k'<=k/\FnR M cl y k' rz:=fun y rz hy=>
 let ⟨k',a,b⟩:=h y rz hy;⟨k',aK a hj,b⟩
section
variable {P:Program}{w:World}{K:ai}{mg:Str->Option Value}{tabs:List (Addr×Str)}{T T':Tb}{k j:Nat}{h:Heap}{x:Str}{st:Stmt}{N ps:List Str}{ms:MS}{fu:Nat}
theorem Ch.dfn (c:Ch P w K mg tabs T k) (O : ∀ (caps:List U) (capv:List V) (cds:List (Addr×Obj)) (base:Heap),fN mg base->TOk ⟨P,w,⟨K,caps,capv,cds,tabs⟩,mg,base,none⟩ T' k) (h1:T'.mkr=false) (X:K.In h) (Gn:h.Ns mainGlobals mg) (D:Def K x st) (S:bC N ps (aw st)) (hb:Bd x st ps)
  (hc:cB T' fu N (aw st).names (aY st)=some ms):Ch P w K mg tabs ⟨(x,run ps.length N.length ms)::T.D,T.C,T.L,T.H,T.mkr,T.Z⟩ (k+1):=
 ⟨fun a b d e f=>(c.o a b d e f).cons (D.fn (M:=⟨P,w,⟨K,a,b,d,tabs⟩,mg,e,none⟩) (O a b d e f) rfl h1 X Gn S hb hc) (ck k),fun a b d e f=>nW (c.h a b d e f) (ck k),fun a b d e f=>r9 (c.r a b d e f) (ck k)⟩
theorem Ch.cls {y:Str}{msC:Addr->MF->MS} (c:Ch P w K mg tabs T k) (h1:T.mkr=false) (hL:T.L = []) (X:K.In h) (Gn:h.Ns mainGlobals mg) (D:Def K x st) (S:bC N ps (aw st)) (hb:Bd x st ps)
  (hc : ∀ g φ,cB ⟨T.D,T.C,[(y,g,φ)],T.H,T.mkr,T.Z⟩ fu N (aw st).names (aY st)=some (msC g φ)):Ch P w K mg tabs ⟨T.D,T.C,T.L,(x,fun g φ=>run ps.length N.length (msC g φ))::T.H,T.mkr,T.Z⟩ k:=
 ⟨fun a b d e f=>(c.o a b d e f).setH,fun a b d e f=>Bt (c.h a b d e f) (D.fnC (M:=⟨P,w,⟨K,a,b,d,tabs⟩,mg,e,none⟩) c.o h1 hL X Gn S hb hc) (ak k) (ak k),c.r⟩
end
end G
end
section
namespace G
open PySem PySem.Spec L2
open PyProof.Rows hiding St
section
noncomputable def xNo:MX:=fun _ _=>none
noncomputable def AX (m:ME) (r:MX):MX:=fun ρ S=>bnd (m ρ S) fun _ S1=>r ρ S1
noncomputable def rg (C:Nat):MX:=fun _ S=>some (C,S)
noncomputable def xIf (c:MT) (a b:MX):MX:=fun ρ S=>bnd (c ρ S) fun k S1=>if k then a ρ S1 else b ρ S1
noncomputable def pY (a:MX) (m:MS) (b:MX):MX:=fun ρ S=>match a ρ S with
 | some r=>some r
 | none=>match m ρ S with
   | some (.nx,ρ1,S1)=>b ρ1 S1
   | _=>none
noncomputable def ql (k n:Nat) (r:MX):RF:=fun us S=>if us.length=k then r (us.map some++ay (n - k) none) S else none
structure Tx where
 R:List (Str×RF)
 Cl:List (Str×Nat)
noncomputable def z5:Const->Option Str
 | .str s=>some s
 | _=>none
noncomputable def AB:Expr->Option Str
 | .Constant c _ _=>z5 c
 | _=>none
noncomputable def yj:Expr->Option Str
 | .Name y _=>some y
 | _=>none
noncomputable def F6:Expr->Option (Str×Int)
 | .FormattedValue e c o _=>if o.isNone then (yj e).map fun y=>(y,c) else none
 | _=>none
noncomputable def EU (a b:Str):U->Bool
 | .int i=>decide (i.natAbs.log2 < 1920)&&decide (a.length<=1000)&&decide ((toString i:Str).length<=1000)&&decide (b.length<=1000)
 | _=>false
noncomputable def IK (T:Tb) (ns:NS):List Expr->Option U
 | [x,y,z]=>(AB x).bind fun a=>(F6 y).bind fun q=>(AB z).bind fun b=>(T.C.lookup q.1).bind fun u=>if q.2 == -1&&dm ns q.1&&bH q.1&&EU a b u then some u else none
 | _=>none
noncomputable def zk (T:Tb) (ns:NS):Expr->Bool
 | .Constant c _ _=>(z5 c).isSome
 | .JoinedStr es _=>(IK T ns es).isSome
 | _=>false
noncomputable def oneOf {α:Type}:List α->Option α
 | [a]=>some a
 | _=>none
structure Xc where
 e:Tb->Tx->List Str->NS->Expr->Option MX
 a:Tb->Tx->List Str->NS->List Expr->Option MX
 s:Tb->Tx->List Str->NS->Stmt->Option MX
 b:Tb->Tx->List Str->NS->List Stmt->Option MX
section
variable (f:Nat) (R:Xc) (T:Tb) (Z:Tx) (N:List Str) (ns:NS)
noncomputable def xC (g:Str) (as:List Expr):Option MX:=match Z.R.lookup g with
 | some r=>(cA T f N ns as).map (xFn r)
 | none=>match T.D.lookup g with
   | some _=>if as.all notStar then R.a T Z N ns as else none
   | none=>none
noncomputable def xE:Expr->Option MX
 | .Call (.Name g _) (a::as) [] _=>if dm ns g&&bH g then xC f R T Z N ns g (a::as) else none
 | .Subscript a b _=>if j4 b then R.e T Z N ns a else none
 | _=>none
noncomputable def xA:List Expr->Option MX
 | []=>none
 | e::r=>if notStar e then (match R.e T Z N ns e with
   | some re=>some re
   | none=>(cE T f N ns e).bind fun me=>(R.a T Z N ns r).map (AX me)) else none
noncomputable def xR:Expr->Option MX
 | .Call g as ks _=>(yj g).bind fun x=>(oneOf as).bind fun a=>if ks.isEmpty&&dm ns x&&bH x&&notStar a&&zk T ns a then (Z.Cl.lookup x).map rg else none
 | _=>none
noncomputable def xS:Stmt->Option MX
 | .Raise o c _=>if c.isNone then o.bind (xR T Z ns) else none
 | .If c a b _=>(cT T f N ns c).bind fun mc=>(R.b T Z N ns a).map fun ra=>xIf mc ra ((R.b T Z N ns b).getD xNo)
 | .Expr e _=>if jn e then R.e T Z N ns e else none
 | .Return o _=>o.bind fun e=>R.e T Z N ns e
 | .Assign ts e _=>(oneOf ts).bind fun t=>(yj t).bind fun x=>if ji ns x&&jn e&&(slot N x).isSome then R.e T Z N ns e else none
 | _=>none
noncomputable def xB:List Stmt->Option MX
 | []=>none
 | s::r=>match R.s T Z N ns s with
   | some rs=>some (pY rs ((cS T f N ns s).getD sNo) ((R.b T Z N ns r).getD xNo))
   | none=>(cS T f N ns s).bind fun ms=>(R.b T Z N ns r).map (pY xNo ms)
end
noncomputable def xc (f:Nat):Nat->Xc
 | 0=>⟨fun _ _ _ _ _=>none,fun _ _ _ _ _=>none,fun _ _ _ _ _=>none,fun _ _ _ _ _=>none⟩
 | n+1=>⟨xE f (xc f n),xA f (xc f n),xS f (xc f n),xB f (xc f n)⟩
end
structure XOk (M:Mo) (cl:Nat->Addr) (T:Tb) (Z:Tx) (k:Nat):Prop where
 g:GOk M T k
 R : ∀ x r,Z.R.lookup x=some r -> ∃ k' ps,k'<=k/\FnX M cl x k' ps r
 C : ∀ x c,Z.Cl.lookup x=some c->M.mg x=some (.ref (cl c))/\eC M.K.K (cl c) vE "ValueError.__new__"=true
theorem Fu {K:ai}{h:Heap}{mg:Str->Option Value}{x:Str}{C:Addr}{bmB:List Value}{newId:String} (X:K.In h) (e:mg x=some (.ref C)) (q:eC K C bmB newId=true):OwnCls x C bmB newId mg h:=by
 refine⟨e,?_⟩
 unfold eC at q
 split at q
 rotate_left
 ·cases q
 rename_i dd cd sl ho
 split at q
 rotate_left
 ·cases q
 rename_i C' bm k0 k1 k2 k3 n k5 hm hs
 simp only [ax,beq_iff_eq,jH] at q
 obtain⟨⟨⟨⟨⟨q1,q2⟩,q3⟩,q4⟩,q5⟩,q6⟩:=q
 obtain⟨nm,bs,mro,ns,qn,hd,sn,sub,ab,col,del⟩:=cd
 have hm':mro = .ref C'::bm:=hm
 have q3':del=false:=q3
 have hsl:sl = #[k0,k1,k2,k3,some (.builtin n),k5]:=by
  obtain⟨l⟩:=sl
  have hs':l = [k0,k1,k2,k3,some (.builtin n),k5]:=hs
  rw [hs']
 subst q1 q2 hm' q3' hsl
 exact⟨bm,ns,nm,qn,bs,hd,sn,sub,ab,col,dd,k0,k1,k2,k3,k5,_,X _ _ ho,.of_isNs (PySem.W.isNs_of_in X q5),PySem.W.nsMap_none_of_in X q5 q6,PySem.W.tail_of_in X q4⟩
section
variable {M:Mo}{cl:Nat->Addr}{T:Tb}{Z:Tx}{k n fu:Nat}{N:List Str}{ns:NS}{X:Cx}{E:XK}
theorem xi {c:Const}{s:Str} (h:z5 c=some s):c = .str s:=by
 cases c <;> cases h
 rfl
theorem xr {e:Expr}{s:Str} (h:AB e=some s) : ∃ k p,e = .Constant (.str s) k p:=by
 cases e with
 | Constant c k p=>exact⟨k,p,by rw [xi (show z5 c=some s from h)]⟩
 | _=>cases h
theorem Aq {e:Expr}{s:Str} (h:yj e=some s) : ∃ p,e = .Name s p:=by
 cases e with
 | Name y p=>cases h;exact⟨p,rfl⟩
 | _=>cases h
theorem BG {e:Expr}{q:Str×Int} (h:F6 e=some q) : ∃ p p',e = .FormattedValue (.Name q.1 p) q.2 none p':=by
 cases e with
 | FormattedValue e c o p=>
   have h:(if o.isNone then (yj e).map fun y=>(y,c) else none)=some q:=h
   split at h
   ·rename_i ho
    obtain⟨y,e1,rfl⟩:=map_eq h
    obtain⟨p1,rfl⟩:=Aq e1
    cases o with
    | none=>exact⟨p1,p,rfl⟩
    | some _=>cases ho
   ·cases h
 | _=>cases h
theorem zF {α:Type}{l:List α}{a:α} (h:oneOf l=some a):l = [a]:=by
 match l,h with
 | [_],h=>cases h;rfl
theorem F9 (O:TOk M T k) (S:Sc M X.nox k N ns) {a:Expr} (h:zk T ns a=true):PE X a fun σ H Q => ∀ x,Q (.str x) H:=by
 cases a with
 | Constant c kk p=>
   obtain⟨s,e⟩:=cb.mp (show (z5 c).isSome=true from h)
   rw [xi e]
   exact PE.con zj fun _ _ _ q=>q _
 | JoinedStr es p=>
   obtain⟨u,h⟩:=cb.mp (show (IK T ns es).isSome=true from h)
   match es,h with
   | [x,y,z],h=>
     obtain⟨a,e1,h⟩:=bind_eq (show ((AB x).bind fun a=>(F6 y).bind fun q=>(AB z).bind fun b=>(T.C.lookup q.1).bind fun u=>if q.2 == -1&&dm ns q.1&&bH q.1&&EU a b u then some u else none)=some u from h)
     obtain⟨⟨n,c⟩,e2,h⟩:=bind_eq h
     obtain⟨b,e3,h⟩:=bind_eq h
     obtain⟨u',hi,h⟩:=bind_eq h
     split at h
     rotate_left
     ·cases h
     rename_i hs
     simp only [ax] at hs
     obtain⟨⟨⟨hc,hg⟩,hp⟩,hI⟩:=hs
     obtain⟨k1,p1,rfl⟩:=xr e1
     obtain⟨p2,p3,rfl⟩:=BG e2
     obtain⟨k3,p4,rfl⟩:=xr e3
     obtain⟨i,rfl,hI⟩ : ∃ i,u' = .int i/\EU a b (.int i)=true:=by
      cases u' with
      | int i=>exact⟨i,rfl,hI⟩
      | _=>cases hI
     have h:(decide (i.natAbs.log2 < 1920)&&decide (a.length<=1000)&&decide ((toString i:Str).length<=1000)&&decide (b.length<=1000))=true:=hI
     simp only [ax,decide_eq_true_eq] at h
     obtain⟨⟨⟨h1,h2⟩,h3⟩,h4⟩:=h
     obtain⟨g,v,hm,rv,hu⟩:=O.C _ _ hi
     have hv:=cy (hu (fun _=>none) [])
     subst hv
     obtain⟨t,rfl⟩ : ∃ t,g = .int i t:=rv
     cases eq_of_beq hc
     intro pins s σ H Q I q
     have big:(3000:Nat)<=sizeLine:=by rw [sizeLine_eq];decide
     refine JoinedStr_many (joinParts_cons (nQ ⟨?_,?_⟩))
     ·rw [strLen_append]
      have:(sx).length=0:=rfl
      omega
     refine joinParts_cons (FormattedValue_plain (iI (I.tok _) (S.gl hg) (by have:=S.hm;exact (congrFun this _).trans hm) ?_ (b9 hp).1))
     refine formatField_int_small h1 ⟨?_,?_⟩
     ·rw [strLen_append,strLen_append]
      have:(sx).length=0:=rfl
      omega
     refine joinParts_cons (nQ ⟨?_,?_⟩)
     ·rw [strLen_append,strLen_append,strLen_append]
      have:(sx).length=0:=rfl
      omega
     refine joinParts_nil ⟨.str _,H,?_,⟨_,rfl⟩,q _⟩ ?_
     ·exact I.tok _
     ·rw [strLen_append,strLen_append,strLen_append]
      have:(sx).length=0:=rfl
      omega
 | _=>cases h
end
end G
end
section
namespace G
open PySem PySem.Spec L2
open PyProof.Rows hiding St
section
variable {M:Mo}{cl:Nat->Addr}{T:Tb}{Z:Tx}{k n fu:Nat}{N:List Str}{ns:NS}{X:Cx}{E:XK}
theorem x_raise {x:Str}{C:Nat}{a:Expr}{p1 p2 pos:Pos} (L:Lv X E) (S:Sc M X.nox k N ns) (O:M.mg x=some (.ref (cl C))/\eC M.K.K (cl C) vE "ValueError.__new__"=true) (hg:dm ns x=true) (hp:bH x=true) (hs:notStar a=true) (ha:PE X a fun σ H Q => ∀ x,Q (.str x) H) :
  PS X (.Raise (some (.Call (.Name x p1) [a] [] p2)) none pos) (tXS cl M.K (rg C) E):=by
 intro pins s σ H D I h
 obtain⟨μ,S0,ρ,C',S',hr,er,q,aft⟩:=h
 cases q
 have hb:X.base=M.base:=S.hb
 have hm:X.mg=M.mg:=S.hm
 have hK:X.K=M.K.K:=S.hK
 have O:=Fu (K:=M.K.K) (h:=X.base) (by rw [<- hK];exact I.ok.mod.kin) O.1 O.2
 obtain⟨tl,Nn,nm,q,bs,hdct,sn,sub,ab,col,dd,k0,k1,k2,k3,k5,mN,hC,hN,hni,T'⟩:=O.obj
 refine wpAny_Raise_call_subU (C:=cl C) (nm:=nm) (q:=q) (N:=Nn) (bs:=bs) (bm:=tl) (hdct:=hdct) (sn:=sn) (sub:=sub) (ab:=ab) (col:=col) (dd:=dd) (k0:=k0) (k1:=k1) (k2:=k2) (k3:=k3) (k5:=k5)
  sH (bmB:=vE) (by decide +kernel) sH (mN:=mN) (T'.hasType PySem.F.excBase_ValueError.hasBase) S.room.hd (m6 _ _ (by rw [bK,hs];rfl)) hni (iI I (S.gl hg) (by rw [hm];exact O.bound) ⟨rfl,?_⟩ (b9 hp).1)
 rw [cN hs]
 refine mP ?_
 refine ek (thn (ha pins s σ H (fun v H1=>(∃ x,v = .str x)/\H1=H) I fun x=>⟨⟨x,rfl⟩,rfl⟩) fun u s1 ⟨v,H1,I1,r1,_,e1⟩ => ?_)
 subst e1
 refine gH ⟨rfl,?_,I1.bk _ _ hC,hN.keeps I1.bk,T'.keeps I1.bk,fun h' e hx => ?_⟩
 ·show 1<=sizeLine
  rw [sizeLine_eq];decide
 ·exact L.made I1 hx (aft μ H1 (Pre.refl _) (bh.refl _) hr)
theorem Fo {g:Str}{a:Expr}{as:List Expr}{p pos:Pos}{mf:MF}{r:MX}{k':Nat}{ps:List Str} (S:Sc M X.nox k N ns) (F:Fn M g k' ps mf) (hk:k'<=k) (hg:dm ns g=true) (hp:bH g=true) (ha:PA X (a::as) (tXA cl M.K r E)) (hs:(a::as).all notStar=true) :
  PE X (.Call (.Name g p) (a::as) [] pos) (tXE cl M.K r E):=by
 obtain⟨f,fd,hm,hkp,hb,F⟩:=F.ex
 have e1:X.prog=M.P:=S.hP
 have e2:X.w=M.w:=S.hw
 have e3:X.K=M.K:=S.hK
 have e4:X.mg=M.mg:=S.hm
 have e5:X.base=M.base:=S.hb
 rw [<- e1,<- e2,<- e3,<- e4,<- e5] at F
 rw [<- e4] at hm
 rw [<- e3] at hkp hb
 rw [bK,ax] at hs
 exact PE.con (si F (S.room.mono hk) (S.gl hg) hm hkp hb .nil xl ha (b9 hp).1 (cN hs.1 _ _) (m6 _ _ hs.2)) fun σ H Q h=>h
structure Hx (M:Mo) (cl:Nat->Addr) (T:Tb) (Z:Tx) (k fu n:Nat):Prop where
 e : ∀ N ns e r,(xc fu n).e T Z N ns e=some r -> ∀ X E,Lv X E->Sc M X.nox k N ns->PE X e (tXE cl M.K r E)
 a : ∀ N ns es r,(xc fu n).a T Z N ns es=some r -> ∀ X E,Lv X E->Sc M X.nox k N ns->PA X es (tXA cl M.K r E)
 s : ∀ N ns st r,(xc fu n).s T Z N ns st=some r -> ∀ X E,Lv X E->Sc M X.nox k N ns->PS X st (tXS cl M.K r E)
 b : ∀ N ns sts r,(xc fu n).b T Z N ns sts=some r -> ∀ X E,Lv X E->Sc M X.nox k N ns->PSs X sts (tXS cl M.K r E)
theorem HW {R:Hx M cl T Z k fu n}{sts:List Stmt} (h : ∀ r,(xc fu n).b T Z N ns sts=some r->PSs X sts (tXS cl M.K r E)):PSs X sts (tXS cl M.K (((xc fu n).b T Z N ns sts).getD xNo) E):=by
 cases q:(xc fu n).b T Z N ns sts with
 | some r=>exact h r q
 | none=>
   rintro pins s σ H D I ⟨μ,S0,ρ,C,S',hr,er,q,aft⟩
   cases q
theorem HS (O:XOk M cl T Z k) : ∀ n,Hx M cl T Z k fu n
 | 0=>⟨fun _ _ _ _ h=>dv h,fun _ _ _ _ h=>dv h,fun _ _ _ _ h=>dv h,fun _ _ _ _ h=>dv h⟩
 | n+1=>by
   have R:=HS O n
   have Sn:=snd fu M T k O.g
   refine⟨fun N ns e r h X E L S => ?_,fun N ns es r h X E L S => ?_,fun N ns st r h X E L S => ?_,fun N ns sts r h X E L S => ?_⟩
   ·simp only [xc] at h
    unfold xE at h
    split at h
    ·split at h
     ·rename_i hs
      rw [ax] at hs
      unfold xC at h
      split at h
      ·rename_i rr hr
       obtain⟨mas,e1,rfl⟩:=map_eq h
       obtain⟨k',ps,hk,F⟩:=O.R _ _ hr
       exact x_call L S F hk hs.1 hs.2 (Sn.a _ _ _ _ e1 _ S) (gh e1)
      ·split at h
       ·rename_i mf hd
        split at h
        ·rename_i hst
         obtain⟨k',ps,hk,F⟩:=O.g.1.D _ _ hd
         exact Fo S F hk hs.1 hs.2 (R.a _ _ _ _ h _ _ L S) hst
        ·cases h
       ·cases h
     ·cases h
    ·split at h
     ·rename_i a b p hs
      exact PE.con (DC (r:=fun _ _ _ _=>False) (by unfold IxR;intros;contradiction) (R.e _ _ _ _ h _ _ L S) PE.never (DN hs)) fun _ _ _ q=>q
     ·cases h
    ·cases h
   ·simp only [xc] at h
    unfold xA at h
    split at h
    ·cases h
    ·split at h
     ·rename_i e es hs
      split at h
      ·rename_i re he
       cases h
       exact fun pos pins s σ H Q I q=>mL (t:=fun _ _ _=>False) (R.e _ _ _ _ he _ _ L S) (fun _ _ _ _ _ _ _ h=>h.elim) (cN hs _ _) pos pins s σ H Q I q
      ·obtain⟨me,e1,h⟩:=bind_eq h
       obtain⟨rr,e2,rfl⟩:=map_eq h
       intro pos pins s σ H Q I q
       refine mL (Sn.e _ _ _ _ e1 _ S).nox (R.a _ _ _ _ e2 _ _ L S) (cN hs _ _) pos pins s σ H Q I ?_
       obtain⟨μ,S0,ρ,C,S',hr,er,q,aft⟩:=q
       obtain⟨u,S1,e1,q⟩:=ba q
       exact⟨μ,S0,ρ,u,S1,hr,er,e1,fun μ1 v H1 p1 k1 hr1 _=>⟨μ1,S1,ρ,C,S',hr1,er.mono k1 p1,q,aft.mono p1 k1⟩⟩
     ·cases h
   ·simp only [xc] at h
    unfold xS at h
    split at h
    ·split at h
     ·rename_i o c p hn
      obtain⟨e,rfl,hx⟩:=bind_eq h
      clear h
      cases c with
      | some _=>cases hn
      | none=>
      cases e with
      | Call g as ks p=>
        obtain⟨x,e1,hy⟩:=bind_eq (show ((yj g).bind fun x=>(oneOf as).bind fun a=>if ks.isEmpty&&dm ns x&&bH x&&notStar a&&zk T ns a then (Z.Cl.lookup x).map rg else none)=some r from hx)
        clear hx
        obtain⟨a,e2,hz⟩:=bind_eq hy
        clear hy
        obtain⟨p1,rfl⟩:=Aq e1
        cases zF e2
        split at hz
        ·rename_i hs
         simp only [ax] at hs
         obtain⟨C,e1,rfl⟩:=map_eq hz
         have hk:=hs.1.1.1.1
         cases ks with
         | nil=>exact x_raise L S (O.C _ _ e1) hs.1.1.1.2 hs.1.1.2 hs.1.2 (F9 O.g.1 S hs.2)
         | cons _ _=>cases hk
        ·cases hz
      | _=>cases hx
     ·cases h
    ·obtain⟨mc,e1,h⟩:=bind_eq h
     obtain⟨ra,e2,rfl⟩:=map_eq h
     refine PS.con (Ds (Sn.t _ _ _ _ e1 _ S).nox (R.b _ _ _ _ e2 _ _ L S) (HW (R:=R) fun r q=>R.b _ _ _ _ q _ _ L S)) fun D σ H q => ?_
     obtain⟨μ,S0,ρ,C,S',hr,er,q,aft⟩:=q
     obtain⟨b,S1,e1,q⟩:=ba q
     refine⟨μ,S0,ρ,b,S1,hr,er,e1,fun μ1 H1 p1 k1 hr1 => ?_⟩
     cases b with
     | true=>exact JT ⟨μ1,S1,ρ,C,S',hr1,er.mono k1 p1,q,aft.mono p1 k1⟩
     | false=>exact Js ⟨μ1,S1,ρ,C,S',hr1,er.mono k1 p1,q,aft.mono p1 k1⟩
    ·split at h
     ·rename_i hs
      exact PS.con (wy (R.e _ _ _ _ h _ _ L S) (mz hs _ _ _)) fun _ _ _ q=>q
     ·cases h
    ·obtain⟨e,rfl,hx⟩:=bind_eq h
     exact PS.con (Ay (R.e _ _ _ _ hx _ _ L S)) fun _ _ _ q=>q
    ·obtain⟨t,e1,hx⟩:=bind_eq h
     clear h
     obtain⟨x,e2,h⟩:=bind_eq hx
     clear hx
     cases zF e1
     obtain⟨p1,rfl⟩:=Aq e2
     split at h
     ·rename_i hs
      simp only [ax] at hs
      obtain⟨i,hi⟩:=cb.mp hs.2
      have hl:=S.lo hs.1.1
      exact PS.con (vU (i:=i) (by have:=S.nd;have e:=S.hN;exact e▸this) (by have e:X.N=N:=S.hN;rw [e];exact slot_get hi) hl.1 (R.e _ _ _ _ h _ _ L S) (mz hs.1.2 _ _ _) hl.2) fun _ _ _ q=>q
     ·cases h
    ·cases h
   ·simp only [xc] at h
    unfold xB at h
    split at h
    ·cases h
    ·rename_i st rest
     have two : ∀ (rs:MX) (ms:MS) (rr:MX),PS X st (tXS cl M.K rs E)->PS X st (tMS M.K ms)->PSs X rest (tXS cl M.K rr E)->PSs X (st::rest) (tXS cl M.K (pY rs ms rr) E):=by
      rintro rs ms rr h1 h2 h3 pins s σ H D I ⟨μ,S0,ρ,C,S',hr,er,q,aft⟩
      unfold pY at q
      split at q
      ·rename_i r e1
       cases q
       exact (jU h1 (PSs.never (e:=rest))) pins s σ H D I ⟨μ,S0,ρ,C,S',hr,er,e1,aft⟩
      ·split at q
       ·rename_i ρ1 S1 e2
        exact (jU h2 h3) pins s σ H D I ⟨μ,S0,ρ,_,hr,er,e2,fun μ1 σ1 H1 p1 k1 hr1 er1=>⟨μ1,S1,ρ1,C,S',hr1,er1,q,aft.mono p1 k1⟩⟩
       ·cases q
     split at h
     ·rename_i rs e1
      cases h
      refine two _ _ _ (R.s _ _ _ _ e1 _ _ L S) ?_ (HW (R:=R) fun r q=>R.b _ _ _ _ q _ _ L S)
      cases e2:cS T fu N ns st with
      | some ms=>exact (Sn.s _ _ _ _ e2 _ S).nox
      | none=>exact IM
     ·obtain⟨ms,e1,h⟩:=bind_eq h
      obtain⟨rr,e2,rfl⟩:=map_eq h
      refine two _ _ _ ?_ (Sn.s _ _ _ _ e1 _ S).nox (R.b _ _ _ _ e2 _ _ L S)
      rintro pins s σ H D I ⟨μ,S0,ρ,C,S',hr,er,q,aft⟩
      cases q
end
section
variable {M:Mo}{cl:Nat->Addr}{T:Tb}{Z:Tx}{k:Nat}{h:Heap}{x:Str}{st:Stmt}{N ps:List Str}{r:MX}{fu n:Nat}
theorem Def.fnX (O:XOk M cl T Z k) (h0:M.mkr=none) (X:M.K.K.In h) (Gn:h.Ns mainGlobals M.mg) (D:Def M.K x st) (S:bC N ps (aw st))
  (hb:Bd x st ps) (hc:(xc fu n).b T Z N (aw st).names (aY st)=some r):FnX M cl x (k+1) ps (ql ps.length N.length r):=by
 obtain⟨f,fd,a,F⟩:=D.ex
 refine⟨f,fd,cz X Gn a,F.2,F.binds hb,?_⟩
 obtain⟨oc,od,kV,doc,pm,an,cdv,ct,osl,rfl,lk,hcd⟩:=F.ex
 have len : ∀ vs H Q E,spX cl M.K (ql ps.length N.length r) vs H Q E->vs.length=ps.length:=fun vs H Q E h=>by
  obtain⟨μ,S',us,u,S'',hr,rs,e,_⟩:=h
  unfold ql at e
  split at e
  ·rename_i hl;rw [<- rs.len];exact hl
  ·cases e
 refine L2.tW lk hcd S len fun A outer s H vs Q E hr h=>⟨tXS cl M.K r E,(HS O n).b _ _ _ _ hc _ E ⟨rfl,rfl,rfl,rfl⟩ (Sc.def (M:=M) (E:=E) S hr fun c q h=>by rw [h0] at h;cases h),?_⟩
 obtain⟨μ,S1,us,C,S2,hR,rs,e,ka⟩:=h
 unfold ql at e
 split at e
 ·rename_i hl
  have er:=kC (N:=N) rs
  rw [hl] at er
  exact⟨μ,S1,_,C,S2,hR,er,e,ka⟩
 ·cases e
end
end G
end
section
namespace G
open PySem PySem.Spec PySem.W L2
open PyProof.Rows hiding St
section
variable {prog:Program}{w:World}{A:Around}{E:Value->Shared->Prop}{K:Frag}{h:Heap}{g:Array GenState}{d:Drawn}{t:Nat}{os:OsState}{e C:Addr}{oe:Obj}
theorem DO {tp:Value}{R:Result->Shared->Prop} (X:K.In h) (he:h.get? e=some oe) (hc:oe.cls = .ref C) (hm:mroIn K C (.type "object")=some true) (q:R (.ok (.ret (.ref C))) ⟨h,g,d,t,os⟩) :
  nr (model prog w) A (.call (.builtin "getset_descriptor.__get__") ⟨[.builtin "object.__class__",.ref e,tp],[]⟩) R ⟨h,g,d,t,os⟩:=by
 have L1:=looks_mroIn (M:=model prog w) X hm
 have ow:=PySem.F.owner_object_class
 have T5:(⟨h,g,d,t,os⟩:Shared).TypeIs (.builtin "object.__class__") "getset_descriptor":=iC
 refine codeAny_call_builtin PySem.F.slot_gs_get.plain PySem.F.entry_gs_get (PySem.F.slot_gs_get.check _ _ _ _ _ _ _ _ T5 (PySem.F.args_gs_get _ _ _) ?_)
 repeat (any_goals (first | assumption | (with_reducible refine ix he ?_;rw [hc]) | (rw [ow];with_reducible refine L1.at ?_) | with_reducible refine L1.at ?_ | wp_step))
 refine⟨Code.quiet_builtin _ (by decide +kernel),yQ PySem.F.entry_object_class ?_⟩
 repeat (any_goals (first | assumption | (with_reducible refine ix he ?_;rw [hc]) | wp_step))
theorem zE {tk:Tok}{Q:Fin->Shared->Prop} (X:K.In h) (he:h.get? e=some oe) (hc:oe.cls = .ref C) (hm:mroIn K C (.type "object")=some true) (hf:findIn K (.ref C) "__class__"=some (some (.builtin "object.__class__"))) (q:Q (.done (.ret (.ref C))) ⟨h,g,d,t,os⟩) :
  aJ (model prog w) A (Builtin.«object.__getattribute__» ⟨[.ref e,.str "__class__" tk],[]⟩) Q E ⟨h,g,d,t,os⟩:=by
 have L1:=looks_findIn (M:=model prog w) X hf
 have f5:(⟨h,g,d,t,os⟩:Shared).TypeIs (.builtin "object.__class__") "getset_descriptor":=iC
 have f4:=iC
 have f6:=PySem.F.slot_gs_get.lookup
 have f7:=PySem.F.slot_gs_set.lookup
 repeat (any_goals (first | assumption | (with_reducible refine ix he ?_;rw [hc]) | with_reducible refine L1.at ?_ | wp_step))
 refine DO X he hc hm ?_
 repeat (any_goals (first | assumption | wp_step))
theorem AD {nameV:Value}{M:Model}{Q:Unit->Shared->Prop} (X:K.In h) (he:h.get? e=some oe) (hc:oe.cls = .ref C) (hb:mroIn K C (.type "BaseException")=some true) (q:Q () ⟨h,g,d,t,os⟩) :
  aJ M A (checkBuiltinCall "BaseException.__getattribute__" ⟨[.ref e,nameV],[]⟩) Q E ⟨h,g,d,t,os⟩:=by
 have L1:=looks_mroIn (M:=M) X hb
 have k1:builtinKind "BaseException.__getattribute__"=some .slot:=by decide +kernel
 have k2:splitId "BaseException.__getattribute__"=some ("BaseException","__getattribute__"):=by decide +kernel
 have ha:=PySem.F.args_bexc_ga (.ref e) nameV
 simp only [checkBuiltinCall,k1,k2]
 refine aj ?_
 unfold isInstance
 repeat (first | (with_reducible refine ix he ?_;rw [hc]) | with_reducible refine L1.at ?_ | wp_step)
 exact q
theorem IC {tk:Tok}{Q:Value->Shared->Prop} (X:K.In h) (he:h.get? e=some oe) (hc:oe.cls = .ref C) (hm:mroIn K C (.type "object")=some true) (hb:mroIn K C (.type "BaseException")=some true) (hf:findIn K (.ref C) "__class__"=some (some (.builtin "object.__class__")))
  (hg:findIn K (.ref C) "__getattribute__"=some (some (.builtin "BaseException.__getattribute__"))) (ha:findIn K (.ref C) "__getattr__"=some none) (q:Q (.ref C) ⟨h,g,d,t,os⟩) :
  aJ (model prog w) A (getAttrBy (.ref e) (.str "__class__" tk) false) Q E ⟨h,g,d,t,os⟩:=by
 have L1:=looks_findIn (M:=model prog w) X hg
 have L2:=looks_findIn (M:=model prog w) X ha
 have f3:=PySem.F.excAttr_ValueError.ga.bind (.ref e)
 have x2:(nF "BaseException.__getattribute__" == nF "object.__getattribute__")=false:=by decide +kernel
 have x1:(onTheHeap (bj C)&&nF "BaseException.__getattribute__" == nF "object.__getattribute__")=false:=by rw [x2];rfl
 repeat (any_goals (first | assumption | (with_reducible refine ix he ?_;rw [hc]) | with_reducible refine L1.at ?_ | with_reducible refine L2.at ?_ | wp_step))
 refine codeAny_call_builtin PySem.F.excAttr_ValueError.ga.plain PySem.F.entry_bexc_ga (AD X he hc hb (zE X he hc hm hf ?_))
 repeat (any_goals (first | assumption | wp_step))
theorem Bp {Q:Option Value->Shared->Prop} (X:K.In h) (he:h.get? e=some oe) (hc:oe.cls = .ref C) (hm:mroIn K C (.type "object")=some true) (hb:mroIn K C (.type "BaseException")=some true) (hf:findIn K (.ref C) "__class__"=some (some (.builtin "object.__class__")))
  (hg:findIn K (.ref C) "__getattribute__"=some (some (.builtin "BaseException.__getattribute__"))) (ha:findIn K (.ref C) "__getattr__"=some none) (q:Q (some (.ref C)) ⟨h,g,d,t+1,os⟩) :
  aJ (model prog w) A (getAttr? (.ref e) "__class__") Q E ⟨h,g,d,t,os⟩:=by
 unfold getAttr? getAttrBy?
 repeat (any_goals (first | assumption | with_reducible apply IC X he hc hm hb hf hg ha | wp_step))
noncomputable def zD (K:Frag) (C:Addr):Bool:=(clsIn K C).isSome&&mroIn K C (.type "object") == some true&&mroIn K C (.type "BaseException") == some true&&findIn K (.ref C) "__class__" == some (some (.builtin "object.__class__")) &&
 findIn K (.ref C) "__getattribute__" == some (some (.builtin "BaseException.__getattribute__"))&&findIn K (.ref C) "__getattr__" == some none
theorem y7 (hB:zD K C=true):KitX K (.ref e) (.ref C) (fun h => ∃ oe,h.get? e=some oe/\oe.cls = .ref C):=by
 unfold zD at hB
 simp only [ax,beq_iff_eq] at hB
 obtain⟨⟨⟨⟨⟨h0,h1⟩,h2⟩,h3⟩,h4⟩,h5⟩:=hB
 obtain⟨cd,hcd⟩:=cb.mp h0
 unfold clsIn at hcd
 split at hcd
 rotate_left
 ·cases hcd
 rename_i c' d' cd' sl' ho
 refine⟨fun M h X p => ?_,fun M h X p => ?_,fun h tp dd its n sl X htp => ?_,fun {prog w A E Q s} X p k => ?_⟩
 ·obtain⟨oe,e1,e2⟩:=p
  exact e2▸(Looks.ld e1).andThen .now
 ·intro A' Q' E' s' k q
  unfold isType loadHead
  exact aj (wpAny_loadPart (k _ _ (X _ _ ho)) (bc q))
 ·refine Bool.eq_false_iff.mpr fun q => ?_
  have z:C=tp:=Value.ref.inj (beq_iff_eq.mp q)
  subst z
  have:=(X _ _ ho).symm.trans htp
  cases this
 ·obtain⟨oe,e1,e2⟩:=p
  obtain⟨h,g,d,t,os⟩:=s
  exact Bp X e1 e2 h1 h2 h3 h4 h5 k
end
end G
end
section
namespace G
open PySem PySem.Spec L2
open PySem.W (envX kla_fn kla_obj CodeHd tabObj)
open PyProof.Rows hiding St
section
variable {X:Cx}{pins:List (Addr×Obj)}{σ:St}{H H':Hp}{s s':Shared}
theorem Aa {M:Model}{A:Around}{E:Value->Shared->Prop}{j:Nat}{n:Str}{pos:Pos}{Q:Unit->Shared->Prop} (I:Inv X pins σ H s) (hN:X.N.Nodup) (hj:X.N[j]? = some n) (hn:X.env.scope.names.lookup n=some .local)
  (h : ∀ s',Inv X pins (σ.set j none) H s'->Q () s'):aJ M A (do bindName X.env n .none;unbindBehindTheSuite X.env n pos) Q E s:=by
 obtain⟨m,hm,hl⟩:=id I.loc
 have hcls:(X.env.scope.kind == .class||(X.env.scope.kind == .module&&X.env.locals != X.env.globals))=false:=by rw [I.ok.kind];rfl
 refine wpAny_nameGoes_keeps hn hm hcls fun h' v hn' hs=>h _ ?_
 obtain⟨oL,_,_,hoL,_⟩:=id hm
 have below : ∀ b o,X.s₀.heap.get? b=some o->b≠X.env.locals:=fun b o e=>bg (ah (aD e) I.ok.above)
 refine⟨I.ok,I.os,I.bare,⟨fun b o e n hb hx=>(hs.2 b (below b o e)).trans (I.base.keep b o e n hb hx),fun b o e n hb hx => ?_,I.base.free,fun b o e hx => ?_,I.base.tups,I.base.frzs,I.base.tbls⟩,⟨_,hn',fun i y w e1 e2 e3 => ?_⟩,fun y c e => ?_,I.free,I.freeC,fun p hp => ?_,fun b ob e => ?_,by simpa using I.len⟩
 ·obtain⟨sl,e1⟩:=I.base.slot b o e n hb hx
  exact⟨sl,(hs.2 b (below b o e)).trans e1⟩
 ·obtain⟨o',e1⟩:=I.base.there b o e hx
  exact⟨o',(hs.2 b (below b o e)).trans e1⟩
 ·by_cases hi:i=j
  ·rw [hi] at e2
   rw [List.getElem?_set] at e2
   simp only [if_true] at e2
   split at e2 <;> cases e2
  ·rw [aB (df hi)] at e2
   obtain⟨u',r',q⟩:=hl i y w e1 e2 e3
   refine⟨u',r',?_⟩
   rcases q with⟨k,e⟩ | ⟨k,c,e,z⟩
   ·refine .inl ⟨k,?_⟩
    have hne:y≠n:=fun e=>hi (o5 hN e1 (e▸hj))
    simp [hne,e]
   ·exact .inr ⟨k,c,e,z.sameBut hs (I.cne y c e)⟩
 ·obtain⟨w',z⟩:=I.cell y c e
  exact⟨w',z.sameBut hs (I.cne y c e)⟩
 ·obtain⟨e,n,ne,nf,d⟩:=I.pin p hp
  exact⟨(hs.2 p.1 ne).trans e,n,ne,nf,d⟩
 ·refine (I.hok b ob e).stay (fun c w' hc q=>(hs.2 c ?_).trans q) (fun _ q=>q) fun _ _ q=>q
  rintro rfl
  rcases hc with rfl | hc
  ·rw [I.free] at e;cases e
  ·rw [I.free] at hc;cases hc
abbrev Cx.mkd (X:Cx) (e:Value):Cx:={ X with A:=X.A.mark (some e),calm:=false,xe:=fun _ _=>False }
theorem Inv.mkd {e:Value} (I:Inv X pins σ H s):Inv (Cx.mkd X e) pins σ H s:=
 ⟨⟨I.ok.mod,I.ok.kind,I.ok.glob,I.ok.blt,I.ok.above,I.ok.inj,I.ok.has,I.ok.cab,(fun z=>nomatch z),I.ok.frames,I.ok.stk,I.ok.exf,I.ok.bs,I.ok.bsz,I.ok.noex,I.ok.exfs,I.ok.funs,I.ok.frf⟩,I.os,I.bare,I.base,I.loc,I.cell,I.free,I.freeC,I.pin,I.hok,I.len⟩
theorem Inv.unmkd {e:Value} (I:Inv (Cx.mkd X e) pins σ H s) (hd:X.calm=true->X.A.handled=none):Inv X pins σ H s:=
 ⟨⟨I.ok.mod,I.ok.kind,I.ok.glob,I.ok.blt,I.ok.above,I.ok.inj,I.ok.has,I.ok.cab,hd,I.ok.frames,I.ok.stk,I.ok.exf,I.ok.bs,I.ok.bsz,I.ok.noex,I.ok.exfs,I.ok.funs,I.ok.frf⟩,I.os,I.bare,I.base,I.loc,I.cell,I.free,I.freeC,I.pin,I.hok,I.len⟩
theorem HOk.frz {P:Program}{w:World}{h:Heap}{a:Addr}{o:Obj} (x:HOk P w H h) (n:H a=none) (e:h.get? a=some o):HOk P w (upd H a (.frz o fz)) h:=fun b u q=>by
 by_cases hb:b=a
 ·subst hb
  rw [cq] at q;cases q
  exact⟨e,trivial,⟨_,e⟩,fun _ _ _ _=>trivial⟩
 ·rw [aV hb] at q
  exact (x b u q).stay (fun _ _ _ z=>z) (fun c z=>by rw [aV (aS z n)];exact z) fun c xs z=>by rw [aV (aS z n)];exact z
theorem Un.frz {fs:List Addr}{h h':Heap}{a:Addr}{o:Obj} (u:Un fs [] H H' h h') (hn:h.get? a=none) (n:H' a=none):Un fs [] H (upd H' a (.frz o fz)) h h' where
 keep:=u.keep
 slot:=u.slot
 free:=fun b o q m hx=>by rw [aV (fun z=>by rw [z,hn] at q;cases q)];exact u.free b o q m hx
 there:=u.there
 tups:=fun b xs q=>by have:=u.tups b xs q;rw [aV (aS this n)];exact this
 frzs:=fun b ob xs q=>by have:=u.frzs b ob xs q;rw [aV (aS this n)];exact this
 tbls:=fun b ps q=>by obtain⟨m,e⟩:=u.tbls b ps q;exact⟨m,by rw [aV (aS e n)];exact e⟩
end
end G
end
section
namespace G
open PySem PySem.Spec L2
open PyProof.Rows hiding St
section
variable {X:Cx}{pins:List (Addr×Obj)}{σ:St}{H H':Hp}{s s':Shared}
theorem HR.frz {K:KX}{μ:List Addr}{S:Sto}{a:Addr}{o:Obj} (h:HR K μ S H) (n:H a=none):bh H (upd H a (.frz o fz))/\HR K μ S (upd H a (.frz o fz)):=by
 have kp:bh H (upd H a (.frz o fz)):=bh.new n
 refine⟨kp,h.len,h.inj,fun m c x q1 q2=>(h.cell m c x q1 q2).mono kp (Pre.refl _) (fun hc => ?_) fun o' u e=>by rw [aV (aS e n)];exact e,h.ext.upd kp (Pre.refl _) fun o' q=>by rw [n] at q;cases q⟩
 obtain⟨ob,e,_⟩:=(h.cell m c x q1 q2).has hc
 exact aV (aS e n)
theorem Di {E:Value->Shared->Prop}{Q:Value->Shared->Prop}{i:Nat}{x:Str}{g:Addr}{fd:FuncData}{p1 pos:Pos} (I:Inv X pins σ H s) (hN:X.N[i]? = some x) (hv:Vis X.env.scope x) (hp:bH x=true) (hσ:σ[i]? = some (some (.ref g)))
  (hf:(∃ (oc:Value) (od:Option Addr) (sl:Array (Option Value)),X.base.get? g=some ⟨oc,od,.func fd,sl⟩)\/bN X.K (.ref g)=true)
  (h : ∀ s1,Inv X pins σ H s1->aJ (model X.prog X.w) X.A (call (.ref g) []) Q E s1):aJ (model X.prog X.w) X.A (eval (.Call (.Name x p1) [] [] pos) X.env) Q E s:=by
 obtain⟨n1,n2⟩:=b9 hp
 refine dP (thn (rX (X:=X.wish E) hN hv n1 n2 pins s σ H (fun v H1=>v = .ref g/\H1=H) (I.wish E) ⟨_,hσ,rfl,rfl⟩) fun w s1 ⟨v,H1,I1,r1,e1,e2⟩ => ?_)
 subst e1;subst e2
 obtain rfl:w=bj g:=r1
 have I1:=I1.unwish
 rcases hf with⟨oc,od,sl,hf⟩ | hf
 ·exact PySem.W.callWith_of (P:=fun h=>h.get? g=some ⟨oc,od,.func fd,sl⟩) rfl (fun h q=>⟨.frame,.inl rfl,(wk (part:=none) q).andThen .now⟩) (evalArgs_nil3 ⟨I1.bk g _ hf,h s1 I1⟩)
 ·exact yW I1.kIn hf (h s1 I1)
end
noncomputable def Jx (cl:Nat->Addr) (K:KX) (i j l:Nat) (g:Addr) (φ:MF) (ψ:RF):TS:=fun D σ H => ∃ μ S ρ,HR K μ S H/\ER H μ ρ σ/\ρ[i]? = some (some (.obj g))/\ρ[j]? = some none /\
 ((∃ u S1,φ [] S=some (u,S1) /\ ∀ μ' σ' H',Pre μ μ'->bh H H'->HR K μ' S1 H'->ER H' μ' ρ σ'->D.nx σ' H') \/
  ∃ q S1,ψ [] S=some (q,S1) /\ ∀ e oe μ' σ' H',Pre μ μ'->bh H H'->HR K μ' S1 H'->ER H' μ' (ρ.set l (some (.obj e))) σ'->H' e=some (.frz oe fz)->oe.cls = .ref (cl q)->D.nx σ' H')
section
variable {M:Mo}{X:Cx}{k:Nat}{N:List Str}{ns:List (Str×NameKind)}{x n y W:Str}{p1 p2 p3 p4 p5 p6 p7 p8 p9:Pos}
theorem E2 {cl:Nat->Addr}{φ:MF}{ψ:RF}{g w:Addr}{k' i j l:Nat} (S:Sc M X k N ns) (stk:X.stack=X.env::X.outer) (fr:X.env.frame=some X.env.locals) (F:Lam M g k' [] φ) (F':tq M cl g k' [] ψ) (hk:k'<=k)
  (hi:N[i]? = some x) (hx:mY ns x=true) (hp:bH x=true) (hj:N[j]? = some n) (hn:ns.lookup n=some .local) (hnp:bH n=true) (hl:N[l]? = some y) (hy:ji ns y=true) (hjl:j≠l) (hW:dm ns W=true) (hWp:bH W=true) (hw:M.mg W=some (.ref w))
  (hm : ∀ S q S1,ψ [] S=some (q,S1)->sJ M.K (.ref (cl q)) (.ref w)=some true) :
  PS X (.Try [.Expr (.Call (.Name x p1) [] [] p2) p3] [.ExceptHandler (some (.Name W p4)) (some n) [.Assign [.Name y p5] (.Name n p6) p7] p8] [] [] p9) (Jx cl M.K i j l g φ ψ):=by
 intro pins s σ H D I h
 obtain⟨μ,S0,ρ,hr,er,hρ,hρj,h⟩:=h
 obtain⟨v,hσ,rv⟩:=er.get i _ hρ
 have hv':v = .ref g:=by simpa only [RU] using rv
 subst hv'
 have hiN:X.N[i]? = some x:=by rw [S.hN];exact hi
 refine wpAny_Try_except (wd (wpAny_Expr_any ?_ I.quiet rfl))
 rcases h with⟨u,S1,hφ,kk⟩ | ⟨q,S1,hψ,kk⟩
 ·obtain⟨fd,hf,hb,F⟩:=F.ex
  rw [<- S.hP,<- S.hw,<- S.hK,<- S.hm,<- S.hb] at F
  rw [<- S.hb,<- S.hK] at hf
  rw [<- S.hK] at hb
  refine Di I hiN (S.vis hx) hp hσ hf fun s1 I1 => ?_
  refine thn (bJ (vY (X:=X.nox) F (S.room.mono hk) hb .nil xl (I1.wish _) .nil (show spM M.K φ ([] ++ []) H (fun _ H'=>D.nx σ H') E0 from⟨μ,S0,[],u,S1,hr,.nil,hφ,fun μ' v H' p k hr' _=>kk μ' σ H' p k hr' (er.mono k p)⟩)) (fun _ _ z=>z) fun _ _ z=>z.elim) fun u s2 ⟨v,H2,I2,r2,q2⟩ => ?_
  exact gI (gI ⟨σ,H2,I2.unwish,q2⟩)
 ·obtain⟨fd,hf,hb,F'⟩:=F'.ex
  rw [<- S.hP,<- S.hw,<- S.hK,<- S.hm,<- S.hb] at F'
  rw [<- S.hb,<- S.hK] at hf
  rw [<- S.hK] at hb
  have hM:=hm _ _ _ hψ
  refine Di I hiN (S.vis hx) hp hσ hf fun s1 I1 => ?_
  have hsp:spX cl M.K ψ [] H (fun _ _=>False) (fun c _ H'=>c = .ref (cl q) /\ ∃ μ',Pre μ μ'/\bh H H'/\HR M.K μ' S1 H'):=⟨μ,S0,[],q,S1,hr,.nil,hψ,fun μ' H' p k hr'=>⟨rfl,μ',p,k,hr'⟩⟩
  refine wpAny_call (jF (F'.run X.A X.stack s1 H ⟨[],[]⟩ [] [] (fun _ _=>False) _ (S.room.mono hk) I1.env0 (hb s1 [] I1.kIn (by have:=F'.len _ _ _ _ hsp;simpa using this)) .nil hsp) fun r s2 hq => ?_)
  cases r with
  | ok fl=>
    cases fl with
    | ret u=>obtain⟨_,_,_,_,_,_,_,z⟩:=hq;exact z.elim
    | next=>exact bM hq
    | brk=>exact bM hq
    | cont=>exact bM hq
  | error ev=>
    obtain⟨e,T,cls,H',rfl,os,hg,un,hok,t,he,hT,ne,nT,rfl,μ',pr,kp,hr'⟩:=hq
    have I2:Inv X pins σ H' s2:=I1.call' os un hok hg fun b z=>nomatch z
    have fS:X.A.frames=some (X.env::X.outer):=by rw [I.ok.frames,stk]
    obtain⟨a0,fl⟩:=flying I2 t
    rw [show lu (bL s2.heap (e::T::frs X.stack)) X.stack e (.ref (cl q)) a0 s2.heap=lu (bL s2.heap (e::T::frs X.stack)) (X.env::X.outer) e (.ref (cl q)) a0 s2.heap by rw [<- stk]] at fl
    refine wpAny_looks_onW fS fr fl fun h3 hd3 sl3=>wpAny_landsW hd3 fun h4 fl4 sl4 => ?_
    have sl04:=sl3.trans sl4
    have lf4:=rK I2 fl4.1 sl04
    have I4:Inv X pins σ H' { s2 with heap:=h4 }:=I1.call' (s':={ s2 with heap:=h4 }) os (lf4.un un he hT) (lf4.hok hok I2.stkFree ne nT) hg fun b z=>nomatch z
    refine wpAny_handleBy_cons (codeAny_handlers_test (iI (X:=Cx.mkd X (.ref e)) (Inv.mkd I4) (S.gl hW) (by show X.mg W=_;rw [S.hm];exact hw) ?_ (b9 hWp).1)) (by intro z;cases z)
    obtain⟨ob,hob,hobc⟩:=fl4.there
    have kin:M.K.K.In h4:=by have:=I4.kIn;rw [S.hK] at this;exact this
    refine (PySem.W.exm_one (M:=model X.prog X.w) kin (hobc▸(wk hob).andThen .now) hM).here ?_
    refine codeAny_handlers_suite_as (lands_againW (s:={ s2 with heap:=h4 }) fl4 fun h6 fl6 sl6 => ?_)
    have sl06:=sl04.trans sl6
    have lf6:=rK I2 fl6.1 sl06
    obtain⟨oe,e1,e2⟩:=fl6.there
    have I6:Inv X pins σ (upd H' e (.frz oe fz)) { s2 with heap:=h6 }:=I1.call' (s':={ s2 with heap:=h6 }) os (Un.frz (lf6.un un he hT) he ne) (HOk.frz (lf6.hok hok I2.stkFree ne nT) ne e1) hg fun b z=>nomatch z
    obtain⟨kp6,hr6⟩:=HR.frz (o:=oe) hr' ne
    have ndN:X.N.Nodup:=by rw [S.hN];exact S.nd
    have hjN:X.N[j]? = some n:=by rw [S.hN];exact hj
    have hlN:X.N[l]? = some y:=by rw [S.hN];exact hl
    have hnl:=S.loc n hn
    refine kh I6 ndN hjN (.inl hnl) (v := .ref e) rfl (fun s7 I7 => ?_) (.inr hnl)
    have hjl':j < σ.length:=by rw [I.len];exact (af.mp hjN).1
    have ps:=wQ (vU (X:=Cx.mkd X (.ref e)) (i:=l) (pos:=p7) (pos':=p5) ndN hlN (S.lo hy).1 (rX (X:=Cx.mkd X (.ref e)) (i:=j) (pos:=p6) hjN (.inl hnl) (b9 hnp).1 (b9 hnp).2) rfl (S.lo hy).2)
    refine bJ (ps pins s7 _ _ { nx:=fun σ' H''=>σ'=(σ.set j (some (.ref e))).set l (some (.ref e))/\H''=upd H' e (.frz oe fz),rt:=fun _ _=>False } (Inv.mkd I7) ⟨.ref e,aN hjl',rfl,rfl⟩) (fun f s8 hs => ?_) fun _ _ z=>z.elim
    cases f with
    | ret u=>obtain⟨_,_,_,_,_,z⟩:=hs;exact z.elim
    | brk=>obtain⟨_,_,_,z⟩:=hs;exact z.elim
    | cont=>obtain⟨_,_,_,z⟩:=hs;exact z.elim
    | next=>
      obtain⟨σ',H'',I8,rfl,rfl⟩:=hs
      have I8':Inv X pins _ _ s8:=Inv.unmkd I8 I.ok.hd
      refine Aa I8' ndN hjN hnl fun s9 I9=>⟨_,_,I9,?_⟩
      refine kk e oe μ' _ _ pr (kp.trans kp6) hr6 ⟨by simp [er.len],fun m u hu => ?_⟩ cq e2
      have er6:=er.mono (kp.trans kp6) pr
      have hll:l < σ.length:=by rw [I.len];exact (af.mp hlN).1
      by_cases hml:m=l
      ·subst hml
       rw [aN (by rw [er.len];exact hll)] at hu
       cases hu
       refine⟨.ref e,?_,by simp only [RU]⟩
       rw [aB hjl,aN (by simpa using hll)]
      ·rw [aB (df hml)] at hu
       have hmj:m≠j:=fun z=>by rw [z,hρj] at hu;cases hu
       obtain⟨v,h1,h2⟩:=er6.get m u hu
       refine⟨v,?_,h2⟩
       rw [aB (df hmj),aB (df hml),aB (df hmj)]
       exact h1
end
end G
end
section
namespace G
open PySem PySem.Spec L2
open PyProof.Rows hiding St
noncomputable def cn:List Str := ["TooMany","NotLevel","NoLift","NotPlain","NoName","BadNote","NoTwist"]
structure sU (K:ai) (mg:Str->Option Value) (cl:Nat->Addr) (w:Addr) (rz:List Nat):Prop where
 c : ∀ j t,cn[j]? = some t->mg t=some (.ref (cl j))
 W:mg "WalkError"=some (.ref w)
 V:mg "ValueError"=none
 n : ∀ j,j < 7->cg K (.type "NoneType") (.ref (cl j))=some false
 nV:cg K (.type "NoneType") (.type "ValueError")=some false
 lt : ∀ q∈rz,q < 7
 x : ∀ q∈rz,zD K (cl q)=true
 m : ∀ q∈rz,sJ K (.ref (cl q)) (.ref w)=some true
 k : ∀ q∈rz,∀ j,j < 7->cg K (.ref (cl q)) (.ref (cl j))=some (decide (q=j))
 kV : ∀ q∈rz,cg K (.ref (cl q)) (.type "ValueError")=some true
section
noncomputable def mIs (u:U) (b:Bool):ME:=fun ρ S=>open Classical in if ρ[1]? = some (some u) then some (.bl b,S) else none
end
noncomputable def PP (L a b c:Nat):Pos:=⟨L+a,b,L+a,c⟩
noncomputable def isi (L a b:Nat) (t:Str) (n:Nat):Expr := .Call (.Name "isinstance" (PP L a b (b+10))) [.Name "error" (PP L a (b+11) (b+16)),.Name t (PP L a (b+18) (b+18+n))] [] (PP L a b (b+19+n))
noncomputable def vQ (K:KX) (u:U) (t:Value):Prop:=(u = .non/\t = .type "NoneType") \/ ∃ e oe C,u = .obj e/\t = .ref C/\(e,oe)∈K.cds/\oe.cls = .ref C/\zD K.K C=true
section
variable {M:Mo}{X:Cx}{k:Nat}{N:List Str}{ns:List (Str×NameKind)}
theorem EB {pins:List (Addr×Obj)}{σ:St}{H:Hp}{s:Shared}{E:Value->Shared->Prop}{u:U}{t c:Value}{b:Bool}{v:V}{x:Value}{Q:VK}{μ:List Addr}{S:Sto} (I:Inv X pins σ H s) (hK:X.K=M.K.K) (hr:HR M.K μ S H) (ok:vQ M.K u t) (ru:RU H μ u v) (rv:RelV v x) (e:cg M.K t c=some b) (q:Q (.bl b) H) :
  aJ (model X.prog X.w) X.A (call (.builtin "isinstance") [x,c]) (EP X pins σ Q) E s:=by
 have kin:M.K.K.In s.heap:=by rw [<- hK];exact I.kIn
 rcases ok with⟨rfl,rfl⟩ | ⟨ea,oe,C,rfl,rfl,hm,hc,hB⟩
 ·have hv:v = .non:=by simpa only [RU] using ru
  subst hv
  obtain rfl:x=fk:=rv
  exact PySem.W.kia_one PySem.W.kitx_none kin trivial e (by intro z;cases z) fun tk=>⟨.bl b,H,I.tok tk,rfl,q⟩
 ·have hv:v = .ref ea:=by simpa only [RU] using ru
  subst hv
  obtain rfl:x=bj ea:=rv
  exact PySem.W.kia_one (y7 hB) kin ⟨oe,(I.hok ea _ (hr.ext.cds _ hm)).1,hc⟩ e (by intro z;cases z) fun tk=>⟨.bl b,H,I.tok tk,rfl,q⟩
theorem Dz {u:U}{t c:Value}{b:Bool}{L a bb n:Nat}{y:Str} (S:Sc M X k N ns) (ok:vQ M.K u t) (h1:N[1]? = some ("error":Str)) (hv:mY ns "error"=true) (hg:dm ns "isinstance"=true) (hm:M.mg "isinstance"=none) (hy:dm ns y=true) (hp:bH y=true)
  (hc:M.mg y=some c\/(M.mg y=none/\bootBuiltins y=some c/\y≠"__name__")) (e:cg M.K t c=some b):PE X (isi L a bb y n) (tM M.K (mIs u b)):=by
 rintro pins s σ H Q I ⟨μ,S0,ρ,w,S',hr,er,q,aft⟩
 unfold mIs at q
 split at q
 rotate_left
 ·cases q
 rename_i hρ
 cases q
 obtain⟨v,hσ,ru⟩:=er.get 1 _ hρ
 have h1N:X.N[1]? = some ("error":Str):=by rw [S.hN];exact h1
 unfold isi
 refine dP (iP I (S.gl hg) (by rw [S.hm];exact hm) boot_isinstance ?_ (by decide) (by decide))
 refine callWith_builtin1 ?_ rfl rfl
 refine ek (thn (rX (X:=X) h1N (S.vis hv) (by decide +kernel) (by decide +kernel) pins s σ H (fun v' H1=>v'=v/\H1=H) I ⟨_,hσ,rfl,rfl⟩) fun x s1 ⟨v',H1,I1,r1,e1,e2⟩ => ?_)
 subst e1;subst e2
 have fin:aJ (model X.prog X.w) X.A (call (.builtin "isinstance") [x,c]) (EP X pins σ Q) X.xe s1:=EB I1 S.hK hr ok ru r1 e (aft μ _ H1 (Pre.refl _) (bh.refl _) hr jb)
 rcases hc with hc | ⟨hc,hb,hn⟩
 ·exact ek (iI I1 (S.gl hy) (by rw [S.hm];exact hc) (gH fin) (b9 hp).1)
 ·exact ek (iP I1 (S.gl hy) (by rw [S.hm];exact hc) hb (gH fin) hn (b9 hp).1)
end
end G
namespace G
open PySem PySem.Spec L2
open PyProof.Rows hiding St
noncomputable def kr (L:Nat) (z:Stmt):List Stmt := [
 .Assign [.Name "error" (PP L 1 4 9)] (.Constant .none 0 (PP L 1 12 16)) (PP L 1 4 16),
 .Try [.Expr (.Call (.Name "call" (PP L 3 8 12)) [] [] (PP L 3 8 14)) (PP L 3 8 14)] [.ExceptHandler (some (.Name "WalkError" (PP L 4 11 20))) (some "e") [.Assign [.Name "error" (PP L 5 8 13)] (.Name "e" (PP L 5 16 17)) (PP L 5 8 17)] ⟨L+4,4,L+5,17⟩] [] [] ⟨L+2,4,L+5,17⟩,
 .Assign [.Name "kinds" (PP L 6 4 9)] (.List [isi L 6 13 "TooMany" 7,isi L 6 41 "NotLevel" 8,isi L 6 70 "NoLift" 6] (PP L 6 12 96)) (PP L 6 4 96),
 .Assign [.Name "kinds" (PP L 7 4 9)] (.BinOp (.Name "kinds" (PP L 7 12 17)) .Add (.List [isi L 7 21 "NotPlain" 8,isi L 7 50 "NoName" 6,isi L 7 77 "BadNote" 7] (PP L 7 20 104)) (PP L 7 12 104)) (PP L 7 4 104),
 .Expr (.Call (.Attribute (.Name "kinds" (PP L 8 4 9)) "append" (PP L 8 4 16)) [isi L 8 17 "NoTwist" 7] [] (PP L 8 4 44)) (PP L 8 4 44),
 .If (.UnaryOp .Not (isi L 9 11 "ValueError" 10) (PP L 9 7 40)) [.Return (some (.Constant .none 0 (PP L 10 15 19))) (PP L 10 8 19)] [] ⟨L+9,4,L+10,19⟩,
 z]
section
noncomputable def mzR:MS:=cW (cw (iR1 (aa (mC (.int 7)) ag)) (cOf (m2 oIx (ae 3) (ae 4))) (ae 4))
noncomputable def tlR (u:U) (b:Nat->Bool):MS:=
 aZ (br 3 (cf (aa (mIs u (b 0)) (aa (mIs u (b 1)) (aa (mIs u (b 2)) ag)))))
 (aZ (br 3 (m2 bV (ae 3) (cf (aa (mIs u (b 3)) (aa (mIs u (b 4)) (aa (mIs u (b 5)) ag))))))
 (aZ (dy (mML cm (ae 3) (aa (mIs u (b 6)) ag)))
 (aZ (sIf (km (cOf (mIs u (b 7)))) (cW (mC .non)) cD) mzR)))
noncomputable def qV (ns:NS):Bool:=ji ns "error"&&ji ns "kinds"&&mY ns "call"&&ns.lookup ("e":Str) == some .local&&dm ns "isinstance"&&dm ns "ValueError"&&dm ns "WalkError"&&cn.all (dm ns)
noncomputable def nL:List Str := ["call","error","e","kinds"]
end
theorem sj {ns:NS}{x:Str} (h:ji ns x=true):mY ns x=true:=by
 unfold ji at h
 unfold mY
 split at h <;> rename_i e <;> first | (cases h;done) | rw [e]
section
variable {M:Mo}{X:Cx}{k:Nat}{ns:List (Str×NameKind)}
theorem xm {u:U}{t:Value}{b:Nat->Bool}{c:Nat->Value}{L:Nat}{z:Stmt}{cl:Nat->Addr}{w:Addr}{rz:List Nat} (S:Sc M X k nL ns) (hns:qV ns=true) (B : ∀ x∈hJ,M.mg x=none) (Rk:sU M.K.K M.mg cl w rz) (ok:vQ M.K u t) (hb : ∀ j,j < 7->cg M.K t (.ref (cl j))=some (b j)) (hV:cg M.K t (.type "ValueError")=some (b 7))
  (hz:PS X z (tMS M.K mzR)):PSs X ((kr L z).drop 2) (tMS M.K (tlR u b)):=by
 unfold qV at hns
 simp only [ax,bA] at hns
 obtain⟨⟨⟨⟨⟨⟨⟨h1,h2⟩,h3⟩,h4⟩,h5⟩,h6⟩,h7⟩,h8⟩:=hns
 have hiB:M.mg "isinstance"=none:=B _ (by decide +kernel)
 have is : ∀ (j a bb n:Nat) (y:Str),cn[j]? = some y->PE X (isi L a bb y n) (tM M.K (mIs u (b j))):=fun j a bb n y hj=>by
  have hlt:j < 7:=(af.mp hj).1
  have hm:y∈cn:=cj hj
  have hp:bH y=true:=by
   have : ∀ y∈cn,bH y=true:=by decide +kernel
   exact this y hm
  exact Dz S ok rfl (sj h1) h5 hiB (h8 y hm) hp (.inl (Rk.c j y hj)) (hb j hlt)
 have kv : ∀ pos,PE X (.Name "kinds" pos) (tM M.K (ae 3)):=fun pos=>Dn S 3 rfl (sj h2) (by decide +kernel) (by decide +kernel)
 refine tF (tD S 3 rfl h2 (zo (j6 (is 0 _ _ _ _ rfl) (j6 (is 1 _ _ _ _ rfl) (j6 (is 2 _ _ _ _ rfl) wD))))) ?_
 refine tF (tD S 3 rfl h2 (CT S (kv _) (zo (j6 (is 3 _ _ _ _ rfl) (j6 (is 4 _ _ _ _ rfl) (j6 (is 5 _ _ _ _ rfl) wD)))))) ?_
 refine tF (Aj (tO S (kv _) (j6 (is 6 _ _ _ _ rfl) wD) rfl rfl (by show ((L+8) == (L+8))=true;simp) rfl rfl)) ?_
 refine tF (Ho (Df (CZ (Dz S ok rfl (sj h1) h5 hiB h6 (by decide +kernel) (.inr ⟨Rk.V,by decide +kernel,by decide +kernel⟩) hV))) (AY (Dr zG)) CV) (AY hz)
end
end G
end
section
namespace G
open PySem PySem.Spec L2
open PyProof.Rows hiding St
theorem vt {u:U}{b:Bool}{ρ:Rho}{S:Sto} (h:ρ[1]? = some (some u)):mIs u b ρ S=some (.bl b,S):=by
 unfold mIs
 rw [if_pos h]
theorem wq {u:U}{b:Nat->Bool}{x y:Option U}{S:Sto}:tlR u b [x,some u,y,none] S =
  (aZ (sIf (km (cOf (mIs u (b 7)))) (cW (mC .non)) cD) mzR) [x,some u,y,some (.ref (S.length+2))] (S++fO b):=by
 have i0 : ∀ (v:Option U) (c:Bool) (S:Sto),mIs u c [x,some u,y,v] S=some (.bl c,S):=fun v c S=>vt rfl
 have e1:br 3 (cf (aa (mIs u (b 0)) (aa (mIs u (b 1)) (aa (mIs u (b 2)) ag)))) [x,some u,y,none] S=some (.nx,[x,some u,y,some (.ref S.length)],S ++ [kL b [0,1,2]]):=by
  simp only [br,cf,aa,ag,i0,aE]
  rw [if_pos (by simp [big])]
  rfl
 have g1:(S ++ [kL b [0,1,2],kL b [3,4,5]])[S.length]? = some (kL b [0,1,2]):=by simp
 have g2:(S ++ [kL b [0,1,2],kL b [3,4,5]])[S.length+1]? = some (kL b [3,4,5]):=by rw [aq (by omega)];simp
 have e2:br 3 (m2 bV (ae 3) (cf (aa (mIs u (b 3)) (aa (mIs u (b 4)) (aa (mIs u (b 5)) ag))))) [x,some u,y,some (.ref S.length)] (S ++ [kL b [0,1,2]])=some (.nx,[x,some u,y,some (.ref (S.length+2))],S ++ [kL b [0,1,2],kL b [3,4,5],kL b [0,1,2,3,4,5]]):=by
  have a0:cf (aa (mIs u (b 3)) (aa (mIs u (b 4)) (aa (mIs u (b 5)) ag))) [x,some u,y,some (.ref S.length)] (S ++ [kL b [0,1,2]])=some (.ref (S.length+1),S ++ [kL b [0,1,2],kL b [3,4,5]]):=by
   simp only [cf,aa,ag,i0,aE]
   rw [if_pos (by simp [big])]
   simp [kL]
  have v0 : ∀ S',ae 3 [x,some u,y,some (.ref S.length)] S'=some (.ref S.length,S'):=fun S'=>rfl
  have a1:bV (.ref S.length) (.ref (S.length+1)) (S ++ [kL b [0,1,2],kL b [3,4,5]])=some (.ref (S.length+2),S ++ [kL b [0,1,2],kL b [3,4,5],kL b [0,1,2,3,4,5]]):=by
   unfold bV
   simp only [g1,g2]
   simp only [kL]
   rw [if_pos (by simp [big])]
   simp
  simp only [br,m2,v0,aE,a0,a1]
  rfl
 have g3:(S ++ [kL b [0,1,2],kL b [3,4,5],kL b [0,1,2,3,4,5]])[S.length+2]? = some (kL b [0,1,2,3,4,5]):=by rw [aq (by omega)];simp
 have e3:dy (mML cm (ae 3) (aa (mIs u (b 6)) ag)) [x,some u,y,some (.ref (S.length+2))] (S ++ [kL b [0,1,2],kL b [3,4,5],kL b [0,1,2,3,4,5]])=some (.nx,[x,some u,y,some (.ref (S.length+2))],S++fO b):=by
  have v0 : ∀ S',ae 3 [x,some u,y,some (.ref (S.length+2))] S'=some (.ref (S.length+2),S'):=fun S'=>rfl
  have gl:getL (S ++ [kL b [0,1,2],kL b [3,4,5],kL b [0,1,2,3,4,5]]) (S.length+2)=some ([0,1,2,3,4,5].map fun i => .bl (b i)):=by
   unfold getL
   rw [g3]
   rfl
  have a1:cm (S.length+2) [.bl (b 6)] (S ++ [kL b [0,1,2],kL b [3,4,5],kL b [0,1,2,3,4,5]])=some (.non,S++fO b):=by
   unfold cm
   simp only [g3]
   simp only [kL]
   rw [if_pos (by simp [big])]
   rw [lV _ _ (by omega)]
   have:S.length+2 - S.length=2:=by omega
   rw [this]
   rfl
  simp only [dy,mML,v0,aE,gl,ao,aa,ag,i0,a1]
 unfold tlR
 rw [show ∀ (a b:MS) (ρ:Rho) (S:Sto),aZ a b ρ S=(match a ρ S with | some (.nx,ρ1,S1)=>b ρ1 S1 | r=>r) from fun _ _ _ _=>rfl,e1]
 simp only []
 rw [show ∀ (a b:MS) (ρ:Rho) (S:Sto),aZ a b ρ S=(match a ρ S with | some (.nx,ρ1,S1)=>b ρ1 S1 | r=>r) from fun _ _ _ _=>rfl,e2]
 simp only []
 rw [show ∀ (a b:MS) (ρ:Rho) (S:Sto),aZ a b ρ S=(match a ρ S with | some (.nx,ρ1,S1)=>b ρ1 S1 | r=>r) from fun _ _ _ _=>rfl,e3]
theorem Bw {x y:Option U}{S:Sto}{u:U}{b:Nat->Bool} (hb:b 7=false):tlR u b [x,some u,y,none] S=some (.rt .non,[x,some u,y,some (.ref (S.length+2))],S++fO b):=by
 rw [wq]
 simp only [aZ,sIf,km,cOf,vt (show ([x,some u,y,some (.ref (S.length+2))]:Rho)[1]? = some (some u) from rfl),aE,hb]
 rfl
theorem JV:okR 7:=by unfold okR;omega
theorem BY {x y:Option U}{S:Sto}{u:U}{q:Nat} (hq:q < 7) : ∃ ρ',tlR u (bQ q) [x,some u,y,none] S=some (.rt (.ref (S.length+3)),ρ',S++(fO (bQ q) ++ [.lst [.int q]])):=by
 rw [wq]
 have h7:bQ q 7=true:=by unfold bQ;simp
 simp only [aZ,sIf,km,cOf,vt (show ([x,some u,y,some (.ref (S.length+2))]:Rho)[1]? = some (some u) from rfl),aE,h7,Bool.not_true,dj,if_false,cD]
 refine⟨[x,some u,y,some (.ref (S.length+2))],?_⟩
 unfold mzR cW cw
 have hi:iR1 (aa (mC (.int 7)) ag) [x,some u,y,some (.ref (S.length+2))] (S++fO (bQ q))=some (.imm (aU 0 7),S++fO (bQ q)):=by
  simp only [iR1,aa,mC,ag,aE]
  rw [if_pos JV]
  rfl
 have g3:(S++fO (bQ q))[S.length+2]? = some (kL (bQ q) [0,1,2,3,4,5,6]):=by rw [aq (by omega)];simp [fO]
 have gi : ∀ i:Nat,i < 7->cOf (m2 oIx (ae 3) (ae 4)) [x,some u,y,some (.ref (S.length+2)),some (.int i)] (S++fO (bQ q))=some (bQ q i,S++fO (bQ q)):=fun i hi=>by
  have v3 : ∀ S',ae 3 [x,some u,y,some (.ref (S.length+2)),some (.int i)] S'=some (.ref (S.length+2),S'):=fun S'=>rfl
  have v4 : ∀ S',ae 4 [x,some u,y,some (.ref (S.length+2)),some (.int i)] S'=some (.int i,S'):=fun S'=>rfl
  have d0:fP (S++fO (bQ q)) (.ref (S.length+2))=none:=by
   simp only [fP,g3,kL]
  have s0:du (S++fO (bQ q)) (.ref (S.length+2))=some ([0,1,2,3,4,5,6].map fun i => .bl (bQ q i)):=by
   simp only [du,getL,g3,kL]
  have a0:L2.atI ([0,1,2,3,4,5,6].map fun i=>U.bl (bQ q i)) (i:Int)=some (.bl (bQ q i)):=by
   have:i=0\/i=1\/i=2\/i=3\/i=4\/i=5\/i=6:=by omega
   rcases this with rfl | rfl | rfl | rfl | rfl | rfl | rfl <;> rfl
  simp only [cOf,m2,v3,v4,aE,oIx,d0,s0,ao,a0,bx]
 have v4 : ∀ (i:Nat) S',ae 4 [x,some u,y,some (.ref (S.length+2)),some (.int i)] S'=some (.int i,S'):=fun i S'=>rfl
 have key : ∀ (is:List Nat) (acc:List U),(∀ i∈is,i < 7)->d7 (cOf (m2 oIx (ae 3) (ae 4))) (ae 4) [x,some u,y,some (.ref (S.length+2))] (is.map fun (i:Nat) => .int i) acc (S++fO (bQ q))=some (acc++(is.filter (bQ q)).map (fun (i:Nat) => .int i),S++fO (bQ q)):=by
  intro is
  induction is with
  | nil=>intro acc _;simp [d7]
  | cons i is ih=>
    intro acc h
    have hi:=h i aM
    have ih':=fun acc=>ih acc fun j hj=>h j (av _ hj)
    rw [bT]
    unfold d7
    rw [show ([x,some u,y,some (.ref (S.length+2))]:Rho) ++ [some (.int i)] = [x,some u,y,some (.ref (S.length+2)),some (.int i)] from rfl,gi i hi]
    simp only [aE]
    cases hb:bQ q i with
    | true=>
      rw [if_pos rfl,v4]
      simp only [aE]
      rw [ih']
      simp [hb]
    | false=>
      rw [if_neg (by simp),ih']
      simp [hb]
 have hr:aU 0 7=([0,1,2,3,4,5,6]:List Nat).map fun (i:Nat) => .int i:=rfl
 have hf:([0,1,2,3,4,5,6]:List Nat).filter (bQ q) = [q]:=by
  have:q=0\/q=1\/q=2\/q=3\/q=4\/q=5\/q=6:=by omega
  rcases this with rfl | rfl | rfl | rfl | rfl | rfl | rfl <;> decide
 have hc:wV (cOf (m2 oIx (ae 3) (ae 4))) (ae 4) [x,some u,y,some (.ref (S.length+2))] (.imm (aU 0 7)) (S++fO (bQ q))=some ([.int q],S++fO (bQ q)):=by
  unfold wV
  simp only [hr,key _ _ (show ∀ i∈([0,1,2,3,4,5,6]:List Nat),i < 7 by decide),hf]
  rfl
 simp only [hi,aE,hc]
 rw [if_pos (by simp [big])]
 simp [fO]
 rfl
end G
end
section
namespace G
open PySem PySem.Spec L2
open PyProof.Rows hiding St
section
variable {M:Mo}{cl:Nat->Addr}{T:Tb}{k fu L:Nat}{h:Heap}{x:Str}{st z:Stmt}{w:Addr}{rz:List Nat}
theorem Def.fnRef (O : ∀ caps capv cds base,fN M.mg base->TOk (M.to caps capv cds base) T k) (h1:T.mkr=false) (X:M.K.K.In h) (Gn:h.Ns mainGlobals M.mg) (D:Def M.K x st) (S:bC nL ["call"] (aw st)) (hb:Bd x st ["call"])
  (hns:qV (aw st).names=true) (hbody:aY st=kr L z) (hz:cS T fu nL (aw st).names z=some mzR) (Rk:sU M.K.K M.mg cl w rz):FnR M cl x k rz:=by
 obtain⟨f,fd,a,F⟩:=D.ex
 refine⟨f,fd,cz X Gn a,F.2,F.binds hb,fun caps capv cds base g j φ ψ hbb hkj lam lamx => ?_⟩
 have len : ∀ vs H Q E,spM (M.K.to caps capv cds) (yG rz g φ ψ) vs H Q E->vs.length=1:=fun vs H Q E hh=>by
  obtain⟨μ,S',us,u,S'',hr,rs,e,_⟩:=hh
  unfold yG at e
  split at e
  ·rw [<- rs.len];rfl
  ·cases e
 have lx:tq (M.to caps capv cds base) cl g j [] fun us S=>(ψ us S).filter fun r=>decide (r.1∈rz):=lamx.imp fun us S q hq=>(je.mp hq).1
 have hns':=hns
 unfold qV at hns'
 simp only [ax] at hns'
 obtain⟨⟨⟨⟨⟨⟨⟨n1,n2⟩,n3⟩,n4⟩,n5⟩,n6⟩,n7⟩,n8⟩:=hns'
 refine Fun.ok (K:=M.K.K) F S (fun vs H Q E hh=>len vs H Q E hh) fun cdv A outer s H vs Q E hr hh => ?_
 have S0 : ∀ cds',Sc (M.to caps capv cds' base) (o4 CX0 M.P M.w M.K M.mg base nL x (aw st) f cdv A outer s H E).nox j nL (aw st).names:=fun cds'=>Sc.def (M:=M.to caps capv cds' base) S hr fun c q z=>nomatch z
 have hzz : ∀ cds',PS (o4 CX0 M.P M.w M.K M.mg base nL x (aw st) f cdv A outer s H E).nox z (tMS (M.K.to caps capv cds') mzR):=fun cds'=>(snd fu (M.to caps capv cds' base) T j (.of ((O caps capv cds' base hbb).mono hkj) h1)).s _ _ _ _ hz _ (S0 cds')
 have B : ∀ y∈hJ,M.mg y=none:=fun y hy=>(O caps capv cds base hbb).B y hy
 have hf : ∀ j',j' < 7->cg M.K.K (.type "NoneType") (.ref (cl j'))=some ((fun _=>false) j'):=fun j' hj=>Rk.n j' hj
 have ptl:=xm (M:=M.to caps capv cds base) (L:=L) (z:=z) (c:=fun _ => .none) (S0 cds) hns B Rk (u := .non) (.inl ⟨rfl,rfl⟩) hf Rk.nV (hzz cds)
 have ptx : ∀ e oe q,q∈rz->oe.cls = .ref (cl q)->PSs (o4 CX0 M.P M.w M.K M.mg base nL x (aw st) f cdv A outer s H E).nox ((kr L z).drop 2) (tMS (M.K.to caps capv (cds ++ [(e,oe)])) (tlR (.obj e) (bQ q))):=fun e oe q hq hc=>by
  refine xm (M:=M.to caps capv (cds ++ [(e,oe)]) base) (L:=L) (z:=z) (c:=fun _ => .none) (S0 _) hns B Rk (.inr ⟨e,oe,cl q,rfl,rfl,aT _ aM,hc,Rk.x q hq⟩) (fun j' hj => ?_) ?_ (hzz _)
  ·rw [show bQ q j'=decide (q=j') by unfold bQ;rw [show decide (j'=7)=false from decide_eq_false (by omega)];simp]
   exact Rk.k q hq j' hj
  ·rw [show bQ q 7=true by unfold bQ;simp]
   exact Rk.kV q hq
 have pT:=E2 (M:=M.to caps capv cds base) (cl:=cl) (S0 cds) rfl rfl lam lx (ak j) (i:=0) (x:="call") (j:=2) (n:="e") (l:=1) (y:="error") (W:="WalkError") (w:=w) (p1:=PP L 3 8 12) (p2:=PP L 3 8 14) (p3:=PP L 3 8 14) (p4:=PP L 4 11 20) (p5:=PP L 5 8 13) (p6:=PP L 5 16 17) (p7:=PP L 5 8 17) (p8:=⟨L+4,4,L+5,17⟩) (p9:=⟨L+2,4,L+5,17⟩)
  rfl n3 (by decide +kernel) rfl (eq_of_beq n4) (by decide +kernel) rfl n1 (by decide) n7 (by decide +kernel) Rk.W fun S q S1 hq=>by
   obtain⟨_,h2⟩:=je.mp hq
   exact Rk.m q (of_decide_eq_true h2)
 have pS:=tD (M:=M.to caps capv cds base) (p1:=PP L 1 4 9) (pos:=PP L 1 4 16) (S0 cds) 1 rfl n1 (zG (M:=M.to caps capv cds base) (j:=0) (pos:=PP L 1 12 16)) rfl
 let tT:TS:=fun D σ H=>tMS (M.K.to caps capv cds) (tlR .non fun _=>false) D σ H \/ ∃ e oe q,q∈rz/\oe.cls = .ref (cl q)/\tMS (M.K.to caps capv (cds ++ [(e,oe)])) (tlR (.obj e) (bQ q)) D σ H
 have pTl:PSs (o4 CX0 M.P M.w M.K M.mg base nL x (aw st) f cdv A outer s H E).nox ((kr L z).drop 2) tT:=fun pins s σ H D I q=>by
  rcases q with q | ⟨e,oe,q',hq,hc,q⟩
  ·exact ptl pins s σ H D I q
  ·exact ptx e oe q' hq hc pins s σ H D I q
 rw [hbody]
 refine⟨_,jU pS (jU pT pTl),?_⟩
 obtain⟨μ,S1,us,u,S2,hR,rs,e,ka⟩:=hh
 unfold yG at e
 split at e
 rotate_left
 ·cases e
 rename_i a'
 split at e
 rotate_left
 ·cases e
 rename_i ha
 subst ha
 have er:=kC (N:=nL) rs
 refine⟨μ,S1,_,_,hR,er,rfl,fun μ1 σ1 H1 p1 k1 hr1 er1 => ?_⟩
 refine⟨μ1,S1,_,hr1,er1,rfl,rfl,?_⟩
 unfold yr at e
 split at e
 ·rename_i r hφ
  cases e
  refine .inl ⟨r.1,r.2,hφ,fun μ2 σ2 H2 p2 k2 hr2 er2 => .inl ⟨μ2,r.2,_,_,hr2,er2,Bw rfl,?_⟩⟩
  exact ka.mono (p1.trans p2) (k1.trans k2)
 ·split at e
  rotate_left
  ·cases e
  rename_i r hψ
  split at e
  rotate_left
  ·cases e
  rename_i hq
  cases e
  refine .inr ⟨r.1,r.2,je.mpr ⟨hψ,decide_eq_true hq⟩,fun e oe μ2 σ2 H2 p2 k2 hr2 er2 hfz hcls => .inr ⟨e,oe,r.1,hq,hcls,?_⟩⟩
  obtain⟨ρ',hv⟩:=BY (x:=some (.obj a')) (y:=none) (S:=r.2) (u := .obj e) (Rk.lt _ hq)
  refine⟨μ2,r.2,_,_,⟨hr2.len,hr2.inj,hr2.cell,hr2.ext.cap,fun c hc => ?_,hr2.ext.tab⟩,er2,hv,fun μ3 v3 H3 p3 k3 hr3 ru3 => ?_⟩
  ·rcases iK.mp hc with z | z
   ·exact hr2.ext.cds c z
   ·have e':c=(e,oe):=by simpa using z
    rw [e'];exact hfz
  ·exact ka μ3 v3 H3 ((p1.trans p2).trans p3) ((k1.trans k2).trans k3) ⟨hr3.len,hr3.inj,hr3.cell,hr3.ext.cap,fun c hc=>hr3.ext.cds c (cP _ hc),hr3.ext.tab⟩ ru3
end
end G
end
section
namespace G
open PySem PySem.Spec L2
section
variable {P:Program}{w:World}{K:ai}{mg:Str->Option Value}{tabs:List (Addr×Str)}{T:Tb}{k j:Nat}{h:Heap}{x:Str}{st z:Stmt}{N ps:List Str}{r:MX}{fu n L:Nat}{wA:Addr}{rz:List Nat}
theorem Ch.raise (c:Ch P w K mg tabs T k) (Cl:List (Str×Nat)) (h1:T.mkr=false) (hC : ∀ y i,Cl.lookup y=some i->mg y=some (.ref (T.Z.cl i))/\eC K (T.Z.cl i) vE "ValueError.__new__"=true) (X:K.In h) (Gn:h.Ns mainGlobals mg) (D:Def K x st) (S:bC N ps (aw st)) (hb:Bd x st ps)
  (hc:(xc fu n).b T ⟨T.Z.R,Cl⟩ N (aw st).names (aY st)=some r):Ch P w K mg tabs ⟨T.D,T.C,T.L,T.H,T.mkr,⟨(x,ql ps.length N.length r)::T.Z.R,T.Z.F,T.Z.cl,T.Z.nm⟩⟩ (k+1):=
 ⟨fun a b d e f=>by
  have O:=c.o a b d e f
  have F:=D.fnX (M:=⟨P,w,⟨K,a,b,d,tabs⟩,mg,e,none⟩) (cl:=T.Z.cl) (T:=T) (Z:=⟨T.Z.R,Cl⟩) ⟨.of O h1,O.Z,hC⟩ rfl X Gn S hb hc
  have Om:=O.mono (ck k)
  refine⟨Om.D,Om.C,Om.B,Om.L,Om.mkr,fun y r' hy => ?_⟩
  rw [aL] at hy
  cases q:y == x with
  | true=>rw [q] at hy;cases hy;rw [eq_of_beq q];exact⟨k+1,ps,ak _,F⟩
  | false=>rw [q] at hy;exact Om.Z y r' hy,fun a b d e f=>nW (c.h a b d e f) (ck k),fun a b d e f=>r9 (c.r a b d e f) (ck k)⟩
theorem Ch.refd (c:Ch P w K mg tabs T k) (h1:T.mkr=false) (X:K.In h) (Gn:h.Ns mainGlobals mg) (D:Def K x st) (S:bC nL ["call"] (aw st)) (hb:Bd x st ["call"]) (hns:qV (aw st).names=true) (hbody:aY st=kr L z) (hz:cS T fu nL (aw st).names z=some mzR) (Rk:sU K mg T.Z.cl wA rz) :
  Ch P w K mg tabs ⟨T.D,T.C,T.L,T.H,T.mkr,⟨T.Z.R,(x,rz)::T.Z.F,T.Z.cl,T.Z.nm⟩⟩ k:=
 ⟨fun a b d e f=>let O:=c.o a b d e f;⟨O.D,O.C,O.B,O.L,O.mkr,O.Z⟩,c.h,fun a b d e f y rz' hy=>by
  rw [aL] at hy
  cases q:y == x with
  | true=>rw [q] at hy;cases hy;rw [eq_of_beq q];exact⟨k,ak _,D.fnRef (M:=⟨P,w,⟨K,a,b,d,tabs⟩,mg,e,none⟩) c.o h1 X Gn S hb hns hbody hz Rk⟩
  | false=>rw [q] at hy;exact c.r a b d e f y rz' hy⟩
end
theorem Cu {l:kP}{w:World}{K:ai}{h:Heap}{mg:Str->Option Value}{fa c P:Addr}{st:Stmt}{N:List Str}{ms:MS}{fu k:Nat}{T:Tb}{tabs:List (Addr×Str)} (X:K.In h) (Gn:h.Ns mainGlobals mg) (hfa:mg "law"=some (.ref fa))
  (D:rY K "law" st c P) (S:bC N ["script"] (aw st)) (hb:Bd "law" st ["script"]) (h1:T.mkr=false) (hL:T.L = []) (hm:(P,("law":Str)++".<locals>."++"<lambda>")∈tabs) (nd:(tabs.map (·.1)).Nodup) (hg:mainGlobals≠P)
  (hO:Ch l.prog w K mg tabs T k) (hc:cB ⟨T.D,T.C,T.L,T.H,true,T.Z.to "<lambda>"⟩ fu N (aw st).names (aY st)=some ms) :
  ∃ fd:FuncData,(∀ (s:Shared) (v:Value),BindsTo s fd ⟨[v],[]⟩ [("script",v)]) /\ ∀ base:Heap,K.In base->base.Ns mainGlobals mg->fN mg base->gZ l.prog w K mg base CX0 (k+3) fa fd ["script"] (spM ⟨K,[],[],[],tabs⟩ (run 1 N.length ms)):=by
 obtain⟨f,oc,od,kV,doc,pm,an,ct,sl,a,lk,hcd,hkp⟩:=D.ex
 have e:=hfa.symm.trans (cz X Gn a)
 cases e
 refine⟨_,fun s v => .of_eq (hb kV doc pm an (.ref c) ct [v] rfl),fun base _ _ hbb => ?_⟩
 exact D.ok (M:=⟨l.prog,w,⟨K,[],[],[],tabs⟩,mg,base,none⟩) rfl hO.o (hO.o [] [] [] base hbb) hL h1 (nW (hO.h [] [] [] base hbb) (ck k)) (r9 (hO.r [] [] [] base hbb) (ck k)) (D.mkr (M:=⟨l.prog,w,⟨K,[],[],[],tabs⟩,mg,base,none⟩) hbb X Gn hm nd hg) S hc lk hcd
end G
namespace G
open PySem PySem.Spec L2
noncomputable def clR (rz:List Nat):List (Str×Nat):=rz.map fun q=>(cn.getD q (fI ""),q)
noncomputable def Fq (K:ai) (cs:List Addr) (w:Addr) (rz:List Nat):Bool:=
 bp K mainGlobals "ValueError" == some none&&(aA 7).all (fun j=>cg K (.type "NoneType") (.ref (cs.getD j 0)) == some false)&&cg K (.type "NoneType") (.type "ValueError") == some false &&
 rz.all fun q=>decide (q < 7)&&zD K (cs.getD q 0)&&sJ K (.ref (cs.getD q 0)) (.ref w) == some true&&(aA 7).all (fun j=>cg K (.ref (cs.getD q 0)) (.ref (cs.getD j 0)) == some (decide (q=j))) &&
  cg K (.ref (cs.getD q 0)) (.type "ValueError") == some true&&eC K (cs.getD q 0) vE "ValueError.__new__"
section
variable {K:ai}{h:Heap}{mg:Str->Option Value}{c0 c1 c2 c3 c4 c5 c6 w:Addr}{rz:List Nat}
theorem Gm (X:K.In h) (Gn:h.Ns mainGlobals mg) (n0:bp K mainGlobals "TooMany"=some (some (.ref c0))) (n1:bp K mainGlobals "NotLevel"=some (some (.ref c1))) (n2:bp K mainGlobals "NoLift"=some (some (.ref c2))) (n3:bp K mainGlobals "NotPlain"=some (some (.ref c3)))
  (n4:bp K mainGlobals "NoName"=some (some (.ref c4))) (n5:bp K mainGlobals "BadNote"=some (some (.ref c5))) (n6:bp K mainGlobals "NoTwist"=some (some (.ref c6))) (nw:bp K mainGlobals "WalkError"=some (some (.ref w)))
  (hb:Fq K [c0,c1,c2,c3,c4,c5,c6] w rz=true):sU K mg (fun j => [c0,c1,c2,c3,c4,c5,c6].getD j 0) w rz /\ ∀ y i,(clR rz).lookup y=some i->mg y=some (.ref ([c0,c1,c2,c3,c4,c5,c6].getD i 0))/\eC K ([c0,c1,c2,c3,c4,c5,c6].getD i 0) vE "ValueError.__new__"=true:=by
 unfold Fq at hb
 simp only [ax,bA,beq_iff_eq,decide_eq_true_eq,aP] at hb
 obtain⟨⟨⟨b1,b2⟩,b3⟩,b4⟩:=hb
 have hc : ∀ j t,cn[j]? = some t->mg t=some (.ref ([c0,c1,c2,c3,c4,c5,c6].getD j 0)):=fun j t hj=>by
  have hl:j < 7:=(af.mp hj).1
  have:j=0\/j=1\/j=2\/j=3\/j=4\/j=5\/j=6:=by omega
  rcases this with rfl | rfl | rfl | rfl | rfl | rfl | rfl <;> cases hj
  ·exact cz X Gn n0
  ·exact cz X Gn n1
  ·exact cz X Gn n2
  ·exact cz X Gn n3
  ·exact cz X Gn n4
  ·exact cz X Gn n5
  ·exact cz X Gn n6
 refine⟨⟨hc,cz X Gn nw,A5 X Gn b1,b2,b3,fun q hq=>(b4 q hq).1.1.1.1.1,fun q hq=>(b4 q hq).1.1.1.1.2,fun q hq=>(b4 q hq).1.1.1.2,fun q hq=>(b4 q hq).1.1.2,fun q hq=>(b4 q hq).1.2⟩,fun y i hy => ?_⟩
 have hm:=mem_of_lookup hy
 unfold clR at hm
 obtain⟨q,hq,e⟩:=bX.mp hm
 cases e
 refine⟨hc i _ ?_,(b4 i hq).2⟩
 have hl:i < cn.length:=(b4 i hq).1.1.1.1.1
 rw [jf,bO hl]
 rfl
end
end G
end
section
namespace W
open PySem PySem.Spec L2 G
section
noncomputable def fi:MS:=aZ (sIf (cOf (m2 oLt (ae 1) (mFn cQ (aa (ae 0) ag)))) (cW (m2 oIx (ae 0) (ae 1))) cD) (cW (mC (.int 0)))
noncomputable def gf:MF:=run 2 2 fi
noncomputable def iH:MS:=aZ (br 2 (mFn gf (aa (ae 0) (aa (ae 1) ag)))) (aZ (sIf (cOf (m2 oGe (ae 2) (m2 rA (mC (.int 10)) (mC (.int 18))))) (cW (cf (aa (m2 kT (ae 2) (m2 rA (mC (.int 10)) (mC (.int 18)))) (aa (mC (.bl true)) ag)))) cD) (cW (cf (aa (m2 oMod (ae 2) (mC (.int 2147483647))) (aa (mC (.bl false)) ag)))))
noncomputable def iJ:MF:=run 2 3 iH
noncomputable def jq:MS:=aZ (sIf (cOf (m2 oIx (ae 0) (mC (.int 1)))) (aZ (br 2 (m2 oMod (m2 oIx (ae 0) (mC (.int 0))) (ae 1))) (aZ (lF (ae 0) (mC (.int 0)) (m2 oDiv (m2 oIx (ae 0) (mC (.int 0))) (ae 1))) (cW (ae 2)))) cD) (aZ (lF (ae 0) (mC (.int 0)) (m2 oMod (m2 bV (m2 dX (m2 oIx (ae 0) (mC (.int 0))) (mC (.int 48271))) (mC (.int 29))) (mC (.int 2147483647)))) (aZ (br 3 (m2 oMod (m2 bV (m2 bV (m2 dX (m2 oIx (ae 0) (mC (.int 0))) (m2 oIx (ae 0) (mC (.int 0)))) (m2 dX (mC (.int 39373)) (m2 oIx (ae 0) (mC (.int 0))))) (mC (.int 7))) (mC (.int 2147483629)))) (aZ (br 3 (m2 oMod (m2 bV (m2 dX (ae 3) (ae 3)) (m2 dX (mC (.int 16807)) (ae 3))) (mC (.int 2147483587)))) (cW (m2 oMod (m2 oDiv (ae 3) (mC (.int 8))) (ae 1))))))
noncomputable def aC:MF:=run 2 4 jq
noncomputable def kf:MS:=cW (mFn bS (aa (cw (iR1 (aa (ae 0) ag)) cTT (mFn bS (aa (cw (iR1 (aa (ae 0) ag)) cTT (m2 oMod (m2 bV (ae 1) (ae 2)) (ae 0))) ag))) ag))
noncomputable def bz:MF:=run 1 1 kf
noncomputable def kj:MS:=aZ (br 1 (cf ag)) (aZ (d5 2 (iR1 (aa (m2 dX (mC (.int 2)) (ae 0)) ag)) (aZ (br 3 (cf ag)) (aZ (d5 4 (iR1 (aa (m2 dX (mC (.int 2)) (ae 0)) ag)) (aZ (br 5 (m2 oMod (m2 bV (m2 oMod (ae 2) (ae 0)) (m2 dX (m2 oIx (cf (aa (mC (.int 1)) (aa (m1 lC (mC (.int 1))) ag))) (m2 oDiv (ae 2) (ae 0))) (m2 oMod (ae 4) (ae 0)))) (ae 0))) (dy (mML cm (ae 3) (aa (m2 bV (ae 5) (m2 dX (ae 0) (m2 oMod (m2 bV (m2 oDiv (ae 2) (ae 0)) (m2 oDiv (ae 4) (ae 0))) (mC (.int 2))))) ag))))) (dy (mML cm (ae 1) (aa (mFn bS (aa (ae 3) ag)) ag)))))) (cW (mFn bS (aa (ae 1) ag))))
noncomputable def cU:MF:=run 1 6 kj
noncomputable def iQ:MS:=aZ (br 0 (cf (aa (cf (aa (mC (.int 0)) (aa (mC (.int 0)) (aa (mC (.int 0)) (aa (mC (.int 0)) ag))))) (aa (cf (aa (mC (.int 0)) (aa (mC (.int 1)) (aa (mC (.int 0)) (aa (mC (.int 1)) ag))))) (aa (cf (aa (mC (.int 0)) (aa (mC (.int 1)) (aa (mC (.int 1)) (aa (mC (.int 0)) ag))))) (aa (cf (aa (mC (.int 0)) (aa (mC (.int 0)) (aa (mC (.int 1)) (aa (mC (.int 1)) ag))))) ag)))))) (aZ (br 1 (cf (aa (cf (aa (mC (.int 0)) (aa (mC (.int 1)) (aa (mC (.int 2)) (aa (mC (.int 3)) ag))))) (aa (cf (aa (mC (.int 1)) (aa (mC (.int 0)) (aa (mC (.int 3)) (aa (mC (.int 2)) ag))))) (aa (cf (aa (mC (.int 2)) (aa (mC (.int 3)) (aa (mC (.int 0)) (aa (mC (.int 1)) ag))))) (aa (cf (aa (mC (.int 3)) (aa (mC (.int 2)) (aa (mC (.int 1)) (aa (mC (.int 0)) ag))))) ag)))))) (aZ (br 2 (cf ag)) (aZ (d5 3 (iR1 (aa (mC (.int 8)) ag)) (aZ (br 4 (cf ag)) (aZ (d5 5 (iR1 (aa (mC (.int 8)) ag)) (aZ (br 6 (m2 oMod (m2 bV (m2 bV (ae 3) (ae 5)) (m2 oIx (m2 oIx (ae 0) (m2 oDiv (ae 3) (mC (.int 2)))) (m2 oDiv (ae 5) (mC (.int 2))))) (mC (.int 2)))) (dy (mML cm (ae 4) (aa (m2 bV (m2 dX (mC (.int 2)) (m2 oIx (m2 oIx (ae 1) (m2 oDiv (ae 3) (mC (.int 2)))) (m2 oDiv (ae 5) (mC (.int 2))))) (ae 6)) ag))))) (dy (mML cm (ae 2) (aa (mFn bS (aa (ae 4) ag)) ag)))))) (cW (mFn bS (aa (ae 2) ag))))))
noncomputable def ff:MF:=run 0 7 iQ
noncomputable def lD:MS:=aZ (br 2 (mFn cQ (aa (ae 1) ag))) (aZ (br 3 (cf ag)) (aZ (d5 4 (iR1 (aa (m2 dX (mFn cQ (aa (ae 0) ag)) (ae 2)) ag)) (aZ (br 5 (cf ag)) (aZ (d5 6 (iR1 (aa (m2 dX (mFn cQ (aa (ae 0) ag)) (ae 2)) ag)) (aZ (br 7 (m2 oIx (m2 oIx (ae 0) (m2 oDiv (ae 4) (ae 2))) (m2 oDiv (ae 6) (ae 2)))) (dy (mML cm (ae 5) (aa (m2 bV (m2 dX (ae 7) (ae 2)) (m2 oIx (m2 oIx (ae 1) (m2 oMod (ae 4) (ae 2))) (m2 oMod (ae 6) (ae 2)))) ag))))) (dy (mML cm (ae 3) (aa (mFn bS (aa (ae 5) ag)) ag)))))) (cW (mFn bS (aa (ae 3) ag)))))
noncomputable def fA:MF:=run 2 8 lD
noncomputable def kn:MS:=cW (mFn bS (aa (cw (iB (ae 1)) cTT (mFn bS (aa (cw (iB (ae 1)) cTT (mMT fq (ae 1) (aa (m2 oIx (m2 oIx (ae 0) (ae 2)) (ae 3)) ag))) ag))) ag))
noncomputable def dS:MF:=run 2 2 kn
noncomputable def j5:MS:=aZ (br 2 (fV (iR2 (aa (mC (.int 1)) (aa (ae 1) ag))))) (cW (m2 bV (eU (aa (mC (.int 0)) ag)) (mFn bS (aa (cw (iR1 (aa (m2 kT (ae 1) (mC (.int 1))) ag)) cTT (mML iR (ae 2) (aa (mFn aC (aa (ae 0) (aa (mFn cQ (aa (ae 2) ag)) ag))) ag))) ag))))
noncomputable def dR:MF:=run 2 3 j5
noncomputable def j8:MS:=aZ (br 2 (mFn aC (aa (ae 0) (aa (mC (.int 8)) ag)))) (aZ (br 3 (mFn bz (aa (m2 bV (mC (.int 1)) (mFn aC (aa (ae 0) (aa (ae 1) ag)))) ag))) (aZ (sIf (cOr (cOf (m2 oEq (ae 2) (mC (.int 1)))) (cOf (m2 oEq (ae 2) (mC (.int 2))))) (br 3 (mFn cU (aa (m2 bV (mC (.int 1)) (mFn aC (aa (ae 0) (aa (m2 oDiv (ae 1) (mC (.int 2))) ag)))) ag))) cD) (aZ (sIf (nJ (cOf (m2 oEq (ae 2) (mC (.int 3)))) (cOf (m2 oGt (ae 1) (mC (.int 7))))) (br 3 (mFn ff ag)) cD) (aZ (sIf (cOf (m2 oGt (ae 2) (mC (.int 3)))) (aZ (br 4 (m2 bV (mC (.int 2)) (mFn aC (aa (ae 0) (aa (mC (.int 3)) ag))))) (aZ (br 5 (m2 oIx (cf (aa (mFn bz (aa (ae 4) ag)) (aa (mFn cU (aa (ae 4) ag)) ag))) (mFn aC (aa (ae 0) (aa (mC (.int 2)) ag))))) (aZ (sIf (cOf (m2 oGt (mFn cQ (aa (ae 5) ag)) (ae 1))) (br 5 (mFn bz (aa (ae 4) ag))) cD) (br 3 (mFn fA (aa (ae 5) (aa (mFn bz (aa (m2 bV (mC (.int 1)) (mFn aC (aa (ae 0) (aa (m2 oDiv (ae 1) (mFn cQ (aa (ae 5) ag))) ag)))) ag)) ag))))))) cD) (aZ (sIf (cOf (m2 oEq (mFn aC (aa (ae 0) (aa (mC (.int 3)) ag))) (mC (.int 0)))) (br 3 (mFn dS (aa (ae 3) (aa (mFn dR (aa (ae 0) (aa (mFn cQ (aa (ae 3) ag)) ag))) ag)))) cD) (cW (ae 3)))))))
noncomputable def eE:MF:=run 2 6 j8
end
end W
end
section
namespace W
structure Grp (m:Nat) (T:Nat->Nat->Nat):Prop where
 pos:0 < m
 cl : ∀ i j,i < m->j < m->T i j < m
 l0 : ∀ i,i < m->T 0 i=i
 r0 : ∀ i,i < m->T i 0=i
 inv : ∀ i,i < m -> ∃ j,j < m/\T i j=0/\T j i=0
 as : ∀ i j k,i < m->j < m->k < m->T (T i j) k=T i (T j k)
noncomputable def di (n:Nat):Nat->Nat->Nat:=fun i j=>(i+j) % n
theorem fW {n:Nat} (h:0 < n):Grp n (di n) where
 pos:=h
 cl:=fun i j _ _=>jx _ h
 l0:=fun i hi=>by unfold di;rw [cu];exact bo hi
 r0:=fun i hi=>by unfold di;rw [jc];exact bo hi
 inv:=fun i hi=>by
  by_cases h0:i=0
  ·subst h0;exact⟨0,h,by simp [di],by simp [di]⟩
  ·refine⟨n - i,by omega,?_,?_⟩ <;> unfold di
   ·rw [show i+(n - i)=n by omega,lT]
   ·rw [show n - i+i=n by omega,lT]
 as:=fun i j k _ _ _=>by
  unfold di
  rw [lW,Nat.add_mod_mod,dZ]
noncomputable def fE (n:Nat):Nat->Nat->Nat:=fun i j=>
 (if i < n then (i % n+j % n) % n else (i % n+(n - j % n)) % n)+n*((i / n+j / n) % 2)
theorem half {n i:Nat} (h:i < 2*n):(i < n/\i % n=i/\i / n=0)\/(n<=i/\i % n=i - n/\i / n=1):=by
 by_cases hi:i < n
 ·exact .inl ⟨hi,bo hi,fK hi⟩
 ·refine .inr ⟨by omega,?_,?_⟩
  ·rw [Nat.mod_eq_sub_mod (by omega),bo (by omega)]
  ·exact Nat.div_eq_of_lt_le (by omega) (by omega)
theorem dW {n a b:Nat} (ha:a < n) (hb:b < n):fE n a b=(a+b) % n:=by
 unfold fE
 rw [if_pos ha,bo ha,bo hb,fK ha,fK hb];simp
theorem BZ {n a:Nat} (ha:a < n):(n+a) / n=1:=Nat.div_eq_of_lt_le (by omega) (by omega)
theorem BM {n a:Nat} (ha:a < n):(n+a) % n=a:=by rw [Nat.add_mod_left];exact bo ha
theorem gc {n a b:Nat} (ha:a < n) (hb:b < n):fE n a (n+b)=n+(a+b) % n:=by
 unfold fE
 rw [if_pos ha,bo ha,BM hb,fK ha,BZ hb];simp;omega
theorem gd {n a b:Nat} (ha:a < n) (hb:b < n):fE n (n+a) b=n+(a+(n - b)) % n:=by
 unfold fE
 rw [if_neg (by omega),BM ha,bo hb,fK hb,BZ ha];simp;omega
theorem gg {n a b:Nat} (ha:a < n) (hb:b < n):fE n (n+a) (n+b)=(a+(n - b)) % n:=by
 unfold fE
 rw [if_neg (by omega),BM ha,BM hb,BZ ha,BZ hb];simp
theorem Jt {n a b:Nat} (ha:a < n) (hb:b < n):(a+b) % n=if a+b < n then a+b else a+b - n:=by
 split
 ·exact bo (by assumption)
 ·rw [Nat.mod_eq_sub_mod (by omega),bo (by omega)]
theorem JB {n a b:Nat} (ha:a < n) (hb:b < n):(a+(n - b)) % n=if b<=a then a - b else a+n - b:=by
 have e:=Nat.add_sub_assoc (aW hb) a
 split
 ·rename_i h
  rw [<- e,kW h,jK,bo (aH (f9 a b) ha)]
 ·rename_i h
  rw [bo (pG (Nat.add_lt_add_right (Nat.lt_of_not_le h) (n - b)) (i4 (aW hb))),e]
theorem jV {n i:Nat} (h:i < 2*n):(i < n) \/ ∃ a,a < n/\i=n+a:=by
 by_cases hi:i < n
 ·exact .inl hi
 ·exact .inr ⟨i - n,by omega,by omega⟩
theorem Bn {n a b c:Nat}:((a+b) % n+c) % n=(a+(b+c) % n) % n:=by rw [lW,Nat.add_mod_mod,dZ]
theorem IP {n a b c:Nat} (hb:b < n) (hc:c < n):((a+(n - b)) % n+(n - c)) % n=(a+(n - (b+c) % n)) % n:=by
 rw [lW,Jt hb hc]
 split
 ·rename_i h
  have h1:n - b=n - (b+c)+c:=by rw [Nat.sub_add_eq,Nat.sub_add_cancel (Nat.le_sub_of_add_le' (aW h))]
  rw [h1,<- dZ,dZ _ c,i4 (aW hc),jK]
 ·rename_i h
  rw [<- jL b (aW hc),jL n (Nat.sub_le_of_le_add (dn h)),kW (aW hb),dZ]
theorem Ie {n a b c:Nat} (hb:b < n) (hc:c < n):((a+(n - b)) % n+c) % n=(a+(n - (b+(n - c)) % n)) % n:=by
 rw [lW,JB hb hc]
 split
 ·rename_i h
  rw [jL n h,kW (aW hb),dZ]
 ·rename_i h
  have h':=aW (Nat.lt_of_not_le h)
  rw [lN b n,<- jL n h',Nat.sub_sub_self (aK (f9 c b) (aW hc)),<- jK (a+(c - b)) n,dZ a (c - b) n,lN (c - b) n,<- Nat.add_sub_assoc h' n,kW (aW hb),dZ]
theorem oP {n:Nat} (h:0 < n):Grp (2*n) (fE n):=by
 have ml : ∀ x,x % n < n:=fun x=>jx _ h
 have cl : ∀ i j,i < 2*n->j < 2*n->fE n i j < 2*n:=fun i j hi hj=>by
  rcases jV hi with hi | ⟨a,ha,rfl⟩ <;> rcases jV hj with hj | ⟨b,hb,rfl⟩
  ·rw [dW hi hj];have:=ml (i+j);omega
  ·rw [gc hi hb];have:=ml (i+b);omega
  ·rw [gd ha hj];have:=ml (a+(n - j));omega
  ·rw [gg ha hb];have:=ml (a+(n - b));omega
 refine⟨by omega,cl,fun i hi => ?_,fun i hi => ?_,fun i hi => ?_,fun i j k hi hj hk => ?_⟩
 ·rcases jV hi with hi | ⟨a,ha,rfl⟩
  ·rw [dW h hi,cu,bo hi]
  ·rw [gc h ha,cu,bo ha]
 ·rcases jV hi with hi | ⟨a,ha,rfl⟩
  ·rw [dW hi h,jc,bo hi]
  ·rw [gd ha h,Nat.sub_zero,jK,bo ha]
 ·rcases jV hi with hi | ⟨a,ha,rfl⟩
  ·by_cases h0:i=0
   ·subst h0;exact⟨0,by omega,by rw [dW h h];simp,by rw [dW h h];simp⟩
   ·have hl:n - i < n:=by omega
    refine⟨n - i,by omega,?_,?_⟩
    ·rw [dW hi hl,show i+(n - i)=n by omega,lT]
    ·rw [dW hl hi,show n - i+i=n by omega,lT]
  ·refine⟨n+a,by omega,?_,?_⟩ <;> rw [gg ha ha,show a+(n - a)=n by omega,lT]
 ·rcases jV hi with hi | ⟨a,ha,rfl⟩ <;> rcases jV hj with hj | ⟨b,hb,rfl⟩ <;> rcases jV hk with hk | ⟨c,hc,rfl⟩
  ·rw [dW hi hj,dW hj hk,dW (ml _) hk,dW hi (ml _),Bn]
  ·rw [dW hi hj,gc hj hc,gc (ml _) hc,gc hi (ml _),Bn]
  ·rw [gc hi hb,gd hb hk,gd (ml _) hk,gc hi (ml _),Bn]
  ·rw [gc hi hb,gg hb hc,gg (ml _) hc,dW hi (ml _),Bn]
  ·rw [gd ha hj,dW hj hk,gd (ml _) hk,gd ha (ml _),IP hj hk]
  ·rw [gd ha hj,gc hj hc,gg (ml _) hc,gg ha (ml _),IP hj hc]
  ·rw [gg ha hb,gd hb hk,dW (ml _) hk,gg ha (ml _),Ie hb hk]
  ·rw [gg ha hb,gg hb hc,gc (ml _) hc,gd ha (ml _),Ie hb hc]
noncomputable def jC (m:Nat) (A B:Nat->Nat->Nat):Nat->Nat->Nat:=fun i j=>A (i / m) (j / m)*m+B (i % m) (j % m)
theorem vW {m a b:Nat} (hb:b < m):(a*m+b) / m=a/\(a*m+b) % m=b:=by
 have hm:0 < m:=by omega
 constructor
 ·rw [eM,Nat.mul_add_div hm,fK hb];rfl
 ·rw [eM,Nat.mul_add_mod,bo hb]
theorem tK {k m:Nat}{A B:Nat->Nat->Nat} (ga:Grp k A) (gb:Grp m B):Grp (k*m) (jC m A B):=by
 have hm:=gb.pos
 have dl : ∀ i,i < k*m->i / m < k:=fun i hi=>iD (by rw [eM];exact hi)
 have rl : ∀ i,i % m < m:=fun i=>jx _ hm
 have lt : ∀ a b,a < k->b < m->a*m+b < k*m:=fun a b ha hb=>by
  have:(a+1)*m<=k*m:=fD m ha
  rw [Nat.add_mul] at this;omega
 refine⟨Nat.mul_pos ga.pos hm,fun i j hi hj=>lt _ _ (ga.cl _ _ (dl i hi) (dl j hj)) (gb.cl _ _ (rl i) (rl j)),fun i hi => ?_,fun i hi => ?_,fun i hi => ?_,fun i j l hi hj hl => ?_⟩
 ·unfold jC;rw [Nat.zero_div,Nat.zero_mod,ga.l0 _ (dl i hi),gb.l0 _ (rl i),eM];exact Nat.div_add_mod i m
 ·unfold jC;rw [Nat.zero_div,Nat.zero_mod,ga.r0 _ (dl i hi),gb.r0 _ (rl i),eM];exact Nat.div_add_mod i m
 ·obtain⟨a,ha,a1,a2⟩:=ga.inv _ (dl i hi)
  obtain⟨b,hb,b1,b2⟩:=gb.inv _ (rl i)
  obtain⟨p1,p2⟩:=vW (a:=a) hb
  refine⟨a*m+b,lt a b ha hb,?_,?_⟩ <;> unfold jC <;> rw [p1,p2]
  ·rw [a1,b1];simp
  ·rw [a2,b2];simp
 ·unfold jC
  obtain⟨p1,p2⟩:=vW (a:=A (i / m) (j / m)) (gb.cl _ _ (rl i) (rl j))
  obtain⟨q1,q2⟩:=vW (a:=A (j / m) (l / m)) (gb.cl _ _ (rl j) (rl l))
  rw [p1,p2,q1,q2,ga.as _ _ _ (dl i hi) (dl j hj) (dl l hl),gb.as _ _ _ (rl i) (rl j) (rl l)]
noncomputable def HY:List (List Nat) := [[0,1,2,3,4,5,6,7],[1,0,3,2,5,4,7,6],[2,3,1,0,6,7,5,4],[3,2,0,1,7,6,4,5],[4,5,7,6,1,0,2,3],[5,4,6,7,0,1,3,2],[6,7,4,5,3,2,1,0],[7,6,5,4,2,3,0,1]]
noncomputable def eT:Nat->Nat->Nat:=fun i j=>(HY.getD i []).getD j 0
noncomputable def q1:Bool:=(aA 8).all fun i=>(eT 0 i == i)&&(eT i 0 == i)&&((aA 8).any fun j=>(eT i j == 0)&&(eT j i == 0))&&(aA 8).all fun j=>decide (eT i j < 8)&&(aA 8).all fun k=>eT (eT i j) k == eT i (eT j k)
theorem Hl:q1=true:=by decide +kernel
theorem yB:Grp 8 eT:=by
 have h:=bA.mp Hl
 have g : ∀ i,i < 8->_:=fun i hi=>h i (aP.mpr hi)
 simp only [ax,bA,List.any_eq_true,aP,beq_iff_eq,decide_eq_true_eq] at g
 refine⟨by decide,fun i j hi hj=>((g i hi).2 j hj).1,fun i hi=>(g i hi).1.1.1,fun i hi=>(g i hi).1.1.2,fun i hi => ?_,fun i j k hi hj hk=>((g i hi).2 j hj).2 k hk⟩
 obtain⟨j,hj,a,b⟩:=(g i hi).1.2
 exact⟨j,hj,a,b⟩
structure Ord (m:Nat) (o p:Nat->Nat):Prop where
 ol : ∀ i,i < m->o i < m
 pl : ∀ i,i < m->p i < m
 po : ∀ i,i < m->p (o i)=i
 op : ∀ i,i < m->o (p i)=i
 o0:o 0=0
noncomputable def ie (T:Nat->Nat->Nat) (o p:Nat->Nat):Nat->Nat->Nat:=fun i j=>p (T (o i) (o j))
theorem qK {m:Nat}{T:Nat->Nat->Nat}{o p:Nat->Nat} (g:Grp m T) (h:Ord m o p):Grp m (ie T o p):=by
 have p0:p 0=0:=by have:=h.po 0 g.pos;rwa [h.o0] at this
 refine⟨g.pos,fun i j hi hj=>h.pl _ (g.cl _ _ (h.ol i hi) (h.ol j hj)),fun i hi => ?_,fun i hi => ?_,fun i hi => ?_,fun i j k hi hj hk => ?_⟩
 ·unfold ie;rw [h.o0,g.l0 _ (h.ol i hi),h.po i hi]
 ·unfold ie;rw [h.o0,g.r0 _ (h.ol i hi),h.po i hi]
 ·obtain⟨j,hj,a,b⟩:=g.inv _ (h.ol i hi)
  refine⟨p j,h.pl j hj,?_,?_⟩ <;> unfold ie <;> rw [h.op j hj]
  ·rw [a,p0]
  ·rw [b,p0]
 ·unfold ie
  rw [h.op _ (g.cl _ _ (h.ol i hi) (h.ol j hj)),h.op _ (g.cl _ _ (h.ol j hj) (h.ol k hk)),g.as _ _ _ (h.ol i hi) (h.ol j hj) (h.ol k hk)]
end W
end
section
namespace W
theorem lB {α:Type} : ∀ (l:List α) (i:Nat) (h:i < l.length),(l[i]::l.eraseIdx i).Perm l
 | x::l,0,_=>by simp
 | x::l,i+1,h=>by
   have h':i < l.length:=by simpa using h
   have:=lB l i h'
   simp only [List.getElem_cons_succ,List.eraseIdx_cons_succ]
   exact (List.Perm.swap _ _ _).trans (this.cons x)
theorem B9 {l:List Nat} (nd:l.Nodup) {i:Nat} (h:i < l.length):l.idxOf l[i]=i:=by
 have h1:l.idxOf l[i] < l.length:=jM.mpr (qZ h)
 have h2:=List.getElem_idxOf h1
 exact (List.getElem_inj nd).mp h2
structure mX (m:Nat) (l:List Nat):Prop where
 perm:l.Perm (aA m)
 z:l[0]? = some 0
noncomputable def oF (l:List Nat):Nat->Nat:=fun i=>l.getD i 0
noncomputable def pF (l:List Nat):Nat->Nat:=fun x=>l.idxOf x
section
variable {m:Nat}{l:List Nat}
theorem mX.len (h:mX m l):l.length=m:=by have:=h.perm.length_eq;simpa using this
theorem mX.nd (h:mX m l):l.Nodup:=h.perm.nodup_iff.mpr List.nodup_range
theorem mX.mem (h:mX m l) {x:Nat}:x∈l↔x < m:=by rw [h.perm.mem_iff,aP]
theorem mX.get (h:mX m l) {i:Nat} (hi:i < m):l[i]? = some (oF l i):=by
 have hl:i < l.length:=by rw [h.len];exact hi
 simp [oF,hl]
theorem mX.ord (h:mX m l):Ord m (oF l) (pF l) where
 ol:=fun i hi=>h.mem.mp (cj (h.get hi))
 pl:=fun x hx=>by
  have:=jM.mpr (h.mem.mpr hx)
  rw [h.len] at this;exact this
 po:=fun i hi=>by
  have hl:i < l.length:=by rw [h.len];exact hi
  have e:oF l i=l[i]:=by simp [oF,hl]
  unfold pF;rw [e];exact B9 h.nd hl
 op:=fun x hx=>by
  have h1:=jM.mpr (h.mem.mpr hx)
  have h2:=List.getElem_idxOf h1
  unfold oF pF
  rw [jf,bO h1,h2];rfl
 o0:=by
  unfold oF
  rw [jf,h.z];rfl
end
theorem yt {m:Nat}{xs:List Nat} (hm:0 < m) (h:xs.Perm (bD 1 (m - 1))):mX m (0::xs):=by
 refine⟨?_,rfl⟩
 have e:aA m=0::bD 1 (m - 1):=by
  rw [mS]
  have:m=(m - 1)+1:=by omega
  rw [this,kN]
  simp
 rw [e]
 exact h.cons 0
end W
end
section
namespace W
section
variable {m:Nat}{T:Nat->Nat->Nat}
theorem Grp.cancel (g:Grp m T) {a b c:Nat} (ha:a < m) (hb:b < m) (hc:c < m) (h:T a b=T a c):b=c:=by
 obtain⟨i,hi,h1,h2⟩:=g.inv a ha
 have e1:T i (T a b)=b:=by rw [<- g.as i a b hi ha hb,h2,g.l0 b hb]
 have e2:T i (T a c)=c:=by rw [<- g.as i a c hi ha hc,h2,g.l0 c hc]
 rw [<- e1,<- e2,h]
theorem Grp.inv1 (g:Grp m T) {i:Nat} (hi:i < m) : ∃ j,j < m/\T i j=0/\T j i=0 /\ ∀ k,k < m->T i k=0->k=j:=by
 obtain⟨j,hj,h1,h2⟩:=g.inv i hi
 exact⟨j,hj,h1,h2,fun k hk h=>g.cancel hi hk hj (h.trans h1.symm)⟩
noncomputable def pw (T:Nat->Nat->Nat) (x:Nat):Nat->Nat
 | 0=>0
 | n+1=>T (pw T x n) x
theorem ja (g:Grp m T) {x:Nat} (hx:x < m) : ∀ n,pw T x n < m
 | 0=>g.pos
 | n+1=>g.cl _ _ (ja g hx n) hx
theorem nq (g:Grp m T) {x:Nat} (hx:x < m) (a:Nat) : ∀ b,pw T x (a+b)=T (pw T x a) (pw T x b)
 | 0=>by show pw T x a=T (pw T x a) 0;rw [g.r0 _ (ja g hx a)]
 | b+1=>by
   show T (pw T x (a+b)) x=T (pw T x a) (T (pw T x b) x)
   rw [nq g hx a b,g.as _ _ _ (ja g hx a) (ja g hx b) hx]
theorem Cb (g:Grp m T) {x a b:Nat} (hx:x < m) (hab:a<=b) (h:pw T x a=pw T x b):pw T x (b - a)=0:=by
 have e:b=a+(b - a):=by omega
 rw [e,nq g hx] at h
 have e2:T (pw T x a) 0=T (pw T x a) (pw T x (b - a)):=by rw [g.r0 _ (ja g hx a)];exact h
 exact (g.cancel (ja g hx a) g.pos (ja g hx _) e2).symm
end
theorem vS : ∀ (m:Nat) (l:List Nat),l.Nodup->(∀ x∈l,x < m)->l.length<=m
 | 0,l,_,h=>by
   cases l with
   | nil=>simp
   | cons x l=>exact absurd (h x (by simp)) (by omega)
 | m+1,l,nd,h=>by
   have h1:=vS m (l.erase m) (nd.erase m) fun x hx=>by
    have hx2:=(List.Nodup.mem_erase_iff nd).mp hx
    have:=h x hx2.2
    have:=hx2.1
    omega
   have h2:l.length<=(l.erase m).length+1:=by
    rw [List.length_erase]
    split <;> omega
   omega
theorem Fw {m:Nat}{f:Nat->Nat} (h : ∀ i,i<=m->f i < m) : ∃ i j,i < j/\j<=m/\f i=f j:=by
 apply iX
 intro no
 have inj : ∀ i j,i < j->j<=m->f i≠f j:=fun i j h1 h2 e=>no ⟨i,j,h1,h2,e⟩
 have nd:((aA (m+1)).map f).Nodup:=by
  rw [dH,pM]
  refine iE ?_ (List.pairwise_lt_range (n:=m+1))
  intro a b ha hb hab
  exact inj a b hab (by have:=aP.mp hb;exact gR (by assumption))
 have:=vS m _ nd (fun x hx=>by
  obtain⟨i,hi,rfl⟩:=bX.mp hx
  exact h i (by have:=aP.mp hi;exact gR (by assumption)))
 simp at this
 exact absurd (by assumption) (bB _)
theorem least {P:Nat->Prop} : ∀ n,P n -> ∃ k,k<=n/\P k /\ ∀ j,j < k -> ¬ P j:=by
 intro n
 induction n using Nat.strongRecOn with
 | ind n ih=>
   intro h
   by_cases hx : ∃ j,j < n/\P j
   ·obtain⟨j,hj,hp⟩:=hx
    obtain⟨k,h1,h2,h3⟩:=ih j hj hp
    exact⟨k,by omega,h2,h3⟩
   ·exact⟨n,ak _,h,fun j hj hp=>hx ⟨j,hj,hp⟩⟩
theorem Grp.ord {m:Nat}{T:Nat->Nat->Nat} (g:Grp m T) {x:Nat} (hx:x < m) : ∃ n,1<=n/\n<=m/\pw T x n=0 /\ ∀ k,1<=k->k < n->pw T x k≠0:=by
 obtain⟨a,b,h1,h2,h3⟩:=Fw (m:=m) (f:=pw T x) fun i _=>ja g hx i
 have h4:=Cb g hx (aW h1) h3
 obtain⟨n,k1,⟨k2,k3⟩,k4⟩:=least (P:=fun n=>1<=n/\pw T x n=0) (b - a) ⟨by omega,h4⟩
 exact⟨n,k2,by omega,k3,fun j j1 j2 j3=>k4 j j2 ⟨j1,j3⟩⟩
theorem idx_map {f:Nat->Nat}{x:Nat} : ∀ (n s k:Nat),s<=k->k < s+n->f k=x->(∀ j,s<=j->j < k->f j≠x)->((bD s n).map f).idxOf x=k - s
 | 0,s,k,h1,h2,_,_=>by omega
 | n+1,s,k,h1,h2,hp,hn=>by
   rw [kN,bT,List.idxOf_cons]
   by_cases hs:s=k
   ·subst hs;simp [hp]
   ·have hb:(f s == x)=false:=by simpa using hn s (ak _) (by exact fZ (by assumption) (by assumption))
    rw [hb]
    simp only [cond_false]
    rw [idx_map n (s+1) k (by exact fZ (by assumption) (by assumption)) (by omega) hp fun j h1 h2=>hn j (by exact aW (by assumption)) h2]
    omega
end W
end
section
namespace W
open L2 G
noncomputable def Ex (S S':Sto):Prop := ∃ t,S'=S++t
theorem Ex.refl (S:Sto):Ex S S:=⟨[],by simp⟩
theorem Ex.trans {S S1 S2:Sto} (a:Ex S S1) (b:Ex S1 S2):Ex S S2:=by
 obtain⟨t,rfl⟩:=a
 obtain⟨u,rfl⟩:=b
 exact⟨t++u,by simp⟩
theorem Ex.push (S:Sto) (c:Cell):Ex S (S ++ [c]):=⟨[c],rfl⟩
theorem Ex.get {S S':Sto} (h:Ex S S') {n:Nat} (hn:n < S.length):S'[n]? = S[n]? := by
 obtain⟨t,rfl⟩:=h
 exact aQ hn
theorem Ex.some {S S':Sto} (h:Ex S S') {n:Nat}{c:Cell} (e:S[n]? = some c):S'[n]? = some c:=by
 rw [h.get (af.mp e).1];exact e
theorem Ex.len {S S':Sto} (h:Ex S S'):S.length<=S'.length:=by
 obtain⟨t,rfl⟩:=h
 simp
noncomputable def i8 (n:Nat) (S:Sto):Prop := ∃ s b,S[n]? = some (.lst [.int s,.bl b])
structure Stp (n:Nat) (S S':Sto):Prop where
 len:S.length<=S'.length
 same : ∀ m,m < S.length->m≠n->S'[m]? = S[m]?
 st:i8 n S'
theorem Stp.refl {n:Nat}{S:Sto} (h:i8 n S):Stp n S S:=⟨ak _,fun _ _ _=>rfl,h⟩
theorem Stp.trans {n:Nat}{S S1 S2:Sto} (a:Stp n S S1) (b:Stp n S1 S2):Stp n S S2:=
 ⟨aK a.len b.len,fun m h1 h2=>(b.same m (ah h1 a.len) h2).trans (a.same m h1 h2),b.st⟩
theorem i8.lt {n:Nat}{S:Sto} (h:i8 n S):n < S.length:=by
 obtain⟨s,b,e⟩:=h
 exact (af.mp e).1
theorem i8.ex {n:Nat}{S S':Sto} (h:i8 n S) (e:Ex S S'):i8 n S':=by
 obtain⟨s,b,q⟩:=h
 exact⟨s,b,e.some q⟩
theorem Stp.ex {n:Nat}{S S':Sto} (h:i8 n S) (e:Ex S S'):Stp n S S':=⟨e.len,fun m h1 _=>e.get h1,h.ex e⟩
theorem Stp.some {n:Nat}{S S':Sto} (h:Stp n S S') {m:Nat}{c:Cell} (hm:m≠n) (e:S[m]? = some c):S'[m]? = some c:=by
 rw [h.same m (af.mp e).1 hm];exact e
theorem xn {n:Nat}{S:Sto}{many:Int} (h:i8 n S) (hm:0 < many) (hm2:many < 1073741824) :
  ∃ r S',aC [.ref n,.int many] S=some (.int r,S')/\0<=r/\r < many/\Stp n S S'/\S'.length=S.length:=by
 obtain⟨s,b,e⟩:=h
 have hn:=(af.mp e).1
 have hd:oA many:=⟨hm,hm2⟩
 have hd8:oA 8:=⟨by decide,by decide⟩
 cases b with
 | true=>
   refine⟨s % many,S.set n (.lst [.int (s / many),.bl true]),?_,uY _ (by omega),pH _ hm,⟨by simp,fun m h1 h2=>by rw [aB (df h2)],⟨s / many,true,by rw [aN hn]⟩⟩,by simp⟩
   simp [aC,G.run,jq,aZ,sIf,cOf,m2,ae,mC,bnd,oIx,fP,du,getL,e,atI,ixN,br,oMod,oDiv,hm,hd,lF,cW]
 | false=>
   have b1 : ∀ x m:Int,0 < m->m < 4294967296->iF (x % m) (x % m):=fun x m h1 h2=>by
    have h3:=uY x (show m≠0 by omega)
    have h4:=pH x h1
    exact .inl ⟨by omega,by omega⟩
   have hg : ∀ c:Cell,(S.set n c)[n]? = Option.some c:=fun c=>aN hn
   have k1:iF s 48271 := .inr ⟨by decide,by decide⟩
   have k2:=b1 (s*48271+29) 2147483647 (by decide) (by decide)
   generalize hs1:(s*48271+29) % 2147483647=s1 at k2
   have k3:iF 39373 s1 := .inl ⟨by decide,by decide⟩
   have k4:=b1 (s1*s1+39373*s1+7) 2147483629 (by decide) (by decide)
   generalize hm1:(s1*s1+39373*s1+7) % 2147483629=m1 at k4
   have k5:iF 16807 m1 := .inl ⟨by decide,by decide⟩
   refine⟨(m1*m1+16807*m1) % 2147483587 / 8 % many,S.set n (.lst [.int s1,.bl false]),?_,uY _ (by omega),pH _ hm,⟨by simp,fun m h1 h2=>by rw [aB (df h2)],⟨s1,false,by rw [aN hn]⟩⟩,by simp⟩
   simp [aC,G.run,jq,aZ,sIf,cOf,m2,ae,mC,bnd,oIx,fP,du,getL,e,atI,ixN,br,oMod,oDiv,bV,dX,hm,hd,lF,cW,cD,hg,k1,k2,k3,k4,k5,hs1,hm1,hd8]
end W
end
section
namespace W
open L2 G
section
theorem mG {i:Nat}{b:MS} (P:Nat->Rho->Sto->Prop) : ∀ (us:List U) (k:Nat) (ρ:Rho) (S:Sto),P k ρ S ->
  (∀ (j:Nat) (u:U) (ρ:Rho) (S:Sto),us[j]? = some u->P (k+j) ρ S -> ∃ ρ' S',b (ρ.set i (some u)) S=some (.nx,ρ',S')/\P (k+j+1) ρ' S') ->
  ∃ ρ' S',jE i b us ρ S=some (.nx,ρ',S')/\P (k+us.length) ρ' S'
 | [],k,ρ,S,h,_=>⟨ρ,S,rfl,h⟩
 | u::us,k,ρ,S,h,st=>by
   obtain⟨ρ1,S1,e1,h1⟩:=st 0 u ρ S rfl h
   obtain⟨ρ2,S2,e2,h2⟩:=mG P us (k+1) ρ1 S1 h1 fun j v ρ S hj hp=>by
    have:=st (j+1) v ρ S (by simpa using hj) (by rw [show k+(j+1)=k+1+j by omega];exact hp)
    rw [show k+(j+1)+1=k+1+j+1 by omega] at this
    exact this
   refine⟨ρ2,S2,?_,by rw [show k+(u::us).length=k+1+us.length by simp;omega];exact h2⟩
   show aft (b (ρ.set i (some u)) S) (jE i b us)=_
   rw [e1];exact e2
theorem kM {e:ME}{ρ:Rho} (g:Nat->U) (P:Nat->Sto->Prop) : ∀ (us:List U) (k:Nat) (acc:List U) (S:Sto),P k S ->
  (∀ (j:Nat) (u:U) (S:Sto),us[j]? = some u->P (k+j) S -> ∃ S',e (ρ ++ [some u]) S=some (g (k+j),S')/\P (k+j+1) S') ->
  ∃ S',d7 cTT e ρ us acc S=some (acc++(aA us.length).map (fun j=>g (k+j)),S')/\P (k+us.length) S'
 | [],k,acc,S,h,_=>⟨S,by simp [d7],h⟩
 | u::us,k,acc,S,h,st=>by
   obtain⟨S1,e1,h1⟩:=st 0 u S rfl h
   obtain⟨S2,e2,h2⟩:=kM g P us (k+1) (acc ++ [g k]) S1 h1 fun j v S hj hp=>by
    have:=st (j+1) v S (by simpa using hj) (by rw [show k+(j+1)=k+1+j by omega];exact hp)
    rw [show k+(j+1)+1=k+1+j+1 by omega,show k+(j+1)=k+1+j by omega] at this
    exact this
   refine⟨S2,?_,by rw [show k+(u::us).length=k+1+us.length by simp;omega];exact h2⟩
   show bnd (cTT (ρ ++ [some u]) S) _=_
   simp only [cTT,aE,if_true]
   rw [e1]
   simp only [aE,jc]
   rw [e2]
   simp only [bf,ei,Prod.mk.injEq,and_true]
   rw [ed,y0,bT,cK]
   simp only [List.singleton_append,jc,List.append_cancel_left_eq,List.cons.injEq,true_and]
   apply bE
   intro j _
   simp only [Function.comp]
   congr 1;omega
noncomputable def yd (n:Nat) (g:Nat->U):U := .tup ((aA n).map g)
theorem nY {n:Nat} (h:n < big):okR (n:Int):=by
 unfold big at h
 exact⟨by exact pI _,by omega⟩
theorem lq {ρ:Rho}{S S0:Sto}{a:ME}{u:U} (ha:a ρ S=some (u,S0)):aa a ag ρ S=some ([u],S0):=by
 simp only [aa,ag,ha,aE]
theorem DX {ρ:Rho}{S S0:Sto}{a:MA}{j:Int} (ha:a ρ S=some ([.int j],S0)) (h:okR j):iR1 a ρ S=some (.imm (aU 0 j.toNat),S0):=by
 unfold iR1
 rw [ha]
 exact if_pos h
theorem kB {ρ:Rho}{S S0:Sto}{a:ME}{n:Nat} (ha:a ρ S=some (.int n,S0)) (h:n < big):iR1 (aa a ag) ρ S=some (.imm (aU 0 n),S0):=by
 rw [DX (lq ha) (nY h),jI]
theorem kH {ρ:Rho}{S S0 S1:Sto}{it:MI}{t:MT}{e:ME}{us ys:List U} (hi:it ρ S=some (.imm us,S0)) (h:d7 t e ρ us [] S0=some (ys,S1)) (hz:ys.length < big):cw it t e ρ S=some (.ref S1.length,S1 ++ [.lst ys]):=by
 simp only [cw,hi,aE,wV,h]
 exact if_pos hz
theorem il {ρ:Rho}{S S1:Sto}{a:ME}{ys:List U} (h:a ρ S=some (.ref S1.length,S1 ++ [.lst ys])):mFn bS (aa a ag) ρ S=some (.tup ys,S1 ++ [.lst ys]):=by
 unfold mFn
 rw [lq h]
 show (du (S1 ++ [Cell.lst ys]) (.ref S1.length)).map _=_
 have:du (S1 ++ [Cell.lst ys]) (.ref S1.length)=some ys:=by
  show getL (S1 ++ [Cell.lst ys]) S1.length=_
  unfold getL
  rw [aq (ak _)]
  simp
 rw [this];rfl
theorem Dc {ρ:Rho}{S S0:Sto}{a e:ME}{n:Nat} (ha:a ρ S=some (.int n,S0)) (hn:n < big) (g:Nat->U) (P:Nat->Sto->Prop) (h0:P 0 S0)
  (hs : ∀ (j:Nat) (S:Sto),j < n->P j S -> ∃ S',e (ρ ++ [some (.int j)]) S=some (g j,S')/\P (j+1) S') :
  ∃ S',mFn bS (aa (cw (iR1 (aa a ag)) cTT e) ag) ρ S=some (yd n g,S' ++ [.lst ((aA n).map g)])/\P n S':=by
 obtain⟨S1,e1,h1⟩:=kM (e:=e) (ρ:=ρ) g P (aU 0 n) 0 [] S0 h0 fun j u S hj hp=>by
  have hl:j < n:=by have:=(af.mp hj).1;simpa [aU] using this
  have hu:(aU 0 n)[j]? = some (.int j):=by simp [aU,hl]
  rw [hu] at hj;cases hj
  simpa using hs j S hl (by simpa using hp)
 have hlen:(aU 0 n).length=n:=by simp [aU]
 simp only [hlen,cu,dQ] at e1 h1
 exact⟨S1,il (kH (kB ha hn) e1 (by rw [aI,bU];exact hn)),h1⟩
theorem Gy {ρ:Rho}{S S0:Sto}{a e:ME}{us:List U} (ha:a ρ S=some (.tup us,S0)) (hn:us.length < big) (g:Nat->U) (P:Nat->Sto->Prop) (h0:P 0 S0)
  (hs : ∀ (j:Nat) (u:U) (S:Sto),us[j]? = some u->P j S -> ∃ S',e (ρ ++ [some u]) S=some (g j,S')/\P (j+1) S') :
  ∃ S',mFn bS (aa (cw (iB a) cTT e) ag) ρ S=some (yd us.length g,S' ++ [.lst ((aA us.length).map g)])/\P us.length S':=by
 obtain⟨S1,e1,h1⟩:=kM (e:=e) (ρ:=ρ) g P us 0 [] S0 h0 fun j u S hj hp=>by
  simpa using hs j u S hj (by simpa using hp)
 simp only [cu,dQ] at e1 h1
 exact⟨S1,il (kH (it:=iB a) (us:=us) (by unfold iB;rw [ha];rfl) e1 (by rw [aI,bU];exact hn)),h1⟩
noncomputable def kU (m:Nat) (T:Nat->Nat->Nat) (i:Nat):U:=yd m fun j => .int (T i j)
noncomputable def tab (m:Nat) (T:Nat->Nat->Nat):U:=yd m (kU m T)
theorem kF {α:Type}{f:Nat->α}{m i:Nat} (h:i < m):atI ((aA m).map f) (i:Int)=some (f i):=by
 simp [atI,ixN,h]
theorem iq {n:Nat}{S:Sto} (h:0 < n) (hn:n < big) : ∃ S',bz [.int n] S=some (tab n (di n),S')/\Ex S S':=by
 have key : ∃ S',mFn bS (aa (cw (iR1 (aa (ae 0) ag)) cTT (mFn bS (aa (cw (iR1 (aa (ae 0) ag)) cTT (m2 oMod (m2 bV (ae 1) (ae 2)) (ae 0))) ag))) ag) [some (.int n)] S=some (yd n (kU n (di n)),S' ++ [.lst ((aA n).map (kU n (di n)))])/\Ex S S':=by
  refine Dc (S0:=S) (by simp [ae]) hn _ (fun _ S'=>Ex S S') (Ex.refl S) fun i S1 hi hx => ?_
  obtain⟨S2,e2,h2⟩:=Dc (ρ := [some (.int n),some (.int i)]) (S:=S1) (S0:=S1) (a:=ae 0) (e:=m2 oMod (m2 bV (ae 1) (ae 2)) (ae 0)) (n:=n) (by simp [ae]) hn (fun j => .int (di n i j)) (fun _ S'=>S'=S1) rfl fun j S' hj hx=>by
   refine⟨S',?_,hx⟩
   have h0:(0:Int) < n:=by omega
   simp only [m2,ae,List.cons_append,dQ,yT,yU,aE,bV,oMod,h0,if_true,di,kX,uZ]
  subst h2
  exact⟨S2 ++ [_],e2,hx.trans (Ex.push _ _)⟩
 obtain⟨S',e,hx⟩:=key
 refine⟨S' ++ [.lst ((aA n).map (kU n (di n)))],?_,hx.trans (Ex.push _ _)⟩
 simp only [bz,G.run,kf,cW,ed,lQ,bT,yY,Nat.sub_self,List.replicate_zero,dg,if_true,e,aE,tab]
end
end W
end
section
namespace W
open L2 G
section
theorem qI {n:Nat} (h:0 < n) (h2:n < 1000):oA (n:Int):=⟨by omega,by omega⟩
theorem oh {i j:Int} (h1 : -1000000000<=i) (h2:i<=1000000000):iF i j := .inl ⟨by omega,by omega⟩
theorem qG {n:Nat}{j:Int} (h:n < 1000000):iF (n:Int) j:=oh (by exact pI _) (by omega)
noncomputable def Agr (L:List Nat) (ρ0 ρ:Rho):Prop:=ρ.length=ρ0.length /\ ∀ i,i∉L->ρ[i]? = ρ0[i]?
theorem Agr.refl (L:List Nat) (ρ:Rho):Agr L ρ ρ:=⟨rfl,fun _ _=>rfl⟩
theorem Agr.set {L:List Nat}{ρ0 ρ:Rho}{i:Nat}{v:Option U} (h:Agr L ρ0 ρ) (hi:i∈L):Agr L ρ0 (ρ.set i v):=
 ⟨by rw [eN];exact h.1,fun j hj=>by rw [aB (by rintro rfl;exact hj hi)];exact h.2 j hj⟩
structure Sm (b:Nat) (S0 S:Sto):Prop where
 len:S0.length<=S.length
 same : ∀ m,m < b->S[m]? = S0[m]?
theorem Sm.trans {b:Nat}{S0 S1 S2:Sto} (a:Sm b S0 S1) (c:Sm b S1 S2):Sm b S0 S2:=⟨aK a.len c.len,fun m h=>(c.same m h).trans (a.same m h)⟩
theorem Sm.ex {b:Nat}{S0 S:Sto} (h:Ex S0 S) (hb:b<=S0.length):Sm b S0 S:=⟨h.len,fun m hm=>h.get (ah hm hb)⟩
theorem Sm.set {b n:Nat}{S0 S:Sto}{c:Cell} (h:Sm b S0 S) (hn:b<=n):Sm b S0 (S.set n c):=
 ⟨by rw [eN];exact h.len,fun m hm=>by rw [aB (by omega)];exact h.same m hm⟩
structure Wr (r:Nat) (S S':Sto):Prop where
 len:S.length<=S'.length
 same : ∀ m,m < S.length->m≠r->S'[m]? = S[m]?
theorem Wr.trans {r:Nat}{S S1 S2:Sto} (a:Wr r S S1) (b:Wr r S1 S2):Wr r S S2:=
 ⟨aK a.len b.len,fun m h1 h2=>(b.same m (ah h1 a.len) h2).trans (a.same m h1 h2)⟩
theorem Wr.refl (r:Nat) (S:Sto):Wr r S S:=⟨ak _,fun _ _ _=>rfl⟩
theorem Wr.ex {r:Nat}{S S':Sto} (h:Ex S S'):Wr r S S':=⟨h.len,fun m hm _=>h.get hm⟩
theorem Wr.set (r:Nat) (S:Sto) (c:Cell):Wr r S (S.set r c):=⟨by simp,fun m _ h=>aB (df h)⟩
theorem Wr.sm {r b:Nat}{S S':Sto} (h:Wr r S S') (hb:b<=r) (hr:b<=S.length):Sm b S S':=⟨h.len,fun m hm=>h.same m (by exact ah (by assumption) (by assumption)) (by omega)⟩
theorem lZ {ρ:Rho}{i:Nat}{v:Option U} (h:i < ρ.length):(ρ.set i v)[i]? = some v:=aN h
theorem var_eq {ρ:Rho}{S:Sto}{i:Nat}{u:U} (h:ρ[i]? = some (some u)):ae i ρ S=some (u,S):=by simp only [ae,h]
theorem uq {ρ:Rho}{S:Sto}{i:Nat}{a:ME}{n:Nat}{b:MS} (ha:a ρ S=some (.int n,S)) (h:n < big):d5 i (iR1 (aa a ag)) b ρ S=jE i b (aU 0 n) ρ S:=by
 unfold d5
 rw [kB ha h]
 rfl
theorem kz {ρ:Rho}{S:Sto}{i:Nat}{a:ME}{n:Nat}{b:MS} (ha:a ρ S=some (.int n,S)) (h:n < big) (P:Nat->Rho->Sto->Prop) (h0:P 0 ρ S)
  (st : ∀ (j:Nat) (ρ:Rho) (S:Sto),j < n->P j ρ S -> ∃ ρ' S',b (ρ.set i (some (.int j))) S=some (.nx,ρ',S')/\P (j+1) ρ' S') :
  ∃ ρ' S',d5 i (iR1 (aa a ag)) b ρ S=some (.nx,ρ',S')/\P n ρ' S':=by
 rw [uq ha h]
 obtain⟨ρ',S',e,q⟩:=mG (i:=i) (b:=b) P (aU 0 n) 0 ρ S h0 fun j u ρ S hj hp=>by
  have hl:j < n:=by have:=(af.mp hj).1;simpa [aU] using this
  have hu:(aU 0 n)[j]? = some (.int j):=by simp [aU,hl]
  rw [hu] at hj;cases hj
  simpa using st j ρ S hl (by simpa using hp)
 have hlen:(aU 0 n).length=n:=by simp [aU]
 rw [hlen,cu] at q
 exact⟨ρ',S',e,q⟩
theorem append_eq {ρ:Rho}{S S1:Sto}{o a:ME}{r:Nat}{u:U}{row:List U} (ho:o ρ S=some (.ref r,S)) (ha:a ρ S=some (u,S1)) (hr:S[r]? = some (Cell.lst row)) (hr1:S1[r]? = some (Cell.lst row)) (hl:row.length < big) :
  dy (mML cm o (aa a ag)) ρ S=some (.nx,ρ,S1.set r (Cell.lst (row ++ [u]))):=by
 simp only [dy,mML,ho,aE,getL,hr,ao,lq ha,cm,hr1,hl,if_true]
theorem jW {ρ:Rho}{S:Sto}{a:ME}{r:Nat}{row:List U} (ha:a ρ S=some (.ref r,S)) (hr:S[r]? = some (Cell.lst row)):mFn bS (aa a ag) ρ S=some (.tup row,S):=by
 simp only [mFn,lq ha,aE,bS,du,getL,hr,bx]
theorem build {fs rs is js:Nat}{L:List Nat}{ρ0:Rho}{S0:Sto}{bIn:MS}{a:ME}{m:Nat}{T:Nat->Nat->Nat} (hm:m < big) (h1:rs∈L) (h2:is∈L) (h3:js∈L) (h4:fs∉L) (d1:rs≠is) (d2:js≠is) (d3:js≠rs)
  (l1:rs < ρ0.length) (l2:is < ρ0.length) (l3:js < ρ0.length) (hf:ρ0[fs]? = some (some (.ref S0.length)))
  (ha : ∀ ρ S,Agr L ρ0 ρ->Sm S0.length S0 S->a ρ S=some (.int m,S))
  (hb : ∀ (i j r:Nat) (ρ:Rho) (S:Sto) (row:List U),i < m->j < m->Agr L ρ0 ρ->ρ[is]? = some (some (.int i))->ρ[js]? = some (some (.int j))->ρ[rs]? = some (some (.ref r))->Sm S0.length S0 S->S0.length < r->S[r]? = some (Cell.lst row)->row.length < big ->
   ∃ ρ' S',bIn ρ S=some (.nx,ρ',S')/\Agr L ρ0 ρ'/\ρ'[is]? = some (some (.int i))/\ρ'[rs]? = some (some (.ref r))/\Wr r S S'/\S'[r]? = some (Cell.lst (row ++ [.int (T i j)]))) :
  ∃ ρ' S',d5 is (iR1 (aa a ag)) (aZ (br rs (cf ag)) (aZ (d5 js (iR1 (aa a ag)) bIn) (dy (mML cm (ae fs) (aa (mFn bS (aa (ae rs) ag)) ag))))) ρ0 (S0 ++ [Cell.lst []])=some (.nx,ρ',S') /\
   Agr L ρ0 ρ'/\Sm S0.length S0 S'/\S'[S0.length]? = some (Cell.lst ((aA m).map (kU m T))):=by
 have s0:Sm S0.length S0 (S0 ++ [Cell.lst []]):=Sm.ex (Ex.push _ _) (ak _)
 refine kz (P:=fun k ρ S=>Agr L ρ0 ρ/\Sm S0.length S0 S/\S0.length < S.length/\S[S0.length]? = some (Cell.lst ((aA k).map (kU m T)))) (ha _ _ (Agr.refl _ _) s0) hm ⟨Agr.refl _ _,s0,by simp,by rw [aq (ak _)];simp⟩ ?_ |>.imp fun ρ' h=>h.imp fun S' h=>⟨h.1,h.2.1,h.2.2.1,h.2.2.2.2⟩
 rintro i ρ S hi ⟨g1,g2,g3,g4⟩
 have r0:S.length < (S ++ [Cell.lst ([]:List U)]).length:=by simp
 have e0:br rs (cf ag) (ρ.set is (some (.int i))) S=some (.nx,(ρ.set is (some (.int i))).set rs (some (.ref S.length)),S ++ [Cell.lst []]):=by
  have hz:([]:List U).length<=big:=eA _
  simp only [br,cf,ag,aE,hz,if_true]
 have ga:Agr L ρ0 ((ρ.set is (some (.int i))).set rs (some (.ref S.length))):=(g1.set h2).set h1
 have gs:Sm S0.length S0 (S ++ [Cell.lst ([]:List U)]):=g2.trans (Sm.ex (Ex.push _ _) g2.len)
 obtain⟨ρ1,S1,e1,q1,q2,q3,q4,q5⟩:=kz (b:=bIn) (i:=js) (P:=fun k ρ1 S1=>Agr L ρ0 ρ1/\ρ1[is]? = some (some (.int i))/\ρ1[rs]? = some (some (.ref S.length))/\Wr S.length (S ++ [Cell.lst ([]:List U)]) S1/\S1[S.length]? = some (Cell.lst ((aA k).map fun j => .int (T i j))))
  (ha _ _ ga gs) hm ⟨ga,by rw [aB d1,lZ (by rw [g1.1];exact l2)],by rw [lZ (by rw [eN,g1.1];exact l1)],Wr.refl _ _,by rw [aq (ak _)];simp⟩ (by
   rintro j ρ1 S1 hj ⟨q1,q2,q3,q4,q5⟩
   have sm1:Sm S0.length S0 S1:=gs.trans (q4.sm (aW g3) (by simp;omega))
   obtain⟨ρ2,S2,f1,f2,f3,f4,f5,f6⟩:=hb i j S.length (ρ1.set js (some (.int j))) S1 _ hi hj (q1.set h3) (by rw [aB d2];exact q2) (lZ (by rw [q1.1];exact l3)) (by rw [aB d3];exact q3) sm1 g3 q5 (by rw [aI,bU];exact cM (by assumption) (by assumption))
   exact⟨ρ2,S2,f1,f2,f3,f4,q4.trans f5,by rw [f6,dr,bF];rfl⟩)
 have g5:S1[S0.length]? = some (Cell.lst ((aA i).map (kU m T))):=by
  rw [q4.same _ (by simp;exact fb (by assumption)) (by exact bg (by assumption)),(Ex.push S _).get g3];exact g4
 have sm1:Sm S0.length S0 S1:=gs.trans (q4.sm (aW g3) (by simp;omega))
 have hfv:ae fs ρ1 S1=some (.ref S0.length,S1):=var_eq (by rw [q1.2 fs h4];exact hf)
 have e2:=append_eq (o:=ae fs) hfv (jW (a:=ae rs) (var_eq q3) q5) g5 g5 (by rw [aI,bU];exact cM (by assumption) (by assumption))
 refine⟨ρ1,S1.set S0.length (Cell.lst ((aA (i+1)).map (kU m T))),?_,q1,sm1.set (ak _),?_,?_⟩
 ·simp only [aZ,e0,e1,e2]
  rw [dr,bF];rfl
 ·rw [eN];have:=q4.len;simp at this;exact cM (by assumption) (by assumption)
 ·exact aN (by have:=q4.len;simp at this;exact cM (by assumption) (by assumption))
noncomputable def n9:MS:=aZ (br 5 (m2 oMod (m2 bV (m2 oMod (ae 2) (ae 0)) (m2 dX (m2 oIx (cf (aa (mC (.int 1)) (aa (m1 lC (mC (.int 1))) ag))) (m2 oDiv (ae 2) (ae 0))) (m2 oMod (ae 4) (ae 0)))) (ae 0))) (dy (mML cm (ae 3) (aa (m2 bV (ae 5) (m2 dX (ae 0) (m2 oMod (m2 bV (m2 oDiv (ae 2) (ae 0)) (m2 oDiv (ae 4) (ae 0))) (mC (.int 2))))) ag)))
theorem yw {n i j c:Int}{f r:Nat}{x y:Option U}{S:Sto}{row:List U} (h0:0 < n) (hd:oA n) (hc:atI [U.int 1,U.int (-1)] (i / n)=some (.int c)) (k1:iF c (j % n)) (k2:iF n ((i / n+j / n) % 2))
  (hr:(S ++ [Cell.lst [U.int 1,U.int (-1)]])[r]? = some (Cell.lst row)) (hl:row.length < big) :
  n9 ([some (U.int n),some (U.ref f),some (U.int i),some (U.ref r),x,y].set 4 (some (U.int j))) S =
   some (Fl.nx,[some (U.int n),some (U.ref f),some (U.int i),some (U.ref r),some (U.int j),some (U.int ((i % n+c*(j % n)) % n))],(S ++ [Cell.lst [U.int 1,U.int (-1)]]).set r (Cell.lst (row ++ [U.int ((i % n+c*(j % n)) % n+n*((i / n+j / n) % 2))]))):=by
 have hb2:2<=big:=by decide
 simp [n9,aZ,br,m2,m1,ae,mC,cf,aa,ag,bnd,oMod,bV,dX,oDiv,oIx,fP,lC,du,getL,h0,hd,hb2,hc,k1,k2,dy,mML,cm,hr,hl]
theorem Ah {n i j f r:Nat}{x y:Option U}{S:Sto}{row:List U} (hn:0 < n) (hn2:n < 1000) (hi:i < 2*n) (hj:j < 2*n) (hr:S[r]? = some (Cell.lst row)) (hl:row.length < big) :
  ∃ z,n9 ([some (U.int n),some (U.ref f),some (U.int i),some (U.ref r),x,y].set 4 (some (U.int j))) S =
   some (Fl.nx,[some (U.int n),some (U.ref f),some (U.int i),some (U.ref r),some (U.int j),z],(S ++ [Cell.lst [U.int 1,U.int (-1)]]).set r (Cell.lst (row ++ [U.int (fE n i j:Nat)]))):=by
 have hd:=qI hn hn2
 have h0:(0:Int) < n:=by omega
 have hr2:=(Ex.push S (Cell.lst [U.int 1,U.int (-1)])).some hr
 have hk:iF (n:Int) (((i:Int) / n+j / n) % 2):=qG (by exact ah (by assumption) (by decide))
 have hc : ∃ c:Int,atI [U.int 1,U.int (-1)] ((i:Int) / n)=some (.int c)/\iF c ((j:Int) % n)/\((i:Int) % n+c*((j:Int) % n)) % n+n*(((i:Int) / n+j / n) % 2)=(fE n i j:Nat):=by
  rcases half hi with⟨h1,h2,h3⟩ | ⟨h1,h2,h3⟩
  ·refine⟨1,?_,oh (by decide) (by decide),?_⟩
   ·have:(i:Int) / n=0:=by rw [<- sM,h3];rfl
    rw [this];rfl
   ·unfold fE
    rw [if_pos h1,Int.one_mul]
    push_cast
    rfl
  ·refine⟨-1,?_,oh (by decide) (by decide),?_⟩
   ·have:(i:Int) / n=1:=by rw [<- sM,h3];rfl
    rw [this];rfl
   ·unfold fE
    have hjm:j % n < n:=jx _ hn
    rw [if_neg (by omega)]
    have e1:((i:Int) % n + -1*((j:Int) % n)) % n=((i % n+(n - j % n)) % n:Nat):=by
     have e2:((n - j % n:Nat):Int)=(n:Int) - (j:Int) % n:=by omega
     rw [kX,uZ,e2,kX]
     rw [show (i:Int) % n+((n:Int) - (j:Int) % n)=((i:Int) % n + -1*((j:Int) % n))+n by omega,Int.add_emod_right]
    rw [e1]
    push_cast
    rfl
 obtain⟨c,c1,c2,c3⟩:=hc
 rw [<- c3]
 exact⟨_,yw h0 hd c1 c2 hk hr2 hl⟩
end
end W
end
section
namespace W
open L2 G
section
theorem bq {a b:MS}{ρ ρ1:Rho}{S S1:Sto} (h:a ρ S=some (.nx,ρ1,S1)):aZ a b ρ S=b ρ1 S1:=by simp only [aZ,h]
theorem dC {e:ME}{ρ:Rho}{S S1:Sto}{u:U} (h:e ρ S=some (u,S1)):cW e ρ S=some (.rt u,ρ,S1):=by simp only [cW,h,aE]
theorem bP {e:ME}{ρ:Rho}{S S1:Sto}{u:U}{i:Nat} (h:e ρ S=some (u,S1)):br i e ρ S=some (.nx,ρ.set i (some u),S1):=by simp only [br,h,aE]
theorem lY {ρ:Rho}{S:Sto}:cf ag ρ S=some (.ref S.length,S ++ [Cell.lst []]):=by
 have hz:([]:List U).length<=big:=eA _
 simp only [cf,ag,aE,hz,if_true]
theorem dB {k n:Nat}{b:MS}{us:List U}{S S1:Sto}{u:U}{ρ:Rho} (hl:us.length=k) (h:b (us.map some++ay (n - k) none) S=some (.rt u,ρ,S1)):G.run k n b us S=some (u,S1):=by
 simp only [G.run,hl,if_true,h]
theorem Sm.toEx {S S':Sto} (h:Sm S.length S S'):Ex S S':=by
 refine⟨S'.drop S.length,List.ext_getElem? fun i => ?_⟩
 by_cases hi:i < S.length
 ·rw [aQ hi];exact h.same i hi
 ·rw [aq (by exact dn (by assumption)),List.getElem?_drop];congr 1;omega
theorem JP {ρ:Rho} (h:ρ.length=6) : ∃ a b c d e f,ρ = [a,b,c,d,e,f]:=by
 match ρ,h with
 | [a,b,c,d,e,f],_=>exact⟨a,b,c,d,e,f,rfl⟩
theorem oC {n:Nat}{S:Sto} (hn:0 < n) (hn2:n < 1000) : ∃ S',cU [.int n] S=some (tab (2*n) (fE n),S')/\Ex S S':=by
 have hbig:2*n < big:=by unfold big;omega
 obtain⟨ρ1,S1,e1,q1,q2,q3⟩:=build (fs:=1) (rs:=3) (is:=2) (js:=4) (L := [2,3,4,5]) (ρ0 := [some (.int n),some (.ref S.length),none,none,none,none]) (S0:=S) (bIn:=n9) (a:=m2 dX (mC (.int 2)) (ae 0)) (m:=2*n) (T:=fE n)
  hbig (by decide) (by decide) (by decide) (by decide) (by decide) (by decide) (by decide) (by simp) (by simp) (by simp) rfl
  (fun ρ S' g s=>by
   have h0:ρ[0]? = some (some (.int n)):=g.2 0 (by decide)
   have hk:iF 2 (n:Int):=oh (by decide) (by decide)
   simp only [m2,mC,aE,var_eq h0,dX,hk,if_true]
   rfl)
  (fun i j r ρ S' row hi hj g gi gj gr s hr he hl=>by
   obtain⟨a,b,c,d,e,f,rfl⟩:=JP g.1
   have h0:some a=some (some (.int n)):=g.2 0 (by decide)
   have h1:some b=some (some (.ref S.length)):=g.2 1 (by decide)
   simp only [ei,yT,yU] at h0 h1 gi gj gr
   subst h0 h1 gi gj gr
   obtain⟨z,ez⟩:=Ah (f:=S.length) (x:=none) (y:=f) hn hn2 hi hj he hl
   refine⟨_,_,ez,⟨rfl,fun k hk => ?_⟩,rfl,rfl,(Wr.ex (Ex.push _ _)).trans (Wr.set _ _ _),?_⟩
   ·match k with
    | 0=>rfl
    | 1=>rfl
    | 2=>exact absurd (by decide) hk
    | 3=>exact absurd (by decide) hk
    | 4=>exact absurd (by decide) hk
    | 5=>exact absurd (by decide) hk
    | k+6=>rfl
   ·exact aN (by have:=(af.mp he).1;simp;exact fb (by assumption)))
 have e2:mFn bS (aa (ae 1) ag) ρ1 S1=some (tab (2*n) (fE n),S1):=jW (var_eq (by rw [q1.2 1 (by decide)];rfl)) q3
 refine⟨S1,dB (ρ:=ρ1) rfl ?_,?_⟩
 ·show kj [some (.int n),none,none,none,none,none] S=_
  exact (bq (bP lY)).trans ((bq e1).trans (dC e2))
 ·exact q2.toEx
end
end W
end
section
namespace W
open L2 G
section
section
variable {ρ:Rho}{S S1 S2:Sto}{a b:ME}
theorem op2 {f:F2}{x y:U}{r:Res U} (ha:a ρ S=some (x,S1)) (hb:b ρ S1=some (y,S2)) (h:f x y S2=r):m2 f a b ρ S=r:=by simp only [m2,ha,hb,aE,h]
theorem BF {us:List U}{z:Int}{u:U} (ha:a ρ S=some (.tup us,S1)) (hb:b ρ S1=some (.int z,S2)) (h:atI us z=some u):m2 oIx a b ρ S=some (u,S2):=op2 ha hb (by simp only [oIx,fP,du,ao,h,bx])
theorem AE {n:Nat}{us:List U}{z:Int}{u:U} (ha:a ρ S=some (.ref n,S1)) (hb:b ρ S1=some (.int z,S2)) (hn:S2[n]? = some (Cell.lst us)) (h:atI us z=some u):m2 oIx a b ρ S=some (u,S2):=op2 ha hb (by simp only [oIx,fP,du,getL,hn,ao,h,bx])
theorem Hw {x y:Int} (ha:a ρ S=some (.int x,S1)) (hb:b ρ S1=some (.int y,S2)):m2 bV a b ρ S=some (.int (x+y),S2):=op2 ha hb rfl
theorem wL {x y:Int} (ha:a ρ S=some (.int x,S1)) (hb:b ρ S1=some (.int y,S2)):m2 kT a b ρ S=some (.int (x - y),S2):=op2 ha hb rfl
theorem HV {x y:Int} (ha:a ρ S=some (.int x,S1)) (hb:b ρ S1=some (.int y,S2)) (h:iF x y):m2 dX a b ρ S=some (.int (x*y),S2):=op2 ha hb (if_pos h)
theorem GW {x y:Int} (ha:a ρ S=some (.int x,S1)) (hb:b ρ S1=some (.int y,S2)) (h:oA y):m2 oDiv a b ρ S=some (.int (x / y),S2):=op2 ha hb (if_pos h)
theorem DF {x y:Int} (ha:a ρ S=some (.int x,S1)) (hb:b ρ S1=some (.int y,S2)) (h:0 < y):m2 oMod a b ρ S=some (.int (x % y),S2):=op2 ha hb (if_pos h)
theorem c_i {z:Int}:mC (.int z) ρ S=some (.int z,S):=rfl
theorem Hi {us:List U} (ha:a ρ S=some (.tup us,S1)):mFn cQ (aa a ag) ρ S=some (.int us.length,S1):=by
 simp only [mFn,lq ha,aE,cQ,fP,du,bx]
theorem len_tab {m:Nat}{T:Nat->Nat->Nat} (ha:a ρ S=some (tab m T,S1)):mFn cQ (aa a ag) ρ S=some (.int m,S1):=by
 rw [Hi (us:=(aA m).map (kU m T)) ha,aI,bU]
theorem gL {m i:Nat}{T:Nat->Nat->Nat} (hi:i < m) (ha:a ρ S=some (tab m T,S1)) (hb:b ρ S1=some (.int i,S2)):m2 oIx a b ρ S=some (kU m T i,S2):=BF ha hb (kF hi)
theorem iO {m i j:Nat}{T:Nat->Nat->Nat} (hj:j < m) (ha:a ρ S=some (kU m T i,S1)) (hb:b ρ S1=some (.int j,S2)):m2 oIx a b ρ S=some (.int (T i j),S2):=BF ha hb (kF hj)
theorem ot {x y:Nat} (ha:a ρ S=some (.int x,S1)) (hb:b ρ S1=some (.int y,S2)) (h:0 < y) (h2:y < 1000):m2 oDiv a b ρ S=some (.int (x / y:Nat),S2):=by rw [GW ha hb (qI h h2),sM]
theorem xt {x y:Nat} (ha:a ρ S=some (.int x,S1)) (hb:b ρ S1=some (.int y,S2)) (h:0 < y):m2 oMod a b ρ S=some (.int (x % y:Nat),S2):=by rw [DF ha hb (by omega),kX]
theorem wZ {x y:Nat} (ha:a ρ S=some (.int x,S1)) (hb:b ρ S1=some (.int y,S2)) (h:x < 1000000):m2 dX a b ρ S=some (.int (x*y:Nat),S2):=by rw [HV ha hb (qG h),Int.natCast_mul]
theorem add_n {x y:Nat} (ha:a ρ S=some (.int x,S1)) (hb:b ρ S1=some (.int y,S2)):m2 bV a b ρ S=some (.int (x+y:Nat),S2):=by rw [Hw ha hb,uZ]
end
theorem Agr.of {L:List Nat}{ρ0 ρ:Rho}{i:Nat}{v:Option U} (h:Agr L ρ0 ρ) (hi:i∉L) (e:ρ0[i]? = some v):ρ[i]? = some v:=(h.2 i hi).trans e
noncomputable def Ez:MS:=aZ (br 7 (m2 oIx (m2 oIx (ae 0) (m2 oDiv (ae 4) (ae 2))) (m2 oDiv (ae 6) (ae 2)))) (dy (mML cm (ae 5) (aa (m2 bV (m2 dX (ae 7) (ae 2)) (m2 oIx (m2 oIx (ae 1) (m2 oMod (ae 4) (ae 2))) (m2 oMod (ae 6) (ae 2)))) ag)))
theorem xj {k m:Nat}{A B:Nat->Nat->Nat}{S:Sto} (hk:0 < k) (hk2:k < 1000) (hm:0 < m) (hm2:m < 1000) (ca : ∀ i j,i < k->j < k->A i j < k) : ∃ S',fA [tab k A,tab m B] S=some (tab (k*m) (jC m A B),S')/\Ex S S':=by
 have hkm:k*m < 1000000:=by
  calc k*m<=999*m:=fD m (by exact gR (by assumption))
   _<=999*999:=i5 999 (by exact gR (by assumption))
   _ < 1000000:=by decide
 have hbig:k*m < big:=by unfold big;exact ah (by assumption) (by decide)
 have dl : ∀ i,i < k*m->i / m < k:=fun i hi=>iD (by rw [eM];exact hi)
 have rl : ∀ i,i % m < m:=fun i=>jx _ hm
 obtain⟨ρ1,S1,e1,q1,q2,q3⟩:=build (fs:=3) (rs:=5) (is:=4) (js:=6) (L := [4,5,6,7]) (ρ0 := [some (tab k A),some (tab m B),some (.int m),some (.ref S.length),none,none,none,none]) (S0:=S) (bIn:=Ez) (a:=m2 dX (mFn cQ (aa (ae 0) ag)) (ae 2)) (m:=k*m) (T:=jC m A B)
  hbig (by decide) (by decide) (by decide) (by decide) (by decide) (by decide) (by decide) (by simp) (by simp) (by simp) rfl
  (fun ρ S' g s=>wZ (len_tab (var_eq (g.of (by decide) rfl))) (var_eq (g.of (by decide) rfl)) (by exact ah (by assumption) (by decide)))
  (fun i j r ρ S' row hi hj g gi gj gr s hr he hl=>by
   have v0 : ∀ S',ae 0 ρ S'=some (tab k A,S'):=fun S'=>var_eq (g.of (by decide) rfl)
   have v2 : ∀ S',ae 2 ρ S'=some (.int m,S'):=fun S'=>var_eq (g.of (by decide) rfl)
   have e7:m2 oIx (m2 oIx (ae 0) (m2 oDiv (ae 4) (ae 2))) (m2 oDiv (ae 6) (ae 2)) ρ S'=some (.int (A (i / m) (j / m)),S'):=
    iO (dl j hj) (gL (dl i hi) (v0 _) (ot (var_eq gi) (v2 _) hm hm2)) (ot (var_eq gj) (v2 _) hm hm2)
   have hlen:ρ.length=8:=g.1
   have g':Agr [4,5,6,7] _ (ρ.set 7 (some (.int (A (i / m) (j / m))))):=g.set (by decide)
   have w2 : ∀ S',ae 2 (ρ.set 7 (some (.int (A (i / m) (j / m))))) S'=some (.int m,S'):=fun S'=>var_eq (g'.of (by decide) rfl)
   have w1 : ∀ S',ae 1 (ρ.set 7 (some (.int (A (i / m) (j / m))))) S'=some (tab m B,S'):=fun S'=>var_eq (g'.of (by decide) rfl)
   have w7 : ∀ S',ae 7 (ρ.set 7 (some (.int (A (i / m) (j / m))))) S'=some (.int (A (i / m) (j / m)),S'):=fun S'=>var_eq (lZ (by omega))
   have n4:(ρ.set 7 (some (.int (A (i / m) (j / m)))))[4]? = some (some (.int i)):=by rw [aB (by decide)];exact gi
   have n5:(ρ.set 7 (some (.int (A (i / m) (j / m)))))[5]? = some (some (.ref r)):=by rw [aB (by decide)];exact gr
   have n6:(ρ.set 7 (some (.int (A (i / m) (j / m)))))[6]? = some (some (.int j)):=by rw [aB (by decide)];exact gj
   have hA:A (i / m) (j / m) < 1000000:=cM (ca _ _ (dl i hi) (dl j hj)) (by exact ah (by assumption) (by decide))
   have ev:m2 bV (m2 dX (ae 7) (ae 2)) (m2 oIx (m2 oIx (ae 1) (m2 oMod (ae 4) (ae 2))) (m2 oMod (ae 6) (ae 2))) (ρ.set 7 (some (.int (A (i / m) (j / m))))) S'=some (.int (jC m A B i j:Nat),S'):=
    add_n (wZ (w7 _) (w2 _) hA) (iO (rl j) (gL (rl i) (w1 _) (xt (var_eq n4) (w2 _) hm)) (xt (var_eq n6) (w2 _) hm))
   exact⟨_,_,(bq (bP e7)).trans (append_eq (var_eq n5) ev he he hl),g',n4,n5,Wr.set _ _ _,aN (af.mp he).1⟩)
 have e2:mFn bS (aa (ae 3) ag) ρ1 S1=some (tab (k*m) (jC m A B),S1):=jW (var_eq (q1.of (by decide) rfl)) q3
 refine⟨S1,dB (ρ:=ρ1) rfl ?_,q2.toEx⟩
 show lD [some (tab k A),some (tab m B),none,none,none,none,none,none] S=_
 exact (bq (bP (len_tab (var_eq rfl)))).trans ((bq (bP lY)).trans ((bq e1).trans (dC e2)))
end
end W
end
section
namespace W
open L2 G
section
noncomputable def nk:Nat->Nat->Nat:=fun a b=>([[0,0,0,0],[0,1,0,1],[0,1,1,0],[0,0,1,1]].getD a []).getD b 0
noncomputable def vT:Nat->Nat->Nat:=fun a b=>([[0,1,2,3],[1,0,3,2],[2,3,0,1],[3,2,1,0]].getD a []).getD b 0
noncomputable def tj (i j:Nat):Nat:=2*vT (i / 2) (j / 2)+(i+j+nk (i / 2) (j / 2)) % 2
theorem z0:((aA 8).all fun i=>(aA 8).all fun j=>tj i j == eT i j)=true:=by decide +kernel
theorem yq {i j:Nat} (hi:i < 8) (hj:j < 8):tj i j=eT i j:=by
 have h:=bA.mp (bA.mp z0 i (aP.mpr hi)) j (aP.mpr hj)
 exact eq_of_beq h
noncomputable def CF:MS:=aZ (br 6 (m2 oMod (m2 bV (m2 bV (ae 3) (ae 5)) (m2 oIx (m2 oIx (ae 0) (m2 oDiv (ae 3) (mC (.int 2)))) (m2 oDiv (ae 5) (mC (.int 2))))) (mC (.int 2)))) (dy (mML cm (ae 4) (aa (m2 bV (m2 dX (mC (.int 2)) (m2 oIx (m2 oIx (ae 1) (m2 oDiv (ae 3) (mC (.int 2)))) (m2 oDiv (ae 5) (mC (.int 2))))) (ae 6)) ag)))
noncomputable def oB (T:Nat->Nat->Nat) (a:Nat):Cell := .lst ((aA 4).map fun b => .int (T a b))
noncomputable def zq (s:Nat):Cell := .lst ((aA 4).map fun a => .ref (s+a))
noncomputable def ten (s:Nat):Sto := [oB nk 0,oB nk 1,oB nk 2,oB nk 3,zq s,oB vT 0,oB vT 1,oB vT 2,oB vT 3,zq (s+5)]
theorem look {S S':Sto}{n k:Nat}{c:Cell} (s:Sm (S++ten S.length).length (S++ten S.length) S') (hk:(ten S.length)[k]? = some c) (hn:n=S.length+k):S'[n]? = some c:=by
 have hl:k < (ten S.length).length:=(af.mp hk).1
 rw [s.same n (by rw [be];omega),aq (by omega),hn]
 rw [show S.length+k - S.length=k by omega];exact hk
theorem tY {S S':Sto}{ρ:Rho}{v p q x y:Nat}{T:Nat->Nat->Nat} (hv:ρ[v]? = some (some (.ref x))) (hx:S'[x]? = some (zq y)) (hy : ∀ a,a < 4->S'[y+a]? = some (oB T a)) {i j:Nat} (hi:ρ[p]? = some (some (.int i))) (hj:ρ[q]? = some (some (.int j))) (li:i < 8) (lj:j < 8) :
  m2 oIx (m2 oIx (ae v) (m2 oDiv (ae p) (mC (.int 2)))) (m2 oDiv (ae q) (mC (.int 2))) ρ S'=some (.int (T (i / 2) (j / 2)),S'):=
 AE (AE (var_eq hv) (ot (y:=2) (var_eq hi) c_i (by decide) (by decide)) hx (kF (by omega))) (ot (y:=2) (var_eq hj) c_i (by decide) (by decide)) (hy _ (by omega)) (kF (by omega))
theorem iG {ρ:Rho}{S:Sto}{x y z w:Int}:cf (aa (mC (.int x)) (aa (mC (.int y)) (aa (mC (.int z)) (aa (mC (.int w)) ag)))) ρ S=some (.ref S.length,S ++ [Cell.lst [.int x,.int y,.int z,.int w]]):=by
 have hz:4<=big:=by decide
 simp [cf,aa,mC,ag,aE,hz]
theorem t7 {ρ:Rho}{S S1 S2 S3 S4:Sto}{a b c d:ME}{x y z w:U} (ha:a ρ S=some (x,S1)) (hb:b ρ S1=some (y,S2)) (hc:c ρ S2=some (z,S3)) (hd:d ρ S3=some (w,S4)) :
  cf (aa a (aa b (aa c (aa d ag)))) ρ S=some (.ref S4.length,S4 ++ [Cell.lst [x,y,z,w]]):=by
 have hz:4<=big:=by decide
 simp only [cf,aa,ag,aE,ha,hb,hc,hd]
 simp [hz]
theorem wb {S:Sto} : ∃ S',ff [] S=some (tab 8 eT,S')/\Ex S S':=by
 have e0:=t7 (ρ := [none,none,none,none,none,none,none]) (S:=S) (iG (x:=0) (y:=0) (z:=0) (w:=0)) (iG (x:=0) (y:=1) (z:=0) (w:=1)) (iG (x:=0) (y:=1) (z:=1) (w:=0)) (iG (x:=0) (y:=0) (z:=1) (w:=1))
 have e1:=t7 (ρ := [some (.ref (S.length+4)),none,none,none,none,none,none]) (S:=S++(ten S.length).take 5) (iG (x:=0) (y:=1) (z:=2) (w:=3)) (iG (x:=1) (y:=0) (z:=3) (w:=2)) (iG (x:=2) (y:=3) (z:=0) (w:=1)) (iG (x:=3) (y:=2) (z:=1) (w:=0))
 have e0':=e0.trans (b:=_) (c:=some (U.ref (S.length+4),S++(ten S.length).take 5)) (by simp only [bf,be];rfl)
 have e1':=e1.trans (b:=_) (c:=some (U.ref (S.length+9),S++ten S.length)) (by simp only [bf,be];rfl)
 obtain⟨ρ1,S1,f1,q1,q2,q3⟩:=build (fs:=2) (rs:=4) (is:=3) (js:=5) (L := [3,4,5,6]) (ρ0 := [some (.ref (S.length+4)),some (.ref (S.length+9)),some (.ref (S++ten S.length).length),none,none,none,none]) (S0:=S++ten S.length) (bIn:=CF) (a:=mC (.int 8)) (m:=8) (T:=eT)
  (by decide) (by decide) (by decide) (by decide) (by decide) (by decide) (by decide) (by decide) (by simp) (by simp) (by simp) rfl
  (fun ρ S' g s=>rfl)
  (fun i j r ρ S' row hi hj g gi gj gr s hr he hl=>by
   have hlen:ρ.length=7:=g.1
   have hs : ∀ a,a < 4->S'[S.length+a]? = some (oB nk a):=fun a ha=>look (k:=a) s (by match a,ha with | 0,_=>rfl | 1,_=>rfl | 2,_=>rfl | 3,_=>rfl) rfl
   have hkk : ∀ a,a < 4->S'[S.length+5+a]? = some (oB vT a):=fun a ha=>look (k:=5+a) s (by match a,ha with | 0,_=>rfl | 1,_=>rfl | 2,_=>rfl | 3,_=>rfl) (by omega)
   have t1:=tY (S:=S) (T:=nk) (v:=0) (g.of (by decide) rfl) (look (k:=4) s rfl rfl) hs gi gj hi hj
   have e6:m2 oMod (m2 bV (m2 bV (ae 3) (ae 5)) (m2 oIx (m2 oIx (ae 0) (m2 oDiv (ae 3) (mC (.int 2)))) (m2 oDiv (ae 5) (mC (.int 2))))) (mC (.int 2)) ρ S'=some (.int ((i+j+nk (i / 2) (j / 2)) % 2:Nat),S'):=
    xt (y:=2) (add_n (add_n (var_eq gi) (var_eq gj)) t1) c_i (by decide)
   have g':Agr [3,4,5,6] _ (ρ.set 6 (some (.int ((i+j+nk (i / 2) (j / 2)) % 2:Nat)))):=g.set (by decide)
   have n3:(ρ.set 6 (some (.int ((i+j+nk (i / 2) (j / 2)) % 2:Nat))))[3]? = some (some (.int i)):=by rw [aB (by decide)];exact gi
   have n4:(ρ.set 6 (some (.int ((i+j+nk (i / 2) (j / 2)) % 2:Nat))))[4]? = some (some (.ref r)):=by rw [aB (by decide)];exact gr
   have n5:(ρ.set 6 (some (.int ((i+j+nk (i / 2) (j / 2)) % 2:Nat))))[5]? = some (some (.int j)):=by rw [aB (by decide)];exact gj
   have t2:=tY (S:=S) (T:=vT) (v:=1) (g'.of (by decide) rfl) (look (k:=9) s rfl rfl) hkk n3 n5 hi hj
   have ev:m2 bV (m2 dX (mC (.int 2)) (m2 oIx (m2 oIx (ae 1) (m2 oDiv (ae 3) (mC (.int 2)))) (m2 oDiv (ae 5) (mC (.int 2))))) (ae 6) (ρ.set 6 (some (.int ((i+j+nk (i / 2) (j / 2)) % 2:Nat)))) S'=some (.int (eT i j:Nat),S'):=by
    rw [<- yq hi hj]
    exact add_n (wZ (x:=2) c_i t2 (by decide)) (var_eq (lZ (by omega)))
   exact⟨_,_,(bq (bP e6)).trans (append_eq (var_eq n4) ev he he hl),g',n3,n4,Wr.set _ _ _,aN (af.mp he).1⟩)
 have f2:mFn bS (aa (ae 2) ag) ρ1 S1=some (tab 8 eT,S1):=jW (var_eq (q1.of (by decide) rfl)) q3
 refine⟨S1,dB (ρ:=ρ1) rfl ?_,Ex.trans ⟨ten S.length,rfl⟩ q2.toEx⟩
 show iQ [none,none,none,none,none,none,none] S=_
 exact (bq (bP e0')).trans ((bq (bP e1')).trans ((bq (bP lY)).trans ((bq f1).trans (dC f2))))
end
end W
end
section
namespace W
open L2 G
section
theorem qO {e:ME}{ρ:Rho} (P:List U->Sto->Prop) : ∀ (us acc:List U) (S:Sto),P acc S ->
  (∀ (k:Nat) (acc':List U) (u:U) (S:Sto),us[k]? = some u->acc'.length=acc.length+k->P acc' S -> ∃ v S',e (ρ ++ [some u]) S=some (v,S')/\P (acc' ++ [v]) S') ->
  ∃ ys S',d7 cTT e ρ us acc S=some (ys,S')/\P ys S'/\ys.length=acc.length+us.length
 | [],acc,S,h,_=>⟨acc,S,rfl,h,by simp⟩
 | u::us,acc,S,h,st=>by
   obtain⟨v,S1,e1,h1⟩:=st 0 acc u S rfl (by simp) h
   obtain⟨ys,S2,e2,h2,h3⟩:=qO P us (acc ++ [v]) S1 h1 fun k acc' w S hk hl hp=>st (k+1) acc' w S (by simpa using hk) (by simp at hl;omega) hp
   refine⟨ys,S2,?_,h2,by simp at h3 ⊢;omega⟩
   show bnd (cTT (ρ ++ [some u]) S) _=_
   simp only [cTT,aE,if_true]
   rw [e1]
   exact e2
theorem yy {ρ:Rho}{S S0:Sto}{a e:ME}{n:Nat} (ha:a ρ S=some (.int n,S0)) (hn:n < big) (P:List U->Sto->Prop) (h0:P [] S0)
  (hs : ∀ (k:Nat) (acc:List U) (S:Sto),k < n->acc.length=k->P acc S -> ∃ v S',e (ρ ++ [some (.int k)]) S=some (v,S')/\P (acc ++ [v]) S') :
  ∃ ys S',mFn bS (aa (cw (iR1 (aa a ag)) cTT e) ag) ρ S=some (.tup ys,S' ++ [.lst ys])/\P ys S'/\ys.length=n:=by
 obtain⟨ys,S1,e1,h1,h2⟩:=qO (e:=e) (ρ:=ρ) P (aU 0 n) [] S0 h0 fun k acc u S hk hl hp=>by
  have hlt:k < n:=by have:=(af.mp hk).1;simpa [aU] using this
  have hu:(aU 0 n)[k]? = some (.int k):=by simp [aU,hlt]
  rw [hu] at hk;cases hk
  exact hs k acc S hlt (by simpa using hl) hp
 have hlen:(aU 0 n).length=n:=by simp [aU]
 rw [hlen] at h2
 simp only [lQ,cu] at h2
 exact⟨ys,S1,il (kH (kB ha hn) e1 (by rw [h2];exact hn)),h1,h2⟩
theorem Stp.set {n r:Nat}{S S':Sto}{c:Cell} (h:Stp n S S') (hr:S.length<=r) (hn:r≠n):Stp n S (S'.set r c):=by
 refine⟨by rw [eN];exact h.len,fun m h1 h2=>by rw [aB (by omega)];exact h.same m h1 h2,?_⟩
 obtain⟨s,b,e⟩:=h.st
 exact⟨s,b,by rw [aB hn];exact e⟩
theorem Stp.step {n:Nat}{S S1 S2:Sto} (a:Stp n S S1) (e:Ex S1 S2):Stp n S S2:=a.trans (Stp.ex a.st e)
theorem cJ {f:MF}{ρ:Rho}{S S1 S2:Sto}{a b:ME}{x y:U}{r:Res U} (ha:a ρ S=some (x,S1)) (hb:b ρ S1=some (y,S2)) (h:f [x,y] S2=r):mFn f (aa a (aa b ag)) ρ S=r:=by
 simp only [mFn,aa,ag,ha,hb,aE,h]
theorem fj {f:MF}{ρ:Rho}{S S1:Sto}{a:ME}{x:U}{r:Res U} (ha:a ρ S=some (x,S1)) (h:f [x] S1=r):mFn f (aa a ag) ρ S=r:=by
 simp only [mFn,lq ha,aE,h]
theorem As {ρ:Rho}{S:Sto}{a:ME}{r:Nat}{us:List U} (ha:a ρ S=some (.ref r,S)) (hr:S[r]? = some (Cell.lst us)):mFn cQ (aa a ag) ρ S=some (.int us.length,S):=
 fj ha (by simp only [cQ,fP,du,getL,hr,bx])
theorem qy {α β:Type} (f:α->β) : ∀ (l:List α) (j:Nat),(l.map f).eraseIdx j=(l.eraseIdx j).map f
 | [],_=>rfl
 | _::_,0=>rfl
 | x::l,j+1=>by simp [qy f l j]
noncomputable def az (l:List Nat):List U:=l.map fun (x:Nat)=>U.int x
theorem ue {ρ:Rho}{S S1:Sto}{o a:ME}{r:Nat}{l:List Nat}{j:Nat} (ho:o ρ S=some (.ref r,S)) (ha:a ρ S=some (.int j,S1)) (hr:S[r]? = some (Cell.lst (az l))) (hr1:S1[r]? = some (Cell.lst (az l))) (hj:j < l.length) (hl:l.length < big) :
  mML iR o (aa a ag) ρ S=some (.int l[j],S1.set r (Cell.lst (az (l.eraseIdx j)))):=by
 have hok:okR (j:Int):=nY (by exact cM (by assumption) (by assumption))
 have hx:ixN (az l).length (j:Int)=some j:=by
  have:(az l).length=l.length:=by simp [az]
  rw [this];simp [ixN,hj]
 have hg:(az l)[j]? = some (.int l[j]):=by simp [az,hj]
 have he:(az l).eraseIdx j=az (l.eraseIdx j):=qy _ _ _
 simp only [mML,ho,aE,getL,hr,ao,lq ha,iR,hr1,hok,if_true,hx,hg,bx,he]
theorem qE {ρ:Rho}{S:Sto}{a b:ME}{i j:Int} (ha:a ρ S=some (.int i,S)) (hb:b ρ S=some (.int j,S)) (h1:okR i) (h2:okR j) (hz:(aU i (j - i).toNat).length<=big):fV (iR2 (aa a (aa b ag))) ρ S=some (.ref S.length,S ++ [Cell.lst (aU i (j - i).toNat)]):=by
 have e:iR2 (aa a (aa b ag)) ρ S=some (.imm (aU i (j - i).toNat),S):=by
  unfold iR2
  simp only [aa,ag,ha,hb,aE]
  exact if_pos ⟨h1,h2⟩
 simp only [fV,e,aE,hz,if_true]
theorem cat_t {ρ:Rho}{S S1 S2:Sto}{a b:ME}{xs ys:List U} (ha:a ρ S=some (.tup xs,S1)) (hb:b ρ S1=some (.tup ys,S2)) (hz:xs.length+ys.length<=big):m2 bV a b ρ S=some (.tup (xs++ys),S2):=op2 ha hb (by simp only [bV,hz,if_true])
theorem jh (m:Nat) (hm:0 < m):aU 1 ((m:Int) - 1).toNat=az (bD 1 (m - 1)):=by
 have e:((m:Int) - 1).toNat=m - 1:=by omega
 rw [e]
 unfold aU az
 rw [List.range'_eq_map_range,cK]
 apply bE
 intro k _
 simp
theorem uS {n m:Nat}{S:Sto} (h:i8 n S) (hm:0 < m) (hm2:m < 1000) : ∃ l S',dR [.ref n,.int m] S=some (.tup (az l),S')/\Stp n S S'/\mX m l:=by
 have hn:=h.lt
 have hbig:m < big:=by unfold big;exact ah (by assumption) (by decide)
 have e0:fV (iR2 (aa (mC (.int 1)) (aa (ae 1) ag))) [some (.ref n),some (.int m),none] S=some (.ref S.length,S ++ [Cell.lst (az (bD 1 (m - 1)))]):=by
  rw [qE (i:=1) (j:=m) rfl (var_eq rfl) ⟨by decide,by decide⟩ (nY hbig) (by rw [jh m hm,az,aI,oq];exact aK (f9 m 1) (aW hbig)),jh m hm]
 have st0:Stp n S (S ++ [Cell.lst (az (bD 1 (m - 1)))]):=Stp.ex h (Ex.push _ _)
 obtain⟨ys,S1,e1,⟨tk,rem,rfl,q1,q2,q3⟩,e2⟩:=yy (ρ := [some (.ref n),some (.int m),some (.ref S.length)]) (S:=S ++ [Cell.lst (az (bD 1 (m - 1)))]) (S0:=S ++ [Cell.lst (az (bD 1 (m - 1)))])
  (a:=m2 kT (ae 1) (mC (.int 1))) (e:=mML iR (ae 2) (aa (mFn aC (aa (ae 0) (aa (mFn cQ (aa (ae 2) ag)) ag))) ag)) (n:=m - 1)
  (by rw [wL (var_eq rfl) c_i];congr 3;exact (Int.natCast_sub hm).symm) (aH (f9 m 1) hbig)
  (fun acc S' => ∃ tk rem:List Nat,acc=az tk/\S'[S.length]? = some (Cell.lst (az rem))/\(tk++rem).Perm (bD 1 (m - 1))/\Stp n S S')
  ⟨[],bD 1 (m - 1),rfl,by rw [aq (ak _)];simp,by simp,st0⟩
  (by
   rintro k acc S' hk hl ⟨tk,rem,rfl,q1,q2,q3⟩
   have htk:tk.length=k:=by simpa [az] using hl
   have hrem:rem.length=m - 1 - k:=by
    have:=q2.length_eq
    rw [be,oq,htk] at this
    rw [<- this,Nat.add_sub_cancel_left]
   have hr0:0 < rem.length:=by rw [hrem];exact Nat.sub_pos_of_lt hk
   have hr1:rem.length < 1000:=by rw [hrem];exact aH (aK (f9 _ _) (f9 _ _)) hm2
   obtain⟨r,S2,t1,t2,t3,t4,t5⟩:=xn (many:=(rem.length:Int)) q3.st (fL.mpr hr0) (by omega)
   obtain⟨j,rfl⟩:=y3 t2
   have hj:j < rem.length:=fL.mp t3
   have ho : ∀ S',ae 2 ([some (U.ref n),some (.int m),some (.ref S.length)] ++ [some (.int k)]) S'=some (.ref S.length,S'):=fun S'=>var_eq rfl
   have hv : ∀ S',ae 0 ([some (U.ref n),some (.int m),some (.ref S.length)] ++ [some (.int k)]) S'=some (.ref n,S'):=fun S'=>var_eq rfl
   have hlen:mFn cQ (aa (ae 2) ag) ([some (U.ref n),some (.int m),some (.ref S.length)] ++ [some (.int k)]) S'=some (.int rem.length,S'):=by
    rw [As (ho _) q1];simp [az]
   have q1':S2[S.length]? = some (Cell.lst (az rem)):=t4.some (by exact bY (by assumption)) q1
   refine⟨_,_,ue (ho _) (cJ (hv _) hlen t1) q1 q1' hj (by unfold big;exact ah hr1 (by decide)),tk ++ [rem[j]],rem.eraseIdx j,by simp [az],?_,?_,?_⟩
   ·exact aN (af.mp q1').1
   ·refine Bf ?_ q2
    rw [bf]
    exact (lB rem j hj).append_left tk
   ·exact (q3.trans t4).set (ak _) (by exact bY (by assumption)))
 have hrem:rem = []:=by
  have:=q2.length_eq
  simp [az] at this e2
  exact eu (by omega)
 subst hrem
 rw [dg] at q2
 refine⟨0::tk,S1 ++ [Cell.lst (az tk)],dB (ρ := [some (.ref n),some (.int m),some (.ref S.length)]) rfl ?_,q3.step (Ex.push _ _),yt hm q2⟩
 show j5 [some (.ref n),some (.int m),none] S=_
 refine (bq (bP e0)).trans (dC ?_)
 have ez:eU (aa (mC (.int 0)) ag) [some (.ref n),some (.int m),some (.ref S.length)] (S ++ [Cell.lst (az (bD 1 (m - 1)))])=some (.tup [.int 0],S ++ [Cell.lst (az (bD 1 (m - 1)))]):=by
  have hb1:1<=big:=by decide
  simp [eU,lq (show mC (.int 0) _ _=some (U.int 0,S ++ [Cell.lst (az (bD 1 (m - 1)))]) from rfl),aE,hb1]
 exact cat_t ez e1 (by simp [az] at e2 ⊢;omega)
theorem CD {S:Sto}{f:Nat}{i:Int}:toD S (f+1) (.int i)=some (.int i):=rfl
theorem mE {S:Sto}{f:Nat} : ∀ (l:List Nat),dq (toD S (f+1)) (az l)=some (l.map fun (x:Nat)=>eO x)
 | []=>rfl
 | x::l=>by
   show (toD S (f+1) (.int x)).bind _=_
   rw [CD]
   simp only [ao]
   rw [show List.map (fun (x:Nat)=>U.int x) l=az l from rfl,mE l]
   rfl
theorem uC (x:Nat) : ∀ (l:List Nat),x∈l->(l.map fun (x:Nat)=>eO x).findIdx? (fun y=>dN y (.int x))=some (l.idxOf x)
 | [],h=>by simp at h
 | y::l,h=>by
   have e:dN (.int y) (.int x)=decide (y=x):=by
    simp [dN]
    by_cases hxy:y=x
    ·subst hxy;simp
    ·have : ¬ ((y:Int)=x):=by omega
     simp [hxy,this]
   rw [bT,List.findIdx?_cons,e,List.idxOf_cons]
   by_cases hxy:y=x
   ·subst hxy;simp
   ·have hm:x∈l:=by
     rcases aR.mp h with z | z
     ·exact absurd z.symm hxy
     ·exact z
    have hb:(y == x)=false:=by simpa using hxy
    rw [uC x l hm]
    simp [hxy,hb]
theorem Ca {S:Sto}{x:Nat}{l:List Nat} (h:x∈l):Ab S (.int x) (az l)=some (l.idxOf x):=by
 unfold Ab
 rw [mE l]
 simp only [ao]
 rw [show toD S 40 (.int x)=some (.int x) from rfl]
 exact uC x l h
theorem tw {ρ:Rho}{S S1:Sto}{o a:ME}{l:List Nat}{x:Nat} (ho:o ρ S=some (.tup (az l),S)) (ha:a ρ S=some (.int x,S1)) (h:x∈l):mMT fq o (aa a ag) ρ S=some (.int (l.idxOf x:Nat),S1):=by
 simp only [mMT,ho,aE,lq ha,fq,Ca h,bx]
 rfl
theorem oK {l:List Nat}{j:Nat}{u:U} (h:(az l)[j]? = some u):j < l.length/\u = .int (oF l j):=by
 have hl:j < l.length:=by have:=(af.mp h).1;simpa [az] using this
 have:(az l)[j]? = some (.int l[j]):=by simp [az,hl]
 rw [this] at h;cases h
 exact⟨hl,by simp [oF,hl]⟩
theorem dO (l:List Nat):(az l).length=l.length:=by simp [az]
theorem uG {m:Nat}{T:Nat->Nat->Nat}{l:List Nat}{S:Sto} (hm:m < big) (g : ∀ i j,i < m->j < m->T i j < m) (ho:mX m l) : ∃ S',dS [tab m T,.tup (az l)] S=some (tab m (ie T (oF l) (pF l)),S')/\Ex S S':=by
 have hlen:=ho.len
 obtain⟨S1,e1,h1⟩:=Gy (ρ := [some (tab m T),some (.tup (az l))]) (S:=S) (S0:=S) (a:=ae 1) (us:=az l) (e:=mFn bS (aa (cw (iB (ae 1)) cTT (mMT fq (ae 1) (aa (m2 oIx (m2 oIx (ae 0) (ae 2)) (ae 3)) ag))) ag))
  (var_eq rfl) (by rw [dO,hlen];exact hm) (kU m (ie T (oF l) (pF l))) (fun _ S'=>Ex S S') (Ex.refl _) (by
   intro i u S' hu hx
   obtain⟨hi,rfl⟩:=oK hu
   rw [hlen] at hi
   obtain⟨S2,e2,h2⟩:=Gy (ρ := [some (tab m T),some (.tup (az l)),some (.int (oF l i))]) (S:=S') (S0:=S') (a:=ae 1) (us:=az l) (e:=mMT fq (ae 1) (aa (m2 oIx (m2 oIx (ae 0) (ae 2)) (ae 3)) ag))
    (var_eq rfl) (by rw [dO,hlen];exact hm) (fun j => .int (ie T (oF l) (pF l) i j)) (fun _ S''=>S''=S') rfl (by
     intro j u S'' hu hx
     obtain⟨hj,rfl⟩:=oK hu
     rw [hlen] at hj
     refine⟨S'',?_,hx⟩
     exact tw (var_eq rfl) (iO (ho.ord.ol j hj) (gL (ho.ord.ol i hi) (var_eq rfl) (var_eq rfl)) (var_eq rfl)) (ho.mem.mpr (g _ _ (ho.ord.ol i hi) (ho.ord.ol j hj))))
   subst h2
   rw [dO,hlen] at e2
   exact⟨_,e2,hx.trans (Ex.push _ _)⟩)
 rw [dO,hlen] at e1
 exact⟨_,dB (ρ := [some (tab m T),some (.tup (az l))]) rfl (show kn [some (tab m T),some (.tup (az l))] S=_ from dC e1),h1.trans (Ex.push _ _)⟩
end
end W
end
section
namespace W
open L2 G
section
theorem zR {ρ:Rho}{S S1 S2:Sto}{a b:ME}{x y:Int} (ha:a ρ S=some (.int x,S1)) (hb:b ρ S1=some (.int y,S2)):m2 oEq a b ρ S=some (.bl (x == y),S2):=op2 ha hb rfl
theorem Ar {ρ:Rho}{S S1 S2:Sto}{a b:ME}{x y:Int} (ha:a ρ S=some (.int x,S1)) (hb:b ρ S1=some (.int y,S2)):m2 oGt a b ρ S=some (.bl (decide (y < x)),S2):=op2 ha hb rfl
theorem of_eq {ρ:Rho}{S S1:Sto}{a:ME}{b:Bool} (h:a ρ S=some (.bl b,S1)):cOf a ρ S=some (b,S1):=by simp only [cOf,h,aE]
theorem or_eq {ρ:Rho}{S S1 S2:Sto}{a b:MT}{x y:Bool} (ha:a ρ S=some (x,S1)) (hb:b ρ S1=some (y,S2)) (e:x=true->S2=S1):cOr a b ρ S=some (x||y,S2):=by
 cases x
 ·simp [cOr,ha,hb,aE]
 ·simp [cOr,ha,aE,e rfl]
theorem and_eq {ρ:Rho}{S S1 S2:Sto}{a b:MT}{x y:Bool} (ha:a ρ S=some (x,S1)) (hb:b ρ S1=some (y,S2)) (e:x=false->S2=S1):nJ a b ρ S=some (x&&y,S2):=by
 cases x
 ·simp [nJ,ha,aE,e rfl]
 ·simp [nJ,ha,hb,aE]
theorem nM {c:MT}{a b:MS}{ρ:Rho}{S S1:Sto} (h:c ρ S=some (true,S1)):sIf c a b ρ S=a ρ S1:=by simp [sIf,h,aE]
theorem kS {c:MT}{a b:MS}{ρ:Rho}{S S1:Sto} (h:c ρ S=some (false,S1)):sIf c a b ρ S=b ρ S1:=by simp [sIf,h,aE]
theorem eV {n m:Nat}{S:Sto} (h:i8 n S) (hm:0 < m) (hm2:m < 1000) : ∃ r S',aC [.ref n,.int m] S=some (.int (r:Nat),S')/\r < m/\Stp n S S':=by
 obtain⟨r,S',e,h1,h2,h3,_⟩:=xn (many:=(m:Int)) h (by omega) (by omega)
 obtain⟨r,rfl⟩:=y3 h1
 exact⟨r,S',e,by omega,h3⟩
noncomputable def gA:MS:=sIf (cOr (cOf (m2 oEq (ae 2) (mC (.int 1)))) (cOf (m2 oEq (ae 2) (mC (.int 2))))) (br 3 (mFn cU (aa (m2 bV (mC (.int 1)) (mFn aC (aa (ae 0) (aa (m2 oDiv (ae 1) (mC (.int 2))) ag)))) ag))) cD
noncomputable def gB:MS:=sIf (nJ (cOf (m2 oEq (ae 2) (mC (.int 3)))) (cOf (m2 oGt (ae 1) (mC (.int 7))))) (br 3 (mFn ff ag)) cD
noncomputable def gC:MS:=sIf (cOf (m2 oGt (ae 2) (mC (.int 3)))) (aZ (br 4 (m2 bV (mC (.int 2)) (mFn aC (aa (ae 0) (aa (mC (.int 3)) ag))))) (aZ (br 5 (m2 oIx (cf (aa (mFn bz (aa (ae 4) ag)) (aa (mFn cU (aa (ae 4) ag)) ag))) (mFn aC (aa (ae 0) (aa (mC (.int 2)) ag))))) (aZ (sIf (cOf (m2 oGt (mFn cQ (aa (ae 5) ag)) (ae 1))) (br 5 (mFn bz (aa (ae 4) ag))) cD) (br 3 (mFn fA (aa (ae 5) (aa (mFn bz (aa (m2 bV (mC (.int 1)) (mFn aC (aa (ae 0) (aa (m2 oDiv (ae 1) (mFn cQ (aa (ae 5) ag))) ag)))) ag)) ag))))))) cD
noncomputable def gD:MS:=sIf (cOf (m2 oEq (mFn aC (aa (ae 0) (aa (mC (.int 3)) ag))) (mC (.int 0)))) (br 3 (mFn dS (aa (ae 3) (aa (mFn dR (aa (ae 0) (aa (mFn cQ (aa (ae 3) ag)) ag))) ag)))) cD
structure Gs (n most way:Nat) (S0:Sto) (ρ:Rho) (S:Sto):Prop where
 ex : ∃ m T x y,ρ = [some (.ref n),some (.int most),some (.int way),some (tab m T),x,y]/\Grp m T/\m<=most
 st:Stp n S0 S
section
variable {n most way:Nat}{S0 S:Sto}{ρ:Rho}
theorem GJ (h6:6<=most) (hm:most < 1000) (g:Gs n most way S0 ρ S) : ∃ ρ' S',gA ρ S=some (.nx,ρ',S')/\Gs n most way S0 ρ' S':=by
 obtain⟨⟨m,T,x,y,rfl,gr,hle⟩,st⟩:=g
 have hc:=or_eq (of_eq (zR (ρ := [some (.ref n),some (.int most),some (.int way),some (tab m T),x,y]) (S:=S) (a:=ae 2) (b:=mC (.int 1)) (var_eq rfl) c_i)) (of_eq (zR (a:=ae 2) (b:=mC (.int 2)) (var_eq rfl) c_i)) fun _=>rfl
 cases hb:(((way:Int) == 1)||((way:Int) == 2)) with
 | false=>
   rw [hb] at hc
   exact⟨_,S,kS hc,⟨m,T,x,y,rfl,gr,hle⟩,st⟩
 | true=>
   rw [hb] at hc
   obtain⟨r,S1,e1,w1,s1⟩:=eV (m:=most / 2) st.st (by omega) (by omega)
   obtain⟨S2,e2,s2⟩:=oC (n:=1+r) (S:=S1) (by exact aX (by decide) _) (by omega)
   refine⟨_,S2,(nM hc).trans (bP (fj (x := .int (1+r:Nat)) (add_n (x:=1) c_i (cJ (var_eq rfl) (ot (y:=2) (var_eq rfl) c_i (by decide) (by decide)) e1)) e2)),⟨_,_,x,y,rfl,oP (by exact aX (by decide) _),by omega⟩,(st.trans s1).step s2⟩
theorem Ia (g:Gs n most way S0 ρ S) : ∃ ρ' S',gB ρ S=some (.nx,ρ',S')/\Gs n most way S0 ρ' S':=by
 obtain⟨⟨m,T,x,y,rfl,gr,hle⟩,st⟩:=g
 have hc:=and_eq (of_eq (zR (ρ := [some (.ref n),some (.int most),some (.int way),some (tab m T),x,y]) (S:=S) (a:=ae 2) (b:=mC (.int 3)) (var_eq rfl) c_i)) (of_eq (Ar (a:=ae 1) (b:=mC (.int 7)) (var_eq rfl) c_i)) fun _=>rfl
 cases hb:(((way:Int) == 3)&&decide ((7:Int) < most)) with
 | false=>
   rw [hb] at hc
   exact⟨_,S,kS hc,⟨m,T,x,y,rfl,gr,hle⟩,st⟩
 | true=>
   rw [hb] at hc
   obtain⟨S2,e2,s2⟩:=wb (S:=S)
   have h7:(7:Int) < most:=by simp at hb;exact hb.2
   refine⟨_,S2,(nM hc).trans (bP (show mFn ff ag _ S=_ from e2)),⟨_,_,x,y,rfl,yB,by omega⟩,st.step s2⟩
theorem xg {ρ:Rho}{S S1 S2:Sto}{a b:ME}{x y:U} (ha:a ρ S=some (x,S1)) (hb:b ρ S1=some (y,S2)):cf (aa a (aa b ag)) ρ S=some (.ref S2.length,S2 ++ [Cell.lst [x,y]]):=by
 have hz:2<=big:=by decide
 simp [cf,aa,ag,aE,ha,hb,hz]
theorem Ic (h6:6<=most) (hm:most < 1000) (g:Gs n most way S0 ρ S) : ∃ ρ' S',gC ρ S=some (.nx,ρ',S')/\Gs n most way S0 ρ' S':=by
 obtain⟨⟨m,T,x,y,rfl,gr,hle⟩,st⟩:=g
 have hbig : ∀ x,x<=most->x < big:=fun x hx=>by unfold big;exact aH (by assumption) (ah (by assumption) (by decide))
 have hc:=of_eq (Ar (ρ := [some (.ref n),some (.int most),some (.int way),some (tab m T),x,y]) (S:=S) (a:=ae 2) (b:=mC (.int 3)) (var_eq rfl) c_i)
 cases hb:decide ((3:Int) < way) with
 | false=>
   rw [hb] at hc
   exact⟨_,S,kS hc,⟨m,T,x,y,rfl,gr,hle⟩,st⟩
 | true=>
   rw [hb] at hc
   obtain⟨r,S1,e1,w1,s1⟩:=eV (m:=3) st.st (by decide) (by decide)
   have f1:m2 bV (mC (.int 2)) (mFn aC (aa (ae 0) (aa (mC (.int 3)) ag))) [some (.ref n),some (.int most),some (.int way),some (tab m T),x,y] S=some (.int (2+r:Nat),S1):=
    add_n (x:=2) c_i (cJ (var_eq rfl) c_i e1)
   obtain⟨S2,e2,s2⟩:=iq (n:=2+r) (S:=S1) (by exact aX (by decide) _) (hbig _ (by omega))
   obtain⟨S3,e3,s3⟩:=oC (n:=2+r) (S:=S2) (by exact aX (by decide) _) (by omega)
   have st3:Stp n S0 (S3 ++ [Cell.lst [tab (2+r) (di (2+r)),tab (2*(2+r)) (fE (2+r))]]):=(((st.trans s1).step s2).step s3).step (Ex.push _ _)
   obtain⟨q,S4,e4,w4,s4⟩:=eV (m:=2) st3.st (by decide) (by decide)
   have hcell:S4[S3.length]? = some (Cell.lst [tab (2+r) (di (2+r)),tab (2*(2+r)) (fE (2+r))]):=by
    refine s4.some ?_ (by rw [aq (ak _)];simp)
    have:=(((st.trans s1).step s2).step s3).st.lt
    exact bY (by assumption)
   have one : ∃ k K,atI [tab (2+r) (di (2+r)),tab (2*(2+r)) (fE (2+r))] (q:Int)=some (tab k K)/\Grp k K/\k<=8:=by
    have:q=0\/q=1:=by omega
    rcases this with rfl | rfl
    ·exact⟨_,_,rfl,fW (by exact aX (by decide) _),by omega⟩
    ·exact⟨_,_,rfl,oP (by exact aX (by decide) _),by omega⟩
   obtain⟨k,K,hix,gk,hk8⟩:=one
   have f5:m2 oIx (cf (aa (mFn bz (aa (ae 4) ag)) (aa (mFn cU (aa (ae 4) ag)) ag))) (mFn aC (aa (ae 0) (aa (mC (.int 2)) ag))) [some (.ref n),some (.int most),some (.int way),some (tab m T),some (.int (2+r:Nat)),y] S1=some (tab k K,S4):=
    AE (xg (fj (x := .int (2+r:Nat)) (var_eq rfl) e2) (fj (x := .int (2+r:Nat)) (var_eq rfl) e3)) (cJ (var_eq rfl) c_i e4) hcell hix
   have st4:=st3.trans s4
   have cut : ∃ k' K' S5,sIf (cOf (m2 oGt (mFn cQ (aa (ae 5) ag)) (ae 1))) (br 5 (mFn bz (aa (ae 4) ag))) cD [some (.ref n),some (.int most),some (.int way),some (tab m T),some (.int (2+r:Nat)),some (tab k K)] S4 =
     some (.nx,[some (.ref n),some (.int most),some (.int way),some (tab m T),some (.int (2+r:Nat)),some (tab k' K')],S5)/\Grp k' K'/\k'<=most/\k'<=8/\Stp n S0 S5:=by
    have hc2:=of_eq (Ar (ρ := [some (.ref n),some (.int most),some (.int way),some (tab m T),some (.int (2+r:Nat)),some (tab k K)]) (S:=S4) (a:=mFn cQ (aa (ae 5) ag)) (b:=ae 1) (len_tab (var_eq rfl)) (var_eq rfl))
    cases hb2:decide ((most:Int) < k) with
    | false=>
      rw [hb2] at hc2
      have : ¬ ((most:Int) < k):=by simpa using hb2
      exact⟨k,K,S4,kS hc2,gk,by omega,hk8,st4⟩
    | true=>
      rw [hb2] at hc2
      obtain⟨S5,e5,s5⟩:=iq (n:=2+r) (S:=S4) (by exact aX (by decide) _) (hbig _ (by omega))
      exact⟨_,_,S5,(nM hc2).trans (bP (fj (x := .int (2+r:Nat)) (var_eq rfl) e5)),fW (by exact aX (by decide) _),by omega,by omega,st4.step s5⟩
   obtain⟨k',K',S5,f6,gk',hkm,hk8',st5⟩:=cut
   have kp:=gk'.pos
   have hdiv:0 < most / k':=Nat.div_pos hkm kp
   have hdl:most / k'<=most:=lX _ _
   obtain⟨t,S6,e6,w6,s6⟩:=eV (m:=most / k') st5.st hdiv (by exact aH (by assumption) (by assumption))
   obtain⟨S7,e7,s7⟩:=iq (n:=1+t) (S:=S6) (by exact aX (by decide) _) (hbig _ (by omega))
   obtain⟨S8,e8,s8⟩:=xj (k:=k') (m:=1+t) (A:=K') (B:=di (1+t)) (S:=S7) kp (by exact aH (by assumption) (by decide)) (by exact aX (by decide) _) (by omega) gk'.cl
   have hsz:k'*(1+t)<=most:=aK (i5 k' (by omega:1+t<=most / k')) (Nat.mul_div_le most k')
   refine⟨_,S8,(nM hc).trans ((bq (bP f1)).trans ((bq (bP f5)).trans ((bq f6).trans (bP (cJ (var_eq rfl) (fj (x := .int (1+t:Nat)) ?_ e7) e8))))),⟨_,_,_,_,rfl,tK gk' (fW (by exact aX (by decide) _)),hsz⟩,((st5.trans s6).step s7).step s8⟩
   exact add_n (x:=1) c_i (cJ (var_eq rfl) (ot (var_eq rfl) (len_tab (var_eq rfl)) kp (by exact aH (by assumption) (by decide))) e6)
theorem HN (hm:most < 1000) (g:Gs n most way S0 ρ S) : ∃ ρ' S',gD ρ S=some (.nx,ρ',S')/\Gs n most way S0 ρ' S':=by
 obtain⟨⟨m,T,x,y,rfl,gr,hle⟩,st⟩:=g
 obtain⟨r,S1,e1,w1,s1⟩:=eV (m:=3) st.st (by decide) (by decide)
 have hc:=of_eq (zR (ρ := [some (.ref n),some (.int most),some (.int way),some (tab m T),x,y]) (S:=S) (a:=mFn aC (aa (ae 0) (aa (mC (.int 3)) ag))) (b:=mC (.int 0)) (cJ (var_eq rfl) c_i e1) c_i)
 cases hb:((r:Int) == 0) with
 | false=>
   rw [hb] at hc
   exact⟨_,S1,kS hc,⟨m,T,x,y,rfl,gr,hle⟩,st.trans s1⟩
 | true=>
   rw [hb] at hc
   obtain⟨l,S2,e2,s2,ol⟩:=uS (m:=m) s1.st gr.pos (by exact aH (by assumption) (by assumption))
   obtain⟨S3,e3,s3⟩:=uG (m:=m) (T:=T) (S:=S2) (by unfold big;exact aH (by assumption) (ah (by assumption) (by decide))) gr.cl ol
   refine⟨_,S3,(nM hc).trans (bP (cJ (var_eq rfl) (cJ (var_eq rfl) (len_tab (var_eq rfl)) e2) e3)),⟨_,_,x,y,rfl,qK gr ol.ord,hle⟩,((st.trans s1).trans s2).step s3⟩
end
theorem AA {n most:Nat}{S:Sto} (h:i8 n S) (h6:6<=most) (hm:most < 1000) : ∃ m T S',eE [.ref n,.int most] S=some (tab m T,S')/\Grp m T/\m<=most/\Stp n S S':=by
 have hbig : ∀ x,x<=most->x < big:=fun x hx=>by unfold big;exact aH (by assumption) (ah (by assumption) (by decide))
 obtain⟨way,S1,e1,w1,s1⟩:=eV (m:=8) h (by decide) (by decide)
 obtain⟨r2,S2,e2,w2,s2⟩:=eV (m:=most) s1.st (by exact Nat.zero_lt_of_lt (by assumption)) hm
 obtain⟨S3,e3,s3⟩:=iq (n:=1+r2) (S:=S2) (by exact aX (by decide) _) (hbig _ (by omega))
 have f1:m2 bV (mC (.int 1)) (mFn aC (aa (ae 0) (aa (ae 1) ag))) [some (.ref n),some (.int most),some (.int way),none,none,none] S1=some (.int (1+r2:Nat),S2):=add_n (x:=1) (y:=r2) c_i (cJ (var_eq rfl) (var_eq rfl) e2)
 have g0:Gs n most way S [some (.ref n),some (.int most),some (.int way),some (tab (1+r2) (di (1+r2))),none,none] S3:=⟨⟨_,_,none,none,rfl,fW (by exact aX (by decide) _),by omega⟩,(s1.trans s2).step s3⟩
 obtain⟨ρ4,S4,e4,g4⟩:=GJ h6 hm g0
 obtain⟨ρ5,S5,e5,g5⟩:=Ia g4
 obtain⟨ρ6,S6,e6,g6⟩:=Ic h6 hm g5
 obtain⟨ρ7,S7,e7,g7⟩:=HN hm g6
 obtain⟨⟨m,T,x,y,rfl,gr,hle⟩,st⟩:=g7
 refine⟨m,T,S7,dB (ρ := [some (.ref n),some (.int most),some (.int way),some (tab m T),x,y]) rfl ?_,gr,hle,st⟩
 show j8 [some (.ref n),some (.int most),none,none,none,none] S=_
 exact (bq (bP (cJ (var_eq rfl) c_i e1))).trans ((bq (bP (fj f1 e3))).trans ((bq e4).trans ((bq e5).trans ((bq e6).trans ((bq e7).trans (dC (var_eq rfl)))))))
end
end W
end
section
namespace W
open L2 G
section
noncomputable def Scr (ns:List Int) (S:Sto):Prop:=getL S 0=some (ns.map U.int)
theorem Scr.ex {ns:List Int}{S S':Sto} (h:Scr ns S) (e : ∀ c,S[0]? = some c->S'[0]? = some c):Scr ns S':=by
 unfold Scr getL at h ⊢
 split at h
 ·rename_i us q;rw [e _ q];exact h
 ·rename_i us q;rw [e _ q];exact h
 ·cases h
 ·cases h
theorem Scr.lt {ns:List Int}{S:Sto} (h:Scr ns S):0 < S.length:=by
 unfold Scr getL at h
 split at h
 ·rename_i q;exact (af.mp q).1
 ·rename_i q;exact (af.mp q).1
 ·cases h
 ·cases h
theorem eD {α:Type} (S:List α) (c:α):(S ++ [c])[S.length]? = some c:=by
 rw [aq (ak _)];simp
theorem JH {ρ:Rho}{S S1 S2:Sto}{a b:ME}{x y:Int} (ha:a ρ S=some (.int x,S1)) (hb:b ρ S1=some (.int y,S2)):m2 oLt a b ρ S=some (.bl (decide (x < y)),S2):=op2 ha hb rfl
theorem JU {ρ:Rho}{S S1 S2:Sto}{a b:ME}{x y:Int} (ha:a ρ S=some (.int x,S1)) (hb:b ρ S1=some (.int y,S2)):m2 oGe a b ρ S=some (.bl (decide (y<=x)),S2):=op2 ha hb rfl
theorem Du {S:Sto}{r:Nat}{us:List U} (h:getL S r=some us):fP S (.ref r)=none:=by
 unfold getL at h
 show (match S[r]? with
  | some (.dic kvs)=>some kvs
  | _=>none)=none
 split at h <;> rename_i q <;> first | (cases h;done) | (rw [q])
theorem Dm {ρ:Rho}{S:Sto}{a:ME}{r:Nat}{us:List U} (ha:a ρ S=some (.ref r,S)) (hr:getL S r=some us):mFn cQ (aa a ag) ρ S=some (.int us.length,S):=
 fj ha (by simp only [cQ,Du hr,du,hr,bx])
theorem JM {ρ:Rho}{S S1 S2:Sto}{a b:ME}{n:Nat}{us:List U}{z:Int}{u:U} (ha:a ρ S=some (.ref n,S1)) (hb:b ρ S1=some (.int z,S2)) (hn:getL S2 n=some us) (h:atI us z=some u):m2 oIx a b ρ S=some (u,S2):=op2 ha hb (by simp only [oIx,Du hn,du,hn,ao,h,bx])
theorem rm {α:Type}{us:List α}{k:Nat}{u:α} (h:us[k]? = some u):atI us (k:Int)=some u:=by
 have hk:k < us.length:=(af.mp h).1
 simp [atI,ixN,hk]
 exact (af.mp h).2
theorem Ct {ns:List Int}{S:Sto}{k:Nat} (h:Scr ns S) : ∃ z,gf [.ref 0,.int k] S=some (.int z,S):=by
 have hc:=of_eq (JH (ρ := [some (.ref 0),some (.int k)]) (S:=S) (a:=ae 1) (b:=mFn cQ (aa (ae 0) ag)) (var_eq rfl) (Dm (var_eq rfl) h))
 rw [aI] at hc
 cases hb:decide ((k:Int) < ns.length) with
 | true=>
   rw [hb] at hc
   have hk:k < ns.length:=by simpa using hb
   have e:=JM (ρ := [some (.ref 0),some (.int k)]) (S:=S) (a:=ae 0) (b:=ae 1) (var_eq rfl) (var_eq rfl) h (rm (k:=k) (u := .int ns[k]) (by simp [hk]))
   refine⟨ns[k],dB (ρ := [some (.ref 0),some (.int k)]) rfl ?_⟩
   show fi [some (.ref 0),some (.int k)] S=_
   unfold fi aZ
   rw [nM hc,dC e]
 | false=>
   rw [hb] at hc
   refine⟨0,dB (ρ := [some (.ref 0),some (.int k)]) rfl ?_⟩
   show fi [some (.ref 0),some (.int k)] S=_
   exact (bq ((kS hc).trans rfl)).trans (dC c_i)
theorem CW {ρ:Rho}{S:Sto}:m2 rA (mC (.int 10)) (mC (.int 18)) ρ S=some (.int (10 ^ (18:Int).toNat),S):=op2 rfl rfl (if_pos ⟨by decide,by decide,by decide⟩)
theorem Ax {ns:List Int}{S:Sto}{k:Nat} (h:Scr ns S) : ∃ S',iJ [.ref 0,.int k] S=some (.ref S.length,S')/\Ex S S'/\i8 S.length S':=by
 obtain⟨z,e1⟩:=Ct (k:=k) h
 have e2:br 2 (mFn gf (aa (ae 0) (aa (ae 1) ag))) [some (.ref 0),some (.int k),none] S=some (.nx,[some (.ref 0),some (.int k),some (.int z)],S):=bP (cJ (var_eq rfl) (var_eq rfl) e1)
 have hc:=of_eq (JU (ρ := [some (.ref 0),some (.int k),some (.int z)]) (S:=S) (a:=ae 2) (var_eq rfl) CW)
 generalize hp:(10:Int) ^ (18:Int).toNat=p at hc
 have hpe : ∀ ρ (S:Sto),m2 rA (mC (.int 10)) (mC (.int 18)) ρ S=some (.int p,S):=fun ρ S=>by rw [CW,hp]
 cases hb:decide (p<=z) with
 | true=>
   rw [hb] at hc
   have e3:=xg (ρ := [some (.ref 0),some (.int k),some (.int z)]) (S:=S) (a:=m2 kT (ae 2) (m2 rA (mC (.int 10)) (mC (.int 18)))) (b:=mC (.bl true)) (wL (var_eq rfl) (hpe _ _)) rfl
   refine⟨_,dB (ρ := [some (.ref 0),some (.int k),some (.int z)]) rfl ?_,Ex.push _ _,⟨z - p,true,eD _ _⟩⟩
   show iH [some (.ref 0),some (.int k),none] S=_
   refine (bq e2).trans ?_
   unfold aZ
   rw [nM hc,dC e3]
 | false=>
   rw [hb] at hc
   have e3:=xg (ρ := [some (.ref 0),some (.int k),some (.int z)]) (S:=S) (a:=m2 oMod (ae 2) (mC (.int 2147483647))) (b:=mC (.bl false)) (DF (var_eq rfl) c_i (by decide)) rfl
   refine⟨_,dB (ρ := [some (.ref 0),some (.int k),some (.int z)]) rfl ?_,Ex.push _ _,⟨z % 2147483647,false,eD _ _⟩⟩
   show iH [some (.ref 0),some (.int k),none] S=_
   exact (bq e2).trans ((bq ((kS hc).trans rfl)).trans (dC e3))
theorem uk {i n:Nat}{b:MS} (us:List U) (P:Nat->Rho->Sto->Prop) (hl : ∀ k ρ S,P k ρ S->getL S n=some us)
  (st : ∀ (k:Nat) (u:U) (ρ:Rho) (S:Sto),us[k]? = some u->P k ρ S -> ∃ ρ' S',b (ρ.set i (some u)) S=some (.nx,ρ',S')/\P (k+1) ρ' S') :
  ∀ (f k:Nat) (ρ:Rho) (S:Sto),k<=us.length->us.length - k < f->P k ρ S -> ∃ ρ' S',forL i b n f k ρ S=some (.nx,ρ',S')/\P us.length ρ' S'
 | 0,k,ρ,S,h1,h2,_=>by omega
 | f+1,k,ρ,S,h1,h2,hp=>by
   unfold forL
   rw [hl k ρ S hp]
   simp only [ao]
   by_cases hk:k < us.length
   ·have hu:us[k]? = some us[k]:=by simp [hk]
    obtain⟨ρ1,S1,e1,p1⟩:=st k us[k] ρ S hu hp
    obtain⟨ρ2,S2,e2,p2⟩:=uk us P hl st f (k+1) ρ1 S1 (by assumption) (by omega) p1
    refine⟨ρ2,S2,?_,p2⟩
    simp only [hu,aft,e1,e2]
   ·have:k=us.length:=by omega
    subst this
    exact⟨ρ,S,by simp,hp⟩
theorem FK {i n:Nat}{b:MS}{e:ME}{ρ:Rho}{S S1:Sto}{us:List U} (he:e ρ S=some (.ref n,S1)) (hu:us.length < 100000) (P:Nat->Rho->Sto->Prop) (h0:P 0 ρ S1) (hl : ∀ k ρ S,P k ρ S->getL S n=some us)
  (st : ∀ (k:Nat) (u:U) (ρ:Rho) (S:Sto),us[k]? = some u->P k ρ S -> ∃ ρ' S',b (ρ.set i (some u)) S=some (.nx,ρ',S')/\P (k+1) ρ' S') :
  ∃ ρ' S',d5 i (iB e) b ρ S=some (.nx,ρ',S')/\P us.length ρ' S':=by
 obtain⟨ρ',S',e1,p1⟩:=uk us P hl st fuel 0 ρ S1 (eA _) (by unfold fuel;assumption) h0
 refine⟨ρ',S',?_,p1⟩
 unfold d5 iB
 rw [he]
 simp only [aE,hl 0 ρ S1 h0,bx]
 exact e1
theorem y9 {i:Nat}{b:MS}{e:ME}{ρ:Rho}{S S1:Sto}{us:List U} (he:e ρ S=some (.tup us,S1)) (P:Nat->Rho->Sto->Prop) (h0:P 0 ρ S1)
  (st : ∀ (k:Nat) (u:U) (ρ:Rho) (S:Sto),us[k]? = some u->P k ρ S -> ∃ ρ' S',b (ρ.set i (some u)) S=some (.nx,ρ',S')/\P (k+1) ρ' S') :
  ∃ ρ' S',d5 i (iB e) b ρ S=some (.nx,ρ',S')/\P us.length ρ' S':=by
 obtain⟨ρ',S',e1,p1⟩:=mG (i:=i) (b:=b) P us 0 ρ S1 h0 fun j u ρ S hj hp=>by simpa using st j u ρ S hj (by simpa using hp)
 rw [cu] at p1
 refine⟨ρ',S',?_,p1⟩
 unfold d5 iB
 rw [he]
 exact e1
noncomputable def cX (T:Nat->Nat->Nat) (w:List Nat):Nat:=w.foldl T 0
noncomputable def plc (T:Nat->Nat->Nat) (w:List Nat):List Nat:=(aA (w.length+1)).map fun k=>cX T (w.take k)
theorem B1 {m:Nat}{T:Nat->Nat->Nat} (hp:0 < m) (cl : ∀ i j,i < m->j < m->T i j < m) {w:List Nat} (hw : ∀ x∈w,x < m):cX T w < m:=by
 unfold cX
 have : ∀ (w:List Nat) (a:Nat),a < m->(∀ x∈w,x < m)->w.foldl T a < m:=by
  intro w
  induction w with
  | nil=>intro a ha _;exact ha
  | cons x w ih=>intro a ha h;exact ih _ (cl a x ha (h x (by simp))) fun y hy=>h y (by simp [hy])
 exact this w 0 hp hw
theorem xZ {T:Nat->Nat->Nat}{w:List Nat}{k x:Nat} (h:w[k]? = some x):cX T (w.take (k+1))=T (cX T (w.take k)) x:=by
 unfold cX
 rw [List.take_add_one,h]
 simp
theorem AU {α:Type}{f:Nat->α}{k:Nat}:atI ((aA (k+1)).map f) (-1)=some (f k):=by
 have e:ixN ((aA (k+1)).map f).length (-1)=some k:=by
  rw [aI,bU]
  unfold ixN
  rw [if_neg (by decide),if_pos (by omega)]
  congr 1;omega
 unfold atI
 rw [e]
 simp
theorem o3 {l:List Nat}{k:Nat}{u:U} (h:(az l)[k]? = some u) : ∃ x,l[k]? = some x/\u = .int x:=by
 obtain⟨hk,rfl⟩:=oK h
 exact⟨oF l k,by simp [oF,hk],rfl⟩
theorem IL {ρ:Rho}{S:Sto}:m1 lC (mC (.int 1)) ρ S=some (.int (-1),S):=rfl
end
end W
end
section
namespace W
open L2 G
section
theorem jt : ∀ (a b:List Nat),eS (a.map fun (x:Nat)=>eO x) (b.map fun (x:Nat)=>eO x)=decide (a=b)
 | [],[]=>by simp [eS]
 | [],_::_=>by simp [eS]
 | _::_,[]=>by simp [eS]
 | x::a,y::b=>by
   simp only [bT,eS,dN,jt a b]
   by_cases h:x=y
   ·subst h;simp
   ·have : ¬ ((x:Int)=y):=by omega
    simp [h,this]
theorem uH {S:Sto}{f:Nat}{l:List Nat}:toD S (f+2) (.tup (az l))=some (.tuple (l.map fun (x:Nat)=>eO x)):=by
 show (dq (toD S (f+1)) (az l)).map _=_
 rw [mE l];rfl
theorem BO {S:Sto}{a b:List Nat}:G.eqU S (.tup (az a)) (.tup (az b))=some (decide (a=b)):=by
 unfold G.eqU
 rw [uH (f:=38),uH (f:=38)]
 simp only [ao,bx,dN,jt]
theorem Fe {ρ:Rho}{S S1 S2:Sto}{a b:ME}{x y:List Nat} (ha:a ρ S=some (.tup (az x),S1)) (hb:b ρ S1=some (.tup (az y),S2)):m2 oNe a b ρ S=some (.bl (!decide (x=y)),S2):=
 op2 ha hb (by simp only [oNe,BO,bx])
theorem not_eq {ρ:Rho}{S S1:Sto}{c:MT}{b:Bool} (h:c ρ S=some (b,S1)):km c ρ S=some (!b,S1):=by simp only [km,h,aE]
theorem CQ {ρ:Rho}{S S1 S2 S3:Sto}{a b c:ME}{x y z:U} (ha:a ρ S=some (x,S1)) (hb:b ρ S1=some (y,S2)) (hc:c ρ S2=some (z,S3)):cf (aa a (aa b (aa c ag))) ρ S=some (.ref S3.length,S3 ++ [Cell.lst [x,y,z]]):=by
 have hq:3<=big:=by decide
 simp [cf,aa,ag,aE,ha,hb,hc,hq]
theorem AM {ns:List Int}{S:Sto}{ρ:Rho}{c:Nat} (h:Scr ns S) (hv:ρ[0]? = some (some (.ref 0))) (hl:ns.length<=63) : ∃ q:Nat,q < 1000/\mFn sZ (aa (mC (.int 1)) (aa (mFn nK (aa (mFn cQ (aa (ae 0) ag)) (aa (mC (.int c)) ag))) ag)) ρ S=some (.int q,S):=by
 have e1:mFn nK (aa (mFn cQ (aa (ae 0) ag)) (aa (mC (.int c)) ag)) ρ S=some (.int (if (c:Int) < (ns.map U.int).length then (c:Int) else (ns.map U.int).length),S):=cJ (Dm (var_eq hv) h) c_i rfl
 have e2:=cJ (f:=sZ) (a:=mC (.int 1)) (S:=S) (ρ:=ρ) c_i e1 rfl
 rw [aI] at e2
 refine⟨max 1 (min ns.length c),Nat.max_lt.mpr ⟨by decide,aH (aK (iW _ _) hl) (by decide)⟩,?_⟩
 rw [e2]
 show some (U.int (if (if (c:Int) < ns.length then (c:Int) else ns.length) > 1 then (if (c:Int) < ns.length then (c:Int) else ns.length) else 1),S)=_
 have:(if (if (c:Int) < ns.length then (c:Int) else ns.length) > 1 then (if (c:Int) < ns.length then (c:Int) else ns.length) else 1)=((max 1 (min ns.length c):Nat):Int):=by
  by_cases h:(c:Int) < ns.length
  ·rw [Nat.min_eq_right (aW (fL.mp h)),if_pos h]
   split
   ·rename_i h1;rw [Nat.max_eq_right (aW (fL.mp h1))]
   ·rename_i h1;rw [Nat.max_eq_left (dn fun z=>h1 (fL.mpr z))];rfl
  ·rw [Nat.min_eq_left (dn fun z=>h (fL.mpr z)),if_neg h]
   split
   ·rename_i h1;rw [Nat.max_eq_right (aW (fL.mp h1))]
   ·rename_i h1;rw [Nat.max_eq_left (dn fun z=>h1 (fL.mpr z))];rfl
 rw [this]
theorem pA {t:MT}{e:ME}{ρ:Rho} (p:Nat->Bool) (g:Nat->U) (P:Nat->Sto->Prop) : ∀ (us:List U) (k:Nat) (acc:List U) (S:Sto),P k S ->
  (∀ (j:Nat) (u:U) (S:Sto),us[j]? = some u->P (k+j) S -> ∃ S',t (ρ ++ [some u]) S=some (p (k+j),S')/\(p (k+j)=true -> ∃ S'',e (ρ ++ [some u]) S'=some (g (k+j),S'')/\P (k+j+1) S'')/\(p (k+j)=false->P (k+j+1) S')) ->
  ∃ S',d7 t e ρ us acc S=some (acc++((bD k us.length).filter p).map g,S')/\P (k+us.length) S'
 | [],k,acc,S,h,_=>⟨S,by simp [d7],h⟩
 | u::us,k,acc,S,h,st=>by
   have rest : ∀ (acc':List U) (S1:Sto),P (k+1) S1 -> ∃ S',d7 t e ρ us acc' S1=some (acc'++((bD (k+1) us.length).filter p).map g,S')/\P (k+(u::us).length) S':=fun acc' S1 h1=>by
    obtain⟨S2,e2,h2⟩:=pA p g P us (k+1) acc' S1 h1 fun j v S hj hp=>by
     have:=st (j+1) v S (by simpa using hj) (by rw [show k+(j+1)=k+1+j by omega];exact hp)
     rw [show k+(j+1)+1=k+1+j+1 by omega,show k+(j+1)=k+1+j by omega] at this
     exact this
    exact⟨S2,e2,by rw [show k+(u::us).length=k+1+us.length by simp;omega];exact h2⟩
   obtain⟨S1,e1,ht,hf⟩:=st 0 u S rfl h
   rw [jc] at e1 ht hf
   show ∃ S',bnd (t (ρ ++ [some u]) S) _=_/\_
   rw [e1]
   simp only [aE,ed,kN,List.filter_cons]
   cases hp:p k with
   | true=>
     obtain⟨S2,e2,h2⟩:=ht hp
     simp only [if_true]
     rw [e2]
     simp only [aE]
     obtain⟨S3,e3,h3⟩:=rest (acc ++ [g k]) S2 h2
     exact⟨S3,by rw [e3];simp,h3⟩
   | false=>
     simp only [dj,if_false]
     exact rest acc S1 (hf hp)
theorem uO {ρ:Rho}{S S0:Sto}{a e:ME}{t:MT}{n:Nat} (ha:a ρ S=some (.int n,S0)) (hn:n < big) (p:Nat->Bool) (g:Nat->U) (P:Nat->Sto->Prop) (h0:P 0 S0)
  (hs : ∀ (j:Nat) (S:Sto),j < n->P j S -> ∃ S',t (ρ ++ [some (.int j)]) S=some (p j,S')/\(p j=true -> ∃ S'',e (ρ ++ [some (.int j)]) S'=some (g j,S'')/\P (j+1) S'')/\(p j=false->P (j+1) S')) :
  ∃ S',cw (iR1 (aa a ag)) t e ρ S=some (.ref S'.length,S' ++ [.lst (((aA n).filter p).map g)])/\P n S':=by
 obtain⟨S1,e1,h1⟩:=pA (t:=t) (e:=e) (ρ:=ρ) p g P (aU 0 n) 0 [] S0 h0 fun j u S hj hp=>by
  have hl:j < n:=by have:=(af.mp hj).1;simpa [aU] using this
  have hu:(aU 0 n)[j]? = some (.int j):=by simp [aU,hl]
  rw [hu] at hj;cases hj
  simpa using hs j S hl (by simpa using hp)
 have hlen:(aU 0 n).length=n:=by simp [aU]
 simp only [hlen,cu,dQ,<- mS] at e1 h1
 exact⟨S1,kH (kB ha hn) e1 (by
  rw [aI]
  exact aH (List.length_filter_le _ _) (by rw [bU];exact hn)),h1⟩
theorem lE {ρ:Rho}{S S0:Sto}{a e:ME}{n:Nat} (ha:a ρ S=some (.int n,S0)) (hn:n < big) (g:Nat->U) (P:Nat->Sto->Prop) (h0:P 0 S0)
  (hs : ∀ (j:Nat) (S:Sto),j < n->P j S -> ∃ S',e (ρ ++ [some (.int j)]) S=some (g j,S')/\P (j+1) S') :
  ∃ S',cw (iR1 (aa a ag)) cTT e ρ S=some (.ref S'.length,S' ++ [.lst ((aA n).map g)])/\P n S':=by
 obtain⟨S1,e1,h1⟩:=kM (e:=e) (ρ:=ρ) g P (aU 0 n) 0 [] S0 h0 fun j u S hj hp=>by
  have hl:j < n:=by have:=(af.mp hj).1;simpa [aU] using this
  have hu:(aU 0 n)[j]? = some (.int j):=by simp [aU,hl]
  rw [hu] at hj;cases hj
  simpa using hs j S hl (by simpa using hp)
 have hlen:(aU 0 n).length=n:=by simp [aU]
 simp only [hlen,cu,dQ] at e1 h1
 exact⟨S1,kH (kB ha hn) e1 (by rw [aI,bU];exact hn),h1⟩
theorem Cc {ρ:Rho}{S S1 S2:Sto}{a b:ME}{x y:Nat} (ha:a ρ S=some (.int x,S1)) (hb:b ρ S1=some (.int y,S2)):m2 oEq a b ρ S=some (.bl (decide (x=y)),S2):=by
 rw [zR ha hb]
 congr 3
 by_cases h:x=y
 ·subst h;simp
 ·have : ¬ ((x:Int)=y):=by omega
  simp [h,this]
end
end W
end
section
namespace W
open L2 G
section
theorem sR {i:Nat}{b:MS} (p:Nat->Bool) (u:U) (P:Nat->Rho->Sto->Prop) (R:Sto->Prop) : ∀ (us:List U) (k:Nat) (ρ:Rho) (S:Sto),P k ρ S ->
  (∀ (j:Nat) (v:U) (ρ:Rho) (S:Sto),us[j]? = some v->P (k+j) ρ S->(p (k+j)=true -> ∃ ρ' S',b (ρ.set i (some v)) S=some (.nx,ρ',S')/\P (k+j+1) ρ' S')/\(p (k+j)=false -> ∃ ρ' S',b (ρ.set i (some v)) S=some (.rt u,ρ',S')/\R S')) ->
  ((∀ j,j < us.length->p (k+j)=true) /\ ∃ ρ' S',jE i b us ρ S=some (.nx,ρ',S')/\P (k+us.length) ρ' S')\/((∃ j,j < us.length/\p (k+j)=false) /\ ∃ ρ' S',jE i b us ρ S=some (.rt u,ρ',S')/\R S')
 | [],k,ρ,S,h,_ => .inl ⟨fun j hj=>by simp at hj,ρ,S,rfl,h⟩
 | v::us,k,ρ,S,h,st=>by
   obtain⟨ht,hf⟩:=st 0 v ρ S rfl h
   rw [jc] at ht hf
   cases hp:p k with
   | false=>
     obtain⟨ρ1,S1,e1,r1⟩:=hf hp
     refine .inr ⟨⟨0,by simp,by simpa using hp⟩,ρ1,S1,?_,r1⟩
     show aft (b (ρ.set i (some v)) S) (jE i b us)=_
     rw [e1];rfl
   | true=>
     obtain⟨ρ1,S1,e1,h1⟩:=ht hp
     have e0:jE i b (v::us) ρ S=jE i b us ρ1 S1:=by
      show aft (b (ρ.set i (some v)) S) (jE i b us)=_
      rw [e1];rfl
     rw [e0]
     rcases sR p u P R us (k+1) ρ1 S1 h1 (fun j w ρ S hj hq=>by
      have:=st (j+1) w ρ S (by simpa using hj) (by rw [show k+(j+1)=k+1+j by omega];exact hq)
      rw [show k+(j+1)+1=k+1+j+1 by omega,show k+(j+1)=k+1+j by omega] at this
      exact this) with⟨hall,ρ2,S2,e2,h2⟩ | ⟨⟨j,hj,hpj⟩,ρ2,S2,e2,h2⟩
     ·refine .inl ⟨fun j hj => ?_,ρ2,S2,e2,by rw [show k+(v::us).length=k+1+us.length by simp;omega];exact h2⟩
      cases j with
      | zero=>simpa using hp
      | succ j=>have:=hall j (by simpa using hj);rwa [show k+1+j=k+(j+1) by omega] at this
     ·exact .inr ⟨⟨j+1,by simpa using hj,by rwa [show k+1+j=k+(j+1) by omega] at hpj⟩,ρ2,S2,e2,h2⟩
theorem ye {ρ:Rho}{S:Sto}{i:Nat}{a:ME}{n:Nat}{b:MS} (ha:a ρ S=some (.int n,S)) (h:n < big) (p:Nat->Bool) (u:U) (P:Nat->Rho->Sto->Prop) (R:Sto->Prop) (h0:P 0 ρ S)
  (st : ∀ (j:Nat) (ρ:Rho) (S:Sto),j < n->P j ρ S->(p j=true -> ∃ ρ' S',b (ρ.set i (some (.int j))) S=some (.nx,ρ',S')/\P (j+1) ρ' S')/\(p j=false -> ∃ ρ' S',b (ρ.set i (some (.int j))) S=some (.rt u,ρ',S')/\R S')) :
  ((∀ j,j < n->p j=true) /\ ∃ ρ' S',d5 i (iR1 (aa a ag)) b ρ S=some (.nx,ρ',S')/\P n ρ' S')\/((∃ j,j < n/\p j=false) /\ ∃ ρ' S',d5 i (iR1 (aa a ag)) b ρ S=some (.rt u,ρ',S')/\R S'):=by
 rw [uq ha h]
 have hlen:(aU 0 n).length=n:=by simp [aU]
 have key:=sR (i:=i) (b:=b) p u P R (aU 0 n) 0 ρ S h0 fun j v ρ S hj hp=>by
  have hl:j < n:=by have:=(af.mp hj).1;simpa [aU] using this
  have hu:(aU 0 n)[j]? = some (.int j):=by simp [aU,hl]
  rw [hu] at hj;cases hj
  simpa using st j ρ S hl (by simpa using hp)
 simp only [hlen,cu] at key
 exact key
theorem za {a b:MS}{ρ ρ1:Rho}{S S1:Sto}{u:U} (h:a ρ S=some (.rt u,ρ1,S1)):aZ a b ρ S=some (.rt u,ρ1,S1):=by simp only [aZ,h]
theorem uR {m:Nat}{T:Nat->Nat->Nat}{i:Nat}:kU m T i = .tup (az ((aA m).map (T i))):=by
 unfold kU yd az
 rw [cK];rfl
noncomputable def unT (m:Nat) (T:Nat->Nat->Nat) (i:Nat):Nat:=((aA m).map (T i)).idxOf 0
theorem mm {m:Nat}{T:Nat->Nat->Nat} (g:Grp m T) {i:Nat} (hi:i < m):unT m T i < m/\T i (unT m T i)=0/\T (unT m T i) i=0 /\ ∀ k,k < m->T i k=0->k=unT m T i:=by
 obtain⟨j,hj,h1,h2,h3⟩:=g.inv1 hi
 have e:unT m T i=j:=by
  unfold unT
  rw [mS,idx_map (k:=j) m 0 (eA _) (by omega) h1 fun k _ hk h0=>by have:=h3 k (by exact cM (by assumption) (by assumption)) h0;omega]
  omega
 rw [e];exact⟨hj,h1,h2,h3⟩
theorem FE {m:Nat}{T:Nat->Nat->Nat} (g:Grp m T) {i:Nat} (hi:i < m):0∈(aA m).map (T i):=by
 obtain⟨h1,h2,_⟩:=mm g hi
 exact bX.mpr ⟨unT m T i,aP.mpr h1,h2⟩
theorem Hj {ρ:Rho}{S S1:Sto}{a:ME}{u:U} (ha:a ρ S=some (u,S1)):eU (aa a ag) ρ S=some (.tup [u],S1):=by
 have hb1:1<=big:=by decide
 simp [eU,lq ha,aE,hb1]
theorem my {S:Sto}{f n:Nat}{l:List Nat} (h:S[n]? = some (Cell.lst (az l))):toD S (f+2) (.ref n)=some (.list (l.map fun (x:Nat)=>eO x)):=by
 show (getL S n).bind _=_
 have:getL S n=some (az l):=by unfold getL;rw [h]
 rw [this]
 simp only [ao]
 rw [mE l];rfl
theorem eq_list {ρ:Rho}{S S1 S2:Sto}{a b:ME}{n k:Nat}{x y:List Nat} (ha:a ρ S=some (.ref n,S1)) (hb:b ρ S1=some (.ref k,S2)) (hn:S2[n]? = some (Cell.lst (az x))) (hk:S2[k]? = some (Cell.lst (az y))):m2 oEq a b ρ S=some (.bl (decide (x=y)),S2):=by
 refine op2 ha hb ?_
 unfold oEq G.eqU
 rw [my (f:=38) hn,my (f:=38) hk]
 simp only [ao,bx,dN,jt]
theorem wM {ρ:Rho}{S S1 S2:Sto}{a b:ME}{n k:Nat}{x y:List Nat} (ha:a ρ S=some (.ref n,S1)) (hb:b ρ S1=some (.ref k,S2)) (hn:S2[n]? = some (Cell.lst (az x))) (hk:S2[k]? = some (Cell.lst (az y))):m2 oNe a b ρ S=some (.bl (!decide (x=y)),S2):=by
 refine op2 ha hb ?_
 unfold oNe G.eqU
 rw [my (f:=38) hn,my (f:=38) hk]
 simp only [ao,bx,dN,jt]
theorem or_false {ρ:Rho}{S S1 S2:Sto}{a b:MT} (ha:a ρ S=some (false,S1)) (hb:b ρ S1=some (false,S2)):cOr a b ρ S=some (false,S2):=by
 rw [or_eq ha hb (by intro z;cases z)];rfl
end
end W
end
section
namespace W
open L2 G
section
noncomputable def jS (l:List Nat):List Int:=l.map fun (x:Nat)=>(x:Int)
noncomputable def srt (l:List Nat):List Nat:=(nz (jS l)).map sN
theorem vI (l:List Nat):(nz (jS l)).map U.int=az (srt l):=by
 unfold az srt
 rw [cK]
 apply bE
 intro i hi
 have hm:=(ij (jS l)).mem_iff.mp hi
 obtain⟨x,_,rfl⟩:=bX.mp hm
 rfl
theorem oI : ∀ l:List Nat,(jS l).map sN=l
 | []=>rfl
 | x::l=>by
   show sN (x:Int)::(jS l).map sN=x::l
   rw [oI l];rfl
theorem mJ (l:List Nat):(srt l).Perm l:=by
 have h:=(ij (jS l)).map sN
 rw [oI] at h
 exact h
theorem xQ {a b:List Nat} (p:a.Perm b):srt a=srt b:=by
 unfold srt
 rw [uw ((ij (jS a)).trans (p.map _)) (uQ _)]
 rfl
theorem wH {l:List Nat}{x:Nat}:x∈srt l↔x∈l:=(mJ l).mem_iff
theorem sf (l:List Nat):(srt l).length=l.length:=(mJ l).length_eq
theorem o9 : ∀ (l:List Nat),dq oW (az l)=some (jS l)
 | []=>rfl
 | x::l=>by
   show (oW (.int x)).bind _=_
   simp only [oW,ao]
   rw [show List.map (fun (x:Nat)=>U.int x) l=az l from rfl,o9 l]
   rfl
theorem zw {S:Sto}{x:U}{l:List Nat} (h:tz S x=some (jS l)) (hl:l.length < 64):gY [x] S=some (.ref S.length,S ++ [.lst (az (srt l))]):=by
 have ok:vB (jS l).length:=by unfold jS;rw [aI];exact hl
 simp only [gY,h,ao,ok,if_true,vI]
theorem zp {ρ:Rho}{S S1:Sto}{a:ME}{n:Nat}{l:List Nat} (ha:a ρ S=some (.ref n,S1)) (hn:S1[n]? = some (Cell.lst (az l))) (hl:l.length < 64):mFn gY (aa a ag) ρ S=some (.ref S1.length,S1 ++ [.lst (az (srt l))]):=
 fj ha (zw (by simp only [tz,fP,hn,du,getL,ao,o9]) hl)
section
variable {m:Nat}{T:Nat->Nat->Nat}{t n:Nat}
end
end
end W
end
section
namespace W
open L2 G
section
open PySem in
open PySem in
open PySem in
inductive Pl:yV->Prop where
 | non:Pl .none
 | bl (b:Bool):Pl (.bool b)
 | int (i:Int):i.natAbs < 10 ^ 12->Pl (.int i)
 | lst (xs:List yV):(∀ x∈xs,Pl x)->Pl (.list xs)
 | tup (xs:List yV):(∀ x∈xs,Pl x)->Pl (.tuple xs)
open PySem in
open PySem in
open PySem in
open PySem in
open PySem in
open PySem in
open PySem in
open PySem in
open PySem in
open PySem in
open PySem in
open PySem in
theorem Dt {f:MF}{ρ:Rho}{S S1 S2 S3:Sto}{a b c:ME}{x y z:U}{r:Res U} (ha:a ρ S=some (x,S1)) (hb:b ρ S1=some (y,S2)) (hc:c ρ S2=some (z,S3)) (h:f [x,y,z] S3=r):mFn f (aa a (aa b (aa c ag))) ρ S=r:=by
 simp only [mFn,aa,ag,ha,hb,hc,aE,h]
end
end W
end
section
namespace W
open L2 G
section
theorem rF {c:MT}{b:MS} (P:Nat->Rho->Sto->Prop) (Q:Rho->Sto->Prop)
  (hc : ∀ μ ρ S,P μ ρ S -> ∃ k S1,c ρ S=some (k,S1)/\(k=false->Q ρ S1)/\(k=true -> ∃ ρ' S' μ',μ' < μ/\b ρ S1=some (.nx,ρ',S')/\P μ' ρ' S')) :
  ∀ (f μ:Nat) (ρ:Rho) (S:Sto),μ < f->P μ ρ S -> ∃ ρ' S',whl c b f ρ S=some (.nx,ρ',S')/\Q ρ' S'
 | 0,μ,ρ,S,h,_=>by omega
 | f+1,μ,ρ,S,h,hp=>by
   obtain⟨k,S1,e,q1,q2⟩:=hc μ ρ S hp
   unfold whl
   rw [e]
   simp only [aE]
   cases k with
   | false=>exact⟨ρ,S1,by simp,q1 rfl⟩
   | true=>
     obtain⟨ρ1,S2,μ1,hl,e1,p1⟩:=q2 rfl
     obtain⟨ρ2,S3,e2,q⟩:=rF P Q hc f μ1 ρ1 S2 (by omega) p1
     exact⟨ρ2,S3,by simp only [if_true,aft,e1,e2],q⟩
section
variable {S x:Sto}{c e c' e':Cell}
theorem h0:(S ++ [c,e]++x)[S.length]? = some c:=by rw [bf,aq (ak _)];simp
theorem h1:(S ++ [c,e]++x)[S.length+1]? = some e:=by rw [bf,aq (by exact ck _)];simp
end
inductive Rch (T:Nat->Nat->Nat) (ths:List Nat):Nat->Prop where
 | zero:Rch T ths 0
 | step {x y:Nat}:Rch T ths x->y∈ths->Rch T ths (T x y)
structure Dfs (m:Nat) (T:Nat->Nat->Nat) (ths:List Nat) (ks:List Nat) (C:Nat->Prop):Prop where
 nd:ks.Nodup
 lt : ∀ x∈ks,x < m
 z:0∈ks
 rc : ∀ x∈ks,Rch T ths x
 cl : ∀ x∈ks,C x \/ ∀ y∈ths,T x y∈ks
section
variable {m:Nat}{T:Nat->Nat->Nat}{ths ks st:List Nat}
structure Inn (m:Nat) (T:Nat->Nat->Nat) (ths:List Nat) (h k:Nat) (p:List Nat×List Nat) (μ:Nat):Prop where
 d:Dfs m T ths p.1 fun x=>x∈p.2\/x=h
 sub : ∀ x∈p.2,x∈p.1
 hk:h∈p.1
 hh : ∀ y∈ths.take k,T h y∈p.1
 ms:2*(m - p.1.length)+p.2.length<=μ
structure J1 (m:Nat) (T:Nat->Nat->Nat) (ths ks st:List Nat) (μ:Nat):Prop where
 d:Dfs m T ths ks fun x=>x∈st
 sub : ∀ x∈st,x∈ks
 ms:2*(m - ks.length)+st.length<=μ
end
end
end W
end
section
namespace W
open L2 G
section
section
variable {m:Nat}{T:Nat->Nat->Nat}{ths:List Nat}{S x:Sto}{v:U}
theorem Cn {α:Type} : ∀ {l:List α},l ≠ [] -> ∃ a b,l=a ++ [b]
 | l,h=>⟨l.dropLast,l.getLast h,(List.dropLast_concat_getLast h).symm⟩
theorem Im {ρ:Rho}{S S1:Sto}{a:ME}{x:U} (ha:a ρ S=some (x,S1)):cf (aa a ag) ρ S=some (.ref S1.length,S1 ++ [Cell.lst [x]]):=by
 have hq:1<=big:=by decide
 simp [cf,aa,ag,aE,ha,hq]
end
end
end W
end
section
namespace W
open L2 G
section
open PySem in
structure Sml (ls:List (List Nat)):Prop where
 len:ls.length<=64
 each : ∀ l∈ls,l.length<=64
 lt : ∀ l∈ls,∀ x∈l,x < 1000
open PySem in
open PySem in
open PySem in
theorem BE {l:List Nat}{x:Nat}:inV (.int x) (l.map fun (y:Nat)=>V.int y)=decide (x∈l):=by
 unfold inV
 rw [List.any_map]
 by_cases h:x∈l
 ·rw [decide_eq_true h,List.any_eq_true]
  exact⟨x,h,by simp [eqV]⟩
 ·rw [decide_eq_false h,List.any_eq_false]
  intro y hy
  have:y≠x:=fun e=>h (e▸hy)
  simp [eqV];omega
theorem qP : ∀ (l:List Nat),dq eI (az l)=some (l.map fun (y:Nat)=>V.int y)
 | []=>rfl
 | x::l=>by
   show (eI (.int x)).bind _=_
   simp only [eI,ao]
   have:=qP l
   unfold az at this
   rw [this];rfl
section
variable {m:Nat}{T:Nat->Nat->Nat}{part:List Nat}{S:Sto}
end
end
end W
end
section
namespace W
open L2 G
section
theorem lA {t:MT}{e:ME}{ρ:Rho}{S:Sto}{p:U->Bool}{f:U->U} : ∀ (us acc:List U),(∀ u∈us,t (ρ ++ [some u]) S=some (p u,S))->(∀ u∈us,p u=true->e (ρ ++ [some u]) S=some (f u,S)) ->
  d7 t e ρ us acc S=some (acc++(us.filter p).map f,S)
 | [],acc,_,_=>by simp [d7]
 | u::us,acc,ht,he=>by
   unfold d7
   rw [ht u (by simp)]
   simp only [aE]
   cases hp:p u with
   | true=>
     rw [if_pos rfl,he u (by simp) hp]
     simp only [aE]
     rw [lA us _ (fun v hv=>ht v (av _ hv)) (fun v hv=>he v (av _ hv)),List.filter_cons_of_pos hp]
     simp
   | false=>
     rw [if_neg bG,lA us _ (fun v hv=>ht v (av _ hv)) (fun v hv=>he v (av _ hv)),List.filter_cons_of_neg (by rw [hp];decide)]
theorem Bj {ρ:Rho}{S S1 S2:Sto}{a b:ME}{x:Nat}{l:List Nat} (ha:a ρ S=some (.int x,S1)) (hb:b ρ S1=some (.tup (az l),S2)):cOf (m2 jZ a b) ρ S=some (!decide (x∈l),S2):=by
 refine of_eq (op2 ha hb ?_)
 simp only [jZ,fP,eI,ao,du,qP,bx,BE]
theorem FH {ρ:Rho}{S S1 S2:Sto}{a b:ME}{x y:U} (ha:a ρ S=some (x,S1)) (hb:b ρ S1=some (y,S2)):eU (aa a (aa b ag)) ρ S=some (.tup [x,y],S2):=by
 have hb2:2<=big:=by decide
 simp [eU,aa,ag,ha,hb,aE,hb2]
theorem v9 {m:Nat}{T:Nat->Nat->Nat}{S:Sto} (g:Grp m T) {i:Nat} (hi:i < m):G.run 2 2 (cW (mMT fq (m2 oIx (ae 0) (ae 1)) (aa (mC (.int 0)) ag))) [tab m T,.int i] S=some (.int (unT m T i),S):=by
 have h0:=FE g hi
 have e:=gL (ρ := [some (tab m T),some (.int i)]) (S:=S) (a:=ae 0) (b:=ae 1) hi (var_eq rfl) (var_eq rfl)
 rw [uR] at e
 exact dB (ρ := [some (tab m T),some (.int i)]) rfl (dC (tw (x:=0) e c_i h0))
section
variable {m:Nat}{T:Nat->Nat->Nat}{st left:List Nat}{S:Sto}
theorem Gr {k n:Nat}{b:MS}{us:List U}{S S1:Sto}{ρ:Rho} (hl:us.length=k) (h:b (us.map some++ay (n - k) none) S=some (.nx,ρ,S1)):G.run k n b us S=some (.non,S1):=by
 unfold G.run
 rw [if_pos hl,h]
theorem HM {f:MF}{ρ:Rho}{S S1 S2 S3 S4:Sto}{a b c d:ME}{x y z v:U}{r:Res U} (ha:a ρ S=some (x,S1)) (hb:b ρ S1=some (y,S2)) (hc:c ρ S2=some (z,S3)) (hd:d ρ S3=some (v,S4)) (h:f [x,y,z,v] S4=r):mFn f (aa a (aa b (aa c (aa d ag)))) ρ S=r:=by
 simp only [mFn,aa,ag,ha,hb,hc,hd,aE,h]
theorem zi {ρ:Rho}{S S1 S2:Sto}{a b:ME}{x y:List Nat} (ha:a ρ S=some (.tup (az x),S1)) (hb:b ρ S1=some (.tup (az y),S2)) (hl:x.length+y.length<=big):m2 bV a b ρ S=some (.tup (az (x++y)),S2):=by
 refine op2 ha hb ?_
 simp only [bV]
 rw [if_pos (by rw [dO,dO];exact hl)]
 simp [az]
end
end
end W
end
section
namespace W
open L2 G
section
abbrev Nod:=List Nat×List Nat
noncomputable def qX (th:List Nat):Nat:=(th.getLast?).getD 0
theorem oN {l:List Nat}{x:Nat}:qX (l ++ [x])=x:=by simp [qX]
theorem Bq {th:List Nat} (h:th ≠ []):atI (az th) (-1)=some (.int (qX th:Nat)):=by
 obtain⟨l,x,rfl⟩:=Cn h
 rw [oN]
 have hl:(az (l ++ [x])).length=l.length+1:=by simp [az]
 unfold atI
 have:L2.ixN (az (l ++ [x])).length (-1)=some l.length:=by
  rw [hl];unfold L2.ixN
  rw [if_neg (by decide),if_pos (by omega)]
  congr 1;omega
 rw [this]
 simp [az]
noncomputable def kids (T:Nat->Nat->Nat) (st:List Nat) (p:Nod):List Nod:=(st.filter fun s => !decide (T (qX p.2) s∈p.2)).map fun s=>(p.1 ++ [s],p.2 ++ [T (qX p.2) s])
noncomputable def DT (T:Nat->Nat->Nat) (st:List Nat) (L:Nod->List (List Nat)):Nat->Nod->List (List Nat)
 | 0,p=>L p
 | k+1,p=>(kids T st p).flatMap (DT T st L k)
section
variable {m:Nat}{T:Nat->Nat->Nat}{st:List Nat}{S x:Sto}{F:List (List Nat)}{ln:List Nod}{ρ:Rho}
end
noncomputable def Dx (b:Nat):Nat->Nat
 | 0=>1
 | k+1=>1+b*Dx b k
noncomputable def msr (b m:Nat) (ln:List Nod):Nat:=(ln.map fun p=>Dx b (m - 1 - p.1.length)).sum
noncomputable def rest (T:Nat->Nat->Nat) (st:List Nat) (L:Nod->List (List Nat)) (m:Nat) (ln:List Nod):List (List Nat):=ln.reverse.flatMap fun p=>DT T st L (m - 1 - p.1.length) p
structure Nd (m:Nat) (p:Nod):Prop where
 le:p.1.length<=m - 1
 len:p.2.length=p.1.length+1
 lt : ∀ x∈p.2,x < m
section
variable {m:Nat}{T:Nat->Nat->Nat}{st:List Nat}{L:Nod->List (List Nat)}{ln:List Nod}{p:Nod}
end
end
end W
end
section
namespace W
open L2 G
section
theorem vM {ρ:Rho}{S S0:Sto}{i:Nat}{a:ME}{n:Nat}{b:MS} (ha:a ρ S=some (.int n,S0)) (h:n < big) (P:Nat->Rho->Sto->Prop) (h0:P 0 ρ S0)
  (hs : ∀ (j:Nat) (ρ:Rho) (S:Sto),j < n->P j ρ S -> ∃ ρ' S',b (ρ.set i (some (.int j))) S=some (.nx,ρ',S')/\P (j+1) ρ' S') :
  ∃ ρ' S',d5 i (iR1 (aa a ag)) b ρ S=some (.nx,ρ',S')/\P n ρ' S':=by
 obtain⟨ρ',S',e1,p1⟩:=mG (i:=i) (b:=b) P (aU 0 n) 0 ρ S0 h0 fun j u ρ S hj hp=>by
  have hl:j < n:=by have:=(af.mp hj).1;simpa [aU] using this
  have hu:(aU 0 n)[j]? = some (.int j):=by simp [aU,hl]
  rw [hu] at hj;cases hj
  simpa using hs j ρ S hl (by simpa using hp)
 have hlen:(aU 0 n).length=n:=by simp [aU]
 rw [hlen,cu] at p1
 refine⟨ρ',S',?_,p1⟩
 unfold d5
 rw [kB ha h]
 exact e1
theorem Jl {ρ:Rho}{S S1 S2:Sto}{a b:ME}{x y:Nat} (ha:a ρ S=some (.int x,S1)) (hb:b ρ S1=some (.int y,S2)):mFn nK (aa a (aa b ag)) ρ S=some (.int (min x y:Nat),S2):=by
 refine cJ ha hb ?_
 show some (U.int (if (y:Int) < x then (y:Int) else x),S2)=_
 congr 3
 split <;> omega
noncomputable def xy:MS:=dy (mML cm (ae 4) (aa (mML iR (ae 3) (aa (mFn aC (aa (ae 0) (aa (mFn cQ (aa (ae 3) ag)) ag))) ag)) ag))
noncomputable def vL:MS:=aZ (br 3 (fV (iR2 (aa (mC (.int 1)) (aa (mFn cQ (aa (ae 1) ag)) ag))))) (aZ (br 4 (cf ag)) (aZ (d5 5 (iR1 (aa (mFn nK (aa (mFn cQ (aa (ae 3) ag)) (aa (m2 bV (mC (.int 1)) (mFn aC (aa (ae 0) (aa (ae 2) ag)))) ag))) ag)) xy) (cW (mFn bS (aa (mFn gY (aa (ae 4) ag)) ag)))))
theorem yJ {n m most:Nat}{T:Nat->Nat->Nat}{S:Sto} (h:i8 n S) (g:Grp m T) (hm:m < 60) (hmo:0 < most) (hmo2:most < 60) : ∃ w S',G.run 3 6 vL [.ref n,tab m T,.int (most:Nat)] S=some (.tup (az w),S')/\Stp n S S'/\(∀ x∈w,x < m)/\w.length<=most/\w.length < 60/\w.Nodup/\(∀ x∈w,x≠0)/\(1 < m->w ≠ [])/\srt w=w:=by
 have hp:=g.pos
 have hbig:m < big:=by unfold big;exact ah (by assumption) (by decide)
 have hn:=h.lt
 have hne1:S.length+1≠n:=bY (eZ hn)
 have hm1:m - 1 < 60:=aH (f9 m 1) hm
 have e1:fV (iR2 (aa (mC (.int 1)) (aa (mFn cQ (aa (ae 1) ag)) ag))) [some (.ref n),some (tab m T),some (.int (most:Nat)),none,none,none] S=some (.ref S.length,S ++ [Cell.lst (az (bD 1 (m - 1)))]):=by
  rw [qE (i:=1) (j:=m) rfl (len_tab (var_eq rfl)) ⟨by decide,by decide⟩ (nY hbig) (by rw [jh m (by assumption),dO,oq];exact aK (f9 m 1) (aW hbig)),jh m (by assumption)]
 have e2:cf ag [some (.ref n),some (tab m T),some (.int (most:Nat)),some (.ref S.length),none,none] (S ++ [Cell.lst (az (bD 1 (m - 1)))])=some (.ref (S.length+1),S ++ [Cell.lst (az (bD 1 (m - 1)))] ++ [Cell.lst []]):=lY.trans (by simp)
 generalize hS2:S ++ [Cell.lst (az (bD 1 (m - 1)))] ++ [Cell.lst []]=S2 at e2
 have x2:Ex S S2:=⟨_,by rw [<- hS2,bf]⟩
 have g3:S2[S.length]? = some (Cell.lst (az (bD 1 (m - 1)))):=by rw [<- hS2,bf,aq (ak _)];simp
 have g4:S2[S.length+1]? = some (Cell.lst (az [])):=by rw [<- hS2,bf,aq (by exact ck _)];simp [az]
 have st2:Stp n S S2:=Stp.ex h x2
 obtain⟨r,S3,e3,hr,st3⟩:=eV (m:=most) st2.st hmo (by exact ah (by assumption) (by decide))
 have hlen:(bD 1 (m - 1)).length=m - 1:=by simp
 have e4:mFn nK (aa (mFn cQ (aa (ae 3) ag)) (aa (m2 bV (mC (.int 1)) (mFn aC (aa (ae 0) (aa (ae 2) ag)))) ag)) [some (.ref n),some (tab m T),some (.int (most:Nat)),some (.ref S.length),some (.ref (S.length+1)),none] S2=some (.int (min (m - 1) (1+r):Nat),S3):=by
  refine Jl (x:=m - 1) (y:=1+r) ?_ (add_n (x:=1) (y:=r) c_i (cJ (var_eq rfl) (var_eq rfl) e3))
  have:=As (ρ := [some (.ref n),some (tab m T),some (.int (most:Nat)),some (.ref S.length),some (.ref (S.length+1)),none]) (S:=S2) (a:=ae 3) (var_eq rfl) g3
  rw [this,dO,hlen]
 obtain⟨ρ5,S5,e5,a5,l5,w5,rfl,q3,q4,q5,q6,q7,q8,st5⟩:=vM (i:=5) (b:=xy) e4 (aH (aK (iW _ _) (f9 m 1)) hbig)
  (fun k ρ S' => ∃ a l w,ρ = [some (.ref n),some (tab m T),some (.int (most:Nat)),some (.ref S.length),some (.ref (S.length+1)),a]/\S'[S.length]? = some (Cell.lst (az l))/\S'[S.length+1]? = some (Cell.lst (az w))/\l.length+k=m - 1/\w.length=k/\(∀ x∈l,x < m)/\(w++l).Perm (bD 1 (m - 1))/\Stp n S S')
  ⟨none,bD 1 (m - 1),[],rfl,st3.some (by exact bY (by assumption)) g3,st3.some hne1 g4,by rw [hlen];rfl,rfl,fun x hx=>pG (pN.mp hx).2 (i4 hp),by simp,st2.trans st3⟩ (by
   rintro k ρ S' hk ⟨a,l,w,rfl,c3,c4,hl,hw,lt1,lt2,st⟩
   have hlp:0 < l.length:=Nat.lt_of_add_lt_add_right (by rw [cu,hl];exact ah hk (iW _ _))
   have hll:l.length < 60:=aH (aK (iu _ k) (qw hl)) hm1
   have hkk:k < 60:=aH (aK (Nat.le_add_left k _) (qw hl)) hm1
   obtain⟨q,S6,e6,hq,st6⟩:=eV (m:=l.length) st.st hlp (ah hll (by decide))
   have c3':=st6.some (by exact bY (by assumption)) c3
   have c4':=st6.some hne1 c4
   have el:mFn cQ (aa (ae 3) ag) [some (.ref n),some (tab m T),some (.int (most:Nat)),some (.ref S.length),some (.ref (S.length+1)),some (.int k)] S'=some (.int (l.length:Nat),S'):=by
    have:=As (ρ := [some (.ref n),some (tab m T),some (.int (most:Nat)),some (.ref S.length),some (.ref (S.length+1)),some (.int k)]) (S:=S') (a:=ae 3) (var_eq rfl) c3
    rw [this,dO]
   have ep:=ue (ρ := [some (.ref n),some (tab m T),some (.int (most:Nat)),some (.ref S.length),some (.ref (S.length+1)),some (.int k)]) (o:=ae 3) (a:=mFn aC (aa (ae 0) (aa (mFn cQ (aa (ae 3) ag)) ag))) (r:=S.length) (j:=q) (l:=l) (var_eq rfl) (cJ (var_eq rfl) el e6) c3 c3' hq (by unfold big;exact ah hll (by decide))
   have hin:l[q]∈l:=qZ hq
   generalize hx:l[q]=xv at ep hin
   have lS:S.length < S6.length:=(af.mp c3').1
   have c4'':(S6.set S.length (Cell.lst (az (l.eraseIdx q))))[S.length+1]? = some (Cell.lst (az w)):=by rw [aB (by exact bg (cR _))];exact c4'
   have ea:=append_eq (ρ := [some (.ref n),some (tab m T),some (.int (most:Nat)),some (.ref S.length),some (.ref (S.length+1)),some (.int k)]) (o:=ae 4) (r:=S.length+1) (var_eq rfl) ep c4 c4'' (by rw [dO,hw];unfold big;exact ah hkk (by decide))
   refine⟨_,_,ea,some (.int k),l.eraseIdx q,w ++ [xv],rfl,?_,?_,?_,by simp [hw],fun z hz=>lt1 z (List.mem_of_mem_eraseIdx hz),?_,?_⟩
   ·rw [aB (by exact Nat.succ_ne_self _)]
    exact aN lS
   ·rw [aN (af.mp c4'').1]
    simp [az]
   ·rw [List.length_eraseIdx,if_pos hq,<- hl,<- dZ,Nat.add_right_comm,Nat.sub_add_cancel hlp]
   ·rw [bf]
    refine Bf (List.Perm.append_left w ?_) lt2
    show (xv::l.eraseIdx q).Perm l
    rw [<- hx]
    exact lB l q hq
   ·exact ((st.trans st6).set (by exact ak _) (by exact bY (by assumption))).set (by exact ck _) hne1)
 have hw:w5.length < 60:=by rw [q6];exact aH (iW _ _) hm1
 have e6:=il (zp (ρ := [some (.ref n),some (tab m T),some (.int (most:Nat)),some (.ref S.length),some (.ref (S.length+1)),a5]) (S:=S5) (a:=ae 4) (var_eq rfl) q4 (by exact ah (by assumption) (by decide)))
 refine⟨srt w5,_,dB (ρ := [some (.ref n),some (tab m T),some (.int (most:Nat)),some (.ref S.length),some (.ref (S.length+1)),a5]) rfl (show vL [some (.ref n),some (tab m T),some (.int (most:Nat)),none,none,none] S=_ from (bq (bP e1)).trans ((bq (bP e2)).trans ((bq e5).trans (dC e6)))),st5.step (Ex.push _ _),fun x hx => ?_,?_,?_,?_,fun x hx => ?_,fun h1 z => ?_,xQ (mJ w5)⟩
 ·exact pG (pN.mp (q8.mem_iff.mp (cP l5 (wH.mp hx)))).2 (i4 hp)
 ·rw [sf,q6];exact aK (Nat.min_le_right _ _) (by rw [lN];exact hr)
 ·rw [sf];assumption
 ·rw [(mJ w5).nodup_iff]
  have:=q8.nodup_iff.mpr List.nodup_range'
  exact (pL.mp this).1
 ·have:=pN.mp (q8.mem_iff.mp (cP l5 (wH.mp hx)));omega
 ·have:w5.length=0:=by rw [<- sf,z];rfl
  omega
theorem AR {n m most:Nat}{T:Nat->Nat->Nat}{S:Sto} (h:i8 n S) (g:Grp m T) (hm:m < 60) (hmo:0 < most) (hmo2:most < 60) : ∃ w S',G.run 3 6 vL [.ref n,tab m T,.int (most:Nat)] S=some (.tup (az w),S')/\Stp n S S'/\(∀ x∈w,x < m)/\w.length<=most/\w.length < 60:=let ⟨w,S',a,b,c,d,e,_⟩:=yJ h g hm hmo hmo2;⟨w,S',a,b,c,d,e⟩
section
variable {m:Nat}{T:Nat->Nat->Nat}{st:List Nat}{S:Sto}
structure Sv (m:Nat) (T:Nat->Nat->Nat) (st:List Nat) (L:Nod->List (List Nat)) (F:List (List Nat)) (ln:List Nod) (μ:Nat):Prop where
 nd : ∀ p∈ln,Nd m p
 tot:F++rest T st L m ln=DT T st L (m - 1) ([],[0])
 ms:msr st.length m ln<=μ
 bd:μ<=30000
end
end
end W
end
section
namespace W
open L2 G
section
theorem Ex.set {S S':Sto}{r:Nat}{c:Cell} (h:Ex S S') (hr:S.length<=r):Ex S (S'.set r c):=by
 obtain⟨t,rfl⟩:=h
 exact⟨t.set (r - S.length) c,by rw [lV _ _ hr]⟩
section
variable {m:Nat}{T:Nat->Nat->Nat}{st:List Nat}
structure Lft (m:Nat) (th left:List Nat):Prop where
 nd:left.Nodup
 mem : ∀ y,y∈left↔y < m/\y∉th
end
structure Lng (ls:List (List Nat)):Prop where
 len:ls.length<=9000
 each : ∀ l∈ls,l.length<=8
 lt : ∀ l∈ls,∀ x∈l,x < 1000
open PySem in
open PySem in
section
variable {m:Nat}{T:Nat->Nat->Nat}{st:List Nat}{S:Sto}
noncomputable def unM:MS:=cW (mMT fq (m2 oIx (ae 0) (ae 1)) (aa (mC (.int 0)) ag))
end
end
end W
end
section
namespace W
open L2 G
section
abbrev Rds:=List (Nat×List Nat)
structure Rd (T:Nat->Nat->Nat) (ths:List Nat) (ks:Rds):Prop where
 go : ∀ p∈ks,cX T p.2=p.1
 by' : ∀ p∈ks,∀ y∈p.2,y∈ths
 len : ∀ p∈ks,p.2.length < ks.length
section
variable {m:Nat}{T:Nat->Nat->Nat}{ths:List Nat}{S x:Sto}{v:U}
end
end
end W
end
section
namespace W
open L2 G
section
theorem nD {α β γ:Sort _}{f:α->β->γ}{a a':α}{b b':β} (h1:a=a') (h2:b=b'):f a b=f a' b':=by rw [h1,h2]
section
variable {m:Nat}{T:Nat->Nat->Nat}
abbrev Lt (m:Nat) (w:List Nat):Prop := ∀ x∈w,x < m
theorem Lt.app {a b:List Nat} (ha:Lt m a) (hb:Lt m b):Lt m (a++b):=fun x hx=>(iK.mp hx).elim (ha x) (hb x)
theorem Lt.tk {a:List Nat} (ha:Lt m a) (k:Nat):Lt m (a.take k):=fun x hx=>ha x (List.mem_of_mem_take hx)
theorem mI (g:Grp m T) {w:List Nat} (hw:Lt m w):cX T w < m:=B1 g.pos g.cl hw
theorem oi (g:Grp m T) : ∀ (w:List Nat) (x:Nat),x < m->Lt m w->w.foldl T x=T x (cX T w)
 | [],x,hx,_=>by show x=T x 0;rw [g.r0 x hx]
 | y::w,x,hx,h=>by
   have hy:y < m:=h y (by simp)
   have hw:Lt m w:=fun z hz=>h z (av _ hz)
   show w.foldl T (T x y)=T x (w.foldl T (T 0 y))
   rw [oi g w _ (g.cl x y hx hy) hw,g.l0 y hy,oi g w y hy hw,g.as x y _ hx hy (mI g hw)]
theorem mB (g:Grp m T) {a b:List Nat} (ha:Lt m a) (hb:Lt m b):cX T (a++b)=T (cX T a) (cX T b):=by
 show (a++b).foldl T 0=_
 rw [List.foldl_append]
 exact oi g b _ (mI g ha) hb
theorem m9 (g:Grp m T) {x:Nat}{w:List Nat} (hx:x < m) (hw:Lt m w):cX T (x::w)=T x (cX T w):=by
 show w.foldl T (T 0 x)=_
 rw [g.l0 x hx];exact oi g w x hx hw
theorem kA {w:List Nat}{x:Nat}:cX T (w ++ [x])=T (cX T w) x:=by unfold cX;rw [List.foldl_append];rfl
theorem pz (g:Grp m T) {x:Nat} (hx:x < m):unT m T x < m:=(mm g hx).1
theorem zW (g:Grp m T) {x:Nat} (hx:x < m):T x (unT m T x)=0:=(mm g hx).2.1
theorem JF (g:Grp m T) {x:Nat} (hx:x < m):T (unT m T x) x=0:=(mm g hx).2.2.1
theorem Ae (g:Grp m T) {x y:Nat} (hx:x < m) (hy:y < m) (h:T x y=0):y=unT m T x:=(mm g hx).2.2.2 y hy h
theorem zg (g:Grp m T) {x y:Nat} (hx:x < m) (hy:y < m):unT m T (T x y)=T (unT m T y) (unT m T x):=by
 have h1:=pz g hx
 have h2:=pz g hy
 refine (Ae g (g.cl _ _ hx hy) (g.cl _ _ h2 h1) ?_).symm
 rw [g.as x y _ hx hy (g.cl _ _ h2 h1),<- g.as y _ _ hy h2 h1,zW g hy,g.l0 _ h1,zW g hx]
theorem IY (g:Grp m T):unT m T 0=0:=(Ae g g.pos g.pos (g.l0 0 g.pos)).symm
noncomputable def bk (m:Nat) (T:Nat->Nat->Nat) (w:List Nat):List Nat:=w.reverse.map (unT m T)
theorem De (g:Grp m T) {w:List Nat} (hw:Lt m w):Lt m (bk m T w):=fun x hx=>by
 obtain⟨y,hy,rfl⟩:=bX.mp hx
 exact pz g (hw y (eg.mp hy))
theorem vq {w:List Nat}:(bk m T w).length=w.length:=by simp [bk]
theorem rJ (g:Grp m T) : ∀ {w:List Nat},Lt m w->cX T (bk m T w)=unT m T (cX T w)
 | [],_=>(IY g).symm
 | x::w,h=>by
   have hx:x < m:=h x (by simp)
   have hw:Lt m w:=fun z hz=>h z (av _ hz)
   have e:bk m T (x::w)=bk m T w ++ [unT m T x]:=by simp [bk]
   rw [e,kA,rJ g hw,m9 g hx hw,zg g hx (mI g hw)]
theorem tV (g:Grp m T) {x:Nat}{w:List Nat} (hx:x < m) (hw:Lt m w):plc T (x::w)=0::(plc T w).map (T x):=by
 unfold plc
 rw [ed,y0,bT,cK,cK]
 refine nD rfl (bE fun k _ => ?_)
 show cX T (x::w.take k)=_
 exact m9 g hx (hw.tk k)
theorem AO {w:List Nat}{x:Nat}:plc T (w ++ [x])=plc T w ++ [T (cX T w) x]:=by
 unfold plc
 rw [be,ed,lQ,dr,bF]
 refine nD (bE fun k hk => ?_) ?_
 ·have:=aP.mp hk
  rw [sP (by exact gR (by assumption))]
 ·show [cX T ((w ++ [x]).take (w.length+1))]=_
  rw [y4 (by simp),kA]
theorem Ce {w:List Nat}:(plc T w).length=w.length+1:=by simp [plc]
theorem lH (g:Grp m T) {w:List Nat} (hw:Lt m w):Lt m (plc T w):=fun x hx=>by
 obtain⟨k,_,rfl⟩:=bX.mp hx
 exact mI g (hw.tk k)
theorem Ao (g:Grp m T) : ∀ {w:List Nat},Lt m w->plc T (bk m T w)=(plc T w).reverse.map (T (unT m T (cX T w)))
 | [],_=>by
   show [0] = [T (unT m T 0) 0]
   rw [IY g,g.l0 0 g.pos]
 | x::w,h=>by
   have hx:x < m:=h x (by simp)
   have hw:Lt m w:=fun z hz=>h z (av _ hz)
   have e:bk m T (x::w)=bk m T w ++ [unT m T x]:=by simp [bk]
   have hc:=mI g hw
   have hu:=pz g hc
   have hux:=pz g hx
   rw [e,AO,Ao g hw,tV g hx hw,rJ g hw,m9 g hx hw,zg g hx hc,pK,bF,<- List.map_reverse,cK]
   refine nD (bE fun y hy => ?_) ?_
   ·have hy:y < m:=lH g hw y (eg.mp hy)
    show _=T (T (unT m T (cX T w)) (unT m T x)) (T x y)
    rw [g.as _ _ _ hu hux (g.cl _ _ hx hy),<- g.as _ _ _ hux hx hy,JF g hx,g.l0 y hy]
   ·show _ = [T (T (unT m T (cX T w)) (unT m T x)) 0]
    rw [g.r0 _ (g.cl _ _ hu hux)]
noncomputable def pre (T:Nat->Nat->Nat) (w:List Nat):List Nat:=(aA w.length).map fun k=>cX T (w.take k)
theorem mq {w:List Nat}:plc T w=pre T w ++ [cX T w]:=by
 unfold plc pre
 rw [dr,bF]
 simp
theorem pre_app (g:Grp m T) {a b:List Nat} (ha:Lt m a) (hb:Lt m b):pre T (a++b)=pre T a++(pre T b).map (T (cX T a)):=by
 unfold pre
 rw [be,List.range_add,bF,cK,cK]
 refine nD (bE fun k hk => ?_) (bE fun k hk => ?_)
 ·have:=aP.mp hk
  rw [sP (by exact aW (by assumption))]
 ·show cX T ((a++b).take (a.length+k))=T (cX T a) (cX T (b.take k))
  rw [List.take_append,y4 (by omega),show a.length+k - a.length=k by omega]
  exact mB g ha (hb.tk k)
structure All (m:Nat) (l:List Nat):Prop where
 nd:l.Nodup
 lt:Lt m l
 len:l.length=m
theorem All.map {f:Nat->Nat}{l:List Nat} (h:All m l) (lt : ∀ x,x < m->f x < m) (inj : ∀ x y,x < m->y < m->f x=f y->x=y):All m (l.map f):=by
 refine⟨?_,fun x hx => ?_,by simp [h.len]⟩
 ·rw [dH,pM]
  exact iE (fun ha hb hab e=>hab (inj _ _ (h.lt _ ha) (h.lt _ hb) e)) (dH.mp h.nd)
 ·obtain⟨y,hy,rfl⟩:=bX.mp hx
  exact lt y (h.lt y hy)
structure Rnd (m:Nat) (T:Nat->Nat->Nat) (w:List Nat):Prop where
 home:cX T w=0
 all:All m (pre T w)
structure Gd (T:Nat->Nat->Nat) (st:List Nat) (p:Nod):Prop where
 pl:p.2=plc T p.1
 nd:p.2.Nodup
 by' : ∀ x∈p.1,x∈st
theorem zu {w:List Nat}:qX (plc T w)=cX T w:=by rw [mq,oN]
end
theorem t6 {α:Type}{f:α->Bool} : ∀ l:List α,dq jN (l.map fun x=>U.bl (f x))=some (l.map f)
 | []=>rfl
 | x::l=>by
   show (jN (U.bl (f x))).bind _=_
   simp only [jN,ao]
   rw [t6 l]
   rfl
theorem zm {α:Type}{ρ:Rho}{S S1:Sto}{a:ME}{r:Nat}{f:α->Bool}{l:List α} (ha:a ρ S=some (.ref r,S1)) (hr:S1[r]? = some (.lst (l.map fun x=>U.bl (f x)))):mFn pQ (aa a ag) ρ S=some (.bl (l.all f),S1):=by
 refine fj ha ?_
 simp only [pQ,getL,hr,ao,t6,bx]
 congr 2
 simp [List.all_map,Function.comp_def]
section
variable {m:Nat}{T:Nat->Nat->Nat}{st w:List Nat}{S:Sto}
noncomputable def plM:MS:=aZ (br 2 (cf (aa (mC (.int 0)) ag))) (aZ (d5 3 (iB (ae 1)) (dy (mML cm (ae 2) (aa (m2 oIx (m2 oIx (ae 0) (m2 oIx (ae 2) (m1 lC (mC (.int 1))))) (ae 3)) ag)))) (cW (mFn bS (aa (ae 2) ag))))
theorem DI (g:Grp m T) (hw:Lt m w) (hl:w.length < 10000000) : ∃ S',G.run 2 4 plM [tab m T,.tup (az w)] S=some (.tup (az (plc T w)),S')/\Ex S S':=by
 have hone:cf (aa (mC (.int 0)) ag) [some (tab m T),some (.tup (az w)),none,none] S=some (.ref S.length,S ++ [Cell.lst [.int 0]]):=Im rfl
 obtain⟨ρ1,S1,e1,⟨x,rfl⟩,q1,q2⟩:=y9 (i:=3) (b:=dy (mML cm (ae 2) (aa (m2 oIx (m2 oIx (ae 0) (m2 oIx (ae 2) (m1 lC (mC (.int 1))))) (ae 3)) ag))) (e:=ae 1)
  (ρ := [some (tab m T),some (.tup (az w)),some (.ref S.length),none]) (S:=S ++ [Cell.lst [.int 0]]) (S1:=S ++ [Cell.lst [.int 0]]) (us:=az w) (var_eq rfl)
  (fun k ρ S'=>(∃ x,ρ = [some (tab m T),some (.tup (az w)),some (.ref S.length),x])/\Ex S S'/\S'[S.length]? = some (Cell.lst (az ((aA (k+1)).map fun i=>cX T (w.take i)))))
  ⟨⟨none,rfl⟩,Ex.push _ _,by rw [eD];simp [az,cX]⟩
  (by
   rintro k u ρ S' hu ⟨⟨x,rfl⟩,q1,q2⟩
   obtain⟨y,hy,rfl⟩:=o3 hu
   have hym:y < m:=hw y (cj hy)
   have hpm:cX T (w.take k) < m:=mI g (hw.tk k)
   have hlast:atI (az ((aA (k+1)).map fun i=>cX T (w.take i))) (-1)=some (.int (cX T (w.take k))):=by
    unfold az
    rw [cK]
    exact AU
   have ev:m2 oIx (m2 oIx (ae 0) (m2 oIx (ae 2) (m1 lC (mC (.int 1))))) (ae 3) [some (tab m T),some (.tup (az w)),some (.ref S.length),some (.int y)] S'=some (.int (T (cX T (w.take k)) y),S'):=
    iO hym (gL hpm (var_eq rfl) (AE (var_eq rfl) IL q2 hlast)) (var_eq rfl)
   have hkl:k < w.length:=(af.mp hy).1
   refine⟨_,_,append_eq (var_eq rfl) ev q2 q2 (by simp [az];unfold big;exact aH (by assumption) (ah (by assumption) (by decide))),⟨_,rfl⟩,q1.set (ak _),?_⟩
   rw [aN (af.mp q2).1]
   rw [dr (n:=k+1),bF]
   simp [az,xZ hy])
 rw [dO] at q2
 refine⟨S1,dB (ρ := [some (tab m T),some (.tup (az w)),some (.ref S.length),x]) rfl ?_,q1⟩
 show plM [some (tab m T),some (.tup (az w)),none,none] S=_
 exact (bq (bP hone)).trans ((bq e1).trans (dC (jW (var_eq rfl) q2)))
theorem zz (hne:True):atI (az (plc T w)) (-1)=some (.int (cX T w:Nat)):=by
 have:=Bq (th:=plc T w) (by rw [mq];simp)
 rw [zu] at this
 exact this
noncomputable def bkM:MS:=cW (mFn bS (aa (cw (uJ (aa (ae 1) ag)) cTT (mFn (G.run 2 2 unM) (aa (ae 0) (aa (ae 2) ag)))) ag))
theorem HH (g:Grp m T) (hw:Lt m w) (hl:w.length < 10000000) : ∃ S',G.run 2 2 bkM [tab m T,.tup (az w)] S=some (.tup (az (bk m T w)),S')/\Ex S S':=by
 have hi:uJ (aa (ae 1) ag) [some (tab m T),some (.tup (az w))] S=some (.imm (az w.reverse),S):=by
  have v:ae 1 [some (tab m T),some (.tup (az w))] S=some (.tup (az w),S):=rfl
  simp only [uJ,aa,ag,v,aE]
  simp [az]
 have h1 : ∀ u∈az w.reverse,mFn (G.run 2 2 unM) (aa (ae 0) (aa (ae 2) ag)) ([some (tab m T),some (.tup (az w))] ++ [some u]) S=some ((fun u=>match u with | .int i => .int (unT m T i.toNat:Nat) | _ => .non) u,S):=fun u hu=>by
  obtain⟨x,hx,rfl⟩:=bX.mp hu
  have hx:=hw x (eg.mp hx)
  have:=cJ (f:=G.run 2 2 unM) (ρ := [some (tab m T),some (.tup (az w)),some (.int x)]) (S:=S) (a:=ae 0) (b:=ae 2) (var_eq rfl) (var_eq rfl) (v9 g hx)
  simpa using this
 have h2:=lA (t:=cTT) (e:=mFn (G.run 2 2 unM) (aa (ae 0) (aa (ae 2) ag))) (ρ := [some (tab m T),some (.tup (az w))]) (S:=S) (p:=fun _=>true) (f:=fun u=>match u with | .int i => .int (unT m T i.toNat:Nat) | _ => .non) (az w.reverse) [] (fun _ _=>rfl) (fun u hu _=>h1 u hu)
 rw [List.filter_eq_self.mpr (fun _ _=>rfl),dQ] at h2
 have h3:(az w.reverse).map (fun u=>match u with | .int i=>U.int (unT m T i.toNat:Nat) | _ => .non)=az (bk m T w):=by
  unfold az bk
  rw [cK,cK]
  apply bE
  intro x _
  simp
 rw [h3] at h2
 exact⟨_,dB (ρ := [some (tab m T),some (.tup (az w))]) rfl (dC (il (kH hi h2 (by rw [dO,vq];unfold big;exact ah (by assumption) (by decide))))),Ex.push _ _⟩
end
end
end W
end
section
namespace W
open L2 G
section
section
variable {m:Nat}{T:Nat->Nat->Nat}
theorem Lt.one {s:Nat} (hs:s < m):Lt m [s]:=fun x hx=>by rw [dG.mp hx];exact hs
noncomputable def thr (m:Nat) (T:Nat->Nat->Nat) (p:List Nat) (s:Nat):Nat->List Nat
 | 0=>p
 | j+1=>thr m T p s j ++ [s]++(if j % 2=0 then bk m T p else p)
noncomputable def tkn (m:Nat) (T:Nat->Nat->Nat) (s:Nat) (P:List Nat):Nat:=((aA m).find? fun k=>decide (pw T s (k+1)∈P)).getD 0+1
theorem oO (g:Grp m T) {s:Nat}{P:List Nat} (hs:s < m) (h0:0∈P):1<=tkn m T s P/\tkn m T s P<=m/\pw T s (tkn m T s P)∈P /\ ∀ k,1<=k->k < tkn m T s P->pw T s k∉P:=by
 obtain⟨n,n1,n2,n3,_⟩:=g.ord hs
 unfold tkn
 cases q:(aA m).find? fun k=>decide (pw T s (k+1)∈P) with
 | none=>
   have:=List.find?_eq_none.mp q (n - 1) (aP.mpr (by omega))
   rw [show n - 1+1=n by omega,n3] at this
   simp [h0] at this
 | some i=>
   obtain⟨i1,i2,i3⟩:=List.find?_range_eq_some.mp q
   have i2:=aP.mp i2
   refine⟨by simp,by simp;assumption,by simpa using i1,fun k k1 k2 z => ?_⟩
   simp at k2
   have:=i3 (k - 1) (by omega)
   rw [show k - 1+1=k by omega] at this
   simp [z] at this
noncomputable def snk (m:Nat) (T:Nat->Nat->Nat):List Nat->List Nat->List Nat
 | p,[]=>p
 | p,s::st=>snk m T (thr m T p s (tkn m T s (plc T p) - 1)) st
theorem vl (g:Grp m T) {p:List Nat}{s:Nat} (hp:Lt m p) (hs:s < m) : ∀ j,Lt m (thr m T p s j)
 | 0=>hp
 | j+1=>by
   refine Lt.app (Lt.app (vl g hp hs j) (Lt.one hs)) ?_
   split
   ·exact De g hp
   ·exact hp
theorem so {p:List Nat}{s:Nat} : ∀ j,(thr m T p s j).length+1=(j+1)*(p.length+1)
 | 0=>by simp [thr]
 | j+1=>by
   have ih:=so (p:=p) (s:=s) j
   have:(if j % 2=0 then bk m T p else p).length=p.length:=by split <;> simp [vq]
   unfold thr
   rw [be,be,this,qr (j+1)]
   simp
   omega
theorem mD {p:List Nat}:0∈plc T p:=bX.mpr ⟨0,aP.mpr (by omega),rfl⟩
theorem xf (g:Grp m T) {a q:List Nat}{s:Nat} (ha:Lt m a) (hs:s < m) (hq:Lt m q):plc T (a ++ [s]++q)=plc T a++(plc T q).map (T (T (cX T a) s)):=by
 have hsq:Lt m (s::q):=fun x hx=>(aR.mp hx).elim (fun e=>e▸hs) (hq x)
 have ca:=mI g ha
 rw [bf]
 show plc T (a++s::q)=_
 rw [mq,pre_app g ha hsq,mB g ha hsq,bf]
 have:(pre T (s::q)).map (T (cX T a)) ++ [T (cX T a) (cX T (s::q))]=(plc T (s::q)).map (T (cX T a)):=by rw [mq,bF];rfl
 rw [this,tV g hs hq,bT,g.r0 _ ca,cK,mq (w:=a),bf]
 refine nD rfl ?_
 show cX T a::_ = [cX T a]++_
 refine nD rfl (bE fun x hx => ?_)
 show T (cX T a) (T s x)=T (T (cX T a) s) x
 rw [g.as _ _ _ ca hs (lH g hq x hx)]
noncomputable def blk (T:Nat->Nat->Nat) (p:List Nat) (s i:Nat):List Nat:=(if i % 2=0 then plc T p else (plc T p).reverse).map (T (pw T s i))
theorem wC (g:Grp m T) (pl : ∀ i j,i < m->j < m->T i j=T j i) {p:List Nat}{s:Nat} (hp:Lt m p) (hs:s < m) : ∀ j,cX T (thr m T p s j)=T (pw T s j) (if j % 2=0 then cX T p else 0)/\plc T (thr m T p s j)=(aA (j+1)).flatMap (blk T p s)
 | 0=>by
   have h1:(plc T p).map (T 0)=plc T p:=by
    have:(plc T p).map (T 0)=(plc T p).map id:=bE fun x hx=>g.l0 x (lH g hp x hx)
    rw [this,List.map_id]
   refine⟨?_,?_⟩
   ·show cX T p=T 0 (cX T p);rw [g.l0 _ (mI g hp)]
   ·show plc T p=blk T p s 0 ++ []
    rw [dg]
    show _=(plc T p).map (T 0)
    rw [h1]
 | j+1=>by
   obtain⟨h1,h2⟩:=wC g pl hp hs j
   have lt1:=vl g hp hs j
   have cp:=mI g hp
   have uc:=pz g cp
   have pj:=ja g hs j
   have hpw:pw T s (j+1)=T (pw T s j) s:=rfl
   by_cases q:j % 2=0
   ·have q1 : ¬ (j+1) % 2=0:=by omega
    rw [if_pos q] at h1
    have hb:=De g hp
    have base:T (cX T (thr m T p s j)) s=T (pw T s (j+1)) (cX T p):=by
     rw [h1,hpw,g.as _ _ _ pj cp hs,pl _ _ cp hs,<- g.as _ _ _ pj hs cp]
    have e:thr m T p s (j+1)=thr m T p s j ++ [s]++bk m T p:=by rw [thr,if_pos q]
    rw [e,if_neg q1]
    have pj1:=ja g hs (j+1)
    refine⟨?_,?_⟩
    ·rw [mB g (lt1.app (Lt.one hs)) hb,kA,base,rJ g hp,g.as _ _ _ pj1 cp uc,zW g cp]
    ·rw [xf g lt1 hs hb,base,Ao g hp,cK,h2,dr (n:=j+1),nG]
     refine nD rfl ?_
     show _=blk T p s (j+1) ++ []
     rw [dg,blk,if_neg q1]
     refine bE fun x hx => ?_
     have hx:=lH g hp x (eg.mp hx)
     show T (T (pw T s (j+1)) (cX T p)) (T (unT m T (cX T p)) x)=_
     rw [g.as _ _ _ pj1 cp (g.cl _ _ uc hx),<- g.as _ _ _ cp uc hx,zW g cp,g.l0 x hx]
   ·have q1:(j+1) % 2=0:=by omega
    rw [if_neg q,g.r0 _ pj] at h1
    have e:thr m T p s (j+1)=thr m T p s j ++ [s]++p:=by rw [thr,if_neg q]
    rw [e,if_pos q1]
    refine⟨?_,?_⟩
    ·rw [mB g (lt1.app (Lt.one hs)) hp,kA,h1,<- hpw]
    ·rw [xf g lt1 hs hp,h1,<- hpw,h2,dr (n:=j+1),nG]
     refine nD rfl ?_
     show _=blk T p s (j+1) ++ []
     rw [dg,blk,if_pos q1]
theorem kG {p:List Nat}{s i x:Nat}:x∈blk T p s i ↔ ∃ y∈plc T p,x=T (pw T s i) y:=by
 unfold blk
 rw [bX]
 split
 ·exact⟨fun⟨y,a,b⟩=>⟨y,a,b.symm⟩,fun⟨y,a,b⟩=>⟨y,a,b.symm⟩⟩
 ·exact⟨fun⟨y,a,b⟩=>⟨y,eg.mp a,b.symm⟩,fun⟨y,a,b⟩=>⟨y,eg.mpr a,b.symm⟩⟩
structure Sn (m:Nat) (T:Nat->Nat->Nat) (p:List Nat):Prop where
 lt:Lt m p
 nd:(plc T p).Nodup
 cl : ∀ x∈plc T p,∀ y∈plc T p,T x y∈plc T p
theorem Sn.pws {p:List Nat} (h:Sn m T p) {x:Nat} (hx:x∈plc T p) : ∀ k,pw T x k∈plc T p
 | 0=>mD
 | k+1=>h.cl _ (h.pws hx k) _ hx
theorem Sn.un (g:Grp m T) {p:List Nat} (h:Sn m T p) {x:Nat} (hx:x∈plc T p):unT m T x∈plc T p:=by
 have hxm:=lH g h.lt x hx
 obtain⟨n,n1,_,n3,_⟩:=g.ord hxm
 have:unT m T x=pw T x (n - 1):=by
  refine (Ae g hxm (ja g hxm _) ?_).symm
  have e:=nq g hxm 1 (n - 1)
  rw [show 1+(n - 1)=n by omega,n3] at e
  have e1:pw T x 1=x:=by show T 0 x=x;exact g.l0 x hxm
  rw [e1] at e
  exact e.symm
 rw [this];exact h.pws hx _
theorem Sn.start (g:Grp m T):Sn m T []:=by
 have e:plc T [] = [0]:=rfl
 refine⟨fun x hx=>by simp at hx,by rw [e];simp,?_⟩
 rw [e]
 intro x hx y hy
 simp at hx hy
 subst hx hy
 simp [g.l0 0 g.pos]
theorem Sn.len (g:Grp m T) {p:List Nat} (h:Sn m T p):p.length+1<=m:=by
 have:=vS m _ h.nd (lH g h.lt)
 rwa [Ce] at this
theorem wx {f:Nat->List Nat} : ∀ n,(∀ i,i < n->(f i).Nodup)->(∀ i j,i < j->j < n -> ∀ x∈f i,x∉f j)->((aA n).flatMap f).Nodup
 | 0,_,_=>by simp
 | n+1,h1,h2=>by
   rw [dr,nG]
   show (_++(f n ++ [])).Nodup
   rw [dg,pL]
   refine⟨wx n (fun i hi=>h1 i (by exact fb (by assumption))) (fun i j a b=>h2 i j a (by exact fb (by assumption))),h1 n (by exact ak _),fun a ha b hb => ?_⟩
   obtain⟨i,hi,ha⟩:=hG.mp ha
   rintro rfl
   exact h2 i n (aP.mp hi) (by exact ak _) a ha hb
theorem Sn.next (g:Grp m T) (pl : ∀ i j,i < m->j < m->T i j=T j i) {p:List Nat}{s:Nat} (h:Sn m T p) (hs:s < m):Sn m T (thr m T p s (tkn m T s (plc T p) - 1)):=by
 obtain⟨n1,n2,n3,n4⟩:=oO (P:=plc T p) g hs mD
 generalize hn:tkn m T s (plc T p)=n at n1 n2 n3 n4
 have lp:=lH g h.lt
 have e:=(wC g pl h.lt hs (n - 1)).2
 rw [show n - 1+1=n by omega] at e
 have pwl:=fun k=>ja g hs k
 refine⟨vl g h.lt hs _,?_,?_⟩
 ·rw [e]
  refine wx n (fun i hi => ?_) fun i j hij hj x hx hx2 => ?_
  ·unfold blk
   rw [dH,pM]
   have hnd:(if i % 2=0 then plc T p else (plc T p).reverse).Nodup:=by split;exact h.nd;exact (List.reverse_perm _).nodup_iff.mpr h.nd
   refine iE ?_ (dH.mp hnd)
   intro a b ha hb hab z
   have lt2 : ∀ c∈(if i % 2=0 then plc T p else (plc T p).reverse),c < m:=by
    intro c hc
    split at hc
    ·exact lp c hc
    ·exact lp c (eg.mp hc)
   exact hab (g.cancel (pwl i) (lt2 a ha) (lt2 b hb) z)
  ·obtain⟨y,hy,rfl⟩:=kG.mp hx
   obtain⟨z,hz,ez⟩:=kG.mp hx2
   have ly:=lp y hy
   have lz:=lp z hz
   have ea:pw T s j=T (pw T s i) (pw T s (j - i)):=by rw [<- nq g hs,show i+(j - i)=j by omega]
   rw [ea,g.as _ _ _ (pwl i) (pwl _) lz] at ez
   have ez:=g.cancel (pwl i) ly (g.cl _ _ (pwl _) lz) ez
   refine n4 (j - i) (by omega) (by omega) ?_
   have:T y (unT m T z)=pw T s (j - i):=by rw [ez,g.as _ _ _ (pwl _) lz (pz g lz),zW g lz,g.r0 _ (pwl _)]
   rw [<- this]
   exact h.cl y hy _ (h.un g hz)
 ·rw [e]
  intro x hx y hy
  obtain⟨i,hi,hx⟩:=hG.mp hx
  obtain⟨j,hj,hy⟩:=hG.mp hy
  obtain⟨a,ha,rfl⟩:=kG.mp hx
  obtain⟨b,hb,rfl⟩:=kG.mp hy
  have la:=lp a ha
  have lb:=lp b hb
  have hi:=aP.mp hi
  have hj:=aP.mp hj
  have ab:=h.cl a ha b hb
  have e1:T (T (pw T s i) a) (T (pw T s j) b)=T (pw T s (i+j)) (T a b):=by
   rw [nq g hs,g.as _ _ _ (pwl i) la (g.cl _ _ (pwl j) lb),<- g.as _ _ _ la (pwl j) lb,pl _ _ la (pwl j),g.as _ _ _ (pwl j) la lb,<- g.as _ _ _ (pwl i) (pwl j) (g.cl _ _ la lb)]
  rw [e1]
  by_cases hlt:i+j < n
  ·exact hG.mpr ⟨i+j,aP.mpr hlt,kG.mpr ⟨_,ab,rfl⟩⟩
  ·refine hG.mpr ⟨i+j - n,aP.mpr (by omega),kG.mpr ⟨T (pw T s n) (T a b),h.cl _ n3 _ ab,?_⟩⟩
   rw [show i+j=(i+j - n)+n by omega,nq g hs,g.as _ _ _ (pwl _) (pwl _) (lp _ ab),show i+j - n+n - n=i+j - n by omega]
theorem Sn.snk (g:Grp m T) (pl : ∀ i j,i < m->j < m->T i j=T j i) : ∀ {st p:List Nat},Lt m st->Sn m T p->Sn m T (snk m T p st)
 | [],_,_,h=>h
 | s::st,p,hs,h=>by
   show Sn m T (W.snk m T (thr m T p s (tkn m T s (plc T p) - 1)) st)
   exact Sn.snk g pl (fun x hx=>hs x (av _ hx)) (h.next g pl (hs s (by simp)))
end
theorem qM {g:MG}{b:MS} (P:Nat->Rho->Sto->Prop) : ∀ (us:List U) (k:Nat) (ρ:Rho) (S:Sto),P k ρ S ->
  (∀ (j:Nat) (u:U) (ρ:Rho) (S:Sto),us[j]? = some u->P (k+j) ρ S -> ∃ ρ1 S1 ρ' S',g u ρ S=some (ρ1,S1)/\b ρ1 S1=some (.nx,ρ',S')/\P (k+j+1) ρ' S') ->
  ∃ ρ' S',pE g b us ρ S=some (.nx,ρ',S')/\P (k+us.length) ρ' S'
 | [],k,ρ,S,h,_=>⟨ρ,S,rfl,h⟩
 | u::us,k,ρ,S,h,st=>by
   obtain⟨ρ0,S0,ρ1,S1,e0,e1,p1⟩:=st 0 u ρ S rfl (by simpa using h)
   obtain⟨ρ2,S2,e2,p2⟩:=qM P us (k+1) ρ1 S1 (by simpa using p1) fun j v ρ S hj hp=>by
    have:=st (j+1) v ρ S (by simpa using hj) (by rw [show k+(j+1)=k+1+j by omega];exact hp)
    rw [show k+(j+1)+1=k+1+j+1 by omega] at this
    exact this
   refine⟨ρ2,S2,?_,?_⟩
   ·show ((g u ρ S).bind fun p=>aft (b p.1 p.2) (pE g b us))=_
    rw [e0]
    simp only [ao,aft,e1,e2]
   ·rw [ed,show k+(us.length+1)=k+1+us.length by omega];exact p2
section
variable {m:Nat}{T:Nat->Nat->Nat}{S:Sto}
abbrev Pln (m:Nat) (T:Nat->Nat->Nat):Prop := ∀ i j,i < m->j < m->T i j=T j i
noncomputable def ipM:MS:=aZ (d5 1 (iR1 (aa (mFn cQ (aa (ae 0) ag)) ag)) (sIf (km (cOf (mFn pQ (aa (cw (iR1 (aa (ae 1) ag)) cTT (m2 oEq (m2 oIx (m2 oIx (ae 0) (ae 1)) (ae 2)) (m2 oIx (m2 oIx (ae 0) (ae 2)) (ae 1)))) ag)))) (cW (mC (.bl false))) cD)) (cW (mC (.bl true)))
theorem JK (hm:m < 1000) (pl:Pln m T) : ∃ S',G.run 1 2 ipM [tab m T] S=some (.bl true,S')/\Ex S S':=by
 obtain⟨ρ1,S1,e1,⟨v,rfl⟩,x1⟩:=kz (i:=1) (a:=mFn cQ (aa (ae 0) ag)) (n:=m) (b:=sIf (km (cOf (mFn pQ (aa (cw (iR1 (aa (ae 1) ag)) cTT (m2 oEq (m2 oIx (m2 oIx (ae 0) (ae 1)) (ae 2)) (m2 oIx (m2 oIx (ae 0) (ae 2)) (ae 1)))) ag)))) (cW (mC (.bl false))) cD) (ρ := [some (tab m T),none]) (S:=S) (len_tab (var_eq rfl)) (by unfold big;exact ah (by assumption) (by decide))
  (fun _ ρ S'=>(∃ v,ρ = [some (tab m T),v])/\Ex S S') ⟨⟨_,rfl⟩,Ex.refl _⟩ (by
   rintro i ρ S' hi ⟨⟨v,rfl⟩,x⟩
   obtain⟨S2,e2,rfl⟩:=lE (ρ := [some (tab m T),some (.int i)]) (S:=S') (S0:=S') (a:=ae 1) (e:=m2 oEq (m2 oIx (m2 oIx (ae 0) (ae 1)) (ae 2)) (m2 oIx (m2 oIx (ae 0) (ae 2)) (ae 1))) (n:=i) (var_eq rfl) (by unfold big;exact cM (by assumption) (ah (by assumption) (by decide))) (fun j => .bl (decide (T i j=T j i))) (fun _ S2=>S2=S') rfl (by
    rintro j S2 hj rfl
    exact⟨S2,Cc (iO (by exact cM (by assumption) (by assumption)) (gL hi (var_eq rfl) (var_eq rfl)) (var_eq rfl)) (iO hi (gL (by exact cM (by assumption) (by assumption)) (var_eq rfl) (var_eq rfl)) (var_eq rfl)),rfl⟩)
   have h:=zm (f:=fun j=>decide (T i j=T j i)) (l:=aA i) e2 (eD _ _)
   rw [bA.mpr fun j hj=>decide_eq_true (pl i j hi (by have:=aP.mp hj;exact cM (by assumption) (by assumption)))] at h
   exact⟨_,_,(kS (not_eq (of_eq h))).trans rfl,⟨_,rfl⟩,x.trans (Ex.push _ _)⟩)
 exact⟨S1,dB (ρ := [some (tab m T),v]) rfl (show ipM [some (tab m T),none] S=_ from (bq e1).trans (dC rfl)),x1⟩
noncomputable def rpM:MS:=sIf (km (cOf (mFn (G.run 1 2 ipM) (aa (ae 0) ag)))) sNo cD
theorem G8 (hm:m < 1000) (pl:Pln m T) : ∃ S',G.run 1 1 rpM [tab m T] S=some (.non,S')/\Ex S S':=by
 obtain⟨S1,e1,x1⟩:=JK (S:=S) hm pl
 exact⟨S1,Gr (ρ := [some (tab m T)]) rfl (show rpM [some (tab m T)] S=_ from (kS (not_eq (of_eq (fj (f:=G.run 1 2 ipM) (var_eq rfl) e1)))).trans rfl),x1⟩
noncomputable def ttB:MS:=aZ (br 3 (m2 oIx (m2 oIx (ae 0) (ae 3)) (ae 1))) (vu 4 (mC (.int 1)))
noncomputable def ttM:MS:=aZ (br 3 (ae 1)) (aZ (br 4 (mC (.int 1))) (aZ (ki (cOf (m2 jZ (ae 3) (ae 2))) ttB) (cW (ae 4))))
theorem HL {s:Nat}{P:List Nat} (g:Grp m T) (hm:m < 1000) (hs:s < m) (h0:0∈P):G.run 3 5 ttM [tab m T,.int (s:Nat),.tup (az P)] S=some (.int (tkn m T s P:Nat),S):=by
 obtain⟨n1,n2,n3,n4⟩:=oO (P:=P) g hs h0
 generalize tkn m T s P=n at n1 n2 n3 n4
 obtain⟨ρ1,S1,e1,rfl,rfl⟩:=rF (c:=cOf (m2 jZ (ae 3) (ae 2))) (b:=ttB) (fun μ ρ S' => ∃ k,1<=k/\k<=n/\μ=n - k/\ρ = [some (tab m T),some (.int (s:Nat)),some (.tup (az P)),some (.int (pw T s k:Nat)),some (.int (k:Nat))]/\S'=S)
  (fun ρ S'=>ρ = [some (tab m T),some (.int (s:Nat)),some (.tup (az P)),some (.int (pw T s n:Nat)),some (.int (n:Nat))]/\S'=S) (by
  rintro μ ρ S' ⟨k,k1,k2,rfl,rfl,rfl⟩
  have ec:=Bj (ρ := [some (tab m T),some (.int (s:Nat)),some (.tup (az P)),some (.int (pw T s k:Nat)),some (.int (k:Nat))]) (S:=S') (a:=ae 3) (b:=ae 2) (x:=pw T s k) (l:=P) (var_eq rfl) (var_eq rfl)
  refine⟨_,_,ec,fun hf => ?_,fun hf => ?_⟩
  ·have hin:pw T s k∈P:=by simpa using hf
   have:k=n:=by
    apply iX
    intro z
    exact n4 k k1 (by exact fZ (by assumption) (by assumption)) hin
   subst this
   exact⟨rfl,rfl⟩
  ·have hin:pw T s k∉P:=by simpa using hf
   have hk:k < n:=by
    apply iX
    intro z
    have:k=n:=by omega
    subst this
    exact hin n3
   refine⟨_,S',n - (k+1),by omega,(bq (bP (iO (T:=T) (i:=pw T s k) (j:=s) hs (gL (ja g hs k) (var_eq rfl) (var_eq rfl)) (var_eq rfl)))).trans ?_,k+1,by exact fb (by assumption),by assumption,rfl,rfl,rfl⟩
   simp [vu,mC,aE,pw]) fuel (n - 1) [some (tab m T),some (.int (s:Nat)),some (.tup (az P)),some (.int (s:Nat)),some (.int (1:Nat))] S (by unfold fuel;omega) ⟨1,ak _,n1,rfl,by rw [show pw T s 1=s from g.l0 s hs],rfl⟩
 refine dB (ρ := [some (tab m T),some (.int (s:Nat)),some (.tup (az P)),some (.int (pw T s n:Nat)),some (.int (n:Nat))]) rfl ?_
 show ttM [some (tab m T),some (.int (s:Nat)),some (.tup (az P)),none,none] S1=_
 exact (bq (bP (var_eq rfl))).trans ((bq (bP c_i)).trans ((bq e1).trans (dC (var_eq rfl))))
noncomputable def thM:MS:=aZ (br 4 (eU (aa (mFn (G.run 2 2 bkM) (aa (ae 0) (aa (ae 3) ag))) (aa (ae 3) ag)))) (aZ (br 5 (ae 1)) (aZ (qC (gTp 2 (gK (gN 6) (gK (gN 7) qW))) (nB (aa (ae 2) ag)) (br 5 (m2 bV (m2 bV (ae 5) (eU (aa (ae 7) ag))) (m2 oIx (ae 4) (m2 oMod (ae 6) (mC (.int 2))))))) (cW (ae 5))))
theorem z8 {l:List Nat}{j:Nat}{u:U} (h:(gW (az l))[j]? = some u) : ∃ x,l[j]? = some x/\u = .tup [.int j,.int x]:=by
 unfold gW at h
 rw [Bc] at h
 obtain⟨v,hv,rfl⟩:=xK.mp h
 obtain⟨x,hx,rfl⟩:=o3 hv
 exact⟨x,hx,rfl⟩
theorem Jg {p:List Nat}{s n:Nat} (g:Grp m T) (hp:Lt m p) (hs:s < m) (hb:(n+1)*(p.length+1)<=1000) : ∃ S',G.run 4 8 thM [tab m T,.tup (az p),.tup (az (ay n s)),.tup (az p)] S=some (.tup (az (thr m T p s n)),S')/\Ex S S':=by
 have hpl:p.length+1<=1000:=aK (Nat.le_mul_of_pos_left _ (by omega)) hb
 obtain⟨S1,e1,x1⟩:=HH (S:=S) g hp (by exact ah (by assumption) (by decide))
 have et:eU (aa (mFn (G.run 2 2 bkM) (aa (ae 0) (aa (ae 3) ag))) (aa (ae 3) ag)) [some (tab m T),some (.tup (az p)),some (.tup (az (ay n s))),some (.tup (az p)),none,none,none,none] S=some (.tup [.tup (az (bk m T p)),.tup (az p)],S1):=FH (cJ (var_eq rfl) (var_eq rfl) e1) (var_eq rfl)
 have hi:nB (aa (ae 2) ag) [some (tab m T),some (.tup (az p)),some (.tup (az (ay n s))),some (.tup (az p)),some (.tup [.tup (az (bk m T p)),.tup (az p)]),some (.tup (az p)),none,none] S1=some (.imm (gW (az (ay n s))),S1):=rfl
 obtain⟨ρ2,S2,e2,⟨a,b,rfl⟩,hS⟩:=qM (g:=gTp 2 (gK (gN 6) (gK (gN 7) qW))) (b:=br 5 (m2 bV (m2 bV (ae 5) (eU (aa (ae 7) ag))) (m2 oIx (ae 4) (m2 oMod (ae 6) (mC (.int 2))))))
  (fun j ρ S'=>(∃ a b,ρ = [some (tab m T),some (.tup (az p)),some (.tup (az (ay n s))),some (.tup (az p)),some (.tup [.tup (az (bk m T p)),.tup (az p)]),some (.tup (az (thr m T p s j))),a,b])/\S'=S1) (gW (az (ay n s))) 0 [some (tab m T),some (.tup (az p)),some (.tup (az (ay n s))),some (.tup (az p)),some (.tup [.tup (az (bk m T p)),.tup (az p)]),some (.tup (az p)),none,none] S1 ⟨⟨_,_,rfl⟩,rfl⟩ (by
   rintro j u ρ S' hu ⟨⟨a,b,rfl⟩,rfl⟩
   rw [cu]
   obtain⟨x,hx,rfl⟩:=z8 hu
   have hjn:j < n:=by have:=(af.mp hx).1;simpa using this
   have hxs:x=s:=List.eq_of_mem_replicate (cj hx)
   subst hxs
   have hl:=so (m:=m) (T:=T) (p:=p) (s:=x) j
   have hl1:=so (m:=m) (T:=T) (p:=p) (s:=x) (j+1)
   have hmul:(j+1+1)*(p.length+1)<=1000:=aK (fD _ (by exact qx (by assumption))) hb
   have hm2:(j+1+1)*(p.length+1)=(j+1)*(p.length+1)+(p.length+1):=qr _ _
   have f1:m2 bV (ae 5) (eU (aa (ae 7) ag)) [some (tab m T),some (.tup (az p)),some (.tup (az (ay n x))),some (.tup (az p)),some (.tup [.tup (az (bk m T p)),.tup (az p)]),some (.tup (az (thr m T p x j))),some (.int (j:Nat)),some (.int (x:Nat))] S'=some (.tup (az (thr m T p x j ++ [x])),S'):=zi (x:=thr m T p x j) (y := [x]) (var_eq rfl) (Hj (var_eq rfl)) (by unfold big;simp;omega)
   have f2:m2 oIx (ae 4) (m2 oMod (ae 6) (mC (.int 2))) [some (tab m T),some (.tup (az p)),some (.tup (az (ay n x))),some (.tup (az p)),some (.tup [.tup (az (bk m T p)),.tup (az p)]),some (.tup (az (thr m T p x j))),some (.int (j:Nat)),some (.int (x:Nat))] S'=some (.tup (az (if j % 2=0 then bk m T p else p)),S'):=by
    refine BF (us := [.tup (az (bk m T p)),.tup (az p)]) (var_eq rfl) (xt (x:=j) (y:=2) (var_eq rfl) c_i (by decide)) (rm ?_)
    by_cases q:j % 2=0
    ·rw [if_pos q,q];rfl
    ·rw [if_neg q,show j % 2=1 by omega];rfl
   have hq:(if j % 2=0 then bk m T p else p).length=p.length:=by split <;> simp [vq]
   have f3:=zi f1 f2 (by rw [be,hq];unfold big;simp;omega)
   exact⟨_,S',_,S',rfl,bP f3,⟨_,_,rfl⟩,rfl⟩)
 have hlen:(gW (az (ay n s))).length=n:=by simp [gW,az]
 rw [hlen,cu] at e2
 subst hS
 have ef:qC (gTp 2 (gK (gN 6) (gK (gN 7) qW))) (nB (aa (ae 2) ag)) (br 5 (m2 bV (m2 bV (ae 5) (eU (aa (ae 7) ag))) (m2 oIx (ae 4) (m2 oMod (ae 6) (mC (.int 2)))))) [some (tab m T),some (.tup (az p)),some (.tup (az (ay n s))),some (.tup (az p)),some (.tup [.tup (az (bk m T p)),.tup (az p)]),some (.tup (az p)),none,none] S2=some (.nx,[some (tab m T),some (.tup (az p)),some (.tup (az (ay n s))),some (.tup (az p)),some (.tup [.tup (az (bk m T p)),.tup (az p)]),some (.tup (az (thr m T p s n))),a,b],S2):=by
  show bnd (nB _ _ _) _=_
  rw [hi]
  exact e2
 refine⟨S2,dB (ρ := [some (tab m T),some (.tup (az p)),some (.tup (az (ay n s))),some (.tup (az p)),some (.tup [.tup (az (bk m T p)),.tup (az p)]),some (.tup (az (thr m T p s n))),a,b]) rfl ?_,x1⟩
 show thM [some (tab m T),some (.tup (az p)),some (.tup (az (ay n s))),some (.tup (az p)),none,none,none,none] S=_
 exact (bq (bP et)).trans ((bq (bP (var_eq rfl))).trans ((bq ef).trans (dC (var_eq rfl))))
theorem IV {ρ:Rho}{S S1 S2:Sto}{a b:ME}{s k:Nat} (ha:a ρ S=some (.tup (az [s]),S1)) (hb:b ρ S1=some (.int (k:Nat),S2)) (hk:k < 1000):m2 dX a b ρ S=some (.tup (az (ay k s)),S2):=by
 refine op2 ha hb ?_
 have h:xp (az [s]).length (k:Int):=⟨by exact pI _,by omega,by simp [az],by simp [az]⟩
 simp only [dX,if_pos h,jI]
 congr 2
 simp [az]
noncomputable def snB:MS:=aZ (br 4 (mFn (G.run 3 5 ttM) (aa (ae 0) (aa (ae 3) (aa (mFn (G.run 2 4 plM) (aa (ae 0) (aa (ae 2) ag))) ag))))) (br 2 (mFn (G.run 4 8 thM) (aa (ae 0) (aa (ae 2) (aa (m2 dX (eU (aa (ae 3) ag)) (m2 kT (ae 4) (mC (.int 1)))) (aa (ae 2) ag))))))
noncomputable def snM:MS:=aZ (dy (mFn (G.run 1 1 rpM) (aa (ae 0) ag))) (aZ (br 2 (eU ag)) (aZ (d5 3 (iB (ae 1)) snB) (cW (ae 2))))
theorem AZ {p:List Nat} : ∀ {st:List Nat}{k s:Nat},st[k]? = some s->snk m T p (st.take (k+1))=thr m T (snk m T p (st.take k)) s (tkn m T s (plc T (snk m T p (st.take k))) - 1):=by
 intro st
 induction st generalizing p with
 | nil=>intro k s h;simp at h
 | cons a st ih=>
   intro k s h
   cases k with
   | zero=>simp at h;subst h;rfl
   | succ k=>
     rw [List.take_succ_cons,List.take_succ_cons]
     exact ih (by simpa using h)
theorem Hu {st:List Nat} (g:Grp m T) (hm:m<=30) (pl:Pln m T) (hst:Lt m st) : ∃ S',G.run 2 5 snM [tab m T,.tup (az st)] S=some (.tup (az (snk m T [] st)),S')/\Ex S S':=by
 obtain⟨S1,e1,x1⟩:=G8 (S:=S) (by exact aH (by assumption) (by decide)) pl
 have er:dy (mFn (G.run 1 1 rpM) (aa (ae 0) ag)) [some (tab m T),some (.tup (az st)),none,none,none] S=some (.nx,[some (tab m T),some (.tup (az st)),none,none,none],S1):=by
  have:=fj (f:=G.run 1 1 rpM) (ρ := [some (tab m T),some (.tup (az st)),none,none,none]) (S:=S) (a:=ae 0) (var_eq rfl) e1
  simp only [dy,this,aE]
 obtain⟨ρ2,S2,e2,⟨a,b,rfl⟩,x2⟩:=y9 (i:=3) (b:=snB) (e:=ae 1) (ρ := [some (tab m T),some (.tup (az st)),some (.tup (az [])),none,none]) (S:=S1) (us:=az st) (var_eq rfl)
  (fun k ρ S'=>(∃ a b,ρ = [some (tab m T),some (.tup (az st)),some (.tup (az (snk m T [] (st.take k)))),a,b])/\Ex S1 S') ⟨⟨_,_,rfl⟩,Ex.refl _⟩ (by
   rintro k u ρ S' hu ⟨⟨a,b,rfl⟩,x2⟩
   obtain⟨s,hs,rfl⟩:=o3 hu
   have hsm:=hst s (cj hs)
   have sn:Sn m T (snk m T [] (st.take k)):=Sn.snk g pl (Lt.tk hst k) (Sn.start g)
   rw [AZ hs]
   generalize snk m T [] (st.take k)=p at sn
   have hl:=sn.len g
   obtain⟨n1,n2,_,_⟩:=oO (P:=plc T p) g hsm mD
   obtain⟨S3,e3,x3⟩:=DI (S:=S') g sn.lt (by exact ah (by assumption) (aK (by assumption) (by decide)))
   have e4:=HL (S:=S3) (s:=s) (P:=plc T p) g (by exact aH (by assumption) (by decide)) hsm mD
   obtain⟨S5,e5,x5⟩:=Jg (S:=S3) (p:=p) (s:=s) (n:=tkn m T s (plc T p) - 1) g sn.lt hsm (by
    have:(tkn m T s (plc T p) - 1+1)*(p.length+1)<=30*30:=Nat.mul_le_mul (by exact ah (by assumption) (by assumption)) (by exact ah (by assumption) (by assumption))
    exact ah (by assumption) (by decide))
   have f4:=bP (i:=4) (Dt (f:=G.run 3 5 ttM) (ρ := [some (tab m T),some (.tup (az st)),some (.tup (az p)),some (.int (s:Nat)),b]) (S:=S') (a:=ae 0) (b:=ae 3) (c:=mFn (G.run 2 4 plM) (aa (ae 0) (aa (ae 2) ag))) (var_eq rfl) (var_eq rfl) (cJ (var_eq rfl) (var_eq rfl) e3) e4)
   have fs:m2 kT (ae 4) (mC (.int 1)) [some (tab m T),some (.tup (az st)),some (.tup (az p)),some (.int (s:Nat)),some (.int (tkn m T s (plc T p):Nat))] S3=some (.int (tkn m T s (plc T p) - 1:Nat),S3):=by
    rw [wL (var_eq rfl) c_i]
    congr 3
    omega
   have f5:=bP (i:=2) (HM (f:=G.run 4 8 thM) (ρ := [some (tab m T),some (.tup (az st)),some (.tup (az p)),some (.int (s:Nat)),some (.int (tkn m T s (plc T p):Nat))]) (S:=S3) (a:=ae 0) (b:=ae 2) (c:=m2 dX (eU (aa (ae 3) ag)) (m2 kT (ae 4) (mC (.int 1)))) (d:=ae 2) (var_eq rfl) (var_eq rfl) (IV (s:=s) (Hj (var_eq rfl)) fs (by exact ah (by assumption) (aK (by assumption) (by decide)))) (var_eq rfl) e5)
   exact⟨_,S5,(bq f4).trans f5,⟨_,_,rfl⟩,(x2.trans x3).trans x5⟩)
 rw [dO,List.take_length] at e2
 refine⟨S2,dB (ρ := [some (tab m T),some (.tup (az st)),some (.tup (az (snk m T [] st))),a,b]) rfl ?_,x1.trans x2⟩
 show snM [some (tab m T),some (.tup (az st)),none,none,none] S=_
 exact (bq er).trans ((bq (bP (show eU ag _ _=some (.tup (az []),S1) from rfl))).trans ((bq e2).trans (dC (var_eq rfl))))
end
end
end W
end
section
namespace W
open L2 G
section
theorem mT {n:Nat}:Pln n (di n):=fun i j _ _=>by unfold di;rw [lN]
theorem z4 {k m:Nat}{A B:Nat->Nat->Nat} (hm:0 < m) (a:Pln k A) (b:Pln m B):Pln (k*m) (jC m A B):=fun i j hi hj=>by
 unfold jC
 have h1:i / m < k:=iD (by rw [eM];exact hi)
 have h2:j / m < k:=iD (by rw [eM];exact hj)
 rw [a _ _ h1 h2,b _ _ (jx _ hm) (jx _ hm)]
theorem yK {m:Nat}{T:Nat->Nat->Nat}{o p:Nat->Nat} (h:Ord m o p) (a:Pln m T):Pln m (ie T o p):=fun i j hi hj=>by
 unfold ie;rw [a _ _ (h.ol i hi) (h.ol j hj)]
section
variable {m:Nat}{T:Nat->Nat->Nat}{S:Sto}
noncomputable def lpW:MS:=br 2 (mFn fA (aa (ae 2) (aa (mFn bz (aa (m2 bV (mC (.int 2)) (mFn aC (aa (ae 0) (aa (m2 kT (m2 oDiv (ae 1) (mFn cQ (aa (ae 2) ag))) (mC (.int 1))) ag)))) ag)) ag)))
noncomputable def lpC:MT:=nJ (cOf (m2 oLe (m2 dX (mFn cQ (aa (ae 2) ag)) (mC (.int 2))) (ae 1))) (cOf (m2 oGt (mFn aC (aa (ae 0) (aa (mC (.int 4)) ag))) (mC (.int 0))))
noncomputable def lpM:MS:=aZ (br 2 (mFn bz (aa (m2 bV (mC (.int 1)) (mFn aC (aa (ae 0) (aa (ae 1) ag)))) ag))) (aZ (sIf (cOf (m2 oGt (mFn aC (aa (ae 0) (aa (mC (.int 3)) ag))) (mC (.int 0)))) (aZ (br 2 (mFn bz (aa (m2 bV (mC (.int 2)) (mFn aC (aa (ae 0) (aa (mC (.int 3)) ag)))) ag))) (ki lpC lpW)) cD) (aZ (sIf (cOf (m2 oEq (mFn aC (aa (ae 0) (aa (mC (.int 3)) ag))) (mC (.int 0)))) (br 2 (mFn dS (aa (ae 2) (aa (mFn dR (aa (ae 0) (aa (mFn cQ (aa (ae 2) ag)) ag))) ag)))) cD) (cW (ae 2))))
structure Pg (n most:Nat) (S0:Sto) (ρ:Rho) (S:Sto):Prop where
 h : ∃ m T,ρ = [some (.ref n),some (.int (most:Nat)),some (tab m T)]/\Grp m T/\Pln m T/\m<=most
 st:Stp n S0 S
theorem HZ {n most:Nat}{S:Sto} (h:i8 n S) (h6:6<=most) (hm:most < 100) : ∃ m T S',G.run 2 3 lpM [.ref n,.int (most:Nat)] S=some (tab m T,S')/\Grp m T/\Pln m T/\m<=most/\Stp n S S':=by
 obtain⟨r1,S1,e1,hr1,st1⟩:=eV (m:=most) h (by exact Nat.zero_lt_of_lt (by assumption)) (by exact ah (by assumption) (by decide))
 obtain⟨S2,e2,x2⟩:=iq (n:=1+r1) (S:=S1) (by exact aX (by decide) _) (by unfold big;omega)
 have g1:br 2 (mFn bz (aa (m2 bV (mC (.int 1)) (mFn aC (aa (ae 0) (aa (ae 1) ag)))) ag)) [some (.ref n),some (.int (most:Nat)),none] S=some (.nx,[some (.ref n),some (.int (most:Nat)),some (tab (1+r1) (di (1+r1)))],S2):=bP (fj (add_n (x:=1) (y:=r1) c_i (cJ (f:=aC) (var_eq rfl) (var_eq rfl) e1)) e2)
 have p1:Pg n most S [some (.ref n),some (.int (most:Nat)),some (tab (1+r1) (di (1+r1)))] S2:=⟨⟨_,_,rfl,fW (by exact aX (by decide) _),mT,by omega⟩,st1.step x2⟩
 have step2 : ∀ ρ S2,Pg n most S ρ S2 -> ∃ ρ' S',sIf (cOf (m2 oGt (mFn aC (aa (ae 0) (aa (mC (.int 3)) ag))) (mC (.int 0)))) (aZ (br 2 (mFn bz (aa (m2 bV (mC (.int 2)) (mFn aC (aa (ae 0) (aa (mC (.int 3)) ag)))) ag))) (ki lpC lpW)) cD ρ S2=some (.nx,ρ',S')/\Pg n most S ρ' S':=by
  rintro ρ S2 ⟨⟨m,T,rfl,gr,pl,hle⟩,st⟩
  obtain⟨r,S3,e3,hr3,st3⟩:=eV (m:=3) st.st (by decide) (by decide)
  have ec:=of_eq (Ar (ρ := [some (.ref n),some (.int (most:Nat)),some (tab m T)]) (S:=S2) (a:=mFn aC (aa (ae 0) (aa (mC (.int 3)) ag))) (b:=mC (.int 0)) (cJ (f:=aC) (var_eq rfl) c_i e3) c_i)
  by_cases hr:0 < r
  ·rw [decide_eq_true (by omega)] at ec
   obtain⟨q,S4,e4,hq,st4⟩:=eV (m:=3) st3.st (by decide) (by decide)
   obtain⟨S5,e5,x5⟩:=iq (n:=2+q) (S:=S4) (by exact aX (by decide) _) (by unfold big;omega)
   have g5:br 2 (mFn bz (aa (m2 bV (mC (.int 2)) (mFn aC (aa (ae 0) (aa (mC (.int 3)) ag)))) ag)) [some (.ref n),some (.int (most:Nat)),some (tab m T)] S3=some (.nx,[some (.ref n),some (.int (most:Nat)),some (tab (2+q) (di (2+q)))],S5):=bP (fj (add_n (x:=2) (y:=q) c_i (cJ (f:=aC) (var_eq rfl) c_i e4)) e5)
   have p5:Pg n most S [some (.ref n),some (.int (most:Nat)),some (tab (2+q) (di (2+q)))] S5:=⟨⟨_,_,rfl,fW (by exact aX (by decide) _),mT,by omega⟩,((st.trans st3).trans st4).step x5⟩
   obtain⟨ρ6,S6,e6,p6⟩:=rF (c:=lpC) (b:=lpW) (fun μ ρ S'=>Pg n most S ρ S' /\ ∃ m T,ρ = [some (.ref n),some (.int (most:Nat)),some (tab m T)]/\μ=most - m) (fun ρ S'=>Pg n most S ρ S') (by
    rintro μ ρ S' ⟨⟨⟨m,T,rfl,gr,pl,hle⟩,st⟩,m',T',he,rfl⟩
    have hmm:m'=m:=by
     have h3:=congrArg (fun ρ:Rho=>ρ[2]?) he
     have h4:U.tup ((aA m).map (kU m T))=U.tup ((aA m').map (kU m' T')):=bu (bu h3)
     have:=congrArg A8 (U.tup.inj h4)
     simpa using this.symm
    subst hmm
    have hp:=gr.pos
    have c1:cOf (m2 oLe (m2 dX (mFn cQ (aa (ae 2) ag)) (mC (.int 2))) (ae 1)) [some (.ref n),some (.int (most:Nat)),some (tab m' T)] S'=some (decide (m'*2<=most),S'):=by
     have:=of_eq (op2 (f:=oLe) (ρ := [some (.ref n),some (.int (most:Nat)),some (tab m' T)]) (S:=S') (a:=m2 dX (mFn cQ (aa (ae 2) ag)) (mC (.int 2))) (b:=ae 1) (wZ (x:=m') (y:=2) (len_tab (var_eq rfl)) c_i (by exact aH (by assumption) (ah (by assumption) (by decide)))) (var_eq rfl) (show oLe (.int ((m'*2:Nat):Int)) (.int (most:Nat)) S'=some (.bl (decide (((m'*2:Nat):Int)<=(most:Int))),S') from rfl))
     rw [this]
     congr 2
     simp
     omega
    by_cases h2:m'*2<=most
    ·rw [decide_eq_true h2] at c1
     obtain⟨r,S7,e7,hr7,st7⟩:=eV (m:=4) st.st (by decide) (by decide)
     have c2:=of_eq (Ar (ρ := [some (.ref n),some (.int (most:Nat)),some (tab m' T)]) (S:=S') (a:=mFn aC (aa (ae 0) (aa (mC (.int 4)) ag))) (b:=mC (.int 0)) (cJ (f:=aC) (var_eq rfl) c_i e7) c_i)
     refine⟨decide ((0:Int) < r),S7,?_,fun _=>⟨⟨_,_,rfl,gr,pl,hle⟩,st.trans st7⟩,fun _ => ?_⟩
     ·simp only [lpC,nJ,c1,aE,if_true,c2]
     ·have hd:2<=most / m':=(Nat.le_div_iff_mul_le hp).mpr (by rw [eM];exact h2)
      obtain⟨q,S8,e8,hq8,st8⟩:=eV (m:=most / m' - 1) st7.st (by omega) (by have:=lX most m';omega)
      have es:m2 kT (m2 oDiv (ae 1) (mFn cQ (aa (ae 2) ag))) (mC (.int 1)) [some (.ref n),some (.int (most:Nat)),some (tab m' T)] S7=some (.int (most / m' - 1:Nat),S7):=by
       rw [wL (ot (x:=most) (y:=m') (var_eq rfl) (len_tab (var_eq rfl)) hp (by exact aH (by assumption) (ah (by assumption) (by decide)))) c_i]
       congr 3
       omega
      obtain⟨S9,e9,x9⟩:=iq (n:=2+q) (S:=S8) (by exact aX (by decide) _) (by have:=lX most m';unfold big;omega)
      have hq2:2+q<=most / m':=by omega
      have hmul:m'*(2+q)<=most:=aK (i5 m' hq2) (Nat.mul_div_le most m')
      obtain⟨S10,e10,x10⟩:=xj (k:=m') (m:=2+q) (A:=T) (B:=di (2+q)) (S:=S9) hp (by exact aH (by assumption) (ah (by assumption) (by decide))) (by exact aX (by decide) _) (by have:=lX most m';omega) gr.cl
      have hgt:m' < m'*(2+q):=by
       have:m'*2<=m'*(2+q):=i5 m' (by omega)
       omega
      refine⟨[some (.ref n),some (.int (most:Nat)),some (tab (m'*(2+q)) (jC (2+q) T (di (2+q))))],S10,most - m'*(2+q),by omega,bP (cJ (f:=fA) (var_eq rfl) (fj (f:=bz) (add_n (x:=2) (y:=q) c_i (cJ (f:=aC) (var_eq rfl) es e8)) e9) e10),⟨⟨_,_,rfl,tK gr (fW (by exact aX (by decide) _)),z4 (by exact aX (by decide) _) pl mT,hmul⟩,(((st.trans st7).trans st8).step x9).step x10⟩,_,_,rfl,rfl⟩
    ·rw [decide_eq_false h2] at c1
     refine⟨false,S',?_,fun _=>⟨⟨_,_,rfl,gr,pl,hle⟩,st⟩,fun z=>by cases z⟩
     simp only [lpC,nJ,c1,aE,dj,if_false]) fuel (most - (2+q)) _ S5 (by unfold fuel;omega) ⟨p5,_,_,rfl,rfl⟩
   exact⟨ρ6,S6,(nM ec).trans ((bq g5).trans e6),p6⟩
  ·rw [decide_eq_false (by omega)] at ec
   exact⟨_,S3,(kS ec).trans rfl,⟨⟨_,_,rfl,gr,pl,hle⟩,st.trans st3⟩⟩
 have step3 : ∀ ρ S2,Pg n most S ρ S2 -> ∃ ρ' S',sIf (cOf (m2 oEq (mFn aC (aa (ae 0) (aa (mC (.int 3)) ag))) (mC (.int 0)))) (br 2 (mFn dS (aa (ae 2) (aa (mFn dR (aa (ae 0) (aa (mFn cQ (aa (ae 2) ag)) ag))) ag)))) cD ρ S2=some (.nx,ρ',S')/\Pg n most S ρ' S':=by
  rintro ρ S2 ⟨⟨m,T,rfl,gr,pl,hle⟩,st⟩
  have hp:=gr.pos
  obtain⟨r,S3,e3,hr3,st3⟩:=eV (m:=3) st.st (by decide) (by decide)
  have ec:=of_eq (Cc (ρ := [some (.ref n),some (.int (most:Nat)),some (tab m T)]) (S:=S2) (a:=mFn aC (aa (ae 0) (aa (mC (.int 3)) ag))) (b:=mC (.int 0)) (x:=r) (y:=0) (cJ (f:=aC) (var_eq rfl) c_i e3) c_i)
  by_cases hr:r=0
  ·rw [decide_eq_true hr] at ec
   obtain⟨l,S4,e4,st4,ho⟩:=uS (m:=m) st3.st hp (by exact aH (by assumption) (ah (by assumption) (by decide)))
   obtain⟨S5,e5,x5⟩:=uG (S:=S4) (T:=T) (by unfold big;exact aH (by assumption) (ah (by assumption) (by decide))) gr.cl ho
   refine⟨[some (.ref n),some (.int (most:Nat)),some (tab m (ie T (oF l) (pF l)))],S5,(nM ec).trans (bP (cJ (f:=dS) (var_eq rfl) (cJ (f:=dR) (var_eq rfl) (len_tab (var_eq rfl)) e4) e5)),⟨⟨_,_,rfl,qK gr ho.ord,yK ho.ord pl,hle⟩,((st.trans st3).trans st4).step x5⟩⟩
  ·rw [decide_eq_false hr] at ec
   exact⟨_,S3,(kS ec).trans rfl,⟨⟨_,_,rfl,gr,pl,hle⟩,st.trans st3⟩⟩
 obtain⟨ρ3,S3,e3,p3⟩:=step2 _ _ p1
 obtain⟨ρ4,S4,e4,⟨⟨m,T,rfl,gr,pl,hle⟩,st⟩⟩:=step3 _ _ p3
 exact⟨m,T,S4,dB (ρ := [some (.ref n),some (.int (most:Nat)),some (tab m T)]) rfl (show lpM [some (.ref n),some (.int (most:Nat)),none] S=_ from (bq g1).trans ((bq e3).trans ((bq e4).trans (dC (var_eq rfl))))),gr,pl,hle,st⟩
end
end
end W
end
section
namespace W
open L2 G
section
end
end W
end
section
namespace W
open L2 G
section
inductive Smp:U->Prop where
 | non:Smp .non
 | bl (b:Bool):Smp (.bl b)
 | int (i:Int):Smp (.int i)
 | str (x:PySem.Str):Smp (.str x)
 | tup (us:List U):Smp (.tup us)
inductive Thg (S:Sto):U->Prop where
 | non:Thg S .non
 | bl (b:Bool):Thg S (.bl b)
 | int (i:Int):Thg S (.int i)
 | str (x:PySem.Str):Thg S (.str x)
 | tup {us:List U} (h : ∀ v∈us,Smp v) (hl:us.length < 64):Thg S (.tup us)
 | lst {n:Nat}{xs:List U} (h:S[n]? = some (Cell.lst xs)):Thg S (.ref n)
 | dic {n:Nat}{kv:List (L2.Key×U)} (h:S[n]? = some (Cell.dic kv)):Thg S (.ref n)
end
end W
end
section
namespace W
open L2 G
section
section
variable {m:Nat}{T:Nat->Nat->Nat}{S:Sto}{u:U}{st:List Nat}
theorem ml {ρ:Rho}{S1:Sto}{r:MA}{xs:List U} (h:r ρ S=some (xs,S1)) (hl:xs.length < 1000):cf r ρ S=some (.ref S1.length,S1 ++ [.lst xs]):=by
 have:xs.length<=big:=by unfold big;omega
 simp only [cf,h,aE,this,if_true]
end
end
end W
end
section
namespace W
open L2 G
section
structure Inj (m:Nat) (f:Nat->Nat):Prop where
 lt : ∀ x,x < m->f x < m
 inj : ∀ x y,x < m->y < m->f x=f y->x=y
section
variable {m:Nat}{f:Nat->Nat}
end
end
end W
end
section
namespace W
open L2 G
section
theorem tR {rz is:List Nat}{ml:ME}{rl:MX}{ρ:Rho}{S S1:Sto}{cs:List U}{u:U} (hc:ke is ρ=some cs) (h:ml (cs.map some) S=some (u,S1)):hX rz is ml rl ρ S=some (.non,S1++fO fun _=>false):=by
 have e:qj 0 ml cs [] S=some (u,S1):=h
 simp only [hX,hc,ao,yr,e]
theorem sQ {rz is:List Nat}{ml:ME}{rl:MX}{ρ:Rho}{S S1:Sto}{cs:List U}{q:Nat} (hc:ke is ρ=some cs) (h:ml (cs.map some) S=none) (hx:rl (cs.map some) S=some (q,S1)) (hq:q∈rz):hX rz is ml rl ρ S=some (.ref (S1.length+3),S1++(fO (bQ q) ++ [.lst (az [q])])):=by
 have e:qj 0 ml cs [] S=none:=h
 have e2:sh 0 rl cs [] S=some (q,S1):=hx
 simp only [hX,hc,ao,yr,e,e2]
 rw [if_pos hq]
 rfl
theorem pe (S:Sto) (b:Nat->Bool) (l:List Cell):Ex S (S++(fO b++l)):=⟨_,rfl⟩
theorem xo (S:Sto) (b:Nat->Bool):Ex S (S++fO b):=⟨_,rfl⟩
theorem wO {S:Sto}{b:Nat->Bool}{c:Cell}:(S++(fO b ++ [c]))[S.length+3]? = some c:=by
 rw [aq (by omega)]
 simp [fO]
theorem Az {ρ:Rho}{S S1 S2:Sto}{a b:ME} (ha:a ρ S=some (.non,S1)) (hb:b ρ S1=some (.non,S2)):m2 oNe a b ρ S=some (.bl false,S2):=op2 ha hb rfl
theorem vp {k n:Nat}{b:MS}{us:List U}{S:Sto} (h:b (us.map some++ay (n - k) none) S=none):G.run k n b us S=none:=by
 unfold G.run
 split
 ·rw [h]
 ·rfl
theorem rR {k n q:Nat}{r:MX}{us:List U}{S S1:Sto} (hl:us.length=k) (h:r (us.map some++ay (n - k) none) S=some (q,S1)):ql k n r us S=some (q,S1):=by
 unfold ql
 rw [if_pos hl,h]
theorem wu {a b:MX}{s:MS}{ρ:Rho}{S S1:Sto}{q:Nat} (h:a ρ S=some (q,S1)):pY a s b ρ S=some (q,S1):=by simp only [pY,h]
theorem Je {c:MT}{a b:MX}{ρ:Rho}{S S1:Sto} (h:c ρ S=some (true,S1)):xIf c a b ρ S=a ρ S1:=by simp [xIf,h,aE]
theorem AQ {a b:MS}{ρ:Rho}{S:Sto} (h:a ρ S=none):aZ a b ρ S=none:=by simp only [aZ,h]
theorem zl {f:MF}{ρ:Rho}{S S1:Sto}{a b:ME}{x:U} (ha:a ρ S=some (x,S1)) (hb:b ρ S1=none):mFn f (aa a (aa b ag)) ρ S=none:=by simp only [mFn,aa,ha,aE,hb,bnd]
theorem JQ {r:RF}{a:ME}{ρ:Rho}{S S1:Sto}{x:U}{v:Option (Nat×Sto)} (ha:a ρ S=some (x,S1)) (h:r [x] S1=v):xFn r (aa a ag) ρ S=v:=by simp only [xFn,aa,ag,ha,aE,h]
theorem FT {r:RF}{a b:ME}{ρ:Rho}{S S1 S2:Sto}{x y:U}{v:Option (Nat×Sto)} (ha:a ρ S=some (x,S1)) (hb:b ρ S1=some (y,S2)) (h:r [x,y] S2=v):xFn r (aa a (aa b ag)) ρ S=v:=by simp only [xFn,aa,ag,ha,hb,aE,h]
section
variable {m:Nat}{T:Nat->Nat->Nat}{S:Sto}
theorem Iw (hm:m < 1000) (pl : ¬ Pln m T) : ∃ S',G.run 1 2 ipM [tab m T] S=some (.bl false,S')/\Ex S S':=by
 have key:=ye (i:=1) (a:=mFn cQ (aa (ae 0) ag)) (n:=m) (b:=sIf (km (cOf (mFn pQ (aa (cw (iR1 (aa (ae 1) ag)) cTT (m2 oEq (m2 oIx (m2 oIx (ae 0) (ae 1)) (ae 2)) (m2 oIx (m2 oIx (ae 0) (ae 2)) (ae 1)))) ag)))) (cW (mC (.bl false))) cD) (ρ := [some (tab m T),none]) (S:=S) (len_tab (var_eq rfl)) (by unfold big;omega)
  (fun i=>(aA i).all fun j=>decide (T i j=T j i)) (.bl false) (fun _ ρ S'=>(∃ v,ρ = [some (tab m T),v])/\Ex S S') (fun S'=>Ex S S') ⟨⟨_,rfl⟩,Ex.refl _⟩ (by
   rintro i ρ S' hi ⟨⟨v,rfl⟩,x⟩
   obtain⟨S2,e2,rfl⟩:=lE (ρ := [some (tab m T),some (.int i)]) (S:=S') (S0:=S') (a:=ae 1) (e:=m2 oEq (m2 oIx (m2 oIx (ae 0) (ae 1)) (ae 2)) (m2 oIx (m2 oIx (ae 0) (ae 2)) (ae 1))) (n:=i) (var_eq rfl) (by unfold big;omega) (fun j => .bl (decide (T i j=T j i))) (fun _ S2=>S2=S') rfl (by
    rintro j S2 hj rfl
    exact⟨S2,Cc (iO (by omega) (gL hi (var_eq rfl) (var_eq rfl)) (var_eq rfl)) (iO hi (gL (by omega) (var_eq rfl) (var_eq rfl)) (var_eq rfl)),rfl⟩)
   have h:=not_eq (of_eq (zm (f:=fun j=>decide (T i j=T j i)) (l:=aA i) e2 (eD _ _)))
   refine⟨fun z => ?_,fun z => ?_⟩
   ·rw [z] at h
    exact⟨_,_,(kS h).trans rfl,⟨_,rfl⟩,x.trans (Ex.push _ _)⟩
   ·rw [z] at h
    exact⟨_,_,(nM h).trans (dC rfl),x.trans (Ex.push _ _)⟩)
 rcases key with⟨hall,_⟩ | ⟨_,ρ',S',e,x⟩
 ·refine absurd (fun i j hi hj => ?_) pl
  rcases Nat.lt_trichotomy i j with z | z | z
  ·have:=bA.mp (hall j hj) i (aP.mpr z)
   exact (of_decide_eq_true this).symm
  ·rw [z]
  ·have:=bA.mp (hall i hi) j (aP.mpr z)
   exact of_decide_eq_true this
 ·exact⟨S',dB (ρ:=ρ') rfl (show ipM [some (tab m T),none] S=_ from za e),x⟩
theorem IT (hm:m < 1000) (pl : ¬ Pln m T):G.run 1 1 rpM [tab m T] S=none:=by
 obtain⟨S1,e1,x1⟩:=Iw (S:=S) hm pl
 exact vp (show rpM [some (tab m T)] S=none from (nM (not_eq (of_eq (fj (f:=G.run 1 2 ipM) (var_eq rfl) e1)))).trans rfl)
noncomputable def lkM:ME:=m2 oEq (cw (iR1 (aa (ae 5) ag)) (cOf (m2 oNe (mFn bS (aa (cw (iR1 (aa (ae 5) ag)) cTT (m2 oIx (m2 oIx (ae 3) (ae 9)) (ae 8))) ag)) (m2 oIx (ae 3) (ae 8)))) (ae 8)) (cf ag)
theorem Gz {ρ:Rho} (hm:m < 1000) (hl:ρ.length=8) (h3:ρ[3]? = some (some (tab m T))) (h5:ρ[5]? = some (some (.int (m:Nat)))) : ∃ S' b,lkM ρ S=some (.bl b,S')/\Ex S S'/\(b=true↔Pln m T):=by
 have g3 : ∀ x,(ρ++x)[3]? = some (some (tab m T)):=fun x=>by rw [aQ (by omega)];exact h3
 have g5 : ∀ x,(ρ++x)[5]? = some (some (.int (m:Nat))):=fun x=>by rw [aQ (by omega)];exact h5
 have g8 : ∀ (u:Option U) (x:Rho),(ρ++(u::x))[8]? = some u:=fun u x=>by rw [aq (by omega),hl];rfl
 have g9 : ∀ (u v:Option U),(ρ ++ [u] ++ [v])[9]? = some v:=fun u v=>by rw [bf,aq (by omega),hl];rfl
 obtain⟨S1,e1,x1⟩:=uO (ρ:=ρ) (S:=S) (S0:=S) (a:=ae 5) (e:=ae 8) (t:=cOf (m2 oNe (mFn bS (aa (cw (iR1 (aa (ae 5) ag)) cTT (m2 oIx (m2 oIx (ae 3) (ae 9)) (ae 8))) ag)) (m2 oIx (ae 3) (ae 8)))) (n:=m) (var_eq h5) (by unfold big;omega)
  (fun i => !decide ((aA m).map (fun j=>T j i)=(aA m).map (T i))) (fun i => .int (i:Nat)) (fun _ S'=>Ex S S') (Ex.refl _) (by
   intro i S2 hi x2
   obtain⟨S3,e3,rfl⟩:=lE (ρ:=ρ ++ [some (.int i)]) (S:=S2) (S0:=S2) (a:=ae 5) (e:=m2 oIx (m2 oIx (ae 3) (ae 9)) (ae 8)) (n:=m) (var_eq (g5 _)) (by unfold big;omega) (fun j => .int (T j i:Nat)) (fun _ S'=>S'=S2) rfl (by
    rintro j S4 hj rfl
    refine⟨S4,iO hi (gL hj (var_eq (by rw [bf];exact g3 _)) (var_eq (g9 _ _))) (var_eq ?_),rfl⟩
    rw [bf];exact g8 _ _)
   have et:mFn bS (aa (cw (iR1 (aa (ae 5) ag)) cTT (m2 oIx (m2 oIx (ae 3) (ae 9)) (ae 8))) ag) (ρ ++ [some (.int i)]) S3=some (.tup (az ((aA m).map fun j=>T j i)),S3 ++ [.lst ((aA m).map fun j => .int (T j i:Nat))]):=by
    refine fj e3 ?_
    simp only [bS,du,getL,eD,bx]
    simp [az]
   have er:m2 oIx (ae 3) (ae 8) (ρ ++ [some (.int i)]) (S3 ++ [.lst ((aA m).map fun j => .int (T j i:Nat))])=some (.tup (az ((aA m).map (T i))),S3 ++ [.lst ((aA m).map fun j => .int (T j i:Nat))]):=by
    rw [gL hi (var_eq (g3 _)) (var_eq (g8 _ _)),uR]
   refine⟨_,of_eq (Fe et er),fun _=>⟨_,var_eq (g8 _ _),x2.trans (Ex.push _ _)⟩,fun _=>x2.trans (Ex.push _ _)⟩)
 have hn:((aA m).filter fun i => !decide ((aA m).map (fun j=>T j i)=(aA m).map (T i))) = []↔Pln m T:=by
  rw [List.filter_eq_nil_iff]
  constructor
  ·intro h i j hi hj
   have:=h j (aP.mpr hj)
   simp only [jH,decide_eq_false_iff_not,y6] at this
   have e:=congrArg (fun l=>l[i]?) this
   simpa [hi] using e
  ·intro h i hi
   have hi:=aP.mp hi
   simp only [jH,decide_eq_false_iff_not,y6]
   exact bE fun j hj=>h j i (aP.mp hj) hi
 generalize ((aA m).filter fun i => !decide ((aA m).map (fun j=>T j i)=(aA m).map (T i)))=F at e1 hn
 have ee:=eq_list (ρ:=ρ) (S:=S) (a:=cw (iR1 (aa (ae 5) ag)) (cOf (m2 oNe (mFn bS (aa (cw (iR1 (aa (ae 5) ag)) cTT (m2 oIx (m2 oIx (ae 3) (ae 9)) (ae 8))) ag)) (m2 oIx (ae 3) (ae 8)))) (ae 8)) (b:=cf ag) (x:=F) (y := []) e1 lY ((Ex.push _ _).some (eD _ _)) (eD _ _)
 exact⟨_,_,ee,(x1.trans (Ex.push _ _)).trans (Ex.push _ _),by rw [decide_eq_true_iff];exact hn⟩
end
end
end W
end
namespace W
open PySem PySem.Spec L2 G
section
noncomputable def nC:MS:=aZ (br 2 (mFn bz (aa (m2 bV (mC (.int 1)) (mFn aC (aa (ae 0) (aa (ae 1) ag)))) ag))) (aZ (sIf (cOf (m2 oGt (mFn aC (aa (ae 0) (aa (mC (.int 3)) ag))) (mC (.int 0)))) (aZ (br 2 (mFn bz (aa (m2 bV (mC (.int 2)) (mFn aC (aa (ae 0) (aa (mC (.int 3)) ag)))) ag))) (ki (nJ (cOf (m2 oLe (m2 dX (mFn cQ (aa (ae 2) ag)) (mC (.int 2))) (ae 1))) (cOf (m2 oGt (mFn aC (aa (ae 0) (aa (mC (.int 4)) ag))) (mC (.int 0))))) (br 2 (mFn fA (aa (ae 2) (aa (mFn bz (aa (m2 bV (mC (.int 2)) (mFn aC (aa (ae 0) (aa (m2 kT (m2 oDiv (ae 1) (mFn cQ (aa (ae 2) ag))) (mC (.int 1))) ag)))) ag)) ag)))))) cD) (aZ (sIf (cOf (m2 oEq (mFn aC (aa (ae 0) (aa (mC (.int 3)) ag))) (mC (.int 0)))) (br 2 (mFn dS (aa (ae 2) (aa (mFn dR (aa (ae 0) (aa (mFn cQ (aa (ae 2) ag)) ag))) ag)))) cD) (cW (ae 2))))
noncomputable def eG:MF:=run 2 3 nC
noncomputable def nu:MS:=aZ (br 3 (fV (iR2 (aa (mC (.int 1)) (aa (mFn cQ (aa (ae 1) ag)) ag))))) (aZ (br 4 (cf ag)) (aZ (d5 5 (iR1 (aa (mFn nK (aa (mFn cQ (aa (ae 3) ag)) (aa (m2 bV (mC (.int 1)) (mFn aC (aa (ae 0) (aa (ae 2) ag)))) ag))) ag)) (dy (mML cm (ae 4) (aa (mML iR (ae 3) (aa (mFn aC (aa (ae 0) (aa (mFn cQ (aa (ae 3) ag)) ag))) ag)) ag)))) (cW (mFn bS (aa (mFn gY (aa (ae 4) ag)) ag)))))
noncomputable def gE:MF:=run 3 6 nu
noncomputable def oQ:MS:=aZ (d5 1 (iR1 (aa (mFn cQ (aa (ae 0) ag)) ag)) (sIf (km (cOf (mFn pQ (aa (cw (iR1 (aa (ae 1) ag)) cTT (m2 oEq (m2 oIx (m2 oIx (ae 0) (ae 1)) (ae 2)) (m2 oIx (m2 oIx (ae 0) (ae 2)) (ae 1)))) ag)))) (cW (mC (.bl false))) cD)) (cW (mC (.bl true)))
noncomputable def hU:MF:=run 1 2 oQ
noncomputable def ir:MS:=sIf (km (cOf (mFn hU (aa (ae 0) ag)))) sNo cD
noncomputable def dc:MF:=run 1 1 ir
noncomputable def fw:MX:=pY (xIf (km (cOf (mFn hU (aa (ae 0) ag)))) (pY (rg 3) sNo xNo) xNo) (sIf (km (cOf (mFn hU (aa (ae 0) ag)))) sNo cD) xNo
noncomputable def fC:RF:=ql 1 1 fw
noncomputable def jD:MS:=aZ (br 3 (ae 1)) (aZ (br 4 (mC (.int 1))) (aZ (ki (cOf (m2 jZ (ae 3) (ae 2))) (aZ (br 3 (m2 oIx (m2 oIx (ae 0) (ae 3)) (ae 1))) (vu 4 (mC (.int 1))))) (cW (ae 4))))
noncomputable def jA:MF:=run 3 5 jD
noncomputable def tP:MS:=cW (mMT fq (m2 oIx (ae 0) (ae 1)) (aa (mC (.int 0)) ag))
noncomputable def oX:MF:=run 2 2 tP
noncomputable def zX:MS:=cW (mFn bS (aa (cw (uJ (aa (ae 1) ag)) cTT (mFn oX (aa (ae 0) (aa (ae 2) ag)))) ag))
noncomputable def zJ:MF:=run 2 2 zX
noncomputable def pd:MS:=aZ (br 4 (eU (aa (mFn zJ (aa (ae 0) (aa (ae 3) ag))) (aa (ae 3) ag)))) (aZ (br 5 (ae 1)) (aZ (qC (gTp 2 (gK (gN 6) (gK (gN 7) qW))) (nB (aa (ae 2) ag)) (br 5 (m2 bV (m2 bV (ae 5) (eU (aa (ae 7) ag))) (m2 oIx (ae 4) (m2 oMod (ae 6) (mC (.int 2))))))) (cW (ae 5))))
noncomputable def pD:MF:=run 4 8 pd
noncomputable def tH:MS:=aZ (br 2 (cf (aa (mC (.int 0)) ag))) (aZ (d5 3 (iB (ae 1)) (dy (mML cm (ae 2) (aa (m2 oIx (m2 oIx (ae 0) (m2 oIx (ae 2) (m1 lC (mC (.int 1))))) (ae 3)) ag)))) (cW (mFn bS (aa (ae 2) ag))))
noncomputable def gy:MF:=run 2 4 tH
noncomputable def rL:MS:=aZ (dy (mFn dc (aa (ae 0) ag))) (aZ (br 2 (eU ag)) (aZ (d5 3 (iB (ae 1)) (aZ (br 4 (mFn jA (aa (ae 0) (aa (ae 3) (aa (mFn gy (aa (ae 0) (aa (ae 2) ag))) ag))))) (br 2 (mFn pD (aa (ae 0) (aa (ae 2) (aa (m2 dX (eU (aa (ae 3) ag)) (m2 kT (ae 4) (mC (.int 1)))) (aa (ae 2) ag)))))))) (cW (ae 2))))
noncomputable def dY:MF:=run 2 5 rL
noncomputable def sr:MX:=pY (xFn fC (aa (ae 0) ag)) (dy (mFn dc (aa (ae 0) ag))) xNo
noncomputable def jg:RF:=ql 2 5 sr
noncomputable def rP:MS:=aZ (br 2 (m2 oIx (mFn gy (aa (ae 0) (aa (mFn dY (aa (ae 0) (aa (ae 1) ag))) ag))) (m1 lC (mC (.int 1))))) (aZ (sIf (cOf (m2 oEq (ae 2) (mC (.int 0)))) (cW (mC .non)) cD) (aZ (br 3 (mFn oX (aa (ae 0) (aa (ae 2) ag)))) (cW (Cf (cOr (cOf (m2 oIn (ae 3) (ae 1))) (cOf (m2 oIn (ae 2) (ae 1)))) (ae 3) (mC .non)))))
noncomputable def iT:MF:=run 2 4 rP
noncomputable def vv:MX:=pY (AX (ae 0) (xFn jg (aa (ae 0) (aa (ae 1) ag)))) (br 2 (m2 oIx (mFn gy (aa (ae 0) (aa (mFn dY (aa (ae 0) (aa (ae 1) ag))) ag))) (m1 lC (mC (.int 1))))) xNo
noncomputable def mZ:RF:=ql 2 4 vv
noncomputable def DA:MS:=aZ (d5 1 (iR1 (aa (mFn sZ (aa (mC (.int 1)) (aa (mFn nK (aa (mFn cQ (aa (ae 0) ag)) (aa (mC (.int 8)) ag))) ag))) ag)) (aZ (br 2 (mFn iJ (aa (ae 0) (aa (ae 1) ag)))) (d5 3 (iB (cf (aa (mFn eE (aa (ae 2) (aa (mC (.int 24)) ag))) (aa (mFn eG (aa (ae 2) (aa (mC (.int 12)) ag))) (aa (mFn cU (aa (m2 bV (mC (.int 3)) (mFn aC (aa (ae 2) (aa (mC (.int 10)) ag)))) ag)) ag))))) (aZ (br 4 (mFn gE (aa (ae 2) (aa (ae 3) (aa (mC (.int 5)) ag))))) (aZ (br 5 (mFn cQ (aa (ae 3) ag))) (aZ (br 6 (m2 oEq (cw (iR1 (aa (ae 5) ag)) (cOf (m2 oNe (mFn bS (aa (cw (iR1 (aa (ae 5) ag)) cTT (m2 oIx (m2 oIx (ae 3) (ae 9)) (ae 8))) ag)) (m2 oIx (ae 3) (ae 8)))) (ae 8)) (cf ag))) (aZ (br 7 (m2 oIx (cf (aa (cf (aa (mC (.int 3)) ag)) (aa (mC .non) ag))) (mFn vD (aa (ae 6) ag)))) (aZ (sIf (cOf (m2 oNe (hX [3] [3,4] (mFn dY (aa (ae 0) (aa (ae 1) ag))) (xFn jg (aa (ae 0) (aa (ae 1) ag)))) (ae 7))) (cW (mC (.bl false))) cD) (sIf (cOf (m2 oNe (hX [3] [3] (mFn iT (aa (ae 0) (aa (eU ag) ag))) (xFn mZ (aa (ae 0) (aa (eU ag) ag)))) (ae 7))) (cW (mC (.bl false))) cD))))))))) (cW (mC (.bl true)))
noncomputable def Hv:MF:=run 1 8 DA
end
section
open L2 G
section
variable {m:Nat}{T:Nat->Nat->Nat}{S:Sto}
theorem IG {st:List Nat} (g:Grp m T) (hm:m<=30) (pl:Pln m T) (hst:Lt m st) : ∃ S',dY [tab m T,.tup (az st)] S=some (.tup (az (snk m T [] st)),S')/\Ex S S':=Hu g hm pl hst
theorem JS {n most:Nat}{S:Sto} (h:i8 n S) (h6:6<=most) (hm:most < 100) : ∃ m T S',eG [.ref n,.int (most:Nat)] S=some (tab m T,S')/\Grp m T/\Pln m T/\m<=most/\Stp n S S':=HZ h h6 hm
theorem BX {n m most:Nat}{T:Nat->Nat->Nat}{S:Sto} (h:i8 n S) (g:Grp m T) (hm:m < 60) (hmo:0 < most) (hmo2:most < 60) : ∃ w S',gE [.ref n,tab m T,.int (most:Nat)] S=some (.tup (az w),S')/\Stp n S S'/\Lt m w/\w.length<=most/\w.length < 60:=AR h g hm hmo hmo2
theorem JW {w:List Nat} (g:Grp m T) (hw:Lt m w) (hl:w.length < 10000000) : ∃ S',gy [tab m T,.tup (az w)] S=some (.tup (az (plc T w)),S')/\Ex S S':=DI g hw hl
theorem GG (hm:m < 1000) (pl : ¬ Pln m T) : ∃ S',fC [tab m T] S=some (3,S')/\Ex S S':=by
 obtain⟨S1,e1,x1⟩:=Iw (S:=S) hm pl
 refine⟨S1,rR rfl ?_,x1⟩
 show fw [some (tab m T)] S=_
 exact wu ((Je (not_eq (of_eq (fj (f:=hU) (var_eq rfl) e1)))).trans (wu rfl))
theorem DJ {v:U} (hm:m < 1000) (pl : ¬ Pln m T):dY [tab m T,v] S=none /\ ∃ S',jg [tab m T,v] S=some (3,S')/\Ex S S':=by
 have e0:dc [tab m T] S=none:=IT hm pl
 obtain⟨S1,e1,x1⟩:=GG (S:=S) hm pl
 refine⟨vp (show rL [some (tab m T),some v,none,none,none] S=none from AQ ?_),S1,rR rfl (show sr [some (tab m T),some v,none,none,none] S=_ from wu (JQ (var_eq rfl) e1)),x1⟩
 have:=fj (f:=dc) (ρ := [some (tab m T),some v,none,none,none]) (S:=S) (a:=ae 0) (var_eq rfl) e0
 simp only [dy,this,bnd]
theorem JX (g:Grp m T) (hm:m<=30) (pl:Pln m T) : ∃ S',iT [tab m T,.tup []] S=some (.non,S')/\Ex S S':=by
 obtain⟨S1,e1,x1⟩:=IG (S:=S) (st := []) g hm pl (fun x hx=>by simp at hx)
 obtain⟨S2,e2,x2⟩:=JW (S:=S1) (w := []) g (fun x hx=>by simp at hx) (by simp)
 have f1:br 2 (m2 oIx (mFn gy (aa (ae 0) (aa (mFn dY (aa (ae 0) (aa (ae 1) ag))) ag))) (m1 lC (mC (.int 1)))) [some (tab m T),some (.tup []),none,none] S=some (.nx,[some (tab m T),some (.tup []),some (.int (0:Nat)),none],S2):=bP (BF (cJ (f:=gy) (a:=ae 0) (var_eq rfl) (cJ (f:=dY) (a:=ae 0) (b:=ae 1) (var_eq rfl) (var_eq rfl) e1) e2) IL (zz (w := []) trivial))
 have ec:=of_eq (Cc (ρ := [some (tab m T),some (.tup []),some (.int (0:Nat)),none]) (S:=S2) (a:=ae 2) (b:=mC (.int 0)) (x:=0) (y:=0) (var_eq rfl) c_i)
 refine⟨S2,dB (ρ := [some (tab m T),some (.tup []),some (.int (0:Nat)),none]) rfl ?_,x1.trans x2⟩
 show rP [some (tab m T),some (.tup []),none,none] S=_
 exact (bq f1).trans (za ((nM ec).trans (dC rfl)))
theorem HQ {v:U} (hm:m < 1000) (pl : ¬ Pln m T):iT [tab m T,v] S=none /\ ∃ S',mZ [tab m T,v] S=some (3,S')/\Ex S S':=by
 obtain⟨e0,S1,e1,x1⟩:=DJ (S:=S) (v:=v) hm pl
 refine⟨vp (show rP [some (tab m T),some v,none,none] S=none from AQ ?_),S1,rR rfl (show vv [some (tab m T),some v,none,none] S=_ from wu ?_),x1⟩
 ·have z:=cJ (f:=dY) (ρ := [some (tab m T),some v,none,none]) (S:=S) (a:=ae 0) (b:=ae 1) (var_eq rfl) (var_eq rfl) e0
  have w:=zl (f:=gy) (ρ := [some (tab m T),some v,none,none]) (S:=S) (a:=ae 0) (var_eq rfl) z
  simp only [br,m2,w,bnd]
 ·have v0:ae 0 [some (tab m T),some v,none,none] S=some (tab m T,S):=rfl
  simp only [AX,v0,aE]
  exact FT (var_eq rfl) (var_eq rfl) e1
noncomputable def Dl:ME:=m2 oIx (cf (aa (cf (aa (mC (.int 3)) ag)) (aa (mC .non) ag))) (mFn vD (aa (ae 6) ag))
noncomputable def rV:MS:=aZ (sIf (cOf (m2 oNe (hX [3] [3,4] (mFn dY (aa (ae 0) (aa (ae 1) ag))) (xFn jg (aa (ae 0) (aa (ae 1) ag)))) (ae 7))) (cW (mC (.bl false))) cD) (sIf (cOf (m2 oNe (hX [3] [3] (mFn iT (aa (ae 0) (aa (eU ag) ag))) (xFn mZ (aa (ae 0) (aa (eU ag) ag)))) (ae 7))) (cW (mC (.bl false))) cD)
theorem F4 {a b c d:Option U}{st:List Nat}{u6:Option U} (g:Grp m T) (hm:m<=30) (pl:Pln m T) (hst:Lt m st) : ∃ S',rV [a,b,c,some (tab m T),some (.tup (az st)),d,u6,some .non] S=some (.nx,[a,b,c,some (tab m T),some (.tup (az st)),d,u6,some .non],S')/\Ex S S':=by
 obtain⟨S1,e1,x1⟩:=IG (S:=S) g hm pl hst
 have c1:=tR (rz := [3]) (is := [3,4]) (ml:=mFn dY (aa (ae 0) (aa (ae 1) ag))) (rl:=xFn jg (aa (ae 0) (aa (ae 1) ag))) (ρ := [a,b,c,some (tab m T),some (.tup (az st)),d,u6,some .non]) (S:=S) (cs := [tab m T,.tup (az st)]) rfl (cJ (f:=dY) (var_eq rfl) (var_eq rfl) e1)
 obtain⟨S2,e2,x2⟩:=JX (S:=S1++fO fun _=>false) g hm pl
 have c2:=tR (rz := [3]) (is := [3]) (ml:=mFn iT (aa (ae 0) (aa (eU ag) ag))) (rl:=xFn mZ (aa (ae 0) (aa (eU ag) ag))) (ρ := [a,b,c,some (tab m T),some (.tup (az st)),d,u6,some .non]) (S:=S1++fO fun _=>false) (cs := [tab m T]) rfl (cJ (f:=iT) (var_eq rfl) rfl e2)
 exact⟨_,(bq ((kS (of_eq (Az c1 (var_eq rfl)))).trans rfl)).trans ((kS (of_eq (Az c2 (var_eq rfl)))).trans rfl),((x1.trans (xo _ _)).trans x2).trans (xo _ _)⟩
theorem EF {a b c d:Option U}{st:List Nat}{u6:Option U}{r:Nat} (hm:m<=30) (pl : ¬ Pln m T) (hr:S[r]? = some (.lst (az [3]))) : ∃ S',rV [a,b,c,some (tab m T),some (.tup (az st)),d,u6,some (.ref r)] S=some (.nx,[a,b,c,some (tab m T),some (.tup (az st)),d,u6,some (.ref r)],S')/\Ex S S':=by
 obtain⟨e0,S1,e1,x1⟩:=DJ (S:=S) (v := .tup (az st)) (T:=T) (m:=m) (by omega) pl
 have c1:=sQ (rz := [3]) (is := [3,4]) (ml:=mFn dY (aa (ae 0) (aa (ae 1) ag))) (rl:=xFn jg (aa (ae 0) (aa (ae 1) ag))) (ρ := [a,b,c,some (tab m T),some (.tup (az st)),d,u6,some (.ref r)]) (S:=S) (cs := [tab m T,.tup (az st)]) rfl (cJ (f:=dY) (var_eq rfl) (var_eq rfl) e0) (FT (var_eq rfl) (var_eq rfl) e1) (by simp)
 have n1:=wM c1 (b:=ae 7) (k:=r) (x := [3]) (y := [3]) (var_eq rfl) wO ((x1.trans (pe _ _ _)).some hr)
 rw [decide_eq_true rfl] at n1
 have hr2:=(x1.trans (pe S1 (bQ 3) [.lst (az [3])])).some hr
 generalize hS2:S1++(fO (bQ 3) ++ [.lst (az [3])])=S2 at n1 hr2
 have x2:Ex S1 S2:=by rw [<- hS2];exact pe _ _ _
 obtain⟨e3,S3,e4,x3⟩:=HQ (S:=S2) (v := .tup []) (T:=T) (m:=m) (by omega) pl
 have c2:=sQ (rz := [3]) (is := [3]) (ml:=mFn iT (aa (ae 0) (aa (eU ag) ag))) (rl:=xFn mZ (aa (ae 0) (aa (eU ag) ag))) (ρ := [a,b,c,some (tab m T),some (.tup (az st)),d,u6,some (.ref r)]) (S:=S2) (cs := [tab m T]) rfl (cJ (f:=iT) (var_eq rfl) rfl e3) (FT (var_eq rfl) rfl e4) (by simp)
 have n2:=wM c2 (b:=ae 7) (k:=r) (x := [3]) (y := [3]) (var_eq rfl) wO ((x3.trans (pe _ _ _)).some hr2)
 rw [decide_eq_true rfl] at n2
 exact⟨_,(bq ((kS (of_eq n1)).trans rfl)).trans ((kS (of_eq n2)).trans rfl),((x1.trans x2).trans x3).trans (pe _ _ _)⟩
theorem Ei {ρ:Rho}{a:ME}{b:Bool} (ha:a ρ S=some (.bl b,S)):mFn vD (aa a ag) ρ S=some (.int ((if b then 1 else 0:Nat):Nat),S):=by
 refine fj ha ?_
 cases b <;> rfl
theorem zh {ρ:Rho}{b:Bool} (h6:ρ[6]? = some (some (.bl b))):Dl ρ S=some (if b then .non else .ref S.length,S ++ [.lst (az [3])] ++ [.lst [.ref S.length,.non]]):=by
 have f1:cf (aa (mC (.int 3)) ag) ρ S=some (.ref S.length,S ++ [.lst (az [3])]):=by
  simp only [cf,aa,ag,mC,aE]
  rw [if_pos (by simp [big])]
  rfl
 have f2:=xg (ρ:=ρ) (S:=S) (a:=cf (aa (mC (.int 3)) ag)) (b:=mC .non) f1 rfl
 have f3:=Ei (ρ:=ρ) (S:=S ++ [.lst (az [3])] ++ [.lst [.ref S.length,.non]]) (a:=ae 6) (var_eq h6)
 refine (AE (us := [.ref S.length,.non]) f2 f3 (eD _ _) (u:=if b then .non else .ref S.length) (rm ?_))
 cases b <;> rfl
noncomputable def zf:MS:=aZ (br 4 (mFn gE (aa (ae 2) (aa (ae 3) (aa (mC (.int 5)) ag))))) (aZ (br 5 (mFn cQ (aa (ae 3) ag))) (aZ (br 6 lkM) (aZ (br 7 Dl) rV)))
theorem zr {n:Nat}{a b u4 u5 u6 u7:Option U} (h:i8 n S) (g:Grp m T) (hm:m<=30) : ∃ ρ' S',zf [a,b,some (.ref n),some (tab m T),u4,u5,u6,u7] S=some (.nx,ρ',S')/\(∃ x y z w,ρ' = [a,b,some (.ref n),some (tab m T),x,y,z,w])/\Stp n S S':=by
 obtain⟨w,S1,f1,st1,hw,_,_⟩:=BX (most:=5) h g (by omega) (by decide) (by decide)
 have g1:=bP (i:=4) (Dt (f:=gE) (ρ := [a,b,some (.ref n),some (tab m T),u4,u5,u6,u7]) (S:=S) (a:=ae 2) (b:=ae 3) (c:=mC (.int 5)) (var_eq rfl) (var_eq rfl) c_i f1)
 have g2:=bP (i:=5) (len_tab (ρ := [a,b,some (.ref n),some (tab m T),some (.tup (az w)),u5,u6,u7]) (S:=S1) (a:=ae 3) (var_eq rfl))
 obtain⟨S3,bb,f3,x3,hb⟩:=Gz (S:=S1) (m:=m) (T:=T) (ρ := [a,b,some (.ref n),some (tab m T),some (.tup (az w)),some (.int (m:Nat)),u6,u7]) (by omega) rfl rfl rfl
 have f4:=zh (S:=S3) (ρ := [a,b,some (.ref n),some (tab m T),some (.tup (az w)),some (.int (m:Nat)),some (.bl bb),u7]) (b:=bb) rfl
 have st3:=st1.step x3
 have hc:(S3 ++ [Cell.lst (az [3])] ++ [Cell.lst [.ref S3.length,.non]])[S3.length]? = some (.lst (az [3])):=(Ex.push _ _).some (eD _ _)
 have x4:Ex S3 (S3 ++ [Cell.lst (az [3])] ++ [Cell.lst [.ref S3.length,.non]]):=(Ex.push _ _).trans (Ex.push _ _)
 generalize S3 ++ [Cell.lst (az [3])] ++ [Cell.lst [.ref S3.length,.non]]=S4 at f4 hc x4
 have fin : ∃ S5,rV [a,b,some (.ref n),some (tab m T),some (.tup (az w)),some (.int (m:Nat)),some (.bl bb),some (if bb then .non else .ref S3.length)] S4=some (.nx,[a,b,some (.ref n),some (tab m T),some (.tup (az w)),some (.int (m:Nat)),some (.bl bb),some (if bb then .non else .ref S3.length)],S5)/\Ex S4 S5:=by
  cases bb with
  | true=>exact F4 g hm (hb.mp rfl) hw
  | false=>exact EF hm (fun z=>by have:=hb.mpr z;cases this) hc
 obtain⟨S5,f5,x5⟩:=fin
 exact⟨_,S5,(bq g1).trans ((bq g2).trans ((bq (bP f3)).trans ((bq (bP f4)).trans f5))),⟨_,_,_,_,rfl⟩,(st3.step x4).step x5⟩
end
theorem EX {n:Nat}{ρ:Rho}{S:Sto} (h:i8 n S) (h2:ρ[2]? = some (some (.ref n))) : ∃ gs S',cf (aa (mFn eE (aa (ae 2) (aa (mC (.int 24)) ag))) (aa (mFn eG (aa (ae 2) (aa (mC (.int 12)) ag))) (aa (mFn cU (aa (m2 bV (mC (.int 3)) (mFn aC (aa (ae 2) (aa (mC (.int 10)) ag)))) ag)) ag))) ρ S=some (.ref S'.length,S' ++ [.lst gs])/\gs.length=3/\(∀ u∈gs,∃ m T,u=tab m T/\Grp m T/\m<=30)/\Stp n S S':=by
 obtain⟨m1,T1,S1,f1,g1,hm1,st1⟩:=AA (most:=24) h (by decide) (by decide)
 obtain⟨m2,T2,S2,f2,g2,_,hm2,st2⟩:=JS (most:=12) st1.st (by decide) (by decide)
 obtain⟨r,S3,f3,hr,st3⟩:=eV (m:=10) st2.st (by decide) (by decide)
 obtain⟨S4,f4,x4⟩:=oC (n:=3+r) (S:=S3) (by omega) (by omega)
 have fl:=CQ (ρ:=ρ) (S:=S) (cJ (f:=eE) (var_eq h2) c_i f1) (cJ (f:=eG) (var_eq h2) c_i f2) (fj (f:=cU) (add_n (x:=3) (y:=r) c_i (cJ (f:=aC) (var_eq h2) c_i f3)) f4)
 refine⟨_,S4,fl,rfl,fun u hu => ?_,((st1.trans st2).trans st3).step x4⟩
 simp only [aR,q9,_root_.or_false] at hu
 rcases hu with rfl | rfl | rfl
 ·exact⟨m1,T1,rfl,g1,by omega⟩
 ·exact⟨m2,T2,rfl,g2,by omega⟩
 ·exact⟨_,_,rfl,oP (by omega),by omega⟩
theorem Au (ns:List Int) (hl:ns.length<=63) (S:Sto) (h1:S.length=1) (h2:getL S 0=some (ns.map U.int)) : ∃ S',Hv [.ref 0] S=some (.bl true,S'):=by
 obtain⟨q,hq,eq⟩:=AM (ρ := [some (.ref 0),none,none,none,none,none,none,none]) (c:=8) h2 rfl hl
 obtain⟨ρ1,S1,e1,_,_⟩:=kz (i:=1) (a:=mFn sZ (aa (mC (.int 1)) (aa (mFn nK (aa (mFn cQ (aa (ae 0) ag)) (aa (mC (.int 8)) ag))) ag))) (n:=q)
  (b:=aZ (br 2 (mFn iJ (aa (ae 0) (aa (ae 1) ag)))) (d5 3 (iB (cf (aa (mFn eE (aa (ae 2) (aa (mC (.int 24)) ag))) (aa (mFn eG (aa (ae 2) (aa (mC (.int 12)) ag))) (aa (mFn cU (aa (m2 bV (mC (.int 3)) (mFn aC (aa (ae 2) (aa (mC (.int 10)) ag)))) ag)) ag))))) zf))
  (ρ := [some (.ref 0),none,none,none,none,none,none,none]) (S:=S) eq (by unfold big;omega)
  (fun k ρ S'=>(∃ a b c d e f g,ρ = [some (.ref 0),a,b,c,d,e,f,g])/\Scr ns S') ⟨⟨none,none,none,none,none,none,none,rfl⟩,h2⟩
  (by
   rintro k ρ S' hk ⟨⟨u1,u2,u3,u4,u5,u6,u7,rfl⟩,hs⟩
   have h0:=hs.lt
   obtain⟨S2,f2,x2,st2⟩:=Ax (k:=k) hs
   obtain⟨gs,S3,f3,hg,hgs,st3⟩:=EX (ρ := [some (.ref 0),some (.int k),some (.ref S'.length),u3,u4,u5,u6,u7]) st2 rfl
   have hne:S3.length≠S'.length:=by have:=st3.st.lt;omega
   obtain⟨ρ7,S7,f7,⟨v3,v4,v5,v6,v7,rfl⟩,x7,_⟩:=FK (i:=3) (b:=zf) (e:=cf (aa (mFn eE (aa (ae 2) (aa (mC (.int 24)) ag))) (aa (mFn eG (aa (ae 2) (aa (mC (.int 12)) ag))) (aa (mFn cU (aa (m2 bV (mC (.int 3)) (mFn aC (aa (ae 2) (aa (mC (.int 10)) ag)))) ag)) ag)))) (ρ := [some (.ref 0),some (.int k),some (.ref S'.length),u3,u4,u5,u6,u7]) (S:=S2) (us:=gs)
    f3 (by omega)
    (fun j ρ S7=>(∃ a b c d e,ρ = [some (.ref 0),some (.int k),some (.ref S'.length),a,b,c,d,e])/\Stp S'.length (S3 ++ [.lst gs]) S7/\S7[S3.length]? = some (.lst gs)) ⟨⟨_,_,_,_,_,rfl⟩,Stp.refl (st3.step (Ex.push _ _)).st,eD _ _⟩ (fun j ρ S7 hp=>by unfold getL;rw [hp.2.2]) (by
     rintro j u ρ S7 hu ⟨⟨a,b,c,d,e,rfl⟩,x7,c7⟩
     obtain⟨m,T,rfl,g,hm⟩:=hgs u (cj hu)
     obtain⟨ρ8,S8,f8,⟨x,y,z,w,rfl⟩,x8⟩:=zr (S:=S7) (a:=some (.ref 0)) (b:=some (.int k)) (u4:=b) (u5:=c) (u6:=d) (u7:=e) x7.st g hm
     exact⟨_,S8,f8,⟨_,_,_,_,_,rfl⟩,x7.trans x8,x8.some hne c7⟩)
   refine⟨_,S7,(bq (bP (cJ (var_eq rfl) (var_eq rfl) f2))).trans f7,⟨_,_,_,_,_,_,_,rfl⟩,?_⟩
   exact (hs.ex fun c h=>x2.some h).ex fun c h=>((st3.step (Ex.push _ _)).trans x7).some (by omega) h)
 exact⟨S1,dB (ρ:=ρ1) rfl ((bq e1).trans (dC rfl))⟩
end
noncomputable def top (i:Nat):Stmt:=PySem.Challenge.pw_groupwalks_k73_groups_that_are_not_plain.main.body.getD i (.Pass ⟨0,0,0,0⟩)
abbrev fh:Stmt:=top 22
abbrev gn:Stmt:=top 23
abbrev ig:Stmt:=top 24
abbrev gx:Stmt:=top 25
abbrev gF:Stmt:=top 26
abbrev fe:Stmt:=top 28
abbrev hZ:Stmt:=top 27
abbrev gw:Stmt:=top 30
abbrev gG:Stmt:=top 29
abbrev gq:Stmt:=top 31
abbrev gp:Stmt:=top 33
abbrev gv:Stmt:=top 32
abbrev ip:Stmt:=top 11
abbrev cx:Stmt:=top 17
abbrev d6:Stmt:=top 18
abbrev jR:Stmt:=top 10
abbrev oM:Stmt:=top 14
abbrev ik:Stmt:=top 15
abbrev jP:Stmt:=top 13
abbrev jm:Stmt:=top 19
abbrev lJ:Stmt:=top 20
abbrev dI:Stmt:=top 34
abbrev wI:Stmt:=top 35
noncomputable def T0 (cl:Nat->Addr):Tb:=⟨[],[],[],[],false,⟨[],[],cl,"<lambda>"⟩⟩
noncomputable def T1 (cl:Nat->Addr):Tb:=⟨("_law_cell_at",gf)::(T0 cl).D,(T0 cl).C,[],(T0 cl).H,false,(T0 cl).Z⟩
noncomputable def T2 (cl:Nat->Addr):Tb:=⟨("_law_state",iJ)::(T1 cl).D,(T1 cl).C,[],(T1 cl).H,false,(T1 cl).Z⟩
noncomputable def T3 (cl:Nat->Addr):Tb:=⟨("_law_take",aC)::(T2 cl).D,(T2 cl).C,[],(T2 cl).H,false,(T2 cl).Z⟩
noncomputable def T4 (cl:Nat->Addr):Tb:=⟨("_law_clock",bz)::(T3 cl).D,(T3 cl).C,[],(T3 cl).H,false,(T3 cl).Z⟩
noncomputable def T5 (cl:Nat->Addr):Tb:=⟨("_law_flips",cU)::(T4 cl).D,(T4 cl).C,[],(T4 cl).H,false,(T4 cl).Z⟩
noncomputable def T6 (cl:Nat->Addr):Tb:=⟨("_law_quarter",ff)::(T5 cl).D,(T5 cl).C,[],(T5 cl).H,false,(T5 cl).Z⟩
noncomputable def T7 (cl:Nat->Addr):Tb:=⟨("_law_both",fA)::(T6 cl).D,(T6 cl).C,[],(T6 cl).H,false,(T6 cl).Z⟩
noncomputable def T8 (cl:Nat->Addr):Tb:=⟨("_law_named",dS)::(T7 cl).D,(T7 cl).C,[],(T7 cl).H,false,(T7 cl).Z⟩
noncomputable def T9 (cl:Nat->Addr):Tb:=⟨("_law_order",dR)::(T8 cl).D,(T8 cl).C,[],(T8 cl).H,false,(T8 cl).Z⟩
noncomputable def T10 (cl:Nat->Addr):Tb:=⟨("_law_group",eE)::(T9 cl).D,(T9 cl).C,[],(T9 cl).H,false,(T9 cl).Z⟩
noncomputable def T11 (cl:Nat->Addr):Tb:=⟨("_law_plain",eG)::(T10 cl).D,(T10 cl).C,[],(T10 cl).H,false,(T10 cl).Z⟩
noncomputable def T12 (cl:Nat->Addr):Tb:=⟨("_law_steps",gE)::(T11 cl).D,(T11 cl).C,[],(T11 cl).H,false,(T11 cl).Z⟩
noncomputable def T13 (cl:Nat->Addr):Tb:=⟨("is_plain",hU)::(T12 cl).D,(T12 cl).C,[],(T12 cl).H,false,(T12 cl).Z⟩
noncomputable def T14 (cl:Nat->Addr):Tb:=⟨("refuse_not_plain",dc)::(T13 cl).D,(T13 cl).C,[],(T13 cl).H,false,⟨("refuse_not_plain",fC)::(T13 cl).Z.R,(T13 cl).Z.F,(T13 cl).Z.cl,(T13 cl).Z.nm⟩⟩
noncomputable def T15 (cl:Nat->Addr):Tb:=⟨("taken_to_meet",jA)::(T14 cl).D,(T14 cl).C,[],(T14 cl).H,false,(T14 cl).Z⟩
noncomputable def T16 (cl:Nat->Addr):Tb:=⟨("undone",oX)::(T15 cl).D,(T15 cl).C,[],(T15 cl).H,false,(T15 cl).Z⟩
noncomputable def T17 (cl:Nat->Addr):Tb:=⟨("back",zJ)::(T16 cl).D,(T16 cl).C,[],(T16 cl).H,false,(T16 cl).Z⟩
noncomputable def T18 (cl:Nat->Addr):Tb:=⟨("threaded",pD)::(T17 cl).D,(T17 cl).C,[],(T17 cl).H,false,(T17 cl).Z⟩
noncomputable def T19 (cl:Nat->Addr):Tb:=⟨("places",gy)::(T18 cl).D,(T18 cl).C,[],(T18 cl).H,false,(T18 cl).Z⟩
noncomputable def T20 (cl:Nat->Addr):Tb:=⟨("snake",dY)::(T19 cl).D,(T19 cl).C,[],(T19 cl).H,false,⟨("snake",jg)::(T19 cl).Z.R,(T19 cl).Z.F,(T19 cl).Z.cl,(T19 cl).Z.nm⟩⟩
noncomputable def T21 (cl:Nat->Addr):Tb:=⟨("home",iT)::(T20 cl).D,(T20 cl).C,[],(T20 cl).H,false,⟨("home",mZ)::(T20 cl).Z.R,(T20 cl).Z.F,(T20 cl).Z.cl,(T20 cl).Z.nm⟩⟩
noncomputable def T22 (cl:Nat->Addr):Tb:=⟨(T21 cl).D,(T21 cl).C,[],(T21 cl).H,false,⟨(T21 cl).Z.R,("_law_refused",[3])::(T21 cl).Z.F,(T21 cl).Z.cl,(T21 cl).Z.nm⟩⟩
theorem pR : ∀ (cl:Nat->Addr),cB (T0 cl) 80 (["script","k"]:List Str) (aw fh).names (aY fh)=some fi:=by intro cl;kernel_rfl
theorem oJ:bC (["script","k"]:List Str) (["script","k"]:List Str) (aw fh):=⟨rfl,rfl,rfl,by decide +kernel,rfl,by decide +kernel,by decide +kernel⟩
theorem ux : ∀ (cl:Nat->Addr),cB (T1 cl) 80 (["script","k","cell"]:List Str) (aw gn).names (aY gn)=some iH:=by intro cl;kernel_rfl
theorem sd:bC (["script","k","cell"]:List Str) (["script","k"]:List Str) (aw gn):=⟨rfl,rfl,rfl,by decide +kernel,rfl,by decide +kernel,by decide +kernel⟩
theorem vg : ∀ (cl:Nat->Addr),cB (T2 cl) 80 (["state","many","found","mixed"]:List Str) (aw ig).names (aY ig)=some jq:=by intro cl;kernel_rfl
theorem uh:bC (["state","many","found","mixed"]:List Str) (["state","many"]:List Str) (aw ig):=⟨rfl,rfl,rfl,by decide +kernel,rfl,by decide +kernel,by decide +kernel⟩
theorem uj : ∀ (cl:Nat->Addr),cB (T3 cl) 80 (["n"]:List Str) (aw gx).names (aY gx)=some kf:=by intro cl;kernel_rfl
theorem rQ:bC (["n"]:List Str) (["n"]:List Str) (aw gx):=⟨rfl,rfl,rfl,by decide +kernel,rfl,by decide +kernel,by decide +kernel⟩
theorem uu : ∀ (cl:Nat->Addr),cB (T4 cl) 80 (["n","found","i","row","j","turn"]:List Str) (aw gF).names (aY gF)=some kj:=by intro cl;kernel_rfl
theorem rE:bC (["n","found","i","row","j","turn"]:List Str) (["n"]:List Str) (aw gF):=⟨rfl,rfl,rfl,by decide +kernel,rfl,by decide +kernel,by decide +kernel⟩
theorem qf : ∀ (cl:Nat->Addr),cB (T5 cl) 80 (["signs","kinds","found","one","row","other","sign"]:List Str) (aw fe).names (aY fe)=some iQ:=by intro cl;kernel_rfl
theorem ph:bC (["signs","kinds","found","one","row","other","sign"]:List Str) ([]:List Str) (aw fe):=⟨rfl,rfl,rfl,by decide +kernel,rfl,by decide +kernel,by decide +kernel⟩
theorem vZ : ∀ (cl:Nat->Addr),cB (T6 cl) 80 (["one","other","size","found","i","row","j","ahead"]:List Str) (aw hZ).names (aY hZ)=some lD:=by intro cl;kernel_rfl
theorem ug:bC (["one","other","size","found","i","row","j","ahead"]:List Str) (["one","other"]:List Str) (aw hZ):=⟨rfl,rfl,rfl,by decide +kernel,rfl,by decide +kernel,by decide +kernel⟩
theorem ud : ∀ (cl:Nat->Addr),cB (T7 cl) 80 (["group","order"]:List Str) (aw gw).names (aY gw)=some kn:=by intro cl;kernel_rfl
theorem sk:bC (["group","order"]:List Str) (["group","order"]:List Str) (aw gw):=⟨rfl,rfl,rfl,by decide +kernel,rfl,by decide +kernel,by decide +kernel⟩
theorem ua : ∀ (cl:Nat->Addr),cB (T8 cl) 80 (["state","many","left"]:List Str) (aw gG).names (aY gG)=some j5:=by intro cl;kernel_rfl
theorem sg:bC (["state","many","left"]:List Str) (["state","many"]:List Str) (aw gG):=⟨rfl,rfl,rfl,by decide +kernel,rfl,by decide +kernel,by decide +kernel⟩
theorem uM : ∀ (cl:Nat->Addr),cB (T9 cl) 80 (["state","most","way","found","first","one"]:List Str) (aw gq).names (aY gq)=some j8:=by intro cl;kernel_rfl
theorem rN:bC (["state","most","way","found","first","one"]:List Str) (["state","most"]:List Str) (aw gq):=⟨rfl,rfl,rfl,by decide +kernel,rfl,by decide +kernel,by decide +kernel⟩
theorem um : ∀ (cl:Nat->Addr),cB (T10 cl) 80 (["state","most","found"]:List Str) (aw gp).names (aY gp)=some nC:=by intro cl;kernel_rfl
theorem rS:bC (["state","most","found"]:List Str) (["state","most"]:List Str) (aw gp):=⟨rfl,rfl,rfl,by decide +kernel,rfl,by decide +kernel,by decide +kernel⟩
theorem uf : ∀ (cl:Nat->Addr),cB (T11 cl) 80 (["state","group","most","left","found","k"]:List Str) (aw gv).names (aY gv)=some nu:=by intro cl;kernel_rfl
theorem se:bC (["state","group","most","left","found","k"]:List Str) (["state","group","most"]:List Str) (aw gv):=⟨rfl,rfl,rfl,by decide +kernel,rfl,by decide +kernel,by decide +kernel⟩
theorem wc : ∀ (cl:Nat->Addr),cB (T12 cl) 80 (["group","i"]:List Str) (aw ip).names (aY ip)=some oQ:=by intro cl;kernel_rfl
theorem sY:bC (["group","i"]:List Str) (["group"]:List Str) (aw ip):=⟨rfl,rfl,rfl,by decide +kernel,rfl,by decide +kernel,by decide +kernel⟩
theorem lI : ∀ (cl:Nat->Addr),cB (T13 cl) 80 (["group"]:List Str) (aw cx).names (aY cx)=some ir:=by intro cl;kernel_rfl
theorem kR : ∀ (cl:Nat->Addr),(xc 80 80).b ⟨("refuse_not_plain",dc)::(T13 cl).D,(T13 cl).C,(T13 cl).L,(T13 cl).H,(T13 cl).mkr,(T13 cl).Z⟩ ⟨(T13 cl).Z.R,clR [3]⟩ (["group"]:List Str) (aw cx).names (aY cx)=some fw:=by intro cl;kernel_rfl
theorem gU:bC (["group"]:List Str) (["group"]:List Str) (aw cx):=⟨rfl,rfl,rfl,by decide +kernel,rfl,by decide +kernel,by decide +kernel⟩
theorem nH : ∀ (cl:Nat->Addr),cB (T14 cl) 80 (["group","step","come_to","place","taken"]:List Str) (aw d6).names (aY d6)=some jD:=by intro cl;kernel_rfl
theorem ni:bC (["group","step","come_to","place","taken"]:List Str) (["group","step","come_to"]:List Str) (aw d6):=⟨rfl,rfl,rfl,by decide +kernel,rfl,by decide +kernel,by decide +kernel⟩
theorem z3 : ∀ (cl:Nat->Addr),cB (T15 cl) 80 (["group","thing"]:List Str) (aw jR).names (aY jR)=some tP:=by intro cl;kernel_rfl
theorem yi:bC (["group","thing"]:List Str) (["group","thing"]:List Str) (aw jR):=⟨rfl,rfl,rfl,by decide +kernel,rfl,by decide +kernel,by decide +kernel⟩
theorem F8 : ∀ (cl:Nat->Addr),cB (T16 cl) 80 (["group","walk"]:List Str) (aw oM).names (aY oM)=some zX:=by intro cl;kernel_rfl
theorem CN:bC (["group","walk"]:List Str) (["group","walk"]:List Str) (aw oM):=⟨rfl,rfl,rfl,by decide +kernel,rfl,by decide +kernel,by decide +kernel⟩
theorem vV : ∀ (cl:Nat->Addr),cB (T17 cl) 80 (["group","begin","steps","piece","turns","walk","k","step"]:List Str) (aw ik).names (aY ik)=some pd:=by intro cl;kernel_rfl
theorem uI:bC (["group","begin","steps","piece","turns","walk","k","step"]:List Str) (["group","begin","steps","piece"]:List Str) (aw ik):=⟨rfl,rfl,rfl,by decide +kernel,rfl,by decide +kernel,by decide +kernel⟩
theorem zb : ∀ (cl:Nat->Addr),cB (T18 cl) 80 (["group","walk","come_to","thing"]:List Str) (aw jP).names (aY jP)=some tH:=by intro cl;kernel_rfl
theorem yD:bC (["group","walk","come_to","thing"]:List Str) (["group","walk"]:List Str) (aw jP):=⟨rfl,rfl,rfl,by decide +kernel,rfl,by decide +kernel,by decide +kernel⟩
theorem B8 : ∀ (cl:Nat->Addr),cB (T19 cl) 80 (["group","steps","so_far","step","taken"]:List Str) (aw jm).names (aY jm)=some rL:=by intro cl;kernel_rfl
theorem zC : ∀ (cl:Nat->Addr),(xc 80 80).b ⟨("snake",dY)::(T19 cl).D,(T19 cl).C,(T19 cl).L,(T19 cl).H,(T19 cl).mkr,(T19 cl).Z⟩ ⟨(T19 cl).Z.R,clR [3]⟩ (["group","steps","so_far","step","taken"]:List Str) (aw jm).names (aY jm)=some sr:=by intro cl;kernel_rfl
theorem uK:bC (["group","steps","so_far","step","taken"]:List Str) (["group","steps"]:List Str) (aw jm):=⟨rfl,rfl,rfl,by decide +kernel,rfl,by decide +kernel,by decide +kernel⟩
theorem Ep : ∀ (cl:Nat->Addr),cB (T20 cl) 80 (["group","steps","last","thing"]:List Str) (aw lJ).names (aY lJ)=some rP:=by intro cl;kernel_rfl
theorem BQ : ∀ (cl:Nat->Addr),(xc 80 80).b ⟨("home",iT)::(T20 cl).D,(T20 cl).C,(T20 cl).L,(T20 cl).H,(T20 cl).mkr,(T20 cl).Z⟩ ⟨(T20 cl).Z.R,clR [3]⟩ (["group","steps","last","thing"]:List Str) (aw lJ).names (aY lJ)=some vv:=by intro cl;kernel_rfl
theorem wt:bC (["group","steps","last","thing"]:List Str) (["group","steps"]:List Str) (aw lJ):=⟨rfl,rfl,rfl,by decide +kernel,rfl,by decide +kernel,by decide +kernel⟩
noncomputable def lg:Stmt:=(aY dI).getD 6 (.Pass ⟨0,0,0,0⟩)
theorem pU:aY dI=kr 151 lg:=by kernel_rfl
theorem Jz : ∀ (cl:Nat->Addr),cS (T21 cl) 80 nL (aw dI).names lg=some mzR:=by intro cl;kernel_rfl
theorem oz:qV (aw dI).names=true:=by decide +kernel
theorem oR:bC (["call","error","e","kinds"]:List Str) (["call"]:List Str) (aw dI):=⟨rfl,rfl,rfl,by decide +kernel,rfl,by decide +kernel,by decide +kernel⟩
theorem GF : ∀ (cl:Nat->Addr),cB ⟨(T22 cl).D,(T22 cl).C,(T22 cl).L,(T22 cl).H,true,(T22 cl).Z.to "<lambda>"⟩ 80 (["script","k","state","group","steps","many","plain","due"]:List Str) (aw wI).names (aY wI)=some DA:=by intro cl;kernel_rfl
theorem EZ:bC (["script","k","state","group","steps","many","plain","due"]:List Str) (["script"]:List Str) (aw wI):=⟨rfl,rfl,rfl,by decide +kernel,rfl,by decide +kernel,by decide +kernel⟩
theorem chain {P:Program}{w:World}{K:ai}{mg:Str->Option Value}{h:Heap}{p22:Addr}{cl:Nat->Addr} (X:K.In h) (Gn:h.Ns mainGlobals mg) (B : ∀ x∈hJ,bp K mainGlobals x=some none)  {wA:Addr} (Rk:sU K mg cl wA [3]) (hC : ∀ y i,(clR [3]).lookup y=some i->mg y=some (.ref (cl i))/\eC K (cl i) vE "ValueError.__new__"=true) (g22:mainGlobals≠p22) (nd:([p22]:List Addr).Nodup)
  (D0:Def K "_law_cell_at" fh) (D1:Def K "_law_state" gn) (D2:Def K "_law_take" ig) (D3:Def K "_law_clock" gx) (D4:Def K "_law_flips" gF) (D5:Def K "_law_quarter" fe) (D6:Def K "_law_both" hZ) (D7:Def K "_law_named" gw) (D8:Def K "_law_order" gG) (D9:Def K "_law_group" gq) (D10:Def K "_law_plain" gp) (D11:Def K "_law_steps" gv) (D12:Def K "is_plain" ip) (D13:Def K "refuse_not_plain" cx) (D14:Def K "taken_to_meet" d6) (D15:Def K "undone" jR) (D16:Def K "back" oM) (D17:Def K "threaded" ik) (D18:Def K "places" jP) (D19:Def K "snake" jm) (D20:Def K "home" lJ) (D21:Def K "_law_refused" dI):Ch P w K mg [(p22,("law":Str)++".<locals>."++"<lambda>")] (T22 cl) 24:=by
 have C0:Ch P w K mg [(p22,("law":Str)++".<locals>."++"<lambda>")] (T0 cl) 0:=⟨fun _ _ _ _ _=>TOk.nil X Gn B,(fun _ _ _ _ _ _ _ z=>by cases z),(fun _ _ _ _ _ _ _ z=>by cases z)⟩
 have nd:(([(p22,("law":Str)++".<locals>."++"<lambda>")]:List (Addr×Str)).map (·.1)).Nodup:=by simpa using nd
 have C1:Ch P w K mg _ (T1 cl) 1:=C0.dfn C0.o rfl X Gn D0 oJ (fun _ _ _ _ _ _=>us2 fun _ _=>rfl) (pR cl)
 have C2:Ch P w K mg _ (T2 cl) 2:=C1.dfn C1.o rfl X Gn D1 sd (fun _ _ _ _ _ _=>us2 fun _ _=>rfl) (ux cl)
 have C3:Ch P w K mg _ (T3 cl) 3:=C2.dfn C2.o rfl X Gn D2 uh (fun _ _ _ _ _ _=>us2 fun _ _=>rfl) (vg cl)
 have C4:Ch P w K mg _ (T4 cl) 4:=C3.dfn C3.o rfl X Gn D3 rQ (fun _ _ _ _ _ _=>us1 fun _=>rfl) (uj cl)
 have C5:Ch P w K mg _ (T5 cl) 5:=C4.dfn C4.o rfl X Gn D4 rE (fun _ _ _ _ _ _=>us1 fun _=>rfl) (uu cl)
 have C6:Ch P w K mg _ (T6 cl) 6:=C5.dfn C5.o rfl X Gn D5 ph (fun _ _ _ _ _ _=>us0 rfl) (qf cl)
 have C7:Ch P w K mg _ (T7 cl) 7:=C6.dfn C6.o rfl X Gn D6 ug (fun _ _ _ _ _ _=>us2 fun _ _=>rfl) (vZ cl)
 have C8:Ch P w K mg _ (T8 cl) 8:=C7.dfn C7.o rfl X Gn D7 sk (fun _ _ _ _ _ _=>us2 fun _ _=>rfl) (ud cl)
 have C9:Ch P w K mg _ (T9 cl) 9:=C8.dfn C8.o rfl X Gn D8 sg (fun _ _ _ _ _ _=>us2 fun _ _=>rfl) (ua cl)
 have C10:Ch P w K mg _ (T10 cl) 10:=C9.dfn C9.o rfl X Gn D9 rN (fun _ _ _ _ _ _=>us2 fun _ _=>rfl) (uM cl)
 have C11:Ch P w K mg _ (T11 cl) 11:=C10.dfn C10.o rfl X Gn D10 rS (fun _ _ _ _ _ _=>us2 fun _ _=>rfl) (um cl)
 have C12:Ch P w K mg _ (T12 cl) 12:=C11.dfn C11.o rfl X Gn D11 se (fun _ _ _ _ _ _=>us3 fun _ _ _=>rfl) (uf cl)
 have C13:Ch P w K mg _ (T13 cl) 13:=C12.dfn C12.o rfl X Gn D12 sY (fun _ _ _ _ _ _=>us1 fun _=>rfl) (wc cl)
 have A13:=C13.dfn C13.o rfl X Gn D13 gU (fun _ _ _ _ _ _=>us1 fun _=>rfl) (lI cl)
 have C14:Ch P w K mg _ (T14 cl) 15:=A13.raise (clR [3]) rfl hC X Gn D13 gU (fun _ _ _ _ _ _=>us1 fun _=>rfl) (kR cl)
 have C15:Ch P w K mg _ (T15 cl) 16:=C14.dfn C14.o rfl X Gn D14 ni (fun _ _ _ _ _ _=>us3 fun _ _ _=>rfl) (nH cl)
 have C16:Ch P w K mg _ (T16 cl) 17:=C15.dfn C15.o rfl X Gn D15 yi (fun _ _ _ _ _ _=>us2 fun _ _=>rfl) (z3 cl)
 have C17:Ch P w K mg _ (T17 cl) 18:=C16.dfn C16.o rfl X Gn D16 CN (fun _ _ _ _ _ _=>us2 fun _ _=>rfl) (F8 cl)
 have C18:Ch P w K mg _ (T18 cl) 19:=C17.dfn C17.o rfl X Gn D17 uI (fun _ _ _ _ _ _=>us4 fun _ _ _ _=>rfl) (vV cl)
 have C19:Ch P w K mg _ (T19 cl) 20:=C18.dfn C18.o rfl X Gn D18 yD (fun _ _ _ _ _ _=>us2 fun _ _=>rfl) (zb cl)
 have A19:=C19.dfn C19.o rfl X Gn D19 uK (fun _ _ _ _ _ _=>us2 fun _ _=>rfl) (B8 cl)
 have C20:Ch P w K mg _ (T20 cl) 22:=A19.raise (clR [3]) rfl hC X Gn D19 uK (fun _ _ _ _ _ _=>us2 fun _ _=>rfl) (zC cl)
 have A20:=C20.dfn C20.o rfl X Gn D20 wt (fun _ _ _ _ _ _=>us2 fun _ _=>rfl) (Ep cl)
 have C21:Ch P w K mg _ (T21 cl) 24:=A20.raise (clR [3]) rfl hC X Gn D20 wt (fun _ _ _ _ _ _=>us2 fun _ _=>rfl) (BQ cl)
 have C22:Ch P w K mg _ (T22 cl) 24:=C21.refd rfl X Gn D21 oR (fun _ _ _ _ _ _=>us1 fun _=>rfl) oz pU (Jz cl) Rk
 exact C22
theorem all_mk {l:kP}{w:World}{K:ai}{h:Heap}{mg:Str->Option Value}{fa:Addr}{q:Program}{k22 p22:Addr} (X:K.In h) (Gn:h.Ns mainGlobals mg) (hfa:mg "law"=some (.ref fa)) (B : ∀ x∈hJ,bp K mainGlobals x=some none)  {c0 c1 c2 c3 c4 c5 c6 wA:Addr} (nc0:bp K mainGlobals "TooMany"=some (some (.ref c0))) (nc1:bp K mainGlobals "NotLevel"=some (some (.ref c1))) (nc2:bp K mainGlobals "NoLift"=some (some (.ref c2))) (nc3:bp K mainGlobals "NotPlain"=some (some (.ref c3))) (nc4:bp K mainGlobals "NoName"=some (some (.ref c4))) (nc5:bp K mainGlobals "BadNote"=some (some (.ref c5))) (nc6:bp K mainGlobals "NoTwist"=some (some (.ref c6))) (ncw:bp K mainGlobals "WalkError"=some (some (.ref wA))) (rb:Fq K [c0,c1,c2,c3,c4,c5,c6] wA [3]=true) (g22:mainGlobals≠p22) (nd:([p22]:List Addr).Nodup)
  (D0:Def K "_law_cell_at" fh) (D1:Def K "_law_state" gn) (D2:Def K "_law_take" ig) (D3:Def K "_law_clock" gx) (D4:Def K "_law_flips" gF) (D5:Def K "_law_quarter" fe) (D6:Def K "_law_both" hZ) (D7:Def K "_law_named" gw) (D8:Def K "_law_order" gG) (D9:Def K "_law_group" gq) (D10:Def K "_law_plain" gp) (D11:Def K "_law_steps" gv) (D12:Def K "is_plain" ip) (D13:Def K "refuse_not_plain" cx) (D14:Def K "taken_to_meet" d6) (D15:Def K "undone" jR) (D16:Def K "back" oM) (D17:Def K "threaded" ik) (D18:Def K "places" jP) (D19:Def K "snake" jm) (D20:Def K "home" lJ) (D21:Def K "_law_refused" dI) (D22:rY K "law" wI k22 p22) {d22:DefRec} (n22:K.lookup p22=none) (r22:(kQ q).find? (fun e=>e.name == ("law":Str))=some d22) :
  ∃ (tabs:List (Addr×Str)) (fd:FuncData) (sp:Sp),(∀ r∈tabs,K.lookup r.1=none /\ ∃ x d c,(kQ q).find? (fun e=>e.name == x)=some d/\PySem.W.tabIn K x=some (c,r.1))/\(∀ (s:Shared) (v:Value),BindsTo s fd ⟨[v],[]⟩ [("script",v)]) /\
   (∀ base:Heap,K.In base->base.Ns mainGlobals mg->fN mg base->gZ l.prog w K mg base CX0 27 fa fd ["script"] sp) /\ ∀ (H:Hp) (a:Addr) (ns:List Int),ns.length<=63->(∀ r∈tabs,vG H r.1 r.2)->SqL K H a (ns.map V.int)->sp [.ref a] H (fun v _=>v = .bl true) fun _ _ _=>False:=by
 obtain⟨Rk,hC⟩:=Gm (rz := [3]) X Gn nc0 nc1 nc2 nc3 nc4 nc5 nc6 ncw rb
 have CH:=chain (P:=l.prog) (w:=w) X Gn B   Rk hC g22 nd D0 D1 D2 D3 D4 D5 D6 D7 D8 D9 D10 D11 D12 D13 D14 D15 D16 D17 D18 D19 D20 D21
 obtain⟨fd,h1,h2⟩:=Cu (l:=l) (w:=w) (tabs := [(p22,("law":Str)++".<locals>."++"<lambda>")]) X Gn hfa D22 EZ (fun _ _ _ _ _ _=>us1 fun _=>rfl) rfl rfl (by simp) (by simpa using nd) g22 CH (GF _)
 refine⟨[(p22,("law":Str)++".<locals>."++"<lambda>")],fd,_,?_,h1,h2,fun H a ns hl hT hS=>G7 hT hS fun S h1 h2=>Au ns hl S h1 h2⟩
 intro r hr
 simp only [aR,q9,_root_.or_false] at hr
 rcases hr with rfl
 ·exact⟨n22,_,_,_,r22,D22.tab⟩
theorem walk {l:kP}{q:Program}{loose:List Str}{XP:(Str->Option Value)->Heap->Prop}{YP:World->Heap->Prop}{d:DefRec}{K:Params->ai} (hn:l.most=some 63) (hdf:d.params.defaults = [])
  (hY : ∀ (w:World) (h:Heap),YP w h->(K w.params).In h)
  (F : ∀ (w:World) (mg:Str->Option Value) (fa:Addr) (h:Heap),(K w.params).In h->h.Ns mainGlobals mg->mg d.name=some (.ref fa) -> ∃ (tabs:List (Addr×Str)) (fd:FuncData) (sp:Sp),
   (∀ r∈tabs,(K w.params).lookup r.1=none /\ ∃ x d c,(kQ q).find? (fun e=>e.name == x)=some d/\PySem.W.tabIn (K w.params) x=some (c,r.1))/\(∀ (s:Shared) (v:Value),BindsTo s fd ⟨[v],[]⟩ [("script",v)]) /\
   (∀ base:Heap,(K w.params).In base->base.Ns mainGlobals mg->fN mg base->gZ l.prog w (K w.params) mg base CX0 27 fa fd ["script"] sp) /\ ∀ (H:Hp) (a:Addr) (ns:List Int),ns.length<=63->(∀ r∈tabs,vG H r.1 r.2)->SqL (K w.params) H a (ns.map V.int)->sp [.ref a] H (fun v _=>v = .bl true) fun _ _ _=>False) :
  PySem.W.WalkO q loose XP YP l.row.toRowW d [] (fun f vs=>PySem.call f vs):=
 AI (n:=63) (k:=27) (x:="script") hn (by decide) hdf ⟨rfl,by decide,by decide,rfl⟩ hY F
end W
open PySem PySem.W PyProof.Rows
set_option maxRecDepth 100000 in
set_option maxHeartbeats 0 in
theorem PySem.Challenge.cw_groupwalks_k73_groups_that_are_not_plain_holds : PySem.Challenge.rw_groupwalks_k73_groups_that_are_not_plain.Holds := by
 w_on;o_law;k_head;(case hw=>w_witness2)
 k_fill
 refine W.walk (l:=PySem.Challenge.rw_groupwalks_k73_groups_that_are_not_plain) rfl rfl (fun w h Y=>PySem.W.km_in_of Y) ?F
 case F=>
  intro w mg fa h KX Gh hmg
  refine' W.all_mk KX Gh hmg ?B  ?nc0 ?nc1 ?nc2 ?nc3 ?nc4 ?nc5 ?nc6 ?ncw ?rb ?g22 ?nd (G.dE ?a0 ?l0 ?c0 ?k0) (G.dE ?a1 ?l1 ?c1 ?k1) (G.dE ?a2 ?l2 ?c2 ?k2) (G.dE ?a3 ?l3 ?c3 ?k3) (G.dE ?a4 ?l4 ?c4 ?k4) (G.dE ?a5 ?l5 ?c5 ?k5) (G.dE ?a6 ?l6 ?c6 ?k6) (G.dE ?a7 ?l7 ?c7 ?k7) (G.dE ?a8 ?l8 ?c8 ?k8) (G.dE ?a9 ?l9 ?c9 ?k9) (G.dE ?a10 ?l10 ?c10 ?k10) (G.dE ?a11 ?l11 ?c11 ?k11) (G.dE ?a12 ?l12 ?c12 ?k12) (G.dE ?a13 ?l13 ?c13 ?k13) (G.dE ?a14 ?l14 ?c14 ?k14) (G.dE ?a15 ?l15 ?c15 ?k15) (G.dE ?a16 ?l16 ?c16 ?k16) (G.dE ?a17 ?l17 ?c17 ?k17) (G.dE ?a18 ?l18 ?c18 ?k18) (G.dE ?a19 ?l19 ?c19 ?k19) (G.dE ?a20 ?l20 ?c20 ?k20) (G.dE ?a21 ?l21 ?c21 ?k21) (G.Bh ?a22 ?l22 ?c22 ?k22 ?e22 ?u22 ?v22 ?w22 ?x22 ?y22 ?z22 ?t22) ?n22 ?r22
  (case nc0=>k_is)
  (case nc1=>k_is)
  (case nc2=>k_is)
  (case nc3=>k_is)
  (case nc4=>k_is)
  (case nc5=>k_is)
  (case nc6=>k_is)
  (case ncw=>k_is)
  (case rb=>kernel_rfl)
  case B=>
   intro x hx
   simp only [G.hJ,aR,q9,or_false] at hx
   rcases hx with rfl | rfl | rfl | rfl | rfl | rfl | rfl | rfl | rfl | rfl | rfl | rfl | rfl | rfl | rfl | rfl | rfl | rfl | rfl | rfl
   all_goals k_is
  (case a0=>k_is);(case l0=>k_is);(case c0=>k_is);(case k0=>k_is)
  (case a1=>k_is);(case l1=>k_is);(case c1=>k_is);(case k1=>k_is)
  (case a2=>k_is);(case l2=>k_is);(case c2=>k_is);(case k2=>k_is)
  (case a3=>k_is);(case l3=>k_is);(case c3=>k_is);(case k3=>k_is)
  (case a4=>k_is);(case l4=>k_is);(case c4=>k_is);(case k4=>k_is)
  (case a5=>k_is);(case l5=>k_is);(case c5=>k_is);(case k5=>k_is)
  (case a6=>k_is);(case l6=>k_is);(case c6=>k_is);(case k6=>k_is)
  (case a7=>k_is);(case l7=>k_is);(case c7=>k_is);(case k7=>k_is)
  (case a8=>k_is);(case l8=>k_is);(case c8=>k_is);(case k8=>k_is)
  (case a9=>k_is);(case l9=>k_is);(case c9=>k_is);(case k9=>k_is)
  (case a10=>k_is);(case l10=>k_is);(case c10=>k_is);(case k10=>k_is)
  (case a11=>k_is);(case l11=>k_is);(case c11=>k_is);(case k11=>k_is)
  (case a12=>k_is);(case l12=>k_is);(case c12=>k_is);(case k12=>k_is)
  (case a13=>k_is);(case l13=>k_is);(case c13=>k_is);(case k13=>k_is)
  (case a14=>k_is);(case l14=>k_is);(case c14=>k_is);(case k14=>k_is)
  (case a15=>k_is);(case l15=>k_is);(case c15=>k_is);(case k15=>k_is)
  (case a16=>k_is);(case l16=>k_is);(case c16=>k_is);(case k16=>k_is)
  (case a17=>k_is);(case l17=>k_is);(case c17=>k_is);(case k17=>k_is)
  (case a18=>k_is);(case l18=>k_is);(case c18=>k_is);(case k18=>k_is)
  (case a19=>k_is);(case l19=>k_is);(case c19=>k_is);(case k19=>k_is)
  (case a20=>k_is);(case l20=>k_is);(case c20=>k_is);(case k20=>k_is)
  (case a21=>k_is);(case l21=>k_is);(case c21=>k_is);(case k21=>k_is)
  (case a22=>k_is);(case l22=>k_is);(case c22=>k_is);(case k22=>k_is)
  (case e22=>k_is);(case u22=>rfl);(case v22=>rfl);(case w22=>rfl);(case x22=>rfl);(case y22=>rfl);(case z22=>rfl);(case t22=>decide)
  (case g22=>decide)
  (case nd=>decide)
  (case n22=>kernel_rfl);(case r22=>rfl)
