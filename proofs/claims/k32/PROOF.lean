import PyProof.Rows.All
import Wide.All
import OpenK.AllK
import Wide.FinOn
import Lean
import PyProof.EqAt
import PyProof.EqKinds
import PyProof.TupleCall
import PyProof.EnumStmt
import PyProof.EnumMake
import PyProof.EnumFor
import PyProof.ZipIter
import PyProof.SetKind
import PyProof.Rows.SetFrom
import PyProof.CompFree
import PyProof.CompMap
import PyProof.Cells
import PyProof.ListMulRoad
import PyProof.ConsumeWalk
import PyProof.TupleOfGen
import PyProof.ListRange
import PySem.Challenge.RW_groupwalks_k32_ways_and_rounds_looked_at
set_option Elab.async false
set_option linter.all false
set_option maxRecDepth 100000
set_option maxHeartbeats 0
set_option compiler.postponeCompile true
set_option bootstrap.genMatcherCode false
set_option genSizeOfSpec false
set_option relaxedAutoImplicit false
noncomputable section
open Array renaming length_toList→bQ,getElem?_eq_getElem→d4,getElem?_toList→fi,getElem?_eq_none→Ak
open Bool renaming and_eq_true→aw,false_ne_true→bj,false_eq_true→eV,true_and→gy,and_true→iZ,eq_iff_iff→ju,or_eq_true→uB
open Classical renaming propDecidable→bX
open False renaming elim→dm
open ForInStep renaming yield→fU
open Function renaming comp_def→oZ
open Int renaming toNat_natCast→bN,natCast_nonneg→kl,natCast_emod→mq,toNat→mv,toNat_of_nonneg→ph,emod_lt_of_pos→qO,natCast_ediv→uz,emod_nonneg→wL,natCast_add→wM,eq_ofNat_of_zero_le→An
open LT renaming lt→CA
open List renaming getElem?_eq_some_iff→ag,getElem?_append_right→ax,length_map→ay,size_toArray→az,range→aA,replicate→aE,getElem?_set_ne→aH,length_append→aI,mem_cons→aK,getElem?_set_self→aL,mem_cons_of_mem→aO,lookup_cons→aQ,getElem?_append_left→aS,mem_singleton→aW,getElem?_eq_getElem→aX,append_assoc→ba,mem_range→bb,mem_append_right→bh,length_cons→bo,map_cons→bu,all_eq_true→bx,length_range→bz,mem_map→bI,mem_append→bS,length_nil→bT,range'→bU,all_cons→bW,replicate_succ→b3,mem_append_left→b9,length_take→cg,map_congr_left→cm,map_map→cx,map_append→cH,mem_cons_self→cX,find?_cons→du,not_mem_nil→dD,mem_of_getElem?→dG,eq_nil_of_length_eq_zero→dH,length_set→dN,range_succ→dO,length_reverse→dR,getElem_mem→dW,findIdx?_eq_some_iff_getElem→d5,getElem?_eq_none_iff→d7,nodup_cons→eh,nil_append→ei,getElem?_map→ek,flatten_cons→eu,mem_of_mem_take→eA,length_drop→eO,take_of_length_le→eX,append_nil→fe,set_append_right→fm,any_cons→gv,foldl_cons→gE,getElem?_replicate→gK,map_nil→ij,reverse_cons→il,length_replicate→iD,getElem?_eq_none→iF,length_filter_le→iG,drop_length→iJ,nodup_range→iK,take_append_of_le_length→i9,mem_filter→jr,all_nil→jI,pairwise_map→ky,idxOf_lt_length_iff→kC,length_eq_zero_iff→lR,getElem?_cons_zero→lV,foldl→mN,drop_of_length_le→mP,lookup→n9,mem_of_mem_drop→oa,filterMap_cons→oT,getElem_of_mem→oV,reverse_append→oX,flatMap_append→oY,lookup_append→pH,findIdx?_cons→pI,any_eq_false→qP,mem_range'_1→qS,nodup_append→qT,eraseIdxIfInBounds_toArray→rE,mem_reverse→sR,length→uu,of_mem_zip→uA,length_eraseIdx_of_lt→wR,getD_eq_getElem?_getD→wV,perm_ext_iff_of_nodup→wW,nodup_iff_pairwise_ne→wX,drop_eq_getElem_cons→yb,sum_cons→zg,eraseIdx_cons_succ→Ai,getElem?_cons_succ→Al,pairwise_lt_range→Am,length_singleton→Cy,dropLast_eq_take→CB,getElem_toArray→CN
open List.Pairwise renaming nil→i4
open List.Perm renaming append_left→wU,trans→CO
open Nat renaming lt_of_lt_of_le→ai,le_refl→aq,ne_of_lt→aG,lt_of_le_of_lt→aJ,lt_succ_self→aV,le_trans→be,mod_eq_of_lt→bp,ne_of_gt→bL,add_pos_left→b6,lt_succ_of_lt→b7,lt_irrefl→cj,le_of_lt→cK,zero_le→da,le_succ→dc,lt_trans→dq,zero_add→eC,le_of_not_lt→eP,mul_le_mul_right→fP,div_eq_of_lt→fW,mul_comm→iw,le_of_lt_succ→ix,mod_lt→kg,lt_of_le_of_ne→kh,le_succ_of_le→kA,add_mod_right→kB,le_add_right→mn,le_of_eq→nc,add_zero→ng,mod_self→nh,mod_add_mod→ni,mul_le_mul_left→pe,succ_ne_self→ux,sub_self→CC
open Ne renaming symm→cY
open Option renaming bind_some→ah,map_some→aN,isSome_iff_exists→fX,map_eq_some_iff→gU,isSome_map→pG,isSome_some→CK
open Option.some renaming inj→bw,injEq→dZ
open PyProof.Rows renaming callWith_type1→cc,slot_tuple_getitem→ck,boot_tuple→jH,boot_list→jV,callWith_builtin1→n0,boot_sorted→qR,recsOf→wN
open PyProof.Rows.F renaming plain_set_update_loop→ff,entry_set_update_loop→kz
open PyProof.Rows.IsTup renaming new→lA
open PySem renaming wpAny_bind→ae,wpAny_pure→ao,wpAny→aB,wpAny_newObj_type→aU,wpAny_callSpecial?_slot→bG,wpAny_call_entry→bH,mem_of_lookup→bZ,wpAny_setField_rec→cf,codeAny_builtin→cu,wpAny_holding→cM,wpAny_mono→cR,wpAny_field→cW,wpAny_truthy_bool→dw,wpAny_loadPart'→dC,wpAny_of_eq→fj,wpAny_Call_Name_kw→fw,wpAny_typeOf→fA,wpAny_passesOwn→fJ,wpAny_setEntries_of→gL,codeAny_mono→iW,wpAny_setState_of→iX,wpAny_runValue→iY,wpAny_isInstance→jD,wpAny_askSetting→jE,wpAny_attempt→jF,wpAny_pyIter_tuple→lx,wpAny_rule→lB,PyData→mw,wpAny_assign_Name→mM,wpAny_pyIter_enum→mO,wpAny_comprehension_free→m9,codeAny→oJ,wpAny_execs_nil→oU,wpAny_updateSeq→oW,wpAny_seqItems→qM,wpAny_fieldsOf→qN,wpAny_load→uq,wpAny_pyIter_list→wF,wpAny_sequenceKey→wG,codeAny_of_tree→Aj,wpAny_letOwnedTupleGo_enum→Cz,wpAny_binaryOp_repeat_ref→CI
open PySem.Around renaming under_plainId→bJ
open PySem.AutoSeq1 renaming idx_int→pJ
open PySem.Builtin.List renaming listExtendWith→eR,listTooLong→fB,listSameRef→fC,listLengthHint→pf
open PySem.Builtin.Range renaming rangeSize→dy,small→lC
open PySem.Builtin.Slice renaming slicePlaces→b0,sliceAdjust→dS,sliceApplied→eT,sliceFields→pE
open PySem.Builtin.SmallTypes renaming nextOf→eQ,ownedTupleHandOut→jU,ownedTupleIsFree→kf
open PySem.Builtin.Tuple renaming tupleExact→bE,tupleItemsOf→iE,tupleIsExact→pb,tupleTooMany→pd
open PySem.Calls renaming call_function_entry→kj,callWith_builtin→mm,Name_function_global→wD,evalArgs_plain→Cv
open PySem.Data renaming fields→CD,seq→CL
open PySem.F renaming plain_list_iadd→dQ,slot_tuple_iterator_next→fV,plainAttrs_list→gw,slot_enumerate_next→i5,entry_proto_collect→i7,plain_proto_collect→i8,args_tuple_add_2→ke,entry_tuple_add→ku,slot_tuple_add→ly,entry_list_iadd→lT,slot_int_rmul→n8,args_tuple_mul_2→rF,entry_tuple_mul→uy,slot_tuple_mul→wI,slot_tuple_index→wJ,args_tuple_iterator_next_1→ya,entry_tuple_iterator_next→zb,plain_set_new→zc,slot_set_iter→zd,slot_list_pop→ze,type_list_pop→zf,args_enumerate_next_1→CJ
open PySem.Heap renaming get?_push_of_some→ak,get?_push_size→av,lt_size→aC,size_push→bc,get?_update_other→cb,SameBut→cw,get?_update_self→cQ,get?_push_ne→qQ,ExtBut→uw
open PySem.Heap.IsSliceOf renaming new→lP
open PySem.Heap.SameBut renaming update→lQ
open PySem.IsL renaming update→Cw
open PySem.NameKind renaming free→br,cell→de
open PySem.Obj renaming mapSeq→cD
open PySem.Paired renaming length→wO
open PySem.PassesOwn renaming never→CM
open PySem.PyData renaming eqvAll→bV,int→cy,eqv→dM,canLay0→gZ,depthAll→i6,depth→jt,eqv→jG,canLayAll0→ki
open PySem.SeqAt.EqAt renaming int_str→y9,str_int→za
open PySem.SetTable renaming below→aR,grown→fk,has→wQ
open PySem.SetTable.below renaming go→fT
open PySem.SetTable.probe renaming go→wH
open PySem.Shared renaming TypeIs→ko
open PySem.Str renaming ofString→dF
open PySem.Value renaming ref→aT,none→dk,type→jT,int→lu,isInt_shape→qL,str→rC,bool→wC
open PySem.W renaming Frag→ar,kia_one→cP,keepIn→di,fnOf→dA,cellsFrom_some→gJ,nsIn→jb,findIn→jB,codeIn→jC,OpenLaw→lU,methodObj→o9,instObj→rD,lookIn→ur,mg_of→wK,specialIn→CF,kitx_list→CG,kitx_dict→CH
open Sum renaming inl→i3,inr→rB
open True renaming intro→eU
section
namespace L2
open PySem PySem.Spec PyProof.Rows
abbrev Key:=Sum Int Str
noncomputable def p9:Key->Value->Bool
 | .inl k,v=>Value.isInt k v
 | .inr x,v=>Value.isStrOf x v
noncomputable def Lw (w:World):Key->Int
 | .inl k=>hashInt k
 | .inr x=>hashStr w x
theorem dI : ∀ {k:Key}{v:Value},p9 k v=true->(∃ i t,k=i3 i/\v=lu i t)\/(∃ x t,k=rB x/\v=rC x t)
 | .inl i,v,h=>by
   obtain⟨t,e⟩:=qL (k:=i) (v:=v) h
   exact .inl ⟨i,t,rfl,e⟩
 | .inr x,v,h=>by
   obtain⟨t,e⟩:=Value.isStrOf_shape (x:=x) (v:=v) h
   exact .inr ⟨x,t,rfl,e⟩
theorem zq (i:Int) (t:Tok):p9 (.inl i) (.int i t)=true:=by simp [p9,Value.isInt]
theorem Ah (x:Str) (t:Tok):p9 (.inr x) (.str x t)=true:=by simp [p9,Value.isStrOf]
theorem FM (a b:Int):decide ((i3 a:Key)=i3 b)=(a == b):=by
 by_cases e:a=b
 ·subst e;simp
 ·have h : ¬ (i3 a:Key)=i3 b:=fun q=>e (Sum.inl.inj q)
  rw [decide_eq_false h]
  exact (beq_eq_false_iff_ne.mpr e).symm
theorem GB (a b:Str):decide ((rB a:Key)=rB b)=decide (a=b):=by
 by_cases e:a=b
 ·subst e;simp
 ·have h : ¬ (rB a:Key)=rB b:=fun q=>e (Sum.inr.inj q)
  rw [decide_eq_false h,decide_eq_false e]
theorem Gw (a:Int) (b:Str):decide ((i3 a:Key)=rB b)=false:=decide_eq_false (fun q=>nomatch q)
theorem HZ (a:Str) (b:Int):decide ((rB a:Key)=i3 b)=false:=decide_eq_false (fun q=>nomatch q)
noncomputable def dB (prog:Program) (w:World):PySem.KeyKind prog w Key where
 is:=p9
 hash:=Lw w
 inj:=fun v a b ha hb=>by
  rcases dI ha with⟨i,t,rfl,rfl⟩ | ⟨x,t,rfl,rfl⟩
  ·rcases dI hb with⟨j,u,rfl,e⟩ | ⟨y,u,rfl,e⟩
   ·injection e with e1 _;rw [e1]
   ·exact nomatch e
  ·rcases dI hb with⟨j,u,rfl,e⟩ | ⟨y,u,rfl,e⟩
   ·exact nomatch e
   ·injection e with e1 _;rw [e1]
 byValue:=fun k v h=>by
  rcases dI h with⟨i,t,rfl,rfl⟩ | ⟨x,t,rfl,rfl⟩ <;> rfl
 pyHash:=fun hv h=>by
  rcases dI hv with⟨i,t,rfl,rfl⟩ | ⟨x,t,rfl,rfl⟩
  ·exact wpAny_pyHash_int h
  ·exact wpAny_pyHash_str h
 eqBool:=fun hu hv h=>by
  rcases dI hu with⟨i,t,rfl,rfl⟩ | ⟨x,t,rfl,rfl⟩
  ·rcases dI hv with⟨j,u,rfl,rfl⟩ | ⟨y,u,rfl,rfl⟩
   ·rw [FM] at h;exact wpAny_eqBool_int h
   ·rw [Gw] at h;exact y9 i t y u _ _ _ _ h
  ·rcases dI hv with⟨j,u,rfl,rfl⟩ | ⟨y,u,rfl,rfl⟩
   ·rw [HZ] at h;exact za x t j u _ _ _ _ h
   ·rw [GB] at h;exact wpAny_eqBool_str h
 «strs»:=fun k x t v h=>by
  rcases dI h with⟨i,u,rfl,e⟩ | ⟨y,u,rfl,e⟩
  ·exact nomatch e
  ·injection e with e1 _
   subst e1
   cases v <;> rfl
theorem u0 (prog:Program) (w:World) (i:Int) (t:Tok):(dB prog w).is (.inl i) (.int i t)=true:=zq i t
theorem uZ (prog:Program) (w:World) (x:Str) (t:Tok):(dB prog w).is (.inr x) (.str x t)=true:=Ah x t
end L2
namespace L2
open PySem PySem.Spec PyProof.Rows
inductive V where
 | non | bl (b:Bool) | int (i:Int) | str (x:Str) | byt (b:Array UInt8) | flt (b:UInt64) | ref (a:Addr) | ty (n:String)
 deriving DecidableEq
noncomputable def RelV:V->Value->Prop
 | .non,u=>u=dk
 | .bl b,u=>u=wC b
 | .int i,u => ∃ t,u=lu i t
 | .str x,u => ∃ t,u=rC x t
 | .byt b,u => ∃ t,u=Value.bytes b t
 | .flt b,u => ∃ t,u=Value.float b t
 | .ref a,u=>u=aT a
 | .ty n,u=>u=jT n
abbrev bO:List V->List Value->Prop:=Paired RelV
theorem bO.length {xs:List V}{us:List Value} (r:bO xs us):xs.length=us.length:=wO r
theorem bO.get : ∀ {xs:List V}{us:List Value}{i:Nat}{x:V},bO xs us->xs[i]? = some x -> ∃ u,us[i]? = some u/\RelV x u
 | _,_,_,_,.nil,e=>by simp at e
 | _,_,0,_,.cons r _,e=>by simp at e;subst e;exact⟨_,rfl,r⟩
 | _,_,i+1,x,.cons _ t,e=>by
   obtain⟨u,h1,h2⟩:=bO.get (i:=i) (x:=x) t (by simpa using e)
   exact⟨u,by simpa using h1,h2⟩
theorem bO.set {x:V}{u:Value} (r:RelV x u) : ∀ {xs:List V}{us:List Value} (i:Nat),bO xs us->bO (xs.set i x) (us.set i u)
 | _,_,_,.nil => .nil
 | _,_,0,.cons _ t => .cons r t
 | _,_,i+1,.cons q t => .cons q (bO.set r i t)
theorem bO.append : ∀ {xs ys:List V}{us ws:List Value},bO xs us->bO ys ws->bO (xs++ys) (us++ws)
 | _,_,_,_,.nil,s=>s
 | _,_,_,_,.cons r t,s => .cons r (bO.append t s)
theorem bO.take : ∀ {xs:List V}{us:List Value} (n:Nat),bO xs us->bO (xs.take n) (us.take n)
 | _,_,0,_ => .nil
 | _,_,_+1,.nil => .nil
 | _,_,n+1,.cons r t => .cons r (bO.take n t)
theorem bO.drop : ∀ {xs:List V}{us:List Value} (n:Nat),bO xs us->bO (xs.drop n) (us.drop n)
 | _,_,0,r=>r
 | _,_,_+1,.nil => .nil
 | _,_,n+1,.cons _ t=>bO.drop n t
noncomputable def qE:Option V->Option Value->Prop
 | some v,some u=>RelV v u
 | none,none=>True
 | _,_=>False
noncomputable def KV {κ:Type}:List (κ×V)->List (κ×Value)->Prop:=Paired fun (p:κ×V) (q:κ×Value)=>p.1=q.1/\RelV p.2 q.2
noncomputable def kV:Key->V
 | .inl i => .int i
 | .inr x => .str x
inductive HO where
 | lst (xs:List V)
 | tup (xs:List V)
 | dK (kvs:List (Key×V)) | dT (kvs:List (List Key×V))
 | set (S:Int->Bool) (n:Nat)
 | ins (C dx:Addr) (fs:List (Str×V))
 | own (x:Addr)
 | xd (fs:List (Str×V))
 | met (f x:Addr)
 | rng (lo hi:Int)
 | frz (o:Obj) (u:HO)
 | tbl (ps:Array Value)
 | ext (φ:Heap->Prop)
abbrev Hp:=Addr->Option HO
noncomputable def upd (H:Hp) (a:Addr) (o:HO):Hp:=fun b=>if b=a then some o else H b
theorem cJ {H:Hp}{a:Addr}{o:HO}:upd H a o a=some o:=by unfold upd;rw [if_pos rfl]
theorem bP {H:Hp}{a b:Addr}{o:HO} (h:b≠a):upd H a o b=H b:=by unfold upd;rw [if_neg h]
theorem y4 {H:Hp}{a b:Addr}{o u:HO} (h:H a=some o) (h':H b=some u) (d:o≠u):a≠b:=by
 intro e;subst e;rw [h] at h';exact d (bw h')
theorem bD {H:Hp}{a b:Addr}{o:HO} (h:H a=some o) (h':H b=none):a≠b:=by
 intro e;subst e;rw [h] at h';cases h'
section
variable (P:Program) (w:World)
noncomputable def dJ (H:Hp) (h:Heap) (a:Addr):HO->Prop
 | .lst xs=>xs.length<=sizeLine /\ ∃ (its:List Value) (n:Nat),bO xs its/\h.get? a=some { cls := .type "list",data := .seq its.toArray n }
 | .tup xs=>xs.length<=sizeLine /\ ∃ its:List Value,bO xs its/\IsTup h a its.toArray /\ ∃ o,h.get? a=some o/\o.dict=none
 | .dK kvs=>kvs.length<=sizeLine/\(a == sysModules)=false /\ ∃ vs,KV kvs vs/\h.DictOf (dB P w) a vs
 | .dT kvs=>kvs.length<=sizeLine/\(a == sysModules)=false /\ ∃ xs:List (List Key×Addr×Value),
   Paired (fun (p:List Key×V) (q:List Key×Addr×Value)=>p.1=q.1/\H q.2.1=some (.tup (p.1.map kV))/\RelV p.2 q.2.2) kvs xs /\
   ∃ o es ep,h.get? a=some o/\o.ExactDict/\o.data = .dict es ep/\es.toList=xs.map (entryOfKey (tupleKind (dB P w)))/\(xs.map (·.1)).Nodup
 | .set S n=>h.SetOf (intKind P w) a S n
 | .ins C dx fs=>H dx=some (.own a)/\fs.length<=1000/\dx≠a/\h.get? a=some (rD C dx) /\
   ∃ mA,h.Ns1 dx mA/\(∀ f,qE (fs.lookup f) (mA f))/\PySem.Within mA (fs.map (·.1))
 | .own _ => ∃ o,h.get? a=some o
 | .xd fs => ∃ mA,h.Ns1 a mA /\ ∀ f,qE (fs.lookup f) (mA f)
 | .rng lo hi => ∃ t u v,h.get? a=some { cls := .type "range",data := .fields #[.int lo t,.int hi u,.int 1 v] }
 | .frz o u=>h.get? a=some o/\dJ H h a u
 | .tbl ps=>h.get? a=some { cls := .none,data := .fields ps }
 | .met f x=>h.get? a=some (o9 (.ref f) (.ref x))
 | .ext φ=>φ h/\(∃ o,h.get? a=some o) /\ ∀ h1 h2:Heap,φ h1->(∀ o,h1.get? a=some o->h2.get? a=some o)->φ h2
noncomputable def HOk (H:Hp) (h:Heap):Prop := ∀ a o,H a=some o->dJ P w H h a o
end
section
variable {P:Program}{w:World}{H H':Hp}{h h':Heap}{a:Addr}{o:HO}
theorem dJ.lt (x:dJ P w H h a o):a < h.objs.size:=by
 cases o with
 | lst xs=>obtain⟨_,_,_,_,e⟩:=x;exact aC e
 | tup xs=>obtain⟨_,_,_,p⟩:=x;exact p.1.lt
 | dK kvs=>obtain⟨_,_,_,_,o,_,_,e,_⟩:=x;exact aC e
 | dT kvs=>obtain⟨_,_,_,_,o,_,_,e,_⟩:=x;exact aC e
 | set S n=>obtain⟨o,_,_,_,e,_⟩:=x;exact aC e
 | ins C dx fs=>obtain⟨_,_,_,e,_⟩:=x;exact aC e
 | own y=>obtain⟨_,e⟩:=x;exact aC e
 | xd fs=>obtain⟨_,⟨_,_,_,e,_⟩,_⟩:=x;exact aC e
 | rng lo hi=>obtain⟨_,_,_,e⟩:=x;exact aC e
 | frz ob u=>obtain⟨e,_⟩:=x;exact aC e
 | tbl ps=>exact aC (show h.get? a=some _ from x)
 | met f y=>exact aC (show h.get? a=some _ from x)
 | ext φ=>obtain⟨_,⟨_,e⟩,_⟩:=x;exact aC e
theorem Paired.mapP {α β:Type}{F G:α->β->Prop} : ∀ {l₁:List α}{l₂:List β},Paired F l₁ l₂->(∀ a b,F a b->G a b)->Paired G l₁ l₂
 | _,_,.nil,_ => .nil
 | _,_,.cons r t,f => .cons (f _ _ r) (Paired.mapP t f)
theorem dJ.stay (x:dJ P w H h a o) (k : ∀ b u,(b=a\/H b=some (.own a))->h.get? b=some u->h'.get? b=some u)
  (ho : ∀ b,H b=some (.own a)->H' b=some (.own a)) (ht : ∀ b xs,H b=some (.tup xs)->H' b=some (.tup xs)):dJ P w H' h' a o:=by
 induction o with
 | lst xs=>obtain⟨z,its,n,r,e⟩:=x;exact⟨z,its,n,r,k _ _ (.inl rfl) e⟩
 | tup xs=>obtain⟨z,its,r,⟨ob,e,c⟩,o2,e2,c2⟩:=x;exact⟨z,its,r,⟨ob,k _ _ (.inl rfl) e,c⟩,o2,k _ _ (.inl rfl) e2,c2⟩
 | dK kvs=>obtain⟨z,y,vs,r,ob,es,ep,e,c⟩:=x;exact⟨z,y,vs,r,ob,es,ep,k _ _ (.inl rfl) e,c⟩
 | dT kvs=>
   obtain⟨z,y,xs,r,ob,es,ep,e,c⟩:=x
   exact⟨z,y,xs,Paired.mapP r fun p q z=>⟨z.1,ht _ _ z.2.1,z.2.2⟩,ob,es,ep,k _ _ (.inl rfl) e,c⟩
 | set S n=>obtain⟨ob,es,ep,t,e,c⟩:=x;exact⟨ob,es,ep,t,k _ _ (.inl rfl) e,c⟩
 | ins C dx fs=>
   obtain⟨d,z,ne,e,mA,⟨od,es,ep,e2,c⟩,r⟩:=x
   exact⟨ho _ d,z,ne,k _ _ (.inl rfl) e,mA,⟨od,es,ep,k _ _ (.inr d) e2,c⟩,r⟩
 | own y=>obtain⟨ob,e⟩:=x;exact⟨ob,k _ _ (.inl rfl) e⟩
 | xd fs=>obtain⟨mA,⟨od,es,ep,e,c⟩,r⟩:=x;exact⟨mA,⟨od,es,ep,k _ _ (.inl rfl) e,c⟩,r⟩
 | rng lo hi=>obtain⟨t,u,v,e⟩:=x;exact⟨t,u,v,k _ _ (.inl rfl) e⟩
 | frz ob u ih=>obtain⟨e,q⟩:=x;exact⟨k _ _ (.inl rfl) e,ih q⟩
 | tbl ps=>
   have e:h.get? a=some { cls := .none,data := .fields ps }:=x
   show h'.get? a=some { cls := .none,data := .fields ps }
   exact k a _ (.inl rfl) e
 | met f y=>
   have e:h.get? a=some (o9 (.ref f) (.ref y)):=x
   show h'.get? a=some (o9 (.ref f) (.ref y))
   exact k a _ (.inl rfl) e
 | ext φ=>obtain⟨p,⟨o,e⟩,st⟩:=x;exact⟨st _ _ p fun o q=>k _ _ (.inl rfl) q,⟨o,k _ _ (.inl rfl) e⟩,st⟩
theorem HOk.lt (x:HOk P w H h) (e:H a=some o):a < h.objs.size:=(x a o e).lt
theorem HOk.fresh (x:HOk P w H h) (e:h.objs.size<=a):H a=none:=by
 cases q:H a with
 | none=>rfl
 | some u=>exact absurd (ai (x.lt q) e) (cj _)
theorem HOk.kept (x:HOk P w H h) (k : ∀ b u,h.get? b=some u->h'.get? b=some u):HOk P w H h':=fun a o e=>
 (x a o e).stay (fun b u _ q=>k b u q) (fun _ q=>q) fun _ _ q=>q
theorem HOk.laid (x:HOk P w H h) (k : ∀ b u,h.get? b=some u->h'.get? b=some u) (hp:h.objs.size<=a) (new:dJ P w (upd H a o) h' a o):HOk P w (upd H a o) h':=fun b u e=>by
 have hn:=x.fresh hp
 by_cases hb:b=a
 ·subst hb;rw [cJ] at e;cases e;exact new
 ·rw [bP hb] at e
  exact (x b u e).stay (fun c v _ q=>k c v q) (fun c q=>by rw [bP (bD q hn)];exact q) fun c xs q=>by rw [bP (bD q hn)];exact q
end
noncomputable def Rd (H:Hp) (a:Addr) (u:HO):Prop:=H a=some u \/ ∃ o,H a=some (.frz o u)
theorem Rd.ok {P:Program}{w:World}{H:Hp}{h:Heap}{a:Addr}{u:HO} (r:Rd H a u) (x:HOk P w H h):dJ P w H h a u:=by
 rcases r with r | ⟨o,r⟩
 ·exact x a u r
 ·obtain⟨_,q⟩:=x a _ r
  exact q
noncomputable def Mut:Option HO->Prop
 | some (.lst _)=>True
 | some (.dK _)=>True
 | some (.dT _)=>True
 | some (.set _ _)=>True
 | some (.ins _ _ _)=>True
 | some (.ext _)=>True
 | _=>False
section
variable {P:Program}{w:World}{H:Hp}{h h':Heap}{x e:Addr}{o':HO}
theorem HOk.write (ok:HOk P w H h) (mu:Mut (H x)) (he:e=x\/H e=some (.own x)) (k : ∀ b u,b≠e->h.get? b=some u->h'.get? b=some u) (heo : ∃ u,h'.get? e=some u)
  (new:dJ P w (upd H x o') h' x o'):HOk P w (upd H x o') h':=fun b u q=>by
 have nown : ∀ c y,H c=some (.own y)->c≠x:=fun c y r z=>by subst z;rw [r] at mu;exact mu
 have ntup : ∀ c xs,H c=some (.tup xs)->c≠x:=fun c xs r z=>by subst z;rw [r] at mu;exact mu
 by_cases hb:b=x
 ·subst hb;rw [cJ] at q;cases q;exact new
 ·rw [bP hb] at q
  by_cases hbe:b=e
  ·have q':H b=some (.own x):=by
    rcases he with z | z
    ·exact absurd (hbe.trans z) hb
    ·rw [hbe];exact z
   rw [q] at q';cases q'
   obtain⟨v,hv⟩:=heo
   exact⟨v,by rw [hbe];exact hv⟩
  ·refine (ok b u q).stay (fun c v hc r=>k c v ?_ r) (fun c r=>by rw [bP (nown c b r)];exact r) fun c xs r=>by rw [bP (ntup c xs r)];exact r
   rcases hc with rfl | hc
   ·exact hbe
   ·rintro rfl
    rcases he with z | z
    ·exact nown c b hc z
    ·rw [hc] at z;cases z;exact hb rfl
end
structure Un (fs ex:List Addr) (H H':Hp) (h h':Heap):Prop where
 keep : ∀ b o,h.get? b=some o->H b=none->b∉fs->b∉ex->h'.get? b=some o
 slot : ∀ b o,h.get? b=some o->H b=none->b∈fs->b∉ex -> ∃ sl,h'.get? b=some { o with slots:=sl }
 free : ∀ b o,h.get? b=some o->H b=none->b∉ex->H' b=none
 there : ∀ b o,h.get? b=some o->b∉ex -> ∃ o',h'.get? b=some o'
 tups : ∀ b xs,H b=some (.tup xs)->H' b=some (.tup xs)
 frzs : ∀ b o u,H b=some (.frz o u)->H' b=some (.frz o u)
 tbls : ∀ b ps,H b=some (.tbl ps) -> ∃ more,H' b=some (.tbl (ps++more))
section
variable {fs fs' ex ex':List Addr}{H H1 H2:Hp}{h h1 h2 h':Heap}{a x e:Addr}{o:HO}
theorem Un.any (u:Un fs ex H H1 h h1) {b:Addr}{ob:Obj} (q:h.get? b=some ob) (n:H b=none) (hx:b∉ex) : ∃ sl,h1.get? b=some { ob with slots:=sl }:=by
 by_cases hb:b∈fs
 ·exact u.slot b ob q n hb hx
 ·exact⟨ob.slots,u.keep b ob q n hb hx⟩
theorem Un.kept (k : ∀ b u,h.get? b=some u->h'.get? b=some u):Un fs ex H H h h':=
 ⟨fun b ob q _ _ _=>k b ob q,fun b ob q _ _ _=>⟨ob.slots,k b ob q⟩,fun _ _ _ n _=>n,fun b ob q _=>⟨ob,k b ob q⟩,fun _ _ q=>q,fun _ _ _ q=>q,fun _ ps q=>⟨#[],by rw [q];simp⟩⟩
theorem Un.refl:Un fs ex H H h h:=Un.kept fun _ _ q=>q
theorem Un.laid (k : ∀ b u,h.get? b=some u->h'.get? b=some u) (hp:h.objs.size<=a) (hn:H a=none):Un fs ex H (upd H a o) h h' where
 keep:=fun b u q _ _ _=>k b u q
 slot:=fun b u q _ _ _=>⟨u.slots,k b u q⟩
 free:=fun b u q n _=>by rw [bP (aG (ai (aC q) hp))];exact n
 there:=fun b u q _=>⟨u,k b u q⟩
 tups:=fun b xs q=>by rw [bP (bD q hn)];exact q
 frzs:=fun b u xs q=>by rw [bP (bD q hn)];exact q
 tbls:=fun b ps q=>⟨#[],by rw [bP (bD q hn),q];simp⟩
theorem Un.write (mu:Mut (H x)) (he:e=x\/H e=some (.own x)) (k : ∀ b u,b≠e->h.get? b=some u->h'.get? b=some u) (heo : ∃ u,h'.get? e=some u):Un fs ex H (upd H x o) h h':=by
 have hx : ∀ b,H b=none->b≠x:=fun b n z=>by subst z;rw [n] at mu;exact mu
 have hb : ∀ b,H b=none->b≠e:=fun b n z=>by
  subst z
  rcases he with r | r
  ·exact hx b n r
  ·rw [n] at r;cases r
 have hm : ∀ b u,H b=some u -> ¬ Mut (some u)->b≠x:=fun b u q nm z=>by subst z;rw [q] at mu;exact nm mu
 refine⟨fun b u q n _ _=>k b u (hb b n) q,fun b u q n _ _=>⟨u.slots,k b u (hb b n) q⟩,fun b u q n _=>by rw [bP (hx b n)];exact n,fun b u q _ => ?_,
  fun b xs q=>by rw [bP (hm b _ q fun z=>z)];exact q,fun b u xs q=>by rw [bP (hm b _ q fun z=>z)];exact q,fun b ps q=>⟨#[],by rw [bP (hm b _ q fun z=>z),q];simp⟩⟩
 by_cases hbe:b=e
 ·subst hbe;exact heo
 ·exact⟨u,k b u hbe q⟩
end
noncomputable def trk (h:Heap) (H:Hp):List Addr:=(aA h.objs.size).filter fun a=>(H a).isSome
noncomputable def tm (h:Heap) (H:Hp):Heap:=PySem.W.hideAll h (trk h H)
theorem z6 (h:Heap) (H:Hp):(tm h H).objs.size=h.objs.size:=PySem.W.hideAll_size _ _
theorem qB {h:Heap}{H:Hp}{b:Addr}{o:Obj} (e:h.get? b=some o) (n:H b=none):(tm h H).get? b=some o:=
 PySem.W.hideAll_get _ e fun hm=>by
  have q:(H b).isSome=true:=(jr.mp hm).2
  rw [n] at q;simp at q
theorem Da {h:Heap}{H:Hp}{b:Addr}{o:Obj} (e:(tm h H).get? b=some o):h.get? b=some o/\H b=none:=by
 have e':h.get? b=some o:=PySem.W.of_hideAll (trk h H) e
 refine⟨e',?_⟩
 cases q:H b with
 | none=>rfl
 | some x=>
   have hm:b∈trk h H:=jr.mpr ⟨bb.mpr (aC e'),by simp [q]⟩
   have z:(tm h H).get? b=none:=PySem.W.hideAll_none (trk h H) hm
   rw [z] at e;cases e
end L2
namespace L2
open PySem PySem.Spec PyProof.Rows
structure Mod (K:ar) (mg:Str->Option Value) (base:Heap):Prop where
 kin:K.In base
 glob:base.Ns mainGlobals mg
 blt : ∃ mb,base.Ns builtinsNs mb /\ ∀ x:Str,x≠"__name__"->mb x=bootBuiltins x
 nolimit:base.NoLimit
structure Cx where
 prog:Program
 w:World
 K:ar
 mg:Str->Option Value
 base:Heap
 A:Around
 N:List Str
 s₀:Shared
 H₀:Hp
 env:Env
 outer:List Env
 stack:List Env
 ex:List Addr
 fn:Str->Bool
 calm:Bool
 pn:List (Addr×Obj)
 xe:Value->Shared->Prop
noncomputable def frs (l:List Env):List Addr:=l.filterMap (·.frame)
abbrev Cx.fs (X:Cx):List Addr:=frs X.outer
noncomputable def Vis (sc:Scope) (x:Str):Prop:=sc.names.lookup x=some .local\/sc.names.lookup x=some .cell\/sc.names.lookup x=some .free
noncomputable def Loc (sc:Scope) (x:Str):Prop:=sc.names.lookup x=some .local\/sc.names.lookup x=some .cell
noncomputable def Look (env:Env) (h:Heap) (m:Str->Option Value) (x:Str) (u:Value):Prop:=
 (env.kindOf x=some .local/\m x=some u)\/((env.kindOf x=some .cell\/env.kindOf x=some .free) /\ ∃ c,env.cells.lookup x=some c/\h.IsCell c (some u))
structure Cx.Ok (X:Cx):Prop where
 mod:Mod X.K X.mg X.base
 kind:X.env.scope.kind = .function
 glob:X.env.globals=mainGlobals
 blt:X.env.builtins=builtinsNs
 above:X.s₀.heap.objs.size<=X.env.locals
 inj : ∀ x y c,X.env.cells.lookup x=some c->X.env.cells.lookup y=some c->x=y
 has : ∀ x,(X.env.kindOf x=some .cell\/X.env.kindOf x=some .free) -> ∃ c,X.env.cells.lookup x=some c
 cab : ∀ x c,X.fn x=true->X.env.cells.lookup x=some c->X.s₀.heap.objs.size<=c
 hd:X.calm=true->X.A.handled=none
 frames:X.A.frames=some X.stack
 stk:X.stack=X.outer\/(X.stack=X.env::X.outer/\X.env.frame=some X.env.locals)
 exf : ∀ b∈X.ex,b≠X.env.locals /\ ∀ x c,X.env.cells.lookup x=some c->c≠b
 bs : ∀ b o,X.base.get? b=some o->X.s₀.heap.get? b=some o/\X.H₀ b=none
 bsz:X.base.objs.size<=X.s₀.heap.objs.size
 noex : ∀ b o,X.base.get? b=some o->b∉X.ex
 exfs : ∀ b∈X.ex,b∉X.fs
 funs:X.s₀.heap.FunFrames X.base X.outer
 frf : ∀ b∈X.fs,X.H₀ b=none
structure Inv (X:Cx) (pins:List (Addr×Obj)) (σ:List (Option V)) (H:Hp) (s:Shared):Prop where
 ok:X.Ok
 os:s.os=X.s₀.os
 bare:AllBare s.gens
 base:Un X.fs X.ex X.H₀ H X.s₀.heap s.heap
 loc : ∃ m,s.heap.Ns X.env.locals m /\ ∀ (i:Nat) (x:Str) (v:V),X.N[i]? = some x->σ[i]? = some (some v)->Vis X.env.scope x -> ∃ u,RelV v u/\Look X.env s.heap m x u
 cell : ∀ x c,X.env.cells.lookup x=some c -> ∃ v,s.heap.IsCell c v
 free:H X.env.locals=none
 freeC : ∀ x c,X.env.cells.lookup x=some c->H c=none
 pin : ∀ p∈X.pn++pins,s.heap.get? p.1=some p.2/\H p.1=none/\p.1≠X.env.locals/\p.1∉X.fs /\ ∀ v,p.2.data ≠ .cell v
 hok:HOk X.prog X.w H s.heap
 len:σ.length=X.N.length
section
variable {X:Cx}{pins:List (Addr×Obj)}{σ:List (Option V)}{H H':Hp}{s:Shared}{h':Heap}
theorem Cx.Ok.nofr (ok:X.Ok) {b:Addr}{o:Obj} (e:X.base.get? b=some o):b∉X.fs:=fun hb=>by
 have:=(ok.funs.mem hb).1
 rw [e] at this;cases this
theorem Inv.bs (I:Inv X pins σ H s) : ∀ b o,X.base.get? b=some o->s.heap.get? b=some o/\H b=none:=fun b o e=>
 ⟨I.base.keep b o (I.ok.bs b o e).1 (I.ok.bs b o e).2 (I.ok.nofr e) (I.ok.noex b o e),I.base.free b o (I.ok.bs b o e).1 (I.ok.bs b o e).2 (I.ok.noex b o e)⟩
theorem Inv.bk (I:Inv X pins σ H s) : ∀ b o,X.base.get? b=some o->s.heap.get? b=some o:=fun b o e=>(I.bs b o e).1
theorem Inv.mod (I:Inv X pins σ H s):Mod X.K X.mg X.base:=I.ok.mod
theorem Inv.kIn (I:Inv X pins σ H s):X.K.In s.heap:=I.ok.mod.kin.keeps I.bk
theorem Inv.lt (I:Inv X pins σ H s):X.env.locals < s.heap.objs.size:=let ⟨_,hn,_⟩:=I.loc;hn.lt
theorem Inv.sz (I:Inv X pins σ H s):X.s₀.heap.objs.size<=s.heap.objs.size:=be I.ok.above (cK I.lt)
theorem Inv.nofs (I:Inv X pins σ H s) {a:Addr} (h:s.heap.objs.size<=a):a∉X.fs:=fun hb=>by
 obtain⟨_,o,ho,_⟩:=I.ok.funs.mem hb
 exact absurd (ai (aC ho) (be I.sz h)) (cj _)
theorem Inv.cne (I:Inv X pins σ H s) : ∀ x c,X.env.cells.lookup x=some c->c≠X.env.locals:=fun x c e z=>by
 obtain⟨v,o,ho,hd⟩:=I.cell x c e
 obtain⟨m,⟨o',es,ep,ho',hd',_⟩,_⟩:=I.loc
 rw [z,ho'] at ho;cases ho;rw [hd'] at hd;cases hd
theorem Inv.funs (I:Inv X pins σ H s):s.heap.FunFrames X.base X.outer:=by
 have all : ∀ (l:List Env),(∀ b∈frs l,b∈X.fs)->X.s₀.heap.FunFrames X.base l->s.heap.FunFrames X.base l:=by
  intro l
  induction l with
  | nil=>intro _ _;trivial
  | cons env r ih=>
    intro hs hl
    obtain⟨hk,⟨L,o,hf,hn,ho,hd⟩,hr⟩:=hl
    have hL:L∈X.fs:=hs L (by unfold frs;rw [oT,hf];exact cX)
    obtain⟨sl,e⟩:=I.base.slot L o ho (I.ok.frf L hL) hL fun z=>I.ok.exfs L z hL
    exact⟨hk,⟨L,_,hf,hn,e,hd⟩,ih (fun b hb=>hs b (by unfold frs;rw [oT,hf];exact aO _ hb)) hr⟩
 exact all X.outer (fun _ hb=>hb) I.ok.funs
theorem Inv.stack (I:Inv X pins σ H s):s.heap.FunFrames X.base X.stack:=by
 rcases I.ok.stk with e | ⟨e,hf⟩
 ·rw [e];exact I.funs
 ·rw [e]
  obtain⟨m,hn,_⟩:=I.loc
  refine .cons (by rw [I.ok.kind];decide) hf hn ?_ I.funs
  exact Heap.get?_none_of_le (be I.ok.bsz I.ok.above)
theorem Inv.stkSub (I:Inv X pins σ H s) : ∀ b∈frs X.stack,b∈X.env.locals::X.fs:=fun b hb=>by
 rcases I.ok.stk with e | ⟨e,hf⟩
 ·rw [e] at hb;exact aO _ hb
 ·rw [e] at hb
  unfold frs at hb
  rw [oT,hf] at hb
  exact hb
theorem Inv.stkFree (I:Inv X pins σ H s) : ∀ b∈frs X.stack,H b=none:=fun b hb=>by
 rcases aK.mp (I.stkSub b hb) with e | hb
 ·rw [e];exact I.free
 ·obtain⟨_,o,ho,_⟩:=I.ok.funs.mem hb
  exact I.base.free b o ho (I.ok.frf b hb) fun z=>I.ok.exfs b z hb
theorem Inv.step {g':Array GenState}{t':Nat}{d':Drawn}{ch:List Addr} (I:Inv X pins σ H s)
  (hch : ∀ b∈ch,(b∈X.ex\/X.s₀.heap.objs.size<=b)/\b≠X.env.locals/\(∀ x c,X.env.cells.lookup x=some c->c≠b) /\ ∀ p∈X.pn++pins,p.1≠b)
  (keep : ∀ b o,b≠X.env.locals->b∉X.fs->b∉ch->s.heap.get? b=some o->H b=none->h'.get? b=some o)
  (slot : ∀ b o,b≠X.env.locals->b∈X.fs->b∉ch->s.heap.get? b=some o->H b=none -> ∃ sl,h'.get? b=some { o with slots:=sl }) (free : ∀ b o,b∉ch->s.heap.get? b=some o->H b=none->H' b=none)
  (there : ∀ b o,b∉ch->s.heap.get? b=some o -> ∃ o',h'.get? b=some o')
  (tups : ∀ b xs,H b=some (.tup xs)->H' b=some (.tup xs)) (frzs : ∀ b o u,H b=some (.frz o u)->H' b=some (.frz o u)) (tbls : ∀ b ps,H b=some (.tbl ps) -> ∃ more,H' b=some (.tbl (ps++more)))
  (ns : ∀ m,s.heap.Ns X.env.locals m->h'.Ns X.env.locals m) (hok:HOk X.prog X.w H' h') (hg:AllBare g') :
  Inv X pins σ H' { s with heap:=h',gens:=g',drawn:=d',toks:=t' }:=by
 have neL : ∀ b o,X.s₀.heap.get? b=some o->b≠X.env.locals:=fun b o e=>aG (ai (aC e) I.ok.above)
 have neC : ∀ b o,X.s₀.heap.get? b=some o->b∉X.ex->b∉ch:=fun b o e hx hb=>by
  rcases (hch b hb).1 with z | z
  ·exact hx z
  ·exact absurd (ai (aC e) z) (cj _)
 have cellK : ∀ x c,X.env.cells.lookup x=some c -> ∀ v,s.heap.IsCell c v->h'.IsCell c v:=fun x c e v ⟨o,ho,hd⟩=>by
  have nch:c∉ch:=fun z=>(hch c z).2.2.1 x c e rfl
  by_cases hc:c∈X.fs
  ·obtain⟨sl,q⟩:=slot c o (I.cne x c e) hc nch ho (I.freeC x c e)
   exact⟨_,q,hd⟩
  ·exact⟨o,keep c o (I.cne x c e) hc nch ho (I.freeC x c e),hd⟩
 refine⟨I.ok,I.os,hg,⟨fun b o e n hb hx => ?_,fun b o e n hb hx => ?_,fun b o e n hx => ?_,fun b o e hx => ?_,fun b xs e=>tups b xs (I.base.tups b xs e),fun b o xs e=>frzs b o xs (I.base.frzs b o xs e),fun b ps e => ?_⟩,?_,fun x c e => ?_,?_,fun x c e => ?_,fun p hp => ?_,hok,I.len⟩
 ·exact keep b o (neL b o e) hb (neC b o e hx) (I.base.keep b o e n hb hx) (I.base.free b o e n hx)
 ·obtain⟨sl,e1⟩:=I.base.slot b o e n hb hx
  obtain⟨sl',e2⟩:=slot b _ (neL b o e) hb (neC b o e hx) e1 (I.base.free b o e n hx)
  exact⟨sl',e2⟩
 ·obtain⟨o',e1⟩:=I.base.there b o e hx
  exact free b o' (neC b o e hx) e1 (I.base.free b o e n hx)
 ·obtain⟨o',e1⟩:=I.base.there b o e hx
  exact there b o' (neC b o e hx) e1
 ·obtain⟨m1,e1⟩:=I.base.tbls b ps e
  obtain⟨m2,e2⟩:=tbls b _ e1
  exact⟨m1++m2,by rw [e2,Array.append_assoc]⟩
 ·obtain⟨m,hn,hl⟩:=I.loc
  refine⟨m,ns m hn,fun i x v e1 e2 e3 => ?_⟩
  obtain⟨u,r,l⟩:=hl i x v e1 e2 e3
  refine⟨u,r,?_⟩
  rcases l with l | ⟨k,c,e,z⟩
  ·exact .inl l
  ·exact .inr ⟨k,c,e,cellK x c e _ z⟩
 ·obtain⟨v,z⟩:=I.cell x c e
  exact⟨v,cellK x c e v z⟩
 ·obtain⟨m,⟨o,_,_,ho,_⟩,_⟩:=I.loc
  exact free _ o (fun z=>(hch _ z).2.1 rfl) ho I.free
 ·obtain⟨v,o,ho,hd⟩:=I.cell x c e
  exact free c o (fun z=>(hch c z).2.2.1 x c e rfl) ho (I.freeC x c e)
 ·obtain⟨e,n,ne,nf,d⟩:=I.pin p hp
  have nch:p.1∉ch:=fun z=>(hch p.1 z).2.2.2 p hp rfl
  exact⟨keep p.1 p.2 ne nf nch e n,free p.1 p.2 nch e n,ne,nf,d⟩
theorem Inv.un {t':Nat} (I:Inv X pins σ H s) (u:Un X.fs [] H H' s.heap h') (hok:HOk X.prog X.w H' h'):Inv X pins σ H' { s with heap:=h',toks:=t' }:=by
 obtain⟨m,⟨o,es,ep,ho,r⟩,_⟩:=id I.loc
 obtain⟨sl,hL⟩:=u.any ho I.free (by simp)
 exact I.step (g':=s.gens) (d':=s.drawn) (ch := []) (fun _ z=>nomatch z) (fun b o _ hb _ e n=>u.keep b o e n hb (by simp)) (fun b o _ hb _ e n=>u.slot b o e n hb (by simp)) (fun b o _ e n=>u.free b o e n (by simp)) (fun b o _ e=>u.there b o e (by simp)) u.tups u.frzs u.tbls (fun m' hm=>by
  obtain⟨o',es',ep',ho',r'⟩:=hm
  rw [ho] at ho';cases ho'
  exact⟨_,es',ep',hL,r'⟩) hok I.bare
theorem Inv.call {g':Array GenState}{t':Nat}{d':Drawn}{ch:List Addr} (I:Inv X pins σ H s) (u:Un (frs X.stack) ch H H' s.heap h') (hok:HOk X.prog X.w H' h') (hg:AllBare g')
  (hch : ∀ b∈ch,(b∈X.ex\/X.s₀.heap.objs.size<=b)/\b≠X.env.locals/\(∀ x c,X.env.cells.lookup x=some c->c≠b) /\ ∀ p∈X.pn++pins,p.1≠b) :
  Inv X pins σ H' { s with heap:=h',gens:=g',drawn:=d',toks:=t' }:=by
 obtain⟨m,⟨o,es,ep,ho,r⟩,_⟩:=id I.loc
 obtain⟨sl,hL⟩:=u.any ho I.free fun z=>(hch _ z).2.1 rfl
 exact I.step (ch:=ch) hch (fun b o hL hb hc e n=>u.keep b o e n (fun z=>(aK.mp (I.stkSub b z)).elim hL hb) hc) (fun b o _ _ hc e n=>u.any e n hc) (fun b o hc e n=>u.free b o e n hc) (fun b o hc e=>u.there b o e hc) u.tups u.frzs u.tbls (fun m' hm=>by
  obtain⟨o',es',ep',ho',r'⟩:=hm
  rw [ho] at ho';cases ho'
  exact⟨_,es',ep',hL,r'⟩) hok hg
theorem Inv.turned {t':Nat}{it:Addr} (I:Inv X pins σ H s) (k : ∀ b o,b≠it->s.heap.get? b=some o->h'.get? b=some o) (hn:H it=none) (hL:it≠X.env.locals)
  (h1:it∈X.ex\/X.s₀.heap.objs.size<=it) (h2 : ∀ x c,X.env.cells.lookup x=some c->c≠it) (h3 : ∀ p∈X.pn++pins,p.1≠it):Inv X pins σ H { s with heap:=h',toks:=t' }:=by
 have nit : ∀ b u,H b=some u->b≠it:=fun b u e z=>by rw [z,hn] at e;cases e
 refine I.step (g':=s.gens) (d':=s.drawn) (ch := [it]) (fun b hb => ?_) (fun b o _ _ hc e _=>k b o (fun z=>hc (by simp [z])) e) (fun b o _ _ hc e _=>⟨o.slots,k b o (fun z=>hc (by simp [z])) e⟩) (fun _ _ _ _ n=>n)
  (fun b o hc e=>⟨o,k b o (fun z=>hc (by simp [z])) e⟩) (fun _ _ e=>e) (fun _ _ _ e=>e) (fun b ps e=>⟨#[],by rw [e];simp⟩) (fun m hm => ?_) (fun b u e => ?_) I.bare
 ·have e:b=it:=by simpa using hb
  subst e
  exact⟨h1,hL,h2,h3⟩
 ·obtain⟨o,es,ep,ho,r⟩:=hm
  exact⟨o,es,ep,k _ o (cY hL) ho,r⟩
 ·refine (I.hok b u e).stay (fun c v hc q=>k c v ?_ q) (fun _ q=>q) fun _ _ q=>q
  rcases hc with z | z
  ·rw [z];exact nit b u e
  ·exact nit c _ z
theorem Inv.tok (I:Inv X pins σ H s) (t:Nat):Inv X pins σ H { s with toks:=t }:=I.un (h':=s.heap) (t':=t) Un.refl I.hok
theorem Inv.kept {t':Nat} (I:Inv X pins σ H s) (k : ∀ b u,s.heap.get? b=some u->h'.get? b=some u):Inv X pins σ H { s with heap:=h',toks:=t' }:=I.un (Un.kept k) (I.hok.kept k)
theorem Inv.laid {a:Addr}{o:HO}{t':Nat} (I:Inv X pins σ H s) (k : ∀ b u,s.heap.get? b=some u->h'.get? b=some u) (hp:s.heap.objs.size<=a) (new:dJ X.prog X.w (upd H a o) h' a o) :
  Inv X pins σ (upd H a o) { s with heap:=h',toks:=t' }:=I.un (Un.laid k hp (I.hok.fresh hp)) (I.hok.laid k hp new)
theorem Inv.write {x e:Addr}{o:HO}{t':Nat} (I:Inv X pins σ H s) (mu:Mut (H x)) (he:e=x\/H e=some (.own x)) (k : ∀ b u,b≠e->s.heap.get? b=some u->h'.get? b=some u) (heo : ∃ u,h'.get? e=some u)
  (new:dJ X.prog X.w (upd H x o) h' x o):Inv X pins σ (upd H x o) { s with heap:=h',toks:=t' }:=I.un (Un.write mu he k heo) (I.hok.write mu he k heo new)
theorem Inv.weak {σ':List (Option V)} (I:Inv X pins σ H s) (hl:σ'.length=σ.length) (w : ∀ (i:Nat) v,σ'[i]? = some (some v)->σ[i]? = some (some v)):Inv X pins σ' H s:=
 ⟨I.ok,I.os,I.bare,I.base,let ⟨m,hn,hl'⟩:=I.loc;⟨m,hn,fun i x v e1 e2 e3=>hl' i x v e1 (w i v e2) e3⟩,I.cell,I.free,I.freeC,I.pin,I.hok,hl.trans I.len⟩
theorem Inv.pins_of {pins':List (Addr×Obj)} (I:Inv X pins σ H s) (h : ∀ p∈pins',s.heap.get? p.1=some p.2/\H p.1=none/\p.1≠X.env.locals/\p.1∉X.fs /\ ∀ v,p.2.data ≠ .cell v):Inv X pins' σ H s:=
 ⟨I.ok,I.os,I.bare,I.base,I.loc,I.cell,I.free,I.freeC,fun p hp=>(bS.mp hp).elim (fun z=>I.pin p (b9 _ z)) (h p),I.hok,I.len⟩
theorem vS {N:List Str} (hN:N.Nodup) {i j:Nat}{x:Str} (a:N[i]? = some x) (b:N[j]? = some x):i=j:=by
 obtain⟨h1,e1⟩:=ag.mp a
 obtain⟨h2,e2⟩:=ag.mp b
 exact (List.getElem_inj hN).mp (e1.trans e2.symm)
theorem r9 {M:Model}{A:Around}{E:Value->Shared->Prop}{i:Nat}{x:Str}{v:V}{u:Value}{Q:Unit->Shared->Prop} (I:Inv X pins σ H s) (hN:X.N.Nodup) (hi:X.N[i]? = some x) (hx:Loc X.env.scope x) (r:RelV v u)
  (h : ∀ s',Inv X pins (σ.set i (some v)) H s'->(∃ a,cw a s.heap s'.heap/\(a=X.env.locals\/X.env.cells.lookup x=some a))->Q () s') (hf:X.fn x=true\/X.env.scope.names.lookup x=some .local:=by first | exact .inl rfl | exact .inr rfl | assumption):aB M A (storeName X.env x u) Q E s:=by
 obtain⟨m,hn,hl⟩:=id I.loc
 have hcls:(X.env.scope.kind == .class||(X.env.scope.kind == .module&&X.env.locals != X.env.globals))=false:=by rw [I.ok.kind];rfl
 have hiσ:i < σ.length:=by rw [I.len];exact (ag.mp hi).1
 have cne:=I.cne
 have tracked : ∀ {a:Addr}{h':Heap},(∃ o,s.heap.get? a=some o/\H a=none)->cw a s.heap h'->HOk X.prog X.w H h':=fun {a h'} ha hs b ob e=>by
  obtain⟨_,_,hfree⟩:=ha
  refine (I.hok b ob e).stay (fun c w' hc q=>(hs.2 c ?_).trans q) (fun _ q=>q) fun _ _ q=>q
  rintro rfl
  rcases hc with rfl | hc
  ·rw [hfree] at e;cases e
  ·rw [hfree] at hc;cases hc
 rcases hx with hk | hk
 ·refine wpAny_storeName_local hk hn (fun h' hn' hs => ?_) hcls
  obtain⟨oL,_,_,hoL,_⟩:=id hn
  refine h _ ⟨I.ok,I.os,I.bare,⟨fun b o e n hb hx => ?_,fun b o e n hb hx => ?_,I.base.free,fun b o e hx => ?_,I.base.tups,I.base.frzs,I.base.tbls⟩,⟨_,hn',fun j y v' e1 e2 e3 => ?_⟩,fun y c e => ?_,I.free,I.freeC,fun p hp => ?_,tracked ⟨oL,hoL,I.free⟩ hs,by simpa using I.len⟩ ⟨_,hs,.inl rfl⟩
  ·exact (hs.2 b (aG (ai (aC e) I.ok.above))).trans (I.base.keep b o e n hb hx)
  ·obtain⟨sl,e1⟩:=I.base.slot b o e n hb hx
   exact⟨sl,(hs.2 b (aG (ai (aC e) I.ok.above))).trans e1⟩
  ·obtain⟨o',e1⟩:=I.base.there b o e hx
   exact⟨o',(hs.2 b (aG (ai (aC e) I.ok.above))).trans e1⟩
  ·by_cases hj:j=i
   ·subst hj
    rw [hi] at e1;cases e1
    rw [aL hiσ] at e2
    cases e2
    exact⟨u,r,.inl ⟨hk,by simp⟩⟩
   ·rw [aH (cY hj)] at e2
    obtain⟨u',r',q⟩:=hl j y v' e1 e2 e3
    refine⟨u',r',?_⟩
    rcases q with⟨k,e⟩ | ⟨k,c,e,z⟩
    ·refine .inl ⟨k,?_⟩
     have:y≠x:=fun e=>hj (vS hN e1 (e▸hi))
     simp [this,e]
    ·exact .inr ⟨k,c,e,z.sameBut hs (cne y c e)⟩
  ·obtain⟨w',z⟩:=I.cell y c e
   exact⟨w',z.sameBut hs (cne y c e)⟩
  ·obtain⟨e,n,ne,nf,d⟩:=I.pin p hp
   exact⟨(hs.2 p.1 ne).trans e,n,ne,nf,d⟩
 ·have hfn:X.fn x=true:=by
   rcases hf with z | z
   ·exact z
   ·rw [z] at hk;cases hk
  obtain⟨c,hc⟩:=I.ok.has x (.inl hk)
  obtain⟨w',z⟩:=I.cell x c hc
  refine wpAny_storeName_cell I.ok.kind hk hc z (fun h' hc' hs => ?_)
  obtain⟨oc,hoc,hocd⟩:=id z
  refine h { s with heap:=h' } ⟨I.ok,I.os,I.bare,⟨fun b o e n hb hx => ?_,fun b o e n hb hx => ?_,I.base.free,fun b o e hx => ?_,I.base.tups,I.base.frzs,I.base.tbls⟩,⟨m,hn.sameBut hs (cY (cne x c hc)),fun j y v' e1 e2 e3 => ?_⟩,fun y c' e => ?_,I.free,I.freeC,fun p hp => ?_,tracked ⟨oc,hoc,I.freeC x c hc⟩ hs,by simpa using I.len⟩ ⟨c,hs,.inr hc⟩
  ·exact (hs.2 b (aG (ai (aC e) (I.ok.cab x c hfn hc)))).trans (I.base.keep b o e n hb hx)
  ·obtain⟨sl,e1⟩:=I.base.slot b o e n hb hx
   exact⟨sl,(hs.2 b (aG (ai (aC e) (I.ok.cab x c hfn hc)))).trans e1⟩
  ·obtain⟨o',e1⟩:=I.base.there b o e hx
   exact⟨o',(hs.2 b (aG (ai (aC e) (I.ok.cab x c hfn hc)))).trans e1⟩
  ·by_cases hj:j=i
   ·subst hj
    rw [hi] at e1;cases e1
    rw [aL hiσ] at e2
    cases e2
    exact⟨u,r,.inr ⟨.inl hk,c,hc,hc'⟩⟩
   ·rw [aH (cY hj)] at e2
    obtain⟨u',r',q⟩:=hl j y v' e1 e2 e3
    refine⟨u',r',?_⟩
    rcases q with q | ⟨k,c',e,z'⟩
    ·exact .inl q
    ·refine .inr ⟨k,c',e,z'.sameBut hs ?_⟩
     rintro rfl
     exact hj (vS hN e1 (I.ok.inj _ _ _ e hc▸hi))
  ·by_cases hcc:c'=c
   ·subst hcc;exact⟨_,hc'⟩
   ·obtain⟨w2,z2⟩:=I.cell y c' e
    exact⟨w2,z2.sameBut hs hcc⟩
  ·obtain⟨e,n,ne,nf,d⟩:=I.pin p hp
   refine⟨(hs.2 p.1 ?_).trans e,n,ne,nf,d⟩
   intro q
   rw [q,hoc] at e
   have q':oc=p.2:=bw e
   exact d w' (by rw [<- q'];exact hocd)
theorem ny {M:Model}{A:Around}{E:Value->Shared->Prop}{i:Nat}{x:Str}{v:V}{u:Value}{Q:Unit->Shared->Prop} (I:Inv X pins σ H s) (hN:X.N.Nodup) (hi:X.N[i]? = some x) (hx:Loc X.env.scope x) (r:RelV v u)
  (h : ∀ s',Inv X pins (σ.set i (some v)) H s'->Q () s') (hf:X.fn x=true\/X.env.scope.names.lookup x=some .local:=by first | exact .inl rfl | exact .inr rfl | assumption):aB M A (storeName X.env x u) Q E s:=
 r9 I hN hi hx r (fun s' I' _=>h s' I') hf
theorem Inv.call' {s':Shared}{ch:List Addr} (I:Inv X pins σ H s) (ho:s'.os=s.os) (u:Un (frs X.stack) ch H H' s.heap s'.heap) (hok:HOk X.prog X.w H' s'.heap) (hg:AllBare s'.gens)
  (hch : ∀ b∈ch,(b∈X.ex\/X.s₀.heap.objs.size<=b)/\b≠X.env.locals/\(∀ x c,X.env.cells.lookup x=some c->c≠b) /\ ∀ p∈X.pn++pins,p.1≠b):Inv X pins σ H' s':=by
 obtain⟨h',g',d',t',o'⟩:=s'
 have e:o'=s.os:=ho
 subst e
 exact I.call (g':=g') (t':=t') (d':=d') u hok hg hch
end
abbrev XK:=Value->Option Addr->Hp->Prop
abbrev St:=List (Option V)
abbrev VK:=V->Hp->Prop
abbrev TE:=St->Hp->VK->Prop
abbrev TT:=St->Hp->(Bool->Hp->Prop)->Prop
abbrev TA:=St->Hp->(List V->Hp->Prop)->Prop
structure Ends where
 nx:St->Hp->Prop
 rt:VK
 bk:St->Hp->Prop:=fun _ _=>False
 ct:St->Hp->Prop:=fun _ _=>False
abbrev TS:=Ends->St->Hp->Prop
noncomputable def EP (X:Cx) (pins:List (Addr×Obj)) (σ:St) (Q:VK) (u:Value) (s':Shared):Prop := ∃ v H',Inv X pins σ H' s'/\RelV v u/\Q v H'
noncomputable def TP (X:Cx) (pins:List (Addr×Obj)) (σ:St) (Q:Bool->Hp->Prop) (b:Bool) (s':Shared):Prop := ∃ H',Inv X pins σ H' s'/\Q b H'
noncomputable def AP (X:Cx) (pins:List (Addr×Obj)) (σ:St) (Q:List V->Hp->Prop) (us:List Value) (s':Shared):Prop := ∃ vs H',Inv X pins σ H' s'/\bO vs us/\Q vs H'
noncomputable def SP (X:Cx) (pins:List (Addr×Obj)) (D:Ends) (f:Flow) (s':Shared):Prop:=
 match f with
 | .next => ∃ σ' H',Inv X pins σ' H' s'/\D.nx σ' H'
 | .brk => ∃ σ' H',Inv X pins σ' H' s'/\D.bk σ' H'
 | .cont => ∃ σ' H',Inv X pins σ' H' s'/\D.ct σ' H'
 | .ret u => ∃ v σ' H',Inv X pins σ' H' s'/\RelV v u/\D.rt v H'
noncomputable def PE (X:Cx) (e:Expr) (t:TE):Prop:=
 ∀ (pins:List (Addr×Obj)) (s:Shared) (σ:St) (H:Hp) (Q:VK),Inv X pins σ H s->t σ H Q->aB (model X.prog X.w) X.A (eval e X.env) (EP X pins σ Q) X.xe s
noncomputable def PT (X:Cx) (e:Expr) (t:TT):Prop:=
 ∀ (pins:List (Addr×Obj)) (s:Shared) (σ:St) (H:Hp) (Q:Bool->Hp->Prop),Inv X pins σ H s->t σ H Q->aB (model X.prog X.w) X.A (isTrue e X.env (eval e X.env)) (TP X pins σ Q) X.xe s
noncomputable def PW (X:Cx) (e:Expr) (t:TT):Prop:=
 ∀ (whole:Sem Value) (pins:List (Addr×Obj)) (s:Shared) (σ:St) (H:Hp) (Q:Bool->Hp->Prop),Inv X pins σ H s->t σ H Q->aB (model X.prog X.w) X.A (isTrue e X.env whole) (TP X pins σ Q) X.xe s
theorem PW.pt {X:Cx}{e:Expr}{t:TT} (h:PW X e t):PT X e t:=h _
noncomputable def PA (X:Cx) (es:List Expr) (t:TA):Prop:=
 ∀ (pos:Pos) (pins:List (Addr×Obj)) (s:Shared) (σ:St) (H:Hp) (Q:List V->Hp->Prop),Inv X pins σ H s->t σ H Q->aB (model X.prog X.w) X.A (spliced (backTo pos (starEach es X.env))) (AP X pins σ Q) X.xe s
noncomputable def PS (X:Cx) (st:Stmt) (t:TS):Prop:=
 ∀ (pins:List (Addr×Obj)) (s:Shared) (σ:St) (H:Hp) (D:Ends),Inv X pins σ H s->t D σ H->aB (model X.prog X.w) X.A (exec st X.env) (SP X pins D) X.xe s
noncomputable def PSs (X:Cx) (st:List Stmt) (t:TS):Prop:=
 ∀ (pins:List (Addr×Obj)) (s:Shared) (σ:St) (H:Hp) (D:Ends),Inv X pins σ H s->t D σ H->aB (model X.prog X.w) X.A (execs st X.env) (SP X pins D) X.xe s
theorem thn {α:Type}{t:Sem α}{Q Q':α->Shared->Prop}{M:Model}{A:Around}{E:Value->Shared->Prop}{s:Shared} (h:aB M A t Q E s) (hQ : ∀ a s,Q a s->Q' a s):aB M A t Q' E s:=cR h hQ fun _ _ x=>x
end L2
namespace L2
open PySem PySem.Spec PyProof.Rows
section
variable {X:Cx}
noncomputable def JE (i:Nat):TE:=fun σ H Q => ∃ v,σ[i]? = some (some v)/\Q v H
noncomputable def tC (v:V):TE:=fun _ H Q=>Q v H
theorem Hq {i:Nat}{x:Str}{pos:Pos} (hN:X.N[i]? = some x) (hv:Vis X.env.scope x) (hd:(x == ("__debug__":Str))=false:=by decide) (hcd:(x == ("__classdict__":Str))=false:=by decide):PE X (.Name x pos) (JE i):=by
 intro pins s σ H Q I h
 obtain⟨v,e,h⟩:=h
 obtain⟨m,hn,hl⟩:=I.loc
 obtain⟨u,r,l⟩:=hl i x v hN e hv
 have fin:EP X pins σ Q u s:=⟨v,H,I,r,h⟩
 rcases l with⟨hk,hm⟩ | ⟨hk,c,hc,hcell⟩
 ·exact wpAny_Name (wpAny_loadName_local I.ok.kind hk hn hm fin) hd
 ·rcases hk with hk | hk
  ·exact wpAny_Name (wpAny_loadName_cell I.ok.kind hk hc hcell fin) hd
  ·exact wpAny_Name (wpAny_loadName_free I.ok.kind hk hc hcell fin hcd) hd
theorem BX {i j pos}:PE X (.Constant (.int i) j pos) (tC (.int i)):=fun _ _ _ H _ I h=>wpAny_Constant_int ⟨.int i,H,I.tok _,⟨_,rfl⟩,h⟩
theorem KY {b j pos}:PE X (.Constant (.bool b) j pos) (tC (.bl b)):=fun _ _ _ H _ I h=>Constant_bool ⟨.bl b,H,I,rfl,h⟩
theorem Gp {j pos}:PE X (.Constant .none j pos) (tC .non):=fun _ _ _ H _ I h=>Constant_none ⟨.non,H,I,rfl,h⟩
theorem Hh {x j pos}:PE X (.Constant (.str x) j pos) (tC (.str x)):=fun _ _ _ H _ I h=>Calls.Constant_str ⟨.str x,H,I.tok _,⟨_,rfl⟩,h⟩
noncomputable def Gl (X:Cx) (x:Str):Prop:=X.env.kindOf x=some .globalImplicit
theorem tN {E:Value->Shared->Prop}{pins:List (Addr×Obj)}{s:Shared}{σ:St}{H:Hp}{x:Str}{u:Value}{pos:Pos}{Q:Value->Shared->Prop} (I:Inv X pins σ H s) (hg:Gl X x) (hm:X.mg x=some u) (h:Q u s)
  (hd:(x == ("__debug__":Str))=false:=by decide):aB (model X.prog X.w) X.A (eval (.Name x pos) X.env) Q E s:=
 wD I.ok.kind hg (Calls.loadGlobal_global (by rw [I.ok.glob];exact I.mod.glob.keeps I.bk) hm h) hd
theorem jA {E:Value->Shared->Prop}{pins:List (Addr×Obj)}{s:Shared}{σ:St}{H:Hp}{x:Str}{u:Value}{pos:Pos}{Q:Value->Shared->Prop} (I:Inv X pins σ H s) (hg:Gl X x) (hm:X.mg x=none) (hv:bootBuiltins x=some u) (h:Q u s)
  (hn:x≠"__name__":=by decide) (hd:(x == ("__debug__":Str))=false:=by decide):aB (model X.prog X.w) X.A (eval (.Name x pos) X.env) Q E s:=by
 obtain⟨mb,h1,h2⟩:=I.mod.blt
 exact wD I.ok.kind hg (Calls.loadGlobal_builtin (by rw [I.ok.glob];exact I.mod.glob.keeps I.bk) hm (by rw [I.ok.blt];exact h1.keeps I.bk) ((h2 x hn).trans hv) h) hd
theorem Dv {x:Str}{v:V}{u:Value}{pos:Pos} (hg:Gl X x) (hm:X.mg x=some u) (r:RelV v u) (hd:(x == ("__debug__":Str))=false:=by decide):PE X (.Name x pos) (tC v):=
 fun _ _ _ H _ I h=>tN I hg hm ⟨v,H,I,r,h⟩ hd
theorem EL {x:Str}{v:V}{u:Value}{pos:Pos} (hg:Gl X x) (hm:X.mg x=none) (hv:bootBuiltins x=some u) (r:RelV v u) (hn:x≠"__name__":=by decide) (hd:(x == ("__debug__":Str))=false:=by decide):PE X (.Name x pos) (tC v):=
 fun _ _ _ H _ I h=>jA I hg hm hv ⟨v,H,I,r,h⟩ hn hd
variable {a b:Expr}{ta tb:TE}{pos:Pos}
noncomputable def tB (t:TE):TT:=fun σ H Q=>t σ H fun x H1 => ∃ c,x = .bl c/\Q c H1
theorem FS {e:Expr}{t:TE} (h:PE X e t) (he : ∀ whole,isTrue e X.env whole=(do let v <- whole;standAt e.pos;holding [v] (truthy v)):=by intro _;rfl):PT X e (tB t):=by
 intro pins s σ H Q I hw
 refine isTrue_plain (thn (h pins s σ H _ I hw) fun v s1 ⟨x,H1,I1,r1,q1⟩ => ?_) (he _)
 obtain⟨d,rfl,q⟩:=q1
 cases r1
 exact dw ⟨H1,I1,q⟩
variable {tA tB':TT}{rest:List Expr}
noncomputable def JO (t u:TT):TT:=fun σ H Q=>t σ H fun c H1=>if c=true then u σ H1 Q else Q false H1
noncomputable def tOr (t u:TT):TT:=fun σ H Q=>t σ H fun c H1=>if c=true then Q true H1 else u σ H1 Q
noncomputable def Ja (t:TT):TT:=fun σ H Q=>t σ H fun c H1=>Q (!c) H1
theorem CT (ha:PT X a tA):PW X (.BoolOp .And [a] pos) tA:=by
 intro wh pins s σ H Q I h
 refine isTrue_and (thn (ha pins s σ H Q I h) fun c s1 e => ?_)
 cases c with
 | true=>exact isTrue_and_nil e
 | false=>exact e
theorem FQ (ha:PT X a tA):PW X (.BoolOp .Or [a] pos) tA:=by
 intro wh pins s σ H Q I h
 refine isTrue_or (thn (ha pins s σ H Q I h) fun c s1 e => ?_)
 cases c with
 | false=>exact isTrue_or_nil e
 | true=>exact e
theorem Gf (ha:PT X a tA) (hb:PW X (.BoolOp .And (b::rest) pos) tB'):PW X (.BoolOp .And (a::b::rest) pos) (JO tA tB'):=by
 intro wh pins s σ H Q I h
 refine isTrue_and (thn (ha pins s σ H _ I h) fun c s1 ⟨H1,I1,q1⟩ => ?_)
 cases c with
 | true=>exact hb wh pins s1 σ H1 Q I1 q1
 | false=>exact⟨H1,I1,q1⟩
theorem Iq (ha:PT X a tA) (hb:PW X (.BoolOp .Or (b::rest) pos) tB'):PW X (.BoolOp .Or (a::b::rest) pos) (tOr tA tB'):=by
 intro wh pins s σ H Q I h
 refine isTrue_or (thn (ha pins s σ H _ I h) fun c s1 ⟨H1,I1,q1⟩ => ?_)
 cases c with
 | true=>exact⟨H1,I1,q1⟩
 | false=>exact hb wh pins s1 σ H1 Q I1 q1
theorem Hr (ha:PT X a tA):PT X (.UnaryOp .Not a pos) (Ja tA):=by
 intro pins s σ H Q I h
 exact isTrue_not (ha pins s σ H (fun c H1=>Q (!c) H1) I h)
noncomputable def Fo (ta tb:TE):TE:=fun σ H Q=>ta σ H fun x H1 => ∃ c,x = .bl c/\if c=true then tb σ H1 Q else Q (.bl false) H1
noncomputable def IJ (ta tb:TE):TE:=fun σ H Q=>ta σ H fun x H1 => ∃ c,x = .bl c/\if c=true then Q (.bl true) H1 else tb σ H1 Q
noncomputable def FE (ta:TE):TE:=fun σ H Q=>ta σ H fun x H1 => ∃ c,x = .bl c/\Q (.bl (!c)) H1
theorem GA {op}{t:TE} (h:PE X a t):PE X (.BoolOp op [a] pos) t:=fun pins s σ H Q I hw=>BoolOp_one (h pins s σ H Q I hw)
theorem HL (ha:PE X a ta) (hb:PE X (.BoolOp .And (b::rest) pos) tb):PE X (.BoolOp .And (a::b::rest) pos) (Fo ta tb):=by
 intro pins s σ H Q I h
 refine BoolOp_and (thn (ha pins s σ H _ I h) fun v s1 ⟨x,H1,I1,r1,q1⟩ => ?_)
 obtain⟨c,rfl,q1⟩:=q1
 cases r1
 refine dw ?_
 cases c with
 | true=>exact hb pins s1 σ H1 Q I1 q1
 | false=>exact⟨.bl false,H1,I1,rfl,q1⟩
theorem Jf (ha:PE X a ta) (hb:PE X (.BoolOp .Or (b::rest) pos) tb):PE X (.BoolOp .Or (a::b::rest) pos) (IJ ta tb):=by
 intro pins s σ H Q I h
 refine BoolOp_or (thn (ha pins s σ H _ I h) fun v s1 ⟨x,H1,I1,r1,q1⟩ => ?_)
 obtain⟨c,rfl,q1⟩:=q1
 cases r1
 refine dw ?_
 cases c with
 | false=>exact hb pins s1 σ H1 Q I1 q1
 | true=>exact⟨.bl true,H1,I1,rfl,q1⟩
theorem GI (ha:PE X a ta):PE X (.UnaryOp .Not a pos) (FE ta):=by
 intro pins s σ H Q I h
 refine UnaryOp_ (thn (ha pins s σ H _ I h) fun v s1 ⟨x,H1,I1,r1,q1⟩ => ?_)
 obtain⟨c,rfl,q1⟩:=q1
 cases r1
 exact not_of (dw ⟨.bl (!c),H1,I1,rfl,q1⟩)
end
end L2
namespace L2
open PySem PySem.Spec PyProof.Rows
noncomputable def SqL (K:ar) (H:Hp) (a:Addr) (xs:List V):Prop:=
 Rd H a (.lst xs) \/
  ∃ (o:Obj) (its:Array Value) (n:Nat),K.lookup a=some o/\o.cls = .type "list"/\o.dict=none/\o.data = .seq its n/\its.size<=sizeLine/\bO xs its.toList
noncomputable def SqT (K:ar) (H:Hp) (a:Addr) (xs:List V):Prop:=
 Rd H a (.tup xs) \/
  ∃ (o:Obj) (its:Array Value) (n:Nat),K.lookup a=some o/\o.cls = .type "tuple"/\o.data = .seq its n/\its.size<=sizeLine/\bO xs its.toList
noncomputable def Le:Value->Option V
 | .none=>some .non
 | .bool b=>some (.bl b)
 | .int i _=>some (.int i)
 | .str x _=>some (.str x)
 | .bytes b _=>some (.byt b)
 | .float b _=>some (.flt b)
 | .ref a=>some (.ref a)
 | .type n=>some (.ty n)
 | _=>none
theorem RelV.abs {x:V}{u:Value} (r:RelV x u):Le u=some x:=by
 cases x with
 | non=>cases r;rfl
 | bl _=>cases r;rfl
 | int _=>obtain⟨t,rfl⟩:=r;rfl
 | str _=>obtain⟨t,rfl⟩:=r;rfl
 | byt _=>obtain⟨t,rfl⟩:=r;rfl
 | flt _=>obtain⟨t,rfl⟩:=r;rfl
 | ref _=>cases r;rfl
 | ty _=>cases r;rfl
theorem RelV.inj {x y:V}{u:Value} (r:RelV x u) (q:RelV y u):x=y:=bw (r.abs.symm.trans q.abs)
theorem bO.inj : ∀ {xs ys:List V}{us:List Value},bO xs us->bO ys us->xs=ys
 | _,_,_,.nil,.nil=>rfl
 | _,_,_,.cons r t,.cons r' t'=>by rw [r.inj r',bO.inj t t']
section
variable {X:Cx}{pins:List (Addr×Obj)}{σ:St}{H:Hp}{s:Shared}{a:Addr}{xs ys:List V}
theorem SqL.of {K:ar} (h:H a=some (.lst xs)):SqL K H a xs := .inl (.inl h)
theorem Inv.list (I:Inv X pins σ H s) (h:SqL X.K H a xs) : ∃ its:List Value,bO xs its/\PlainL s.heap a its.toArray/\xs.length<=sizeLine:=by
 rcases h with h | ⟨o,its,n,hk,hc,hd,hs,hz,r⟩
 ·obtain⟨z,its,n,r,e⟩:=h.ok I.hok
  exact⟨its,r,⟨_,n,e,rfl,rfl,rfl⟩,z⟩
 ·refine⟨its.toList,r,⟨o,n,I.kIn a o hk,hc,hd,by simpa using hs⟩,?_⟩
  have e:=r.length
  simp only [bQ] at e
  omega
theorem Inv.tuple (I:Inv X pins σ H s) (h:SqT X.K H a xs) : ∃ its:List Value,bO xs its/\IsTup s.heap a its.toArray/\xs.length<=sizeLine:=by
 rcases h with h | ⟨o,its,n,hk,hc,hs,hz,r⟩
 ·obtain⟨z,its,r,p⟩:=h.ok I.hok
  exact⟨its,r,p.1,z⟩
 ·refine⟨its.toList,r,⟨o,I.kIn a o hk,hc,n,by simpa using hs⟩,?_⟩
  have e:=r.length
  simp only [bQ] at e
  omega
theorem Inv.list_inj (I:Inv X pins σ H s) (h:SqL X.K H a xs) (h':SqL X.K H a ys):xs=ys:=by
 obtain⟨its,r,⟨o,n,e,_,_,d⟩,_⟩:=I.list h
 obtain⟨its',r',⟨o',n',e',_,_,d'⟩,_⟩:=I.list h'
 rw [e] at e';cases e'
 rw [d] at d'
 injection d' with d1 _
 have:its=its':=by simpa using congrArg Array.toList d1
 subst this
 exact r.inj r'
theorem Inv.tuple_inj (I:Inv X pins σ H s) (h:SqT X.K H a xs) (h':SqT X.K H a ys):xs=ys:=by
 obtain⟨its,r,⟨o,e,_,n,d⟩,_⟩:=I.tuple h
 obtain⟨its',r',⟨o',e',_,n',d'⟩,_⟩:=I.tuple h'
 rw [e] at e';cases e'
 rw [d] at d'
 injection d' with d1 _
 have:its=its':=by simpa using congrArg Array.toList d1
 subst this
 exact r.inj r'
end
abbrev Cx.wish (X:Cx) (E:Value->Shared->Prop):Cx:={ X with xe:=E }
abbrev Cx.nox (X:Cx):Cx:=X.wish fun _ _=>False
theorem Cx.Ok.wish {X:Cx} (ok:X.Ok) (E:Value->Shared->Prop):(X.wish E).Ok:=
 ⟨ok.mod,ok.kind,ok.glob,ok.blt,ok.above,ok.inj,ok.has,ok.cab,ok.hd,ok.frames,ok.stk,ok.exf,ok.bs,ok.bsz,ok.noex,ok.exfs,ok.funs,ok.frf⟩
theorem Cx.Ok.unwish {X:Cx}{E:Value->Shared->Prop} (ok:(X.wish E).Ok):X.Ok:=
 ⟨ok.mod,ok.kind,ok.glob,ok.blt,ok.above,ok.inj,ok.has,ok.cab,ok.hd,ok.frames,ok.stk,ok.exf,ok.bs,ok.bsz,ok.noex,ok.exfs,ok.funs,ok.frf⟩
section
variable {X:Cx}{pins:List (Addr×Obj)}{σ:St}{H:Hp}{s:Shared}{E:Value->Shared->Prop}
theorem Inv.wish (I:Inv X pins σ H s) (E:Value->Shared->Prop):Inv (X.wish E) pins σ H s:=⟨I.ok.wish E,I.os,I.bare,I.base,I.loc,I.cell,I.free,I.freeC,I.pin,I.hok,I.len⟩
theorem Inv.unwish (I:Inv (X.wish E) pins σ H s):Inv X pins σ H s:=⟨I.ok.unwish,I.os,I.bare,I.base,I.loc,I.cell,I.free,I.freeC,I.pin,I.hok,I.len⟩
theorem SP.unwish {D:Ends}{f:Flow}{s':Shared} (h:SP (X.wish E) pins D f s'):SP X pins D f s':=by
 cases f with
 | next=>obtain⟨σ',H',I,q⟩:=h;exact⟨σ',H',I.unwish,q⟩
 | brk=>obtain⟨σ',H',I,q⟩:=h;exact⟨σ',H',I.unwish,q⟩
 | cont=>obtain⟨σ',H',I,q⟩:=h;exact⟨σ',H',I.unwish,q⟩
 | ret u=>obtain⟨v,σ',H',I,r,q⟩:=h;exact⟨v,σ',H',I.unwish,r,q⟩
theorem PSs.nox {st:List Stmt}{t:TS} (h:PSs X.nox st t):PSs X st t:=fun pins s σ H D I hw=>
 cR (h pins s σ H D (I.wish _) hw) (fun _ _ q=>q.unwish) fun _ _ z=>dm z
end
section
variable {X:Cx}{st:Stmt}{rest:List Stmt}{t u:TS}{e:Expr}{te:TE}{pos:Pos}
noncomputable def BC:TS:=fun D σ H=>D.nx σ H
noncomputable def JJ (t u:TS):TS:=fun D σ H=>t { D with nx:=u D } σ H
theorem Dc:PSs X [] BC:=fun _ _ σ H _ I h=>oU ⟨σ,H,I,h⟩
theorem Cs (h1:PS X st t) (h2:PSs X rest u):PSs X (st::rest) (JJ t u):=by
 intro pins s σ H D I h
 refine wpAny_execs_cons (thn (h1 pins s σ H { D with nx:=u D } I h) fun f s1 q => ?_)
 cases f with
 | next=>
   obtain⟨σ',H',I',q⟩:=q
   exact h2 pins s1 σ' H' D I' q
 | ret v=>exact q
 | brk=>exact q
 | cont=>exact q
theorem EN (h1:PS X st t):PSs X [st] t:=by
 intro pins s σ H D I h
 refine wpAny_execs_cons (thn (h1 pins s σ H D I h) fun f s1 q => ?_)
 cases f with
 | next=>exact oU q
 | ret v=>exact q
 | brk=>exact q
 | cont=>exact q
noncomputable def G5:TS:=fun D σ H=>D.bk σ H
noncomputable def KZ:TS:=fun D σ H=>D.ct σ H
theorem ED:PS X (.Pass pos) BC:=fun _ _ σ H _ I h=>wpAny_Pass ⟨σ,H,I,h⟩
theorem BD:PS X (.Break pos) G5:=fun _ _ σ H _ I h=>wpAny_Break ⟨σ,H,I,h⟩
theorem wB:PS X (.Continue pos) KZ:=fun _ _ σ H _ I h=>wpAny_Continue ⟨σ,H,I,h⟩
theorem Inv.quiet {pins:List (Addr×Obj)}{σ:St}{H:Hp}{s:Shared} (I:Inv X pins σ H s):interactive X.env=false:=by simp [interactive,I.ok.kind]
noncomputable def Fq (te:TE):TS:=fun D σ H=>te σ H fun _ H1=>D.nx σ H1
theorem Ef (he:PE X e te) (hs:swapsWith e none pos.line X.env=pure false:=by rfl):PS X (.Expr e pos) (Fq te):=by
 intro pins s σ H D I h
 exact wpAny_Expr_any (thn (he pins s σ H _ I h) fun v s1 ⟨x,H1,I1,r1,q1⟩=>⟨σ,H1,I1,q1⟩) I.quiet hs
noncomputable def Kk (te:TE):TS:=fun D σ H=>te σ H D.rt
theorem F5 (he:PE X e te):PS X (.Return (some e) pos) (Kk te):=by
 intro pins s σ H D I h
 exact wpAny_Return_some (thn (he pins s σ H _ I h) fun v s1 ⟨x,H1,I1,r1,q1⟩=>⟨x,σ,H1,I1,r1,q1⟩)
noncomputable def KU:TS:=fun D _ H=>D.rt .non H
theorem DX:PS X (.Return none pos) KU:=fun _ _ σ H _ I h=>wpAny_Return_none ⟨.non,σ,H,I,rfl,h⟩
noncomputable def Kg (c:TT) (t u:TS):TS:=fun D σ H=>c σ H fun b H1=>if b=true then t D σ H1 else u D σ H1
theorem Kd {c:Expr}{a b:List Stmt}{tc:TT} (hc:PT X c tc) (ha:PSs X a t) (hb:PSs X b u):PS X (.If c a b pos) (Kg tc t u):=by
 intro pins s σ H D I h
 refine wpAny_If (thn (hc pins s σ H _ I h) fun d s1 ⟨H1,I1,q1⟩ => ?_)
 cases d with
 | true=>exact ha pins s1 σ H1 D I1 q1
 | false=>exact hb pins s1 σ H1 D I1 q1
end
abbrev TG:=V->St->Hp->(St->Hp->Prop)->Prop
abbrev TGs:=List V->St->Hp->(St->Hp->Prop)->Prop
noncomputable def PG (X:Cx) (target:Expr) (t:TG):Prop:=
 ∀ (pins:List (Addr×Obj)) (s:Shared) (σ:St) (H:Hp) (v:V) (u:Value) (Q:St->Hp->Prop),Inv X pins σ H s->RelV v u->t v σ H Q ->
  aB (model X.prog X.w) X.A (assign target X.env u) (fun _ s' => ∃ σ' H',Inv X pins σ' H' s'/\Q σ' H') X.xe s
noncomputable def PGs (X:Cx) (ts:List Expr) (t:TGs):Prop:=
 ∀ (pins:List (Addr×Obj)) (s:Shared) (σ:St) (H:Hp) (vs:List V) (us:List Value) (Q:St->Hp->Prop),Inv X pins σ H s->bO vs us->t vs σ H Q ->
  aB (model X.prog X.w) X.A (assignInOrder ((assignEach ts X.env).map (·.2)) us) (fun _ s' => ∃ σ' H',Inv X pins σ' H' s'/\Q σ' H') X.xe s
abbrev AH:=V->V->V->Hp->(Hp->Prop)->Prop
noncomputable def Gg (X:Cx) (t:AH):Prop:=
 ∀ (pins:List (Addr×Obj)) (s:Shared) (σ:St) (H:Hp) (o i v:V) (ov iv u:Value) (Q:Hp->Prop),Inv X pins σ H s->RelV o ov->RelV i iv->RelV v u->t o i v H Q ->
  aB (model X.prog X.w) X.A (setItem ov iv u) (fun _ s' => ∃ H',Inv X pins σ H' s'/\Q H') X.xe s
section
variable {X:Cx}{pos:Pos}
noncomputable def jk (i:Nat):TG:=fun v σ H Q=>Q (σ.set i (some v)) H
theorem yE {i:Nat}{x:Str} (hN:X.N.Nodup) (hi:X.N[i]? = some x) (hx:Loc X.env.scope x) (hf:X.fn x=true\/X.env.scope.names.lookup x=some .local:=by first | exact .inl rfl | exact .inr rfl | assumption):PG X (.Name x pos) (jk i):=by
 intro pins s σ H v u Q I r h
 exact mM (ny I hN hi hx r (fun s' I'=>⟨_,H,I',h⟩) hf)
noncomputable def IK:TGs:=fun vs σ H Q=>vs = []/\Q σ H
noncomputable def E7 (t:TG) (u:TGs):TGs:=fun vs σ H Q => ∃ v r,vs=v::r/\t v σ H fun σ' H'=>u r σ' H' Q
theorem E2:PGs X [] IK:=by
 intro pins s σ H vs us Q I r h
 obtain⟨e,h⟩:=h
 subst e
 cases r
 exact assignInOrder_nil ⟨σ,H,I,h⟩
theorem Cq {e:Expr}{es:List Expr}{t:TG}{u:TGs} (h1:PG X e t) (h2:PGs X es u)
  (hs:(assignEach (e::es) X.env).map (·.2)=assign e X.env::(assignEach es X.env).map (·.2):=by rfl):PGs X (e::es) (E7 t u):=by
 intro pins s σ H vs us Q I r h
 obtain⟨v,vr,e1,h⟩:=h
 subst e1
 cases r with
 | cons r rr=>
   rw [hs]
   refine assignInOrder_cons (thn (h1 pins s σ H _ _ _ I r h) fun _ s1 ⟨σ1,H1,I1,q1⟩ => ?_)
   exact h2 pins s1 σ1 H1 _ _ Q I1 rr q1
noncomputable def JF (K:ar) (n:Nat) (t:TGs):TG:=fun v σ H Q => ∃ a xs,v = .ref a/\SqT K H a xs/\xs.length=n/\t xs σ H Q
theorem F8 {es:List Expr}{k:Nat}{t:TGs}{n:Nat} (hc:X.calm=true) (h:PGs X es t)
  (hn:(assignEach es X.env).length=n:=by rfl) (hst:(assignEach es X.env).findIdx? (·.1)=none:=by rfl):PG X (.Tuple es k pos) (JF X.K n t):=by
 intro pins s σ H v u Q I r hw
 obtain⟨a,xs,e1,hq,hl,hw⟩:=hw
 subst e1
 cases r
 obtain⟨its,rv,ht,hz⟩:=I.tuple hq
 refine assign_Tuple_tuple (I.ok.hd hc) ht (by simp [hn,<- hl,rv.length]) hst fun h' hx => ?_
 have I1:Inv X pins σ H { s with heap:=h' }:=I.kept (t':=s.toks) fun b o e=>hx b o (aG (aC e)) e
 exact h pins _ σ H xs _ Q I1 (by simpa using rv) hw
noncomputable def Gu (to ti:TE) (t:AH):TG:=fun v σ H Q=>to σ H fun o H1=>ti σ H1 fun i H2=>t o i v H2 fun H3=>Q σ H3
theorem B4 {o i:Expr}{to ti:TE}{t:AH} (ho:PE X o to) (hi:PE X i ti) (hs:Gg X t)
  (ha : ∀ v,assign (.Subscript o i pos) X.env v=(do
   let ov <- holding [v] (eval o X.env)
   let iv <- holding [v,ov] (eval i X.env)
   standAt pos
   holding [v,ov,iv] (setItem ov iv v)
   release [v,ov,iv] []):=by intro _;rfl):PG X (.Subscript o i pos) (Gu to ti t):=by
 intro pins s σ H v u Q I r h
 rw [ha]
 refine ae (cM (thn (ho pins s σ H _ I h) fun ov s1 ⟨x,H1,I1,r1,q1⟩ => ?_))
 refine ae (cM (thn (hi pins s1 σ H1 _ I1 q1) fun iv s2 ⟨y,H2,I2,r2,q2⟩ => ?_))
 refine ae (wpAny_standAt (ae (cM (thn (hs pins s2 σ H2 x y v ov iv u _ I2 r1 r2 r q2) fun _ s3 ⟨H3,I3,q3⟩ => ?_))))
 exact wpAny_release ⟨σ,H3,I3,q3⟩
noncomputable def zC (te:TE) (g:TG):TS:=fun D σ H=>te σ H fun x H1=>g x σ H1 D.nx
theorem Bv {tg e:Expr}{te:TE}{g:TG} (he:PE X e te) (hg:PG X tg g) (hs:swapsWithSole [tg] e pos.line X.env=pure false:=by rfl) (hw:swappedStores [tg] e X.env=pure none:=by rfl)
  (h1:(assignEach [tg] X.env).map (·.2) = [assign tg X.env]:=by rfl):PS X (.Assign [tg] e pos) (zC te g):=by
 intro pins s σ H D I h
 refine wpAny_Assign_stores (thn (he pins s σ H _ I h) fun v s1 ⟨x,H1,I1,r1,q1⟩ => ?_) hs hw
 rw [h1]
 exact thn (hg pins s1 σ H1 x v _ I1 r1 q1) fun _ s2 q=>q
theorem FP {i:Nat}{x:Str}{e:Expr}{te:TE}{pos':Pos} (hN:X.N.Nodup) (hi:X.N[i]? = some x) (hx:Loc X.env.scope x) (he:PE X e te) (hs:swapsWith e (some (.Name x pos')) pos.line X.env=pure false:=by rfl) (hf:X.fn x=true\/X.env.scope.names.lookup x=some .local:=by first | exact .inl rfl | exact .inr rfl | assumption) :
  PS X (.Assign [.Name x pos'] e pos) (zC te (jk i)):=by
 intro pins s σ H D I h
 refine wpAny_Assign_Name (thn (he pins s σ H _ I h) fun v s1 ⟨y,H1,I1,r1,q1⟩ => ?_) hs
 exact ny I1 hN hi hx r1 (fun s2 I2=>⟨_,H1,I2,q1⟩) hf
end
section
variable {X:Cx}{pos:Pos}
noncomputable def Ay (c:TT) (tb:TS):TS:=fun D σ H => ∃ W:Nat->St->Hp->Prop,(∃ m,W m σ H) /\ ∀ m σ H,W m σ H ->
 c σ H fun b H1=>if b=true then ∃ N:St->Hp->Prop,(∀ σ' H',N σ' H' -> ∃ m',m' < m/\W m' σ' H')/\tb { D with nx:=N,ct:=N,bk:=D.nx } σ H1 else D.nx σ H1
theorem BV {c:Expr}{body:List Stmt}{tc:TT}{tb:TS} (hp:PassesOwn (model X.prog X.w) X.A X.env X.xe) (hc:PT X c tc) (hb:PSs X body tb):PS X (.While c body [] pos) (Ay tc tb):=by
 intro pins s σ H D I h
 obtain⟨W,⟨m0,w0⟩,turn⟩:=h
 refine wpAny_While (codeAny_whileLoop (fun n s' => ∃ σ' H',Inv X pins σ' H' s'/\W n σ' H') ?_ m0 ⟨σ,H,I,w0⟩)
 rintro n s1 ⟨σ1,H1,I1,w1⟩
 refine fJ hp (thn (hc pins s1 σ1 H1 _ I1 (turn n σ1 H1 w1)) fun b s2 ⟨H2,I2,q2⟩ => ?_)
 cases b with
 | true=>
   obtain⟨N,hN,q2⟩:=q2
   rw [if_pos rfl]
   refine fJ hp (thn (hb pins s2 σ1 H2 _ I2 q2) fun f s3 q3 => ?_)
   cases f with
   | next=>
     obtain⟨σ3,H3,I3,n3⟩:=q3
     obtain⟨m',hm,w3⟩:=hN σ3 H3 n3
     exact⟨m',hm,σ3,H3,I3,w3⟩
   | cont=>
     obtain⟨σ3,H3,I3,n3⟩:=q3
     obtain⟨m',hm,w3⟩:=hN σ3 H3 n3
     exact⟨m',hm,σ3,H3,I3,w3⟩
   | brk=>exact q3
   | ret v=>exact q3
 | false=>
   rw [if_neg bj]
   exact oU ⟨σ1,H2,I2,q2⟩
end
structure It where
 go:Nat->Hp->Prop
 yld:Nat->Hp->V->Hp->Prop
 stop:Nat->Hp->Prop
noncomputable def q9 (X:Cx) (pins:List (Addr×Obj)) (H:Hp) (b:Addr):Prop:=
 H b=none/\b≠X.env.locals/\b∉X.fs/\(b∈X.ex\/X.s₀.heap.objs.size<=b)/\(∀ x c,X.env.cells.lookup x=some c->c≠b) /\ ∀ p∈X.pn++pins,p.1≠b
theorem Inv.fpOk {X:Cx}{pins:List (Addr×Obj)}{σ:St}{H H':Hp}{s:Shared}{b:Addr} (I:Inv X pins σ H s) (hb:s.heap.objs.size<=b) (hn:H' b=none):q9 X pins H' b:=by
 refine⟨hn,bL (ai I.lt hb),I.nofs hb,.inr (be I.sz hb),fun x c e z => ?_,fun p hp z => ?_⟩
 ·obtain⟨v,q⟩:=I.cell x c e
  exact absurd (ai q.lt (by rw [z];exact hb)) (cj _)
 ·exact absurd (ai (aC (I.pin p hp).1) (by rw [z];exact hb)) (cj _)
structure Turn (P:Program) (w:World) (K:ar) (tg:Expr) (J:It) (fp:List Addr) (it:Addr) (tn:Nat->Heap->Prop):Prop where
 mem:it∈fp
 obj : ∀ i h,tn i h -> ∀ b∈fp,∃ o,h.get? b=some o /\ ∀ v,o.data ≠ .cell v
 keep : ∀ i h h',tn i h->(∀ b∈fp,∀ o,h.get? b=some o->h'.get? b=some o)->tn i h'
 item : ∀ (X:Cx),X.prog=P->X.w=w->X.K=K->X.calm=true -> ∀ (i:Nat) (pins:List (Addr×Obj)) (s:Shared) (σ:St) (H:Hp) (E:Value->Shared->Prop),Inv X pins σ H s->(∀ b∈fp,q9 X pins H b)->tn i s.heap->J.go i H ->
  aB (model P w) X.A (pyNext (.ref it)) (fun r s1 => ∃ u,r=some u /\
   aB (model P w) X.A (letOwnedTupleGo tg (.ref it) u) (fun _ s2 => ∃ x H',Inv X pins σ H' s2/\RelV x u/\J.yld i H x H'/\tn (i+1) s2.heap /\ ∀ b∈fp,H' b=none) E s1) E s
 done : ∀ (X:Cx),X.prog=P->X.w=w->X.K=K->X.calm=true -> ∀ (i:Nat) (pins:List (Addr×Obj)) (s:Shared) (σ:St) (H:Hp) (E:Value->Shared->Prop),Inv X pins σ H s->(∀ b∈fp,q9 X pins H b)->tn i s.heap->J.stop i H ->
  aB (model P w) X.A (pyNext (.ref it)) (fun r s1=>r=none/\Inv X pins σ H s1) E s
 self : ∀ (A:Around) (i:Nat) (s:Shared) (Q:Value->Shared->Prop) (E:Value->Shared->Prop),tn i s.heap->Q (.ref it) s->aB (model P w) A (pyIter (.ref it)) Q E s
abbrev TI:=St->Hp->(It->Hp->Prop)->Prop
noncomputable def PIE (X:Cx) (pins:List (Addr×Obj)) (σ:St) (tg:Expr) (R:It->Hp->Prop) (itv:Value) (s2:Shared):Prop:=
 ∃ (it:Addr) (fp:List Addr) (tn:Nat->Heap->Prop) (J:It) (H':Hp),itv = .ref it/\Inv X pins σ H' s2/\Turn X.prog X.w X.K tg J fp it tn/\tn 0 s2.heap/\(∀ b∈fp,q9 X pins H' b)/\R J H'
noncomputable def PI (X:Cx) (tg iter:Expr) (wi:TI):Prop:=
 ∀ (pins:List (Addr×Obj)) (s:Shared) (σ:St) (H:Hp) (R:It->Hp->Prop),Inv X pins σ H s->wi σ H R ->
  aB (model X.prog X.w) X.A (eval iter X.env) (fun v s1=>aB (model X.prog X.w) X.A (pyIter v) (PIE X pins σ tg R) X.xe s1) X.xe s
theorem Bs {M:Model}{A:Around}{E:Value->Shared->Prop}{s:Shared}{tg:Expr}{it:Addr}{u:Value}{o:Obj}{n:String}{vs:Array Value}{Q:Unit->Shared->Prop} (ho:s.heap.get? it=some o) (hc:o.cls = .type n) (hd:o.data = .fields vs)
  (hn : ["enumerate","zip","dict_itemiterator","dict_reverseitemiterator","odict_iterator","itertools.zip_longest","itertools.pairwise"].contains n=false) (hQ:Q () s):aB M A (letOwnedTupleGo tg (.ref it) u) Q E s:=by
 unfold letOwnedTupleGo
 cases tg <;> first
  | exact ao hQ
  | (cases u <;> first
    | exact ao hQ
    | (refine ae (uq ho ?_)
       rw [hc,hd]
       show aB M A (if (["enumerate","zip","dict_itemiterator","dict_reverseitemiterator","odict_iterator","itertools.zip_longest","itertools.pairwise"].contains n&&vs[0]? == some (rawInt _))=true then _ else _) Q E s
       rw [if_neg (by intro h;rw [hn,Bool.false_and] at h;cases h)]
       exact ao hQ))
noncomputable def Itl (K:ar) (a:Addr):It:=
 ⟨fun i H => ∃ xs x,SqL K H a xs/\xs[i]? = some x,fun i H x H'=>H'=H /\ ∀ xs,SqL K H a xs->xs[i]? = some x,fun i H => ∃ xs,SqL K H a xs/\xs.length<=i⟩
noncomputable def Itt (K:ar) (a:Addr):It:=
 ⟨fun i H => ∃ xs x,SqT K H a xs/\xs[i]? = some x,fun i H x H'=>H'=H /\ ∀ xs,SqT K H a xs->xs[i]? = some x,fun i H => ∃ xs,SqT K H a xs/\xs.length<=i⟩
noncomputable def Itr (lo:Int) (n:Nat):It:=⟨fun i _=>i < n,fun i H x H'=>H'=H/\x = .int (lo+i),fun i _=>n<=i⟩
theorem zS {P:Program}{w:World}{K:ar}{tg:Expr} (a it:Addr):Turn P w K tg (Itl K a) [it] it (fun i h=>h.IsListIter it a i) where
 mem:=by simp
 obj:=fun i h st b hb=>by
  have e:b=it:=by simpa using hb
  subst e
  obtain⟨o,e,c,d⟩:=st
  exact⟨o,e,fun v z=>by rw [d] at z;cases z⟩
 keep:=fun i h h' st k=>st.at fun o e=>k it (by simp) o e
 item:=by
  intro X hP hw hK hc i pins s σ H E I hf st hg
  subst hP hw hK
  obtain⟨xs,x,hq,hx⟩:=hg
  obtain⟨its,rv,p,hz⟩:=I.list hq
  obtain⟨u,hu,ru⟩:=rv.get hx
  obtain⟨f0,f1,f2,f3,f4,f5⟩:=hf it (by simp)
  refine wpAny_pyNext_list_item st p.isList (x:=u) (by simpa using hu) fun h' st' sb => ?_
  have I1:Inv X pins σ H { s with heap:=h' }:=I.turned (t':=s.toks) (fun b o hb e=>(sb.2 b hb).trans e) f0 f1 f3 f4 f5
  obtain⟨o,e,c,d⟩:=id st'
  exact⟨u,rfl,Bs (s:={ s with heap:=h' }) e c d (by decide) ⟨x,H,I1,ru,⟨rfl,fun ys hy=>by rw [I.list_inj hy hq];exact hx⟩,st',fun b hb=>(hf b hb).1⟩⟩
 done:=by
  intro X hP hw hK hc i pins s σ H E I hf st hg
  subst hP hw hK
  obtain⟨xs,hq,hx⟩:=hg
  obtain⟨its,rv,p,hz⟩:=I.list hq
  obtain⟨f0,f1,f2,f3,f4,f5⟩:=hf it (by simp)
  have hl:=rv.length
  exact wpAny_pyNext_list_end (I.ok.hd hc) st p.isList (by simp;omega) fun h' eb=>⟨rfl,I.turned (t':=s.toks) (fun b o hb e=>eb b o hb e) f0 f1 f3 f4 f5⟩
 self:=fun _ _ _ _ _ st h=>wpAny_pyIter_listiter st h
theorem xy {P:Program}{w:World}{K:ar}{tg:Expr} (a it:Addr):Turn P w K tg (Itt K a) [it] it (fun i h=>h.IsTupleIter it a i) where
 mem:=by simp
 obj:=fun i h st b hb=>by
  have e:b=it:=by simpa using hb
  subst e
  obtain⟨o,e,c,d⟩:=st
  exact⟨o,e,fun v z=>by rw [d] at z;cases z⟩
 keep:=fun i h h' st k=>st.at fun o e=>k it (by simp) o e
 item:=by
  intro X hP hw hK hc i pins s σ H E I hf st hg
  subst hP hw hK
  obtain⟨xs,x,hq,hx⟩:=hg
  obtain⟨its,rv,p,hz⟩:=I.tuple hq
  obtain⟨u,hu,ru⟩:=rv.get hx
  obtain⟨f0,f1,f2,f3,f4,f5⟩:=hf it (by simp)
  refine wpAny_pyNext_tuple_item st (show s.heap.IsTuple a its.toArray from p) (x:=u) (by simpa using hu) fun h' st' sb => ?_
  have I1:Inv X pins σ H { s with heap:=h' }:=I.turned (t':=s.toks) (fun b o hb e=>(sb.2 b hb).trans e) f0 f1 f3 f4 f5
  obtain⟨o,e,c,d⟩:=id st'
  exact⟨u,rfl,Bs (s:={ s with heap:=h' }) e c d (by decide) ⟨x,H,I1,ru,⟨rfl,fun ys hy=>by rw [I.tuple_inj hy hq];exact hx⟩,st',fun b hb=>(hf b hb).1⟩⟩
 done:=by
  intro X hP hw hK hc i pins s σ H E I hf st hg
  subst hP hw hK
  obtain⟨xs,hq,hx⟩:=hg
  obtain⟨its,rv,p,hz⟩:=I.tuple hq
  obtain⟨f0,f1,f2,f3,f4,f5⟩:=hf it (by simp)
  have hl:=rv.length
  exact wpAny_pyNext_tuple_end (I.ok.hd hc) st (show s.heap.IsTuple a its.toArray from p) (by simp;omega) fun h' eb=>⟨rfl,I.turned (t':=s.toks) (fun b o hb e=>eb b o hb e) f0 f1 f3 f4 f5⟩
 self:=fun _ _ _ _ _ st h=>wpAny_pyIter_tupleiter st h
theorem xV {P:Program}{w:World}{K:ar}{tg:Expr} (it:Addr) (lo:Int) (n:Nat):Turn P w K tg (Itr lo n) [it] it (fun i h=>IsRangeIter h it (lo+(i:Nat)*1) ((n:Int) - (i:Nat)) 1) where
 mem:=by simp
 obj:=fun i h st b hb=>by
  have e:b=it:=by simpa using hb
  subst e
  exact⟨_,st,fun v z=>by
   have z':CD _=Data.cell v:=z
   cases z'⟩
 keep:=fun i h h' st k=>k it (by simp) _ st
 item:=by
  intro X hP hw hK hc i pins s σ H E I hf st hg
  subst hP hw hK
  obtain⟨f0,f1,f2,f3,f4,f5⟩:=hf it (by simp)
  have W:=Walks.range (prog:=X.prog) (w:=X.w) (I.ok.hd hc) it lo 1 n
  refine W.item i s _ _ hg st fun v h' tk hv st' kk => ?_
  obtain⟨t,rfl⟩:=hv
  have I1:Inv X pins σ H { s with heap:=h',toks:=tk }:=I.turned (fun b o hb e=>kk b o (by simpa using hb) e) f0 f1 f3 f4 f5
  refine⟨_,rfl,Bs (s:={ s with heap:=h',toks:=tk }) (n:="range_iterator") st' rfl rfl (by decide) ⟨.int (lo+i),H,I1,⟨t,?_⟩,⟨rfl,rfl⟩,st',fun b hb=>(hf b hb).1⟩⟩
  rw [Int.mul_one]
 done:=by
  intro X hP hw hK hc i pins s σ H E I hf st hg
  subst hP hw hK
  obtain⟨f0,f1,f2,f3,f4,f5⟩:=hf it (by simp)
  exact wpAny_pyNext_range_end (I.ok.hd hc) st (by have:n<=i:=hg;omega) fun h' eb=>⟨rfl,I.turned (t':=s.toks) (fun b o hb e=>eb b o hb e) f0 f1 f3 f4 f5⟩
 self:=fun _ _ _ _ _ st h=>wpAny_pyIter_rangeiter st h
end L2
namespace L2
open PySem PySem.Spec PyProof.Rows
section
variable {X:Cx}{tg:Expr}
noncomputable def pN (K:ar) (tl:TE):TI:=fun σ H R=>tl σ H fun x H1 => ∃ a,x = .ref a/\(∃ xs,SqL K H1 a xs)/\R (Itl K a) H1
noncomputable def xZ (K:ar) (tl:TE):TI:=fun σ H R=>tl σ H fun x H1 => ∃ a,x = .ref a/\(∃ xs,SqT K H1 a xs)/\R (Itt K a) H1
theorem DF {l:Expr}{tl:TE} (hl:PE X l tl):PI X tg l (pN X.K tl):=by
 intro pins s σ H R I h
 refine thn (hl pins s σ H _ I h) fun v s1 ⟨x,H1,I1,r1,q1⟩ => ?_
 obtain⟨a,e,⟨xs,hq⟩,q⟩:=q1
 subst e
 cases r1
 obtain⟨its,rv,p,hz⟩:=I1.list hq
 refine wF p.isList ?_
 refine⟨s1.heap.objs.size,[s1.heap.objs.size],_,_,H1,rfl,I1.kept (t':=s1.toks) fun b o e=>ak _ e,zS a _,⟨_,av _ rfl,rfl,rfl⟩,fun b hb => ?_,q⟩
 have e:b=s1.heap.objs.size:=by simpa using hb
 subst e
 exact I1.fpOk (aq _) (I1.hok.fresh (aq _))
theorem GJ {l:Expr}{tl:TE} (hl:PE X l tl):PI X tg l (xZ X.K tl):=by
 intro pins s σ H R I h
 refine thn (hl pins s σ H _ I h) fun v s1 ⟨x,H1,I1,r1,q1⟩ => ?_
 obtain⟨a,e,⟨xs,hq⟩,q⟩:=q1
 subst e
 cases r1
 obtain⟨its,rv,p,hz⟩:=I1.tuple hq
 refine lx (show s1.heap.IsTuple a its.toArray from p) ?_
 refine⟨s1.heap.objs.size,[s1.heap.objs.size],_,_,H1,rfl,I1.kept (t':=s1.toks) fun b o e=>ak _ e,xy a _,⟨_,av _ rfl,rfl,rfl⟩,fun b hb => ?_,q⟩
 have e:b=s1.heap.objs.size:=by simpa using hb
 subst e
 exact I1.fpOk (aq _) (I1.hok.fresh (aq _))
theorem uN {pins:List (Addr×Obj)}{σ:St}{H:Hp}{s:Shared}{R:It->Hp->Prop}{E:Value->Shared->Prop}{lo hi:Int}{t u v:Tok}{tk:Nat} (I:Inv X pins σ H s) (h1 : -(2 ^ 62)<=lo) (h2:lo < 2 ^ 62) (h3 : -(2 ^ 62)<=hi) (h4:hi < 2 ^ 62)
  (q:R (Itr lo (hi - lo).toNat) H):aB (model X.prog X.w) X.A (pyIter (.ref s.heap.objs.size)) (PIE X pins σ tg R) E { s with heap:=s.heap.push { cls := .type "range",data := .fields #[.int lo t,.int hi u,.int 1 v] },toks:=tk }:=by
 refine wpAny_pyIter_range (IsRange.new ..) (small_one h1 h2 h3 h4) ?_
 have I1:Inv X pins σ H { s with heap:=s.heap.push { cls := .type "range",data := .fields #[.int lo t,.int hi u,.int 1 v] },toks:=tk }:=I.kept fun b o e=>ak _ e
 refine⟨(s.heap.push { cls := .type "range",data := .fields #[.int lo t,.int hi u,.int 1 v] }).objs.size,[(s.heap.push { cls := .type "range",data := .fields #[.int lo t,.int hi u,.int 1 v] }).objs.size],_,_,H,rfl,
  I1.kept (t':=tk) fun b o e=>ak _ e,xV _ lo (hi - lo).toNat,?_,fun b hb => ?_,q⟩
 ·have e1:lo+((0:Nat):Int)*1=lo:=by simp
  have e2:(((hi - lo).toNat:Nat):Int) - ((0:Nat):Int)=dy lo hi 1:=by rw [rangeSize_one];split <;> omega
  show IsRangeIter _ _ (lo+((0:Nat):Int)*1) ((((hi - lo).toNat:Nat):Int) - ((0:Nat):Int)) 1
  rw [e1,e2]
  exact av _ rfl
 ·have e:b=(s.heap.push { cls := .type "range",data := .fields #[.int lo t,.int hi u,.int 1 v] }).objs.size:=by simpa using hb
  subst e
  exact I1.fpOk (aq _) (I1.hok.fresh (aq _))
noncomputable def vm (ta:TA):TI:=fun σ H R=>ta σ H fun vs H1 => ∃ j:Int,vs = [.int j] /\ -(2 ^ 62)<=j/\j < 2 ^ 62/\R (Itr 0 j.toNat) H1
noncomputable def uD (ta:TA):TI:=fun σ H R=>ta σ H fun vs H1 => ∃ i j:Int,vs = [.int i,.int j]/\(-(2 ^ 62)<=i/\i < 2 ^ 62 /\ -(2 ^ 62)<=j/\j < 2 ^ 62)/\R (Itr i (j - i).toNat) H1
theorem zX {a:Expr}{ta:TA}{p pos:Pos} (hg:Gl X "range") (hm:X.mg "range"=none) (ha:PA X [a] ta) (hs:starEach [a] X.env = [(false,eval a X.env)]:=by rfl):PI X tg (.Call (.Name "range" p) [a] [] pos) (vm ta):=by
 intro pins s σ H R I h
 refine Call_ (jA I hg hm boot_range (cc (thn (ha pos pins s σ H _ I h) fun us s1 ⟨vs,H1,I1,r1,q1⟩ => ?_) hs rfl))
 obtain⟨j,e,q1,q2,q⟩:=q1
 subst e
 cases r1 with
 | cons r rr=>
   cases rr
   obtain⟨t,rfl⟩:=r
   exact call_range_1 (uN I1 (by omega) (by omega) q1 q2 (by simpa using q))
theorem zQ {a b:Expr}{ta:TA}{p pos:Pos} (hg:Gl X "range") (hm:X.mg "range"=none) (ha:PA X [a,b] ta) (hs:starEach [a,b] X.env = [(false,eval a X.env),(false,eval b X.env)]:=by rfl) (hs2:starEach [b] X.env = [(false,eval b X.env)]:=by rfl) :
  PI X tg (.Call (.Name "range" p) [a,b] [] pos) (uD ta):=by
 intro pins s σ H R I h
 refine Call_ (jA I hg hm boot_range (cc (thn (ha pos pins s σ H _ I h) fun us s1 ⟨vs,H1,I1,r1,q1⟩ => ?_) (by rw [hs,hs2]) (by rw [hs2];rfl)))
 obtain⟨i,j,e,⟨q1,q2,q3,q4⟩,q⟩:=q1
 subst e
 cases r1 with
 | cons r rr=>
   cases rr with
   | cons r' rr=>
     cases rr
     obtain⟨t,rfl⟩:=r
     obtain⟨t',rfl⟩:=r'
     exact call_range_2 (uN I1 q1 q2 q3 q4 q)
noncomputable def tV (wi:TI) (g:TG) (tb:TS):TS:=fun D σ H=>wi σ H fun J H1 => ∃ W:Nat->Nat->St->Hp->Prop,(∃ m,W 0 m σ H1) /\ ∀ i m σ H,W i m σ H ->
 (J.stop i H/\D.nx σ H)\/(J.go i H /\ ∃ N:St->Hp->Prop,(∀ σ' H',N σ' H' -> ∃ m',m' < m/\W (i+1) m' σ' H') /\ ∀ x H',J.yld i H x H'->g x σ H' fun σ2 H2=>tb { D with nx:=N,ct:=N,bk:=D.nx } σ2 H2)
noncomputable def qx (fp:List Addr) (h:Heap):List (Addr×Obj):=fp.filterMap fun b=>(h.get? b).map fun o=>(b,o)
theorem j0 {fp:List Addr}{h:Heap}{b:Addr}{o:Obj} (hb:b∈fp) (e:h.get? b=some o):(b,o)∈qx fp h:=List.mem_filterMap.mpr ⟨b,hb,by rw [e];rfl⟩
theorem zJ {fp:List Addr}{h:Heap}{p:Addr×Obj} (hp:p∈qx fp h):p.1∈fp/\h.get? p.1=some p.2:=by
 obtain⟨b,hb,e⟩:=List.mem_filterMap.mp hp
 cases q:h.get? b with
 | none=>rw [q] at e;cases e
 | some o=>
   rw [q] at e
   have e':(b,o)=p:=bw e
   subst e'
   exact⟨hb,q⟩
theorem Inv.pinned {pins:List (Addr×Obj)}{σ:St}{H:Hp}{s:Shared}{fp:List Addr} (I:Inv X pins σ H s) (hf : ∀ b∈fp,q9 X pins H b) (ho : ∀ b∈fp,∃ o,s.heap.get? b=some o /\ ∀ v,o.data ≠ .cell v):Inv X (pins++qx fp s.heap) σ H s:=
 I.pins_of fun p hp=>(bS.mp hp).elim (fun z=>I.pin p (bh _ z)) fun z=>by
  obtain⟨hb,e⟩:=zJ z
  obtain⟨f0,f1,f2,_⟩:=hf p.1 hb
  obtain⟨o,e',d⟩:=ho p.1 hb
  rw [e] at e';cases e'
  exact⟨e,f0,f1,f2,d⟩
theorem Inv.unpinned {pins pl:List (Addr×Obj)}{σ:St}{H:Hp}{s:Shared} (I:Inv X (pins++pl) σ H s):Inv X pins σ H s:=I.pins_of fun p hp=>I.pin p (bh _ (b9 _ hp))
theorem A3 {iter:Expr}{body:List Stmt}{wi:TI}{g:TG}{tb:TS}{pos:Pos} (hp:PassesOwn (model X.prog X.w) X.A X.env X.xe) (hc:X.calm=true) (hi:PI X tg iter wi) (hg:PG X tg g) (hb:PSs X body tb)
  (hs : ∀ x,foldedSetIterable iter X.env x=pure x:=by intro _;rfl):PS X (.For tg iter body [] pos) (tV wi g tb):=by
 intro pins s σ H D I h
 refine wpAny_For (thn (hi pins s σ H _ I h) fun v s1 h1=>thn h1 fun itv s2 h2 => ?_) hs
 obtain⟨it,fp,tn,J,H2,e,I2,T,st2,f2,W,⟨m0,w0⟩,turn⟩:=h2
 subst e
 have stat : ∀ {H':Hp},(∀ b∈fp,H' b=none) -> ∀ b∈fp,q9 X pins H' b:=fun hn b hb=>⟨hn b hb,(f2 b hb).2⟩
 refine codeAny_forLoop_any (fun n s' => ∃ i σ' H',Inv X pins σ' H' s'/\tn i s'.heap/\(∀ b∈fp,H' b=none)/\W i n σ' H') ?_ m0 ⟨0,σ,H2,I2,st2,fun b hb=>(f2 b hb).1,w0⟩
 rintro n s3 ⟨i,σ3,H3,I3,st3,fr3,w3⟩
 rcases turn i n σ3 H3 w3 with⟨stop,qn⟩ | ⟨go,N,hN,step⟩
 ·refine fJ hp (thn (T.done X rfl rfl rfl hc i pins s3 σ3 H3 X.xe I3 (stat fr3) st3 stop) fun r s4 ⟨hr,I4⟩ => ?_)
  subst hr
  exact oU ⟨σ3,H3,I4,qn⟩
 ·refine fJ hp (thn (T.item X rfl rfl rfl hc i pins s3 σ3 H3 X.xe I3 (stat fr3) st3 go) fun r s4 ⟨u,hr,h4⟩ => ?_)
  subst hr
  refine fJ hp (thn h4 fun _ s5 ⟨x,H5,I5,r5,y5,st5,fr5⟩ => ?_)
  have I5':=I5.pinned (stat fr5) (T.obj _ _ st5)
  refine fJ hp (thn (hg _ s5 σ3 H5 x u _ I5' r5 (step x H5 y5)) fun _ s6 ⟨σ6,H6,I6,q6⟩ => ?_)
  refine fJ hp (thn (hb _ s6 σ6 H6 _ I6 q6) fun f s7 q7 => ?_)
  have again : ∀ {σ7:St}{H7:Hp},Inv X (pins++qx fp s5.heap) σ7 H7 s7->N σ7 H7 -> ∃ m,m < n /\ ∃ i σ' H',Inv X pins σ' H' s7/\tn i s7.heap/\(∀ b∈fp,H' b=none)/\W i m σ' H':=fun {σ7 H7} I7 n7=>by
   obtain⟨m',hm,w7⟩:=hN σ7 H7 n7
   refine⟨m',hm,i+1,σ7,H7,I7.unpinned,T.keep _ _ _ st5 fun b hb o e=>(I7.pin (b,o) (bh _ (bh _ (j0 hb e)))).1,fun b hb => ?_,w7⟩
   obtain⟨o,e,d⟩:=T.obj _ _ st5 b hb
   exact (I7.pin (b,o) (bh _ (bh _ (j0 hb e)))).2.1
  cases f with
  | next=>obtain⟨σ7,H7,I7,n7⟩:=q7;exact again I7 n7
  | cont=>obtain⟨σ7,H7,I7,n7⟩:=q7;exact again I7 n7
  | brk=>obtain⟨σ7,H7,I7,q7⟩:=q7;exact⟨σ7,H7,I7.unpinned,q7⟩
  | ret v=>obtain⟨x7,σ7,H7,I7,r7,q7⟩:=q7;exact⟨x7,σ7,H7,I7.unpinned,r7,q7⟩
end
theorem DK {K:ar}{a:Addr}{xs:List V}{g:TG}{tb:TS}{D:Ends}{σ:St}{H:Hp} (Pv:Nat->St->Hp->Prop) (h0:Pv 0 σ H) (hl : ∀ i σ H,i<=xs.length->Pv i σ H->SqT K H a xs)
  (hs : ∀ i x σ H,xs[i]? = some x->Pv i σ H->g x σ H fun σ2 H2=>tb { D with nx:=Pv (i+1),ct:=Pv (i+1),bk:=D.nx } σ2 H2) (hd : ∀ σ H,Pv xs.length σ H->D.nx σ H) :
  ∃ W:Nat->Nat->St->Hp->Prop,(∃ m,W 0 m σ H) /\ ∀ i m σ H,W i m σ H ->
   ((Itt K a).stop i H/\D.nx σ H)\/((Itt K a).go i H /\ ∃ N:St->Hp->Prop,(∀ σ' H',N σ' H' -> ∃ m',m' < m/\W (i+1) m' σ' H') /\ ∀ x H',(Itt K a).yld i H x H'->g x σ H' fun σ2 H2=>tb { D with nx:=N,ct:=N,bk:=D.nx } σ2 H2):=by
 refine⟨fun i m σ H=>m=xs.length - i/\i<=xs.length/\Pv i σ H,⟨xs.length,by simp,da _,h0⟩,?_⟩
 rintro i m σ H ⟨rfl,hi,p⟩
 have q:=hl i σ H hi p
 by_cases hlt:i < xs.length
 ·refine .inr ⟨⟨xs,xs[i],q,by simp [hlt]⟩,Pv (i+1),fun σ' H' p'=>⟨xs.length - (i+1),by omega,rfl,hlt,p'⟩,fun x H' y => ?_⟩
  obtain⟨e,y⟩:=y
  subst e
  exact hs i x σ _ (y xs q) p
 ·have e:i=xs.length:=by omega
  subst e
  exact .inl ⟨⟨xs,q,aq _⟩,hd σ H p⟩
theorem zx {lo:Int}{n:Nat}{g:TG}{tb:TS}{D:Ends}{σ:St}{H:Hp} (Pv:Nat->St->Hp->Prop) (h0:Pv 0 σ H)
  (hs : ∀ i σ H,i < n->Pv i σ H->g (.int (lo+i)) σ H fun σ2 H2=>tb { D with nx:=Pv (i+1),ct:=Pv (i+1),bk:=D.nx } σ2 H2) (hd : ∀ σ H,Pv n σ H->D.nx σ H) :
  ∃ W:Nat->Nat->St->Hp->Prop,(∃ m,W 0 m σ H) /\ ∀ i m σ H,W i m σ H ->
   ((Itr lo n).stop i H/\D.nx σ H)\/((Itr lo n).go i H /\ ∃ N:St->Hp->Prop,(∀ σ' H',N σ' H' -> ∃ m',m' < m/\W (i+1) m' σ' H') /\ ∀ x H',(Itr lo n).yld i H x H'->g x σ H' fun σ2 H2=>tb { D with nx:=N,ct:=N,bk:=D.nx } σ2 H2):=by
 refine⟨fun i m σ H=>m=n - i/\i<=n/\Pv i σ H,⟨n,by simp,da _,h0⟩,?_⟩
 rintro i m σ H ⟨rfl,hi,p⟩
 by_cases hlt:i < n
 ·refine .inr ⟨hlt,Pv (i+1),fun σ' H' p'=>⟨n - (i+1),by omega,rfl,hlt,p'⟩,fun x H' y => ?_⟩
  obtain⟨e,y⟩:=y
  subst e y
  exact hs i σ _ hlt p
 ·have e:i=n:=by omega
  subst e
  exact .inl ⟨aq _,hd σ H p⟩
end L2
namespace L2
open PySem PySem.Spec PyProof.Rows
abbrev R2:=V->V->Hp->VK->Prop
noncomputable def OpR (X:Cx) (f:Value->Value->Sem Value) (r:R2):Prop:=
 ∀ (pins:List (Addr×Obj)) (s:Shared) (σ:St) (H:Hp) (x y:V) (v u:Value) (Q:VK),Inv X pins σ H s->RelV x v->RelV y u->r x y H Q ->
  aB (model X.prog X.w) X.A (f v u) (EP X pins σ Q) X.xe s
noncomputable def UnR (X:Cx) (f:Value->Sem Value) (r:V->Hp->VK->Prop):Prop:=
 ∀ (pins:List (Addr×Obj)) (s:Shared) (σ:St) (H:Hp) (x:V) (v:Value) (Q:VK),Inv X pins σ H s->RelV x v->r x H Q ->
  aB (model X.prog X.w) X.A (f v) (EP X pins σ Q) X.xe s
noncomputable def gm (X:Cx) (f:Value) (r:List V->Hp->VK->Prop):Prop:=
 ∀ (pins:List (Addr×Obj)) (s:Shared) (σ:St) (H:Hp) (xs:List V) (us:List Value) (Q:VK),Inv X pins σ H s->bO xs us->r xs H Q ->
  aB (model X.prog X.w) X.A (call f us) (EP X pins σ Q) X.xe s
noncomputable def tOp (r:R2) (ta tb:TE):TE:=fun σ H Q=>ta σ H fun x H1=>tb σ H1 fun y H2=>r x y H2 Q
noncomputable def tUn (r:V->Hp->VK->Prop) (ta:TE):TE:=fun σ H Q=>ta σ H fun x H1=>r x H1 Q
noncomputable def rI (C:Int->Int->Prop) (g:Int->Int->V):R2:=fun x y H Q => ∃ i j,x = .int i/\y = .int j/\C i j/\Q (g i j) H
noncomputable def rI0 (g:Int->Int->V):R2:=fun x y H Q => ∃ i j,x = .int i/\y = .int j/\Q (g i j) H
noncomputable def rU (g:Int->V):V->Hp->VK->Prop:=fun x H Q => ∃ i,x = .int i/\Q (g i) H
section
variable {X:Cx}{a b c:Expr}{ta tb tc:TE}{pos:Pos}
theorem Gy (ha:PE X a ta) (hb:PE X b tb) {pins:List (Addr×Obj)}{s:Shared}{σ:St}{H:Hp}{R:V->V->Hp->Prop} (I:Inv X pins σ H s)
  (h:ta σ H fun x H1=>tb σ H1 fun y H2=>R x y H2) {Q:Value->Shared->Prop}{f:Value->Value->Sem Value}
  (hf : ∀ v u s2 x y H2,Inv X pins σ H2 s2->RelV x v->RelV y u->R x y H2->aB (model X.prog X.w) X.A (f v u) Q X.xe s2) :
  aB (model X.prog X.w) X.A (eval a X.env) (fun v s₁=>aB (model X.prog X.w) X.A (eval b X.env) (fun u s₂=>aB (model X.prog X.w) X.A (f v u) Q X.xe s₂) X.xe s₁) X.xe s:=by
 refine thn (ha pins s σ H _ I h) fun v s1 ⟨x,H1,I1,r1,q1⟩ => ?_
 refine thn (hb pins s1 σ H1 _ I1 q1) fun u s2 ⟨y,H2,I2,r2,q2⟩ => ?_
 exact hf v u s2 x y H2 I2 r1 r2 q2
theorem rV {op:Operator}{r:R2} (ho:OpR X (binaryOp op) r) (ha:PE X a ta) (hb:PE X b tb):PE X (.BinOp a op b pos) (tOp r ta tb):=by
 intro pins s σ H Q I h
 exact wpAny_BinOp (Gy ha hb I h fun v u s2 x y H2 I2 rx ry q=>ho pins s2 σ H2 x y v u Q I2 rx ry q)
theorem Ff {op:UnaryOp}{r:V->Hp->VK->Prop} (ho:UnR X (unaryOp op) r) (ha:PE X a ta):PE X (.UnaryOp op a pos) (tUn r ta):=by
 intro pins s σ H Q I h
 exact UnaryOp_ (thn (ha pins s σ H _ I h) fun v s1 ⟨x,H1,I1,r1,q1⟩=>ho pins s1 σ H1 x v Q I1 r1 q1)
theorem opI {f:Value->Value->Sem Value}{C:Int->Int->Prop}{g:Int->Int->Int}
  (rule : ∀ (i j:Int) (t u:Tok) (s:Shared) (Q:Value->Shared->Prop) (E:Value->Shared->Prop),C i j->Q (.int (g i j) s.toks) { s with toks:=s.toks+1 }->aB (model X.prog X.w) X.A (f (.int i t) (.int j u)) Q E s) :
  OpR X f (rI C fun i j => .int (g i j)):=by
 intro pins s σ H x y v u Q I rx ry h
 obtain⟨i,j,rfl,rfl,hc,q⟩:=h
 obtain⟨t,rfl⟩:=rx
 obtain⟨t',rfl⟩:=ry
 exact rule i j t t' s _ _ hc ⟨.int (g i j),H,I.tok _,⟨_,rfl⟩,q⟩
theorem Kl {f:Value->Value->Sem Value}{g:Int->Int->Int}
  (rule : ∀ (i j:Int) (t u:Tok) (s:Shared) (Q:Value->Shared->Prop) (E:Value->Shared->Prop),Q (.int (g i j) s.toks) { s with toks:=s.toks+1 }->aB (model X.prog X.w) X.A (f (.int i t) (.int j u)) Q E s) :
  OpR X f (rI0 fun i j => .int (g i j)):=by
 intro pins s σ H x y v u Q I rx ry h
 obtain⟨i,j,rfl,rfl,q⟩:=h
 obtain⟨t,rfl⟩:=rx
 obtain⟨t',rfl⟩:=ry
 exact rule i j t t' s _ _ ⟨.int (g i j),H,I.tok _,⟨_,rfl⟩,q⟩
theorem CQ {f:Value->Value->Sem Value}{g:Int->Int->Bool}
  (rule : ∀ (i j:Int) (t u:Tok) (s:Shared) (Q:Value->Shared->Prop) (E:Value->Shared->Prop),Q (.bool (g i j)) s->aB (model X.prog X.w) X.A (f (.int i t) (.int j u)) Q E s) :
  OpR X f (rI0 fun i j => .bl (g i j)):=by
 intro pins s σ H x y v u Q I rx ry h
 obtain⟨i,j,rfl,rfl,q⟩:=h
 obtain⟨t,rfl⟩:=rx
 obtain⟨t',rfl⟩:=ry
 exact rule i j t t' s _ _ ⟨.bl (g i j),H,I,rfl,q⟩
noncomputable def J6 (i j:Int):Prop:=0 < j/\j < 1073741824
noncomputable def KE (i j:Int):Prop:=0<=j/\j<=1000000/\i.natAbs < 2 ^ 64
noncomputable def Dd (i j:Int):Prop:=(-(2 ^ 64) < i/\i < 2 ^ 64)\/(-(2 ^ 64) < j/\j < 2 ^ 64)
theorem Dd.ok {i j:Int} (h:Dd i j):IntMulOk i j:=by
 rcases h with⟨h1,h2⟩ | ⟨h1,h2⟩
 ·exact .of_left (intBits_le_64 h1 h2)
 ·exact .of_right (intBits_le_64 h1 h2)
theorem HP:OpR X (binaryOp .Add) (rI0 fun i j => .int (i+j)):=Kl fun _ _ _ _ _ _ _ q=>add_int q
theorem Ia:OpR X (binaryOp .Sub) (rI0 fun i j => .int (i - j)):=Kl fun _ _ _ _ _ _ _ q=>sub_int q
theorem GK:OpR X (binaryOp .Mult) (rI Dd fun i j => .int (i*j)):=opI fun _ _ _ _ _ _ _ hc q=>mul_int q hc.ok
theorem DD:OpR X (binaryOp .FloorDiv) (rI J6 fun i j => .int (i / j)):=opI fun i j _ _ _ _ _ hc q=>by
 have h1:(0:Int) < j:=hc.1
 have h2:j < 1073741824:=hc.2
 exact floordiv_int (by omega) (by rw [Int.fdiv_eq_ediv_of_nonneg i (by omega)];exact q) (.inl (PyProof.noPylong_small (by omega)))
theorem GX:OpR X (binaryOp .Mod) (rI (fun _ j=>0 < j) fun i j => .int (i % j)):=opI fun i j _ _ _ _ _ hc q=>by
 have h1:(0:Int) < j:=hc
 exact mod_int' (by omega) (by rw [Int.fmod_eq_emod_of_nonneg i (by omega)];exact q)
theorem GY:OpR X (binaryOp .Pow) (rI KE fun i j => .int (i ^ j.toNat)):=opI fun _ _ _ _ _ _ _ hc q=>pow_int_small hc.1 hc.2.1 hc.2.2 q
theorem unI {f:Value->Sem Value}{g:Int->Int}
  (rule : ∀ (i:Int) (t:Tok) (s:Shared) (Q:Value->Shared->Prop) (E:Value->Shared->Prop),Q (.int (g i) s.toks) { s with toks:=s.toks+1 }->aB (model X.prog X.w) X.A (f (.int i t)) Q E s) :
  UnR X f (rU fun i => .int (g i)):=by
 intro pins s σ H x v Q I rx h
 obtain⟨i,rfl,q⟩:=h
 obtain⟨t,rfl⟩:=rx
 exact rule i t s _ _ ⟨.int (g i),H,I.tok _,⟨_,rfl⟩,q⟩
theorem B6:UnR X (unaryOp .USub) (rU fun i => .int (-i)):=unI fun _ _ _ _ _ q=>neg_int q
end
section
variable {X:Cx}{a b c:Expr}{ta tb tc:TE}{pos:Pos}
theorem Ko:OpR X (compareOp .Lt) (rI0 fun i j => .bl (decide (i < j))):=CQ fun _ _ _ _ _ _ _ q=>lt_int q
theorem JN:OpR X (compareOp .LtE) (rI0 fun i j => .bl (decide (i<=j))):=CQ fun _ _ _ _ _ _ _ q=>le_int q
theorem IX:OpR X (compareOp .Gt) (rI0 fun i j => .bl (decide (j < i))):=CQ fun _ _ _ _ _ _ _ q=>gt_int q
theorem IH:OpR X (compareOp .GtE) (rI0 fun i j => .bl (decide (j<=i))):=CQ fun _ _ _ _ _ _ _ q=>ge_int q
theorem OpR.or {f:Value->Value->Sem Value}{r r':R2} (h:OpR X f r) (h':OpR X f r'):OpR X f (fun x y H Q=>r x y H Q\/r' x y H Q):=by
 intro pins s σ H x y v u Q I rx ry q
 rcases q with q | q
 ·exact h pins s σ H x y v u Q I rx ry q
 ·exact h' pins s σ H x y v u Q I rx ry q
theorem Dg {op:CmpOp}{r:R2} (ho:OpR X (compareOp op) r) (ha:PE X a ta) (hb:PE X b tb) (hm:behindInMarks op b=false):PE X (.Compare a [op] [b] pos) (tOp r ta tb):=by
 intro pins s σ H Q I h
 exact wpAny_Compare1 (Gy ha hb I h fun v u s2 x y H2 I2 rx ry q=>ho pins s2 σ H2 x y v u Q I2 rx ry q) hm
noncomputable def Bn (t:TE):TT:=fun σ H Q=>t σ H fun x H' => ∃ k,x = .bl k/\Q k H'
theorem DQ {op:CmpOp}{r:R2} (ho:OpR X (compareOp op) r) (ha:PE X a ta) (hb:PE X b tb) (hm:behindInMarks op b=false):PT X (.Compare a [op] [b] pos) (Bn (tOp r ta tb)):=by
 intro pins s σ H Q I h
 refine wpAny_isTrue_Compare1 (thn (ha pins s σ H _ I h) fun v s1 ⟨x,H1,I1,r1,q1⟩=>thn (hb pins s1 σ H1 _ I1 q1) fun u s2 ⟨y,H2,I2,r2,q2⟩=>
  thn (ho pins s2 σ H2 x y v u _ I2 r1 r2 q2) fun c s3 ⟨z,H3,I3,r3,k,e,q3⟩ => ?_) hm
 subst e
 cases r3
 exact dw ⟨H3,I3,q3⟩
noncomputable def xu (r r':R2) (ta tb tc:TE):TE:=fun σ H Q=>ta σ H fun x H1=>tb σ H1 fun y H2=>r x y H2 fun z H3 => ∃ k,z = .bl k /\
 (if k=true then tc σ H3 fun w' H4=>r' y w' H4 Q else Q (.bl false) H3)
theorem Bc {op op':CmpOp}{r r':R2} (ho:OpR X (compareOp op) r) (ho':OpR X (compareOp op') r') (ha:PE X a ta) (hb:PE X b tb) (hc:PE X c tc)
  (hm:lastMarks [op,op'] [b,c]=false:=by with_unfolding_all rfl):PE X (.Compare a [op,op'] [b,c] pos) (xu r r' ta tb tc):=by
 intro pins s σ H Q I h
 refine Compare_chain (thn (ha pins s σ H _ I h) fun v s1 ⟨x,H1,I1,r1,q1⟩=>chain_link (thn (hb pins s1 σ H1 _ I1 q1) fun u s2 ⟨y,H2,I2,r2,q2⟩=>
  thn (ho pins s2 σ H2 x y v u _ I2 r1 r2 q2) fun d s3 ⟨z,H3,I3,r3,k,e,q3⟩ => ?_)) hm
 subst e
 cases r3
 refine dw ?_
 cases k with
 | false=>exact ite_ff ⟨.bl false,H3,I3,rfl,q3⟩
 | true=>exact ite_tt (chain_last (thn (hc pins s3 σ H3 _ I3 q3) fun w' s4 ⟨z',H4,I4,r4,q4⟩=>ho' pins s4 σ H4 y z' u w' Q I4 r2 r4 q4))
theorem Bg {op op':CmpOp}{r r':R2} (ho:OpR X (compareOp op) r) (ho':OpR X (compareOp op') r') (ha:PE X a ta) (hb:PE X b tb) (hc:PE X c tc)
  (hm:lastMarks [op,op'] [b,c]=false:=by with_unfolding_all rfl):PT X (.Compare a [op,op'] [b,c] pos) (Bn (xu r r' ta tb tc)):=by
 intro pins s σ H Q I h
 refine isTrue_chain (thn (ha pins s σ H _ I h) fun v s1 ⟨x,H1,I1,r1,q1⟩=>test_link (thn (hb pins s1 σ H1 _ I1 q1) fun u s2 ⟨y,H2,I2,r2,q2⟩=>
  thn (ho pins s2 σ H2 x y v u _ I2 r1 r2 q2) fun d s3 ⟨z,H3,I3,r3,k,e,q3⟩ => ?_)) hm
 subst e
 cases r3
 refine dw ?_
 cases k with
 | false=>
   obtain⟨k',e',q'⟩:=q3
   cases e'
   exact ite_ff ⟨H3,I3,q'⟩
 | true=>
   refine ite_tt (test_last (thn (hc pins s3 σ H3 _ I3 q3) fun w' s4 ⟨z',H4,I4,r4,q4⟩=>thn (ho' pins s4 σ H4 y z' u w' _ I4 r2 r4 q4) fun d' s5 ⟨z2,H5,I5,r5,k2,e2,q5⟩ => ?_))
   subst e2
   cases r5
   exact dw ⟨H5,I5,q5⟩
theorem qD:(sizeLine:Nat) < 2 ^ 63:=by rw [sizeLine_eq];decide
theorem vals1 {x:V}{us:List Value} (r:bO [x] us) : ∃ u,us = [u]/\RelV x u:=by
 cases r with
 | cons r1 r2=>cases r2;exact⟨_,rfl,r1⟩
theorem vals2 {x y:V}{us:List Value} (r:bO [x,y] us) : ∃ u w',us = [u,w']/\RelV x u/\RelV y w':=by
 cases r with
 | cons r1 r2=>
   cases r2 with
   | cons r3 r4=>cases r4;exact⟨_,_,rfl,r1,r3⟩
theorem zI (hc:X.calm=true):gm X (.builtin "max") (fun xs H Q => ∃ i j,xs = [.int i,.int j]/\Q (.int (if j > i then j else i)) H):=by
 intro pins s σ H xs us Q I r h
 obtain⟨i,j,rfl,q⟩:=h
 obtain⟨u,w',rfl,⟨t,rfl⟩,⟨t',rfl⟩⟩:=vals2 r
 refine max_two_ints (I.ok.hd hc) fun h' tk k=>⟨_,H,I.kept k,?_,q⟩
 by_cases hj:j > i
 ·rw [if_pos hj,if_pos hj];exact⟨_,rfl⟩
 ·rw [if_neg hj,if_neg hj];exact⟨_,rfl⟩
theorem z0 (hc:X.calm=true):gm X (.builtin "min") (fun xs H Q => ∃ i j,xs = [.int i,.int j]/\Q (.int (if j < i then j else i)) H):=by
 intro pins s σ H xs us Q I r h
 obtain⟨i,j,rfl,q⟩:=h
 obtain⟨u,w',rfl,⟨t,rfl⟩,⟨t',rfl⟩⟩:=vals2 r
 refine min_two_ints (I.ok.hd hc) fun h' tk k=>⟨_,H,I.kept k,?_,q⟩
 by_cases hj:j < i
 ·rw [if_pos hj,if_pos hj];exact⟨_,rfl⟩
 ·rw [if_neg hj,if_neg hj];exact⟨_,rfl⟩
end
end L2
namespace L2
open PySem PySem.Spec PyProof.Rows
structure HM (h:Heap) (x dx C:Addr) (mA:Str->Option Value):Prop where
 obj:h.get? x=some (rD C dx)
 ns:h.Ns1 dx mA
 ne:dx≠x
theorem zU {h:Heap}{dx:Addr}{mA:Str->Option Value} (n:h.Ns1 dx mA) : ∃ od,h.get? dx=some od /\ ∀ name,ur name od=some (mA name):=by
 obtain⟨o,es,ep,ho,hd,hk,_,hm⟩:=n
 refine⟨o,ho,fun name => ?_⟩
 have e:=hm name
 unfold nsFind findBy at e
 rw [<- Array.find?_toList] at e
 unfold ur
 rw [hd]
 dsimp only
 split
 ·rename_i y q
  rw [q] at e
  exact congrArg some e
 ·rename_i q
  rw [q] at e
  have a:es.toList.any (·.refKey)=false:=by
   rw [qP]
   intro y hy
   obtain⟨z,t,hkey⟩:=hk y (Array.mem_toList_iff.mp hy)
   simp [DictEntry.refKey,hkey]
  have a' : ¬ es.toList.any (·.refKey)=true:=by rw [a];exact bj
  rw [if_neg a']
  exact congrArg some e
theorem HM.look {h:Heap}{x dx C:Addr}{mA:Str->Option Value} (I:HM h x dx C mA) : ∃ od,PySem.W.InstAt h x (rD C dx) C (some od) /\ ∀ name,ur name od=some (mA name):=
 let ⟨od,ho,hl⟩:=zU I.ns
 ⟨od,⟨I.obj,rfl,rfl,ho⟩,hl⟩
section
variable {prog:Program}{w:World}{A:Around}{E:Value->Shared->Prop}{s:Shared}{K:ar}{x dx C f:Addr}{mA:Str->Option Value}{name:Str}{v:Value}
end
theorem qE.some_of {v:V}{o:Option Value} (r:qE (some v) o) : ∃ u,o=some u/\RelV v u:=by
 cases o with
 | none=>exact (show False from r).elim
 | some u=>exact⟨u,rfl,r⟩
section
variable {P:Program}{w:World}{H H':Hp}{h h':Heap}{a C dx:Addr}{fs fs':List (Str×V)}
theorem CY (hok:HOk P w H h) (e:H a=some (.ins C dx fs)) : ∃ mA,HM h a dx C mA/\(∀ f,qE (fs.lookup f) (mA f))/\PySem.Within mA (fs.map (·.1))/\fs.length<=1000/\H dx=some (.own a):=by
 obtain⟨d,z,ne,ob,mA,n,r,q⟩:=(show dJ P w H h a (.ins C dx fs) from hok a _ e)
 exact⟨mA,⟨ob,n,ne⟩,r,q,z,d⟩
end
structure Cls (K:ar) (C:Addr):Prop where
 pg:PySem.W.plainGet K C Str.empty=true
 hd:PySem.W.hasDictIn K C=true
 po:PySem.W.plainOver K C=true
 sa:jB K (.ref C) "__setattr__"=some (some (.builtin "object.__setattr__"))
theorem Cls.get {K:ar}{C:Addr} (c:Cls K C) (f:Str):PySem.W.plainGet K C f=true:=c.pg
structure Con (K:ar) (C:Addr) (f:Str) (v:V) (u:Value):Prop where
 at_:jB K (.ref C) f=some (some u)
 rel:RelV v u
 get:CF K u "__get__"=some none
 cp:PySem.W.copiedNames.contains f=false
structure LF (K:ar) (C:Addr) (m:Str) (f:Addr):Prop where
 at_:jB K (.ref C) m=some (some (.ref f))
 fn:PySem.W.isFn K (.ref f)=true
 kp:di K (.ref f)=true
section
variable {X:Cx}{pins:List (Addr×Obj)}{σ:St}{H:Hp}{s:Shared}{a C dx:Addr}{fs:List (Str×V)}{f:Str}{v:V}{A:Around}{E:Value->Shared->Prop}
end
section
variable {X:Cx}{o e value:Expr}{f:Str}{pos pos' tpos:Pos}{ta tv:TE}
end
section
variable {X:Cx}{pins:List (Addr×Obj)}{σ:St}{H:Hp}{s:Shared}{A:Around}{E:Value->Shared->Prop}{Q:Value->Shared->Prop}{c:Value}{b:Bool}
inductive m7 (K:ar) (H:Hp):V->Value->Prop where
 | non:m7 K H .non (.type "NoneType")
 | bl (x:Bool):m7 K H (.bl x) (.type "bool")
 | int (i:Int):m7 K H (.int i) (.type "int")
 | str (x:Str):m7 K H (.str x) (.type "str")
 | flt (x:UInt64):m7 K H (.flt x) (.type "float")
 | lst {a:Addr}{xs:List V} (e:H a=some (.lst xs)):m7 K H (.ref a) (.type "list")
 | frz {a:Addr}{o:Obj}{xs:List V} (e:H a=some (.frz o (.lst xs))):m7 K H (.ref a) (.type "list")
 | tup {a:Addr}{xs:List V} (e:H a=some (.tup xs)):m7 K H (.ref a) (.type "tuple")
 | dK {a:Addr}{kvs:List (Key×V)} (e:H a=some (.dK kvs)):m7 K H (.ref a) (.type "dict")
 | dT {a:Addr}{kvs:List (List Key×V)} (e:H a=some (.dT kvs)):m7 K H (.ref a) (.type "dict")
 | ins {a C dx:Addr}{fs:List (Str×V)} (e:H a=some (.ins C dx fs)) (cl:Cls K C) (ha:jB K (.ref C) "__class__"=some (some (.builtin "object.__class__")))
   (hn:CF K (.builtin "object.__class__") "__get__"=some (some (.builtin "getset_descriptor.__get__"))) (htk:PySem.W.takesIn K (.builtin "object.__class__")=some true)
   (hm:PySem.W.mroIn K C (.type "object")=some true):m7 K H (.ref a) (.ref C)
theorem zA {x:V}{u t:Value} (I:Inv X pins σ H s) (rx:RelV x u) (ty:m7 X.K H x t) (e:PySem.W.kitOne X.K t c=some b) (h : ∀ tk,Q (.bool b) { s with toks:=tk }) :
  aB (model X.prog X.w) A (call (.builtin "isinstance") [u,c]) Q E s:=by
 cases ty with
 | non=>cases (show u=dk from rx);exact cP PySem.W.kitx_none I.kIn eU e (fun z=>nomatch z) h
 | bl y=>cases (show u=wC y from rx);exact cP PySem.W.kitx_bool I.kIn eU e (fun z=>nomatch z) h
 | int i=>obtain⟨t,q⟩:=(show ∃ t,u=lu i t from rx);cases q;exact cP PySem.W.kitx_int I.kIn eU e (fun z=>nomatch z) h
 | str y=>obtain⟨t,q⟩:=(show ∃ t,u=rC y t from rx);cases q;exact cP PySem.W.kitx_str I.kIn eU e (fun z=>nomatch z) h
 | flt y=>obtain⟨t,q⟩:=(show ∃ t,u=Value.float y t from rx);cases q;exact cP PySem.W.kitx_float I.kIn eU e (fun z=>nomatch z) h
 | @lst a xs ea=>
   cases (show u=aT a from rx)
   obtain⟨_,_,n,_,h1⟩:=(show dJ X.prog X.w H s.heap a (.lst xs) from I.hok a _ ea)
   exact cP CG I.kIn ⟨_,h1,rfl⟩ e (fun z=>nomatch z) h
 | @frz a ob xs ea=>
   cases (show u=aT a from rx)
   obtain⟨_,_,_,n,_,h1⟩:=(show dJ X.prog X.w H s.heap a (.frz ob (.lst xs)) from I.hok a _ ea)
   exact cP CG I.kIn ⟨_,h1,rfl⟩ e (fun z=>nomatch z) h
 | @tup a xs ea=>
   cases (show u=aT a from rx)
   obtain⟨_,_,_,p⟩:=(show dJ X.prog X.w H s.heap a (.tup xs) from I.hok a _ ea)
   obtain⟨o,h1,h2,_⟩:=p.1
   exact cP PySem.W.kitx_tuple I.kIn ⟨o,h1,h2⟩ e (fun z=>nomatch z) h
 | @dK a kvs ea=>
   cases (show u=aT a from rx)
   obtain⟨_,_,vs,_,p⟩:=(show dJ X.prog X.w H s.heap a (.dK kvs) from I.hok a _ ea)
   obtain⟨o,es,ep,h1,h2,_⟩:=p
   exact cP CH I.kIn ⟨o,h1,h2.1⟩ e (fun z=>nomatch z) h
 | @dT a kvs ea=>
   cases (show u=aT a from rx)
   obtain⟨_,_,xs,_,o,es,ep,h1,h2,_⟩:=(show dJ X.prog X.w H s.heap a (.dT kvs) from I.hok a _ ea)
   exact cP CH I.kIn ⟨o,h1,h2.1⟩ e (fun z=>nomatch z) h
 | @ins a C dx fs ea cl ha hn htk hm=>
   cases (show u=aT a from rx)
   obtain⟨mA,O,_⟩:=CY I.hok ea
   obtain⟨od,J,_⟩:=O.look
   exact cP (PySem.W.kitx_own (cl.get _) cl.hd ha hn htk hm) I.kIn J e (fun z=>nomatch z) h
end
end L2
namespace L2
open PySem PySem.Spec PyProof.Rows
structure jM (k:Nat) (A:Around):Prop where
 hd:A.handled=none
 dp:A.depth+3*k+5 < recursionLimit
 un:A.units+16*k+200 < cLine
 gu:A.guards=some []
theorem jM.mono {j k:Nat}{A:Around} (r:jM k A) (h:j<=k):jM j A:=⟨r.hd,by have:=r.dp;omega,by have:=r.un;omega,r.gu⟩
theorem jM.deeper {k:Nat}{A:Around} (r:jM (k+1) A) (env:Env):jM k (A.deeper env):=
 ⟨r.hd,by have:=r.dp;show A.depth+1+3*k+5 < _;omega,by have:=r.un;show A.units+3+16*k+200 < _;omega,r.gu⟩
theorem jM.depth {k:Nat}{A:Around} (r:jM k A):A.depth < recursionLimit:=by have:=r.dp;omega
theorem jM.units {k:Nat}{A:Around} (r:jM k A):A.units+64 < cLine:=by have:=r.un;omega
noncomputable def uJ:TA:=fun _ H Q=>Q [] H
noncomputable def oM (ta:TE) (tr:TA):TA:=fun σ H Q=>ta σ H fun x H1=>tr σ H1 fun xs H2=>Q (x::xs) H2
section
variable {X:Cx}{e:Expr}{es:List Expr}{te:TE}{t:TA}{pos:Pos}
theorem og:PA X [] uJ:=fun _ _ _ _ H Q I h=>Calls.spliced_nil ⟨[],H,I,.nil,h⟩
theorem j3 (ha:PE X e te) (hr:PA X es t) (hs:starEach (e::es) X.env=(false,eval e X.env)::starEach es X.env:=by rfl):PA X (e::es) (oM te t):=by
 intro pos pins s σ H Q I h
 rw [hs]
 show aB _ _ (spliced ((false,eval e X.env)::backTo pos (starEach es X.env))) _ _ s
 refine Calls.spliced_cons (thn (ha pins s σ H _ I h) fun u s1 ⟨x,H1,I1,r1,q1⟩ => ?_)
 exact thn (hr pos pins s1 σ H1 _ I1 q1) fun us s2 ⟨xs,H2,I2,r2,q2⟩=>⟨x::xs,H2,I2,.cons r1 r2,q2⟩
noncomputable def JQ (t:TA):TE:=fun σ H Q=>t σ H fun xs H1=>xs.length<=sizeLine /\ ∀ p,H1 p=none->Q (.ref p) (upd H1 p (.tup xs))
noncomputable def JD (t:TA):TE:=fun σ H Q=>t σ H fun xs H1=>xs.length<=sizeLine /\ ∀ p,H1 p=none->Q (.ref p) (upd H1 p (.lst xs))
theorem Hm {x1} (h:PA X es t):PE X (.Tuple es x1 pos) (JQ t):=by
 intro pins s σ H Q I hq
 refine wpAny_Tuple_spliced (thn (h pos pins s σ H _ I hq) fun us s1 ⟨xs,H1,I1,r,z,q⟩=>⟨by rw [<- r.length];exact z,?_⟩)
 have hf:H1 s1.heap.objs.size=none:=I1.hok.fresh (aq _)
 refine⟨.ref s1.heap.objs.size,upd H1 s1.heap.objs.size (.tup xs),I1.laid (t':=s1.toks) (fun b u e=>ak _ e) (aq _) ?_,rfl,q _ hf⟩
 exact⟨z,us,r,⟨_,av _ rfl,rfl,_,rfl⟩,_,av _ rfl,rfl⟩
theorem Hl (h:PA X es t):PE X (.List es pos) (JD t):=by
 intro pins s σ H Q I hq
 refine wpAny_List_spliced (thn (h pos pins s σ H _ I hq) fun us s1 ⟨xs,H1,I1,r,z,q⟩=>⟨by rw [<- r.length];exact z,?_⟩)
 have hf:H1 s1.heap.objs.size=none:=I1.hok.fresh (aq _)
 refine⟨.ref s1.heap.objs.size,upd H1 s1.heap.objs.size (.lst xs),I1.laid (t':=s1.toks) (fun b u e=>ak _ e) (aq _) ?_,rfl,q _ hf⟩
 exact⟨z,us,0,r,av _ rfl⟩
end
abbrev Sp:=List V->Hp->VK->XK->Prop
abbrev CXT:=List Env->Hp->Shared->XK->Value->Shared->Prop
structure EK (P:Program) (w:World) (K:ar) (mg:Str->Option Value) (base:Heap) (A:Around) (outer:List Env) (s:Shared) (H:Hp):Prop where
 frames:A.frames=some outer
 mod:Mod K mg base
 bs : ∀ b o,base.get? b=some o->s.heap.get? b=some o/\H b=none
 bsz:base.objs.size<=s.heap.objs.size
 funs:s.heap.FunFrames base outer
 frf : ∀ b∈frs outer,H b=none
 hok:HOk P w H s.heap
 bare:AllBare s.gens
noncomputable def CE (outer:List Env) (P:Program) (w:World) (H:Hp) (s:Shared) (Q:VK) (u:Value) (s':Shared):Prop:=
 ∃ v H',s'.os=s.os/\AllBare s'.gens/\Un (frs outer) [] H H' s.heap s'.heap/\HOk P w H' s'.heap/\RelV v u/\Q v H'
noncomputable def CR (CX:CXT) (outer:List Env) (P:Program) (w:World) (H:Hp) (s:Shared) (Q:VK) (E:XK) (r:Result) (s':Shared):Prop:=
 match r with
 | .ok (.ret u)=>CE outer P w H s Q u s'
 | .ok _=>False
 | .error e=>CX outer H s E e s'
structure nQ (P:Program) (w:World) (K:ar) (mg:Str->Option Value) (base:Heap) (CX:CXT) (k:Nat) (f:Addr) (fd:FuncData) (ps:List Str) (sp:Sp):Prop where
 len : ∀ vs H Q E,sp vs H Q E->vs.length=ps.length
 run : ∀ (A:Around) (outer:List Env) (s:Shared) (H:Hp) (args:Args) (us:List Value) (vs:List V) (Q:VK) (E:XK),jM k A->EK P w K mg base A outer s H->BindsTo s fd args (ps.zip us)->bO vs us->sp vs H Q E ->
  oJ (model P w) A (.call (.ref f) args) (CR CX outer P w H s Q E) s
section
variable {X:Cx}{pins:List (Addr×Obj)}{σ:St}{H:Hp}{s s':Shared}
theorem Inv.env0 (I:Inv X pins σ H s):EK X.prog X.w X.K X.mg X.base X.A X.stack s H:=
 ⟨I.ok.frames,I.ok.mod,I.bs,be I.ok.bsz I.sz,I.stack,I.stkFree,I.hok,I.bare⟩
theorem Inv.after {Q:VK}{u:Value} (I:Inv X pins σ H s) (h:CE X.stack X.prog X.w H s Q u s'):EP X pins σ Q u s':=by
 obtain⟨v,H',os,bare,un,hok,r,q⟩:=h
 obtain⟨hh,g,d,t,os'⟩:=s'
 obtain rfl:os'=s.os:=os
 exact⟨v,H',I.call (h':=hh) (g':=g) (d':=d) (t':=t) (ch := []) un hok bare (fun b z=>absurd z (by simp)),r,q⟩
end
noncomputable def Cm (sp:Sp) (dvs:List V) (E:XK) (t:TA):TE:=fun σ H Q=>t σ H fun vs H1=>sp (vs++dvs) H1 Q E
noncomputable def Binds (K:ar) (fd:FuncData) (ps:List Str) (ds:List Value):Prop:=
 ∀ (s:Shared) (us:List Value),K.In s.heap->(us++ds).length=ps.length->BindsTo s fd ⟨us,[]⟩ (ps.zip (us++ds))
theorem Binds.all {K:ar}{fd:FuncData}{ps:List Str} (h : ∀ us:List Value,us.length=ps.length->bindArgs fd ⟨us,[]⟩=pure (ps.zip us)):Binds K fd ps []:=fun s us _ hl=>by
 rw [fe] at hl ⊢
 exact .of_eq (h us hl)
noncomputable def tR (CX:CXT) (X:Cx) (E:XK):Prop := ∀ (pins:List (Addr×Obj)) (σ:St) (H:Hp) (s:Shared) (e:Value) (s':Shared),Inv X pins σ H s->CX X.stack H s E e s'->X.xe e s'
section
variable {X:Cx}{CX:CXT}{k:Nat}{f C:Addr}{fd:FuncData}{ps:List Str}{sp:Sp}{dvs:List V}{ds:List Value}{E:XK}{x m:Str}{p pos apos:Pos}{e o:Expr}{es:List Expr}{ta:TE}{t:TA}
theorem AB {pins:List (Addr×Obj)}{σ:St}{H:Hp}{s:Shared}{Q:VK}{us:List Value}{vs:List V} (F:nQ X.prog X.w X.K X.mg X.base CX k f fd ps sp) (hr:jM k X.A) (hb:Binds X.K fd ps ds) (hd:bO dvs ds) (hx:tR CX X E)
  (I:Inv X pins σ H s) (r:bO vs us) (h:sp (vs++dvs) H Q E):aB (model X.prog X.w) X.A (call (.ref f) us) (EP X pins σ Q) X.xe s:=by
 have r2:bO (vs++dvs) (us++ds):=r.append hd
 have hl:(us++ds).length=ps.length:=by rw [<- r2.length];exact F.len _ _ _ _ h
 refine wpAny_call (iW (F.run X.A X.stack s H ⟨us,[]⟩ (us++ds) (vs++dvs) Q E hr I.env0 (hb s us I.kIn hl) r2 h) fun r s' hq => ?_)
 cases r with
 | error e=>exact hx pins σ H s e s' I hq
 | ok fl=>
   cases fl with
   | ret u=>exact I.after hq
   | next=>exact dm hq
   | brk=>exact dm hq
   | cont=>exact dm hq
theorem CZ (F:nQ X.prog X.w X.K X.mg X.base CX k f fd ps sp) (hr:jM k X.A) (hg:Gl X x) (hm:X.mg x=some (.ref f)) (hk:di X.K (.ref f)=true) (hb:Binds X.K fd ps ds) (hd:bO dvs ds) (hx:tR CX X E)
  (ha:PA X (e::es) t) (hdb:(x == ("__debug__":Str))=false:=by decide) (he:starEach (e::es) X.env=(false,eval e X.env)::starEach es X.env:=by rfl) (hpl:(backTo pos (starEach es X.env)).any (·.1)=false:=by rfl) :
  PE X (.Call (.Name x p) (e::es) [] pos) (Cm sp dvs E t):=by
 intro pins s σ H Q I h
 refine fw (tN I hg hm ?_ hdb)
 refine PySem.W.callWith_K (h₀:=X.base) I.ok.mod.kin hk (thn (ha pos pins s σ H _ I h) fun us s1 ⟨vs,H1,I1,r,q⟩=>⟨I1.kIn,?_⟩) he hpl
 exact AB F hr hb hd hx I1 r q
theorem B1 (F:nQ X.prog X.w X.K X.mg X.base CX k f fd ps sp) (hr:jM k X.A) (hg:Gl X x) (hm:X.mg x=some (.ref f)) (hk:di X.K (.ref f)=true) (hb:Binds X.K fd ps ds) (hd:bO dvs ds) (hx:tR CX X E)
  (hdb:(x == ("__debug__":Str))=false:=by decide):PE X (.Call (.Name x p) [] [] pos) (Cm sp dvs E uJ):=by
 intro pins s σ H Q I h
 refine fw (tN I hg hm ?_ hdb)
 exact PySem.W.callWith_K0 I.kIn hk (AB (us := []) F hr hb hd hx I .nil h)
structure Mk (K:ar) (C f:Addr):Prop where
 makes:PySem.W.makesIn K C=true
 init:jB K (.ref C) "__init__"=some (some (.ref f))
 fn:PySem.W.isFn K (.ref f)=true
 kp:di K (.ref C)=true
end
section
variable {X:Cx}{CX:CXT}{k:Nat}{f C:Addr}{fd:FuncData}{ps ks:List Str}{sp:Sp}{E:XK}{x m:Str}{p pos apos kpos:Pos}{e o:Expr}{es:List Expr}{kws:List Keyword}{te ta:TE}{t tk:TA}{nm:Option Str}
structure Ld (K:ar) (fd:FuncData) (ps ks:List Str) (g:List Value->List Value->List Value) (gV:List V->List V->List V):Prop where
 to : ∀ (s:Shared) (us ws:List Value),K.In s.heap->(g us ws).length=ps.length->BindsTo s fd ⟨us,ks.zip ws⟩ (ps.zip (g us ws))
 rel : ∀ {vs:List V}{us:List Value}{zs:List V}{ws:List Value},bO vs us->bO zs ws->bO (gV vs zs) (g us ws)
variable {g:List Value->List Value->List Value}{gV:List V->List V->List V}
end
structure bM (N P:List Str) (sc:Scope):Prop where
 kind:sc.kind = .function
 co:sc.isCoroutine=false
 gen:sc.isGenerator=false
 nd:N.Nodup
 pre:N.take P.length=P
 par : ∀ x∈P,sc.names.lookup x=some .local\/sc.names.lookup x=some .cell
 nofree : ∀ y∈sc.names,y.2 ≠ .free
theorem rP {kindOf:Str->Option NameKind}{x:Str} : ∀ {binds:List (Str×Value)}{m:Str->Option Value},(∀ v,(x,v)∉binds)->bindL kindOf binds m x=m x
 | [],_,_=>rfl
 | (n,v)::r,m,h=>by
   unfold bindL
   rw [rP fun w hw=>h w (aO _ hw)]
   split
   ·have:x≠n:=by rintro rfl;exact h v cX
    simp [this]
   ·rfl
theorem rH {kindOf:Str->Option NameKind}{x:Str} : ∀ {binds:List (Str×Value)}{m:Str->Option Value},(∀ v,(x,v)∉binds)->bindC kindOf binds m x=m x
 | [],_,_=>rfl
 | (n,v)::r,m,h=>by
   unfold bindC
   rw [rH fun w hw=>h w (aO _ hw)]
   split
   ·rfl
   ·have:x≠n:=by rintro rfl;exact h v cX
    simp [this]
theorem sd {kindOf:Str->Option NameKind}{x:Str}{v:Value} : ∀ {P:List Str}{vs:List Value}{i:Nat}{m:Str->Option Value},P.Nodup->P[i]? = some x->vs[i]? = some v->kindOf x=some .local ->
  bindL kindOf (P.zip vs) m x=some v
 | [],_,_,_,_,h,_,_=>by simp at h
 | _::_,[],_,_,_,_,h,_=>by simp at h
 | p::P,w::vs,0,m,nd,h1,h2,hk=>by
   simp at h1 h2;subst h1;subst h2
   show bindL kindOf ((p,w)::P.zip vs) m p=_
   unfold bindL
   rw [rP fun v hv=>(eh.mp nd).1 (uA hv).1,if_pos hk]
   simp
 | p::P,w::vs,i+1,m,nd,h1,h2,hk=>by
   show bindL kindOf ((p,w)::P.zip vs) m x=_
   unfold bindL
   exact sd (i:=i) (eh.mp nd).2 (by simpa using h1) (by simpa using h2) hk
theorem so {kindOf:Str->Option NameKind}{x:Str}{v:Value} : ∀ {P:List Str}{vs:List Value}{i:Nat}{m:Str->Option Value},P.Nodup->P[i]? = some x->vs[i]? = some v->kindOf x≠some .local ->
  bindC kindOf (P.zip vs) m x=some v
 | [],_,_,_,_,h,_,_=>by simp at h
 | _::_,[],_,_,_,_,h,_=>by simp at h
 | p::P,w::vs,0,m,nd,h1,h2,hk=>by
   simp at h1 h2;subst h1;subst h2
   show bindC kindOf ((p,w)::P.zip vs) m p=_
   unfold bindC
   rw [rH fun v hv=>(eh.mp nd).1 (uA hv).1,if_neg hk]
   simp
 | p::P,w::vs,i+1,m,nd,h1,h2,hk=>by
   show bindC kindOf ((p,w)::P.zip vs) m x=_
   unfold bindC
   exact so (i:=i) (eh.mp nd).2 (by simpa using h1) (by simpa using h2) hk
noncomputable def start (N:List Str) (vs:List V):St:=vs.map some++aE (N.length - vs.length) none
noncomputable def xo (CX:CXT) (P:Program) (w:World) (K:ar) (mg:Str->Option Value) (base:Heap) (N:List Str) (qual:Str) (scope:Scope) (f:Addr) (cd:Value) (A:Around) (outer:List Env) (s:Shared) (H:Hp) (E:XK):Cx where
 prog:=P
 w:=w
 K:=K
 mg:=mg
 base:=base
 A:=A.deeper (envOfC qual scope s.heap.objs.size f cd)
 N:=N
 s₀:=s
 H₀:=H
 env:=envOfC qual scope s.heap.objs.size f cd
 outer:=outer
 stack:=envOfC qual scope s.heap.objs.size f cd::outer
 ex := []
 calm:=true
 fn:=fun _=>true
 pn := []
 xe:=fun e s'=>aB (model P w) (A.deeper (envOfC qual scope s.heap.objs.size f cd)) (leaving (envOfC qual scope s.heap.objs.size f cd) e) (fun _ s''=>CX outer H s E e s'') (fun e' s''=>CX outer H s E e' s'') s'
theorem vn {sc:Scope}{n:Nat}{x:Str} (h:sc.names.lookup x=some .cell) : ∃ c,(cellsFrom n sc.names []).lookup x=some c:=by
 have q:=gJ sc.names n [] (.inl h)
 exact fX.mp q
theorem zw {CX:CXT}{P:Program}{w:World}{K:ar}{mg:Str->Option Value}{base:Heap}{N ps:List Str}{qual:Str}{scope:Scope}{f:Addr}{cd:Value}{A:Around}{outer:List Env}{s s1:Shared}{H:Hp}{E:XK}{us:List Value}{vs:List V}
  (S:bM N ps scope) (hd:A.handled=none) (e0:EK P w K mg base A outer s H) (hl:vs.length=ps.length) (r:bO vs us)
  (x:InCallC s s.heap.objs.size (bindL (envOfC qual scope s.heap.objs.size f cd).kindOf (ps.zip us) fun _=>none) (cellsFrom (s.heap.objs.size+1) scope.names []) (bindC (envOfC qual scope s.heap.objs.size f cd).kindOf (ps.zip us) fun _=>none) s1) :
  Inv (xo CX P w K mg base N qual scope f cd A outer s H E) [] (start N vs) H s1:=by
 have hpl:ps.length<=N.length:=by have:=congrArg uu S.pre;rw [cg] at this;omega
 obtain⟨h1,tk,rfl,hk⟩:=x.done
 have noA : ∀ b:Addr,b∉(xo CX P w K mg base N qual scope f cd A outer s H E).ex:=fun b z=>absurd (show b∈([]:List Addr) from z) (by simp)
 refine⟨⟨e0.mod,S.kind,rfl,rfl,aq _,fun y z c h1 h2 => ?_,fun y hy => ?_,fun y c _ h => ?_,fun _=>hd,Around.frames_deeper e0.frames,.inr ⟨rfl,rfl⟩,fun b z=>absurd z (noA b),e0.bs,e0.bsz,fun b _ _=>noA b,fun b z=>absurd z (noA b),e0.funs,e0.frf⟩,
  rfl,e0.bare,Un.kept hk,⟨_,x.toInCall.ns,fun i y v h1 h2 h3 => ?_⟩,fun y c h=>⟨_,x.cell y c h⟩,e0.hok.fresh (aq _),fun y c h => ?_,fun p hp=>absurd (show p∈([]:List (Addr×Obj)) from hp) (by simp),e0.hok.kept hk,?_⟩
 ·exact name_of_addr x.apart (bZ h1) (bZ h2)
 ·have hy:scope.names.lookup y=some .cell\/scope.names.lookup y=some .free:=hy
  rcases hy with hy | hy
  ·exact vn hy
  ·exact absurd rfl (S.nofree _ (bZ hy))
 ·exact cK (x.above y c (bZ h))
 ·have hi:i < vs.length:=by
   unfold start at h2
   by_cases hi:i < vs.length
   ·exact hi
   ·rw [ax (by simpa using hi)] at h2
    rw [gK] at h2
    split at h2 <;> cases h2
  have ha:vs[i]? = some v:=by
   unfold start at h2
   rw [aS (by simpa using hi),ek] at h2
   cases e:vs[i]? with
   | none=>rw [e] at h2;cases h2
   | some a=>rw [e] at h2;cases h2;rfl
  obtain⟨u,hu,rv⟩:=r.get ha
  have hp:ps[i]? = some y:=by
   rw [<- S.pre,List.getElem?_take_of_lt (by omega)];exact h1
  have ndP:ps.Nodup:=by rw [<- S.pre];exact S.nd.sublist (List.take_sublist _ _)
  refine⟨u,rv,?_⟩
  rcases S.par y (dG hp) with k | k
  ·exact .inl ⟨k,sd ndP hp hu k⟩
  ·obtain⟨c,e⟩:=vn (n:=s.heap.objs.size+1) k
   refine .inr ⟨.inl k,c,e,?_⟩
   have q:=x.cell y c e
   rw [so ndP hp hu (by show scope.names.lookup y≠_;rw [k];decide)] at q
   exact q
 ·exact e0.hok.fresh (cK (x.above y c (bZ h)))
 ·unfold start
  show _=N.length
  rw [aI,ay,iD]
  omega
theorem BP {CX:CXT}{P:Program}{w:World}{K:ar}{mg:Str->Option Value}{base:Heap}{k:Nat}{f:Addr}{name qual:Str}{params:Arguments}{body:List Stmt}{scope:Scope}{dV kV doc pm cdv ct oc:Value}{an od:Option Addr}
  {osl:Array (Option Value)}{N ps:List Str}{sp:Sp} (lk:K.lookup f=some ⟨oc,od,.func (dA name qual params body scope dV kV doc pm an cdv ct),osl⟩) (hcd:jC K cdv qual=true) (S:bM N ps scope)
  (len : ∀ vs H Q E,sp vs H Q E->vs.length=ps.length)
  (hbody : ∀ (A:Around) (outer:List Env) (s:Shared) (H:Hp) (vs:List V) (Q:VK) (E:XK),jM k (A.deeper (envOfC qual scope s.heap.objs.size f cdv))->sp vs H Q E ->
   ∃ t,PSs (xo CX P w K mg base N qual scope f cdv A outer s H E) body t/\t { nx:=fun _ H'=>Q .non H',rt:=Q } (start N vs) H) :
  nQ P w K mg base CX (k+1) f (dA name qual params body scope dV kV doc pm an cdv ct) ps sp:=by
 refine⟨len,fun A outer s H args us vs Q E hr e0 hb r hsp => ?_⟩
 have hl:=len _ _ _ _ hsp
 have KX:K.In s.heap:=e0.mod.kin.keeps fun b o e=>(e0.bs b o e).1
 have lim:s.heap.NoLimit:=e0.mod.nolimit.keeps fun b o e=>(e0.bs b o e).1
 have hkind : ∀ y∈ps.zip us,scope.names.lookup y.1=some .local\/(scope.names.lookup y.1=some .cell/\((cellsFrom (s.heap.objs.size+1) scope.names []).lookup y.1).isSome=true):=fun⟨n,v⟩ hy=>by
  rcases S.par n (uA hy).1 with q | q
  ·exact .inl q
  ·exact .inr ⟨q,gJ _ _ _ (.inl q)⟩
 refine codeAny_call_function hr.depth (KX _ _ lk) rfl S.co S.gen rfl (PySem.W.codeRec_of KX hcd) (hb _ _ _ _ ?_)
 refine wpAny_newFunctionEnv_cells S.kind hkind fun env he s1 x => ?_
 subst he
 refine⟨lim.keeps x.toInCall.keep,codeAny_func ?_⟩
 obtain⟨t,ht,hq⟩:=hbody A outer s H vs Q E (hr.deeper _) hsp
 have I:Inv (xo CX P w K mg base N qual scope f cdv A outer s H E) [] (start N vs) H s1:=zw S hr.hd e0 hl r x
 refine cR (ht [] s1 (start N vs) H _ I hq) (fun fl s' hs => ?_) fun e s' hs=>hs
 have fin : ∀ {σ':St}{H':Hp}{v:V}{u:Value},Inv (xo CX P w K mg base N qual scope f cdv A outer s H E) [] σ' H' s'->RelV v u->Q v H'->CE outer P w H s Q u s':=
  fun {σ' H' v u} J rv q=>⟨v,H',J.os,J.bare,J.base,J.hok,rv,q⟩
 cases fl with
 | ret u=>
   obtain⟨v,σ',H',J,rv,q⟩:=hs
   exact fin J rv q
 | next=>
   obtain⟨σ',H',J,q⟩:=hs
   exact fin (v:=V.non) (u:=dk) J rfl q
 | brk=>
   obtain⟨_,_,_,q⟩:=hs
   exact dm q
 | cont=>
   obtain⟨_,_,_,q⟩:=hs
   exact dm q
end L2
namespace L2
open PySem PySem.Spec PyProof.Rows
section
variable {X:Cx}{x:Str}{p pos:Pos}{e:Expr}{es:List Expr}{t:TA}{id T:String}{r:List V->Hp->VK->Prop}
noncomputable def tCB (r:List V->Hp->VK->Prop) (t:TA):TE:=fun σ H Q=>t σ H fun vs H1=>r vs H1 Q
theorem jR (hc:gm X (.builtin id) r) (hg:Gl X x) (hm:X.mg x=none) (hv:bootBuiltins x=some (.builtin id)) (ha:PA X (e::es) t) (hn:x≠"__name__":=by decide) (hdb:(x == ("__debug__":Str))=false:=by decide)
  (he:starEach (e::es) X.env=(false,eval e X.env)::starEach es X.env:=by rfl) (hpl:(backTo pos (starEach es X.env)).any (·.1)=false:=by rfl):PE X (.Call (.Name x p) (e::es) [] pos) (tCB r t):=by
 intro pins s σ H Q I h
 refine fw (jA I hg hm hv ?_ hn hdb)
 exact n0 (thn (ha pos pins s σ H _ I h) fun us s1 ⟨vs,H1,I1,r1,q1⟩=>hc pins s1 σ H1 vs us Q I1 r1 q1) he hpl
theorem iH (hc:gm X (.type T) r) (hg:Gl X x) (hm:X.mg x=none) (hv:bootBuiltins x=some (.type T)) (ha:PA X (e::es) t) (hn:x≠"__name__":=by decide) (hdb:(x == ("__debug__":Str))=false:=by decide)
  (he:starEach (e::es) X.env=(false,eval e X.env)::starEach es X.env:=by rfl) (hpl:(backTo pos (starEach es X.env)).any (·.1)=false:=by rfl):PE X (.Call (.Name x p) (e::es) [] pos) (tCB r t):=by
 intro pins s σ H Q I h
 refine fw (jA I hg hm hv ?_ hn hdb)
 exact cc (thn (ha pos pins s σ H _ I h) fun us s1 ⟨vs,H1,I1,r1,q1⟩=>hc pins s1 σ H1 vs us Q I1 r1 q1) he hpl
end
end L2
namespace HT
open PySem PyProof.Rows
section
open PySem.SeqAt
open PySem.AutoSeq1 (wpAny_loadPart')
open PySem.MeetsSeq PySem.MeetsSeq2 PySem.MeetsSeq3
end
section
variable {prog:Program}{w:World}{A:Around}{E:Value->Shared->Prop}{s:Shared}
theorem cat_tup {t b:Addr}{vs ws:List Value}{Q:Value->Shared->Prop} (ht:IsTup s.heap t vs.toArray) (hb:IsTup s.heap b ws.toArray) (hv:vs ≠ [])
  (h1:ws = []->Q (.ref t) s) (h2:ws ≠ []->Q (.ref s.heap.objs.size) { s with heap:=s.heap.push { cls := .type "tuple",data := .seq (vs++ws).toArray } })
  (hsz:vs.length+ws.length<=sizeLine):aB (model prog w) A (binaryOp .Add (.ref t) (.ref b)) Q E s:=by
 obtain⟨⟨cls,dd,data,sl⟩,ho,hc,n,hd⟩:=id ht
 obtain⟨⟨cls2,dd2,data2,sl2⟩,ho2,hc2,n2,hd2⟩:=id hb
 simp only at hc hd hc2 hd2
 subst hc hd hc2 hd2
 have e:vs.toArray++ws.toArray=(vs++ws).toArray:=by simp
 by_cases hw:ws = []
 ·exact concat_meets ⟨_,ho,rfl⟩ ⟨_,ho2,rfl⟩ noFill_tuple_add seq_tuple_add ly ku (ke _ _)
   (tuple_addW1 t b vs.toArray ws.toArray n n2 dd dd2 sl sl2 (by simpa using hv) (by simp [hw])) ⟨ho,ho2,h1 hw⟩
 ·refine concat_meets ⟨_,ho,rfl⟩ ⟨_,ho2,rfl⟩ noFill_tuple_add seq_tuple_add ly ku (ke _ _)
   (tuple_addW2 t b vs.toArray ws.toArray n n2 dd dd2 sl sl2 (by simpa using hv) (by simpa using hw) (by rw [az,az];exact hsz)) ⟨ho,ho2,?_⟩
  rw [e]
  exact h2 hw
noncomputable def sIx (n d:Nat):Option Int->Nat
 | none=>d
 | some v=>if v < 0 then (v+(n:Int)).toNat else min v.toNat n
theorem sIx_nat (n d k:Nat):sIx n d (some (k:Int))=min k n:=by
 show (if (k:Int) < 0 then ((k:Int)+(n:Int)).toNat else min (k:Int).toNat n)=min k n
 rw [if_neg (by omega),bN]
theorem FW (n d:Nat) (hd:d<=n) (o:Option Int):sIx n d o<=n:=by
 cases o with
 | none=>exact hd
 | some v=>
   show (if v < 0 then (v+(n:Int)).toNat else min v.toNat n)<=n
   by_cases hv:v < 0
   ·rw [if_pos hv];omega
   ·rw [if_neg hv];exact Nat.min_le_right _ _
theorem ym (v:Int) (n d:Nat):(if v < 0 then max (v+(n:Int)) 0 else min v (n:Int))=((sIx n d (some v):Nat):Int):=by
 show (if v < 0 then max (v+(n:Int)) 0 else min v (n:Int))=(((if v < 0 then (v+(n:Int)).toNat else min v.toNat n):Nat):Int)
 by_cases hv:v < 0
 ·simp only [if_pos hv];omega
 ·simp only [if_neg hv];omega
theorem xU (lo hi:Option Int) (n:Nat):dS lo hi 1 (n:Int)=(((sIx n 0 lo:Nat):Int),((sIx n n hi:Nat):Int)):=by
 have h1 : ¬ ((1:Int) < 0):=by omega
 unfold dS
 simp only [h1,if_false]
 refine Prod.ext ?_ ?_
 ·cases lo with
  | none=>rfl
  | some v=>exact ym v n 0
 ·cases hi with
  | none=>rfl
  | some v=>exact ym v n n
theorem xi (i j:Nat):b0 (i:Int) (j:Int) 1=j - i:=by
 unfold b0
 have h1:(1:Int) > 0:=by omega
 simp only [h1,if_true,Int.ediv_one]
 split <;> omega
theorem slicePart_ {v:Value}{o:Option Int}{Q:Option Int->Shared->Prop} (p:IsPart v o) (h:Q o s):aB (model prog w) A (Builtin.Slice.slicePartIndex v) Q E s:=by
 cases p with
 | none=>exact slicePart_none h
 | int i t=>exact slicePart_int h
theorem jN {sl:Addr}{vl vu:Value}{lo hi:Option Int}{n:Nat}{Q:Int×Int×Nat->Shared->Prop} (hs:s.heap.IsSliceOf sl vl vu .none) (pl:IsPart vl lo) (pu:IsPart vu hi)
  (h:Q (((sIx n 0 lo:Nat):Int),1,sIx n n hi - sIx n 0 lo) s):aB (model prog w) A (eT (.ref sl) (pure (n:Int))) Q E s:=by
 obtain⟨os,hos,hcs,hds⟩:=id hs
 unfold eT pE
 refine ae (ae (cW hos hds (x:=vl) rfl (ae (cW hos hds (x:=vu) rfl (ae (cW hos hds (x := .none) rfl (ao ?_)))))))
 refine ae (slicePart_none ?_)
 show aB _ _ (if ((1:Int) == 0)=true then _ else _) _ _ s
 rw [if_neg (by decide)]
 refine ae (slicePart_ pl (ae (slicePart_ pu (ae (ao ?_)))))
 show aB _ _ (match dS lo hi 1 (n:Int) with | (lo,hi)=>pure (lo,(1:Int),b0 lo hi 1)) _ _ s
 rw [xU lo hi n]
 show aB _ _ (pure (((sIx n 0 lo:Nat):Int),(1:Int),b0 ((sIx n 0 lo:Nat):Int) ((sIx n n hi:Nat):Int) 1)) _ _ s
 rw [xi]
 exact ao h
theorem AJ (xs:Array Value) (i k:Nat):((aA k).filterMap fun (m:Nat)=>xs[((i:Int)+(m:Int)*1).toNat]?).toArray=((xs.toList.drop i).take k).toArray:=by
 have e:(fun (m:Nat)=>xs[((i:Int)+(m:Int)*1).toNat]?)=fun m=>xs[i+m]? := by
  funext m
  have:((i:Int)+(m:Int)*1).toNat=i+m:=by omega
  rw [this]
 rw [e]
 have:=pick_run xs i k
 rw [List.filterMap_map] at this
 have e2:((fun x=>xs[x]?)∘fun x=>i+x)=fun m=>xs[i+m]? := rfl
 rw [e2] at this
 rw [this]
theorem getItem_tuple_cut {t sl:Addr}{items:Array Value}{vl vu:Value}{lo hi:Option Int}{Q:Value->Shared->Prop} (ht:IsTup s.heap t items) (hs:s.heap.IsSliceOf sl vl vu .none) (pl:IsPart vl lo) (pu:IsPart vu hi)
  (hw : ¬ (sIx items.size 0 lo=0/\sIx items.size items.size hi=items.size))
  (h:Q (.ref s.heap.objs.size) { s with heap:=s.heap.push { cls := .type "tuple",data := .seq ((items.toList.drop (sIx items.size 0 lo)).take (sIx items.size items.size hi - sIx items.size 0 lo)).toArray } })
  (hsz:items.size<=sizeLine):aB (model prog w) A (getItem (.ref t) (.ref sl)) Q E s:=by
 have htake:sizeOk (.seq ((items.toList.drop (sIx items.size 0 lo)).take (sIx items.size items.size hi - sIx items.size 0 lo)).toArray):=by
  show ((items.toList.drop (sIx items.size 0 lo)).take (sIx items.size items.size hi - sIx items.size 0 lo)).toArray.size<=sizeLine
  rw [az,cg,eO,bQ]
  omega
 have hj:sIx items.size items.size hi<=items.size:=FW _ _ (aq _) hi
 obtain⟨os,hos,hcs,hds⟩:=id hs
 have hTs:s.TypeIs (.ref sl) "slice":=⟨os,hos,hcs⟩
 unfold getItem
 try with_reducible refine cM ?_
 first | refine ae (ao ?_) | skip
 refine ae (wG ht.typeIs (by decide) ?_)
 refine ae (bG (name:=dF "__getitem__") ht.typeIs ck
  (bH ck ht.typeIs entry_tuple_getitem ?_ (args_tuple_getitem _ _)))
 show aB _ _ (iE (.ref t) >>= _) _ _ s
 refine ae (tupleItemsOf_ ht ?_)
 refine ae (fA hTs ?_)
 rw [if_pos (by decide)]
 refine ae (jN hs pl pu ?_)
 have hno : ¬ ((((sIx items.size 0 lo:Nat):Int) == 0&&(1:Int) == 1&&(sIx items.size items.size hi - sIx items.size 0 lo) == items.size)=true):=by
  intro q
  rw [aw,aw] at q
  have q1:((sIx items.size 0 lo:Nat):Int)=0:=eq_of_beq q.1.1
  have q2:sIx items.size items.size hi - sIx items.size 0 lo=items.size:=eq_of_beq q.2
  exact hw ⟨by omega,by omega⟩
 show aB _ _ (if (((sIx items.size 0 lo:Nat):Int) == 0&&(1:Int) == 1&&(sIx items.size items.size hi - sIx items.size 0 lo) == items.size)=true then _ else _) _ _ s
 rw [if_neg hno,AJ]
 first
  | exact ae (m:=bE _) (aU (ao ⟨_,rfl,ao h⟩) htake)
  | exact ae (m:=bE _) (aU (ae (ao (ao ⟨_,rfl,ao h⟩))) htake)
  | exact ae (ae (m:=bE _) (aU (ao (ao ⟨_,rfl,ao h⟩)) htake))
  | exact ae (ae (m:=bE _) (aU (ao ⟨_,rfl,ao h⟩) htake))
end
end HT
namespace L2
open PySem PySem.Spec PyProof.Rows
abbrev TO:=St->Hp->(Option Int->Hp->Prop)->Prop
noncomputable def PO (X:Cx) (e:Option Expr) (t:TO):Prop:=
 ∀ (pins:List (Addr×Obj)) (s:Shared) (σ:St) (H:Hp) (Q:Option Int->Hp->Prop),Inv X pins σ H s->t σ H Q ->
  aB (model X.prog X.w) X.A (evalPart e X.env) (fun u s' => ∃ o H',Inv X pins σ H' s'/\IsPart u o/\Q o H') X.xe s
noncomputable def yp:TO:=fun _ H Q=>Q none H
noncomputable def Fs (t:TE):TO:=fun σ H Q=>t σ H fun x H1 => ∃ i,x = .int i/\Q (some i) H1
section
variable {X:Cx}{e:Expr}{te:TE}{lo hi:Option Expr}{tl th:TO}{pos p2:Pos}
theorem EO:PO X none yp:=by
 intro pins s σ H Q I h
 rw [evalPart_none]
 exact ao ⟨none,H,I,.none,h⟩
theorem Ew (h:PE X e te):PO X (some e) (Fs te):=by
 intro pins s σ H Q I hw
 rw [evalPart_some]
 refine thn (h pins s σ H _ I hw) fun u s1 ⟨x,H1,I1,r1,q1⟩ => ?_
 obtain⟨i,rfl,q⟩:=q1
 obtain⟨t,rfl⟩:=r1
 exact⟨some i,H1,I1,.int i t,q⟩
noncomputable def SlR (X:Cx) (r:V->Option Int->Option Int->Hp->VK->Prop):Prop:=
 ∀ (pins:List (Addr×Obj)) (s:Shared) (σ:St) (H:Hp) (x:V) (v vl vu:Value) (lo hi:Option Int) (sl:Addr) (Q:VK),Inv X pins σ H s->RelV x v->s.heap.IsSliceOf sl vl vu .none->IsPart vl lo->IsPart vu hi->r x lo hi H Q ->
  ∃ T id,typeLookup (.type T) "__getitem__"=pure (some (.builtin id))/\s.TypeIs v T/\aB (model X.prog X.w) X.A (getItem v (.ref sl)) (EP X pins σ Q) X.xe s
theorem SlR.or {r r':V->Option Int->Option Int->Hp->VK->Prop} (h:SlR X r) (h':SlR X r'):SlR X (fun x lo hi H Q=>r x lo hi H Q\/r' x lo hi H Q):=by
 intro pins s σ H x v vl vu lo hi sl Q I rx hs pl pu q
 rcases q with q | q
 ·exact h pins s σ H x v vl vu lo hi sl Q I rx hs pl pu q
 ·exact h' pins s σ H x v vl vu lo hi sl Q I rx hs pl pu q
noncomputable def tSl (r:V->Option Int->Option Int->Hp->VK->Prop) (te:TE) (tl th:TO):TE:=fun σ H Q=>te σ H fun x H1=>tl σ H1 fun l H2=>th σ H2 fun u H3=>r x l u H3 Q
theorem B3 {r:V->Option Int->Option Int->Hp->VK->Prop} (hr:SlR X r) (he:PE X e te) (hl:PO X lo tl) (hu:PO X hi th):PE X (.Subscript e (.Slice lo hi none p2) pos) (tSl r te tl th):=by
 intro pins s σ H Q I h
 refine Subscript_ (thn (he pins s σ H _ I h) fun v s1 ⟨x,H1,I1,r1,q1⟩ => ?_)
 refine wpAny_Slice (thn (hl pins s1 σ H1 _ I1 q1) fun vl s2 ⟨l,H2,I2,pl,q2⟩=>thn (hu pins s2 σ H2 _ I2 q2) fun vu s3 ⟨u,H3,I3,pu,q3⟩ => ?_)
 rw [evalPart_none]
 refine ao ?_
 have I4:Inv X pins σ H3 { s3 with heap:=s3.heap.push { cls := .type "slice",data := .fields #[vl,vu,.none] } }:=I3.kept (t':=s3.toks) fun b ob q=>ak _ q
 obtain⟨T,id,hT,ht,hg⟩:=hr pins { s3 with heap:=s3.heap.push { cls := .type "slice",data := .fields #[vl,vu,.none] } } σ H3 x v vl vu l u s3.heap.objs.size Q I4 r1 (lP ..) pl pu q3
 show aB (model X.prog X.w) X.A (subscriptTail e (.Slice lo hi none p2) v (.ref s3.heap.objs.size)) (EP X pins σ Q) X.xe { s3 with heap:=s3.heap.push { cls := .type "slice",data := .fields #[vl,vu,.none] } }
 exact tail_any (ops := [.ref s3.heap.objs.size,v]) ht hT hg (by with_unfolding_all rfl)
noncomputable def vJ (xs:List V) (lo hi:Option Int):List V:=(xs.drop (HT.sIx xs.length 0 lo)).take (HT.sIx xs.length xs.length hi - HT.sIx xs.length 0 lo)
theorem oN (xs:List V) (lo hi:Option Int):(vJ xs lo hi).length<=xs.length:=by
 unfold vJ
 rw [cg,eO]
 omega
noncomputable def Kw (K:ar):V->Option Int->Option Int->Hp->VK->Prop:=fun x lo hi H Q => ∃ a xs,x = .ref a/\SqT K H a xs /\
 ¬ (HT.sIx xs.length 0 lo=0/\HT.sIx xs.length xs.length hi=xs.length) /\ ∀ p,H p=none->Q (.ref p) (upd H p (.tup (vJ xs lo hi)))
theorem FR:SlR X (Kw X.K):=by
 intro pins s σ H x v vl vu lo hi sl Q I rx hs pl pu h
 obtain⟨a,xs,rfl,hx,hw,q⟩:=h
 cases rx
 obtain⟨its,r,ht,hz⟩:=I.tuple hx
 have hlen:its.toArray.size=xs.length:=by rw [az];exact r.length.symm
 refine⟨"tuple",_,PyProof.Rows.slot_tuple_getitem.lookup,ht.typeIs,?_⟩
 refine HT.getItem_tuple_cut ht hs pl pu (by rw [hlen];exact hw) ?_ (by rw [hlen];exact hz)
 rw [hlen]
 refine⟨.ref s.heap.objs.size,_,I.laid (t':=s.toks) (o := .tup (vJ xs lo hi)) (fun b ob q=>ak _ q) (aq _) ?_,rfl,q _ (I.hok.fresh (aq _))⟩
 exact⟨be (oN xs lo hi) hz,_,(r.drop (HT.sIx xs.length 0 lo)).take (HT.sIx xs.length xs.length hi - HT.sIx xs.length 0 lo),lA _ _,_,av _ rfl,rfl⟩
noncomputable def Fe (K:ar):R2:=fun x y H Q => ∃ a b xs ys,x = .ref a/\y = .ref b/\SqT K H a xs/\SqT K H b ys/\xs ≠ []/\xs.length+ys.length<=sizeLine /\
 (ys = []->Q (.ref a) H)/\(ys ≠ [] -> ∀ p,H p=none->Q (.ref p) (upd H p (.tup (xs++ys))))
theorem bO.nil_iff {xs:List V}{us:List Value} (r:bO xs us):us = []↔xs = []:=by
 cases r with
 | nil=>simp
 | cons _ _=>simp
theorem DG:OpR X (binaryOp .Add) (Fe X.K):=by
 intro pins s σ H x y v u Q I rx ry h
 obtain⟨a,b,xs,ys,rfl,rfl,ha,hb,hx,hz,q1,q2⟩:=h
 cases rx
 cases ry
 obtain⟨its,r1,p1,_⟩:=I.tuple ha
 obtain⟨its2,r2,p2,_⟩:=I.tuple hb
 refine HT.cat_tup p1 p2 (fun z=>hx (r1.nil_iff.mp z)) (fun z=>⟨.ref a,H,I,rfl,q1 (r2.nil_iff.mp z)⟩) (fun z => ?_) (by rw [<- r1.length,<- r2.length];exact hz)
 refine⟨.ref s.heap.objs.size,_,I.laid (t':=s.toks) (o := .tup (xs++ys)) (fun b ob q=>ak _ q) (aq _) ?_,rfl,q2 (fun w=>z (r2.nil_iff.mpr w)) _ (I.hok.fresh (aq _))⟩
 exact⟨by rw [aI];exact hz,_,r1.append r2,lA _ _,_,av _ rfl,rfl⟩
end
end L2
namespace L2
open PySem PySem.Spec PyProof.Rows
noncomputable def ixN (n:Nat) (i:Int):Option Nat:=if 0<=i then (if i < n then some i.toNat else none) else if -(n:Int)<=i then some (i+n).toNat else none
noncomputable def atI {α:Type} (xs:List α) (i:Int):Option α:=(ixN xs.length i).bind fun j=>xs[j]?
theorem yS {n:Nat}{i:Int}{j:Nat} (h:ixN n i=some j):seqIndex? i n=some j/\j < n /\ -(n:Int)<=i/\i < n:=by
 unfold ixN at h
 by_cases h0:0<=i
 ·rw [if_pos h0] at h
  by_cases h1:i < n
  ·rw [if_pos h1] at h
   have e:i.toNat=j:=bw h
   exact⟨by rw [seqIndex_of h0 h1,e],by omega,by omega,h1⟩
  ·rw [if_neg h1] at h;cases h
 ·rw [if_neg h0] at h
  by_cases h1 : -(n:Int)<=i
  ·rw [if_pos h1] at h
   have e:(i+n).toNat=j:=bw h
   exact⟨by rw [seqIndex_neg (by omega) h1,e],by omega,h1,by omega⟩
  ·rw [if_neg h1] at h;cases h
theorem uf {α:Type}{xs:List α}{i:Int}{v:α} (h:atI xs i=some v) : ∃ j,seqIndex? i xs.length=some j/\xs[j]? = some v/\j < xs.length /\ -(xs.length:Int)<=i/\i < xs.length:=by
 unfold atI at h
 cases e:ixN xs.length i with
 | none=>rw [e] at h;cases h
 | some j=>
   rw [e] at h
   obtain⟨h1,h2,h3,h4⟩:=yS e
   exact⟨j,h1,h,h2,h3,h4⟩
noncomputable def tF (b:Expr):Prop := ∀ o i,subscripted b false o i=operate [o,i] (getItem o i)
noncomputable def IxR (X:Cx) (r:R2):Prop:=
 ∀ (value slice:Expr) (pins:List (Addr×Obj)) (s:Shared) (σ:St) (H:Hp) (x y:V) (v u:Value) (Q:VK),Inv X pins σ H s->RelV x v->RelV y u->r x y H Q ->
  subscripted slice false v u=operate [v,u] (getItem v u)->aB (model X.prog X.w) X.A (subscriptTail value slice v u) (EP X pins σ Q) X.xe s
noncomputable def MtR (X:Cx) (id:String) (r:V->List V->Hp->VK->Prop):Prop:=
 ∀ (pins:List (Addr×Obj)) (s:Shared) (σ:St) (H:Hp) (x:V) (xs:List V) (v:Value) (us:List Value) (Q:VK),Inv X pins σ H s->RelV x v->bO xs us->r x xs H Q ->
  aB (model X.prog X.w) X.A (call (.builtin id) (v::us)) (EP X pins σ Q) X.xe s
section
variable {X:Cx}{a b:Expr}{ta tb:TE}{pos:Pos}
theorem IxR.or {r r':R2} (h:IxR X r) (h':IxR X r'):IxR X (fun x y H Q=>r x y H Q\/r' x y H Q):=by
 intro value slice pins s σ H x y v u Q I rx ry q hs
 rcases q with q | q
 ·exact h value slice pins s σ H x y v u Q I rx ry q hs
 ·exact h' value slice pins s σ H x y v u Q I rx ry q hs
theorem IW {r:R2} (hr:IxR X r) (ha:PE X a ta) (hb:PE X b tb) (hs:tF b):PE X (.Subscript a b pos) (tOp r ta tb):=by
 intro pins s σ H Q I h
 exact Subscript_ (Gy ha hb I h fun v u s2 x y H2 I2 rx ry q=>hr a b pins s2 σ H2 x y v u Q I2 rx ry q (hs _ _))
noncomputable def KL (K:ar):R2:=fun x y H Q => ∃ p xs i v,x = .ref p/\y = .int i/\SqL K H p xs/\atI xs i=some v/\Q v H
noncomputable def J7 (K:ar):R2:=fun x y H Q => ∃ p xs i v,x = .ref p/\y = .int i/\SqT K H p xs/\atI xs i=some v/\Q v H
noncomputable def JR:R2:=fun x y H Q => ∃ z i c,x = .str z/\y = .int i/\z.length<=sizeLine/\atI z.cps.toList i=some c/\Q (.str ⟨#[c]⟩) H
theorem DW:IxR X (KL X.K):=by
 intro value slice pins s σ H x y v u Q I rx ry h hs
 obtain⟨p,xs,i,z,rfl,rfl,hq,he,q⟩:=h
 cases rx
 obtain⟨t,rfl⟩:=ry
 obtain⟨its,r,pl,hz⟩:=I.list hq
 obtain⟨j,h1,h2,h3,h4,h5⟩:=uf he
 obtain⟨w,ew,rw'⟩:=r.get h2
 have hl:=r.length
 have hn:=qD
 have fin:EP X pins σ Q w s:=⟨z,H,I,rw',q⟩
 by_cases h0:0<=i
 ·have hj:i.toNat=j:=by
   rw [seqIndex_of h0 h5] at h1
   exact bw h1
  exact item_listR pl.isList h0 (by omega) (by rw [hj];simpa using ew) fin hs
 ·have hj:(i+(its.toArray.size:Int)).toNat=j:=by
   rw [seqIndex_neg (by omega) h4] at h1
   rw [az,<- hl]
   exact bw h1
  exact subscriptTail_builtinR (x:=w) pl.isList.typeIs slot_list_getitem.lookup
   (wpAny_getItem_list_neg (Q:=fun r s'=>r=w/\EP X pins σ Q r s') pl.isList (by omega) (by rw [az] <;> omega) (by omega) (by rw [hj];simpa using ew) ⟨rfl,fin⟩) hs
theorem HE:IxR X (J7 X.K):=by
 intro value slice pins s σ H x y v u Q I rx ry h hs
 obtain⟨p,xs,i,z,rfl,rfl,hq,he,q⟩:=h
 cases rx
 obtain⟨t,rfl⟩:=ry
 obtain⟨its,r,pl,hz⟩:=I.tuple hq
 obtain⟨j,h1,h2,h3,h4,h5⟩:=uf he
 obtain⟨w,ew,rw'⟩:=r.get h2
 have hl:=r.length
 have hn:=qD
 have fin:EP X pins σ Q w s:=⟨z,H,I,rw',q⟩
 exact subscriptTail_builtinR (x:=w) pl.typeIs slot_tuple_getitem.lookup
  (getItem_tuple (j:=j) (Q:=fun r s'=>r=w/\EP X pins σ Q r s') pl (by omega) (by omega) (by rw [az,<- hl];exact h1) (by simpa using ew) ⟨rfl,fin⟩) hs
theorem F9:IxR X JR:=by
 intro value slice pins s σ H x y v u Q I rx ry h hs
 obtain⟨z,i,c,rfl,rfl,hz,he,q⟩:=h
 obtain⟨t,rfl⟩:=rx
 obtain⟨t',rfl⟩:=ry
 obtain⟨j,h1,h2,h3,h4,h5⟩:=uf he
 have hl:z.cps.toList.length=z.length:=by simp [Str.length]
 rw [hl] at h1 h4 h5
 have hn:=qD
 exact tail_any (typeIs_str s z t) slot_str_getitem.lookup (getItem_str (c:=c) (by
  have e1:decide (i < -(2 ^ 63:Int))=false:=decide_eq_false (by omega)
  have e2:decide (i >= 2 ^ 63)=false:=decide_eq_false (by omega)
  rw [e1,e2,Bool.or_false]) (by rw [h1];simpa using h2) ⟨.str ⟨#[c]⟩,H,I.tok _,⟨_,rfl⟩,q⟩) hs
noncomputable def rIx (K:ar):R2:=fun x y H Q=>KL K x y H Q\/J7 K x y H Q\/JR x y H Q
theorem F3:IxR X (rIx X.K):=DW.or (HE.or F9)
theorem xr (its:List Value) (n j:Nat) (u:Value):cD (·.setIfInBounds j u) { cls := .type "list",data := .seq its.toArray n }={ cls := .type "list",data := .seq (its.set j u).toArray n }:=by
 simp [cD]
theorem Inv.lst {pins:List (Addr×Obj)}{σ:St}{H:Hp}{s:Shared}{p:Addr}{xs:List V} (I:Inv X pins σ H s) (h:H p=some (.lst xs)) :
  ∃ (its:List Value) (n:Nat),bO xs its/\s.heap.get? p=some { cls := .type "list",data := .seq its.toArray n }/\xs.length<=sizeLine:=by
 obtain⟨z,its,n,r,e⟩:=I.hok p _ h
 exact⟨its,n,r,e,z⟩
theorem Inv.lstUpd {pins:List (Addr×Obj)}{σ:St}{H:Hp}{s:Shared}{p:Addr}{xs ys:List V}{its its':List Value}{n n':Nat}{f:Obj->Obj} (I:Inv X pins σ H s) (h:H p=some (.lst xs))
  (ho:s.heap.get? p=some { cls := .type "list",data := .seq its.toArray n }) (hf:f { cls := .type "list",data := .seq its.toArray n }={ cls := .type "list",data := .seq its'.toArray n' }) (r:bO ys its') (hz:ys.length<=sizeLine) (t:Nat) :
  Inv X pins σ (upd H p (.lst ys)) { s with heap:=s.heap.update p f,toks:=t }:=by
 have e:(s.heap.update p f).get? p=some { cls := .type "list",data := .seq its'.toArray n' }:=by
  rw [cQ f ho (by rw [hf] <;> rfl),hf]
 refine I.write (x:=p) (e:=p) (by rw [h];trivial) (.inl rfl) (fun b u hb q=>(cb _ _ (cY hb)).trans q) ⟨_,e⟩ ?_
 exact⟨hz,its',n',r,e⟩
noncomputable def Fg:V->V->V->Hp->(Hp->Prop)->Prop:=fun o i v H Q => ∃ p xs k j,o = .ref p/\i = .int k/\H p=some (.lst xs)/\ixN xs.length k=some j/\Q (upd H p (.lst (xs.set j v)))
theorem set_list:Gg X Fg:=by
 intro pins s σ H o i v ov iv u Q I ro ri rv h
 obtain⟨p,xs,k,j,rfl,rfl,hp,hj,q⟩:=h
 cases ro
 obtain⟨t,rfl⟩:=ri
 obtain⟨its,n,r,ho,hz⟩:=I.lst hp
 obtain⟨h1,h2,h3,h4⟩:=yS hj
 have hl:=r.length
 have hn:=qD
 have I':Inv X pins σ (upd H p (.lst (xs.set j v))) { s with heap:=s.heap.update p (cD (·.setIfInBounds j u)) }:=
  I.lstUpd hp ho (xr its n j u) (r.set rv j) (by rw [dN];exact hz) s.toks
 by_cases h0:0<=k
 ·have hk:k.toNat=j:=by
   rw [seqIndex_of h0 h4] at h1
   exact bw h1
  exact PySem.W.ki_setAt ho h0 (by omega) (by rw [az,<- hl];exact h4) (by rw [hk];exact⟨_,I',q⟩)
 ·have hk:(k+(its.toArray.size:Int)).toNat=j:=by
   rw [seqIndex_neg (by omega) h3] at h1
   rw [az,<- hl]
   exact bw h1
  exact PySem.W.ki_setBack ho (by omega) (by rw [az,<- hl];exact h3) (by omega) (by rw [hk];exact⟨_,I',q⟩)
theorem t8 (lo hi:Option Int) (n:Nat):(sliceBounds lo hi none n).1=((HT.sIx n 0 lo:Nat):Int)/\(sliceBounds lo hi none n).2.1=((HT.sIx n n hi:Nat):Int)/\(sliceBounds lo hi none n).2.2=1:=by
 refine⟨?_,?_,rfl⟩
 ·cases lo with
  | none=>simp [sliceBounds,HT.sIx]
  | some i=>
    simp only [sliceBounds,HT.sIx,Option.getD_none,show (1:Int) > 0 by decide,if_true]
    by_cases h:i < 0
    ·simp only [h,if_true] <;> omega
    ·simp only [h,if_false] <;> omega
 ·cases hi with
  | none=>simp [sliceBounds,HT.sIx]
  | some i=>
    simp only [sliceBounds,HT.sIx,Option.getD_none,show (1:Int) > 0 by decide,if_true]
    by_cases h:i < 0
    ·simp only [h,if_true] <;> omega
    ·simp only [h,if_false] <;> omega
theorem rq (its:List Value) (lo hi:Option Int):slicePick its.toArray lo hi none=((its.drop (HT.sIx its.length 0 lo)).take (HT.sIx its.length its.length hi - HT.sIx its.length 0 lo)).toArray:=by
 obtain⟨h1,h2,h3⟩:=t8 lo hi its.toArray.size
 unfold slicePick
 rw [h1,h2,h3]
 simp only [sliceRange_one,pick_run,az] <;> rfl
noncomputable def KS (K:ar):V->Option Int->Option Int->Hp->VK->Prop:=fun x lo hi H Q => ∃ a xs,x = .ref a/\SqL K H a xs /\ ∀ p,H p=none->Q (.ref p) (upd H p (.lst (vJ xs lo hi)))
theorem Dp:SlR X (KS X.K):=by
 intro pins s σ H x v vl vu lo hi sl Q I rx hs pl pu h
 obtain⟨a,xs,rfl,hx,q⟩:=h
 cases rx
 obtain⟨its,r,ht,hz⟩:=I.list hx
 have hlen:=r.length
 refine⟨"list",_,slot_list_getitem.lookup,ht.isList.typeIs,?_⟩
 refine wpAny_getItem_list_slice ht.isList hs pl pu .none (by simp) ?_ (by rw [az] <;> omega)
 rw [rq,<- hlen]
 refine⟨.ref s.heap.objs.size,_,I.laid (t':=s.toks) (o := .lst (vJ xs lo hi)) (fun b ob q=>ak _ q) (aq _) ?_,rfl,q _ (I.hok.fresh (aq _))⟩
 exact⟨be (oN xs lo hi) hz,_,0,(r.drop (HT.sIx xs.length 0 lo)).take (HT.sIx xs.length xs.length hi - HT.sIx xs.length 0 lo),av _ rfl⟩
noncomputable def mF:V->Bool
 | .non=>true
 | .bl _=>true
 | .int _=>true
 | .str _=>true
 | _=>false
noncomputable def eqV:V->V->Bool
 | .non,.non=>true
 | .bl a,.bl b=>a == b
 | .bl a,.int b=>(if a then 1 else 0) == b
 | .int a,.bl b=>a == (if b then 1 else 0)
 | .int a,.int b=>a == b
 | .str a,.str b=>a == b
 | _,_=>false
theorem Hw {A:Around}{s:Shared}{y x:V}{u v:Value} (ry:RelV y u) (rx:RelV x v) (fy:mF y=true) (fx:mF x=true):SeqAt.EqAt A s u v (eqV y x):=by
 cases y with
 | non=>
   cases ry
   cases x with
   | non=>cases rx;exact SeqAt.EqAt.same _
   | bl b=>cases rx;exact SeqAt.EqAt.none_bool b
   | int b=>obtain⟨t,rfl⟩:=rx;exact SeqAt.EqAt.none_int b t
   | str b=>obtain⟨t,rfl⟩:=rx;exact SeqAt.EqAt.none_str b t
   | _=>exact absurd (show false=true from fx) bj
 | bl a=>
   cases ry
   cases x with
   | non=>cases rx;exact SeqAt.EqAt.bool_none a
   | bl b=>cases rx;exact SeqAt.EqAt.bool_bool a b
   | int b=>obtain⟨t,rfl⟩:=rx;exact SeqAt.EqAt.bool_int a b t
   | str b=>obtain⟨t,rfl⟩:=rx;exact SeqAt.EqAt.bool_str a b t
   | _=>exact absurd (show false=true from fx) bj
 | int a=>
   obtain⟨t',rfl⟩:=ry
   cases x with
   | non=>cases rx;exact SeqAt.EqAt.int_none a t'
   | bl b=>cases rx;exact SeqAt.EqAt.int_bool a t' b
   | int b=>obtain⟨t,rfl⟩:=rx;exact SeqAt.EqAt.int_int a t' b t
   | str b=>obtain⟨t,rfl⟩:=rx;exact y9 a t' b t
   | _=>exact absurd (show false=true from fx) bj
 | str a=>
   obtain⟨t',rfl⟩:=ry
   cases x with
   | non=>cases rx;exact SeqAt.EqAt.str_none a t'
   | bl b=>cases rx;exact SeqAt.EqAt.str_bool a t' b
   | int b=>obtain⟨t,rfl⟩:=rx;exact za a t' b t
   | str b=>obtain⟨t,rfl⟩:=rx;exact SeqAt.EqAt.str_str a t' b t
   | _=>exact absurd (show false=true from fx) bj
 | _=>exact absurd (show false=true from fy) bj
noncomputable def eqU (x:V) (u:Value):Bool:=match u with
 | .none=>eqV .non x
 | .bool b=>eqV (.bl b) x
 | .int i _=>eqV (.int i) x
 | .str z _=>eqV (.str z) x
 | _=>false
theorem A4 {x y:V}{u:Value} (r:RelV y u) (f:mF y=true):eqU x u=eqV y x:=by
 cases y with
 | non=>cases r;rfl
 | bl b=>cases r;rfl
 | int i=>obtain⟨t,rfl⟩:=r;rfl
 | str z=>obtain⟨t,rfl⟩:=r;rfl
 | _=>exact absurd (show false=true from f) bj
theorem nI {x:V} : ∀ {xs:List V}{us:List Value},bO xs us->xs.all mF=true->us.any (eqU x)=xs.any fun y=>eqV y x
 | _,_,.nil,_=>rfl
 | y::xs,u::us,.cons r t,f=>by
   rw [bW,aw] at f
   rw [gv,gv,A4 r f.1,nI t f.2]
theorem kK {A:Around}{s:Shared}{x:V}{v:Value} (rx:RelV x v) (fx:mF x=true) : ∀ {xs:List V}{us:List Value},bO xs us->xs.all mF=true -> ∀ u∈us,SeqAt.EqAt A s u v (eqU x u)
 | _,_,.nil,_=>fun u hu=>by cases hu
 | y::xs,u::us,.cons r t,f=>fun u' hu=>by
   rw [bW,aw] at f
   rcases aK.mp hu with rfl | hu
   ·rw [A4 r f.1];exact Hw r rx f.1 fx
   ·exact kK rx fx t f.2 u' hu
noncomputable def inV (x:V) (xs:List V):Bool:=xs.any fun y=>eqV y x
noncomputable def rIn (K:ar) (neg:Bool):R2:=fun x y H Q => ∃ p xs,y = .ref p/\(SqL K H p xs\/SqT K H p xs)/\mF x=true/\xs.all mF=true/\Q (.bl (if neg then !inV x xs else inV x xs)) H
theorem zN:OpR X (compareOp .In) (rIn X.K false):=by
 intro pins s σ H x y v u Q I rx ry h
 obtain⟨p,xs,rfl,hq,fx,fs,q⟩:=h
 cases ry
 rcases hq with hq | hq
 ·obtain⟨its,r,pl,hz⟩:=I.list hq
  refine SeqAt.in_listAt (eqU x) pl.isList (fun w hw=>kK rx fx r fs w (by simpa using hw)) ⟨.bl _,H,I,rfl,?_⟩
  rw [show its.toArray.any (eqU x)=its.any (eqU x) by simp,nI r fs]
  exact q
 ·obtain⟨its,r,pl,hz⟩:=I.tuple hq
  refine SeqAt.in_tupleAt (eqU x) pl (fun w hw=>kK rx fx r fs w (by simpa using hw)) ⟨.bl _,H,I,rfl,?_⟩
  rw [show its.toArray.any (eqU x)=its.any (eqU x) by simp,nI r fs]
  exact q
theorem ug:OpR X (compareOp .NotIn) (rIn X.K true):=by
 intro pins s σ H x y v u Q I rx ry h
 obtain⟨p,xs,rfl,hq,fx,fs,q⟩:=h
 cases ry
 rcases hq with hq | hq
 ·obtain⟨its,r,pl,hz⟩:=I.list hq
  refine SeqAt.notIn_listAt (eqU x) pl.isList (fun w hw=>kK rx fx r fs w (by simpa using hw)) ⟨.bl _,H,I,rfl,?_⟩
  rw [show its.toArray.any (eqU x)=its.any (eqU x) by simp,nI r fs]
  exact q
 ·obtain⟨its,r,pl,hz⟩:=I.tuple hq
  refine SeqAt.notIn_tupleAt (eqU x) pl (fun w hw=>kK rx fx r fs w (by simpa using hw)) ⟨.bl _,H,I,rfl,?_⟩
  rw [show its.toArray.any (eqU x)=its.any (eqU x) by simp,nI r fs]
  exact q
theorem tJ:gm X (.builtin "len") (fun xs H Q => ∃ p ys,xs = [.ref p]/\(SqL X.K H p ys\/SqT X.K H p ys)/\Q (.int ys.length) H):=by
 intro pins s σ H xs us Q I r h
 obtain⟨p,ys,rfl,hq,q⟩:=h
 obtain⟨u,rfl,rx⟩:=vals1 r
 cases rx
 have hn:=qD
 rcases hq with hq | hq
 ·obtain⟨its,r',pl,hz⟩:=I.list hq
  have hlen:=r'.length
  exact Calls.call_len_list pl.isList (by simp only [az] <;> omega) ⟨.int ys.length,H,I.tok _,⟨s.toks+1,by rw [az,hlen]⟩,q⟩
 ·obtain⟨its,r',pl,hz⟩:=I.tuple hq
  have hlen:=r'.length
  exact len_tuple pl (by simp only [az] <;> omega) ⟨.int ys.length,H,I.tok _,⟨s.toks+1,by rw [az,hlen]⟩,q⟩
theorem gm.or {f:Value}{r r':List V->Hp->VK->Prop} (h:gm X f r) (h':gm X f r'):gm X f (fun xs H Q=>r xs H Q\/r' xs H Q):=by
 intro pins s σ H xs us Q I rs q
 rcases q with q | q
 ·exact h pins s σ H xs us Q I rs q
 ·exact h' pins s σ H xs us Q I rs q
theorem um:gm X (.type "list") (fun xs H Q => ∃ p ys,xs = [.ref p]/\(SqL X.K H p ys\/SqT X.K H p ys) /\ ∀ l,H l=none->Q (.ref l) (upd H l (.lst ys))):=by
 intro pins s σ H xs us Q I r h
 obtain⟨p,ys,rfl,hq,q⟩:=h
 obtain⟨u,rfl,rx⟩:=vals1 r
 cases rx
 have fin : ∀ (its:List Value),bO ys its->ys.length<=sizeLine -> ∀ (h':Heap) (c':Nat),(∀ b o',s.heap.get? b=some o'->h'.get? b=some o') ->
   h'.get? s.heap.objs.size=some { cls := .type "list",dict:=none,data := .seq its.toArray c',slots := #[] }->EP X pins σ Q (.ref s.heap.objs.size) { s with heap:=h' }:=fun its r' hz h' c' kp e=>
  ⟨.ref s.heap.objs.size,_,I.laid (t':=s.toks) kp (aq _) (show dJ X.prog X.w _ h' _ (.lst ys) from⟨hz,its,c',r',e⟩),rfl,q _ (I.hok.fresh (aq _))⟩
 rcases hq with hq | hq
 ·obtain⟨its,r',pl,hz⟩:=I.list hq
  have hlen:=r'.length
  obtain⟨o,ho,hc,n,hd⟩:=pl.isList
  exact call_list_seq p (.inl rfl) ho hc hd (fun h' c' kp e=>fin its r' hz h' c' kp e) (by simp only [az] <;> omega)
 ·obtain⟨its,r',pl,hz⟩:=I.tuple hq
  have hlen:=r'.length
  obtain⟨o,ho,hc,n,hd⟩:=pl
  exact call_list_seq p (.inr rfl) ho hc hd (fun h' c' kp e=>fin its r' hz h' c' kp e) (by simp only [az] <;> omega)
theorem rj:gm X (.type "tuple") (fun xs H Q => ∃ p ys,xs = [.ref p]/\((SqL X.K H p ys /\ ∀ l,H l=none->Q (.ref l) (upd H l (.tup ys)))\/(SqT X.K H p ys/\Q (.ref p) H))):=by
 intro pins s σ H xs us Q I r h
 obtain⟨p,ys,rfl,h⟩:=h
 obtain⟨u,rfl,rx⟩:=vals1 r
 cases rx
 rcases h with⟨hq,q⟩ | ⟨hq,q⟩
 ·obtain⟨its,r',pl,hz⟩:=I.list hq
  have hlen:=r'.length
  refine call_tuple_list pl.isList (fun h' kp => ?_) (by simp only [az] <;> omega)
  have I1:Inv X pins σ H { s with heap:=h' }:=I.kept (t':=s.toks) kp
  have I2:Inv X pins σ (upd H h'.objs.size (.tup ys)) { s with heap:=h'.push { cls := .type "tuple",data := .seq its.toArray } }:=
   I1.laid (t':=s.toks) (fun b o e=>ak _ e) (aq _) (show dJ X.prog X.w _ _ _ (.tup ys) from⟨hz,its,r',lA _ _,_,av _ rfl,rfl⟩)
  exact⟨.ref h'.objs.size,_,I2,rfl,q _ (I1.hok.fresh (aq _))⟩
 ·obtain⟨its,r',pl,hz⟩:=I.tuple hq
  exact call_tuple_same pl ⟨.ref p,H,I,rfl,q⟩
noncomputable def tyV (K:ar) (T:String) (x:V) (H:Hp):Prop:=match x with
 | .str _=>T="str"
 | .int _=>T="int"
 | .ref p=>(T="list" /\ ∃ xs,SqL K H p xs)\/(T="tuple" /\ ∃ o,K.lookup p=some o/\o.cls = .type "tuple"/\o.dict=none) \/
   (T="dict"/\((∃ kvs,H p=some (.dK kvs)) \/ ∃ kvs,H p=some (.dT kvs)))\/(T="set" /\ ∃ S n,H p=some (.set S n))
 | _=>False
theorem Cg {pins:List (Addr×Obj)}{σ:St}{H:Hp}{s:Shared}{T:String}{x:V}{v:Value} (I:Inv X pins σ H s) (r:RelV x v) (ty:tyV X.K T x H) :
  s.TypeIs v T /\ ∀ a,v = .ref a -> ∃ ob,s.heap.get? a=some ob/\ob.dict=none:=by
 cases x with
 | str z=>
   obtain⟨t,rfl⟩:=r
   cases (show T="str" from ty)
   exact⟨typeIs_str s z t,fun _ e=>nomatch e⟩
 | int i=>
   obtain⟨t,rfl⟩:=r
   cases (show T="int" from ty)
   exact⟨typeIs_int s i t,fun _ e=>nomatch e⟩
 | ref p=>
   cases r
   rcases ty with⟨rfl,xs,hq⟩ | ⟨rfl,o,hk,hc,hd⟩ | ⟨rfl,hk⟩ | ⟨rfl,S,n,hk⟩
   ·obtain⟨its,_,pl,_⟩:=I.list hq
    refine⟨pl.isList.typeIs,fun a e => ?_⟩
    cases e
    obtain⟨o,n,e,c,hd,_⟩:=pl
    exact⟨o,e,hd⟩
   ·refine⟨⟨o,I.kIn p o hk,hc⟩,fun a e => ?_⟩
    cases e
    exact⟨o,I.kIn _ o hk,hd⟩
   ·have z : ∃ o,s.heap.get? p=some o/\o.ExactDict:=by
     rcases hk with⟨kvs,hk⟩ | ⟨kvs,hk⟩
     ·obtain⟨_,_,_,_,o,_,_,e,ex,_⟩:=I.hok p _ hk
      exact⟨o,e,ex⟩
     ·obtain⟨_,_,_,_,o,_,_,e,ex,_⟩:=I.hok p _ hk
      exact⟨o,e,ex⟩
    obtain⟨o,e,ex⟩:=z
    refine⟨⟨o,e,ex.1⟩,fun a e2 => ?_⟩
    cases e2
    exact⟨o,e,ex.2.1⟩
   ·obtain⟨o,_,_,_,e,ex,_⟩:=I.hok p _ hk
    refine⟨⟨o,e,ex.1⟩,fun a e2 => ?_⟩
    cases e2
    exact⟨o,e,ex.2.1⟩
 | _=>exact dm ty
noncomputable def J0 (K:ar) (T:String) (r:V->List V->Hp->VK->Prop) (to:TE):TE:=fun σ H Q=>to σ H fun x H1=>tyV K T x H1/\r x [] H1 Q
noncomputable def tBM (K:ar) (T:String) (r:V->List V->Hp->VK->Prop) (to:TE) (t:TA):TE:=fun σ H Q=>to σ H fun x H1=>tyV K T x H1/\t σ H1 fun xs H2=>r x xs H2 Q
variable {o e:Expr}{es:List Expr}{to:TE}{t:TA}{name:Str}{apos cpos:Pos}{T id:String}{r:V->List V->Hp->VK->Prop}
theorem GV (pa:PlainAttrs T) (slot:Slot T name id) (hty:typeOf (.builtin id)=pure (.type "method_descriptor")) (hm:MtR X id r) (ho:PE X o to)
  (hbase:attributeBase o name X.env (eval o X.env)=eval o X.env:=by rfl) (hline:(apos.endLine == cpos.line)=true:=by rfl):PE X (.Call (.Attribute o name apos) [] [] cpos) (J0 X.K T r to):=by
 intro pins s σ H Q I h
 refine wpAny_Call_method0_late hbase hline (thn (ho pins s σ H _ I h) fun v s1 ⟨x,H1,I1,r1,ty,q1⟩ => ?_)
 obtain⟨h1,h2⟩:=Cg I1 r1 ty
 exact⟨T,id,pa,slot,hty,h1,h2,mm rfl (PySem.evalArgs_none (hm pins s1 σ H1 x [] v [] Q I1 r1 .nil q1))⟩
theorem AK (pa:PlainAttrs T) (slot:Slot T name id) (hty:typeOf (.builtin id)=pure (.type "method_descriptor")) (hm:MtR X id r) (ho:PE X o to) (ha:PA X (e::es) t)
  (hbase:attributeBase o name X.env (eval o X.env)=eval o X.env:=by rfl)
  (hfew:((backTo cpos (starEach (e::es) X.env)).all (fun x => !x.1)&&(backToKw cpos (keywordEach [] X.env)).all (fun x=>x.1.isSome)
   && decide ((e::es).length+([]:List Keyword).length+(if ([]:List Keyword).isEmpty then 0 else 1) < 30))=true:=by rfl)
  (hline:(apos.endLine == cpos.line)=true:=by rfl) (hs:starEach (e::es) X.env=(false,eval e X.env)::starEach es X.env:=by rfl) (hplain:(backTo cpos (starEach es X.env)).any (·.1)=false:=by rfl) :
  PE X (.Call (.Attribute o name apos) (e::es) [] cpos) (tBM X.K T r to t):=by
 intro pins s σ H Q I h
 refine wpAny_Call_method_late hbase hfew hline rfl (thn (ho pins s σ H _ I h) fun v s1 ⟨x,H1,I1,r1,ty,q1⟩ => ?_)
 obtain⟨h1,h2⟩:=Cg I1 r1 ty
 refine⟨T,id,pa,slot,hty,h1,h2,?_⟩
 have hA:=ha cpos pins s1 σ H1 _ I1 q1
 rw [hs] at hA ⊢
 refine mm (by show (false||(backTo cpos (starEach es X.env)).any (·.1))=false;rw [hplain] <;> rfl) (Cv ?_)
 exact thn hA fun us s2 ⟨vs,H2,I2,r2,q2⟩=>hm pins s2 σ H2 x vs v us Q I2 r1 r2 q2
end
end L2
namespace L2
open PySem PySem.Spec PyProof.Rows
noncomputable def MtM (X:Cx) (id:String) (r:V->List V->Hp->VK->Prop):Prop:=
 ∀ (pins:List (Addr×Obj)) (s:Shared) (σ:St) (H:Hp) (x:V) (xs:List V) (v:Value) (us:List Value) (Q:VK),Inv X pins σ H s->RelV x v->bO xs us->r x xs H Q ->
  aB (model X.prog X.w) X.A (call (.builtin id) (v::us)) (EP X pins σ Q) X.xe s
theorem bO.one : ∀ {x:V}{us:List Value},bO [x] us -> ∃ u,us = [u]/\RelV x u
 | _,_,.cons r .nil=>⟨_,rfl,r⟩
theorem bO.zero : ∀ {us:List Value},bO [] us->us = []
 | _,.nil=>rfl
theorem bO.dropLast {xs:List V}{us:List Value} (h:bO xs us):bO xs.dropLast us.dropLast:=by
 induction h with
 | nil=>exact .nil
 | cons r t ih=>
   cases t with
   | nil=>exact .nil
   | cons q t'=>exact .cons r ih
theorem bO.eraseIdx : ∀ {xs:List V}{us:List Value} (i:Nat),bO xs us->bO (xs.eraseIdx i) (us.eraseIdx i)
 | _,_,_,.nil => .nil
 | _,_,0,.cons _ t=>t
 | _,_,i+1,.cons r t => .cons r (bO.eraseIdx i t)
theorem bO.rep {xs:List V}{us:List Value} (h:bO xs us) : ∀ k:Nat,bO (aE k xs).flatten (aE k us).flatten
 | 0 => .nil
 | k+1=>by
   rw [b3,b3,eu,eu]
   exact bO.append h (bO.rep h k)
theorem xp {α:Type} (l:List α):l.eraseIdx (l.length - 1)=l.dropLast:=by
 induction l with
 | nil=>rfl
 | cons a r ih=>
   cases r with
   | nil=>rfl
   | cons b r=>
     have e:(a::b::r).length - 1=((b::r).length - 1)+1:=by
      have h1:(a::b::r).length=r.length+2:=rfl
      have h2:(b::r).length=r.length+1:=rfl
      omega
     rw [e,Ai,ih]
     all_goals rfl
theorem sQ {α:Type} : ∀ (l:List α) (i:Nat),(l.eraseIdx i).length<=l.length
 | [],_=>aq _
 | _::_,0=>dc _
 | _::r,i+1=>Nat.succ_le_succ (sQ r i)
theorem foldl_rep (its:List Value) : ∀ (k:Nat) (acc:List Value),
  mN (fun x1 x2=>x1++x2) acc.toArray (aE k its.toArray)=(acc++(aE k its).flatten).toArray
 | 0,acc=>by simp
 | k+1,acc=>by
   have e:acc.toArray++its.toArray=(acc++its).toArray:=by simp
   have e2:(acc++its)++(aE k its).flatten=acc++(aE (k+1) its).flatten:=by
    rw [b3,eu,ba]
   rw [<- e2,<- foldl_rep its k (acc++its),<- e,b3,gE]
section
variable {X:Cx}{pins:List (Addr×Obj)}{σ:St}{H:Hp}{s:Shared}{l b:Addr}{xs ys zs:List V}
theorem Inv.lset {its its':List Value}{n:Nat}{f:Array Value->Array Value}{t':Nat} (I:Inv X pins σ H s) (hH:H l=some (.lst xs))
  (e:s.heap.get? l=some { cls := .type "list",data := .seq its.toArray n }) (hf:f its.toArray=its'.toArray) (hv:bO ys its') (hz:ys.length<=sizeLine) :
  Inv X pins σ (upd H l (.lst ys)) { s with heap:=s.heap.update l (cD f),toks:=t' }:=by
 have q:=Cw e f
 rw [hf] at q
 refine I.write (x:=l) (e:=l) (by rw [hH];exact trivial) (.inl rfl) (fun b' u hb hu=>(cb s.heap (cD f) (cY hb)).trans hu) ⟨_,q⟩ ?_
 exact⟨hz,its',_,hv,q⟩
theorem Inv.lnew {its:List Value}{t':Nat} (I:Inv X pins σ H s) (hv:bO ys its) (hz:ys.length<=sizeLine) :
  Inv X pins σ (upd H s.heap.objs.size (.lst ys)) { s with heap:=s.heap.push { cls := .type "list",data := .seq its.toArray },toks:=t' }:=
 I.laid (fun _ _ q=>ak _ q) (aq _) ⟨hz,its,0,hv,av _ rfl⟩
theorem Inv.fresh (I:Inv X pins σ H s):H s.heap.objs.size=none:=I.hok.fresh (aq _)
theorem Inv.lstM (I:Inv X pins σ H s) (hH:H l=some (.lst xs)):xs.length<=sizeLine /\ ∃ (its:List Value) (n:Nat),bO xs its/\xs.length=its.length/\s.heap.get? l=some { cls := .type "list",data := .seq its.toArray n }:=by
 obtain⟨z,its,n,r,e⟩:=I.hok l _ hH
 exact⟨z,its,n,r,r.length,e⟩
theorem uS {n:Nat} (h:n<=sizeLine):fB n=false:=by
 unfold fB
 exact decide_eq_false (by omega)
end
section
variable {X:Cx}
noncomputable def yT:V->List V->Hp->VK->Prop:=fun x vs H Q => ∃ l xs y,x = .ref l/\vs = [y]/\H l=some (.lst xs)/\xs.length < sizeLine/\Q .non (upd H l (.lst (xs ++ [y])))
theorem z5:MtM X "list.append" yT:=by
 intro pins s σ H x vs v us Q I rx rv h
 obtain⟨l,xs,y,rfl,rfl,hH,hz,q⟩:=h
 cases rx
 obtain⟨u,rfl,ru⟩:=rv.one
 obtain⟨z,its,n,r,hl,e⟩:=I.lstM hH
 refine call_meets F.slot_list_append ⟨_,e,rfl⟩ F.entry_list_append (F.args_list_append_2 _ _) (PySem.list_append l its.toArray n u (by rw [az];omega)) ⟨e,?_⟩
 refine⟨.non,_,I.lset (its':=its ++ [u]) hH e (by simp) (r.append (.cons ru .nil)) ?_,rfl,q⟩
 rw [aI,Cy]
 omega
noncomputable def yP:V->List V->Hp->VK->Prop:=fun x vs H Q => ∃ l b xs zs,x = .ref l/\vs = [.ref b]/\H l=some (.lst xs)/\H b=some (.lst zs)/\xs.length+zs.length<=sizeLine/\Q .non (upd H l (.lst (xs++zs)))
theorem zF:MtM X "list.extend" yP:=by
 intro pins s σ H x vs v us Q I rx rv h
 obtain⟨l,b,xs,zs,rfl,rfl,hH,hB,hz,q⟩:=h
 cases rx
 obtain⟨u,rfl,ru⟩:=rv.one
 cases ru
 obtain⟨z,its,n,r,hl,e⟩:=I.lstM hH
 obtain⟨z2,its2,n2,r2,hl2,e2⟩:=I.lstM hB
 have hsz:its.toArray.size+its2.toArray.size<=sizeLine:=by rw [az,az];omega
 have hlong : ¬ (!its.toArray.isEmpty&&fB (its.toArray.size+its2.toArray.size))=true:=by
  rw [uS hsz,Bool.and_false]
  exact bj
 refine call_meets F.slot_list_extend ⟨_,e,rfl⟩ F.entry_list_extend (F.args_list_extend_2 _ _)
  (AutoSeq1.list_extend_list_list_0 l its.toArray n b its2.toArray n2 hlong (by rw [az];omega) (by omega)) ⟨e,e2,?_⟩
 refine⟨.non,_,I.lset (its':=its++its2) hH e (by simp) (r.append r2) ?_,rfl,q⟩
 rw [aI]
 omega
noncomputable def Je:V->List V->Hp->VK->Prop:=fun x vs H Q => ∃ l xs y,x = .ref l/\vs = []/\H l=some (.lst xs)/\xs[xs.length - 1]? = some y/\Q y (upd H l (.lst xs.dropLast))
theorem HN:MtM X "list.pop" Je:=by
 intro pins s σ H x vs v us Q I rx rv h
 obtain⟨l,xs,y,rfl,rfl,hH,hy,q⟩:=h
 cases rx
 have hus:=rv.zero
 subst hus
 obtain⟨z,its,n,r,hl,e⟩:=I.lstM hH
 obtain⟨u,hu,ru⟩:=r.get hy
 have hy':its.toArray[its.toArray.size - 1]? = some u:=by
  show its.toArray[its.length - 1]? = some u
  rw [<- fi,<- hl]
  exact hu
 refine call_meets F.slot_list_pop ⟨_,e,rfl⟩ F.entry_list_pop (F.args_list_pop_1 _) (MeetsSeq.list_pop_last l its.toArray n u hy' (by rw [az];omega)) ⟨e,?_⟩
 refine⟨y,_,I.lset (its':=its.dropLast) hH e ?_ r.dropLast ?_,ru,q⟩
 ·show its.toArray.eraseIdxIfInBounds (its.toArray.size - 1)=its.dropLast.toArray
  rw [az,rE,xp]
 ·rw [List.length_dropLast]
  omega
noncomputable def AG:V->List V->Hp->VK->Prop:=fun x vs H Q => ∃ l xs i k y,x = .ref l/\vs = [.int i]/\H l=some (.lst xs) /\ -(2 ^ 63)<=i/\i < 2 ^ 63/\seqIndex? i xs.length=some k/\xs[k]? = some y/\Q y (upd H l (.lst (xs.eraseIdx k)))
theorem B9:MtM X "list.pop" AG:=by
 intro pins s σ H x vs v us Q I rx rv h
 obtain⟨l,xs,i,k,y,rfl,rfl,hH,h1,h2,hk,hy,q⟩:=h
 cases rx
 obtain⟨u,rfl,ru⟩:=rv.one
 obtain⟨t,rfl⟩:=ru
 obtain⟨z,its,n,r,hl,e⟩:=I.lstM hH
 obtain⟨w,hw,rw'⟩:=r.get hy
 refine call_meets F.slot_list_pop ⟨_,e,rfl⟩ F.entry_list_pop (F.args_list_pop_2 _ _)
  (MeetsSeq.list_pop_at l its.toArray n i t k w (fitsIndex_both h1 h2) (by rw [az,<- hl];exact hk) (by rw [<- fi];exact hw) (by rw [az];omega)) ⟨e,?_⟩
 refine⟨y,_,I.lset (its':=its.eraseIdx k) hH e ?_ (r.eraseIdx k) ?_,rw',q⟩
 ·show its.toArray.eraseIdxIfInBounds k=(its.eraseIdx k).toArray
  rw [rE]
 ·have:=sQ xs k
  omega
noncomputable def KB:R2:=fun x y H Q => ∃ l b xs zs,x = .ref l/\y = .ref b/\H l=some (.lst xs)/\H b=some (.lst zs)/\xs.length+zs.length<=sizeLine /\ ∀ p,H p=none->Q (.ref p) (upd H p (.lst (xs++zs)))
theorem GL:OpR X (binaryOp .Add) KB:=by
 intro pins s σ H x y v u Q I rx ry h
 obtain⟨l,b,xs,zs,rfl,rfl,hH,hB,hz,q⟩:=h
 cases rx
 cases ry
 obtain⟨z,its,n,r,hl,e⟩:=I.lstM hH
 obtain⟨z2,its2,n2,r2,hl2,e2⟩:=I.lstM hB
 refine PySem.P.add_list e e2 ?_ (by rw [az,az];omega)
 have ea:its.toArray++its2.toArray=(its++its2).toArray:=by simp
 rw [ea]
 exact⟨.ref _,_,I.lnew (t':=s.toks) (r.append r2) (by rw [aI];omega),rfl,q _ I.fresh⟩
noncomputable def Ky:R2:=fun x y H Q => ∃ l k xs,x = .ref l/\y = .int k/\H l=some (.lst xs) /\ -(2 ^ 63)<=k/\k < 2 ^ 63/\xs.length*k.toNat<=sizeLine /\
 ∀ p,H p=none->Q (.ref p) (upd H p (.lst (aE k.toNat xs).flatten))
theorem len_rep {α:Type} (xs:List α) (k:Nat):(aE k xs).flatten.length=k*xs.length:=by
 induction k with
 | zero=>simp
 | succ k ih=>rw [b3,eu,aI,ih,Nat.succ_mul,Nat.add_comm]
theorem F4:OpR X (binaryOp .Mult) Ky:=by
 intro pins s σ H x y v u Q I rx ry h
 obtain⟨l,k,xs,rfl,rfl,hH,h1,h2,hz,q⟩:=h
 cases rx
 obtain⟨t,rfl⟩:=ry
 obtain⟨z,its,n,r,hl,e⟩:=I.lstM hH
 have hlen:its.toArray.size*k.toNat<=sizeLine:=by rw [az,<- hl];exact hz
 have hcap : ¬ its.toArray.size*k.toNat > (2 ^ 63 - 1) / 8:=by
  have:(sizeLine:Nat)<=(2 ^ 63 - 1) / 8:=by decide
  omega
 have hfit : ¬ (!Builtin.List.listFitsIndex k)=true:=by
  rw [fitsIndex_both h1 h2]
  exact bj
 have hlong : ¬ fB (its.toArray.size*k.toNat)=true:=by
  rw [uS hlen]
  exact bj
 have hnew:mN (fun x1 x2=>x1++x2) #[] (aE (if its.toArray.isEmpty=true then 0 else k.toNat) its.toArray)=(aE k.toNat its).flatten.toArray:=by
  have f0 : ∀ m:Nat,mN (fun x1 x2=>x1++x2) #[] (aE m its.toArray)=(aE m its).flatten.toArray:=fun m=>by
   have:=foldl_rep its m []
   rw [ei] at this
   exact this
  rw [f0]
  cases its with
  | nil=>simp
  | cons a r'=>rw [if_neg (by simp)]
 refine CI (T:="list") (U:="int") (by decide) ⟨_,e,rfl⟩ (fun s'=>typeIs_int s' k t) noFill_list_mul F.fills_int_mul n8 repeat_list F.slot_int_index.lookup
  (call_meets n8 (typeIs_int s k t) F.entry_int_rmul (F.args_int_rmul_2 _ _) (int___rmul___int_list k t l its.toArray n)
   ⟨e,rfl,⟨_,e,rfl⟩,call_meets F.slot_list_mul ⟨_,e,rfl⟩ F.entry_list_mul (F.args_list_mul_2 _ _) (AutoListH.list___mul___list_int_3 l its.toArray n k t hfit hcap hlong) ⟨e,?_⟩⟩)
 rw [hnew]
 exact⟨.ref _,_,I.lnew (t':=s.toks) (r.rep k.toNat) (by rw [len_rep,iw];exact hz),rfl,q _ I.fresh⟩
end
section
variable {prog:Program}{w:World}{A:Around}{E:Value->Shared->Prop}{s:Shared}
end
section
variable {X:Cx}
end
end L2
namespace Att
open PySem PySem.W PySem.Calls PyProof.Rows
theorem o3 {P:Params}{h:Heap} : ∀ (ns:List Int) (vs:List Value),WellAll P h vs (ns.map WData.int)->IntsAre vs ns:=by
 intro ns
 induction ns with
 | nil=>
   intro vs w
   rw [ij] at w
   cases w
   exact .nil
 | cons n ns ih=>
   intro vs w
   rw [bu] at w
   cases w with
   | cons a b=>
     cases a
     exact .cons _ _ (ih _ b)
theorem zi {l:OpenLaw}{n:Nat} (hn:l.most=some n) {P:Params}{h:Heap}{args:List WData}{vals:List Value}
  (hpre:l.row.toRowW.claim.pre args=true) (hwl:WellAll P h vals args) :
  ∃ a vs ns,vals = [aT a]/\args = [WData.list (ns.map WData.int)]/\h.get? a=some { cls := .type "list",data := .seq vs.toArray }/\IntsAre vs ns/\ns.length<=n:=by
 have hsh:WShape.hasAll [] args [.list .int]=true:=(pre_splitW hpre).1
 have hc:l.pre.holds [] { args:=args }=true:=(pre_splitW hpre).2
 obtain⟨d,r,rfl,h1,h2⟩:=hasAllW_cons hsh
 obtain rfl:=hasAllW_nil h2
 obtain⟨xs,rfl,h3⟩:=hasW_list h1
 obtain⟨ns,rfl⟩:=items_int h3
 have hlen:ns.length<=n:=by
  unfold OpenLaw.pre at hc
  have h4:(WTm.not (.lt (.lit (.int (n:Int))) (.len (.arg 0)))).holds [] { args := [.list (ns.map .int)] }=true:=by
   have h4:=(holds_andW hc).1
   rw [hn] at h4
   exact h4
  have h5:=condW_of h4 (w_not (w_lt w_lit (w_len_list (w_arg rfl))))
  rw [ay] at h5
  refine eP fun q => ?_
  have q':(n:Int) < ((ns.length:Nat):Int):=by omega
  first
   | (rw [decide_eq_true q'] at h5;exact absurd h5 (by decide))
   | (simp at h5;omega)
 cases hwl with
 | cons w1 w2=>
   cases w2
   cases w1 with
   | list ho hall=>exact⟨_,_,ns,rfl,rfl,ho,o3 ns _ hall,hlen⟩
theorem zH (l:OpenLaw) (args:List WData):l.row.toRowW.claim.post args (.bool true) args=true:=
 postW_of (r:=l.row.toRowW) (X:=(true == true))
  (show WShape.has [] (.bool true) .bool=true by first | rfl | decide | simp [WShape.has,WShape.arms,WShape.armsAll])
  (show (WTm.eq .res (.lit (.bool true))).value [] { args:=args,res:=some (.bool true),after:=args }=some (.bool (true == true)) from w_eq_bool (w_res rfl) w_lit) rfl
theorem attach_call {l:OpenLaw}{n:Nat}{q:Program}{loose:List Str}{XP:(Str->Option Value)->Heap->Prop}{YP:World->Heap->Prop}{d:DefRec}
  (hn:l.most=some n) (hdf:d.params.defaults = [])
  (call : ∀ (w:World) (s₀ s₁:Shared) (mg mb:Str->Option Value) (fa:Addr) (o:Obj) (pm cd doc:Value) (a:Addr) (vs:List Value) (ns:List Int),
   Ground q loose [] XP w s₀ mg mb s₁.heap->YP w s₁.heap ->
   s₁.heap.get? fa=some o->o.data = .func (docDef d.name d.params d.body d.scope pm cd doc)->s₁.heap.CodeRec cd d.name->mg d.name=some (.ref fa) ->
   s₁.heap.get? a=some { cls := .type "list",data := .seq vs.toArray }->IntsAre vs ns->ns.length<=n->s₁.gens = #[] ->
   oJ (model l.prog w) callerA (.call (.ref fa) ⟨[.ref a],[]⟩) (fun r s'=>r = .ok (.ret (.bool true))/\OldK s₁.heap s'.heap/\s'.os=s₁.os/\AllBare s'.gens) s₁) :
  WalkO q loose XP YP l.row.toRowW d [] (fun f vs=>PySem.call f vs):=by
 intro w s₀ s₁ mg mb G Y fa o pm cd doc dV kV ho hd hcd hD hmg hg args vals as hpre hlay hrd hwl hlo
 obtain rfl:dV = .none:=Dflts.none hD hdf
 obtain rfl:kV = .none:=Dflts.noKw hD
 obtain⟨a,vs,ns,rfl,rfl,hobj,hints,hlen⟩:=zi hn hpre hwl
 refine enter_call (iW (call w s₀ s₁ mg mb fa o pm cd doc a vs ns G Y ho (fd_plain hd) hcd hmg hobj hints hlen hg) fun r s' hq => ?_)
 obtain⟨rfl,h2,h3,h4⟩:=hq
 exact⟨.inl ⟨.bool true,.bool true,[],rfl,fun _=>rfl,.bool true,zH l _,fun _=>⟨i4,fun _ hm=>(nomatch hm)⟩⟩,h2,h3,h4⟩
section
variable {prog:Program}{w:World}{A:Around}{E:Value->Shared->Prop}{s:Shared}{K:Frag}
end
end Att
namespace L2
open PySem PySem.Spec PyProof.Rows
end L2
namespace L2
open PySem PySem.Spec PyProof.Rows
abbrev KOf {K:ar}{h:Heap} (_:K.In h):ar:=K
end L2
namespace L2
open PySem PySem.Spec PyProof.Rows
noncomputable def gS (s:Stmt):Arguments:=match s with
 | .FunctionDef _ a _ _ _ _ _ _ _ _=>a
 | _=>{ posonlyargs := [],args := [],vararg:=none,kwonlyargs := [],kw_defaults := [],kwarg:=none,defaults := [] }
noncomputable def bt (s:Stmt):List Stmt:=match s with
 | .FunctionDef _ _ b _ _ _ _ _ _ _=>b
 | _ => []
noncomputable def aF (s:Stmt):Scope:=match s with
 | .FunctionDef _ _ _ _ _ _ sc _ _ _=>sc
 | _=>{ kind := .function,names := [],isGenerator:=false,isCoroutine:=false }
abbrev CX0:CXT:=fun _ _ _ _ _ _=>False
abbrev E0:XK:=fun _ _ _=>False
theorem Fp {X:Cx}:tR CX0 X E0:=fun _ _ _ _ _ _ _ h=>h.elim
structure Fun (K:ar) (x qual:Str) (st:Stmt) (f:Addr) (fd:FuncData):Prop where
 ex : ∃ (oc:Value) (od:Option Addr) (kV doc pm:Value) (an:Option Addr) (cdv ct:Value) (osl:Array (Option Value)),
  fd=dA x qual (gS st) (bt st) (aF st) .none kV doc pm an cdv ct/\K.lookup f=some ⟨oc,od,.func fd,osl⟩/\jC K cdv qual=true
 kp:di K (.ref f)=true
section
variable {P:Program}{w:World}{K:ar}{mg:Str->Option Value}{base:Heap}
theorem Fun.ok {x qual:Str}{st:Stmt}{f:Addr}{fd:FuncData}{N ps:List Str}{k:Nat}{sp:Sp} (F:Fun K x qual st f fd) (S:bM N ps (aF st)) (len : ∀ vs H Q E,sp vs H Q E->vs.length=ps.length)
  (hbody : ∀ (cdv:Value) (A:Around) (outer:List Env) (s:Shared) (H:Hp) (vs:List V) (Q:VK) (E:XK),jM k (A.deeper (envOfC qual (aF st) s.heap.objs.size f cdv))->sp vs H Q E ->
   ∃ t,PSs (xo CX0 P w K mg base N qual (aF st) f cdv A outer s H E).nox (bt st) t/\t { nx:=fun _ H'=>Q .non H',rt:=Q } (start N vs) H):nQ P w K mg base CX0 (k+1) f fd ps sp:=by
 obtain⟨oc,od,kV,doc,pm,an,cdv,ct,osl,rfl,lk,hcd⟩:=F.ex
 refine BP lk hcd S len fun A outer s H vs Q E hr hsp => ?_
 obtain⟨t,h,q⟩:=hbody cdv A outer s H vs Q E hr hsp
 exact⟨t,h.nox,q⟩
theorem Fun.binds {x qual:Str}{st:Stmt}{f:Addr}{fd:FuncData}{ps:List Str} (F:Fun K x qual st f fd)
  (h : ∀ (kV doc pm:Value) (an:Option Addr) (cdv ct:Value) (us:List Value),us.length=ps.length->bindArgs (dA x qual (gS st) (bt st) (aF st) .none kV doc pm an cdv ct) ⟨us,[]⟩=pure (ps.zip us)):Binds K fd ps []:=by
 obtain⟨oc,od,kV,doc,pm,an,cdv,ct,osl,rfl,lk,hcd⟩:=F.ex
 exact .all (h kV doc pm an cdv ct)
theorem Ht {x qual:Str}{st:Stmt}{f:Addr}{oc:Value}{od an:Option Addr}{osl:Array (Option Value)}{kV doc pm cdv ct:Value} (l:K.lookup f=some ⟨oc,od,.func (dA x qual (gS st) (bt st) (aF st) .none kV doc pm an cdv ct),osl⟩)
  (c:jC K cdv qual=true) (k:di K (.ref f)=true):Fun K x qual st f (dA x qual (gS st) (bt st) (aF st) .none kV doc pm an cdv ct):=⟨⟨oc,od,kV,doc,pm,an,cdv,ct,osl,rfl,l,c⟩,k⟩
end
section
variable {X:Cx}
end
end L2
end
section
namespace PySem
namespace GR
noncomputable def xt (h:Heap) (a t:Addr) (i:Int):Prop := ∃ o,h.get? a=some o/\o.cls = .type "reversed"/\o.data = .fields #[.ref t,rawInt i]
theorem xt.at {h h':Heap}{a t:Addr}{i:Int} (x:xt h a t i) (e : ∀ o,h.get? a=some o->h'.get? a=some o):xt h' a t i:=let ⟨o,ho,r⟩:=x;⟨o,e _ ho,r⟩
open PyProof.Rows in
section
variable {prog:Program}{w:World}{A:Around}{E:Value->Shared->Prop}{s:Shared}
open PyProof.Rows
end
end GR
end PySem
namespace L2
open PySem PySem.Spec PyProof.Rows
section
variable {X:Cx}{tg:Expr}
end
end L2
end
section
namespace PySem
namespace GE
open AutoSeq1 (wpAny_loadPart')
theorem xf (l:Addr) (items:Array Value) (n:Nat) (dct:Option Addr) (sl:Array (Option Value)):Meets (Builtin.«enumerate.__new__» ⟨[.type "enumerate",.ref l],[]⟩) (fun _ R s=>s.heap.get? l=some { cls := .type "tuple",dict:=dct,data := .seq items n,slots:=sl } /\
   R (.ok (.ret (.ref (s.heap.push { cls := .type "tuple_iterator",data := .fields #[.ref l,.int 0 0] }).objs.size))) { s with heap:=(s.heap.push { cls := .type "tuple_iterator",data := .fields #[.ref l,.int 0 0] }).push { cls := .type "enumerate",data := .fields #[.none,.bool false,.ref s.heap.objs.size,rawInt 0,.none,.none] } }):=
 .of_wp fun prog w A R s h=>by
  obtain⟨hp,g,d,tk,os⟩:=s;obtain⟨hl,h⟩:=h;have hsub:=sub_enumerate;have hT:Heap.IsTuple (Shared.heap ⟨hp,g,d,tk,os⟩) l items:=⟨_,hl,rfl,n,rfl⟩
  wp_walk using dC hl
  refine wpAny_stack_any fun st=>ao ?_;split
  ·rename_i c _ _ _ _ _
   cases (c == jT "enumerate") <;> (wp_walk using dC hl,lx hT;exact⟨_,rfl,h⟩)
  ·wp_walk using dC hl,lx hT;exact⟨_,rfl,h⟩
section
variable {prog:Program}{w:World}{A:Around}{E:Value->Shared->Prop}{s:Shared}
theorem xa {l:Addr}{items:Array Value}{Q:Value->Shared->Prop} (hT:s.heap.IsTuple l items)
  (h : ∀ h',IsEnum h' (s.heap.objs.size+1) s.heap.objs.size 0 .none->h'.IsTupleIter s.heap.objs.size l 0->h'.objs.size=s.heap.objs.size+2->(∀ b o,s.heap.get? b=some o->h'.get? b=some o)->Q (.ref (s.heap.objs.size+1)) { s with heap:=h' }):aB (model prog w) A (call (.type "enumerate") [.ref l]) Q E s:=by
 obtain⟨⟨c,dct,dt,sl⟩,hl,hc,n,hd⟩:=hT;replace hc:c = .type "tuple":=hc;replace hd:dt = .seq items n:=hd;subst hc hd
 refine callType_new F.called_enumerate (by decide) (F.typeCall_enumerate_1 _) (F.newCall_enumerate_1 _) (fun obj=>F.args_object_init_2 obj _) F.entry_enumerate_new (xf l items n dct sl) ⟨hl,?_⟩
 have hz:(s.heap.push { cls := .type "tuple_iterator",data := .fields #[.ref l,.int 0 0] }).objs.size=s.heap.objs.size+1:=bc ..;show _/\_;rw [hz]
 have he:IsEnum ((s.heap.push { cls := .type "tuple_iterator",data := .fields #[.ref l,.int 0 0] }).push { cls := .type "enumerate",data := .fields #[.none,.bool false,.ref s.heap.objs.size,rawInt 0,.none,.none] }) (s.heap.objs.size+1) s.heap.objs.size 0 .none:=by
  have:=av (s.heap.push { cls := .type "tuple_iterator",data := .fields #[.ref l,.int 0 0] }) (o:={ cls := .type "enumerate",data := .fields #[.none,.bool false,.ref s.heap.objs.size,rawInt 0,.none,.none] }) rfl;rw [hz] at this;exact this
 refine⟨⟨_,he,rfl⟩,h _ he ⟨_,ak _ (av _ rfl),rfl,rfl⟩ (by rw [bc,hz]) fun b o x=>ak _ (ak _ x)⟩
theorem wb {it t:Addr}{i:Nat}{items:Array Value}{x:Value}{Q:Value->Shared->Prop} (hit:s.heap.IsTupleIter it t i) (ht:s.heap.IsTuple t items) (hx:items[i]? = some x)
  (hQ : ∀ h',h'.IsTupleIter it t (i+1)->cw it s.heap h'->Q x { s with heap:=h' }):aB (model prog w) A (eQ (.ref it)) Q E s:=by
 obtain⟨o,ho,hc,hd⟩:=id hit;obtain⟨ol,hol,_,nl,hdl⟩:=ht;unfold eQ
 refine ae (bG (name:=dF "__next__") hit.typeIs fV (bH fV hit.typeIs zb ?_ (ya _)))
 show aB _ _ (field (.ref it) 0 >>= _) _ _ s;refine ae (cW ho hd (x := .ref t) rfl ?_);show aB _ _ (if (aT t == dk)=true then _ else _) _ _ s;rw [if_neg (show ¬ ((aT t == dk)=true) from bj)]
 show aB _ _ (field (.ref it) 1 >>= _) _ _ s;refine ae (cW ho hd (x := .int i 0) rfl ?_);show aB _ _ (seqItems? (.ref t) >>= _) _ _ s;refine ae (qM hol hdl ?_);simp only [bN,hx]
 refine ae (wpAny_setField ho hd (by simp) (ao ⟨x,rfl,ao (hQ _ ?_ (lQ ..))⟩));exact⟨_,cQ _ ho (Obj.isFreed_of_fields (Obj.data_mapFields hd _)),(Obj.cls_mapFields ..).trans hc,by rw [Obj.data_mapFields hd];simp [rawInt]⟩
theorem xq {it t:Addr}{i:Nat}{items:Array Value}{Q:Value->Shared->Prop} (hh:A.handled=none) (hit:s.heap.IsTupleIter it t i) (ht:s.heap.IsTuple t items) (hx:items[i]? = none)
  (hE : ∀ h' e,uw it s.heap h'->(∃ o,h'.get? e=some o/\o.cls = .type "StopIteration")->E (.ref e) { s with heap:=h' }):aB (model prog w) A (eQ (.ref it)) Q E s:=by
 obtain⟨o,ho,hc,hd⟩:=id hit;obtain⟨ol,hol,_,nl,hdl⟩:=ht;unfold eQ
 refine ae (bG (name:=dF "__next__") hit.typeIs fV (bH fV hit.typeIs zb ?_ (ya _)))
 show aB _ _ (field (.ref it) 0 >>= _) _ _ s;refine ae (cW ho hd (x := .ref t) rfl ?_);show aB _ _ (if (aT t == dk)=true then _ else _) _ _ s;rw [if_neg (show ¬ ((aT t == dk)=true) from bj)]
 show aB _ _ (field (.ref it) 1 >>= _) _ _ s;refine ae (cW ho hd (x := .int i 0) rfl ?_);show aB _ _ (seqItems? (.ref t) >>= _) _ _ s;refine ae (qM hol hdl ?_);simp only [bN,hx]
 refine ae (lB (ae (wpAny_setField ho hd (by simp) ?_)));show aB _ _ (newExc (.type "StopIteration") [] >>= _) _ _ _;refine ae ?_;simp only [newExc,newTuple];refine ae (aU ?_ (by size_fits))
 refine ae (m:=firstArgMember _ _) (fj (a:=dk) (by first | rfl | (simp only [firstArgMember];rfl)) ?_);refine aU ?_ (by size_fits);simp only [raiseNew];refine ae (wpAny_handled ?_)
 (first | rw [show A.in1.handled=none from hh] | rw [hh]);refine ae (ao (wpAny_throw ?_));exact hE _ _ (((lQ ..).extBut.push _).push _) ⟨_,av _ rfl,rfl⟩
theorem xG {e it l:Addr}{i:Nat}{items:Array Value}{x old:Value}{Q:Value->Shared->Prop} (he:IsEnum s.heap e it i old) (hit:s.heap.IsTupleIter it l i) (hl:s.heap.IsTuple l items) (hx:items[i]? = some x) (hne:e≠it)
  (hQ : ∀ h',IsEnumOut h' e it ((i:Int)+1) x s.heap.objs.size->h'.IsTupleIter it l (i+1)->h'.get? s.heap.objs.size=some { cls := .type "tuple",data := .seq #[.int i s.toks,x] }->h'.objs.size=s.heap.objs.size+1 ->
   (∀ b o,b≠e->b≠it->s.heap.get? b=some o->h'.get? b=some o)->Q (.ref s.heap.objs.size) { s with heap:=h',toks:=s.toks+1 }):aB (model prog w) A (Builtin.«enumerate.__next__» ⟨[.ref e],[]⟩) (fun fin s' => ∃ v,fin = .done (.ret v)/\Q v s') E s:=by
 obtain⟨hp,g,d,tk,os⟩:=s;show aB _ _ (field (.ref e) 2 >>= _) _ _ _;refine ae (cW he rfl (x := .ref it) rfl ?_);refine ae (wb hit hl hx fun h₁ hit₁ hs₁ => ?_)
 replace hs₁:cw it hp h₁:=hs₁;have he₁:IsEnum h₁ e it i old:=(hs₁.2 e hne).trans he;show aB _ _ (field (.ref e) 3 >>= _) _ _ ⟨h₁,g,d,tk,os⟩;refine ae (cW he₁ rfl (x:=rawInt i) rfl ?_)
 show aB _ _ (field (.ref e) 4 >>= _) _ _ ⟨h₁,g,d,tk,os⟩;refine ae (cW he₁ rfl (x := .none) rfl ?_);show aB _ _ (mkInt i >>= _) _ _ ⟨h₁,g,d,tk,os⟩;refine ae (wpAny_mkInt ?_)
 show aB _ _ (setField (.ref e) 3 (rawInt ((i:Int)+1)) >>= _) _ _ ⟨h₁,g,d,tk+1,os⟩;refine ae (cf he₁ (by simp) fun h₂ he₂ hs₂ => ?_);replace hs₂:cw e h₁ h₂:=hs₂;replace he₂:IsEnum h₂ e it ((i:Int)+1) old:=he₂
 show aB _ _ (setField (.ref e) 4 .none >>= _) _ _ ⟨h₂,g,d,tk+1,os⟩;refine ae (cf he₂ (by simp) fun h₃ he₃ hs₃ => ?_);replace hs₃:cw e h₂ h₃:=hs₃;replace he₃:IsEnum h₃ e it ((i:Int)+1) old:=he₃
 show aB _ _ (newTuple [.int i tk,x] >>= _) _ _ ⟨h₃,g,d,tk+1,os⟩;refine ae (wpAny_newTuple ?_);have he₄:IsEnum (h₃.push { cls := .type "tuple",data := .seq #[.int i tk,x] }) e it ((i:Int)+1) old:=ak _ he₃
 generalize hh₄:h₃.push { cls := .type "tuple",data := .seq #[.int i tk,x] }=h₄ at he₄;have hsz:h₃.objs.size=hp.objs.size:=by rw [hs₃.1,hs₂.1,hs₁.1]
 have hel:e < hp.objs.size:=aC he;have ht₄:h₄.get? hp.objs.size=some { cls := .type "tuple",data := .seq #[.int i tk,x] }:=by rw [<- hh₄,<- hsz];exact av _ rfl
 have hz₄:h₄.objs.size=hp.objs.size+1:=by rw [<- hh₄,bc,hsz]
 have hk₄ : ∀ b o,b≠e->b≠it->hp.get? b=some o->h₄.get? b=some o:=fun b o hbe hbi hb=>by rw [<- hh₄];exact ak _ (hs₃.extBut b o hbe (hs₂.extBut b o hbe (hs₁.extBut b o hbi hb)))
 have hit₄:h₄.IsTupleIter it l (i+1):=by rw [<- hh₄];obtain⟨o,ho,r⟩:=(hit₁.extBut hs₂.extBut (cY hne)).extBut hs₃.extBut (cY hne);exact⟨o,ak _ ho,r⟩
 show aB _ _ (kf (.ref e) >>= _) _ _ ⟨h₄,g,d,tk+1,os⟩;rw [hsz];clear hh₄ he₃ hs₃ he₂ hs₂ he₁ hs₁ hit₁ hsz h₃ h₂ h₁
 refine ae ?_;unfold kf;refine ae (cW he₄ rfl (x := .none) rfl (ao ?_));simp only [if_true];refine ae (lB ?_);refine ae (cW he₄ rfl (x:=old) rfl ?_)
 refine ae (cf he₄ (by simp) fun h₅ he₅ hs₅ => ?_);replace hs₅:cw e h₄ h₅:=hs₅;replace he₅:IsEnum h₅ e it ((i:Int)+1) x:=he₅;show aB _ _ (jU (.ref e) (.ref hp.objs.size) >>= _) _ _ ⟨h₅,g,d,tk+1,os⟩
 refine ae ?_;unfold jU;refine ae (cf he₅ (by simp) fun h₆ he₆ hs₆ => ?_);replace hs₆:cw e h₅ h₆:=hs₆;replace he₆:IsEnumOut h₆ e it ((i:Int)+1) x hp.objs.size:=he₆
 refine cf he₆ (by simp) fun h₇ he₇ hs₇ => ?_;replace hs₇:cw e h₆ h₇:=hs₇;replace he₇:IsEnumOut h₇ e it ((i:Int)+1) x hp.objs.size:=he₇;refine ae (wpAny_letGo (ao ⟨_,rfl,hQ h₇ he₇ ?_ ?_ ?_ ?_⟩))
 ·exact ((hit₄.extBut hs₅.extBut (cY hne)).extBut hs₆.extBut (cY hne)).extBut hs₇.extBut (cY hne)
 ·exact hs₇.extBut _ _ (bL hel) (hs₆.extBut _ _ (bL hel) (hs₅.extBut _ _ (bL hel) ht₄))
 ·rw [hs₇.1,hs₆.1,hs₅.1,hz₄]
 ·exact fun b o hbe hbi hb=>hs₇.extBut b o hbe (hs₆.extBut b o hbe (hs₅.extBut b o hbe (hk₄ b o hbe hbi hb)))
theorem next_item {e it l:Addr}{i:Nat}{items:Array Value}{x old:Value}{Q:Option Value->Shared->Prop} (he:IsEnum s.heap e it i old) (hit:s.heap.IsTupleIter it l i) (hl:s.heap.IsTuple l items) (hx:items[i]? = some x) (hne:e≠it)
  (hQ : ∀ h',IsEnumOut h' e it ((i:Int)+1) x s.heap.objs.size->h'.IsTupleIter it l (i+1)->h'.get? s.heap.objs.size=some { cls := .type "tuple",data := .seq #[.int i s.toks,x] }->h'.objs.size=s.heap.objs.size+1 ->
   (∀ b o,b≠e->b≠it->s.heap.get? b=some o->h'.get? b=some o)->Q (some (.ref s.heap.objs.size)) { s with heap:=h',toks:=s.toks+1 }):aB (model prog w) A (pyNext (.ref e)) Q E s:=by
 have hT:s.TypeIs (.ref e) "enumerate":=⟨_,he,rfl⟩;unfold pyNext
 exact ae (jF (bG (name:=dF "__next__") hT i5 (bH i5 hT F.entry_enumerate_next (xG he hit hl hx hne fun h' a b c d k=>ao (hQ h' a b c d k)) (CJ _))))
theorem next_end {e it l:Addr}{i:Nat}{items:Array Value}{old:Value}{Q:Option Value->Shared->Prop} (hh:A.handled=none) (he:IsEnum s.heap e it i old) (hit:s.heap.IsTupleIter it l i) (hl:s.heap.IsTuple l items) (hx:items[i]? = none)
  (hQ : ∀ h',uw it s.heap h'->Q none { s with heap:=h' }):aB (model prog w) A (pyNext (.ref e)) Q E s:=by
 have hT:s.TypeIs (.ref e) "enumerate":=⟨_,he,rfl⟩;unfold pyNext
 refine ae (jF (bG (name:=dF "__next__") hT i5 (bH i5 hT F.entry_enumerate_next ?_ (CJ _))))
 show aB _ _ (field (.ref e) 2 >>= _) _ _ _;refine ae (cW he rfl (x := .ref it) rfl ?_);refine ae (xq hh hit hl hx fun h' x he' hx' => ?_);obtain⟨o,ho,hc⟩:=hx'
 refine ae (jD (T:="StopIteration") (b:=true) ⟨o,ho,hc⟩ isSubtype_stop ?_);exact ao (hQ _ he')
end
end GE
end PySem
namespace L2
open PySem PySem.Spec PyProof.Rows
theorem Inv.turnNew {X:Cx}{pins:List (Addr×Obj)}{σ:St}{H:Hp}{s:Shared}{h':Heap}{t':Nat}{fp:List Addr}{T:Addr}{o:HO} (I:Inv X pins σ H s) (hf : ∀ b∈fp,q9 X pins H b) (k : ∀ b u,b∉fp->s.heap.get? b=some u->h'.get? b=some u)
  (hT:s.heap.objs.size<=T) (new:dJ X.prog X.w (upd H T o) h' T o):Inv X pins σ (upd H T o) { s with heap:=h',toks:=t' }:=by
 have hn:H T=none:=I.hok.fresh hT
 have neT : ∀ b u,s.heap.get? b=some u->b≠T:=fun b u e z=>absurd (ai (aC e) (by rw [z];exact hT)) (cj _)
 have nfp : ∀ b u,H b=some u->b∉fp:=fun b u e z=>by rw [(hf b z).1] at e;cases e
 refine I.step (g':=s.gens) (d':=s.drawn) (ch:=fp) (fun b hb=>⟨(hf b hb).2.2.2.1,(hf b hb).2.1,(hf b hb).2.2.2.2.1,(hf b hb).2.2.2.2.2⟩) (fun b o _ _ hc e _=>k b o hc e) (fun b o _ _ hc e _=>⟨o.slots,k b o hc e⟩)
  (fun b o _ e n=>by rw [bP (neT b o e)];exact n) (fun b o hc e=>⟨o,k b o hc e⟩) (fun b xs e=>by rw [bP (bD e hn)];exact e) (fun b o u e=>by rw [bP (bD e hn)];exact e) (fun b ps e=>⟨#[],by rw [bP (bD e hn),e];simp⟩) (fun m hm => ?_) (fun b u e => ?_) I.bare
 ·obtain⟨o,es,ep,ho,r⟩:=hm
  exact⟨o,es,ep,k _ o (fun z=>(hf _ z).2.1 rfl) ho,r⟩
 ·by_cases hb:b=T
  ·subst hb;rw [cJ] at e;cases e;exact new
  ·rw [bP hb] at e
   refine (I.hok b u e).stay (fun c v hc q=>k c v ?_ q) (fun c q=>by rw [bP (bD q hn)];exact q) fun c xs q=>by rw [bP (bD q hn)];exact q
   rcases hc with z | z
   ·rw [z];exact nfp b u e
   ·exact nfp c _ z
noncomputable def Ite (K:ar) (a:Addr):It:=
 ⟨fun i H => ∃ xs x,SqT K H a xs/\xs[i]? = some x,fun i H x H' => ∃ T u,(∀ xs,SqT K H a xs->xs[i]? = some u)/\H T=none/\x = .ref T/\H'=upd H T (.tup [.int i,u]),fun i H => ∃ xs,SqT K H a xs/\xs.length<=i⟩
theorem zV {P:Program}{w:World}{K:ar}{ts:List Expr}{kt:Nat}{pt:Pos} (a e it:Addr) (hne:e≠it):Turn P w K (.Tuple ts kt pt) (Ite K a) [e,it] e (fun i h=>(∃ old,IsEnum h e it (i:Nat) old)/\h.IsTupleIter it a i) where
 mem:=by simp
 obj:=fun i h st b hb=>by
  obtain⟨⟨old,he⟩,o,ho,c,d⟩:=st
  rcases aK.mp hb with z | z
  ·subst z;exact⟨_,he,fun v y=>by have y':CD _=Data.cell v:=y;cases y'⟩
  ·have z:b=it:=by simpa using z
   subst z;exact⟨o,ho,fun v y=>by rw [d] at y;cases y⟩
 keep:=fun i h h' st k=>by
  obtain⟨⟨old,he⟩,o,ho,r⟩:=st
  exact⟨⟨old,k e (by simp) _ he⟩,o,k it (by simp) _ ho,r⟩
 item:=by
  intro X hP hw hK hc i pins s σ H E I hf st hg
  subst hP hw hK
  obtain⟨xs,x,hq,hx⟩:=hg
  obtain⟨its,rv,p,hz⟩:=I.tuple hq
  obtain⟨u,hu,ru⟩:=rv.get hx
  obtain⟨⟨old,he⟩,hit⟩:=st
  have hel:=aC he
  have hil:it < s.heap.objs.size:=by obtain⟨o,ho,_⟩:=hit;exact aC ho
  refine GE.next_item he hit (show s.heap.IsTuple a its.toArray from p) (x:=u) (by simpa using hu) hne fun h' ho hit' hT hsz hk => ?_
  refine⟨_,rfl,Cz (s:={ s with heap:=h',toks:=s.toks+1 }) ho fun h2 he2 hs2 => ?_⟩
  have hT2:h2.get? s.heap.objs.size=some { cls := .type "tuple",data := .seq #[.int i s.toks,u] }:=(hs2.2 _ (bL hel)).trans hT
  have k : ∀ b o,b ∉ [e,it]->s.heap.get? b=some o->h2.get? b=some o:=fun b o hb eo=>by
   have hb1:b≠e:=fun z=>hb (by simp [z])
   have hb2:b≠it:=fun z=>hb (by simp [z])
   exact (hs2.2 b hb1).trans (hk b o hb1 hb2 eo)
  have new:dJ X.prog X.w (upd H s.heap.objs.size (.tup [.int i,x])) h2 s.heap.objs.size (.tup [.int i,x]):=⟨by rw [sizeLine_eq];show 2<=16777216;decide,[.int i s.toks,u],.cons ⟨s.toks,rfl⟩ (.cons ru .nil),⟨_,hT2,rfl,_,rfl⟩,_,hT2,rfl⟩
  have it2:h2.IsTupleIter it a (i+1):=hit'.extBut hs2.extBut (cY hne)
  exact⟨.ref s.heap.objs.size,_,I.turnNew (t':=s.toks+1) hf k (aq _) new,rfl,⟨_,x,fun ys hy=>by rw [I.tuple_inj hy hq];exact hx,I.hok.fresh (aq _),rfl,rfl⟩,⟨⟨u,by simpa using he2⟩,it2⟩,fun b hb=>by
   have hb0:=(hf b hb).1
   rw [bP (fun z => ?_)]
   ·exact hb0
   ·rcases aK.mp hb with y | y
    ·exact absurd (y.symm.trans z) (aG hel)
    ·have y:b=it:=by simpa using y
     exact absurd (y.symm.trans z) (aG hil)⟩
 done:=by
  intro X hP hw hK hc i pins s σ H E I hf st hg
  subst hP hw hK
  obtain⟨xs,hq,hx⟩:=hg
  obtain⟨its,rv,p,hz⟩:=I.tuple hq
  obtain⟨⟨old,he⟩,hit⟩:=st
  obtain⟨f0,f1,f2,f3,f4,f5⟩:=hf it (by simp)
  have hl:=rv.length
  exact GE.next_end (I.ok.hd hc) he hit (show s.heap.IsTuple a its.toArray from p) (by simp;omega) fun h' eb=>⟨rfl,I.turned (t':=s.toks) (fun b o hb e=>eb b o hb e) f0 f1 f3 f4 f5⟩
 self:=fun _ _ _ _ _ st h=>by
  obtain⟨⟨old,he⟩,_⟩:=st
  exact mO he h
noncomputable def Ac (K:ar) (a:Addr):It:=
 ⟨fun i H => ∃ xs x,SqL K H a xs/\xs[i]? = some x,fun i H x H' => ∃ T u,(∀ xs,SqL K H a xs->xs[i]? = some u)/\H T=none/\x = .ref T/\H'=upd H T (.tup [.int i,u]),fun i H => ∃ xs,SqL K H a xs/\xs.length<=i⟩
theorem xD {P:Program}{w:World}{K:ar}{ts:List Expr}{kt:Nat}{pt:Pos} (a e it:Addr) (hne:e≠it):Turn P w K (.Tuple ts kt pt) (Ac K a) [e,it] e (fun i h=>(∃ old,IsEnum h e it (i:Nat) old)/\h.IsListIter it a i) where
 mem:=by simp
 obj:=fun i h st b hb=>by
  obtain⟨⟨old,he⟩,o,ho,c,d⟩:=st
  rcases aK.mp hb with z | z
  ·subst z;exact⟨_,he,fun v y=>by have y':CD _=Data.cell v:=y;cases y'⟩
  ·have z:b=it:=by simpa using z
   subst z;exact⟨o,ho,fun v y=>by rw [d] at y;cases y⟩
 keep:=fun i h h' st k=>by
  obtain⟨⟨old,he⟩,o,ho,r⟩:=st
  exact⟨⟨old,k e (by simp) _ he⟩,o,k it (by simp) _ ho,r⟩
 item:=by
  intro X hP hw hK hc i pins s σ H E I hf st hg
  subst hP hw hK
  obtain⟨xs,x,hq,hx⟩:=hg
  obtain⟨its,rv,p,hz⟩:=I.list hq
  obtain⟨u,hu,ru⟩:=rv.get hx
  obtain⟨⟨old,he⟩,hit⟩:=st
  have hel:=aC he
  have hil:it < s.heap.objs.size:=by obtain⟨o,ho,_⟩:=hit;exact aC ho
  refine wpAny_pyNext_enum_item he hit p.isList (x:=u) (by simpa using hu) hne fun h' ho hit' hT hsz hk => ?_
  refine⟨_,rfl,Cz (s:={ s with heap:=h',toks:=s.toks+1 }) ho fun h2 he2 hs2 => ?_⟩
  have hT2:h2.get? s.heap.objs.size=some { cls := .type "tuple",data := .seq #[.int i s.toks,u] }:=(hs2.2 _ (bL hel)).trans hT
  have k : ∀ b o,b ∉ [e,it]->s.heap.get? b=some o->h2.get? b=some o:=fun b o hb eo=>by
   have hb1:b≠e:=fun z=>hb (by simp [z])
   have hb2:b≠it:=fun z=>hb (by simp [z])
   exact (hs2.2 b hb1).trans (hk b o hb1 hb2 eo)
  have new:dJ X.prog X.w (upd H s.heap.objs.size (.tup [.int i,x])) h2 s.heap.objs.size (.tup [.int i,x]):=⟨by rw [sizeLine_eq];show 2<=16777216;decide,[.int i s.toks,u],.cons ⟨s.toks,rfl⟩ (.cons ru .nil),⟨_,hT2,rfl,_,rfl⟩,_,hT2,rfl⟩
  have it2:h2.IsListIter it a (i+1):=hit'.extBut hs2.extBut (cY hne)
  exact⟨.ref s.heap.objs.size,_,I.turnNew (t':=s.toks+1) hf k (aq _) new,rfl,⟨_,x,fun ys hy=>by rw [I.list_inj hy hq];exact hx,I.hok.fresh (aq _),rfl,rfl⟩,⟨⟨u,by simpa using he2⟩,it2⟩,fun b hb=>by
   have hb0:=(hf b hb).1
   rw [bP (fun z => ?_)]
   ·exact hb0
   ·rcases aK.mp hb with y | y
    ·exact absurd (y.symm.trans z) (aG hel)
    ·have y:b=it:=by simpa using y
     exact absurd (y.symm.trans z) (aG hil)⟩
 done:=by
  intro X hP hw hK hc i pins s σ H E I hf st hg
  subst hP hw hK
  obtain⟨xs,hq,hx⟩:=hg
  obtain⟨its,rv,p,hz⟩:=I.list hq
  obtain⟨⟨old,he⟩,hit⟩:=st
  obtain⟨f0,f1,f2,f3,f4,f5⟩:=hf it (by simp)
  have hl:=rv.length
  exact wpAny_pyNext_enum_end (I.ok.hd hc) he hit p.isList (by simp;omega) fun h' eb=>⟨rfl,I.turned (t':=s.toks) (fun b o hb e=>eb b o hb e) f0 f1 f3 f4 f5⟩
 self:=fun _ _ _ _ _ st h=>by
  obtain⟨⟨old,he⟩,_⟩:=st
  exact mO he h
section
variable {X:Cx}
noncomputable def uh (K:ar) (ta:TA):TI:=fun σ H R=>ta σ H fun vs H1=>(∃ a xs,vs = [.ref a]/\SqT K H1 a xs/\R (Ite K a) H1) \/ ∃ a xs,vs = [.ref a]/\SqL K H1 a xs/\R (Ac K a) H1
theorem Eg {a:Expr}{ta:TA}{p pos:Pos}{ts:List Expr}{kt:Nat}{pt:Pos} (hg:Gl X "enumerate") (hm:X.mg "enumerate"=none) (ha:PA X [a] ta) (hs:starEach [a] X.env = [(false,eval a X.env)]:=by rfl):PI X (.Tuple ts kt pt) (.Call (.Name "enumerate" p) [a] [] pos) (uh X.K ta):=by
 intro pins s σ H R I h
 refine Call_ (jA I hg hm boot_enumerate (cc (thn (ha pos pins s σ H _ I h) fun us s1 ⟨vs,H1,I1,r1,q1⟩ => ?_) hs rfl))
 rcases q1 with q1 | q1
 ·obtain⟨b,xs,e,hq,q⟩:=q1
  subst e
  cases r1 with
  | cons r rr=>
    cases rr
    cases r
    obtain⟨its,rv,pt,hz⟩:=I1.tuple hq
    refine GE.xa (show s1.heap.IsTuple b its.toArray from pt) fun h' he hit hsz hk => ?_
    have I2:Inv X pins σ H1 { s1 with heap:=h',toks:=s1.toks }:=I1.kept hk
    refine mO (s:={ s1 with heap:=h' }) he ?_
    refine⟨s1.heap.objs.size+1,[s1.heap.objs.size+1,s1.heap.objs.size],_,_,H1,rfl,I2,zV b _ _ (ux _),⟨⟨_,he⟩,hit⟩,fun c hc => ?_,q⟩
    rcases aK.mp hc with z | z
    ·subst z;exact I1.fpOk (dc _) (I1.hok.fresh (dc _))
    ·have z:c=s1.heap.objs.size:=by simpa using z
     subst z;exact I1.fpOk (aq _) (I1.hok.fresh (aq _))
 ·obtain⟨b,xs,e,hq,q⟩:=q1
  subst e
  cases r1 with
  | cons r rr=>
    cases rr
    cases r
    obtain⟨its,rv,pt,hz⟩:=I1.list hq
    refine call_enumerate_list pt.isList fun h' he hit hsz hk => ?_
    have I2:Inv X pins σ H1 { s1 with heap:=h',toks:=s1.toks }:=I1.kept hk
    refine mO (s:={ s1 with heap:=h' }) he ?_
    refine⟨s1.heap.objs.size+1,[s1.heap.objs.size+1,s1.heap.objs.size],_,_,H1,rfl,I2,xD b _ _ (ux _),⟨⟨_,he⟩,hit⟩,fun c hc => ?_,q⟩
    rcases aK.mp hc with z | z
    ·subst z;exact I1.fpOk (dc _) (I1.hok.fresh (dc _))
    ·have z:c=s1.heap.objs.size:=by simpa using z
     subst z;exact I1.fpOk (aq _) (I1.hok.fresh (aq _))
end
end L2
end
section
namespace PySem
namespace GE
section
variable {prog:Program}{w:World}{A:Around}{E:Value->Shared->Prop}{s:Shared}
end
section
variable {prog:Program}{w:World}{A:Around}{E:Value->Shared->Prop}{s:Shared}
end
end GE
end PySem
namespace L2
open PySem PySem.Spec PyProof.Rows
section
variable {X:Cx}
end
end L2
end
section
namespace L2
open PySem PyProof.Rows
noncomputable def BN (off:List Addr) (h h':Heap):Prop := ∀ b o,b∉off->h.get? b=some o->h'.get? b=some o
section
variable {prog:Program}{w:World}{A:Around}{E:Value->Shared->Prop}{s:Shared}{I S:Addr}{fp wr:List Addr}{n:Nat}{P:Nat->Value->Prop}{St:Nat->Heap->Prop}{h0:Heap}{v0:Value}{R:Result->Shared->Prop}
end
end L2
end
section
namespace L2
open PySem PyProof.Rows
noncomputable def nY (xs:Array Nat):Prop:=xs.toList.Pairwise (· < ·)
theorem nY.lt {xs:Array Nat} (r:nY xs) {i j:Nat} (h:i < j) (hj:j < xs.size):xs[i]'(dq h hj) < xs[j]:=by
 have:=(List.pairwise_iff_getElem.mp r) i j (by simpa using dq h hj) (by simpa using hj) h
 simpa using this
theorem qu {xs:Array Nat} (r:nY xs) {j:Nat} : ∀ (f lo hi:Nat),lo<=hi->hi<=xs.size->hi - lo<=f->(∀ i (h:i < xs.size),i < lo->xs[i] < j)->(∀ i (h:i < xs.size),hi<=i->j<=xs[i]) ->
  fT xs j f lo hi<=xs.size/\(∀ i (h:i < xs.size),i < fT xs j f lo hi->xs[i] < j) /\ ∀ i (h:i < xs.size),fT xs j f lo hi<=i->j<=xs[i]
 | 0,lo,hi,h1,h2,h3,a,b=>by
   unfold fT
   have:lo=hi:=by omega
   subst this
   exact⟨h2,a,b⟩
 | f+1,lo,hi,h1,h2,h3,a,b=>by
   unfold fT
   by_cases h:lo < hi
   ·rw [if_pos h]
    dsimp only
    have hm:(lo+hi) / 2 < xs.size:=by omega
    have em:xs.getD ((lo+hi) / 2) j=xs[(lo+hi) / 2]:=by simp [Array.getD,hm]
    rw [em]
    by_cases q:xs[(lo+hi) / 2] < j
    ·rw [if_pos q]
     refine qu r f _ _ (by omega) h2 (by omega) (fun i hi' hl => ?_) b
     by_cases z:i=(lo+hi) / 2
     ·subst z;exact q
     ·exact dq (r.lt (show i < (lo+hi) / 2 by omega) hm) q
    ·rw [if_neg q]
     refine qu r f _ _ (by omega) (by omega) (by omega) a (fun i hi' hl => ?_)
     by_cases z:i=(lo+hi) / 2
     ·subst z;omega
     ·have:=r.lt (show (lo+hi) / 2 < i by omega) hi'
      omega
   ·rw [if_neg h]
    have:lo=hi:=by omega
    subst this
    exact⟨h2,a,b⟩
theorem mS {xs:Array Nat} (r:nY xs) (j:Nat):aR xs j<=xs.size/\(∀ i (h:i < xs.size),i < aR xs j->xs[i] < j) /\ ∀ i (h:i < xs.size),aR xs j<=i->j<=xs[i]:=
 qu r _ _ _ (da _) (aq _) (aq _) (fun i _ h=>absurd h (Nat.not_lt_zero i)) fun i h1 h2=>absurd h1 (Nat.not_lt.mpr h2)
theorem xH {xs:Array Nat} (r:nY xs) {i:Nat} (hi:i < xs.size):aR xs (xs[i]+1)=i+1:=by
 obtain⟨h1,h2,h3⟩:=mS r (xs[i]+1)
 rcases Nat.lt_trichotomy (aR xs (xs[i]+1)) (i+1) with z | z | z
 ·have:=h3 i hi (by omega);omega
 ·exact z
 ·have hs:i+1 < xs.size:=by omega
  have:=h2 (i+1) hs z
  have:=r.lt (show i < i+1 by omega) hs
  omega
theorem xB {xs:Array Nat} (r:nY xs):aR xs 0=0:=by
 obtain⟨h1,h2,h3⟩:=mS r 0
 by_cases z:aR xs 0=0
 ·exact z
 ·have:=h2 0 (by omega) (by omega);omega
theorem A5 {xs:Array Nat} (r:nY xs) {j:Nat} (h:xs[aR xs j]? ≠ some j):nY (SetTable.insertAt xs (aR xs j) j):=by
 obtain⟨h1,h2,h3⟩:=mS r j
 unfold nY
 rw [SetTable.toList_insertAt]
 have rl:xs.toList.Pairwise (· < ·):=r
 have lt : ∀ x∈xs.toList.take (aR xs j),x < j:=fun x hx=>by
  obtain⟨i,hi,rfl⟩:=oV hx
  rw [cg,bQ] at hi
  have:=h2 i (by omega) (by omega)
  simpa using this
 have gt : ∀ x∈xs.toList.drop (aR xs j),j < x:=fun x hx=>by
  obtain⟨i,hi,rfl⟩:=oV hx
  rw [eO,bQ] at hi
  have hb:aR xs j+i < xs.size:=by omega
  have:=h3 (aR xs j+i) hb (by omega)
  have e:(xs.toList.drop (aR xs j))[i]'(by rw [eO,bQ];exact hi)=xs[aR xs j+i]:=by simp
  rw [e]
  rcases Nat.lt_or_eq_of_le this with z | z
  ·exact z
  ·exfalso
   by_cases i0:i=0
   ·subst i0
    exact h (by rw [d4 (by omega)];simpa using z.symm)
   ·have a:=h3 (aR xs j) (by omega) (aq _)
    have b:=r.lt (show aR xs j < aR xs j+i by omega) hb
    omega
 refine List.pairwise_append.mpr ⟨rl.sublist (List.take_sublist _ _),List.pairwise_cons.mpr ⟨gt,rl.sublist (List.drop_sublist _ _)⟩,fun a ha b hb => ?_⟩
 rcases aK.mp hb with rfl | hb
 ·exact lt a ha
 ·exact dq (lt a ha) (gt b hb)
structure ja (t:SetTable) (led:Bool):Prop where
 r:nY t.place
 d:t.dummies = #[]
 l:t.led=led
theorem ja.fresh (led:Bool):ja (.fresh 0 0 led) led:=⟨.nil,rfl,rfl⟩
theorem ja.stand {t:SetTable}{led:Bool} (n:Nat) (h:ja t led):ja (t.standIn n) led:=⟨by
 show (Array.range n).toList.Pairwise (· < ·)
 rw [Array.toList_range];exact Am,rfl,h.l⟩
theorem CW {t:SetTable}{led:Bool} (h:ja t led) (j:Nat):t.slot j ≠ .dummy:=by
 have:wQ t.dummies j=false:=by rw [h.d];rfl
 unfold SetTable.slot
 dsimp only
 split
 ·exact fun z=>by cases z
 ·rw [this];exact fun z=>by cases z
theorem xN {t:SetTable}{j:Nat} (h:t.slot j = .empty):t.place[aR t.place j]? ≠ some j:=fun z=>by
 unfold SetTable.slot at h
 dsimp only at h
 rw [if_pos (by rw [z];exact beq_self_eq_true _)] at h
 cases h
theorem va {t:SetTable}{led:Bool} (ht:ja t led) {hash:Nat->Int}{h:Int} : ∀ (f:Nat) (p:SetTable.Probe) {j:Nat}{d:Option Nat},p.dummy=none->wH t hash h f p=some (.empty j d)->t.slot j = .empty/\d=none
 | 0,p,j,d,_,e=>by cases e
 | f+1,p,j,d,hd,e=>by
   unfold wH at e
   have adv:(t.advance p).dummy=none:=by unfold SetTable.advance;split <;> exact hd
   split at e
   ·rename_i q;cases e;exact⟨q,hd⟩
   ·rename_i q;exact absurd q (CW ht _)
   ·split at e
    ·cases e
    ·exact va ht f _ adv e
theorem zR {t:SetTable}{led:Bool} (ht:ja t led) {h:Int}{j:Nat}{b:Bool} (e:t.freeSlot h=some (j,b)):t.place[aR t.place j]? ≠ some j:=by
 unfold SetTable.freeSlot at e
 split at e
 ·rename_i j' d q
  obtain⟨q1,q2⟩:=va ht _ _ rfl q
  subst q2
  cases e
  exact xN q1
 ·cases e
theorem ja.put {t:SetTable}{led:Bool} (ht:ja t led) {j:Nat} (h:t.place[aR t.place j]? ≠ some j):ja (t.put j).1 led:=by
 refine⟨A5 ht.r h,?_,ht.l⟩
 show (if wQ t.dummies j then _ else t.dummies) = #[]
 rw [if_neg (by rw [ht.d];simp [wQ])];exact ht.d
theorem ja.orStand {t:SetTable}{led:Bool} (n:Nat) (h:ja t led):ja (t.orStandIn n) led:=by
 unfold SetTable.orStandIn
 split
 ·exact h
 ·exact h.stand n
theorem ja.lay {t:SetTable}{led:Bool} (ht:ja t led) (es:Array (Int×Value)) (h:Int) (x:Value):ja (layNew t es h x).2.1 led:=by
 unfold layNew
 split
 ·rename_i j b e;exact (ht.put (zR ht e)).orStand _
 ·exact ht.stand _
theorem ja.relay {t:SetTable}{led:Bool} (ht:ja t led) (es:Array (Int×Value)) (n:Nat):ja (relayAll t es n).2.1 led:=by
 unfold relayAll
 split
 ·rename_i t' order e
  dsimp only
  split
  ·unfold SetTable.relaid SetTable.laid at e
   simp only [bind,Option.bind] at e
   split at e
   ·cases e
   ·cases e
    refine⟨?_,rfl,ht.l⟩
    show List.Pairwise _ _
    rw [List.toList_toArray]
    refine ky.mpr (List.pairwise_filterMap.mpr (List.pairwise_lt_range.imp fun {a b} hab x hx y hy => ?_))
    obtain⟨_,_,rfl⟩:=gU.mp hx
    obtain⟨_,_,rfl⟩:=gU.mp hy
    exact hab
  ·exact ht.stand _
 ·exact ht.stand _
theorem fM {α:Type} : ∀ (l:List α) (i:Nat) (h:i < l.length),(l[i]::l.eraseIdx i).Perm l
 | x::l,0,h => .refl _
 | x::l,i+1,h=>(List.Perm.swap x _ _).trans (.cons x (fM l i (by simpa using h)))
theorem yw {α:Type}{next:Nat->Nat} : ∀ (f k:Nat) (left:List α) (out:Array α),f=left.length->(pickOrder.go next f k left out).toList.Perm (out.toList++left)
 | 0,k,left,out,h=>by
   rw [lR.mp h.symm]
   show out.toList.Perm (out.toList ++ [])
   rw [fe]
 | f+1,k,left,out,h=>by
   unfold pickOrder.go
   have hl:next k % left.length < left.length:=kg _ (by omega)
   rw [aX hl]
   dsimp only
   refine (yw f (k+1) _ _ (by rw [wR hl];omega)).trans ?_
   rw [Array.toList_push,ba]
   refine wU _ ?_
   exact fM left _ hl
theorem zy {α:Type} (next:Nat->Nat) (xs:Array α):(pickOrder next xs).toList.Perm xs.toList:=by
 have:=yw (next:=next) xs.size 0 xs.toList #[] (by simp)
 simpa [pickOrder] using this
theorem wp_choose {M:Model}{A:Around}{E:Value->Shared->Prop}{s:Shared}{src:Source}{n:Nat}{Q:Nat->Shared->Prop} (hn:n≠0) (h : ∀ i d,i < n->Q i { s with drawn:=d }):aB M A (choose src n) Q E s:=fun Γ p _=>by
 unfold choose;rw [Sem.wp_choose];exact⟨hn,h _ _ (kg _ (Nat.pos_of_ne_zero hn))⟩
theorem vK {M:Model}{A:Around}{E:Value->Shared->Prop}{α:Type} : ∀ (n:Nat) (xs:List α) (s:Shared) {Q:List α->Shared->Prop},n=xs.length->(∀ l d,l.Perm xs->Q l { s with drawn:=d })->aB M A (drawOrder n xs) Q E s
 | 0,xs,s,Q,hn,h=>by
   rw [lR.mp hn.symm] at h ⊢
   exact ao (h [] s.drawn (.refl _))
 | n+1,[],s,Q,hn,h=>by cases hn
 | n+1,x::xs,s,Q,hn,h=>by
   unfold drawOrder
   refine ae (wp_choose (by simp) fun i d hi => ?_)
   rw [aX hi];dsimp only
   refine ae (vK n _ _ (by rw [wR hi];omega) fun l d' hl=>ao ?_)
   exact h _ d' ((List.Perm.cons _ hl).trans (fM _ i hi))
noncomputable def HK:Value->Int
 | .int i _=>i
 | _=>0
theorem v9 : ∀ {vs:List Value},(∀ v∈vs,∃ i t,v = .int i t)->IntsAre vs (vs.map HK)
 | [],_ => .nil
 | v::vs,h=>by
   obtain⟨i,t,rfl⟩:=h v (by simp)
   exact .cons i t (v9 fun w hw=>h w (aO _ hw))
noncomputable def kr (es:Array (Int×Value)) (ep:Nat) (t:SetTable):Obj:={ cls := .type "set",dict:=none,data := .set es ep t,slots := #[] }
structure tW (prog:Program) (w:World) (led:Bool) (ns:List Int) (es:Array (Int×Value)) (t:SetTable):Prop where
 fit:t.fits es.size=true
 tab:ja t led
 el:ElemsOf (intKind prog w) es.toList
 sm:es.size < scanBound
 pm:(es.toList.map fun e=>HK e.2).Perm ns
noncomputable def pW (prog:Program) (w:World) (h:Heap) (a:Addr) (led:Bool) (ns:List Int):Prop := ∃ es ep t,h.get? a=some (kr es ep t)/\tW prog w led ns es t
section
variable {prog:Program}{w:World}{A:Around}{E:Value->Shared->Prop}{s:Shared}{led:Bool}{ns:List Int}
theorem tW.len {es:Array (Int×Value)}{t:SetTable} (h:tW prog w led ns es t):es.size=ns.length:=by have:=h.pm.length_eq;simpa using this
theorem tW.int {es:Array (Int×Value)}{t:SetTable} (h:tW prog w led ns es t) {e:Int×Value} (he:e∈es.toList) : ∃ i u,e.2 = .int i u:=by
 obtain⟨⟨k,hk,_⟩,_⟩:=h.el e he
 obtain⟨u,hu⟩:=qL (k:=k) (v:=e.2) hk
 exact⟨k,u,hu⟩
theorem si {a:Addr}{es es':Array (Int×Value)}{ep:Nat}{t t':SetTable}{Q:Unit->Shared->Prop} (ho:s.heap.get? a=some (kr es ep t)) (hz:es'.size < scanBound)
  (h : ∀ h',cw a s.heap h'->h'.get? a=some (kr es' (ep+1) t')->Q () { s with heap:=h' }):aB (model prog w) A (storeSet a es' t') Q E s:=by
 refine wpAny_storeSet_of ho rfl (h _ (lQ ..) ?_) (fits_of_scanBound hz)
 have g:=cQ (Obj.putSet es' t') ho (by rw [putSet_of es' t' rfl];rfl)
 rw [putSet_of es' t' rfl] at g;exact g
theorem vj {g:Bool->Sem Unit} (hg : ∀ (b:Bool) (s₁:Shared) (Q':Unit->Shared->Prop),Q' () s₁->aB (model prog w) A (g b) Q' E s₁) {a:Addr}{es es1:Array (Int×Value)}{ep:Nat}{t t2:SetTable} (ho:s.heap.get? a=some (kr es ep t)) (he:tW prog w led ns es1 t2)
  {wd:Bool}{R:Option Bool->Shared->Prop} (h : ∀ h',cw a s.heap h'->pW prog w h' a led ns->R (some true) { s with heap:=h' }) :
  aB (model prog w) A (storeSet a es1 t2 >>= fun _=>if (!wd&&t2.tooFull)=true then (g (relayAll t2 es1 (fk es1.size)).2.2 >>= fun _=>storeSet a (relayAll t2 es1 (fk es1.size)).1 (relayAll t2 es1 (fk es1.size)).2.1 >>= fun _=>pure (some true)) else pure (some true)) R E s:=by
 refine ae (si ho he.sm fun h1 s1 g1 => ?_)
 split
 ·have hp:=relayAll_perm t2 es1 (fk es1.size);have hf:=relayAll_fits t2 es1 (fk es1.size);have ht:=he.tab.relay es1 (fk es1.size)
  have hsz:(relayAll t2 es1 (fk es1.size)).1.size=es1.size:=by have:=hp.length_eq;simpa using this
  refine ae (hg _ _ _ (ae (si g1 (by rw [hsz];exact he.sm) fun h2 s2 g2=>ao ?_)))
  exact h h2 (s1.trans s2) ⟨_,_,_,g2,hf,ht,he.el.perm hp,by rw [hsz];exact he.sm,(hp.map _).trans he.pm⟩
 ·exact ao (h h1 s1 ⟨_,_,_,g1,he⟩)
theorem Ep {a:Addr}{i:Int}{u:Tok}{Q:Bool->Shared->Prop} (hS:pW prog w s.heap a led ns) (hr:ns.length+1 < scanBound)
  (h : ∀ h',cw a s.heap h'->pW prog w h' a led (if i∈ns then ns else ns ++ [i]) -> ∀ b,Q b { s with heap:=h' }):aB (model prog w) A (setAddHashed a (.int i u) ((intKind prog w).hash i)) Q E s:=by
 obtain⟨es,ep,t,ho,he⟩:=hS
 have hkey:(intKind prog w).is i (.int i u)=true:=intKind_is _ _ _ _
 have hsc:(lu i u).scannable=true:=rfl
 have mem:i∈ns ↔ ∃ e∈es.toList,(intKind prog w).is i e.2=true:=by
  rw [<- he.pm.mem_iff,bI]
  constructor
  ·rintro ⟨e,m,q⟩
   obtain⟨j,u',hu⟩:=he.int m
   rw [hu] at q
   have q:j=i:=q
   subst q
   exact⟨e,m,by rw [hu];exact intKind_is _ _ _ _⟩
  ·rintro ⟨e,m,q⟩
   obtain⟨u',hu⟩:=qL (k:=i) (v:=e.2) q
   exact⟨e,m,by rw [hu];rfl⟩
 unfold setAddHashed setAddHashedIn;refine cM (ae (iX ho rfl he.fit ?_));dsimp only;rw [byScan_of hsc he.sm he.el];simp only [↓reduceIte]
 unfold setAddByScan;refine ae (ae (lB (ae (wpAny_setScan_of hkey ho rfl he.fit he.el ?_))))
 cases hq:List.findIdx? (fun e=>(intKind prog w).is i e.2) es.toList with
 | some j=>
   dsimp only
   obtain⟨hj,hpj,_⟩:=d5.mp hq
   have hin:i∈ns:=mem.mpr ⟨es.toList[j],dW hj,hpj⟩
   refine ao (ao ?_)
   rw [if_pos hin] at h
   exact h s.heap (Heap.SameBut.refl a s.heap) ⟨es,ep,t,ho,he⟩ _
 | none=>
   dsimp only
   have hin:i∉ns:=fun z=>by
    obtain⟨e,m,q⟩:=mem.mp z
    have:=List.findIdx?_eq_none_iff.mp hq e m
    rw [q] at this;cases this
   rw [if_neg hin] at h
   have hp:=layNew_perm t es ((intKind prog w).hash i) (.int i u);have hf:=layNew_fits t es ((intKind prog w).hash i) (.int i u);have ht:=he.tab.lay es ((intKind prog w).hash i) (.int i u)
   generalize layNew t es ((intKind prog w).hash i) (.int i u)=L at hp hf ht ⊢
   obtain⟨es1,t1,wd,gave⟩:=L
   dsimp only at hp hf ht ⊢
   rw [Array.toList_push] at hp
   have hsz:es1.size=es.size+1:=by have:=hp.length_eq;simpa using this
   have he1:tW prog w led (ns ++ [i]) es1 t1:=⟨hf,ht,(he.el.push hkey hsc).perm hp,by rw [hsz,he.len];exact hr,(hp.map _).trans (by rw [cH];exact he.pm.append_right _)⟩
   have hg : ∀ (b:Bool) (s₁:Shared) (Q':Unit->Shared->Prop),Q' () s₁->aB (model prog w) A (match b with | true=>rule "set.scan.the-table-gave-way" | false=>pure ()) Q' E s₁:=fun b s₁ Q' q=>by cases b <;> first | exact ao q | exact lB q
   refine ae (hg _ _ _ ?_)
   have fin : ∀ h',cw a s.heap h'->pW prog w h' a led (ns ++ [i])->Q true { s with heap:=h' }:=fun h' x y=>h h' x y _
   split
   ·refine ae ?_;rw [hashByValue_scannable 8 hsc];refine ao ?_
    refine vj (led:=led) (ns:=ns ++ [i]) hg ho ?_ fun h' x y => ?_
    ·exact he1
    ·dsimp only;exact ao (fin h' x y)
   ·refine ae (ao ?_);simp only [↓reduceIte]
    refine vj hg ho he1 fun h' x y => ?_
    dsimp only;exact ao (fin h' x y)
noncomputable def ddp (l:List Int):List Int:=l.foldl (fun acc x=>if x∈acc then acc else acc ++ [x]) []
theorem BM (l:List Int) (x:Int):ddp (l ++ [x])=if x∈ddp l then ddp l else ddp l ++ [x]:=by unfold ddp;rw [List.foldl_append];rfl
theorem vW : ∀ (l acc:List Int),(l.foldl (fun acc x=>if x∈acc then acc else acc ++ [x]) acc).length<=acc.length+l.length
 | [],acc=>by simp
 | x::l,acc=>by
   have:=vW l (if x∈acc then acc else acc ++ [x])
   have h:(if x∈acc then acc else acc ++ [x]).length<=acc.length+1:=by split <;> simp
   simp only [gE,bo]
   omega
theorem DN (l:List Int):(ddp l).length<=l.length:=by have:=vW l [];simpa [ddp] using this
theorem uH {R:Result->Shared->Prop}{I S:Addr}{fp wr:List Addr}{vs:List Int}{P:Nat->Value->Prop}{St:Nat->Heap->Prop} (W:Walks prog w A.in1 I fp wr vs.length P St) (hf:S∉fp)
  (hv : ∀ i v,P i v -> ∃ t,v = .int (vs.getD i 0) t) (hb:vs.length+1 < scanBound) : ∀ (k i:Nat) (s:Shared),i+k=vs.length->St i s.heap->pW prog w s.heap S led (ddp (vs.take i)) ->
   (∀ h' tk,BN (S::wr) s.heap h'->pW prog w h' S led (ddp vs)->R (.ok (.ret .none)) { s with heap:=h',toks:=tk })->oJ (model prog w) A (.builtin "set.update.loop" ⟨[.ref S,.ref I],[]⟩) R s:=by
 have hw:S∉wr:=fun h=>hf (W.sub _ h)
 intro k
 induction k with
 | zero=>
   intro i s e st hS hR;refine cu kz ?_;rw [bJ ff _];show aB _ A.in1 (pyNext (.ref I) >>= _) _ _ s
   have e:i=vs.length:=e
   subst e
   refine ae (W.done s _ _ st fun h' tk hk => ?_);show aB _ A.in1 (ret dk) _ _ _;refine ao (hR h' tk (fun b o hb e=>hk b o (fun q=>hb (aO _ q)) e) ?_)
   rw [List.take_length] at hS
   obtain⟨es,ep,t,ho,he⟩:=hS
   exact⟨es,ep,t,hk S _ hw ho,he⟩
 | succ k ih=>
   intro i s e st hS hR;refine cu kz ?_;rw [bJ ff _];show aB _ A.in1 (pyNext (.ref I) >>= _) _ _ s
   refine ae (W.item i s _ _ (by omega) st fun v h' tk hP st' hk => ?_)
   obtain⟨u,rfl⟩:=hv i v hP
   have hS':pW prog w h' S led (ddp (vs.take i)):=by
    obtain⟨es,ep,t,ho,he⟩:=hS
    exact⟨es,ep,t,hk S _ hw ho,he⟩
   have hl:=DN (vs.take i)
   rw [cg] at hl
   have hi:i < vs.length:=by omega
   have ev:vs.getD i 0=vs[i]:=by simp [List.getD,hi]
   have tk1:ddp (vs.take (i+1))=if vs.getD i 0∈ddp (vs.take i) then ddp (vs.take i) else ddp (vs.take i) ++ [vs.getD i 0]:=by rw [List.take_add_one,aX hi,ev];exact BM _ _
   show aB _ A.in1 (holding [lu (vs.getD i 0) u] (setAdd S (.int (vs.getD i 0) u)) >>= _) _ _ _;refine ae (cM ?_);unfold setAdd;refine cM (ae ((intKind prog w).pyHash (k:=vs.getD i 0) (intKind_is _ _ _ _) ?_))
   refine Ep (led:=led) hS' (by omega) fun h2 s2 hS2 b => ?_
   rw [<- tk1] at hS2
   refine ao ⟨plainId_quiet ff _,ih (i+1) _ (by omega) (W.frame _ _ _ st' fun b hb o e => ?_) hS2 fun h3 tk3 hd hS3=>hR h3 tk3 (fun b o hb e=>hd b o hb ?_) hS3⟩
   ·rw [s2.2 b (fun q:b=S=>hf (by rw [<- q];exact hb))];exact e
   ·rw [s2.2 b (fun q:b=S=>hb (by rw [q];exact cX))];exact hk b o (fun q=>hb (aO _ q)) e
theorem Dt (a:Value) {Q₁:Value->Shared->Prop} (h:Q₁ (.ref s.heap.objs.size) { s with heap:=s.heap.push (kr #[] 0 (.fresh 0 0 (!w.params.followText "set-order"))) }):oJ (model prog w) A (.call (.builtin "set.__new__") ⟨[.type "set",a],[]⟩) (wants Q₁ E) s:=by
 refine Aj ?_;show aB _ A.in1 (do checkBuiltinCall "set.__new__" ⟨[.type "set",a],[]⟩;again (.builtin "set.__new__" ⟨[.type "set",a],[]⟩)) _ _ s
 refine ae (fj (PySem.F.newCall_set_1 a) (ao ⟨plainId_quiet zc _,cu PySem.F.entry_set_new ?_⟩));rw [bJ zc _];unfold Builtin.«set.__new__» Builtin.Frozenset.newClass
 have hsub:=sub_set_self
 obtain⟨hp,g,d,tk,os⟩:=s;dsimp only;wp_walk;refine jE (ao ?_);dsimp only;simp only [newObj];refine ae (wpAny_alloc (ao ?_));exact ao h
set_option maxHeartbeats 8000000 in
theorem Cn {l:Addr}{T:String}{items:Array Value}{nl:Nat}{vs:List Int}{Q:Value->Shared->Prop} (hT:T="list"\/T="tuple") (hh:A.handled=none) {od:Option Addr}{osl:Array (Option Value)} (hol:s.heap.get? l=some { cls := .type T,dict:=od,data := .seq items nl,slots:=osl }) (hi:IntsAre items.toList vs) (hb:vs.length+1 < scanBound)
  (h : ∀ (h':Heap) (tk:Nat),pW prog w h' s.heap.objs.size (!w.params.followText "set-order") (ddp vs)->BN [] s.heap h'->Q (.ref s.heap.objs.size) { s with heap:=h',toks:=tk }):aB (model prog w) A (call (.type "set") [.ref l]) Q E s:=by
 obtain⟨c,tl,hmro⟩:=PySem.F.called_set.mro
 have hmade:=PySem.F.called_set.made;have hsub:=PySem.F.called_set.sub
 have hvl:items.size=vs.length:=by have:=hi.length;simpa using this
 refine wpAny_call (Aj ?_);show aB _ _ (callAny (.type "set") _) _ _ _;refine ao ⟨Code.quiet_builtin _ (by decide +kernel),cu PySem.F.entry_type_call ?_⟩;rw [Around.under_plain (weight_type_call_type "set" [.ref l] []) rfl]
 have h1:=PySem.F.called_set.notType;have h2:=PySem.F.called_set.canCreate;have hct:=PySem.F.typeCall_set_1 (.ref l)
 repeat (any_goals (first | assumption | wp_step))
 generalize hled:(!w.params.followText "set-order")=led at h
 refine iW (Dt (.ref l) (E:=E) (Q₁:=fun obj s₁=>obj = .ref s.heap.objs.size/\s₁={ s with heap:=s.heap.push (kr #[] 0 (.fresh 0 0 led)) }) (by rw [hled];exact⟨rfl,rfl⟩)) fun r s₁ hr => ?_
 cases r with
 | error e=>exact hr
 | ok fl=>
   cases fl with
   | ret obj=>
     obtain⟨rfl,rfl⟩:=hr
     generalize hg:s.heap.push (kr #[] 0 (.fresh 0 0 led))=g
     have gz:g.objs.size=s.heap.objs.size+1:=by rw [<- hg];exact bc ..
     have hS:g.get? s.heap.objs.size=some (kr #[] 0 (.fresh 0 0 led)):=by rw [<- hg];exact av _ rfl
     have hk : ∀ b o,s.heap.get? b=some o->g.get? b=some o:=fun b o e=>by rw [<- hg];exact ak _ e
     have hTS:ko { s with heap:=g } (.ref s.heap.objs.size) "set":=⟨_,hS,rfl⟩
     have hli:=PySem.F.called_set.init.lookup;have hbi:=PySem.F.called_set.init.bind (.ref s.heap.objs.size)
     repeat (any_goals (first | assumption | wp_step))
     refine iW (codeAny_call_builtin (R:=wants (fun r s₂=>r = .none /\ ∃ h' tk,s₂={ s with heap:=h',toks:=tk }/\pW prog w h' s.heap.objs.size led (ddp vs)/\BN [] s.heap h') E) PySem.F.called_set.init.plain PySem.F.entry_set_init (check_set_init_1 hTS ?_)) fun r₂ s₂ hr₂ => ?_
     ·have hol':=hk _ _ hol
      have hls:isSubtype (.type T) (.type "set")=pure false:=by rcases hT with rfl | rfl <;> first | exact PySem.F.sub_list_set | exact sub_tup_set
      have hlf:isSubtype (.type T) (.type "frozenset")=pure false:=by rcases hT with rfl | rfl <;> first | exact PySem.F.sub_list_frozenset | exact sub_tup_frz
      have hne:(jT T == jT "dict")=false:=by rcases hT with rfl | rfl <;> decide
      unfold Builtin.«set.__init__» noKeywords Builtin.Frozenset.updateFrom
      generalize hPI:pyIter=PI
      unfold kr at hS
      wp_walk
      subst hPI
      have lS : @CA Nat _ l s.heap.objs.size:=aC hol
      have lI:l≠g.objs.size:=fun q=>by have q' : @Eq Nat l g.objs.size:=q;omega
      have hf:s.heap.objs.size ∉ [g.objs.size,l]:=fun q=>by
       rcases aK.mp q with q | q
       ·have q' : @Eq Nat s.heap.objs.size g.objs.size:=q;omega
       ·have q' : @Eq Nat s.heap.objs.size l:=aW.mp q;omega
      have hv : ∀ (i:Nat) (v:Value),items[i]? = some v -> ∃ t,v = .int (vs.getD i 0) t:=fun i v hv=>PyProof.Rows.IntsAre.int_at hi i v (by rw [fi];exact hv)
      have hh3:A.in1.in1.in1.handled=none:=by simp [hh]
      have fr:tW prog w led (ddp []) #[] (.fresh 0 0 led):=⟨rfl,ja.fresh led,fun e he=>by simp at he,by decide,by exact .refl _⟩
      have fin : ∀ (io:Obj) (h':Heap),BN [s.heap.objs.size,g.objs.size] (g.push io) h'->BN [] s.heap h':=fun io h' hd b o _ e=>by
       have lb : @CA Nat _ b s.heap.objs.size:=aC e
       refine hd b o (fun q => ?_) (ak _ (hk b o e))
       rcases aK.mp q with q | q
       ·have q' : @Eq Nat b s.heap.objs.size:=q;omega
       ·have q' : @Eq Nat b g.objs.size:=aW.mp q;omega
      rcases hT with rfl | rfl
      ·have hl1:g.IsList l items:=⟨_,hol',rfl,nl,rfl⟩
       refine wF hl1 (ae (iY ?_))
       have W:=Walks.list (prog:=prog) (w:=w) (A:=A.in1.in1.in1) hh3 g.objs.size l lI items
       rw [hvl] at W
       exact uH (led:=led) W hf hv hb vs.length 0 _ (by omega) ⟨⟨_,av _ rfl,rfl,rfl⟩,hl1.push _⟩ ⟨_,_,_,ak _ hS,fr⟩ fun h' tk hd hS'=>ao (ao ⟨rfl,h',tk,rfl,hS',fin _ h' hd⟩)
      ·have hl1:g.IsTuple l items:=⟨_,hol',rfl,nl,rfl⟩
       refine lx hl1 (ae (iY ?_))
       have W:=Walks.tuple (prog:=prog) (w:=w) (A:=A.in1.in1.in1) hh3 g.objs.size l lI items
       rw [hvl] at W
       exact uH (led:=led) W hf hv hb vs.length 0 _ (by omega) ⟨⟨_,av _ rfl,rfl,rfl⟩,hl1.push _⟩ ⟨_,_,_,ak _ hS,fr⟩ fun h' tk hd hS'=>ao (ao ⟨rfl,h',tk,rfl,hS',fin _ h' hd⟩)
     ·cases r₂ with
      | error e=>exact hr₂
      | ok fl₂=>
        cases fl₂ with
        | ret r=>
          obtain⟨rfl,h',tk,rfl,hS',hd⟩:=hr₂
          repeat (any_goals (first | assumption | wp_step))
          exact h _ _ hS' hd
        | _=>exact hr₂.elim
   | _=>exact hr.elim
end
end L2
end
section
namespace PySem
namespace GS
theorem vB:Manifest.owners.lookup (String.ofList ['r','o','t','a','r','e','t','i','_','t','e','s'].reverse)=some Manifest.sig_set_iterator:=by kernel_rfl
theorem slot_si:Slot "set_iterator" "__next__" "set_iterator.__next__":=
 .of (owner:="set_iterator") (n:="__next__") (by rw [typeLookup_type,builtinLookup_eq_fast];kernel_rfl) (by decide +kernel) (by decide +kernel) (by decide +kernel) (by first | exact .inl (by decide +kernel) | exact .inr (by decide +kernel)) (by rw [isSubtype_type];kernel_rfl)
theorem entry_si:entryFor table "set_iterator.__next__"=some Builtin.«set_iterator.__next__»:=entryFor_of_tree (by kernel_rfl)
theorem args_si (a:Value):argsOk "set_iterator.__next__" ⟨[a],[]⟩:=by
 unfold argsOk;rw [signature?_of (id:="set_iterator.__next__") (n := ['_','_','t','x','e','n','_','_']) (o := ['r','o','t','a','r','e','t','i','_','t','e','s']) (by kernel_rfl) vB];kernel_rfl
theorem slot_sii:Slot "set_iterator" "__iter__" "set_iterator.__iter__":=
 .of (owner:="set_iterator") (n:="__iter__") (by rw [typeLookup_type,builtinLookup_eq_fast];kernel_rfl) (by decide +kernel) (by decide +kernel) (by decide +kernel) (by first | exact .inl (by decide +kernel) | exact .inr (by decide +kernel)) (by rw [isSubtype_type];kernel_rfl)
theorem args_sii (a:Value):argsOk "set_iterator.__iter__" ⟨[a],[]⟩:=by
 unfold argsOk;rw [signature?_of (id:="set_iterator.__iter__") (n := ['_','_','r','e','t','i','_','_']) (o := ['r','o','t','a','r','e','t','i','_','t','e','s']) (by kernel_rfl) vB];kernel_rfl
theorem entry_sii:entryFor table "set_iterator.__iter__"=some Builtin.«dict_keyiterator.__iter__»:=
 entryFor_alias (id':="dict_keyiterator.__iter__") (by kernel_rfl) (by first | rfl | decide +kernel | (unfold String.splitOn;simp +decide [String.splitOnAux])) (by decide +kernel) (by kernel_rfl)
theorem entry_seti:entryFor table "set.__iter__"=some Builtin.«frozenset.__iter__»:=
 entryFor_alias (id':="frozenset.__iter__") (by kernel_rfl) (by first | rfl | decide +kernel | (unfold String.splitOn;simp +decide [String.splitOnAux])) (by decide +kernel) (by kernel_rfl)
end GS
end PySem
namespace L2
open PySem PyProof.Rows
noncomputable def o4 (first:Value) (i:Nat) (a:Addr) (n ep:Nat):Obj:={ cls := .type "set_iterator",data := .fields #[first,rawInt i,.ref a,rawInt n,rawInt ep] }
section
variable {prog:Program}{w:World}{A:Around}{E:Value->Shared->Prop}{s:Shared}{I a:Addr}{es:Array (Int×Value)}{ep:Nat}{t:SetTable}
theorem vO {first:Value}{i n:Nat}{Q:Value->Shared->Prop} (h:s.heap.get? I=some (o4 first i a n ep)) (q:Q (.ref I) s):aB (model prog w) A (pyIter (.ref I)) Q E s:=by
 have hT:s.TypeIs (.ref I) "set_iterator":=⟨_,h,rfl⟩
 refine wpAny_pyIter_slot hT GS.slot_sii (bH GS.slot_sii hT GS.entry_sii ?_ (GS.args_sii _));show aB _ _ (ret (.ref I)) _ _ s;exact ao ⟨_,rfl,"set_iterator",_,hT,GS.slot_si.lookup,q⟩
noncomputable def qH (w:World) (a:Addr) (ep:Nat) (es:Array (Int×Value)):List (Int×Value):=if w.params.followText "set-order"=true then (pickOrder (w.params.setOrder a ep) es).toList else es.toList
theorem lJ:(qH w a ep es).Perm es.toList:=by
 unfold qH
 split
 ·exact zy _ _
 ·exact .refl _
theorem yO {slot i:Nat}{Q:Option (Value×Nat)->Shared->Prop} (ho:s.heap.get? a=some (kr es ep t)) (hf:t.fits es.size=true) (hr:nY t.place) (hl:w.params.followText "set-order"=false->t.led=true/\(t.plain=true\/es.size<=1)/\aR t.place slot=i)
  (hq : ∀ j,(w.params.followText "set-order"=false -> ∀ h:i < t.place.size,j=t.place[i]+1)->Q (((qH w a ep es)[i]?).map fun e=>(e.2,j)) s):aB (model prog w) A (setNext a slot i ep) Q E s:=by
 have hz:t.place.size=es.size:=by simp only [SetTable.fits,aw,beq_iff_eq] at hf;exact hf.1
 unfold setNext;refine ae (iX ho rfl hf ?_);dsimp only;unfold setsByText;refine ae (ae (jE (ao ?_)))
 cases hb:w.params.followText "set-order" with
 | true=>
   have hb':(model prog w).w.params.followText "set-order"=true:=hb
   simp only [hb',if_true,bne_self_eq_false,eV,if_false]
   unfold setWalk;refine ae (ae (iX ho rfl hf ?_));(try dsimp only);unfold setsByText;refine ae (ae (jE (ao ?_)));simp only [hb',if_true];refine ae (jE (ao (ao ?_)))
   have:=hq slot (fun z=>by rw [hb] at z;cases z)
   unfold qH at this
   rw [if_pos hb,fi] at this
   exact this
 | false=>
   have hb':(model prog w).w.params.followText "set-order"=false:=hb
   obtain⟨h1,h2,h3⟩:=hl hb
   simp only [hb',eV,if_false]
   refine wpAny_ite_split (fun z => ?_) (fun _ => ?_)
   ·have z':(!t.plain&&decide (es.size > 1))=true:=z
    rw [aw] at z'
    rcases h2 with h2 | h2
    ·rw [h2] at z';exact absurd z'.1 (by decide)
    ·have:=of_decide_eq_true z'.2;omega
   ·refine ae ?_;show aB _ _ (if (!t.led && !es.isEmpty)=true then unsupported "set:maker-not-led" else pure ()) _ _ s;rw [h1,if_neg (by simp)];refine ao ?_;(try dsimp only);rw [h3]
    have ho':(qH w a ep es)[i]? = es[i]? := by unfold qH;rw [if_neg (by rw [hb];decide),fi]
    rw [ho'] at hq
    by_cases hi:i < es.size
    ·have hi2:i < t.place.size:=by omega
     rw [d4 hi,d4 hi2]
     have:=hq (t.place[i]+1) (fun _ _=>rfl)
     rw [d4 hi] at this
     exact ao this
    ·rw [Ak (by omega)]
     have:=hq 0 (fun _ h=>by omega)
     rw [Ak (by omega)] at this
     exact ao this
theorem xO {slot i:Nat}{v:Value}{Q:Option Value->Shared->Prop} (hI:s.heap.get? I=some (o4 (rawInt slot) i a es.size ep)) (ho:s.heap.get? a=some (kr es ep t)) (hf:t.fits es.size=true) (hr:nY t.place)
  (hl:w.params.followText "set-order"=false->t.led=true/\(t.plain=true\/es.size<=1)/\aR t.place slot=i) (hv:((qH w a ep es)[i]?).map (·.2)=some v)
  (hQ : ∀ (h':Heap) (slot':Nat),h'.get? I=some (o4 (rawInt slot') (i+1) a es.size ep)->(w.params.followText "set-order"=false->aR t.place slot'=i+1)->cw I s.heap h'->Q (some v) { s with heap:=h' }):aB (model prog w) A (pyNext (.ref I)) Q E s:=by
 have hT:s.TypeIs (.ref I) "set_iterator":=⟨_,hI,rfl⟩
 have hz:t.place.size=es.size:=by simp only [SetTable.fits,aw,beq_iff_eq] at hf;exact hf.1
 unfold pyNext;refine ae (jF (bG (name:=dF "__next__") hT GS.slot_si (bH GS.slot_si hT GS.entry_si ?_ (GS.args_si _))));unfold Builtin.«set_iterator.__next__»;refine ae (fj (a:=(aT I,[])) rfl ?_);(try dsimp only);refine ae (qN hI rfl ?_)
 show aB _ _ (setEntries a >>= _) _ _ s;refine ae (gL ho rfl hf ?_);rw [if_neg (by simp)];show aB _ _ (setNext a ((slot:Int)).toNat ((i:Int)).toNat ((ep:Int)).toNat >>= _) _ _ s;rw [bN,bN,bN]
 refine ae (yO ho hf hr hl fun j hj => ?_)
 obtain⟨e,he,rfl⟩:=gU.mp hv
 rw [he]
 have hi:i < es.size:=by have:=(ag.mp he).1;rw [(lJ (w:=w) (a:=a) (ep:=ep) (es:=es)).length_eq] at this;simpa using this
 show aB _ _ (setField (.ref I) 0 (rawInt j) >>= _) _ _ s;refine ae (cf hI (by simp) fun h1 g1 s1 => ?_);refine ae (cf g1 (by simp) fun h2 g2 s2 => ?_)
 refine ao ⟨_,rfl,ao (hQ h2 j ?_ (fun hb => ?_) (s1.trans s2))⟩
 ·exact g2
 ·rw [hj hb (by omega)];exact xH hr _
theorem zE {slot:Nat}{Q:Option Value->Shared->Prop} (hh:A.handled=none) (hI:s.heap.get? I=some (o4 (rawInt slot) es.size a es.size ep)) (ho:s.heap.get? a=some (kr es ep t)) (hf:t.fits es.size=true) (hr:nY t.place)
  (hl:w.params.followText "set-order"=false->t.led=true/\(t.plain=true\/es.size<=1)/\aR t.place slot=es.size) (hQ : ∀ h',uw I s.heap h'->Q none { s with heap:=h' }):aB (model prog w) A (pyNext (.ref I)) Q E s:=by
 have hT:s.TypeIs (.ref I) "set_iterator":=⟨_,hI,rfl⟩
 unfold pyNext;refine ae (jF (bG (name:=dF "__next__") hT GS.slot_si (bH GS.slot_si hT GS.entry_si ?_ (GS.args_si _))));unfold Builtin.«set_iterator.__next__»;refine ae (fj (a:=(aT I,[])) rfl ?_);(try dsimp only);refine ae (qN hI rfl ?_)
 show aB _ _ (setEntries a >>= _) _ _ s;refine ae (gL ho rfl hf ?_);rw [if_neg (by simp)];show aB _ _ (setNext a ((slot:Int)).toNat ((es.size:Int)).toNat ((ep:Int)).toNat >>= _) _ _ s;rw [bN,bN,bN]
 refine ae (yO ho hf hr hl fun j hj => ?_)
 rw [iF (by rw [(lJ (w:=w) (a:=a) (ep:=ep) (es:=es)).length_eq];simp)]
 show aB _ _ (setField (.ref I) 2 .none >>= _) _ _ s;refine ae (cf hI (by simp) fun h1 g1 s1 => ?_)
 show aB _ _ (newExc (.type "StopIteration") [] >>= _) _ _ _;refine ae ?_;simp only [newExc,newTuple];refine ae (aU ?_ (by size_fits));refine ae (m:=firstArgMember _ _) (fj (a:=dk) (by first | rfl | (simp only [firstArgMember];rfl)) ?_);refine aU ?_ (by size_fits);simp only [raiseNew];refine ae (wpAny_handled ?_)
 first | rw [show A.in1.handled=none from hh] | rw [hh]
 refine ae (ao (wpAny_throw ?_));refine ae (jD (T:="StopIteration") (b:=true) ⟨_,av _ rfl,rfl⟩ isSubtype_stop ?_);exact ao (hQ _ ((s1.extBut.push _).push _))
noncomputable def tupI (idx:List Nat):Obj:={ cls := .type "tuple",data := .seq (idx.map fun (k:Nat)=>rawInt k).toArray }
theorem xj {F:Addr}{idx:List Nat}{i k:Nat}{e:Int×Value}{Q:Option Value->Shared->Prop} (hI:s.heap.get? I=some (o4 (.ref F) i a es.size ep)) (ho:s.heap.get? a=some (kr es ep t)) (hF:s.heap.get? F=some (tupI idx)) (hf:t.fits es.size=true) (hk:idx[i]? = some k) (he:es[k]? = some e)
  (hQ : ∀ h',h'.get? I=some (o4 (.ref F) (i+1) a es.size ep)->cw I s.heap h'->Q (some e.2) { s with heap:=h' }):aB (model prog w) A (pyNext (.ref I)) Q E s:=by
 have hT:s.TypeIs (.ref I) "set_iterator":=⟨_,hI,rfl⟩
 unfold pyNext;refine ae (jF (bG (name:=dF "__next__") hT GS.slot_si (bH GS.slot_si hT GS.entry_si ?_ (GS.args_si _))));unfold Builtin.«set_iterator.__next__»;refine ae (fj (a:=(aT I,[])) rfl ?_);(try dsimp only);refine ae (qN hI rfl ?_)
 show aB _ _ (setEntries a >>= _) _ _ s;refine ae (gL ho rfl hf ?_);rw [if_neg (by simp)];show aB _ _ (seqItems? (.ref F) >>= _) _ _ s;refine ae (qM hF rfl ?_);(try dsimp only);rw [bN]
 have h1:((idx.map fun (k:Nat)=>rawInt k).toArray)[i]? = some (rawInt k):=by simp [hk]
 rw [h1];show aB _ _ (setNextDrawn a ((k:Int)).toNat ((ep:Int)).toNat >>= _) _ _ s;rw [bN,bN];unfold setNextDrawn
 refine ae (ae (iX ho rfl hf ?_));dsimp only;rw [if_neg (by simp),he];refine ao ?_
 refine ae (cf hI (by simp) fun h2 g2 s2 => ?_)
 exact ao ⟨_,rfl,ao (hQ h2 g2 s2)⟩
theorem zP {F:Addr}{idx:List Nat}{Q:Option Value->Shared->Prop} (hh:A.handled=none) (hI:s.heap.get? I=some (o4 (.ref F) idx.length a es.size ep)) (ho:s.heap.get? a=some (kr es ep t)) (hF:s.heap.get? F=some (tupI idx)) (hf:t.fits es.size=true)
  (hQ : ∀ h',uw I s.heap h'->Q none { s with heap:=h' }):aB (model prog w) A (pyNext (.ref I)) Q E s:=by
 have hT:s.TypeIs (.ref I) "set_iterator":=⟨_,hI,rfl⟩
 unfold pyNext;refine ae (jF (bG (name:=dF "__next__") hT GS.slot_si (bH GS.slot_si hT GS.entry_si ?_ (GS.args_si _))));unfold Builtin.«set_iterator.__next__»;refine ae (fj (a:=(aT I,[])) rfl ?_);(try dsimp only);refine ae (qN hI rfl ?_)
 show aB _ _ (setEntries a >>= _) _ _ s;refine ae (gL ho rfl hf ?_);rw [if_neg (by simp)];show aB _ _ (seqItems? (.ref F) >>= _) _ _ s;refine ae (qM hF rfl ?_);(try dsimp only);rw [bN]
 have h1:((idx.map fun (k:Nat)=>rawInt k).toArray)[idx.length]? = none:=by simp
 rw [h1];show aB _ _ (setField (.ref I) 0 (rawInt 0) >>= _) _ _ s;refine ae (cf hI (by simp) fun h2 g2 s2 => ?_);refine ae (cf g2 (by simp) fun h3 g3 s3 => ?_)
 show aB _ _ (newExc (.type "StopIteration") [] >>= _) _ _ _;refine ae ?_;simp only [newExc,newTuple];refine ae (aU ?_ (by size_fits));refine ae (m:=firstArgMember _ _) (fj (a:=dk) (by first | rfl | (simp only [firstArgMember];rfl)) ?_);refine aU ?_ (by size_fits);simp only [raiseNew];refine ae (wpAny_handled ?_)
 first | rw [show A.in1.handled=none from hh] | rw [hh]
 refine ae (ao (wpAny_throw ?_));refine ae (jD (T:="StopIteration") (b:=true) ⟨_,av _ rfl,rfl⟩ isSubtype_stop ?_);exact ao (hQ _ (((s2.extBut.trans s3.extBut).push _).push _))
end
end L2
end
section
namespace L2
open PySem PyProof.Rows
section
variable {prog:Program}{w:World}{A:Around}{E:Value->Shared->Prop}{s:Shared}{I a:Addr}{es:Array (Int×Value)}{ep:Nat}{t:SetTable}
theorem KD (hh:A.handled=none) (hne:a≠I) (hf:t.fits es.size=true) (hr:nY t.place) (hl:w.params.followText "set-order"=false->t.led=true/\(t.plain=true\/es.size<=1)) :
  Walks prog w A I [I,a] [I] es.size (fun i v=>((qH w a ep es).map (·.2))[i]? = some v) (fun i h => ∃ slot:Nat,h.get? I=some (o4 (rawInt slot) i a es.size ep)/\h.get? a=some (kr es ep t)/\(w.params.followText "set-order"=false->aR t.place slot=i)) where
 sub:=fun b hb=>by simp at hb;simp [hb]
 frame:=fun _ _ _ ⟨slot,g1,g2,g3⟩ hk=>⟨slot,hk I (by simp) _ g1,hk a (by simp) _ g2,g3⟩
 item:=fun i s Q E hi ⟨slot,g1,g2,g3⟩ hQ=>by
  have hl2:i < (qH w a ep es).length:=by rw [lJ.length_eq];simpa using hi
  refine xO (v:=(qH w a ep es)[i].2) g1 g2 hf hr (fun hb=>⟨(hl hb).1,(hl hb).2,g3 hb⟩) (by rw [aX hl2];rfl) fun h' slot' q1 q2 q3 => ?_
  exact hQ _ h' s.toks (by rw [ek,aX hl2];rfl) ⟨slot',q1,(q3.2 a hne).trans g2,q2⟩ fun b o hb e=>(q3.2 b (fun z=>hb (by simp [z]))).trans e
 done:=fun s Q E ⟨slot,g1,g2,g3⟩ hQ=>zE hh g1 g2 hf hr (fun hb=>⟨(hl hb).1,(hl hb).2,g3 hb⟩) fun h' he'=>hQ h' s.toks fun b o hb e=>he' b o (fun z=>hb (by simp [z])) e
 self:=fun _ _ _ _ ⟨_,g1,_,_⟩ hQ=>vO g1 hQ
theorem uk : ∀ (l:List Nat),(∀ k∈l,k < es.size)->(l.filterMap fun k=>(es[k]?).map (·.2))=l.map fun k=>(es[k]?.getD default).2
 | [],_=>rfl
 | k::l,h=>by
   have hk:=h k (by simp)
   rw [List.filterMap_cons_some (b:=(es[k]?.getD default).2) (by simp [hk]),bu,uk l fun j hj=>h j (aO _ hj)]
theorem AO {idx:List Nat}{n:Nat} (hp:idx.Perm (aA n)):idx.length=n:=by have:=hp.length_eq;simpa using this
theorem JY {F:Addr}{idx:List Nat} (hh:A.handled=none) (hne:a≠I) (hnF:F≠I) (hf:t.fits es.size=true) (hp:idx.Perm (aA es.size)) :
  Walks prog w A I [I,a,F] [I] es.size (fun i v=>(idx.filterMap fun k=>(es[k]?).map (·.2))[i]? = some v) (fun i h=>h.get? I=some (o4 (.ref F) i a es.size ep)/\h.get? a=some (kr es ep t)/\h.get? F=some (tupI idx)) where
 sub:=fun b hb=>by simp at hb;simp [hb]
 frame:=fun _ _ _ st hk=>⟨hk I (by simp) _ st.1,hk a (by simp) _ st.2.1,hk F (by simp) _ st.2.2⟩
 item:=fun i s Q E hi st hQ=>by
  have hl:idx.length=es.size:=by have:=hp.length_eq;simpa using this
  have hi2:i < idx.length:=by omega
  have hk:idx[i] < es.size:=bb.mp (hp.mem_iff.mp (dW hi2))
  refine xj (k:=idx[i]) (e:=es[idx[i]]) st.1 st.2.1 st.2.2 hf (aX hi2) (d4 hk) fun h' q1 q3 => ?_
  refine hQ _ h' s.toks ?_ ⟨q1,(q3.2 a hne).trans st.2.1,(q3.2 F hnF).trans st.2.2⟩ fun b o hb e=>(q3.2 b (fun z=>hb (by simp [z]))).trans e
  have e:(idx.filterMap fun k=>(es[k]?).map (·.2))=idx.map fun k=>(es[k]?.getD default).2:=by
   exact uk idx fun k hk'=>bb.mp (hp.mem_iff.mp hk')
  rw [e,ek,aX hi2]
  simp [hk]
 done:=fun s Q E st hQ=>zP hh ((AO hp).symm▸st.1) st.2.1 st.2.2 hf fun h' he'=>hQ h' s.toks fun b o hb e=>he' b o (fun z=>hb (by simp [z])) e
 self:=fun _ _ _ _ st hQ=>vO st.1 hQ
theorem Aq {ns:List Int}{Q:Value->Shared->Prop} (ho:s.heap.get? a=some (kr es ep t)) (he:tW prog w (!w.params.followText "set-order") ns es t) (hz:es.size<=sizeLine)
  (hQ : ∀ (I:Addr) (fp:List Addr) (St:Nat->Heap->Prop) (L:List Value) h' d,(∀ A':Around,A'.handled=none->Walks prog w A' I fp [I] es.size (fun i v=>L[i]? = some v) St)->St 0 h'->(∀ b∈fp,b < h'.objs.size)->L.Perm (es.toList.map (·.2))->(∀ b o,s.heap.get? b=some o->h'.get? b=some o)->s.heap.objs.size<=I->(∀ b∈fp,b=a\/s.heap.objs.size<=b)->Q (.ref I) { s with heap:=h',drawn:=d }) :
  aB (model prog w) A (pyIter (.ref a)) Q E s:=by
 have hT:s.TypeIs (.ref a) "set":=⟨_,ho,rfl⟩
 have la : @CA Nat _ a s.heap.objs.size:=aC ho
 refine wpAny_pyIter_slot hT zd (bH zd hT GS.entry_seti ?_ (PySem.F.args_set_iter_1 _));unfold Builtin.«frozenset.__iter__»;refine ae (fj (a:=a) rfl ?_);unfold Builtin.Frozenset.sizeOf;refine ae (ae (gL ho rfl he.fit (ao ?_)))
 unfold setDrawn;refine ae (ae (iX ho rfl he.fit ?_));dsimp only;unfold setsByText;refine ae (ae (jE (ao (ao ?_))))
 have fin : ∀ (first:Value) (h1:Heap) d (fp:List Addr) (St:Nat->Heap->Prop) (L:List Value),(∀ b o,s.heap.get? b=some o->h1.get? b=some o) -> @LE.le Nat _ s.heap.objs.size h1.objs.size->(∀ A':Around,A'.handled=none->Walks prog w A' h1.objs.size fp [h1.objs.size] es.size (fun i v=>L[i]? = some v) St)->St 0 (h1.push (o4 first 0 a es.size ep)) ->
   (∀ b∈fp,b=h1.objs.size\/(@CA Nat _ b h1.objs.size/\(b=a \/ @LE.le Nat _ s.heap.objs.size b)))->L.Perm (es.toList.map (·.2))->aB (model prog w) A.in1 (setEpoch a >>= fun e=>newFields "set_iterator" [first,rawInt 0,.ref a,rawInt es.size,rawInt e] >>= fun v=>ret v) (fun f s' => ∃ v,f = .done (.ret v) /\ ∃ T' r,s'.TypeIs v T'/\typeLookup (.type T') (dF "__next__")=pure (some r)/\Q v s') E { s with heap:=h1,drawn:=d }:=by
  intro first h1 d fp St L hk hle W st hfp hL
  refine ae (wpAny_setEpoch_of (s:={ s with heap:=h1,drawn:=d }) (hk _ _ ho) rfl he.fit ?_);unfold newFields;refine ae (aU ?_ (by size_fits))
  have sz:(h1.push (o4 first 0 a es.size ep)).objs.size=h1.objs.size+1:=bc ..
  refine ao ⟨_,rfl,"set_iterator",_,⟨_,av _ rfl,rfl⟩,GS.slot_si.lookup,hQ h1.objs.size fp St L _ d W st (fun b hb => ?_) hL (fun b o e=>ak _ (hk b o e)) hle fun b hb => ?_⟩
  ·show @CA Nat _ b (h1.push (o4 first 0 a es.size ep)).objs.size
   rw [sz]
   rcases hfp b hb with z | z
   ·rw [z];exact aV _
   ·exact b7 z.1
  ·rcases hfp b hb with z | z
   ·rw [z];exact .inr hle
   ·exact z.2
 have ne:a≠s.heap.objs.size:=aG la
 refine wpAny_ite_split (fun z => ?_) (fun z => ?_)
 ·have z':(!w.params.followText "set-order"&&(!t.plain&&decide (es.size > 1)))=true:=z
  refine ae (vK _ _ _ (by simp) fun idx d hp => ?_)
  have hl:idx.length=es.size:=by have:=hp.length_eq;simpa using this
  refine ae (wpAny_newTuple ?_ (by rw [ay,hl];exact hz))
  have sz:(s.heap.push (tupI idx)).objs.size=s.heap.objs.size+1:=bc ..
  have n1:a≠(s.heap.push (tupI idx)).objs.size:=aG (by rw [sz];exact b7 la)
  have n2:s.heap.objs.size≠(s.heap.push (tupI idx)).objs.size:=aG (by rw [sz];exact aV _)
  refine fin (.ref s.heap.objs.size) (s.heap.push (tupI idx)) d [(s.heap.push (tupI idx)).objs.size,a,s.heap.objs.size] _ (idx.filterMap fun k=>(es[k]?).map (·.2)) (fun b o e=>ak _ e) (by rw [sz];exact dc _) (fun A' hh=>JY (ep:=ep) (t:=t) hh n1 n2 he.fit hp) ⟨av _ rfl,ak _ (ak _ ho),ak _ (av _ rfl)⟩ (fun b hb => ?_) ?_
  ·rcases aK.mp hb with q | hb
   ·exact .inl q
   ·rcases aK.mp hb with q | hb
    ·exact .inr ⟨by rw [q,sz];exact b7 la,.inl q⟩
    ·have q:=aW.mp hb
     exact .inr ⟨by rw [q,sz];exact aV _,.inr (by rw [q];exact aq _)⟩
  ·rw [uk idx fun k hk=>bb.mp (hp.mem_iff.mp hk)]
   refine (hp.map _).trans ?_
   rw [<- uk (aA es.size) fun k hk=>bb.mp hk,<- List.map_filterMap,filterMap_getElem?_range]
 ·have z' : ¬ (!w.params.followText "set-order"&&(!t.plain&&decide (es.size > 1)))=true:=z
  refine ae (ao ?_)
  refine fin (rawInt (0:Nat)) s.heap s.drawn [s.heap.objs.size,a] _ ((qH w a ep es).map (·.2)) (fun b o e=>e) (aq _) (fun A' hh=>KD (ep:=ep) hh ne he.fit he.tab.r fun hb => ?_) ⟨0,av _ rfl,ak _ ho,fun _=>xB he.tab.r⟩ (fun b hb => ?_) (lJ.map _)
  ·refine⟨by rw [he.tab.l,hb];rfl,?_⟩
   rw [hb] at z'
   by_cases p:t.plain=true
   ·exact .inl p
   ·right
    rw [Bool.not_eq_true] at p
    rw [p] at z'
    simpa using z'
  ·rcases aK.mp hb with q | hb
   ·exact .inl q
   ·have q:=aW.mp hb
    exact .inr ⟨by rw [q];exact la,.inl q⟩
end
end L2
end
section
namespace L2
open PySem PySem.Spec PyProof.Rows
section
variable {κ:Type} [DecidableEq κ]
noncomputable def kD (kvs:List (κ×V)) (k:κ):Option V:=(kvs.find? fun kv=>decide (kv.1=k)).map (·.2)
noncomputable def putK (kvs:List (κ×V)) (k:κ) (v:V):List (κ×V):=
 if (kvs.any fun kv=>decide (kv.1=k))=true then kvs.map (fun kv=>if kv.1=k then (kv.1,v) else kv) else kvs ++ [(k,v)]
theorem kJ {p:κ×V}{r:List (κ×V)}{k:κ} (e:p.1=k):kD (p::r) k=some p.2:=by simp [kD,du,e]
theorem kU {p:κ×V}{r:List (κ×V)}{k:κ} (e : ¬ p.1=k):kD (p::r) k=kD r k:=by simp [kD,du,e]
theorem uM (k:κ) : ∀ kvs:List (κ×V),(kvs.any fun kv=>decide (kv.1=k))=(kD kvs k).isSome
 | []=>rfl
 | p::r=>by
   rw [gv]
   by_cases e:p.1=k
   ·simp only [kJ e,decide_eq_true e,Bool.true_or,CK]
   ·rw [kU e,decide_eq_false e,Bool.false_or];exact uM k r
theorem kR (kvs:List (κ×V)) (k:κ) (v:V):(putK kvs k v).length<=kvs.length+1:=by
 unfold putK
 split
 ·rw [ay];omega
 ·rw [aI,bo,bT];omega
theorem qE.isSome_eq {o:Option V}{u:Option Value} (r:qE o u):o.isSome=u.isSome:=by
 cases o with
 | none=>cases u with
   | none=>rfl
   | some _=>exact (show False from r).elim
 | some _=>cases u with
   | none=>exact (show False from r).elim
   | some _=>rfl
theorem KV.val {kvs:List (κ×V)}{vs:List (κ×Value)} (r:KV kvs vs) (k:κ):qE (kD kvs k) (valueAt vs k):=by
 unfold KV at r
 induction r with
 | nil=>exact eU
 | @cons p q ps qs h t ih=>
   obtain⟨h1,h2⟩:=h
   by_cases e:p.1=k
   ·have e':q.1=k:=h1.symm.trans e
    have b:valueAt (q::qs) k=some q.2:=by simp [valueAt,du,e']
    rw [kJ e,b];exact h2
   ·have e' : ¬ q.1=k:=fun z=>e (h1.trans z)
    have b:valueAt (q::qs) k=valueAt qs k:=by simp [valueAt,du,e']
    rw [kU e,b];exact ih
theorem KV.any {kvs:List (κ×V)}{vs:List (κ×Value)} (r:KV kvs vs) (k:κ):(kvs.any fun kv=>decide (kv.1=k))=vs.any fun kv=>decide (kv.1=k):=by
 unfold KV at r
 induction r with
 | nil=>rfl
 | cons h t ih=>rw [gv,gv,ih,h.1]
theorem KV.repl {kvs:List (κ×V)}{vs:List (κ×Value)} (r:KV kvs vs) (k:κ) {y:V}{u:Value} (ry:RelV y u) :
  KV (kvs.map fun kv=>if kv.1=k then (kv.1,y) else kv) (vs.map fun kv=>if kv.1=k then (kv.1,u) else kv):=by
 unfold KV at r ⊢
 induction r with
 | nil=>exact .nil
 | @cons p q ps qs h t ih=>
   rw [bu,bu]
   refine .cons ?_ ih
   obtain⟨h1,h2⟩:=h
   by_cases e:p.1=k
   ·rw [if_pos e,if_pos (h1.symm.trans e)];exact⟨h1,ry⟩
   ·rw [if_neg e,if_neg (fun z=>e (h1.trans z))];exact⟨h1,h2⟩
theorem KV.put {kvs:List (κ×V)}{vs:List (κ×Value)} (r:KV kvs vs) (k:κ) {y:V}{u:Value} (ry:RelV y u):KV (putK kvs k y) (stored vs k u):=by
 unfold putK stored
 rw [r.any k]
 by_cases e:(vs.any fun kv=>decide (kv.1=k))=true
 ·rw [if_pos e,if_pos e];exact r.repl k ry
 ·rw [if_neg e,if_neg e];exact Paired.snoc r ⟨rfl,ry⟩
theorem KV.length {kvs:List (κ×V)}{vs:List (κ×Value)} (r:KV kvs vs):kvs.length=vs.length:=wO r
end
theorem sN {P:Program}{w:World}{k:Key}{u:Value} (r:RelV (kV k) u):(dB P w).is k u=true:=by
 cases k with
 | inl i=>obtain⟨t,e⟩:=(show ∃ t,u=lu i t from r);subst e;exact u0 P w i t
 | inr x=>obtain⟨t,e⟩:=(show ∃ t,u=rC x t from r);subst e;exact uZ P w x t
theorem sv {P:Program}{w:World} : ∀ {ks:List Key}{us:List Value},bO (ks.map kV) us->ItemsAre (dB P w) ks us
 | [],_,r=>by rw [ij] at r;cases r;exact .nil
 | k::ks,_,r=>by
   rw [bu] at r
   cases r with
   | cons h t=>exact .cons (sN h) (sv t)
abbrev KT (H:Hp):List (List Key×V)->List (List Key×Addr×Value)->Prop:=Paired fun p q=>p.1=q.1/\H q.2.1=some (.tup (p.1.map kV))/\RelV p.2 q.2.2
theorem KT.val {H:Hp}{kvs:List (List Key×V)}{xs:List (List Key×Addr×Value)} (r:KT H kvs xs) (k:List Key):qE (kD kvs k) ((atKey xs k).map (·.2)):=by
 induction r with
 | nil=>exact eU
 | @cons p q ps qs h t ih=>
   obtain⟨h1,_,h2⟩:=h
   by_cases e:p.1=k
   ·have e':q.1=k:=h1.symm.trans e
    have b:atKey (q::qs) k=some q.2:=by simp [atKey,du,e']
    rw [kJ e,b];exact h2
   ·have e' : ¬ q.1=k:=fun z=>e (h1.trans z)
    have b:atKey (q::qs) k=atKey qs k:=by simp [atKey,du,e']
    rw [kU e,b];exact ih
theorem KT.repl {H:Hp}{kvs:List (List Key×V)}{xs:List (List Key×Addr×Value)} (r:KT H kvs xs) (k:List Key) {y:V}{u:Value} (ry:RelV y u) :
  KT H (kvs.map fun kv=>if kv.1=k then (kv.1,y) else kv) (xs.map (putAt k u)):=by
 induction r with
 | nil=>exact .nil
 | @cons p q ps qs h t ih=>
   rw [bu,bu]
   refine .cons ?_ ih
   obtain⟨h1,h2,h3⟩:=h
   unfold putAt
   by_cases e:p.1=k
   ·rw [if_pos e,if_pos (h1.symm.trans e)];exact⟨h1,h2,ry⟩
   ·rw [if_neg e,if_neg (fun z=>e (h1.trans z))];exact⟨h1,h2,h3⟩
theorem KT.put {H:Hp}{kvs:List (List Key×V)}{xs:List (List Key×Addr×Value)} (r:KT H kvs xs) (k:List Key) {b:Addr}{y:V}{u:Value} (hb:H b=some (.tup (k.map kV))) (ry:RelV y u) :
  KT H (putK kvs k y) (storedH xs k b u):=by
 have e:(kvs.any fun kv=>decide (kv.1=k))=(atKey xs k).isSome:=by
  rw [uM,(r.val k).isSome_eq,pG]
 unfold putK storedH
 rw [e]
 by_cases q:(atKey xs k).isSome=true
 ·rw [if_pos q,if_pos q];exact r.repl k ry
 ·rw [if_neg q,if_neg q];exact Paired.snoc r ⟨rfl,hb,ry⟩
theorem KT.keeps {H H':Hp}{kvs:List (List Key×V)}{xs:List (List Key×Addr×Value)} (r:KT H kvs xs) (ht : ∀ b ys,H b=some (.tup ys)->H' b=some (.tup ys)):KT H' kvs xs:=
 Paired.mapP r fun _ _ z=>⟨z.1,ht _ _ z.2.1,z.2.2⟩
section
variable {P:Program}{w:World}{H:Hp}{h:Heap}{a:Addr}
theorem Fz {u:HO} (ok:HOk P w H h) (e:Rd H a u):dJ P w H h a u:=e.ok ok
theorem sg {kvs:List (Key×V)} (ok:HOk P w H h) (e:Rd H a (.dK kvs)):kvs.length<=sizeLine/\(a == sysModules)=false /\ ∃ vs,KV kvs vs/\h.DictOf (dB P w) a vs:=
 show dJ P w H h a (.dK kvs) from Fz ok e
theorem FG {kvs:List (Key×V)} (ok:HOk P w H h) (e:H a=some (.dK kvs)):kvs.length<=sizeLine/\(a == sysModules)=false /\ ∃ vs,KV kvs vs/\h.DictOf (dB P w) a vs:=sg ok (.inl e)
theorem qJ {ks:List Key} (ok:HOk P w H h) (e:H a=some (.tup (ks.map kV))):(tupleKind (dB P w)).is h ks a:=by
 obtain⟨_,its,r,⟨o,h1,h2,n,h3⟩,_⟩:=(show dJ P w H h a (.tup (ks.map kV)) from ok a _ e)
 exact⟨o,its.toArray,n,h1,h2,h3,by simpa using sv r⟩
theorem vD {kvs:List (List Key×V)} (ok:HOk P w H h) (e:Rd H a (.dT kvs)):kvs.length<=sizeLine/\(a == sysModules)=false /\
  ∃ xs,KT H kvs xs/\h.DictOfH (tupleKind (dB P w)) a xs:=by
 obtain⟨z,y,xs,r,o,es,ep,h1,h2,h3,h4,h5⟩:=(show dJ P w H h a (.dT kvs) from Fz ok e)
 refine⟨z,y,xs,r,o,es,ep,h1,h2,h3,h4,fun x hx => ?_,h5⟩
 have all : ∀ {l:List (List Key×V)}{m:List (List Key×Addr×Value)},KT H l m -> ∀ x∈m,(tupleKind (dB P w)).is h x.1 x.2.1:=by
  intro l m q
  induction q with
  | nil=>intro x hx;exact nomatch hx
  | @cons p q ps qs hq t ih=>
    intro x hx
    rcases aK.mp hx with e | hx
    ·subst e
     exact qJ ok (by rw [<- hq.1];exact hq.2.1)
    ·exact ih x hx
 exact all r x hx
theorem Jw {kvs:List (List Key×V)} (ok:HOk P w H h) (e:H a=some (.dT kvs)):kvs.length<=sizeLine/\(a == sysModules)=false /\
  ∃ xs,KT H kvs xs/\h.DictOfH (tupleKind (dB P w)) a xs:=vD ok (.inl e)
end
noncomputable def rg (H:Hp) (a:Addr) (y:V) (r:Option V):Prop:=
 (∃ kvs k,Rd H a (.dK kvs)/\y=kV k/\r=kD kvs k) \/ ∃ kvs k b,Rd H a (.dT kvs)/\y = .ref b/\H b=some (.tup (k.map kV))/\r=kD kvs k
noncomputable def zL (H:Hp) (a:Addr) (y v:V) (H':Hp):Prop:=
 (∃ kvs k,H a=some (.dK kvs)/\y=kV k/\kvs.length < sizeLine/\H'=upd H a (.dK (putK kvs k v))) \/
 ∃ kvs k b,H a=some (.dT kvs)/\y = .ref b/\H b=some (.tup (k.map kV))/\kvs.length < sizeLine/\H'=upd H a (.dT (putK kvs k v))
theorem rg.k {H:Hp}{a:Addr}{kvs:List (Key×V)}{k:Key} (e:H a=some (.dK kvs)):rg H a (kV k) (kD kvs k) := .inl ⟨kvs,k,.inl e,rfl,rfl⟩
theorem rg.t {H:Hp}{a b:Addr}{kvs:List (List Key×V)}{k:List Key} (e:H a=some (.dT kvs)) (eb:H b=some (.tup (k.map kV))):rg H a (.ref b) (kD kvs k) := .inr ⟨kvs,k,b,.inl e,rfl,eb,rfl⟩
theorem zL.k {H:Hp}{a:Addr}{kvs:List (Key×V)}{k:Key}{v:V} (e:H a=some (.dK kvs)) (hl:kvs.length < sizeLine):zL H a (kV k) v (upd H a (.dK (putK kvs k v))) := .inl ⟨kvs,k,e,rfl,hl,rfl⟩
theorem zL.t {H:Hp}{a b:Addr}{kvs:List (List Key×V)}{k:List Key}{v:V} (e:H a=some (.dT kvs)) (eb:H b=some (.tup (k.map kV))) (hl:kvs.length < sizeLine) :
  zL H a (.ref b) v (upd H a (.dT (putK kvs k v))) := .inr ⟨kvs,k,b,e,rfl,eb,hl,rfl⟩
section
variable {X:Cx}{pins:List (Addr×Obj)}{σ:St}{H:Hp}{s:Shared}{a:Addr}{y v:V}{u r:Value}{o:Option V}{A:Around}{E:Value->Shared->Prop}
theorem Inv.big (I:Inv X pins σ H s):sysModules < s.heap.objs.size:=by
 have h:mainGlobals < s.heap.objs.size:=(I.mod.glob.keeps I.bk).lt
 exact dq (by decide) h
theorem zt {Q:Value->Shared->Prop} (hu:A.units+1 < cLine) (I:Inv X pins σ H s) (g:rg H a y (some v)) (ry:RelV y u) (h : ∀ w' s',Inv X pins σ H s'->RelV v w'->Q w' s') :
  aB (model X.prog X.w) A (getItem (.ref a) u) Q E s:=by
 rcases g with⟨kvs,k,e,ey,l⟩ | ⟨kvs,k,b,e,ey,eb,l⟩
 ·subst ey
  obtain⟨z,hd,vs,rel,dd⟩:=sg I.hok e
  obtain⟨w',hw,rw'⟩:=qE.some_of (v:=v) (o:=valueAt vs k) (by rw [l];exact rel.val k)
  exact wpAny_getItem_of (sN ry) dd.mapOf hw (h w' _ (I.tok _) rw')
 ·subst ey
  cases (show u=aT b from ry)
  obtain⟨z,hd,xs,rel,dd⟩:=vD I.hok e
  obtain⟨w',hw,rw'⟩:=qE.some_of (v:=v) (o:=(atKey xs k).map (·.2)) (by rw [l];exact rel.val k)
  obtain⟨p,hp,hp2⟩:=gU.mp hw
  refine wpAny_getItem_heap (tupleKind_room_in1 hu) (qJ I.hok eb) dd hp ?_
  rw [hp2]
  exact h w' _ (I.tok _) rw'
theorem Ln {Q:Value->Shared->Prop} (hu:A.units+1 < cLine) (I:Inv X pins σ H s) (g:rg H a y o) (ry:RelV y u) (h : ∀ s',Inv X pins σ H s'->Q (.bool o.isSome) s') :
  aB (model X.prog X.w) A (compareOp .In u (.ref a)) Q E s:=by
 rcases g with⟨kvs,k,e,ey,l⟩ | ⟨kvs,k,b,e,ey,eb,l⟩
 ·subst ey
  obtain⟨z,hd,vs,rel,dd⟩:=sg I.hok e
  refine wpAny_in_of (sN ry) hd dd.mapOf ?_
  rw [<- (rel.val k).isSome_eq,<- l]
  exact h _ (I.tok _)
 ·subst ey
  cases (show u=aT b from ry)
  obtain⟨z,hd,xs,rel,dd⟩:=vD I.hok e
  refine wpAny_in_heap (tupleKind_room_in1 hu) (qJ I.hok eb) hd dd ?_
  have q:=(rel.val k).isSome_eq
  rw [pG] at q
  rw [<- q,<- l]
  exact h _ (I.tok _)
theorem EX {Q:Value->Shared->Prop} (hu:A.units+1 < cLine) (I:Inv X pins σ H s) (g:rg H a y o) (ry:RelV y u) (h : ∀ s',Inv X pins σ H s'->Q (.bool (!o.isSome)) s') :
  aB (model X.prog X.w) A (compareOp .NotIn u (.ref a)) Q E s:=by
 rcases g with⟨kvs,k,e,ey,l⟩ | ⟨kvs,k,b,e,ey,eb,l⟩
 ·subst ey
  obtain⟨z,hd,vs,rel,dd⟩:=sg I.hok e
  refine wpAny_notIn_of (sN ry) hd dd.mapOf ?_
  rw [<- (rel.val k).isSome_eq,<- l]
  exact h _ (I.tok _)
 ·subst ey
  cases (show u=aT b from ry)
  obtain⟨z,hd,xs,rel,dd⟩:=vD I.hok e
  refine wpAny_notIn_heap (tupleKind_room_in1 hu) (qJ I.hok eb) hd dd ?_
  have q:=(rel.val k).isSome_eq
  rw [pG] at q
  rw [<- q,<- l]
  exact h _ (I.tok _)
theorem tI {h':Heap}{t':Nat}{ob:HO} (I:Inv X pins σ H s) (mu:Mut (H a)) (hs:cw a s.heap h') (he : ∃ q,h'.get? a=some q) (new:dJ X.prog X.w (upd H a ob) h' a ob) :
  Inv X pins σ (upd H a ob) { s with heap:=h',toks:=t' }:=
 I.write (x:=a) (e:=a) mu (.inl rfl) (fun b q hb z=>(hs.2 b hb).trans z) he new
theorem AA {P:Program}{w:World}{H':Hp}{h':Heap}{kvs:List (Key×V)}{vs:List (Key×Value)} (z:kvs.length<=sizeLine) (hd:(a == sysModules)=false) (rel:KV kvs vs) (dd:h'.DictOf (dB P w) a vs) :
  dJ P w H' h' a (.dK kvs):=⟨z,hd,vs,rel,dd⟩
theorem zB {H':Hp}{Q:Unit->Shared->Prop} (hu:A.units+1 < cLine) (I:Inv X pins σ H s) (g:zL H a y v H') (ry:RelV y u) (rv:RelV v r) (h : ∀ s',Inv X pins σ H' s'->Q () s') :
  aB (model X.prog X.w) A (setItem (.ref a) u r) Q E s:=by
 rcases g with⟨kvs,k,e,ey,l,eH⟩ | ⟨kvs,k,b,e,ey,eb,l,eH⟩
 ·subst ey eH
  obtain⟨z,hd,vs,rel,dd⟩:=FG I.hok e
  have hz:vs.length<=sizeLine:=by rw [<- rel.length];exact z
  have hl:(putK kvs k v).length<=sizeLine:=by have:=kR kvs k v;omega
  refine wpAny_setItem_pairs (hsz:=hz) (sN ry) dd fun h' dd' hs=>h _ ?_
  have he : ∃ q,h'.get? a=some q:=let ⟨q,_,_,hq,_⟩:=dd';⟨q,hq⟩
  exact tI I (by rw [e];exact eU) hs he (AA hl hd (rel.put k rv) dd')
 ·subst ey eH
  cases (show u=aT b from ry)
  obtain⟨z,hd,xs,rel,dd⟩:=Jw I.hok e
  have hz:xs.length<=sizeLine:=by rw [<- wO rel];exact z
  have hl:(putK kvs k v).length<=sizeLine:=by have:=kR kvs k v;omega
  refine wpAny_setItem_heap (hsz:=hz) (tupleKind_room_in1 hu) (qJ I.hok eb) dd fun h' dd' hs=>h _ ?_
  obtain⟨q,es,ep,hq,h2,h3,h4,_,h5⟩:=dd'
  refine tI I (by rw [e];exact eU) hs ⟨q,hq⟩ ⟨hl,hd,_,(rel.put k eb rv).keeps fun c ys ec => ?_,q,es,ep,hq,h2,h3,h4,h5⟩
  rw [bP (y4 ec e (fun z=>nomatch z))]
  exact ec
end
section
variable {X:Cx}{pins:List (Addr×Obj)}{σ:St}{H:Hp}{s:Shared}{a:Addr}{kvs:List (Key×V)}{k:Key}{u:Value}{A:Around}{E:Value->Shared->Prop}
theorem A9 {Q:Value->Shared->Prop} (I:Inv X pins σ H s) (e:Rd H a (.dK kvs)) (h : ∀ t s',Inv X pins σ H s'->Q (.int kvs.length t) s'):aB (model X.prog X.w) A (call (.builtin "len") [.ref a]) Q E s:=by
 obtain⟨z,hd,vs,rel,dd⟩:=sg I.hok e
 refine call_len_dict hd dd (by rw [<- rel.length];rw [sizeLine_eq] at z;omega) ?_
 rw [<- rel.length]
 exact h _ _ (I.tok _)
end
theorem vX {X:Cx}{pins:List (Addr×Obj)}{σ:St}{H:Hp}{s:Shared}{a:Addr}{y:V}{o:Option V} (I:Inv X pins σ H s) (g:rg H a y o):s.TypeIs (.ref a) "dict":=by
 rcases g with⟨kvs,k,e,_,_⟩ | ⟨kvs,k,b,e,_,_,_⟩
 ·obtain⟨_,_,vs,_,dd⟩:=sg I.hok e
  exact dd.typeIs
 ·obtain⟨_,_,xs,_,dd⟩:=vD I.hok e
  exact dd.typeIs
section
variable {X:Cx}{o i e value:Expr}{pos pos' tpos:Pos}{td ty tv:TE}
end
theorem vI {P:Program}{w:World}{H:Hp} (h:Heap) (hb:sysModules < h.objs.size):dJ P w H (h.push { cls := .type "dict",data := .dict #[] }) h.objs.size (.dK []):=
 ⟨da _,beq_eq_false_iff_ne.mpr (cY (aG hb)),[],.nil,Heap.DictOf.new h⟩
noncomputable def Bw:TE:=fun _ H Q => ∀ p,H p=none->Q (.ref p) (upd H p (.dK []))
section
variable {X:Cx}{pos:Pos}
theorem BZ:PE X (.Dict [] [] pos) Bw:=fun pins s σ H Q I h=>
 wpAny_Dict_empty ⟨.ref s.heap.objs.size,_,I.laid (a:=s.heap.objs.size) (o := .dK []) (t':=s.toks) (fun _ _ q=>ak _ q) (aq _) (vI s.heap I.big),rfl,h _ (I.hok.fresh (aq _))⟩
end
noncomputable def xw:List (TE×TE)->St->Hp->(List (V×V)->Hp->Prop)->Prop
 | [],_,H,Q=>Q [] H
 | (tk,tv)::r,σ,H,Q=>tk σ H fun x H1=>tv σ H1 fun y H2=>xw r σ H2 fun ps H3=>Q ((x,y)::ps) H3
abbrev VV:List (V×V)->List (Value×Value)->Prop:=Paired fun p q=>RelV p.1 q.1/\RelV p.2 q.2
noncomputable def PPs (X:Cx) (pos:Pos) (keys:List (Option Expr)) (values:List Expr) (trs:List (TE×TE)):Prop:=
 ∀ (pins:List (Addr×Obj)) (s:Shared) (σ:St) (H:Hp) (Q:List (V×V)->Hp->Prop),Inv X pins σ H s->xw trs σ H Q ->
  aB (model X.prog X.w) X.A (evalPairs (pairTrees keys values X.env pos)) (fun vs s' => ∃ ps H',Inv X pins σ H' s'/\VV ps vs/\Q ps H') X.xe s
theorem Em {X:Cx}{pos:Pos}:PPs X pos [] [] []:=fun pins s σ H Q I h=>pairTrees_nil_walk ⟨[],H,I,.nil,h⟩
theorem AZ {X:Cx}{pos:Pos}{k v:Expr}{ks:List (Option Expr)}{vs:List Expr}{tk tv:TE}{trs:List (TE×TE)} (hk:PE X k tk) (hv:PE X v tv) (hr:PPs X pos ks vs trs) :
  PPs X pos (some k::ks) (v::vs) ((tk,tv)::trs):=fun pins s σ H Q I h=>
 pairTrees_cons_walk (thn (hk pins s σ H _ I h) fun u s1 ⟨x,H1,I1,rx,q1⟩=>thn (hv pins s1 σ H1 _ I1 q1) fun w2 s2 ⟨y,H2,I2,ry,q2⟩=>
  thn (hr pins s2 σ H2 _ I2 q2) fun ws s3 ⟨ps,H3,I3,rel,q3⟩=>⟨(x,y)::ps,H3,I3,.cons ⟨rx,ry⟩ rel,q3⟩)
noncomputable def oE (kvs more:List (Key×V)):List (Key×V):=more.foldl (fun acc kv=>putK acc kv.1 kv.2) kvs
theorem KV.merge : ∀ {more:List (Key×V)}{rs:List (Key×Value)}{kvs:List (Key×V)}{vs:List (Key×Value)},KV more rs->KV kvs vs->KV (oE kvs more) (merged vs rs):=by
 intro more rs kvs vs r
 unfold KV at r
 induction r generalizing kvs vs with
 | nil=>intro q;exact q
 | @cons p q ps qs h t ih=>
   intro r0
   have e:KV (putK kvs p.1 p.2) (stored vs q.1 q.2):=by
    have:=r0.put p.1 h.2
    rw [<- h.1];exact this
   exact ih e
theorem mz : ∀ (more kvs:List (Key×V)),(oE kvs more).length<=kvs.length+more.length
 | [],kvs=>by show kvs.length<=kvs.length+0;omega
 | p::r,kvs=>by
   have h1:=mz r (putK kvs p.1 p.2)
   have h2:=kR kvs p.1 p.2
   show (oE (putK kvs p.1 p.2) r).length<=_
   rw [bo];omega
theorem qw {P:Program}{w:World} : ∀ {kvs:List (Key×V)}{ws:List (Value×Value)},VV (kvs.map fun kv=>(kV kv.1,kv.2)) ws -> ∃ rs,Carries (dB P w) ws rs/\KV kvs rs
 | [],_,r=>by rw [ij] at r;cases r;exact⟨[],eU,.nil⟩
 | p::kvs,_,r=>by
   rw [bu] at r
   cases r with
   | @cons a b as bs h t=>
     obtain⟨rs,c,q⟩:=qw (P:=P) (w:=w) t
     obtain⟨b1,b2⟩:=b
     exact⟨(p.1,b2)::rs,⟨sN h.1,rfl,c⟩,.cons ⟨rfl,h.2⟩ q⟩
noncomputable def FB (trs:List (TE×TE)):TE:=fun σ H Q => ∀ p,H p=none->xw trs σ (upd H p (.dK [])) fun ps H2=>H2 p=some (.dK []) /\ ∃ kvs:List (Key×V),ps=kvs.map (fun kv=>(kV kv.1,kv.2))/\kvs.length<=15/\Q (.ref p) (upd H2 p (.dK (oE [] kvs)))
theorem Dn {X:Cx}{pos:Pos}{keys:List (Option Expr)}{values:List Expr}{trs:List (TE×TE)} (h:PPs X pos keys values trs) (hall:keys.all (·.isSome)=true) (hl:keys.length=values.length) (h0:keys ≠ [])
  (h15:keys.length<=15):PE X (.Dict keys values pos) (FB trs):=by
 intro pins s σ H Q I q
 have hn:=I.hok.fresh (aq s.heap.objs.size)
 have I1:=I.laid (a:=s.heap.objs.size) (o := .dK []) (h':=s.heap.push { cls := .type "dict",data := .dict #[] }) (t':=s.toks) (fun _ _ q=>ak _ q) (aq _) (vI s.heap I.big)
 refine wpAny_Dict_walk (knd:=dB X.prog X.w) hall hl h0 h15 (thn (h pins _ σ _ _ I1 (q _ hn)) fun ws s2 ⟨ps,H2,I2,rel,e,kvs,ep,lk,q2⟩ => ?_)
 subst ep
 obtain⟨rs,c,rk⟩:=qw (P:=X.prog) (w:=X.w) rel
 obtain⟨z,hd,vs0,r0,dd⟩:=FG I2.hok e
 cases r0
 refine⟨rs,c,dd,fun h' dd' hs=>⟨.ref s.heap.objs.size,_,?_,rfl,q2⟩⟩
 have hz:(oE [] kvs).length<=sizeLine:=by
  have h1:=mz kvs []
  rw [bT] at h1
  rw [sizeLine_eq];omega
 have he : ∃ q,h'.get? s.heap.objs.size=some q:=let ⟨q,_,_,hq,_⟩:=dd';⟨q,hq⟩
 exact tI I2 (by rw [e];exact eU) hs he (AA hz hd (rk.merge .nil) dd')
structure M1 (X:Cx) (o:Expr) (m:Str) (apos:Pos) (e:Expr) (cpos:Pos):Prop where
 base:attributeBase o m X.env (eval o X.env)=eval o X.env
 few:((backTo cpos (starEach [e] X.env)).all (fun x => !x.1)&&(backToKw cpos (keywordEach [] X.env)).all (fun x=>x.1.isSome)
  && decide (([e]:List Expr).length+([]:List Keyword).length+(if ([]:List Keyword).isEmpty then 0 else 1) < 30))=true
 line:(apos.endLine == cpos.line)=true
 trees:backTo cpos (starEach [e] X.env) = [(false,eval e X.env)]
structure M2 (X:Cx) (o:Expr) (m:Str) (apos:Pos) (e f:Expr) (cpos:Pos):Prop where
 base:attributeBase o m X.env (eval o X.env)=eval o X.env
 few:((backTo cpos (starEach [e,f] X.env)).all (fun x => !x.1)&&(backToKw cpos (keywordEach [] X.env)).all (fun x=>x.1.isSome)
  && decide (([e,f]:List Expr).length+([]:List Keyword).length+(if ([]:List Keyword).isEmpty then 0 else 1) < 30))=true
 line:(apos.endLine == cpos.line)=true
 trees:backTo cpos (starEach [e,f] X.env) = [(false,eval e X.env),(false,eval f X.env)]
section
variable {X:Cx}{pins:List (Addr×Obj)}{σ:St}{H:Hp}{s:Shared}{a:Addr}{y d:V}{u r:Value}{o:Option V}{A:Around}{E:Value->Shared->Prop}
end
section
variable {X:Cx}{o e f:Expr}{apos cpos:Pos}{td ty tx:TE}
end
section
variable {X:Cx}{pins:List (Addr×Obj)}{σ:St}{H:Hp}{s:Shared}{a:Addr}{kvs:List (Key×V)}{A:Around}{E:Value->Shared->Prop}
end
section
variable {X:Cx}{pins:List (Addr×Obj)}{σ:St}{H:Hp}{s:Shared}{a:Addr}{y:V}{u:Value}{A:Around}{E:Value->Shared->Prop}
end
end L2
namespace L2
open PySem PySem.Spec PyProof.Rows
section
variable {X:Cx}
theorem zO:gm X (.builtin "len") (fun xs H Q => ∃ a kvs,xs = [V.ref a]/\H a=some (.dK kvs)/\Q (.int kvs.length) H):=by
 intro pins s σ H xs us Q I r h
 obtain⟨a,kvs,rfl,ha,q⟩:=h
 obtain⟨u,rfl,ru⟩:=vals1 r
 cases ru
 exact A9 I (.inl ha) fun t s' I'=>⟨.int kvs.length,H,I',⟨t,rfl⟩,q⟩
end
section
variable {κ:Type} [DecidableEq κ]
end
end L2
end
section
namespace PySem
open Sem (wp)
noncomputable def iM (env:Env):List (Str×NameKind)->List (Str×Addr)->List (Str×Addr)
 | [],acc=>acc
 | (n,k)::r,acc=>if k == .free then iM env r ((n,(env.cells.lookup n).getD 0)::acc) else iM env r acc
theorem iu {scope:Scope}{env:Env} (h : ∀ y∈scope.names,y.2 = .free -> ∃ c,env.cells.lookup y.1=some c):closureFor scope env=pure (iM env scope.names []):=by
 simp only [closureFor]
 have go : ∀ (names:List (Str×NameKind)) (acc:List (Str×Addr)),(∀ y∈names,y.2 = .free -> ∃ c,env.cells.lookup y.1=some c) ->
   (forIn (m:=Sem) names acc fun x r=>if (x.2 == br)=true then cellOf env x.1 >>= fun a=>pure (fU ((x.1,a)::r)) else pure (fU r))=pure (iM env names acc):=by
  intro names
  induction names with
  | nil=>intro acc _;rfl
  | cons y r ih=>
    intro acc hy
    obtain⟨n,k⟩:=y
    rw [List.forIn_cons]
    by_cases hk:k = .free
    ·subst hk
     obtain⟨c,hc⟩:=hy (n,.free) cX rfl
     have e1:cellOf env n=pure c:=by unfold cellOf;rw [hc]
     have e2:iM env ((n,br)::r) acc=iM env r ((n,c)::acc):=by
      show (if (br == br)=true then _ else _)=_
      rw [if_pos (by decide),hc];rfl
     rw [e2,<- ih _ fun z hz=>hy z (aO _ hz)]
     simp only [beq_self_eq_true,if_true,e1]
     rfl
    ·have hb:(k == br)=false:=by simpa using hk
     have e2:iM env ((n,k)::r) acc=iM env r acc:=by
      show (if (k == br)=true then _ else _)=_
      rw [if_neg (by rw [hb];decide)]
     rw [e2,<- ih _ fun z hz=>hy z (aO _ hz)]
     simp only [hb,eV,if_false]
     rfl
 exact (congrArg (fun z=>z >>= pure) (go scope.names [] h)).trans rfl
theorem nr {env:Env} : ∀ (names:List (Str×NameKind)) (acc:List (Str×Addr)),(∀ y∈names,y.2 = .free -> ∃ c,env.cells.lookup y.1=some c) -> ∀ x c,(iM env names acc).lookup x=some c->env.cells.lookup x=some c\/acc.lookup x=some c
 | [],_,_,_,_,h => .inr h
 | (n,k)::r,acc,hy,x,c,h=>by
   unfold iM at h
   split at h
   ·rename_i hk
    have hk':k = .free:=by simpa using hk
    subst hk'
    obtain⟨d,hd⟩:=hy (n,.free) cX rfl
    rcases nr r _ (fun z hz=>hy z (aO _ hz)) x c h with e | e
    ·exact .inl e
    ·rw [aQ] at e
     cases hb:x == n with
     | true=>
       rw [hb] at e
       rw [beq_iff_eq.mp hb,hd]
       rw [hd] at e
       exact .inl e
     | false=>rw [hb] at e;exact .inr e
   ·exact nr r acc (fun z hz=>hy z (aO _ hz)) x c h
theorem nK {env:Env}{x:Str} : ∀ (names:List (Str×NameKind)) (acc:List (Str×Addr)),(names.lookup x=some .free\/(acc.lookup x).isSome=true)->((iM env names acc).lookup x).isSome=true
 | [],_,h=>h.elim (fun e=>by cases e) id
 | (y,k)::r,acc,h=>by
   unfold iM
   by_cases hk:(k == .free)=true
   ·rw [if_pos hk]
    refine nK r ((y,(env.cells.lookup y).getD 0)::acc) ?_
    by_cases hy:(x == y)=true
    ·exact .inr (by rw [aQ,hy];rfl)
    ·refine h.imp (fun e => ?_) fun e => ?_
     ·rw [aQ] at e;simpa only [hy] using e
     ·rw [aQ];simpa only [hy] using e
   ·rw [if_neg hk]
    refine nK r acc ?_
    refine h.imp (fun e => ?_) id
    rw [aQ] at e
    cases hb:x == y with
    | true=>rw [hb] at e;cases e;exact absurd rfl hk
    | false=>rw [hb] at e;exact e
theorem eN : ∀ (names:List (Str×NameKind)) (n:Nat) (acc:List (Str×Addr)),cellsFrom n names acc=cellsFrom n names []++acc
 | [],_,_=>rfl
 | (y,k)::r,n,acc=>by
   unfold cellsFrom
   split
   ·rw [eN r (n+1) ((y,n)::acc),eN r (n+1) [(y,n)],ba];rfl
   ·exact eN r n acc
theorem jw {x:Str} : ∀ (names:List (Str×NameKind)) (n:Nat) (acc:List (Str×Addr)) (c:Addr),(cellsFrom n names acc).lookup x=some c->(∃ k∈names,k.1=x/\k.2 = .cell)\/acc.lookup x=some c
 | [],_,_,_,h => .inr h
 | (y,k)::r,n,acc,c,h=>by
   unfold cellsFrom at h
   split at h
   ·rename_i hk
    rcases jw r _ _ c h with⟨z,hz,e⟩ | e
    ·exact .inl ⟨z,aO _ hz,e⟩
    ·rw [aQ] at e
     cases hb:x == y with
     | true=>exact .inl ⟨(y,k),cX,(beq_iff_eq.mp hb).symm,by simpa using hk⟩
     | false=>rw [hb] at e;exact .inr e
   ·rcases jw r _ _ c h with⟨z,hz,e⟩ | e
    ·exact .inl ⟨z,aO _ hz,e⟩
    ·exact .inr e
section
variable {M:Model}{A:Around}{E:Value->Shared->Prop}{s:Shared}
theorem nC {scope:Scope}{globals:Addr}{cl:List (Str×Addr)}{qual:Str}{env:Env}{Q:Env->Shared->Prop}
  (hQ:Q { scope:=scope,locals:=s.heap.objs.size,globals:=globals,cells:=cellsFrom (s.heap.objs.size+1) scope.names cl,qual:=qual,func:=none,code:=env.code,frame:=env.frame,builtins:=env.builtins }
   { s with heap:=pushCells (s.heap.push { cls := .type "dict",data := .dict #[] }) scope.names }) :
  aB M A (newFunctionEnv scope globals cl [] qual none .none (some env)) Q E s:=by
 simp only [newFunctionEnv,CK,if_true]
 refine ae (wpAny_alloc ?_)
 refine ae (wpAny_layCells _ (fun name kind cells=>by cases hkc:kind == de <;> simp [hkc]) _ _ _ _ ?_)
 rw [show ({ s with heap:=s.heap.push { cls := .type "dict",data := .dict #[] } }:Shared).heap.objs.size=s.heap.objs.size+1 from bc ..]
 exact ao hQ
end
section
variable {prog:Program}{w:World}{A:Around}{R:Result->Shared->Prop}{s:Shared}
theorem lg {elt target iter:Expr}{ifs:List Expr}{scope:Scope}{pos:Pos}{it acc:Value}{env:Env} (I:Nat->Shared->Prop)
  (turn : ∀ n s,I n s->aB (model prog w) A (pyNext it) (fun r s₁=>match r with
   | none=>R (.ok .next) s₁
   | some v=>aB (model prog w) A (letOwnedTupleGo target it v) (fun _ s₁=>aB (model prog w) A (assign target env v) (fun _ s₂=>
     aB (model prog w) A (forIn ifs true fun c r=>if r=true then do let ok <- isTrue c env (eval c env);pure (fU ok) else pure (fU r)) (fun ok s₃=>
      if ok=true then aB (model prog w) A (eval elt env) (fun x s₄=>
       aB (model prog w) A (call (.builtin "list.append") [acc,x]) (fun _ s₅ => ∃ m,m < n/\I m s₅) (fun _ _=>False) s₄) (fun _ _=>False) s₃
      else ∃ m,m < n/\I m s₃) (fun _ _=>False) s₂) (fun _ _=>False) s₁) (fun _ _=>False) s₁) (fun _ _=>False) s)
  (n:Nat) (h:I n s) :
  oJ (model prog w) A (.compLoop (.ListComp elt [⟨target,iter,ifs,0⟩] scope pos) 0 it acc env) R s:=by
 refine codeAny_loop rfl I (fun n s hI => ?_) n h
 show aB _ A ((compTurn (.ListComp elt [⟨target,iter,ifs,0⟩] scope pos) 0 it acc env).onRaise (fun x=>do noteFrame x env;theTreesLotGoes x)) _ _ s
 refine wpAny_noted ?_
 rw [compTurn_list]
 refine ae (wpAny_standAt (ae (cR (turn n s hI) (fun r s₁ h₁ => ?_) fun _ _ h'=>h'.elim)))
 cases r with
 | none=>exact ao h₁
 | some v=>
   refine ae (cR h₁ (fun _ s₁ h₁ => ?_) fun _ _ h'=>h'.elim)
   refine ae (cR h₁ (fun _ s₂ h₂=>ae (cR h₂ (fun ok s₃ h₃ => ?_) fun _ _ h'=>h'.elim)) fun _ _ h'=>h'.elim)
   cases ok with
   | false=>exact ao ⟨rfl,h₃⟩
   | true=>
     exact ae (ae (cR h₃ (fun x s₄ h₄=>ae (cR h₄ (fun _ s₅ h₅=>ao (ao ⟨rfl,h₅⟩)) fun _ _ h'=>h'.elim)) fun _ _ h'=>h'.elim))
end
end PySem
end
section
namespace G
open PySem
section
inductive U where
 | non | bl (b:Bool) | int (i:Int) | str (x:Str) | tup (us:List U) | ref (n:Nat) | obj (a:Addr)
 deriving Inhabited
inductive Cell where
 | lst (us:List U)
 | frz (us:List U)
 | dic (kvs:List (L2.Key×U))
 deriving Inhabited
abbrev Sto:=List Cell
abbrev Rho:=List (Option U)
abbrev Res (α:Type):=Option (α×Sto)
abbrev ME:=Rho->Sto->Res U
abbrev MT:=Rho->Sto->Res Bool
abbrev MA:=Rho->Sto->Res (List U)
abbrev MF:=List U->Sto->Res U
noncomputable def bnd {α β:Type} (r:Option (α×Sto)) (k:α->Sto->Option β):Option β:=match r with
 | none=>none
 | some p=>k p.1 p.2
theorem aD {α β:Type}{a:α}{S:Sto}{k:α->Sto->Option β}:bnd (some (a,S)) k=k a S:=rfl
theorem aP {α β:Type}{r:Option (α×Sto)}{k:α->Sto->Option β}{b:β} (h:bnd r k=some b) : ∃ a S,r=some (a,S)/\k a S=some b:=by
 cases r with
 | none=>cases h
 | some p=>exact⟨p.1,p.2,rfl,h⟩
noncomputable def big:Nat:=16777216
noncomputable def getL (S:Sto) (n:Nat):Option (List U):=match S[n]? with
 | some (.lst us)=>some us
 | some (.frz us)=>some us
 | some (.dic _)=>none
 | none=>none
noncomputable def cut {α:Type} (xs:List α) (lo hi:Option Int):List α:=(xs.drop (HT.sIx xs.length 0 lo)).take (HT.sIx xs.length xs.length hi - HT.sIx xs.length 0 lo)
abbrev F2:=U->U->Sto->Res U
noncomputable def bC:F2:=fun x y S=>match x,y with
 | .int i,.int j=>some (.int (i+j),S)
 | .tup xs,.tup ys=>if xs.length+ys.length<=big then some (.tup (xs++ys),S) else none
 | .ref n,.ref m=>match S[n]?,S[m]? with
   | some (.lst xs),some (.lst ys)=>if xs.length+ys.length<=big then some (.ref S.length,S ++ [.lst (xs++ys)]) else none
   | _,_=>none
 | _,_=>none
noncomputable def h9:F2:=fun x y S=>match x,y with
 | .int i,.int j=>some (.int (i - j),S)
 | _,_=>none
noncomputable def jq (i j:Int):Prop:=(-(2 ^ 64) < i/\i < 2 ^ 64)\/(-(2 ^ 64) < j/\j < 2 ^ 64)
noncomputable instance (i j:Int):Decidable (jq i j):=bX _
noncomputable def yn (n:Nat) (k:Int):Prop:=0<=k/\k < 1000/\0 < n/\n < 1000
noncomputable instance (n:Nat) (k:Int):Decidable (yn n k):=bX _
noncomputable def fv:F2:=fun x y S=>match x,y with
 | .int i,.int j=>if jq i j then some (.int (i*j),S) else none
 | .tup xs,.int k=>if yn xs.length k then some (.tup (aE k.toNat xs).flatten,S) else none
 | .ref n,.int k=>match S[n]? with
   | some (.lst xs)=>if yn xs.length k then some (.ref S.length,S ++ [.lst (aE k.toNat xs).flatten]) else none
   | _=>none
 | _,_=>none
noncomputable def qA (j:Int):Prop:=0 < j/\j < 1073741824
noncomputable instance (j:Int):Decidable (qA j):=bX _
noncomputable def oDiv:F2:=fun x y S=>match x,y with
 | .int i,.int j=>if qA j then some (.int (i / j),S) else none
 | _,_=>none
noncomputable def oMod:F2:=fun x y S=>match x,y with
 | .int i,.int j=>if 0 < j then some (.int (i % j),S) else none
 | _,_=>none
noncomputable def Ft (i j:Int):Prop:=0<=j/\j<=1000000/\i.natAbs < 2 ^ 64
noncomputable instance (i j:Int):Decidable (Ft i j):=bX _
noncomputable def ue:F2:=fun x y S=>match x,y with
 | .int i,.int j=>if Ft i j then some (.int (i ^ j.toNat),S) else none
 | _,_=>none
noncomputable def wj (p:Int->Int->Bool):F2:=fun x y S=>match x,y with
 | .int i,.int j=>some (.bl (p i j),S)
 | _,_=>none
abbrev oLt:F2:=wj fun i j=>decide (i < j)
abbrev oLe:F2:=wj fun i j=>decide (i<=j)
abbrev oGt:F2:=wj fun i j=>decide (j < i)
abbrev oGe:F2:=wj fun i j=>decide (j<=i)
noncomputable def dr (S:Sto):U->Option (List U)
 | .tup us=>some us
 | .ref n=>getL S n
 | _=>none
noncomputable def dz {α β:Type} (f:α->Option β):List α->Option (List β)
 | []=>some []
 | x::xs=>(f x).bind fun y=>(dz f xs).map fun ys=>y::ys
noncomputable def toD (S:Sto):Nat->U->Option PyData
 | 0,_=>none
 | _+1,.non=>some .none
 | _+1,.bl b=>some (.bool b)
 | _+1,.int i=>some (.int i)
 | _+1,.str x=>if gZ (.str x)=true then some (.str x) else none
 | f+1,.tup us=>(dz (toD S f) us).map .tuple
 | f+1,.ref n=>(getL S n).bind fun us=>(dz (toD S f) us).map .list
 | _+1,.obj _=>none
noncomputable def eqU (S:Sto) (x y:U):Option Bool:=(toD S 40 x).bind fun a=>(toD S 40 y).map fun b=>jG a b
noncomputable def oEq:F2:=fun x y S=>(eqU S x y).map fun b=>(.bl b,S)
noncomputable def oNe:F2:=fun x y S=>(eqU S x y).map fun b=>(.bl (!b),S)
noncomputable def keyOf:U->Option L2.Key
 | .int i=>some (.inl i)
 | .str x=>some (.inr x)
 | _=>none
noncomputable def qp (kvs:List (L2.Key×U)) (k:L2.Key):Option U:=(kvs.find? fun kv=>decide (kv.1=k)).map (·.2)
noncomputable def AL (kvs:List (L2.Key×U)) (k:L2.Key) (u:U):List (L2.Key×U):=
 if (kvs.any fun kv=>decide (kv.1=k))=true then kvs.map (fun kv=>if kv.1=k then (kv.1,u) else kv) else kvs ++ [(k,u)]
noncomputable def fR (S:Sto):U->Option (List (L2.Key×U))
 | .ref n=>match S[n]? with
   | some (.dic kvs)=>some kvs
   | _=>none
 | _=>none
noncomputable def oIx:F2:=fun x y S=>match fR S x with
 | some kvs=>(keyOf y).bind fun k=>(qp kvs k).map fun u=>(u,S)
 | none=>match y with
   | .int i=>((dr S x).bind fun us=>L2.atI us i).map fun u=>(u,S)
   | _=>none
noncomputable def ab (i:Nat):ME:=fun ρ S=>match ρ[i]? with
 | some (some u)=>some (u,S)
 | _=>none
noncomputable def mC (u:U):ME:=fun _ S=>some (u,S)
noncomputable def m1 (f:U->Sto->Res U) (a:ME):ME:=fun ρ S=>bnd (a ρ S) fun x S1=>f x S1
noncomputable def m2 (f:F2) (a b:ME):ME:=fun ρ S=>bnd (a ρ S) fun x S1=>bnd (b ρ S1) fun y S2=>f x y S2
noncomputable def af:MA:=fun _ S=>some ([],S)
noncomputable def aa (a:ME) (r:MA):MA:=fun ρ S=>bnd (a ρ S) fun x S1=>bnd (r ρ S1) fun xs S2=>some (x::xs,S2)
noncomputable def bA (a:MA):ME:=fun ρ S=>bnd (a ρ S) fun xs S1=>if xs.length<=big then some (.tup xs,S1) else none
noncomputable def b4 (a:MA):ME:=fun ρ S=>bnd (a ρ S) fun xs S1=>if xs.length<=big then some (.ref S1.length,S1 ++ [.lst xs]) else none
noncomputable def mFn (f:MF) (a:MA):ME:=fun ρ S=>bnd (a ρ S) fun xs S1=>f xs S1
noncomputable def eK:U->Sto->Res U:=fun x S=>match x with
 | .int i=>some (.int (-i),S)
 | _=>none
noncomputable def mK:Option ME->Rho->Sto->Res (Option Int)
 | none=>fun _ S=>some (none,S)
 | some a=>fun ρ S=>bnd (a ρ S) fun x S1=>match x with
   | .int i=>some (some i,S1)
   | _=>none
noncomputable def mSl (a:ME) (lo hi:Option ME):ME:=fun ρ S=>bnd (a ρ S) fun x S1=>bnd (mK lo ρ S1) fun l S2=>bnd (mK hi ρ S2) fun h S3=>match x with
 | .tup us=>some (.tup (cut us l h),S3)
 | .ref n=>(getL S3 n).map fun us=>(.ref S3.length,S3 ++ [.lst (cut us l h)])
 | _=>none
noncomputable def cOf (a:ME):MT:=fun ρ S=>bnd (a ρ S) fun x S1=>match x with
 | .bl b=>some (b,S1)
 | _=>none
noncomputable def j8 (a b:MT):MT:=fun ρ S=>bnd (a ρ S) fun k S1=>if k then b ρ S1 else some (false,S1)
noncomputable def cOr (a b:MT):MT:=fun ρ S=>bnd (a ρ S) fun k S1=>if k then some (true,S1) else b ρ S1
noncomputable def lW (a:MT):MT:=fun ρ S=>bnd (a ρ S) fun k S1=>some (!k,S1)
noncomputable def cTT:MT:=fun _ S=>some (true,S)
inductive Src where
 | imm (us:List U)
 | mut (n:Nat)
 | enl (n:Nat)
 | zlt (n:Nat) (us:List U)
abbrev MI:=Rho->Sto->Option (Src×Sto)
noncomputable def okR (i:Int):Prop := -(2 ^ 62)<=i/\i < 2 ^ 62
noncomputable instance (i:Int):Decidable (okR i):=bX _
noncomputable def bg (i:Int) (n:Nat):List U:=(aA n).map fun (k:Nat) => .int (i+k)
noncomputable def iR1 (a:MA):MI:=fun ρ S=>bnd (a ρ S) fun xs S1=>match xs with
 | [.int j]=>if okR j then some (.imm (bg 0 j.toNat),S1) else none
 | _=>none
noncomputable def iR2 (a:MA):MI:=fun ρ S=>bnd (a ρ S) fun xs S1=>match xs with
 | [.int i,.int j]=>if okR i/\okR j then some (.imm (bg i (j - i).toNat),S1) else none
 | _=>none
noncomputable def cZ (a:ME):MI:=fun ρ S=>bnd (a ρ S) fun x S1=>match x with
 | .tup us=>some (.imm us,S1)
 | .ref n=>(getL S1 n).map fun _=>(.mut n,S1)
 | _=>none
noncomputable def mD (us:List U):List U:=us.mapIdx fun i u => .tup [.int i,u]
noncomputable def pV (a:MA):MI:=fun ρ S=>bnd (a ρ S) fun xs S1=>match xs with
 | [.tup us]=>some (.imm (mD us),S1)
 | [.ref n]=>(getL S1 n).map fun _=>(.enl n,S1)
 | _=>none
noncomputable def gF (t:MT) (e:ME) (ρ:Rho):List U->List U->Sto->Res (List U)
 | [],acc,S=>some (acc,S)
 | x::xs,acc,S=>bnd (t (ρ ++ [some x]) S) fun k S1=>if k then bnd (e (ρ ++ [some x]) S1) fun y S2=>gF t e ρ xs (acc ++ [y]) S2 else gF t e ρ xs acc S1
noncomputable def kS (t:MT) (e:ME) (ρ:Rho) (n:Nat):Nat->Nat->List U->Sto->Res (List U)
 | 0,_,_,_=>none
 | f+1,i,acc,S=>(getL S n).bind fun us=>match us[i]? with
   | none=>some (acc,S)
   | some x=>bnd (t (ρ ++ [some x]) S) fun k S1=>if k then bnd (e (ρ ++ [some x]) S1) fun y S2=>kS t e ρ n f (i+1) (acc ++ [y]) S2 else kS t e ρ n f (i+1) acc S1
noncomputable def fuel:Nat:=100000
noncomputable def Fi (t:MT) (e:ME) (ρ:Rho):Src->Sto->Res (List U)
 | .imm us,S=>gF t e ρ us [] S
 | .mut n,S=>kS t e ρ n fuel 0 [] S
 | _,_=>none
noncomputable def cU (it:MI) (t:MT) (e:ME):ME:=fun ρ S=>bnd (it ρ S) fun src S1=>bnd (Fi t e ρ src S1) fun ys S2=>if ys.length < big then some (.ref S2.length,S2 ++ [.lst ys]) else none
inductive Fl where
 | nx | rt (u:U) | bk | ct
abbrev MS:=Rho->Sto->Option (Fl×Rho×Sto)
noncomputable def dP:MS:=fun ρ S=>some (.nx,ρ,S)
noncomputable def bf (a b:MS):MS:=fun ρ S=>match a ρ S with
 | some (.nx,ρ1,S1)=>b ρ1 S1
 | r=>r
noncomputable def bB (i:Nat) (e:ME):MS:=fun ρ S=>bnd (e ρ S) fun x S1=>some (.nx,ρ.set i (some x),S1)
noncomputable def mT (o i e:ME):MS:=fun ρ S=>bnd (e ρ S) fun x S1=>bnd (o ρ S1) fun p S2=>bnd (i ρ S2) fun j S3=>match p with
 | .ref n=>match S3[n]? with
   | some (.lst us)=>(match j with
     | .int k=>(L2.ixN us.length k).map fun m=>(.nx,ρ,S3.set n (.lst (us.set m x)))
     | _=>none)
   | some (.dic kvs)=>(keyOf j).bind fun k=>if kvs.length < big then some (.nx,ρ,S3.set n (.dic (AL kvs k x))) else none
   | _=>none
 | _=>none
noncomputable def dj (e:ME):MS:=fun ρ S=>bnd (e ρ S) fun _ S1=>some (.nx,ρ,S1)
noncomputable def dh (e:ME):MS:=fun ρ S=>bnd (e ρ S) fun x S1=>some (.rt x,ρ,S1)
noncomputable def sIf (c:MT) (a b:MS):MS:=fun ρ S=>bnd (c ρ S) fun k S1=>if k then a ρ S1 else b ρ S1
noncomputable def aft (r:Option (Fl×Rho×Sto)) (k:MS):Option (Fl×Rho×Sto):=match r with
 | some (.nx,ρ1,S1)=>k ρ1 S1
 | some (.ct,ρ1,S1)=>k ρ1 S1
 | some (.bk,ρ1,S1)=>some (.nx,ρ1,S1)
 | r=>r
noncomputable def pQ (i:Nat) (b:MS):List U->MS
 | [],ρ,S=>some (.nx,ρ,S)
 | x::xs,ρ,S=>aft (b (ρ.set i (some x)) S) (pQ i b xs)
noncomputable def forL (i:Nat) (b:MS) (n:Nat):Nat->Nat->MS
 | 0,_,_,_=>none
 | f+1,k,ρ,S=>(getL S n).bind fun us=>match us[k]? with
   | none=>some (.nx,ρ,S)
   | some x=>aft (b (ρ.set i (some x)) S) (forL i b n f (k+1))
noncomputable def LA (i:Nat) (b:MS):Src->MS
 | .imm us=>pQ i b us
 | .mut n=>forL i b n fuel 0
 | _=>fun _ _=>none
noncomputable def eB (i:Nat) (it:MI) (b:MS):MS:=fun ρ S=>bnd (it ρ S) fun src S1=>LA i b src ρ S1
noncomputable def whl (c:MT) (b:MS):Nat->MS
 | 0,_,_=>none
 | f+1,ρ,S=>bnd (c ρ S) fun k S1=>if k then aft (b ρ S1) (whl c b f) else some (.nx,ρ,S1)
noncomputable def j6 (c:MT) (b:MS):MS:=whl c b fuel
noncomputable def run (k n:Nat) (b:MS):MF:=fun us S=>if us.length=k then match b (us.map some++aE (n - k) none) S with
  | some (.rt u,_,S1)=>some (u,S1)
  | some (.nx,_,S1)=>some (.non,S1)
  | _=>none
 else none
noncomputable def bq:MF:=fun us S=>match us with
 | [x]=>(match fR S x with
   | some kvs=>some (.int kvs.length,S)
   | none=>(dr S x).map fun xs=>(.int xs.length,S))
 | _=>none
noncomputable def b5:MF:=fun us S=>match us with
 | [x]=>(dr S x).map fun xs=>(.tup xs,S)
 | _=>none
noncomputable def mB:MF:=fun us S=>match us with
 | [x]=>(dr S x).map fun xs=>(.ref S.length,S ++ [.lst xs])
 | _=>none
noncomputable def oI:MF:=fun us S=>match us with
 | [.int i,.int j]=>some (.int (if j > i then j else i),S)
 | _=>none
noncomputable def As:U->Option Int
 | .int i=>some i
 | _=>none
noncomputable def xM:List Int->Option Int
 | []=>none
 | x::xs=>match xM xs with
   | none=>some x
   | some m=>some (if m < x then m else x)
noncomputable def o5:MF:=fun us S=>match us with
 | [.int i,.int j]=>some (.int (if j < i then j else i),S)
 | [.ref n]=>((getL S n).bind fun xs=>(dz As xs).bind xM).map fun m=>(.int m,S)
 | _=>none
noncomputable def fo (it:MI):ME:=fun ρ S=>bnd (it ρ S) fun src S1=>match src with
 | .imm us=>if us.length<=big then some (.ref S1.length,S1 ++ [.lst us]) else none
 | _=>none
noncomputable def my (it:MI):ME:=fun ρ S=>bnd (it ρ S) fun src S1=>match src with
 | .imm us=>if us.length<=big then some (.tup us,S1) else none
 | _=>none
noncomputable def tyU (S:Sto):U->Option String
 | .non=>some "NoneType"
 | .bl _=>some "bool"
 | .int _=>some "int"
 | .str _=>some "str"
 | .tup _=>some "tuple"
 | .ref n=>match S[n]? with
   | some (.lst _)=>some "list"
   | some (.dic _)=>some "dict"
   | _=>none
 | .obj _=>none
noncomputable def Ga (d:PyData):Prop:=d.showable=true/\d.shown.length<=sizeLine
noncomputable instance (d:PyData):Decidable (Ga d):=bX _
noncomputable def En (t T:String):Bool:=t == T||(t == "bool"&&T == "int")
noncomputable def fg (T:String):U->Sto->Res U:=fun x S=>(tyU S x).map fun t=>(.bl (En t T),S)
noncomputable def mML (f:Nat->List U->Sto->Res U) (o:ME) (a:MA):ME:=fun ρ S=>bnd (o ρ S) fun p S1=>match p with
 | .ref n=>(getL S1 n).bind fun _=>bnd (a ρ S1) fun xs S2=>f n xs S2
 | _=>none
noncomputable def cn:Nat->List U->Sto->Res U:=fun n xs S=>match xs with
 | [x]=>match S[n]? with
   | some (.lst us)=>if us.length < big then some (.non,S.set n (.lst (us ++ [x]))) else none
   | _=>none
 | _=>none
noncomputable def jy:Nat->List U->Sto->Res U:=fun n xs S=>match xs with
 | [.int i]=>match S[n]? with
   | some (.lst us)=>if okR i then (L2.ixN us.length i).bind fun j=>us[j]?.map fun y=>(y,S.set n (.lst (us.eraseIdx j))) else none
   | _=>none
 | _=>none
noncomputable def pO:Nat->List U->Sto->Res U:=fun n xs S=>match xs with
 | []=>match S[n]? with
   | some (.lst us)=>us[us.length - 1]?.map fun y=>(y,S.set n (.lst us.dropLast))
   | _=>none
 | _=>none
noncomputable def mMT (f:List U->List U->Sto->Res U) (o:ME) (a:MA):ME:=fun ρ S=>bnd (o ρ S) fun p S1=>match p with
 | .tup us=>bnd (a ρ S1) fun xs S2=>f us xs S2
 | _=>none
end
end G
end
section
namespace L2
open PySem PySem.Spec PyProof.Rows
noncomputable def blk (X:Cx) (N':List Str) (scope:Scope) (s₂:Shared) (H₂:Hp) (fp:List Addr):Cx:=
 { X with
  N:=N'
  s₀:=s₂
  H₀:=H₂
  env:={ scope:=relabel scope X.env,locals:=s₂.heap.objs.size+1,globals:=X.env.globals,cells:=cellsFrom (s₂.heap.objs.size+2) scope.names (iM X.env scope.names []),qual:=X.env.qual,func:=none,code:=X.env.code,frame:=X.env.frame,builtins:=X.env.builtins }
  outer:=X.stack
  ex:=fp
  fn:=fun x=>scope.names.lookup x == some .cell
  pn := []
  xe:=fun _ _=>False }
structure gn (X:Cx) (N':List Str) (scope:Scope) (xs:List Str):Prop where
 kind:scope.kind = .function
 nd:(scope.names.map (·.1)).Nodup
 free : ∀ y∈scope.names,y.2 = .free->X.env.kindOf y.1=some .cell\/X.env.kindOf y.1=some .free
 own : ∀ x∈xs,scope.names.lookup x=some .local\/scope.names.lookup x=some .cell
 ndN:N'.Nodup
 len:N'.length=X.N.length+xs.length
 last : ∀ (j:Nat) (x:Str),xs[j]? = some x->N'[X.N.length+j]? = some x
 vis : ∀ (i:Nat) (y:Str),i < X.N.length->N'[i]? = some y->(scope.names.lookup y=some .local\/scope.names.lookup y=some .cell\/scope.names.lookup y=some .free)->X.N[i]? = some y/\scope.names.lookup y=some .free
theorem f9 {env:Env} : ∀ {names:List (Str×NameKind)}{x:Str}{k:NameKind},
  (names.map fun (n,k)=>if (k == br&&env.scope.kind == .function&&env.kindOf n == some .cell) then (n,de) else (n,k)).lookup x=some k ->
  names.lookup x=some k\/(names.lookup x=some .free/\k = .cell)
 | [],_,_,h=>by simp at h
 | (n,k')::r,x,k,h=>by
   have ih := @f9 env r x k
   have h':n9 x ((if (k' == br&&env.scope.kind == .function&&env.kindOf n == some .cell)=true then (n,de) else (n,k'))::(r.map fun (n,k)=>if (k == br&&env.scope.kind == .function&&env.kindOf n == some .cell) then (n,de) else (n,k)))=some k:=h
   by_cases hc:(k' == br&&env.scope.kind == .function&&env.kindOf n == some .cell)=true
   ·rw [if_pos hc] at h'
    rw [aQ] at h' ⊢
    cases hx:x == n with
    | true=>
      rw [hx] at h'
      have hk:k' = .free:=by
       rw [aw,aw] at hc
       simpa using hc.1.1
      subst hk
      exact .inr ⟨rfl,(bw h').symm⟩
    | false=>rw [hx] at h';exact ih h'
   ·rw [if_neg hc] at h'
    rw [aQ] at h' ⊢
    cases hx:x == n with
    | true=>rw [hx] at h';exact .inl h'
    | false=>rw [hx] at h';exact ih h'
theorem iB {env:Env} : ∀ {names:List (Str×NameKind)}{x:Str},names.lookup x=some .cell ->
  (names.map fun (n,k)=>if (k == br&&env.scope.kind == .function&&env.kindOf n == some .cell) then (n,de) else (n,k)).lookup x=some .cell
 | [],_,h=>by simp at h
 | (n,k')::r,x,h=>by
   have ih := @iB env r x
   show n9 x ((if (k' == br&&env.scope.kind == .function&&env.kindOf n == some .cell)=true then (n,de) else (n,k'))::_)=_
   rw [aQ] at h
   cases hx:x == n with
   | true=>
     rw [hx] at h
     cases h
     simp [aQ,hx]
   | false=>
     rw [hx] at h
     by_cases hc:(k' == br&&env.scope.kind == .function&&env.kindOf n == some .cell)=true
     ·rw [if_pos hc];simp only [aQ,hx];exact ih h
     ·rw [if_neg hc];simp only [aQ,hx];exact ih h
theorem j4 {env:Env} : ∀ {names:List (Str×NameKind)}{x:Str},names.lookup x=some .free ->
  (names.map fun (n,k)=>if (k == br&&env.scope.kind == .function&&env.kindOf n == some .cell) then (n,de) else (n,k)).lookup x=some .cell \/
  (names.map fun (n,k)=>if (k == br&&env.scope.kind == .function&&env.kindOf n == some .cell) then (n,de) else (n,k)).lookup x=some .free
 | [],_,h=>by simp at h
 | (n,k')::r,x,h=>by
   have ih := @j4 env r x
   show n9 x ((if (k' == br&&env.scope.kind == .function&&env.kindOf n == some .cell)=true then (n,de) else (n,k'))::_)=_\/n9 x ((if (k' == br&&env.scope.kind == .function&&env.kindOf n == some .cell)=true then (n,de) else (n,k'))::_)=_
   rw [aQ] at h
   by_cases hc:(k' == br&&env.scope.kind == .function&&env.kindOf n == some .cell)=true
   ·rw [if_pos hc]
    cases hx:x == n with
    | true=>exact .inl (by simp [aQ,hx])
    | false=>
      rw [hx] at h
      simp only [aQ,hx];exact ih h
   ·rw [if_neg hc]
    cases hx:x == n with
    | true=>rw [hx] at h;cases h;exact .inr (by simp [aQ,hx])
    | false=>
      rw [hx] at h
      simp only [aQ,hx];exact ih h
theorem nH {env:Env} : ∀ {names:List (Str×NameKind)}{x:Str},names.lookup x=some .globalImplicit ->
  (names.map fun (n,k)=>if (k == br&&env.scope.kind == .function&&env.kindOf n == some .cell) then (n,de) else (n,k)).lookup x=some .globalImplicit
 | [],_,h=>by simp at h
 | (n,k')::r,x,h=>by
   have ih := @nH env r x
   show n9 x ((if (k' == br&&env.scope.kind == .function&&env.kindOf n == some .cell)=true then (n,de) else (n,k'))::_)=_
   rw [aQ] at h
   cases hx:x == n with
   | true=>
     rw [hx] at h
     cases h
     simp [aQ,hx]
   | false=>
     rw [hx] at h
     by_cases hc:(k' == br&&env.scope.kind == .function&&env.kindOf n == some .cell)=true
     ·rw [if_pos hc];simp only [aQ,hx];exact ih h
     ·rw [if_neg hc];simp only [aQ,hx];exact ih h
theorem jL : ∀ {names:List (Str×NameKind)}{x:Str}{k:NameKind},(names.map (·.1)).Nodup->(x,k)∈names->names.lookup x=some k
 | [],_,_,_,h=>by simp at h
 | (n,k')::r,x,k,nd,h=>by
   rw [bu,eh] at nd
   rw [aQ]
   rcases aK.mp h with e | h2
   ·cases e;simp
   ·have hne:x≠n:=by
     intro e
     subst e
     exact nd.1 (bI.mpr ⟨(x,k),h2,rfl⟩)
    have hb:(x == n)=false:=beq_eq_false_iff_ne.mpr hne
    rw [hb]
    exact jL nd.2 h2
theorem jQ {X:Cx}{scope:Scope}{n:Nat} (hf : ∀ y∈scope.names,y.2 = .free -> ∃ c,X.env.cells.lookup y.1=some c) {x:Str}{c:Addr}
  (h:(cellsFrom n scope.names (iM X.env scope.names [])).lookup x=some c):(cellsFrom n scope.names []).lookup x=some c\/X.env.cells.lookup x=some c:=by
 rw [eN,pH] at h
 cases q:(cellsFrom n scope.names []).lookup x with
 | some d=>rw [q] at h;exact .inl h
 | none=>
   rw [q] at h
   have h':(iM X.env scope.names []).lookup x=some c:=h
   rcases nr scope.names [] hf x c h' with e | e
   ·exact .inr e
   ·cases e
section
variable {X:Cx}{pins:List (Addr×Obj)}{σ:St}{H₂:Hp}{s₂:Shared}{N':List Str}{scope:Scope}{xs:List Str}{fp:List Addr}
theorem gn.frees (C:gn X N' scope xs) (ok:X.Ok) : ∀ y∈scope.names,y.2 = .free -> ∃ c,X.env.cells.lookup y.1=some c:=fun y hy e=>ok.has y.1 (C.free y hy e)
theorem Es (C:gn X N' scope xs) {y:Str}{n:Nat} (h:scope.names.lookup y=some .cell\/scope.names.lookup y=some .free) : ∃ c,(cellsFrom n scope.names (iM X.env scope.names [])).lookup y=some c:=by
 refine fX.mp (gJ scope.names n _ ?_)
 rcases h with h | h
 ·exact .inl h
 ·exact .inr (nK scope.names [] (.inl h))
theorem Ho (I:Inv X pins σ H₂ s₂) (C:gn X N' scope xs) (hfp : ∀ b∈fp,q9 X pins H₂ b) (hlt : ∀ b∈fp,b < s₂.heap.objs.size):(blk X N' scope s₂ H₂ fp).Ok:=by
 have own : ∀ y c,(cellsFrom (s₂.heap.objs.size+2) scope.names []).lookup y=some c->s₂.heap.objs.size+2<=c:=fun y c h=>by
  have ok:=cellsFrom_ok scope.names ((s₂.heap.push default).push default) (s₂.heap.objs.size+2) [] ⟨fun _ _ hm=>(nomatch hm),i4⟩ (by rw [bc,bc];exact aq _)
  rw [bc,bc] at ok
  exact (ok.empty y c (bZ h)).2
 have apart:(cellsFrom (s₂.heap.objs.size+2) scope.names []).Pairwise fun x y=>x.2≠y.2:=by
  have ok:=cellsFrom_ok scope.names ((s₂.heap.push default).push default) (s₂.heap.objs.size+2) [] ⟨fun _ _ hm=>(nomatch hm),i4⟩ (by rw [bc,bc];exact aq _)
  rw [bc,bc] at ok
  exact ok.apart
 have old : ∀ y c,X.env.cells.lookup y=some c->c < s₂.heap.objs.size:=fun y c h=>by obtain⟨v,z⟩:=I.cell y c h;exact z.lt
 refine⟨I.ok.mod,C.kind,I.ok.glob,I.ok.blt,dc _,fun y z c h1 h2 => ?_,fun y hy => ?_,fun y c hy h => ?_,I.ok.hd,I.ok.frames,.inl rfl,fun b hb=>⟨?_,fun y c h z => ?_⟩,I.bs,be I.ok.bsz I.sz,fun b o e hb => ?_,fun b hb z => ?_,I.stack,I.stkFree⟩
 ·rcases jQ (C.frees I.ok) h1 with a | a <;> rcases jQ (C.frees I.ok) h2 with b | b
  ·exact name_of_addr apart (bZ a) (bZ b)
  ·exact absurd (ai (old z c b) (be (mn _ 2) (own y c a))) (cj _)
  ·exact absurd (ai (old y c a) (be (mn _ 2) (own z c b))) (cj _)
  ·exact I.ok.inj y z c a b
 ·have hy:(relabel scope X.env).names.lookup y=some .cell\/(relabel scope X.env).names.lookup y=some .free:=hy
  refine Es C ?_
  rcases hy with hy | hy
  ·rcases f9 hy with e | ⟨e,_⟩
   ·exact .inl e
   ·exact .inr e
  ·rcases f9 hy with e | ⟨e,_⟩
   ·exact .inr e
   ·exact .inr e
 ·have hy':scope.names.lookup y=some .cell:=by simpa [blk] using hy
  have h':(cellsFrom (s₂.heap.objs.size+2) scope.names (iM X.env scope.names [])).lookup y=some c:=h
  rw [eN,pH] at h'
  have q:=fX.mp (gJ scope.names (s₂.heap.objs.size+2) [] (.inl hy'))
  obtain⟨d,hd⟩:=q
  rw [hd] at h'
  have e:d=c:=bw h'
  subst e
  have:=own y d hd
  show s₂.heap.objs.size<=d
  omega
 ·have:=hlt b hb
  exact aG (b7 this)
 ·have:=hlt b hb
  rcases jQ (C.frees I.ok) h with a | a
  ·exact absurd (ai this (be (mn _ 2) (z▸own y c a))) (cj _)
  ·exact (hfp b hb).2.2.2.2.1 y c a z
 ·have z:=(hfp b hb).2.2.2.1
  rcases z with z | z
  ·exact I.ok.noex b o e z
  ·exact absurd (ai (aC e) (be I.ok.bsz z)) (cj _)
 ·rcases aK.mp (I.stkSub b z) with e | e
  ·exact (hfp b hb).2.1 e
  ·exact (hfp b hb).2.2.1 e
theorem zj (I:Inv X pins σ H₂ s₂) (C:gn X N' scope xs) (hfp : ∀ b∈fp,q9 X pins H₂ b) (hlt : ∀ b∈fp,b < s₂.heap.objs.size) {lo do':Obj} (hdo:do'.data = .dict #[]) (hdo2:do'.isFreed=false) (hlo:lo.isFreed=false) :
  Inv (blk X N' scope s₂ H₂ fp) [] (σ++aE xs.length none) H₂ { s₂ with heap:=pushCells ((s₂.heap.push lo).push do') scope.names }:=by
 have sz:((s₂.heap.push lo).push do').objs.size=s₂.heap.objs.size+2:=by rw [bc,bc]
 have okc:=cellsFrom_ok scope.names ((s₂.heap.push lo).push do') (s₂.heap.objs.size+2) [] ⟨fun _ _ hm=>(nomatch hm),i4⟩ (by rw [sz];exact aq _)
 rw [sz] at okc
 have kp : ∀ b o,s₂.heap.get? b=some o->(pushCells ((s₂.heap.push lo).push do') scope.names).get? b=some o:=fun b o e=>pushCells_keeps _ _ b o (ak _ (ak _ e))
 have hL:(pushCells ((s₂.heap.push lo).push do') scope.names).get? (s₂.heap.objs.size+1)=some do':=pushCells_keeps _ _ _ _ (by
  have e:s₂.heap.objs.size+1=(s₂.heap.push lo).objs.size:=by rw [bc]
  rw [e];exact av _ hdo2)
 refine⟨Ho I C hfp hlt,rfl,I.bare,Un.kept kp,⟨fun _=>none,⟨do',#[],_,hL,hdo,fun e he=>by simp at he,fun _=>rfl⟩,fun i y v h1 h2 h3 => ?_⟩,fun y c h => ?_,I.hok.fresh (dc _),fun y c h => ?_,fun p hp=>absurd (show p∈([]:List (Addr×Obj)) from hp) (by simp),I.hok.kept kp,?_⟩
 ·have hi:i < X.N.length:=by
   by_cases hi:i < X.N.length
   ·exact hi
   ·rw [ax (by rw [I.len];exact eP (by assumption)),gK] at h2
    split at h2 <;> simp at h2
  rw [aS (by rw [I.len];exact hi)] at h2
  have hv:scope.names.lookup y=some .local\/scope.names.lookup y=some .cell\/scope.names.lookup y=some .free:=by
   rcases h3 with h3 | h3 | h3 <;> rcases f9 h3 with e | ⟨e,e'⟩
   ·exact .inl e
   ·cases e'
   ·exact .inr (.inl e)
   ·exact .inr (.inr e)
   ·exact .inr (.inr e)
   ·cases e'
  obtain⟨hN,hfr⟩:=C.vis i y hi h1 hv
  have hmem:(y,br)∈scope.names:=bZ hfr
  have hk:=C.free _ hmem rfl
  have vis:Vis X.env.scope y := .inr hk
  obtain⟨m,hn,hl⟩:=I.loc
  obtain⟨u,r,l⟩:=hl i y v hN h2 vis
  refine⟨u,r,.inr ⟨j4 hfr,?_⟩⟩
  rcases l with⟨hk',_⟩ | ⟨_,c,hc,hcell⟩
  ·rcases hk with hk | hk
   ·rw [hk] at hk';cases hk'
   ·rw [hk] at hk';cases hk'
  ·have nown:(cellsFrom (s₂.heap.objs.size+2) scope.names []).lookup y=none:=by
    cases q:(cellsFrom (s₂.heap.objs.size+2) scope.names []).lookup y with
    | none=>rfl
    | some d=>
      rcases jw scope.names _ _ d q with⟨z,hz,e1,e2⟩ | e
      ·obtain⟨z1,z2⟩:=z
       simp only at e1 e2
       subst e1;subst e2
       exact absurd (jL C.nd hz) (by rw [hfr];simp)
      ·cases e
   obtain⟨d,hd⟩:=fX.mp (nK (env:=X.env) (x:=y) scope.names [] (.inl hfr))
   have hd':X.env.cells.lookup y=some d:=by
    rcases nr scope.names [] (C.frees I.ok) y d hd with e | e
    ·exact e
    ·cases e
   rw [hc] at hd';cases hd'
   refine⟨c,?_,hcell.keeps kp⟩
   show (cellsFrom (s₂.heap.objs.size+2) scope.names (iM X.env scope.names [])).lookup y=some c
   rw [eN,pH,nown]
   exact hd
 ·rcases jQ (C.frees I.ok) h with a | a
  ·exact⟨none,(okc.empty y c (bZ a)).1⟩
  ·obtain⟨v,z⟩:=I.cell y c a
   exact⟨v,z.keeps kp⟩
 ·rcases jQ (C.frees I.ok) h with a | a
  ·exact I.hok.fresh (be (mn _ 2) (okc.empty y c (bZ a)).2)
  ·exact I.freeC y c a
 ·show (σ++aE xs.length none).length=N'.length
  rw [aI,iD,I.len,C.len]
end
noncomputable def PTs (X:Cx) (ifs:List Expr) (t:TT):Prop:=
 ∀ (pins:List (Addr×Obj)) (s:Shared) (σ:St) (H:Hp) (Q:Bool->Hp->Prop),Inv X pins σ H s->t σ H Q ->
  aB (model X.prog X.w) X.A (forIn ifs true fun c r=>if r=true then do let ok <- isTrue c X.env (eval c X.env);pure (fU ok) else pure (fU r)) (TP X pins σ Q) X.xe s
theorem Ej {X:Cx}:PTs X [] (fun _ H Q=>Q true H):=fun pins s σ H Q I h=>by
 rw [List.forIn_nil]
 exact ao ⟨H,I,h⟩
theorem DJ {X:Cx}{c:Expr}{t:TT} (h:PT X c t):PTs X [c] t:=fun pins s σ H Q I q=>by
 rw [List.forIn_cons]
 simp only [if_true]
 refine ae (ae (thn (h pins s σ H Q I q) fun b s1 e=>ao ?_))
 show aB _ _ (forIn [] b _) _ _ _
 rw [List.forIn_nil]
 exact ao e
noncomputable def oO (wi:TI) (tt:TT) (te:TE):TE:=fun σ H Q=>wi σ H fun J H1 => ∃ W:Nat->Nat->List V->Hp->Prop,(∃ m,W 0 m [] H1) /\ ∀ i m ys H,W i m ys H->ys.length < sizeLine /\
 ((J.stop i H /\ ∀ D,H D=none->Q (.ref D) (upd H D (.lst ys))) \/
  (J.go i H /\ ∀ x H',J.yld i H x H'->tt (σ ++ [some x]) H' fun b H3=>if b=true then te (σ ++ [some x]) H3 fun y H4 => ∃ m',m' < m/\W (i+1) m' (ys ++ [y]) H4 else ∃ m',m' < m/\W (i+1) m' ys H3))
theorem HOk.track {P:Program}{w:World}{H:Hp}{h:Heap}{a:Addr}{o:HO} (x:HOk P w H h) (hn:H a=none) (new:dJ P w (upd H a o) h a o):HOk P w (upd H a o) h:=fun b u e=>by
 by_cases hb:b=a
 ·subst hb;rw [cJ] at e;cases e;exact new
 ·rw [bP hb] at e
  exact (x b u e).stay (fun c v _ q=>q) (fun c q=>by rw [bP (bD q hn)];exact q) fun c xs q=>by rw [bP (bD q hn)];exact q
theorem HOk.but {P:Program}{w:World}{H:Hp}{h h':Heap}{a:Addr} (x:HOk P w H h) (hn:H a=none) (k : ∀ b o,b≠a->h.get? b=some o->h'.get? b=some o):HOk P w H h':=fun b u e=>by
 refine (x b u e).stay (fun c v hc q=>k c v ?_ q) (fun _ q=>q) fun _ _ q=>q
 rcases hc with rfl | hc
 ·exact bD e hn
 ·exact bD hc hn
noncomputable def xk (gT:V->Hp->(St->Hp->Prop)->Prop) (wi:TI) (tt:TT) (te:TE):TE:=fun σ H Q=>wi σ H fun J H1 => ∃ W:Nat->Nat->List V->Hp->Prop,(∃ m,W 0 m [] H1) /\ ∀ i m ys H,W i m ys H->ys.length < sizeLine /\
 ((J.stop i H /\ ∀ D,H D=none->Q (.ref D) (upd H D (.lst ys))) \/
  (J.go i H /\ ∀ x H',J.yld i H x H'->gT x H' fun τ H2=>tt (σ++τ) H2 fun b H3=>if b=true then te (σ++τ) H3 fun y H4 => ∃ m',m' < m/\W (i+1) m' (ys ++ [y]) H4 else ∃ m',m' < m/\W (i+1) m' ys H3))
noncomputable def gT1:V->Hp->(St->Hp->Prop)->Prop:=fun v H Q=>Q [some v] H
section
variable {X:Cx}{N':List Str}{scope:Scope}{x:Str}{xs:List Str}{tg:Expr}{gT:V->Hp->(St->Hp->Prop)->Prop}{px pos:Pos}{elt iter:Expr}{ifs:List Expr}{wi:TI}{tt:TT}{te:TE}
theorem oy {use:Option (Value->Sem Unit)}{Qf:Value->Shared->Prop} (hc:X.calm=true) (C:gn X N' scope xs) (hi:PI X tg iter wi)
  (ht : ∀ s₂ H₂ fp,PTs (blk X N' scope s₂ H₂ fp) ifs tt) (he : ∀ s₂ H₂ fp,PE (blk X N' scope s₂ H₂ fp) elt te) {pins:List (Addr×Obj)}{s:Shared}{σ:St}{H:Hp}{Q:VK} (I:Inv X pins σ H s) (h:xk gT wi tt te σ H Q)
  (htg : ∀ (s₂:Shared) (H₂:Hp) (fp:List Addr) (pl:List (Addr×Obj)) (s:Shared) (H:Hp) (v:V) (u:Value) (Q:St->Hp->Prop),Inv (blk X N' scope s₂ H₂ fp) pl (σ++aE xs.length none) H s->RelV v u->gT v H Q ->
   aB (model X.prog X.w) X.A (assign tg (blk X N' scope s₂ H₂ fp).env u) (fun _ s' => ∃ τ H',τ.length=xs.length/\Inv (blk X N' scope s₂ H₂ fp) pl (σ++τ) H' s'/\Q τ H') (fun _ _=>False) s)
  (hfin : ∀ (s':Shared) (L D:Addr) (H':Hp) (ml:Str->Option Value),s'.heap.Ns L ml->Inv X pins σ H' s'->H' L=none->L≠X.env.locals->X.s₀.heap.objs.size<=L->(∀ y c,X.env.cells.lookup y=some c->c≠L)->(∀ p∈X.pn++pins,p.1≠L) ->
   Q (.ref D) H'->compPost (model X.prog X.w) X.A X.xe use Qf (.ref D) L (.ok .next) s') :
  aB (model X.prog X.w) X.A (eval iter X.env) (fun xv s₁=>aB (model X.prog X.w) X.A (pyIter xv) (fun it s₂=>aB (model X.prog X.w) X.A (newList []) (fun acc s₃=>
   aB (model X.prog X.w) X.A (newFunctionEnv scope X.env.globals (iM X.env scope.names []) [] X.env.qual none .none (some X.env)) (fun cenv s₄=>
    oJ (model X.prog X.w) X.A (.compStart (.ListComp elt [⟨tg,iter,ifs,0⟩] scope pos) 0 it acc { cenv with scope:=relabel scope X.env }) (compPost (model X.prog X.w) X.A X.xe use Qf acc cenv.locals) s₄) X.xe s₃) X.xe s₂) X.xe s₁) X.xe s:=by
 refine thn (hi pins s σ H _ I h) fun v s1 h1=>thn h1 fun itv s2 h2 => ?_
 obtain⟨it,fp,tn,J,H2,e,I2,T,st2,f2,W,⟨m0,w0⟩,turn⟩:=h2
 subst e
 have hlt : ∀ b∈fp,b < s2.heap.objs.size:=fun b hb=>by obtain⟨o,ho,_⟩:=T.obj _ _ st2 b hb;exact aC ho
 refine aU (nC ?_)
 dsimp only
 have I4:Inv (blk X N' scope s2 H2 fp) [] (σ++aE xs.length none) H2 { s2 with heap:=pushCells ((s2.heap.push { cls := .type "list",dict:=none,data := .seq ([]:List Value).toArray }).push { cls := .type "dict",data := .dict #[] }) scope.names }:=
  zj I2 C f2 hlt rfl rfl rfl
 generalize hXb:blk X N' scope s2 H2 fp=Xb at I4
 have hD4:(pushCells ((s2.heap.push { cls := .type "list",dict:=none,data := .seq ([]:List Value).toArray }).push { cls := .type "dict",data := .dict #[] }) scope.names).get? s2.heap.objs.size=some { cls := .type "list",data := .seq ([]:List Value).toArray }:=
  pushCells_keeps _ _ _ _ (ak _ (av _ rfl))
 have st4:tn 0 (pushCells ((s2.heap.push { cls := .type "list",dict:=none,data := .seq ([]:List Value).toArray }).push { cls := .type "dict",data := .dict #[] }) scope.names):=
  T.keep _ _ _ st2 fun b hb o e=>pushCells_keeps _ _ b o (ak _ (ak _ e))
 have henv:({ scope:=relabel scope X.env,locals:=(s2.heap.push { cls := .type "list",dict:=none,data := .seq ([]:List Value).toArray }).objs.size,globals:=X.env.globals,cells:=cellsFrom ((s2.heap.push { cls := .type "list",dict:=none,data := .seq ([]:List Value).toArray }).objs.size+1) scope.names (iM X.env scope.names []),qual:=X.env.qual,func:=none,code:=X.env.code,frame:=X.env.frame,builtins:=X.env.builtins }:Env)=Xb.env:=by
  rw [<- hXb,bc];rfl
 generalize hs4:({ s2 with heap:=pushCells ((s2.heap.push { cls := .type "list",dict:=none,data := .seq ([]:List Value).toArray }).push { cls := .type "dict",data := .dict #[] }) scope.names }:Shared)=s4 at I4
 have hD4':s4.heap.get? s2.heap.objs.size=some { cls := .type "list",data := .seq ([]:List Value).toArray }:=by rw [<- hs4];exact hD4
 have st4':tn 0 s4.heap:=by rw [<- hs4];exact st4
 have hL:Xb.env.locals=s2.heap.objs.size+1:=by rw [<- hXb];rfl
 have hex:Xb.ex=fp:=by rw [<- hXb];rfl
 have hs0:Xb.s₀=s2:=by rw [<- hXb];rfl
 have hH0:Xb.H₀=H2:=by rw [<- hXb];rfl
 have hfs:Xb.fs=frs X.stack:=by rw [<- hXb];rfl
 have hpn:Xb.pn = []:=by rw [<- hXb];rfl
 have hK:Xb.K=X.K:=by rw [<- hXb];rfl
 have hP:Xb.prog=X.prog:=by rw [<- hXb];rfl
 have hw:Xb.w=X.w:=by rw [<- hXb];rfl
 have hA:Xb.A=X.A:=by rw [<- hXb];rfl
 have hxe:Xb.xe=fun _ _=>False:=by rw [<- hXb];rfl
 have hcb:Xb.calm=true:=by rw [<- hXb];exact hc
 have hNb:Xb.N=N':=by rw [<- hXb];rfl
 have hfn : ∀ y,scope.names.lookup y=some .cell->Xb.fn y=true:=fun y hy=>by rw [<- hXb];show (scope.names.lookup y == some .cell)=true;rw [hy];rfl
 have htb:PTs Xb ifs tt:=by rw [<- hXb];exact ht _ _ _
 have heb:PE Xb elt te:=by rw [<- hXb];exact he _ _ _
 have hgb : ∀ (pl:List (Addr×Obj)) (s:Shared) (H:Hp) (v:V) (u:Value) (Q:St->Hp->Prop),Inv Xb pl (σ++aE xs.length none) H s->RelV v u->gT v H Q ->
   aB (model X.prog X.w) X.A (assign tg Xb.env u) (fun _ s' => ∃ τ H',τ.length=xs.length/\Inv Xb pl (σ++τ) H' s'/\Q τ H') (fun _ _=>False) s:=by
  rw [<- hXb];exact htg _ _ _
 have cellne : ∀ y c,Xb.env.cells.lookup y=some c->c≠s2.heap.objs.size:=fun y c e z=>by
  obtain⟨v,o,ho,hd⟩:=I4.cell y c e
  rw [z,hD4'] at ho
  cases ho
  cases hd
 have stat : ∀ {H':Hp}{pl:List (Addr×Obj)},(∀ b∈fp,H' b=none)->(∀ p∈pl,p.1=s2.heap.objs.size) -> ∀ b∈fp,q9 Xb pl H' b:=fun {H' pl} hn hpl b hb=>by
  refine⟨hn b hb,?_,?_,.inl (by rw [hex];exact hb),fun y c e z => ?_,fun p hp z => ?_⟩
  ·rw [hL];exact aG (b7 (hlt b hb))
  ·exact I4.ok.exfs b (by rw [hex];exact hb)
  ·exact (I4.ok.exf b (by rw [hex];exact hb)).2 y c e z
  ·rw [hpn] at hp
   have h1:=hpl p (by simpa using hp)
   have h2:=hlt b hb
   exact absurd h2 (by rw [<- z,h1];exact cj _)
 have Dfs:s2.heap.objs.size∉Xb.fs:=by
  rw [hfs]
  intro z
  rcases aK.mp (I2.stkSub _ z) with e | e
  ·exact absurd I2.lt (by rw [<- e];exact cj _)
  ·exact I2.nofs (aq _) e
 have fin : ∀ (s':Shared) (i m:Nat) (ys:List V) (its:List Value) (n:Nat) (H':Hp) (σ':St),Inv Xb [] σ' H' s'->H' s2.heap.objs.size=none->s'.heap.get? s2.heap.objs.size=some { cls := .type "list",data := .seq its.toArray n }->bO ys its->ys.length < sizeLine ->
   (∀ D,H' D=none->Q (.ref D) (upd H' D (.lst ys)))->compPost (model X.prog X.w) X.A X.xe use Qf (.ref s2.heap.objs.size) Xb.env.locals (.ok .next) s':=by
  intro s' i m ys its n H' σ' I' hDn hDo rv hz q
  obtain⟨ml,hml,_⟩:=I'.loc
  have kb : ∀ b o,b≠Xb.env.locals->s'.heap.get? b=some o->s'.heap.get? b=some o:=fun b o _ e=>e
  have hDL:s2.heap.objs.size≠Xb.env.locals:=by rw [hL];exact aG (aV _)
  have hok1:HOk X.prog X.w H' s'.heap:=by
   have:=I'.hok.but I'.free kb
   rw [hP,hw] at this;exact this
  have hok2:HOk X.prog X.w (upd H' s2.heap.objs.size (.lst ys)) s'.heap:=hok1.track hDn ⟨cK hz,its,n,rv,kb _ _ hDL hDo⟩
  have base:=I'.base
  rw [hs0,hH0,hex,hfs] at base
  have un:Un (frs X.stack) fp H2 (upd H' s2.heap.objs.size (.lst ys)) s2.heap s'.heap:=by
   have ltL : ∀ b o,s2.heap.get? b=some o->b≠Xb.env.locals:=fun b o e=>by rw [hL];exact aG (b7 (aC e))
   have ltD : ∀ b o,s2.heap.get? b=some o->b≠s2.heap.objs.size:=fun b o e=>aG (aC e)
   refine⟨fun b o e n hb hx=>kb b o (ltL b o e) (base.keep b o e n hb hx),fun b o e n hb hx => ?_,fun b o e n hx => ?_,fun b o e hx => ?_,fun b xs e => ?_,fun b o u e => ?_,fun b ps e => ?_⟩
   ·obtain⟨sl,q⟩:=base.slot b o e n hb hx
    exact⟨sl,kb b _ (ltL b o e) q⟩
   ·rw [bP (ltD b o e)];exact base.free b o e n hx
   ·obtain⟨o',q⟩:=base.there b o e hx
    exact⟨o',kb b _ (ltL b o e) q⟩
   ·have q:=base.tups b xs e
    rw [bP (bD q hDn)];exact q
   ·have q:=base.frzs b o u e
    rw [bP (bD q hDn)];exact q
   ·obtain⟨more,q⟩:=base.tbls b ps e
    exact⟨more,by rw [bP (bD q hDn)];exact q⟩
  have os:s'.os=s2.os:=by rw [I'.os,hs0]
  have If:=I2.call' (s':=s') os un hok2 I'.bare fun b hb=>⟨(f2 b hb).2.2.2.1,(f2 b hb).2.1,(f2 b hb).2.2.2.2.1,(f2 b hb).2.2.2.2.2⟩
  refine hfin s' _ _ _ ml hml If ?_ ?_ ?_ ?_ ?_ (q _ hDn)
  ·rw [bP (cY hDL)];exact I'.free
  ·rw [hL];exact bL (b7 I2.lt)
  ·rw [hL];exact kA I2.sz
  ·intro y c e z
   obtain⟨v,o,ho,_⟩:=I2.cell y c e
   have:=aC ho
   rw [z,hL] at this;exact absurd (Nat.lt_of_succ_lt this) (cj _)
  ·intro p hp z
   have:=aC (I2.pin p hp).1
   rw [z,hL] at this;exact absurd (Nat.lt_of_succ_lt this) (cj _)
 have loop : ∀ it':Addr,it'=it->oJ (model X.prog X.w) X.A (.compLoop (.ListComp elt [⟨tg,iter,ifs,0⟩] scope pos) 0 (.ref it') (.ref s2.heap.objs.size) Xb.env) (compPost (model X.prog X.w) X.A X.xe use Qf (.ref s2.heap.objs.size) Xb.env.locals) s4:=by
  rintro it' rfl
  refine lg (fun n s' => ∃ (i:Nat) (ys:List V) (its:List Value) (nn:Nat) (H':Hp),Inv Xb [] (σ++aE xs.length none) H' s'/\tn i s'.heap/\(∀ b∈fp,H' b=none)/\H' s2.heap.objs.size=none /\
   s'.heap.get? s2.heap.objs.size=some { cls := .type "list",data := .seq its.toArray nn }/\bO ys its/\W i n ys H') ?_ m0 ⟨0,[],[],_,H2,I4,st4',fun b hb=>(f2 b hb).1,I2.hok.fresh (aq _),hD4',.nil,w0⟩
  rintro n s3 ⟨i,ys,its,nn,H3,I3,st3,fr3,hD3,hDo3,rv3,w3⟩
  obtain⟨hz,turn⟩:=turn i n ys H3 w3
  have pinD : ∀ {s':Shared}{H':Hp}{σ':St}{oD:Obj},Inv Xb [] σ' H' s'->H' s2.heap.objs.size=none->s'.heap.get? s2.heap.objs.size=some oD->(∀ v,oD.data ≠ .cell v)->Inv Xb [(s2.heap.objs.size,oD)] σ' H' s':=fun {s' H' σ' oD} I' hn ho hd=>
   I'.pins_of fun p hp=>by
    have e:p=(s2.heap.objs.size,oD):=by simpa using hp
    subst e
    exact⟨ho,hn,by rw [hL];show s2.heap.objs.size≠_;exact aG (aV _),Dfs,hd⟩
  have I3p:=pinD I3 hD3 hDo3 (fun v z=>by cases z)
  have hpl : ∀ p ∈ [(s2.heap.objs.size,({ cls := .type "list",data := .seq its.toArray nn }:Obj))],p.1=s2.heap.objs.size:=fun p hp=>by
   have e:=aW.mp hp
   rw [e]
  rcases turn with⟨stop,qn⟩ | ⟨go,step⟩
  ·have q:=T.done Xb hP hw hK hcb i _ s3 _ H3 (fun _ _=>False) I3p (stat fr3 hpl) st3 stop
   rw [hA] at q
   refine cR q (fun r s5 ⟨hr,I5⟩ => ?_) fun _ _ z=>dm z
   subst hr
   exact fin s5 i n ys its nn H3 _ (I5.pins_of fun p hp=>absurd hp (by simp)) hD3 (I5.pin _ (bh _ (aW.mpr rfl))).1 rv3 hz qn
  ·have q:=T.item Xb hP hw hK hcb i _ s3 _ H3 (fun _ _=>False) I3p (stat fr3 hpl) st3 go
   rw [hA] at q
   refine cR q (fun r s45 ⟨u,hr,h5⟩ => ?_) fun _ _ z=>dm z
   subst hr
   refine cR h5 (fun _ s5 ⟨y5,H5,I5,r5,yl5,st5,fr5⟩ => ?_) fun _ _ z=>dm z
   have hD5:=(I5.pin _ (bh _ (aW.mpr rfl)))
   have I5':=I5.pinned (stat fr5 hpl) (T.obj _ _ st5)
   refine cR (hgb _ s5 H5 y5 _ _ I5' r5 (step y5 H5 yl5)) (fun _ s6 ⟨τ,H6,hτ,I6,q6⟩ => ?_) fun _ _ z=>dm z
   have qt:=htb _ s6 _ H6 _ I6 q6
   rw [hP,hw,hA,hxe] at qt
   refine cR qt (fun b s7 ⟨H7,I7,q7⟩ => ?_) fun _ _ z=>dm z
   have again : ∀ {s8:Shared}{H8:Hp}{σ8:St},Inv Xb ([(s2.heap.objs.size,({ cls := .type "list",data := .seq its.toArray nn }:Obj))]++qx fp s5.heap) σ8 H8 s8->tn (i+1) s8.heap/\(∀ b∈fp,H8 b=none)/\H8 s2.heap.objs.size=none/\s8.heap.get? s2.heap.objs.size=some { cls := .type "list",data := .seq its.toArray nn }:=fun {s8 H8 σ8} I8=>by
    refine⟨T.keep _ _ _ st5 fun b hb o e=>(I8.pin (b,o) (bh _ (bh _ (j0 hb e)))).1,fun b hb => ?_,?_,?_⟩
    ·obtain⟨o,e,d⟩:=T.obj _ _ st5 b hb
     exact (I8.pin (b,o) (bh _ (bh _ (j0 hb e)))).2.1
    ·exact (I8.pin _ (bh _ (b9 _ (aW.mpr rfl)))).2.1
    ·exact (I8.pin _ (bh _ (b9 _ (aW.mpr rfl)))).1
   have forget : ∀ {s8:Shared}{H8:Hp}{pl:List (Addr×Obj)},Inv Xb pl (σ++τ) H8 s8->Inv Xb [] (σ++aE xs.length none) H8 s8:=fun {s8 H8 pl} I8=>
    (I8.pins_of (pins' := []) fun p hp=>absurd hp (by simp)).weak (by simp [hτ]) fun j v hj=>by
     by_cases hjs:j < σ.length
     ·rw [aS hjs] at hj ⊢;exact hj
     ·rw [ax (by exact eP (by assumption)),gK] at hj
      split at hj <;> simp at hj
   cases b with
   | false=>
     have q7' : ∃ m',m' < n/\W (i+1) m' ys H7:=q7
     obtain⟨m',hm,w7⟩:=q7'
     obtain⟨a1,a2,a3,a4⟩:=again I7
     exact⟨m',hm,i+1,ys,its,nn,H7,forget I7,a1,a2,a3,a4,rv3,w7⟩
   | true=>
     have q7':te (σ++τ) H7 fun y H4 => ∃ m',m' < n/\W (i+1) m' (ys ++ [y]) H4:=q7
     have qe:=heb _ s7 _ H7 _ I7 q7'
     rw [hP,hw,hA,hxe] at qe
     refine cR qe (fun uv s8 ⟨y8,H8,I8,r8,m',hm,w8⟩ => ?_) fun _ _ z=>dm z
     obtain⟨a1,a2,a3,a4⟩:=again I8
     have I9:=forget I8
     have hl3:=rv3.length
     refine call_meets F.slot_list_append ⟨_,a4,rfl⟩ F.entry_list_append (F.args_list_append_2 _ _) (PySem.list_append s2.heap.objs.size its.toArray nn uv (by rw [az];omega)) ⟨a4,?_⟩
     have hup:=Cw a4 (·.push uv)
     have e1:(its.toArray.push uv)=(its ++ [uv]).toArray:=by simp
     rw [e1] at hup
     have I10:Inv Xb [] (σ++aE xs.length none) H8 { s8 with heap:=s8.heap.update s2.heap.objs.size (cD (·.push uv)) }:=
      I9.turned (t':=s8.toks) (fun b' u hb hu=>(cb s8.heap (cD (·.push uv)) (cY hb)).trans hu) a3 (by rw [hL];exact aG (aV _)) (.inr (by rw [hs0];exact aq _)) cellne (fun p hp=>by rw [hpn] at hp;exact absurd hp (by simp))
     refine⟨m',hm,i+1,ys ++ [y8],its ++ [uv],_,H8,I10,T.keep _ _ _ a1 fun b hb o e => ?_,a2,a3,hup,rv3.append (.cons r8 .nil),w8⟩
     exact (cb s8.heap (cD (·.push uv)) (by first | exact bL (hlt b hb) | exact aG (hlt b hb))).trans e
 have start:=codeAny_compStart_list (loop it rfl) (T.self X.A 0 s4 _ _ st4' (loop it rfl))
 rw [henv]
 have eL:(s2.heap.push { cls := .type "list",dict:=none,data := .seq ([]:List Value).toArray }).objs.size=Xb.env.locals:=by rw [bc,hL]
 rw [eL]
 exact start
theorem yU (C:gn X N' scope [x]) {σ:St} (s₂:Shared) (H₂:Hp) (fp:List Addr) (pl:List (Addr×Obj)) (s:Shared) (H:Hp) (v:V) (u:Value) (Q:St->Hp->Prop) (I:Inv (blk X N' scope s₂ H₂ fp) pl (σ++aE [x].length none) H s) (r:RelV v u) (q:gT1 v H Q) :
  aB (model X.prog X.w) X.A (assign (.Name x px) (blk X N' scope s₂ H₂ fp).env u) (fun _ s' => ∃ τ H',τ.length = [x].length/\Inv (blk X N' scope s₂ H₂ fp) pl (σ++τ) H' s'/\Q τ H') (fun _ _=>False) s:=by
 have hl:σ.length=X.N.length:=by
  have:=I.len
  rw [show (blk X N' scope s₂ H₂ fp).N=N' from rfl,C.len,aI,iD] at this
  omega
 have hlocx:Loc (blk X N' scope s₂ H₂ fp).env.scope x:=by
  rcases C.own x (by simp) with e | e
  ·exact .inl (lookup_relabel_local e)
  ·exact .inr (iB e)
 have hfx:(blk X N' scope s₂ H₂ fp).fn x=true\/(blk X N' scope s₂ H₂ fp).env.scope.names.lookup x=some .local:=by
  rcases C.own x (by simp) with e | e
  ·right;exact lookup_relabel_local e
  ·left;show (scope.names.lookup x == some .cell)=true;rw [e];rfl
 refine mM (ny I C.ndN (i:=X.N.length) (C.last 0 x rfl) hlocx r (fun s6 I6 => ?_) hfx)
 have hset:(σ++aE [x].length none).set X.N.length (some v)=σ ++ [some v]:=by
  rw [<- hl,fm _ _ (aq _)];simp
 rw [hset] at I6
 exact⟨[some v],H,rfl,I6,q⟩
theorem EB (hc:X.calm=true) (C:gn X N' scope [x]) (hi:PI X (.Name x px) iter wi)
  (ht : ∀ s₂ H₂ fp,PTs (blk X N' scope s₂ H₂ fp) ifs tt) (he : ∀ s₂ H₂ fp,PE (blk X N' scope s₂ H₂ fp) elt te)
  (hs : ∀ x,foldedSetIterable iter X.env x=pure x:=by intro _;rfl) :
  PE X (.ListComp elt [⟨.Name x px,iter,ifs,0⟩] scope pos) (oO wi tt te):=by
 intro pins s σ H Q I h
 rw [eval_ListComp]
 refine m9 (use:=none) (cl:=iM X.env scope.names []) rfl hs (iu (C.frees I.ok)) C.kind (fun y hy e=>jL C.nd (by rw [<- e];exact hy)) ?_
 refine oy (gT:=gT1) hc C hi ht he I h (yU C) fun s' L D H' ml hml I' hn h1 h2 h3 h4 q => ?_
 exact⟨ml,hml,fun h' hsb=>⟨.ref D,H',I'.turned (t':=s'.toks) (fun b o hb e=>(hsb.2 b hb).trans e) hn h1 (.inr h2) h3 h4,rfl,q⟩⟩
theorem DB {i:Nat}{y:Str}{py spos:Pos} (hN:X.N.Nodup) (hi':X.N[i]? = some y) (hy:Loc X.env.scope y) (hc:X.calm=true) (C:gn X N' scope [x]) (hi:PI X (.Name x px) iter wi)
  (ht : ∀ s₂ H₂ fp,PTs (blk X N' scope s₂ H₂ fp) ifs tt) (he : ∀ s₂ H₂ fp,PE (blk X N' scope s₂ H₂ fp) elt te)
  (hsw:swapsWith (.ListComp elt [⟨.Name x px,iter,ifs,0⟩] scope pos) (some (.Name y py)) spos.line X.env=pure true)
  (hs : ∀ x,foldedSetIterable iter X.env x=pure x:=by intro _;rfl) (hf:X.fn y=true\/X.env.scope.names.lookup y=some .local:=by first | exact .inl rfl | exact .inr rfl | assumption) :
  PS X (.Assign [.Name y py] (.ListComp elt [⟨.Name x px,iter,ifs,0⟩] scope pos) spos) (zC (oO wi tt te) (jk i)):=by
 intro pins s σ H D I h
 rw [exec_Assign_Name_used _ _ _ _ hsw]
 refine ae (wpAny_standAt (ae ?_))
 show aB _ X.A (do let _ <- comprehension (.ListComp elt [⟨.Name x px,iter,ifs,0⟩] scope pos) scope X.env _ (newList []) false (eval iter X.env) (some (assign (.Name y py) X.env))) _ _ s
 refine ae (cR (m9 (use:=some (assign (.Name y py) X.env)) (Q:=fun _ s'=>SP X pins D .next s') (cl:=iM X.env scope.names []) rfl hs (iu (C.frees I.ok)) C.kind (fun y hy e=>jL C.nd (by rw [<- e];exact hy))
  (oy (gT:=gT1) (Q:=fun v H1=>jk i v σ H1 D.nx) hc C hi ht he I h (yU C) fun s' L D' H' ml hml I' hn h1 h2 h3 h4 q => ?_)) (fun _ s' hq=>ao (ao hq)) fun _ _ e=>e)
 show aB _ X.A (assign (.Name y py) X.env (.ref D')) _ _ _
 refine mM (r9 (v := .ref D') I' hN hi' hy rfl (fun s6 I6 hsb => ?_) hf)
 obtain⟨a,hsb,ha⟩:=hsb
 have haL:L≠a:=by
  rcases ha with e | e
  ·rw [e];exact h1
  ·exact cY (h3 _ _ e)
 refine⟨ml,hml.sameBut hsb haL,fun h' hsb' => ?_⟩
 exact⟨_,H',I6.turned (t':=s6.toks) (fun b o hb e=>(hsb'.2 b hb).trans e) hn h1 (.inr h2) h3 h4,q⟩
inductive eJ:List Expr->List Str->Prop
 | nil:eJ [] []
 | cons (x:Str) (p:Pos) {es xs}:eJ es xs->eJ (.Name x p::es) (x::xs)
noncomputable def gTt (K:ar) (n:Nat):V->Hp->(St->Hp->Prop)->Prop:=fun v H Q => ∃ a vs,v = .ref a/\SqT K H a vs/\vs.length=n/\Q (vs.map some) H
theorem eJ.each {env:Env} : ∀ {es:List Expr}{xs:List Str},eJ es xs->(assignEach es env).length=xs.length/\(assignEach es env).findIdx? (·.1)=none
 | _,_,.nil=>⟨rfl,rfl⟩
 | _,_,.cons x p r=>by
   obtain⟨a,b⟩:=eJ.each (env:=env) r
   exact⟨by show (assignEach _ env).length+1=_;rw [a];rfl,by
    show (((false,_):Bool×(Value->Sem Unit))::assignEach _ env).findIdx? (·.1)=none
    rw [pI];simp [b]⟩
theorem uK {Xb:Cx}{pl:List (Addr×Obj)}{H:Hp}{E:Shared->Prop} (nd:Xb.N.Nodup) (own : ∀ x∈xs,Loc Xb.env.scope x/\(Xb.fn x=true\/Xb.env.scope.names.lookup x=some .local)) :
  ∀ {es:List Expr}{ys:List Str},eJ es ys->(∀ y∈ys,y∈xs) -> ∀ (vs:List V) (us:List Value) (τ:St) (s:Shared),(∀ (j:Nat) (y:Str),ys[j]? = some y->Xb.N[τ.length+j]? = some y)->vs.length=ys.length->bO vs us ->
   Inv Xb pl (τ++aE ys.length none) H s->(∀ s',Inv Xb pl (τ++vs.map some) H s'->E s')->aB (model X.prog X.w) X.A (assignInOrder ((assignEach es Xb.env).map (·.2)) us) (fun _ s'=>E s') (fun _ _=>False) s
 | _,_,.nil,_,vs,us,τ,s,hN,hl,r,I,k=>by
   have e:vs = []:=lR.mp hl
   subst e
   cases r
   exact assignInOrder_nil (k s I)
 | _,_,@eJ.cons x p es ys n,hm,vs,us,τ,s,hN,hl,r,I,k=>by
   cases r with
   | nil=>cases hl
   | @cons v u vs us ra rb=>
     obtain⟨ho,hf⟩:=own x (hm x (by simp))
     show aB _ _ (assignInOrder (assign (.Name x p) Xb.env::(assignEach es Xb.env).map (·.2)) (u::us)) _ _ s
     refine assignInOrder_cons (mM (ny I nd (i:=τ.length) (hN 0 x rfl) ho ra (fun s6 I6 => ?_) hf))
     have hset:(τ++aE (x::ys).length none).set τ.length (some v)=(τ ++ [some v])++aE ys.length none:=by
      rw [fm _ _ (aq _)]
      simp [b3]
     rw [hset] at I6
     refine uK nd own n (fun y hy=>hm y (by simp [hy])) vs us (τ ++ [some v]) s6 (fun j y hj => ?_) (by simpa using hl) rb I6 fun s' I'=>k s' (by simpa using I')
     have:=hN (j+1) y (by simpa using hj)
     rw [aI,Cy,show τ.length+1+j=τ.length+(j+1) by omega]
     exact this
theorem FN {es:List Expr}{kt:Nat}{pt:Pos} (hc:X.calm=true) (C:gn X N' scope xs) (n:eJ es xs) {σ:St} (s₂:Shared) (H₂:Hp) (fp:List Addr) (pl:List (Addr×Obj)) (s:Shared) (H:Hp) (v:V) (u:Value) (Q:St->Hp->Prop) (I:Inv (blk X N' scope s₂ H₂ fp) pl (σ++aE xs.length none) H s) (r:RelV v u) (q:gTt X.K xs.length v H Q) :
  aB (model X.prog X.w) X.A (assign (.Tuple es kt pt) (blk X N' scope s₂ H₂ fp).env u) (fun _ s' => ∃ τ H',τ.length=xs.length/\Inv (blk X N' scope s₂ H₂ fp) pl (σ++τ) H' s'/\Q τ H') (fun _ _=>False) s:=by
 have hl:σ.length=X.N.length:=by
  have:=I.len
  rw [show (blk X N' scope s₂ H₂ fp).N=N' from rfl,C.len,aI,iD] at this
  omega
 obtain⟨a,vs,rfl,hq,hv,q⟩:=q
 cases r
 obtain⟨its,rv,ht,hz⟩:=I.tuple hq
 obtain⟨h1,h2⟩:=n.each (env:=(blk X N' scope s₂ H₂ fp).env)
 refine assign_Tuple_tuple (I.ok.hd hc) ht (by simp [h1,<- hv,rv.length]) h2 fun h' hx => ?_
 have I1:Inv (blk X N' scope s₂ H₂ fp) pl (σ++aE xs.length none) H { s with heap:=h' }:=I.kept (t':=s.toks) fun b o e=>hx b o (aG (aC e)) e
 refine uK (X:=X) (xs:=xs) (Xb:=blk X N' scope s₂ H₂ fp) C.ndN (fun x hx=>⟨?_,?_⟩) n (fun y hy=>hy) vs _ σ _ (fun j y hj => ?_) hv (by simpa using rv) I1 fun s' I'=>⟨vs.map some,H,by simpa using hv,I',q⟩
 ·rcases C.own x hx with e | e
  ·exact .inl (lookup_relabel_local e)
  ·exact .inr (iB e)
 ·rcases C.own x hx with e | e
  ·right;exact lookup_relabel_local e
  ·left;show (scope.names.lookup x == some .cell)=true;rw [e];rfl
 ·rw [hl];exact C.last j y hj
theorem B8 {es:List Expr}{kt:Nat}{pt:Pos} (hc:X.calm=true) (C:gn X N' scope xs) (n:eJ es xs) (hi:PI X (.Tuple es kt pt) iter wi)
  (ht : ∀ s₂ H₂ fp,PTs (blk X N' scope s₂ H₂ fp) ifs tt) (he : ∀ s₂ H₂ fp,PE (blk X N' scope s₂ H₂ fp) elt te)
  (hs : ∀ x,foldedSetIterable iter X.env x=pure x:=by intro _;rfl) :
  PE X (.ListComp elt [⟨.Tuple es kt pt,iter,ifs,0⟩] scope pos) (xk (gTt X.K xs.length) wi tt te):=by
 intro pins s σ H Q I h
 rw [eval_ListComp]
 refine m9 (use:=none) (cl:=iM X.env scope.names []) rfl hs (iu (C.frees I.ok)) C.kind (fun y hy e=>jL C.nd (by rw [<- e];exact hy)) ?_
 refine oy hc C hi ht he I h (FN hc C n) fun s' L D H' ml hml I' hn h1 h2 h3 h4 q => ?_
 exact⟨ml,hml,fun h' hsb=>⟨.ref D,H',I'.turned (t':=s'.toks) (fun b o hb e=>(hsb.2 b hb).trans e) hn h1 (.inr h2) h3 h4,rfl,q⟩⟩
end
end L2
end
section
namespace HT
open PySem PyProof.Rows
open PySem.SeqAt
open PySem.AutoSeq1 (wpAny_loadPart')
open PySem.MeetsSeq PySem.MeetsSeq2 PySem.MeetsSeq3
section
variable {prog:Program}{w:World}{A:Around}{E:Value->Shared->Prop}{s:Shared}
theorem getItem_tuple_whole {t sl:Addr}{items:Array Value}{vl vu:Value}{lo hi:Option Int}{Q:Value->Shared->Prop} (ht:IsTup s.heap t items) (hs:s.heap.IsSliceOf sl vl vu .none) (pl:IsPart vl lo) (pu:IsPart vu hi)
  (hw:sIx items.size 0 lo=0/\sIx items.size items.size hi=items.size)
  (h:Q (.ref t) s):aB (model prog w) A (getItem (.ref t) (.ref sl)) Q E s:=by
 obtain⟨os,hos,hcs,hds⟩:=id hs
 have hTs:s.TypeIs (.ref sl) "slice":=⟨os,hos,hcs⟩
 unfold getItem
 try with_reducible refine cM ?_
 first | refine ae (ao ?_) | skip
 refine ae (wG ht.typeIs (by decide) ?_)
 refine ae (bG (name:=dF "__getitem__") ht.typeIs ck
  (bH ck ht.typeIs entry_tuple_getitem ?_ (args_tuple_getitem _ _)))
 show aB _ _ (iE (.ref t) >>= _) _ _ s
 refine ae (tupleItemsOf_ ht ?_)
 refine ae (fA hTs ?_)
 rw [if_pos (by decide)]
 refine ae (jN hs pl pu ?_)
 rw [hw.1,hw.2]
 show aB _ _ (if (((0:Nat):Int) == 0&&(1:Int) == 1&&(items.size - 0) == items.size)=true then _ else _) _ _ s
 rw [if_pos (by simp)]
 obtain⟨o,ho,hc,n,hd⟩:=id ht
 refine ae (m:=pb _) ?_
 unfold pb
 refine ae (fA ⟨o,ho,hc⟩ (ao ?_))
 rw [if_pos (by decide)]
 refine ae (lB ?_)
 first
  | exact ao ⟨_,rfl,ao h⟩
  | exact ae (ao (ao ⟨_,rfl,ao h⟩))
theorem cat_tup0 {t b:Addr}{ws:List Value}{Q:Value->Shared->Prop} (ht:IsTup s.heap t ([]:List Value).toArray) (hb:IsTup s.heap b ws.toArray) (h:Q (.ref b) s):aB (model prog w) A (binaryOp .Add (.ref t) (.ref b)) Q E s:=by
 obtain⟨⟨cls,dd,data,sl⟩,ho,hc,n,hd⟩:=id ht
 obtain⟨⟨cls2,dd2,data2,sl2⟩,ho2,hc2,n2,hd2⟩:=id hb
 simp only at hc hd hc2 hd2
 subst hc hd hc2 hd2
 exact concat_meets ⟨_,ho,rfl⟩ ⟨_,ho2,rfl⟩ noFill_tuple_add seq_tuple_add ly ku (ke _ _)
   (tuple_addW0 t b #[] ws.toArray n n2 dd dd2 sl sl2 (by simp)) ⟨ho,ho2,h⟩
end
end HT
end
section
namespace G
open PySem PySem.SeqAt
open PySem.AutoSeq1 (wpAny_loadPart')
open PySem.MeetsSeq PySem.MeetsSeq2 PySem.MeetsSeq3
theorem qX (l:Addr) (items:Array Value) (n:Nat) (dd:Option Addr) (sl:Array (Option Value)) (x:Value) (e:Value->Bool) (j:Nat) (hj:j < items.size)
  (hit:e items[j]=true) (hno : ∀ m (hm:m < items.size),m < j->e items[m]=false) :
  Meets (Builtin.«tuple.index» ⟨[.ref l,x],[]⟩)
   (fun A R s=>s.heap.get? l=some { cls := .type "tuple",dict:=dd,data := .seq items n,slots:=sl }/\(∀ y,y∈items->EqAt A.in1 s y x (e y))/\R (.ok (.ret (.int j s.toks))) { s with toks:=s.toks+1 }):=
 .of_wp fun prog w A R s h=>by
  obtain⟨hp,g,d,tk,os⟩:=s;obtain⟨hl,he,h⟩:=h
  simp only [Builtin.«tuple.index»,Std.Legacy.Range.forIn_eq_forIn_range']
  wp_walk using dC hl,wpAny_forIn_list _ (fun rest b s'=>b.1=none/\s'=⟨hp,g,d,tk,os⟩ /\ ∃ i,i<=j/\rest=bU i (items.size - i)) _
  case turn=>
   rintro y rest b s' ⟨hb,rfl,i,hij,hrest⟩
   have hlt:i < items.size:=by
    rcases Nat.lt_or_ge i items.size with q | q
    ·exact q
    ·exact aJ (by assumption) (by assumption)
   obtain⟨k,hk⟩ : ∃ k,items.size - i=k+1:=⟨items.size - i - 1,by omega⟩
   rw [hk,List.range'_succ] at hrest
   injection hrest with h1 h2
   subst h1
   have hg:items[y]? = some items[y]:=by simp [hlt]
   rw [hg]
   refine ae (he _ (Array.getElem_mem hlt) prog w _ _ ?_)
   by_cases hyj:y=j
   ·subst hyj
    rw [hit]
    wp_walk
    exact⟨_,rfl,h⟩
   ·rw [hno y hlt (by exact kh (by assumption) (by assumption))]
    wp_walk
    exact⟨rfl,rfl,y+1,by exact kh (by assumption) (by assumption),by rw [h2];congr 1;omega⟩
  case fin=>
   rintro ⟨b1,b2⟩ s' ⟨hb,rfl,i,hij,hrest⟩
   exfalso
   have h3:=congrArg uu hrest
   simp at h3
   omega
  case h=>
   exact⟨rfl,rfl,0,da _,by simp⟩
end G
end
section
namespace G
open PySem PySem.SeqAt
open PySem.AutoSeq1 (wpAny_loadPart')
open PySem.MeetsSeq PySem.MeetsSeq2 PySem.MeetsSeq3
theorem om:fillsNumberSlot (.type "tuple") "mul"=pure false:=
 fillsNumberSlot_seq (id:="tuple.__mul__") (r:=some (.builtin "tuple.__rmul__")) F.slot_tuple_mul.lookup (by decide +kernel) F.slot_tuple_rmul.lookup (by decide +kernel)
theorem sY:seqRepeat? (.type "tuple")=pure (some (.builtin "tuple.__mul__")):=by
 unfold seqRepeat?
 rw [seqSlot_of (T:="tuple") (name:="__mul__") (id:="tuple.__mul__") F.slot_tuple_mul.lookup (by decide +kernel),seqSlot_of (T:="tuple") (name:="__rmul__") (id:="tuple.__rmul__") F.slot_tuple_rmul.lookup (by decide +kernel)]
 rfl
theorem p5 (a:Int) (t:Tok) (l:Addr) (items:Array Value) (n:Nat) (dd:Option Addr) (sl:Array (Option Value)) :
  Meets (Builtin.«int.__rmul__» ⟨[.int a t,.ref l],[]⟩) (fun _ R s=>s.heap.get? l=some { cls := .type "tuple",dict:=dd,data := .seq items n,slots:=sl }/\R (.ok (.ret Value.notImplemented)) s):=
 .of_wp fun prog w A R s h=>by obtain⟨hp,g,d,tk,os⟩:=s;obtain⟨hl,h⟩:=h;wp_walk;exact⟨_,rfl,h⟩
theorem rm (l:Addr) (items:Array Value) (n:Nat) (dd:Option Addr) (sl:Array (Option Value)) (t:Tok) :
  Meets (Builtin.«tuple.__mul__» ⟨[.ref l,.int 1 t],[]⟩) (fun _ R s=>s.heap.get? l=some { cls := .type "tuple",dict:=dd,data := .seq items n,slots:=sl }/\R (.ok (.ret (aT l))) { s with toks:=s.toks }):=
 .of_wp fun prog w A R s h=>by
  obtain⟨hp,g,d,tk,os⟩:=s;obtain⟨hl,h⟩:=h
  have f1:=pJ
  have hno : ¬ ((decide ((1:Int) < -2 ^ 63)||decide ((1:Int) >= 2 ^ 63))=true):=by decide
  have hyes:(items.isEmpty||(1:Int) == 1)=true:=by simp
  wp_walk using dC hl
  exact⟨_,rfl,h⟩
theorem xP (l:Addr) (items:Array Value) (n:Nat) (dd:Option Addr) (sl:Array (Option Value)) (t:Tok) (he:items.isEmpty=false) :
  Meets (Builtin.«tuple.__mul__» ⟨[.ref l,.int 0 t],[]⟩) (fun _ R s=>s.heap.get? l=some { cls := .type "tuple",dict:=dd,data := .seq items n,slots:=sl }/\R (.ok (.ret (aT s.heap.objs.size))) { s with heap:=s.heap.push { cls:=jT "tuple",data:=CL #[] },toks:=s.toks }):=
 .of_wp fun prog w A R s h=>by
  obtain⟨hp,g,d,tk,os⟩:=s;obtain⟨hl,h⟩:=h
  have f1:=pJ
  have hno : ¬ ((decide ((0:Int) < -2 ^ 63)||decide ((0:Int) >= 2 ^ 63))=true):=by decide
  have hno1 : ¬ ((items.isEmpty||(0:Int) == 1)=true):=by rw [he];decide
  have hyes:(decide ((0:Int)<=0)||items.isEmpty)=true:=by simp
  wp_walk using dC hl
  exact⟨_,rfl,h⟩
theorem xX (l:Addr) (items:Array Value) (n:Nat) (dd:Option Addr) (sl:Array (Option Value)) (k:Int) (t:Tok) (h1 : ¬ (items.isEmpty||k == 1)=true) (h0:0 < k) (hk:k < 1000) (hz:items.size < 1000) :
  Meets (Builtin.«tuple.__mul__» ⟨[.ref l,.int k t],[]⟩) (fun _ R s=>s.heap.get? l=some { cls := .type "tuple",dict:=dd,data := .seq items n,slots:=sl } /\
   R (.ok (.ret (aT s.heap.objs.size))) { s with heap:=s.heap.push { cls:=jT "tuple",data:=CL ((aE k.toNat items).foldl (· ++ ·) #[]) },toks:=s.toks }):=
 .of_wp fun prog w A R s h=>by
  obtain⟨hp,g,d,tk,os⟩:=s;obtain⟨hl,h⟩:=h
  have f1:=pJ
  have hno : ¬ ((decide (k < -2 ^ 63)||decide (k >= 2 ^ 63))=true):=by
   rw [uB,decide_eq_true_eq,decide_eq_true_eq];omega
  have he:items.isEmpty=false:=by
   cases q:items.isEmpty with
   | false=>rfl
   | true=>rw [q] at h1;simp at h1
  have hno2 : ¬ ((decide (k<=0)||items.isEmpty)=true):=by
   rw [he,Bool.or_false,decide_eq_true_eq];omega
  have hp1:(items.size:Int)*k<=1000000:=by
   have a1:(items.size:Int)*k<=1000*k:=Int.mul_le_mul_of_nonneg_right (by omega) (by omega)
   omega
  have hm1 : ¬ ((items.size:Int)*k > (2 ^ 63 - 1) / 8):=by omega
  have hm2 : ¬ (pd ((items.size:Int)*k)=true):=by
   unfold pd
   simp only [sizeLine_eq,decide_eq_true_eq,gt_iff_lt]
   omega
  have hsz:(mN (fun x1 x2=>x1++x2) #[] (aE k.toNat items)).size<=sizeLine:=by
   have e : ∀ (m:Nat) (a:Array Value),(mN (fun x1 x2=>x1++x2) a (aE m items)).size=a.size+m*items.size:=by
    intro m
    induction m with
    | zero=>intro a;simp
    | succ m ih=>intro a;rw [b3,gE,ih];simp;rw [Nat.succ_mul];omega
   rw [e]
   have a2:k.toNat*items.size<=1000*items.size:=fP _ (by omega)
   rw [sizeLine_eq]
   simp;omega
  wp_walk using dC hl
  rw [if_neg hno]
  wp_walk using dC hl
  rw [if_neg h1]
  wp_walk using dC hl
  rw [if_neg hm1]
  wp_walk using dC hl
  all_goals first | exact⟨_,rfl,h⟩ | skip
end G
end
section
namespace G
open PySem PySem.Spec L2
open PyProof.Rows hiding St
mutual
noncomputable def RU (H:Hp) (μ:List Addr):U->V->Prop
 | .non,v=>v = .non
 | .bl b,v=>v = .bl b
 | .int i,v=>v = .int i
 | .str x,v=>v = .str x
 | .tup us,v => ∃ a vs,v = .ref a/\H a=some (.tup vs)/\RUs H μ us vs
 | .ref n,v => ∃ a,v = .ref a/\μ[n]? = some a
 | .obj a,v=>v = .ref a
noncomputable def RUs (H:Hp) (μ:List Addr):List U->List V->Prop
 | [],vs=>vs = []
 | u::us,vs => ∃ v r,vs=v::r/\RU H μ u v/\RUs H μ us r
end
noncomputable def aZ (H H':Hp):Prop := ∀ a vs,H a=some (.tup vs)->H' a=some (.tup vs)
noncomputable def Pre (μ μ':List Addr):Prop := ∃ t,μ'=μ++t
theorem aZ.refl (H:Hp):aZ H H:=fun _ _ h=>h
theorem aZ.trans {H H1 H2:Hp} (a:aZ H H1) (b:aZ H1 H2):aZ H H2:=fun c vs h=>b c vs (a c vs h)
theorem Pre.refl (μ:List Addr):Pre μ μ:=⟨[],by simp⟩
theorem Pre.trans {μ μ1 μ2:List Addr} (a:Pre μ μ1) (b:Pre μ1 μ2):Pre μ μ2:=by
 obtain⟨t,rfl⟩:=a
 obtain⟨u,rfl⟩:=b
 exact⟨t++u,by simp⟩
theorem Pre.get {μ μ':List Addr} (p:Pre μ μ') {n:Nat}{a:Addr} (h:μ[n]? = some a):μ'[n]? = some a:=by
 obtain⟨t,rfl⟩:=p
 have hn:n < μ.length:=(ag.mp h).1
 rw [aS hn];exact h
theorem aZ.new {H:Hp}{p:Addr}{o:HO} (h:H p=none):aZ H (upd H p o):=fun a vs e=>by rw [bP (bD e h)];exact e
theorem aZ.wr {H:Hp}{p:Addr}{xs ys:List V} (h:H p=some (.lst xs)):aZ H (upd H p (.lst ys)):=fun a vs e=>by
 rw [bP (y4 e h (by intro z;cases z))];exact e
mutual
theorem RU.mono {H H':Hp}{μ μ':List Addr} (k:aZ H H') (p:Pre μ μ') : ∀ (u:U) (v:V),RU H μ u v->RU H' μ' u v
 | .non,_,h=>by simpa [RU] using h
 | .bl _,_,h=>by simpa [RU] using h
 | .int _,_,h=>by simpa [RU] using h
 | .str _,_,h=>by simpa [RU] using h
 | .obj _,_,h=>by simpa [RU] using h
 | .ref n,v,h=>by
   simp only [RU] at h ⊢
   obtain⟨a,e,q⟩:=h
   exact⟨a,e,p.get q⟩
 | .tup us,v,h=>by
   simp only [RU] at h ⊢
   obtain⟨a,vs,e,q,r⟩:=h
   exact⟨a,vs,e,k a vs q,RUs.mono k p us vs r⟩
theorem RUs.mono {H H':Hp}{μ μ':List Addr} (k:aZ H H') (p:Pre μ μ') : ∀ (us:List U) (vs:List V),RUs H μ us vs->RUs H' μ' us vs
 | [],_,h=>by simpa [RUs] using h
 | u::us,vs,h=>by
   simp only [RUs] at h ⊢
   obtain⟨v,r,e,a,b⟩:=h
   exact⟨v,r,e,RU.mono k p u v a,RUs.mono k p us r b⟩
end
section
variable {H:Hp}{μ:List Addr}
theorem RUs.nil:RUs H μ [] []:=by simp [RUs]
theorem RUs.cons {u:U}{us:List U}{v:V}{vs:List V} (a:RU H μ u v) (b:RUs H μ us vs):RUs H μ (u::us) (v::vs):=by
 simp only [RUs];exact⟨v,vs,rfl,a,b⟩
theorem RUs.inv {u:U}{us:List U}{vs:List V} (h:RUs H μ (u::us) vs) : ∃ v r,vs=v::r/\RU H μ u v/\RUs H μ us r:=by simpa only [RUs] using h
theorem RUs.nil_inv {vs:List V} (h:RUs H μ [] vs):vs = []:=by simpa only [RUs] using h
theorem RUs.len : ∀ {us:List U}{vs:List V},RUs H μ us vs->us.length=vs.length
 | [],vs,h=>by rw [h.nil_inv];rfl
 | u::us,vs,h=>by
   obtain⟨v,r,rfl,_,b⟩:=h.inv
   simp [b.len]
theorem RUs.get : ∀ {us:List U}{vs:List V}{i:Nat}{u:U},RUs H μ us vs->us[i]? = some u -> ∃ v,vs[i]? = some v/\RU H μ u v
 | [],vs,i,u,h,e=>by simp at e
 | x::us,vs,0,u,h,e=>by
   obtain⟨v,r,rfl,a,b⟩:=h.inv
   simp at e;subst e
   exact⟨v,rfl,a⟩
 | x::us,vs,i+1,u,h,e=>by
   obtain⟨v,r,rfl,a,b⟩:=h.inv
   obtain⟨w,h1,h2⟩:=RUs.get (i:=i) b (by simpa using e)
   exact⟨w,by simpa using h1,h2⟩
theorem RUs.append : ∀ {us ws:List U}{vs xs:List V},RUs H μ us vs->RUs H μ ws xs->RUs H μ (us++ws) (vs++xs)
 | [],ws,vs,xs,h,g=>by rw [h.nil_inv];exact g
 | u::us,ws,vs,xs,h,g=>by
   obtain⟨v,r,rfl,a,b⟩:=h.inv
   exact .cons a (b.append g)
theorem RUs.set {u:U}{v:V} (q:RU H μ u v) : ∀ {us:List U}{vs:List V} (i:Nat),RUs H μ us vs->RUs H μ (us.set i u) (vs.set i v)
 | [],vs,i,h=>by rw [h.nil_inv];simpa using RUs.nil
 | x::us,vs,0,h=>by
   obtain⟨w,r,rfl,a,b⟩:=h.inv
   exact .cons q b
 | x::us,vs,i+1,h=>by
   obtain⟨w,r,rfl,a,b⟩:=h.inv
   exact .cons a (RUs.set q i b)
theorem RUs.eraseIdx : ∀ {us:List U}{vs:List V} (i:Nat),RUs H μ us vs->RUs H μ (us.eraseIdx i) (vs.eraseIdx i)
 | [],vs,i,h=>by rw [h.nil_inv];simpa using RUs.nil
 | x::us,vs,0,h=>by
   obtain⟨w,r,rfl,a,b⟩:=h.inv
   exact b
 | x::us,vs,i+1,h=>by
   obtain⟨w,r,rfl,a,b⟩:=h.inv
   exact .cons a (RUs.eraseIdx i b)
theorem RUs.drop : ∀ {us:List U}{vs:List V} (i:Nat),RUs H μ us vs->RUs H μ (us.drop i) (vs.drop i)
 | us,vs,0,h=>h
 | [],vs,i+1,h=>by rw [h.nil_inv];simpa using RUs.nil
 | x::us,vs,i+1,h=>by
   obtain⟨w,r,rfl,a,b⟩:=h.inv
   exact RUs.drop i b
theorem RUs.take : ∀ {us:List U}{vs:List V} (i:Nat),RUs H μ us vs->RUs H μ (us.take i) (vs.take i)
 | us,vs,0,h=>by simpa using RUs.nil
 | [],vs,i+1,h=>by rw [h.nil_inv];simpa using RUs.nil
 | x::us,vs,i+1,h=>by
   obtain⟨w,r,rfl,a,b⟩:=h.inv
   exact .cons a (RUs.take i b)
theorem RUs.dropLast {us:List U}{vs:List V} (h:RUs H μ us vs):RUs H μ us.dropLast vs.dropLast:=by
 rw [CB,CB,h.len];exact h.take _
theorem RUs.ints : ∀ (ns:List Int),RUs H μ (ns.map U.int) (ns.map V.int)
 | [] => .nil
 | n::ns => .cons (by simp [RU]) (RUs.ints ns)
end
structure KX where
 K:ar
 caps:List U
 capv:List V
 cds:List (Addr×Obj)
 tabs:List (Addr×Str)
noncomputable instance:Coe KX ar:=⟨KX.K⟩
noncomputable def fz:HO := .ext fun _=>True
noncomputable def xE (H:Hp) (P:Addr) (q:Str):Prop := ∃ ps:Array Value,H P=some (.tbl ps)/\TriplesOk ps.toList /\
 ∀ pos cv,codeAmong pos ps.toList=some cv -> ∃ c oc vs t,cv = .ref c/\H c=some (.frz oc fz)/\oc.data = .fields vs/\vs[1]? = some (.str q t)
structure HX (K:KX) (μ:List Addr) (H:Hp):Prop where
 cap:RUs H μ K.caps K.capv
 cds : ∀ q∈K.cds,H q.1=some (.frz q.2 fz)
 tab : ∀ q∈K.tabs,xE H q.1 q.2
theorem HX.upd {K:KX}{μ μ':List Addr}{H:Hp}{p:Addr}{o':HO} (h:HX K μ H) (kp:aZ H (upd H p o')) (pre:Pre μ μ') (nf : ∀ o,H p=some o->(∀ o' u,o ≠ .frz o' u) /\ ∀ ps,o ≠ .tbl ps):HX K μ' (upd H p o'):=by
 have f : ∀ a o u,H a=some (.frz o u)->L2.upd H p o' a=some (.frz o u):=fun a o u e=>by
  rw [bP]
  ·exact e
  ·rintro rfl
   exact (nf _ e).1 o u rfl
 refine⟨RUs.mono kp pre _ _ h.cap,fun q hq=>f _ _ _ (h.cds q hq),fun q hq => ?_⟩
 obtain⟨ps,e,tr,al⟩:=h.tab q hq
 refine⟨ps,?_,tr,fun pos cv hc => ?_⟩
 ·rw [bP]
  ·exact e
  ·intro z
   rw [z] at e
   exact (nf _ e).2 ps rfl
 ·obtain⟨c,oc,vs,t,e1,e2,e3,e4⟩:=al pos cv hc
  exact⟨c,oc,vs,t,e1,f _ _ _ e2,e3,e4⟩
noncomputable def dV (kvs:List (Key×U)) (vs:List V):List (Key×V):=(kvs.map (·.1)).zip vs
noncomputable def mx (K:KX) (H:Hp) (μ:List Addr) (a:Addr):Cell->Prop
 | .lst us => ∃ vs,H a=some (.lst vs)/\RUs H μ us vs
 | .frz us => ∃ vs,((∃ o,H a=some (.frz o (.lst vs)))\/SqL K (fun _=>none) a vs)/\RUs H μ us vs
 | .dic kvs => ∃ vs,H a=some (.dK (dV kvs vs))/\RUs H μ (kvs.map (·.2)) vs
noncomputable def Cell.own:Cell->Bool
 | .frz _=>false
 | _=>true
structure HR (K:KX) (μ:List Addr) (S:Sto) (H:Hp):Prop where
 len:μ.length=S.length
 inj : ∀ (n m:Nat) (c d:Cell),S[n]? = some c->S[m]? = some d->c.own=true->d.own=true->μ[n]? = μ[m]? -> n=m
 cell : ∀ (n:Nat) (c:Cell) (a:Addr),S[n]? = some c->μ[n]? = some a->mx K H μ a c
 ext:HX K μ H
structure ER (H:Hp) (μ:List Addr) (ρ:Rho) (σ:St):Prop where
 len:ρ.length=σ.length
 get : ∀ (i:Nat) (u:U),ρ[i]? = some (some u) -> ∃ v,σ[i]? = some (some v)/\RU H μ u v
theorem ER.mono {H H':Hp}{μ μ':List Addr}{ρ:Rho}{σ:St} (e:ER H μ ρ σ) (k:aZ H H') (p:Pre μ μ'):ER H' μ' ρ σ:=
 ⟨e.len,fun i u h=>let ⟨v,a,b⟩:=e.get i u h;⟨v,a,RU.mono k p u v b⟩⟩
theorem ER.set {H:Hp}{μ:List Addr}{ρ:Rho}{σ:St} (e:ER H μ ρ σ) {u:U}{v:V} (r:RU H μ u v) (i:Nat):ER H μ (ρ.set i (some u)) (σ.set i (some v)):=by
 refine⟨by simpa using e.len,fun j w h => ?_⟩
 by_cases hj:i=j
 ·subst hj
  rw [List.getElem?_set] at h
  simp only [if_true] at h
  split at h
  ·rename_i hl
   cases h
   refine⟨v,?_,r⟩
   rw [aL (by rw [<- e.len];exact hl)]
  ·cases h
 ·rw [aH hj] at h
  obtain⟨x,a,b⟩:=e.get j w h
  exact⟨x,by rw [aH hj];exact a,b⟩
theorem ER.push {H:Hp}{μ:List Addr}{ρ:Rho}{σ:St} (e:ER H μ ρ σ) {u:U}{v:V} (r:RU H μ u v):ER H μ (ρ ++ [some u]) (σ ++ [some v]):=by
 refine⟨by simp [e.len],fun j w h => ?_⟩
 by_cases hj:j < ρ.length
 ·rw [aS hj] at h
  obtain⟨x,a,b⟩:=e.get j w h
  exact⟨x,by rw [aS (by rw [<- e.len];exact hj)];exact a,b⟩
 ·have hj':j=ρ.length:=by
   have:=(ag.mp h).1
   simp at this;omega
  subst hj'
  rw [ax (aq _)] at h
  simp at h;subst h
  refine⟨v,?_,r⟩
  rw [e.len,ax (aq _)];simp
section
variable {K:KX}{H:Hp}{μ:List Addr}{S:Sto}
theorem mx.mono {H':Hp}{μ':List Addr}{a:Addr}{c:Cell} (h:mx K H μ a c) (k:aZ H H') (p:Pre μ μ') (l:c.own=true->H' a=H a) (f : ∀ o u,H a=some (.frz o u)->H' a=some (.frz o u)):mx K H' μ' a c:=by
 cases c with
 | lst us=>
   obtain⟨vs,e,r⟩:=h
   exact⟨vs,(l rfl).trans e,RUs.mono k p us vs r⟩
 | dic kvs=>
   obtain⟨vs,e,r⟩:=h
   exact⟨vs,(l rfl).trans e,RUs.mono k p _ vs r⟩
 | frz us=>
   obtain⟨vs,e,r⟩:=h
   refine⟨vs,?_,RUs.mono k p us vs r⟩
   rcases e with⟨o,e⟩ | e
   ·exact .inl ⟨o,f o _ e⟩
   ·exact .inr e
theorem mx.has {a:Addr}{c:Cell} (h:mx K H μ a c) (ho:c.own=true) : ∃ o,H a=some o/\(∀ vs,o ≠ .tup vs)/\(∀ o' u,o ≠ .frz o' u) /\ ∀ ps,o ≠ .tbl ps:=by
 cases c with
 | lst us=>obtain⟨vs,e,r⟩:=h;exact⟨_,e,fun _ z=>(by cases z),fun _ _ z=>(by cases z),fun _ z=>(by cases z)⟩
 | dic kvs=>obtain⟨vs,e,r⟩:=h;exact⟨_,e,fun _ z=>(by cases z),fun _ _ z=>(by cases z),fun _ z=>(by cases z)⟩
 | frz us=>cases ho
theorem aZ.wrG {H:Hp}{p:Addr}{o o':HO} (h:H p=some o) (ht : ∀ vs,o ≠ .tup vs):aZ H (upd H p o'):=fun a vs e=>by
 rw [bP (y4 e h (cY (ht vs)))];exact e
theorem HR.get (h:HR K μ S H) {n:Nat}{c:Cell} (e:S[n]? = some c) : ∃ a,μ[n]? = some a/\mx K H μ a c:=by
 have hn:n < μ.length:=by rw [h.len];exact (ag.mp e).1
 exact⟨μ[n],by simp [hn],h.cell n c _ e (by simp [hn])⟩
theorem HR.wrC (h:HR K μ S H) {n:Nat}{c d:Cell}{a:Addr}{o':HO} (e:S[n]? = some c) (ea:μ[n]? = some a) (hc:c.own=true) (hd:d.own=true) (r:mx K (upd H a o') μ a d):HR K μ (S.set n d) (upd H a o'):=by
 obtain⟨o,e0,nt,nf,nb⟩:=(h.cell n _ a e ea).has hc
 have kp:aZ H (upd H a o'):=aZ.wrG e0 nt
 have hn:n < S.length:=(ag.mp e).1
 have pick : ∀ (m:Nat) (c':Cell),(S.set n d)[m]? = some c'->c'.own=true -> ∃ c'',S[m]? = some c''/\c''.own=true:=fun m c' q hq=>by
  by_cases hm:n=m
  ·subst hm;exact⟨c,e,hc⟩
  ·rw [aH hm] at q;exact⟨c',q,hq⟩
 refine⟨by rw [dN];exact h.len,fun i j u1 u2 q1 q2 o1 o2 q3 => ?_,fun m c' b q1 q2 => ?_,h.ext.upd kp (Pre.refl _) fun o1 q=>by rw [e0] at q;cases q;exact⟨nf,nb⟩⟩
 ·obtain⟨w1,z1,y1⟩:=pick i u1 q1 o1
  obtain⟨w2,z2,y2⟩:=pick j u2 q2 o2
  exact h.inj i j w1 w2 z1 z2 y1 y2 q3
 ·by_cases hm:n=m
  ·subst hm
   rw [aL hn] at q1
   cases q1
   rw [ea] at q2;cases q2
   exact r
  ·rw [aH hm] at q1
   refine (h.cell m c' b q1 q2).mono kp (Pre.refl _) (fun hc' => ?_) fun o u hf => ?_
   ·refine bP ?_
    rintro rfl
    exact hm (h.inj n m c c' e q1 hc hc' (ea.trans q2.symm))
   ·rw [bP (y4 hf e0 (cY (nf o u)))];exact hf
theorem HR.wr (h:HR K μ S H) {n:Nat}{us ws:List U}{vs:List V}{a:Addr} (e:S[n]? = some (.lst us)) (ea:μ[n]? = some a) (r:RUs H μ ws vs):HR K μ (S.set n (.lst ws)) (upd H a (.lst vs)):=by
 obtain⟨vs0,e0,r0⟩:=h.cell n _ a e ea
 exact h.wrC e ea rfl rfl ⟨vs,cJ,RUs.mono (aZ.wr e0) (Pre.refl _) ws vs r⟩
theorem HR.newC (h:HR K μ S H) {d:Cell}{p:Addr}{o':HO} (hp:H p=none) (hd:d.own=true) (r:mx K (upd H p o') (μ ++ [p]) p d):HR K (μ ++ [p]) (S ++ [d]) (upd H p o'):=by
 have kp:aZ H (upd H p o'):=aZ.new hp
 have pre:Pre μ (μ ++ [p]):=⟨[p],rfl⟩
 have old : ∀ (n:Nat) (c:Cell),n < S.length->(S ++ [d])[n]? = some c->S[n]? = some c:=fun n c hn q=>by rwa [aS hn] at q
 have last : ∀ (n:Nat) (c:Cell),¬ n < S.length->(S ++ [d])[n]? = some c->n=S.length:=fun n c hn q=>by
  have:=(ag.mp q).1
  simp at this;omega
 have fresh : ∀ (n:Nat) (c:Cell),S[n]? = some c->c.own=true -> ∀ a,μ[n]? = some a->a≠p:=fun n c q hc a qa=>by
  obtain⟨o,e,_⟩:=(h.cell n _ a q qa).has hc
  exact bD e hp
 have mulast:(μ ++ [p])[S.length]? = some p:=by rw [<- h.len,ax (aq _)];simp
 have muold : ∀ (n:Nat),n < S.length->(μ ++ [p])[n]? = μ[n]? := fun n hn=>aS (by rw [h.len];exact hn)
 refine⟨by simp [h.len],fun i j u1 u2 q1 q2 o1 o2 q3 => ?_,fun m c b q1 q2 => ?_,h.ext.upd kp pre fun o1 q=>by rw [hp] at q;cases q⟩
 ·by_cases hi:i < S.length
  ·by_cases hj:j < S.length
   ·rw [muold i hi,muold j hj] at q3
    exact h.inj i j u1 u2 (old i _ hi q1) (old j _ hj q2) o1 o2 q3
   ·have e:=last j _ hj q2
    subst e
    obtain⟨a,ha,_⟩:=h.get (old i _ hi q1)
    rw [muold i hi,mulast,ha] at q3
    exact absurd (bw q3) (fresh i u1 (old i _ hi q1) o1 a ha)
  ·have e:=last i _ hi q1
   subst e
   by_cases hj:j < S.length
   ·obtain⟨a,ha,_⟩:=h.get (old j _ hj q2)
    rw [muold j hj,mulast,ha] at q3
    exact absurd (bw q3).symm (fresh j u2 (old j _ hj q2) o2 a ha)
   ·exact (last j _ hj q2).symm
 ·by_cases hm:m < S.length
  ·rw [muold m hm] at q2
   refine (h.cell m c b (old m c hm q1) q2).mono kp pre (fun hc => ?_) fun o u hf => ?_
   ·exact bP (fresh m c (old m _ hm q1) hc b q2)
   ·rw [bP (bD hf hp)];exact hf
  ·have e:=last m c hm q1
   subst e
   rw [mulast] at q2;cases q2
   rw [ax (aq _)] at q1
   simp at q1;subst q1
   exact r
theorem HR.new (h:HR K μ S H) {us:List U}{vs:List V}{p:Addr} (hp:H p=none) (r:RUs H μ us vs):HR K (μ ++ [p]) (S ++ [.lst us]) (upd H p (.lst vs)):=
 h.newC hp rfl ⟨vs,cJ,RUs.mono (aZ.new hp) ⟨[p],rfl⟩ us vs r⟩
theorem HR.tup (h:HR K μ S H) {vs:List V}{p:Addr} (hp:H p=none):HR K μ S (upd H p (.tup vs)):=by
 have kp:aZ H (upd H p (.tup vs)):=aZ.new hp
 refine⟨h.len,h.inj,fun m c b q1 q2=>(h.cell m c b q1 q2).mono kp (Pre.refl _) (fun hc => ?_) fun o u hf => ?_,h.ext.upd kp (Pre.refl _) fun o1 q=>by rw [hp] at q;cases q⟩
 ·obtain⟨o,e,_⟩:=(h.cell m _ b q1 q2).has hc
  exact bP (bD e hp)
 ·rw [bP (bD hf hp)];exact hf
theorem HR.sq (h:HR K μ S H) {n:Nat}{us:List U} (e:getL S n=some us) : ∃ a vs,μ[n]? = some a/\SqL K H a vs/\RUs H μ us vs:=by
 unfold getL at e
 split at e
 ·rename_i ws q
  cases e
  obtain⟨a,ha,vs,e1,r⟩:=h.get q
  exact⟨a,vs,ha,SqL.of e1,r⟩
 ·rename_i ws q
  cases e
  obtain⟨a,ha,vs,e1,r⟩:=h.get q
  refine⟨a,vs,ha,?_,r⟩
  rcases e1 with⟨o,e1⟩ | e1
  ·exact .inl (.inr ⟨o,e1⟩)
  ·rcases e1 with (e1 | ⟨o,e1⟩) | e1
   ·cases e1
   ·cases e1
   ·exact .inr e1
 ·cases e
 ·cases e
end
noncomputable def Aft (K:KX) (μ:List Addr) (H:Hp) (u:U) (S':Sto) (Q:VK):Prop := ∀ μ' v H',Pre μ μ'->aZ H H'->HR K μ' S' H'->RU H' μ' u v->Q v H'
noncomputable def tM (K:KX) (m:ME):TE:=fun σ H Q => ∃ μ S ρ u S',HR K μ S H/\ER H μ ρ σ/\m ρ S=some (u,S')/\Aft K μ H u S' Q
noncomputable def tMT (K:KX) (m:MT):TT:=fun σ H Q => ∃ μ S ρ b S',HR K μ S H/\ER H μ ρ σ/\m ρ S=some (b,S') /\ ∀ μ' H',Pre μ μ'->aZ H H'->HR K μ' S' H'->Q b H'
noncomputable def tMA (K:KX) (m:MA):TA:=fun σ H Q => ∃ μ S ρ us S',HR K μ S H/\ER H μ ρ σ/\m ρ S=some (us,S') /\ ∀ μ' vs H',Pre μ μ'->aZ H H'->HR K μ' S' H'->RUs H' μ' us vs->Q vs H'
noncomputable def FlP (K:KX) (μ:List Addr) (H:Hp) (D:Ends):Fl×Rho×Sto->Prop
 | (.nx,ρ',S') => ∀ μ' σ' H',Pre μ μ'->aZ H H'->HR K μ' S' H'->ER H' μ' ρ' σ'->D.nx σ' H'
 | (.bk,ρ',S') => ∀ μ' σ' H',Pre μ μ'->aZ H H'->HR K μ' S' H'->ER H' μ' ρ' σ'->D.bk σ' H'
 | (.ct,ρ',S') => ∀ μ' σ' H',Pre μ μ'->aZ H H'->HR K μ' S' H'->ER H' μ' ρ' σ'->D.ct σ' H'
 | (.rt u,_,S')=>Aft K μ H u S' D.rt
noncomputable def tMS (K:KX) (m:MS):TS:=fun D σ H => ∃ μ S ρ r,HR K μ S H/\ER H μ ρ σ/\m ρ S=some r/\FlP K μ H D r
theorem Aft.mono {K:KX}{μ μ1:List Addr}{H H1:Hp}{u:U}{S':Sto}{Q:VK} (a:Aft K μ H u S' Q) (p:Pre μ μ1) (k:aZ H H1):Aft K μ1 H1 u S' Q:=
 fun μ' v H' p' k'=>a μ' v H' (p.trans p') (k.trans k')
theorem FlP.mono {K:KX}{μ μ1:List Addr}{H H1:Hp}{D:Ends}{r:Fl×Rho×Sto} (a:FlP K μ H D r) (p:Pre μ μ1) (k:aZ H H1):FlP K μ1 H1 D r:=by
 obtain⟨f,ρ',S'⟩:=r
 cases f with
 | nx=>exact fun μ' σ' H' p' k'=>a μ' σ' H' (p.trans p') (k.trans k')
 | bk=>exact fun μ' σ' H' p' k'=>a μ' σ' H' (p.trans p') (k.trans k')
 | ct=>exact fun μ' σ' H' p' k'=>a μ' σ' H' (p.trans p') (k.trans k')
 | rt u=>exact Aft.mono a p k
end G
end
section
namespace G
open PySem PySem.Spec L2
open PyProof.Rows hiding St
section
variable {K:KX}{σ:St}{H:Hp}{Q:VK}
theorem mL {A B:Prop} (h:A):if true=true then A else B:=by rw [if_pos rfl];exact h
theorem mJ {A B:Prop} (h:B):if false=true then A else B:=by rw [if_neg bj];exact h
theorem JB {i:Nat} (h:tM K (ab i) σ H Q):JE i σ H Q:=by
 obtain⟨μ,S,ρ,u,S',hr,er,e,k⟩:=h
 unfold ab at e
 split at e
 ·rename_i w q
  cases e
  obtain⟨v,hv,ru⟩:=er.get i _ q
  exact⟨v,hv,k μ v H (Pre.refl _) (aZ.refl _) hr ru⟩
 ·cases e
theorem r_c {u:U}{v:V} (hv : ∀ H μ,RU H μ u v) (h:tM K (mC u) σ H Q):tC v σ H Q:=by
 obtain⟨μ,S,ρ,u',S',hr,er,e,k⟩:=h
 cases e
 exact k μ v H (Pre.refl _) (aZ.refl _) hr (hv _ _)
noncomputable def OpU (K:KX) (r:R2) (f:F2):Prop := ∀ (μ:List Addr) (S:Sto) (H:Hp) (x y:U) (vx vy:V) (u:U) (S':Sto) (Q:VK),HR K μ S H->RU H μ x vx->RU H μ y vy->f x y S=some (u,S')->Aft K μ H u S' Q->r vx vy H Q
theorem tw {r:R2}{f:F2}{a b:ME} (o:OpU K r f) (h:tM K (m2 f a b) σ H Q):tOp r (tM K a) (tM K b) σ H Q:=by
 obtain⟨μ,S,ρ,u,S',hr,er,e,k⟩:=h
 obtain⟨x,S1,e1,e⟩:=aP e
 obtain⟨y,S2,e2,e⟩:=aP e
 refine⟨μ,S,ρ,x,S1,hr,er,e1,fun μ1 vx H1 p1 k1 hr1 rx => ?_⟩
 refine⟨μ1,S1,ρ,y,S2,hr1,er.mono k1 p1,e2,fun μ2 vy H2 p2 k2 hr2 ry => ?_⟩
 exact o μ2 S2 H2 x y vx vy u S' Q hr2 (RU.mono k2 p2 x vx rx) ry e (k.mono (p1.trans p2) (k1.trans k2))
noncomputable def UnU (K:KX) (r:V->Hp->VK->Prop) (f:U->Sto->Res U):Prop := ∀ (μ:List Addr) (S:Sto) (H:Hp) (x:U) (vx:V) (u:U) (S':Sto) (Q:VK),HR K μ S H->RU H μ x vx->f x S=some (u,S')->Aft K μ H u S' Q->r vx H Q
theorem Lo {r:V->Hp->VK->Prop}{f:U->Sto->Res U}{a:ME} (o:UnU K r f) (h:tM K (m1 f a) σ H Q):tUn r (tM K a) σ H Q:=by
 obtain⟨μ,S,ρ,u,S',hr,er,e,k⟩:=h
 obtain⟨x,S1,e1,e⟩:=aP e
 refine⟨μ,S,ρ,x,S1,hr,er,e1,fun μ1 vx H1 p1 k1 hr1 rx => ?_⟩
 exact o μ1 S1 H1 x vx u S' Q hr1 rx e (k.mono p1 k1)
theorem Aft.now {μ:List Addr}{S:Sto}{u:U}{v:V} (k:Aft K μ H u S Q) (hr:HR K μ S H) (r:RU H μ u v):Q v H:=k μ v H (Pre.refl _) (aZ.refl _) hr r
theorem d9 {μ:List Addr}{i:Int}:RU H μ (.int i) (.int i):=by simp [RU]
theorem fI {μ:List Addr}{b:Bool}:RU H μ (.bl b) (.bl b):=by simp [RU]
theorem pK {μ:List Addr}:RU H μ .non .non:=by simp [RU]
theorem fZ {μ:List Addr}{us:List U}{vs:List V}{a:Addr} (e:H a=some (.tup vs)) (r:RUs H μ us vs):RU H μ (.tup us) (.ref a):=by
 simp only [RU];exact⟨a,vs,rfl,e,r⟩
theorem ot {μ:List Addr}{n:Nat}{a:Addr} (e:μ[n]? = some a):RU H μ (.ref n) (.ref a):=by
 simp only [RU];exact⟨a,rfl,e⟩
theorem cq {μ:List Addr}{i:Int}{v:V} (h:RU H μ (.int i) v):v = .int i:=by simpa only [RU] using h
theorem iz {μ:List Addr}{b:Bool}{v:V} (h:RU H μ (.bl b) v):v = .bl b:=by simpa only [RU] using h
theorem fO {μ:List Addr}{us:List U}{v:V} (h:RU H μ (.tup us) v) : ∃ a vs,v = .ref a/\H a=some (.tup vs)/\RUs H μ us vs:=by simpa only [RU] using h
theorem dU {μ:List Addr}{n:Nat}{v:V} (h:RU H μ (.ref n) v) : ∃ a,v = .ref a/\μ[n]? = some a:=by simpa only [RU] using h
theorem yc {g:Int->Int->V}{f:F2}{k:Int->Int->U} (hf : ∀ x y S u S',f x y S=some (u,S') -> ∃ i j,x = .int i/\y = .int j/\u=k i j/\S'=S) (hg : ∀ H μ i j,RU H μ (k i j) (g i j)):OpU K (rI0 g) f:=by
 intro μ S H x y vx vy u S' Q hr rx ry e a
 obtain⟨i,j,rfl,rfl,rfl,rfl⟩:=hf x y S u S' e
 exact⟨i,j,cq rx,cq ry,a.now hr (hg _ _ _ _)⟩
theorem xW {C:Int->Int->Prop}{g:Int->Int->V}{f:F2}{k:Int->Int->U} (hf : ∀ x y S u S',f x y S=some (u,S') -> ∃ i j,x = .int i/\y = .int j/\C i j/\u=k i j/\S'=S) (hg : ∀ H μ i j,RU H μ (k i j) (g i j)):OpU K (rI C g) f:=by
 intro μ S H x y vx vy u S' Q hr rx ry e a
 obtain⟨i,j,rfl,rfl,c,rfl,rfl⟩:=hf x y S u S' e
 exact⟨i,j,cq rx,cq ry,c,a.now hr (hg _ _ _ _)⟩
theorem FL:OpU K (rI0 fun i j => .int (i - j)) h9:=yc (k:=fun i j => .int (i - j)) (fun x y S u S' h=>by
 unfold h9 at h;split at h <;> simp at h;obtain⟨rfl,rfl⟩:=h;exact⟨_,_,rfl,rfl,rfl,rfl⟩) fun _ _ _ _=>d9
noncomputable def Fv (K:ar):R2:=fun x y H Q => ∃ l k xs,x = .ref l/\y = .int k/\H l=some (.tup xs)/\yn xs.length k/\(k=1->Q (.ref l) H)/\(k≠1 -> ∀ p,H p=none->Q (.ref p) (upd H p (.tup (aE k.toNat xs).flatten)))
theorem qF (its:List Value) : ∀ (m:Nat) (a:List Value),mN (fun x1 x2=>x1++x2) a.toArray (aE m its.toArray)=(a++(aE m its).flatten).toArray
 | 0,a=>by simp
 | m+1,a=>by
   rw [b3,gE,List.append_toArray,qF its m (a++its),b3,eu,ba]
theorem RUs.rep {H:Hp}{μ:List Addr}{us:List U}{vs:List V} (r:RUs H μ us vs) : ∀ (m:Nat),RUs H μ (aE m us).flatten (aE m vs).flatten
 | 0=>by simpa using RUs.nil
 | m+1=>by
   rw [b3,eu,b3,eu]
   exact r.append (RUs.rep r m)
theorem De {X:Cx}:OpR X (binaryOp .Mult) (Fv X.K):=by
 intro pins s σ H x y v u Q I rx ry h
 obtain⟨l,k,xs,rfl,rfl,hH,⟨h1,h2,h3,h4⟩,q1,q2⟩:=h
 cases (show v=aT l from rx)
 obtain⟨t,rfl⟩:=ry
 obtain⟨z,its,r,⟨⟨cls,dd,data,sl⟩,e,c,n,d⟩,_⟩:=I.hok l _ hH
 simp only at c d
 subst c d
 have hl:its.length=xs.length:=r.length.symm
 refine CI (T:="tuple") (U:="int") (by decide) ⟨_,e,rfl⟩ (fun s'=>typeIs_int s' k t) om F.fills_int_mul n8 sY F.slot_int_index.lookup
  (call_meets n8 (typeIs_int s k t) F.entry_int_rmul (F.args_int_rmul_2 _ _) (p5 k t l its.toArray n dd sl) ⟨e,rfl,⟨_,e,rfl⟩,?_⟩)
 by_cases hk:k=1
 ·subst hk
  exact call_meets wI ⟨_,e,rfl⟩ uy (rF _ _) (rm l its.toArray n dd sl t) ⟨e,⟨.ref l,H,I,rfl,q1 rfl⟩⟩
 ·by_cases hk0:k=0
  ·subst hk0
   refine call_meets wI ⟨_,e,rfl⟩ uy (rF _ _) (xP l its.toArray n dd sl t ?_) ⟨e,?_⟩
   ·cases its with
    | nil=>simp at hl;omega
    | cons a b=>rfl
   ·exact⟨.ref s.heap.objs.size,_,I.laid (t':=s.toks) (o := .tup []) (fun b ob q=>ak _ q) (aq _) ⟨da _,[],.nil,lA _ _,_,av _ rfl,rfl⟩,rfl,by simpa using q2 hk _ (I.hok.fresh (aq _))⟩
  refine call_meets wI ⟨_,e,rfl⟩ uy (rF _ _) (xX l its.toArray n dd sl k t ?_ (by omega) h2 (by rw [az];omega)) ⟨e,?_⟩
  ·intro w
   rw [uB] at w
   rcases w with w | w
   ·have:its = []:=by simpa using w
    rw [this] at hl;simp at hl;omega
   ·exact hk (by simpa using w)
  ·rw [show (#[]:Array Value)=([]:List Value).toArray from rfl,qF its k.toNat [],ei]
   refine⟨.ref s.heap.objs.size,_,I.laid (t':=s.toks) (o := .tup (aE k.toNat xs).flatten) (fun b ob q=>ak _ q) (aq _) ?_,rfl,q2 hk _ (I.hok.fresh (aq _))⟩
   refine⟨?_,_,r.rep k.toNat,lA _ _,_,av _ rfl,rfl⟩
   rw [len_rep,sizeLine_eq]
   have:k.toNat*xs.length<=1000*xs.length:=fP _ (by omega)
   omega
theorem FJ:OpU K (fun x y H Q=>rI Dd (fun i j => .int (i*j)) x y H Q\/Fv K x y H Q\/Ky x y H Q) fv:=by
 intro μ S H x y vx vy u S' Q hr rx ry e a
 unfold fv at e
 split at e
 ·split at e
  ·rename_i hc
   simp at e;obtain⟨rfl,rfl⟩:=e
   exact .inl ⟨_,_,cq rx,cq ry,hc,a.now hr d9⟩
  ·cases e
 ·rename_i xs k
  split at e
  ·rename_i hc
   simp at e;obtain⟨rfl,rfl⟩:=e
   obtain⟨p,vs,rfl,hp,r1⟩:=fO rx
   refine .inr (.inl ⟨p,k,vs,rfl,cq ry,hp,by rw [<- r1.len];exact hc,fun hk => ?_,fun hk t ht => ?_⟩)
   ·subst hk
    have e1:(aE (1:Int).toNat xs).flatten=xs:=by simp
    rw [e1] at a
    exact a.now hr (fZ hp r1)
   ·exact a μ _ _ (Pre.refl _) (aZ.new ht) (hr.tup ht) (fZ cJ (RUs.mono (aZ.new ht) (Pre.refl _) _ _ (r1.rep _)))
  ·cases e
 ·rename_i n k
  split at e
  ·rename_i xs q1
   split at e
   ·rename_i hc
    simp at e;obtain⟨rfl,rfl⟩:=e
    obtain⟨p,rfl,hp⟩:=dU rx
    obtain⟨vs,e1,r1⟩:=hr.cell n _ p q1 hp
    obtain⟨h1,h2,h3,h4⟩:=hc
    refine .inr (.inr ⟨p,k,vs,rfl,cq ry,e1,by omega,by omega,?_,fun t ht => ?_⟩)
    ·have h5:=r1.len;rw [sizeLine_eq,<- h5]
     have:xs.length*k.toNat<=xs.length*1000:=pe _ (by omega)
     omega
    ·refine a (μ ++ [t]) _ _ ⟨[t],rfl⟩ (aZ.new ht) (hr.new ht (r1.rep _)) (ot ?_)
     rw [<- hr.len,ax (aq _)];simp
   ·cases e
  ·cases e
 ·cases e
theorem HA:OpU K (rI J6 fun i j => .int (i / j)) oDiv:=xW (k:=fun i j => .int (i / j)) (fun x y S u S' h=>by
 unfold oDiv at h;split at h
 ·split at h
  ·rename_i hc;simp at h;obtain⟨rfl,rfl⟩:=h;exact⟨_,_,rfl,rfl,hc,rfl,rfl⟩
  ·cases h
 ·cases h) fun _ _ _ _=>d9
theorem Hi:OpU K (rI (fun _ j=>0 < j) fun i j => .int (i % j)) oMod:=xW (k:=fun i j => .int (i % j)) (fun x y S u S' h=>by
 unfold oMod at h;split at h
 ·split at h
  ·rename_i hc;simp at h;obtain⟨rfl,rfl⟩:=h;exact⟨_,_,rfl,rfl,hc,rfl,rfl⟩
  ·cases h
 ·cases h) fun _ _ _ _=>d9
theorem Ie:OpU K (rI KE fun i j => .int (i ^ j.toNat)) ue:=xW (k:=fun i j => .int (i ^ j.toNat)) (fun x y S u S' h=>by
 unfold ue at h;split at h
 ·split at h
  ·rename_i hc;simp at h;obtain⟨rfl,rfl⟩:=h;exact⟨_,_,rfl,rfl,hc,rfl,rfl⟩
  ·cases h
 ·cases h) fun _ _ _ _=>d9
theorem tj {p:Int->Int->Bool}:OpU K (rI0 fun i j => .bl (p i j)) (wj p):=yc (k:=fun i j => .bl (p i j)) (fun x y S u S' h=>by
 unfold wj at h;split at h <;> simp at h;obtain⟨rfl,rfl⟩:=h;exact⟨_,_,rfl,rfl,rfl,rfl⟩) fun _ _ _ _=>fI
noncomputable def Fd (K:ar):R2:=fun x y H Q => ∃ a b ys,x = .ref a/\y = .ref b/\SqT K H a []/\SqT K H b ys/\Q (.ref b) H
theorem CV {X:Cx}:OpR X (binaryOp .Add) (Fd X.K):=by
 intro pins s σ H x y v u Q I rx ry h
 obtain⟨a,b,ys,rfl,rfl,h1,h2,q⟩:=h
 cases (show v=aT a from rx)
 cases (show u=aT b from ry)
 obtain⟨its,r1,p1,_⟩:=I.tuple h1
 obtain⟨its2,r2,p2,_⟩:=I.tuple h2
 cases r1
 exact HT.cat_tup0 p1 p2 ⟨.ref b,H,I,rfl,q⟩
theorem G6:OpU K (fun x y H Q=>rI0 (fun i j => .int (i+j)) x y H Q\/Fe K x y H Q\/Fd K x y H Q\/KB x y H Q) bC:=by
 intro μ S H x y vx vy u S' Q hr rx ry e a
 unfold bC at e
 split at e
 ·simp at e;obtain⟨rfl,rfl⟩:=e
  exact .inl ⟨_,_,cq rx,cq ry,a.now hr d9⟩
 ·rename_i xs ys
  split at e
  ·rename_i hc
   simp at e;obtain⟨rfl,rfl⟩:=e
   obtain⟨p,vs,rfl,hp,r1⟩:=fO rx
   obtain⟨q,ws,rfl,hq,r2⟩:=fO ry
   by_cases hx:xs = []
   ·subst hx
    have hv:vs = []:=by have:=r1.len;exact dH (by simpa using this.symm)
    subst hv
    exact .inr (.inr (.inl ⟨p,q,ws,rfl,rfl,.inl (.inl hp),.inl (.inl hq),a.now hr (fZ hq r2)⟩))
   refine .inr (.inl ⟨p,q,vs,ws,rfl,rfl,.inl (.inl hp),.inl (.inl hq),?_,?_,fun z => ?_,fun z t ht => ?_⟩)
   ·intro z;subst z;have:=r1.len;exact hx (dH (by simpa using this))
   ·have h1:=r1.len;have h2:=r2.len;unfold big at hc;rw [sizeLine_eq];omega
   ·subst z
    have:ys = []:=by have:=r2.len;exact dH (by simpa using this)
    subst this
    rw [fe] at a
    exact a.now hr (fZ hp r1)
   ·refine a μ _ _ (Pre.refl _) (aZ.new ht) (hr.tup ht) ?_
    have kp:aZ H (upd H t (.tup (vs++ws))):=aZ.new ht
    exact fZ cJ ((RUs.mono kp (Pre.refl _) _ _ r1).append (RUs.mono kp (Pre.refl _) _ _ r2))
  ·cases e
 ·rename_i n m
  split at e
  ·rename_i xs ys q1 q2
   split at e
   ·rename_i hc
    simp at e;obtain⟨rfl,rfl⟩:=e
    obtain⟨p,rfl,hp⟩:=dU rx
    obtain⟨q,rfl,hq⟩:=dU ry
    obtain⟨vs,e1,r1⟩:=hr.cell n _ p q1 hp
    obtain⟨ws,e2,r2⟩:=hr.cell m _ q q2 hq
    refine .inr (.inr (.inr ⟨p,q,vs,ws,rfl,rfl,e1,e2,?_,fun t ht => ?_⟩))
    ·have h1:=r1.len;have h2:=r2.len;unfold big at hc;rw [sizeLine_eq];omega
    ·refine a (μ ++ [t]) _ _ ⟨[t],rfl⟩ (aZ.new ht) (hr.new ht (r1.append r2)) (ot ?_)
     rw [<- hr.len,ax (aq _)];simp
   ·cases e
  ·cases e
 ·cases e
theorem HR.seq {μ:List Addr}{S:Sto}{x:U}{v:V}{us:List U} (hr:HR K μ S H) (r:RU H μ x v) (e:dr S x=some us) : ∃ a vs,v = .ref a/\(SqL K H a vs\/SqT K H a vs)/\RUs H μ us vs:=by
 unfold dr at e
 split at e
 ·cases e
  obtain⟨a,vs,rfl,h,q⟩:=fO r
  exact⟨a,vs,rfl,.inr (.inl (.inl h)),q⟩
 ·obtain⟨a,rfl,ha⟩:=dU r
  obtain⟨a',vs,ha',hs,q⟩:=hr.sq e
  rw [ha] at ha';cases ha'
  exact⟨a,vs,rfl,.inl hs,q⟩
 ·cases e
theorem Ey {μ:List Addr}{us:List U}{vs:List V}{i:Int}{u:U} (r:RUs H μ us vs) (e:atI us i=some u) : ∃ v,atI vs i=some v/\RU H μ u v:=by
 unfold atI at e ⊢
 rw [<- r.len]
 cases q:ixN us.length i with
 | none=>rw [q] at e;cases e
 | some j=>
   rw [q] at e
   exact r.get e
theorem lK {μ:List Addr}{y:U}{v:V}{k:Key} (r:RU H μ y v) (e:keyOf y=some k):v=kV k:=by
 cases y <;> simp only [keyOf,dZ,reduceCtorEq] at e <;> subst e <;> (simp only [RU] at r;exact r)
theorem yj {μ:List Addr}{k:Key}{u:U} : ∀ {kvs:List (Key×U)}{vs:List V},RUs H μ (kvs.map (·.2)) vs->qp kvs k=some u -> ∃ v,kD (dV kvs vs) k=some v/\RU H μ u v
 | [],vs,r,e=>by cases e
 | (j,x)::kvs,vs,r,e=>by
   obtain⟨v,r',rfl,a,b⟩:=r.inv
   show ∃ w,kD ((j,v)::dV kvs r') k=some w/\_
   by_cases h:j=k
   ·rw [kJ h]
    simp [qp,du,h] at e
    subst e
    exact⟨v,rfl,a⟩
   ·rw [kU h]
    refine yj b ?_
    simpa [qp,du,h] using e
theorem pY {k:Key} : ∀ {kvs:List (Key×U)}{vs:List V},kvs.length=vs.length->(kD (dV kvs vs) k).isSome=(qp kvs k).isSome
 | [],vs,_=>by simp [dV,kD,qp]
 | (j,x)::kvs,[],h=>by simp at h
 | (j,x)::kvs,v::vs,h=>by
   show (kD ((j,v)::dV kvs vs) k).isSome=_
   by_cases hj:j=k
   ·rw [kJ hj];simp [qp,du,hj]
   ·rw [kU hj,pY (by simpa using h)];simp [qp,du,hj]
theorem Bh {k:Key} : ∀ {kvs:List (Key×U)}{vs:List V},kvs.length=vs.length->((dV kvs vs).any fun kv=>decide (kv.1=k))=kvs.any fun kv=>decide (kv.1=k)
 | [],vs,_=>by simp [dV]
 | (j,x)::kvs,[],h=>by simp at h
 | (j,x)::kvs,v::vs,h=>by
   show (((j,v)::dV kvs vs).any fun kv=>decide (kv.1=k))=_
   rw [gv,gv,Bh (by simpa using h)]
theorem xA {kvs:List (Key×U)}{vs:List V} (h:kvs.length=vs.length):(dV kvs vs).length=kvs.length:=by
 simp [dV,h]
theorem y6 {μ:List Addr}{k:Key}{u:U}{v:V} (ru:RU H μ u v) : ∀ {kvs:List (Key×U)}{vs:List V},RUs H μ (kvs.map (·.2)) vs ->
  ∃ ws,dV (kvs.map fun kv=>if kv.1=k then (kv.1,u) else kv) ws=(dV kvs vs).map (fun kv=>if kv.1=k then (kv.1,v) else kv)/\RUs H μ ((kvs.map fun kv=>if kv.1=k then (kv.1,u) else kv).map (·.2)) ws
 | [],vs,r=>⟨[],by simp [dV],.nil⟩
 | (j,x)::kvs,vs,r=>by
   obtain⟨w,r',rfl,a,b⟩:=r.inv
   obtain⟨ws,e,q⟩:=y6 ru b
   show ∃ ws',dV ((if j=k then (j,u) else (j,x))::kvs.map fun kv=>if kv.1=k then (kv.1,u) else kv) ws'=(if j=k then (j,v) else (j,w))::(dV kvs r').map (fun kv=>if kv.1=k then (kv.1,v) else kv)/\RUs H μ (((if j=k then (j,u) else (j,x))::kvs.map fun kv=>if kv.1=k then (kv.1,u) else kv).map (·.2)) ws'
   by_cases h:j=k
   ·rw [if_pos h,if_pos h]
    exact⟨v::ws,by rw [<- e];rfl,.cons ru q⟩
   ·rw [if_neg h,if_neg h]
    exact⟨w::ws,by rw [<- e];rfl,.cons a q⟩
theorem yL {μ:List Addr}{k:Key}{u:U}{v:V}{kvs:List (Key×U)}{vs:List V} (ru:RU H μ u v) (r:RUs H μ (kvs.map (·.2)) vs) : ∃ ws,dV (AL kvs k u) ws=putK (dV kvs vs) k v/\RUs H μ ((AL kvs k u).map (·.2)) ws:=by
 have hl:kvs.length=vs.length:=by have:=r.len;rwa [ay] at this
 unfold AL putK
 rw [Bh hl]
 split
 ·exact y6 ru r
 ·refine⟨vs ++ [v],?_,by rw [cH];exact r.append (.cons ru .nil)⟩
  unfold dV
  rw [cH,List.zip_append (by simpa using hl)]
  rfl
theorem HR.dic {μ:List Addr}{S:Sto}{x:U}{v:V}{kvs:List (Key×U)} (hr:HR K μ S H) (r:RU H μ x v) (e:fR S x=some kvs) : ∃ a vs,v = .ref a/\H a=some (.dK (dV kvs vs))/\RUs H μ (kvs.map (·.2)) vs:=by
 unfold fR at e
 split at e
 ·split at e
  ·rename_i q
   cases e
   obtain⟨a,rfl,ha⟩:=dU r
   obtain⟨vs,e1,r1⟩:=hr.cell _ _ a q ha
   exact⟨a,vs,rfl,e1,r1⟩
  ·cases e
 ·cases e
noncomputable def Jh:R2:=fun x y H Q => ∃ a v,x = .ref a/\rg H a y (some v)/\Q v H
noncomputable def Lg (K:ar):R2:=fun x y H Q=>rIx K x y H Q\/Jh x y H Q
theorem Hf {X:Cx} (hu:X.A.units+1 < cLine):IxR X Jh:=by
 intro value slice pins s σ H x y v u Q I rx ry h hs
 obtain⟨a,w,rfl,g,q⟩:=h
 obtain rfl:v=aT a:=rx
 exact tail_any (vX I g) PySem.F.slot_dict_getitem.lookup (zt hu I g ry fun w' s3 I3 rw'=>⟨w,H,I3,rw',q⟩) hs
theorem II:OpU K (Lg K) oIx:=by
 intro μ S H x y vx vy u S' Q hr rx ry e a
 unfold oIx at e
 split at e
 ·rename_i kvs qd
  cases qk:keyOf y with
  | none=>rw [qk] at e;cases e
  | some kk=>
    rw [qk] at e
    simp only [ah] at e
    cases qv:qp kvs kk with
    | none=>rw [qv] at e;cases e
    | some w=>
      rw [qv] at e
      simp at e;obtain⟨rfl,rfl⟩:=e
      obtain⟨p,vs,rfl,hp,r⟩:=hr.dic rx qd
      obtain⟨v,hv,rv⟩:=yj r qv
      rw [lK ry qk]
      exact .inr ⟨p,v,rfl,.inl ⟨_,kk,.inl hp,rfl,hv.symm⟩,a.now hr rv⟩
 split at e
 ·rename_i i
  refine .inl ?_
  cases q:dr S x with
  | none=>rw [q] at e;cases e
  | some us=>
    rw [q] at e
    simp only [ah] at e
    cases z:atI us i with
    | none=>rw [z] at e;cases e
    | some w=>
      rw [z] at e
      simp at e;obtain⟨rfl,rfl⟩:=e
      obtain⟨p,vs,rfl,hs,r⟩:=hr.seq rx q
      obtain⟨v,hv,rv⟩:=Ey r z
      rcases hs with hs | hs
      ·exact .inl ⟨p,vs,i,v,rfl,cq ry,hs,hv,a.now hr rv⟩
      ·exact .inr (.inl ⟨p,vs,i,v,rfl,cq ry,hs,hv,a.now hr rv⟩)
 ·cases e
theorem Ib:UnU K (rU fun i => .int (-i)) eK:=by
 intro μ S H x vx u S' Q hr rx e a
 unfold eK at e
 split at e
 ·cases e
  exact⟨_,cq rx,a.now hr d9⟩
 ·cases e
theorem Iv {Q:List V->Hp->Prop} (h:tMA K af σ H Q):uJ σ H Q:=by
 obtain⟨μ,S,ρ,us,S',hr,er,e,k⟩:=h
 cases e
 exact k μ [] H (Pre.refl _) (aZ.refl _) hr .nil
theorem GO {a:ME}{r:MA}{Q:List V->Hp->Prop} (h:tMA K (aa a r) σ H Q):oM (tM K a) (tMA K r) σ H Q:=by
 obtain⟨μ,S,ρ,us,S',hr,er,e,k⟩:=h
 obtain⟨x,S1,e1,e⟩:=aP e
 obtain⟨xs,S2,e2,e⟩:=aP e
 cases e
 refine⟨μ,S,ρ,x,S1,hr,er,e1,fun μ1 vx H1 p1 k1 hr1 rx => ?_⟩
 refine⟨μ1,S1,ρ,xs,_,hr1,er.mono k1 p1,e2,fun μ2 vs H2 p2 k2 hr2 rs => ?_⟩
 exact k μ2 _ H2 (p1.trans p2) (k1.trans k2) hr2 (.cons (RU.mono k2 p2 x vx rx) rs)
theorem Km {a:MA} (h:tM K (bA a) σ H Q):JQ (tMA K a) σ H Q:=by
 obtain⟨μ,S,ρ,u,S',hr,er,e,k⟩:=h
 obtain⟨xs,S1,e1,e⟩:=aP e
 split at e
 ·rename_i hc
  cases e
  refine⟨μ,S,ρ,xs,_,hr,er,e1,fun μ1 vs H1 p1 k1 hr1 rs=>⟨?_,fun p hp => ?_⟩⟩
  ·have:=rs.len;unfold big at hc;rw [sizeLine_eq];omega
  ·exact k μ1 _ _ p1 (k1.trans (aZ.new hp)) (hr1.tup hp) (fZ cJ (RUs.mono (aZ.new hp) (Pre.refl _) _ _ rs))
 ·cases e
theorem fK {μ:List Addr}{S:Sto}{us:List U}{vs:List V}{p:Addr} (k:Aft K μ H (.ref S.length) (S ++ [.lst us]) Q) (hr:HR K μ S H) (rs:RUs H μ us vs) (hp:H p=none):Q (.ref p) (upd H p (.lst vs)):=by
 refine k (μ ++ [p]) _ _ ⟨[p],rfl⟩ (aZ.new hp) (hr.new hp rs) (ot ?_)
 rw [<- hr.len,ax (aq _)];simp
theorem IT {a:MA} (h:tM K (b4 a) σ H Q):JD (tMA K a) σ H Q:=by
 obtain⟨μ,S,ρ,u,S',hr,er,e,k⟩:=h
 obtain⟨xs,S1,e1,e⟩:=aP e
 split at e
 ·rename_i hc
  cases e
  refine⟨μ,S,ρ,xs,S1,hr,er,e1,fun μ1 vs H1 p1 k1 hr1 rs=>⟨?_,fun p hp => ?_⟩⟩
  ·have:=rs.len;unfold big at hc;rw [sizeLine_eq];omega
  ·exact fK (k.mono p1 k1) hr1 rs hp
 ·cases e
noncomputable def nP (K:KX) (r:List V->Hp->VK->Prop) (f:MF):Prop := ∀ (μ:List Addr) (S:Sto) (H:Hp) (us:List U) (vs:List V) (u:U) (S':Sto) (Q:VK),HR K μ S H->RUs H μ us vs->f us S=some (u,S')->Aft K μ H u S' Q->r vs H Q
theorem wt {r:List V->Hp->VK->Prop}{f:MF}{a:MA} (o:nP K r f) (h:tM K (mFn f a) σ H Q):tCB r (tMA K a) σ H Q:=by
 obtain⟨μ,S,ρ,u,S',hr,er,e,k⟩:=h
 obtain⟨xs,S1,e1,e⟩:=aP e
 refine⟨μ,S,ρ,xs,S1,hr,er,e1,fun μ1 vs H1 p1 k1 hr1 rs => ?_⟩
 exact o μ1 S1 H1 xs vs u S' Q hr1 rs e (k.mono p1 k1)
noncomputable def spM (K:KX) (m:MF):Sp:=fun vs H Q _ => ∃ μ S us u S',HR K μ S H/\RUs H μ us vs/\m us S=some (u,S')/\Aft K μ H u S' Q
theorem HF {f:MF}{a:MA}{E:XK} (h:tM K (mFn f a) σ H Q):Cm (spM K f) [] E (tMA K a) σ H Q:=by
 obtain⟨μ,S,ρ,u,S',hr,er,e,k⟩:=h
 obtain⟨xs,S1,e1,e⟩:=aP e
 refine⟨μ,S,ρ,xs,S1,hr,er,e1,fun μ1 vs H1 p1 k1 hr1 rs => ?_⟩
 show spM K f (vs ++ []) H1 Q E
 rw [fe]
 exact⟨μ1,S1,xs,u,S',hr1,rs,e,k.mono p1 k1⟩
theorem Hb:nP K (fun xs H Q=>(∃ p ys,xs = [.ref p]/\(SqL K H p ys\/SqT K H p ys)/\Q (.int ys.length) H) \/ ∃ a kvs,xs = [V.ref a]/\H a=some (.dK kvs)/\Q (.int kvs.length) H) bq:=by
 intro μ S H us vs u S' Q hr rs e a
 unfold bq at e
 split at e
 ·rename_i x
  obtain⟨v,r,rfl,rx,rn⟩:=rs.inv
  rw [rn.nil_inv]
  split at e
  ·rename_i kvs qd
   cases e
   obtain⟨p,ws,rfl,hp,r'⟩:=hr.dic rx qd
   refine .inr ⟨p,_,rfl,hp,?_⟩
   have hl:kvs.length=ws.length:=by have:=r'.len;rwa [ay] at this
   rw [xA hl]
   exact a.now hr d9
  cases q:dr S x with
  | none=>rw [q] at e;cases e
  | some ws=>
    rw [q] at e;cases e
    obtain⟨p,ys,rfl,hs,r'⟩:=hr.seq rx q
    refine .inl ⟨p,ys,rfl,hs,?_⟩
    rw [<- r'.len]
    exact a.now hr d9
 ·cases e
theorem Av:nP K (fun xs H Q => ∃ p ys,xs = [.ref p]/\((SqL K H p ys /\ ∀ l,H l=none->Q (.ref l) (upd H l (.tup ys)))\/(SqT K H p ys/\Q (.ref p) H))) b5:=by
 intro μ S H us vs u S' Q hr rs e a
 unfold b5 at e
 split at e
 ·rename_i x
  obtain⟨v,r,rfl,rx,rn⟩:=rs.inv
  rw [rn.nil_inv]
  unfold dr at e
  split at e
  ·cases e
   obtain⟨p,ys,rfl,hp,r'⟩:=fO rx
   exact⟨p,ys,rfl,.inr ⟨.inl (.inl hp),a.now hr (fZ hp r')⟩⟩
  ·rename_i n
   cases q:getL S n with
   | none=>rw [q] at e;cases e
   | some ws=>
     rw [q] at e;cases e
     obtain⟨p,rfl,hp⟩:=dU rx
     obtain⟨p',ys,hp',hs,r'⟩:=hr.sq q
     rw [hp] at hp';cases hp'
     refine⟨p,ys,rfl,.inl ⟨hs,fun l hl => ?_⟩⟩
     exact a μ _ _ (Pre.refl _) (aZ.new hl) (hr.tup hl) (fZ cJ (RUs.mono (aZ.new hl) (Pre.refl _) _ _ r'))
  ·cases e
 ·cases e
theorem Dz:nP K (fun xs H Q => ∃ p ys,xs = [.ref p]/\(SqL K H p ys\/SqT K H p ys) /\ ∀ l,H l=none->Q (.ref l) (upd H l (.lst ys))) mB:=by
 intro μ S H us vs u S' Q hr rs e a
 unfold mB at e
 split at e
 ·rename_i x
  obtain⟨v,r,rfl,rx,rn⟩:=rs.inv
  rw [rn.nil_inv]
  cases q:dr S x with
  | none=>rw [q] at e;cases e
  | some ws=>
    rw [q] at e;cases e
    obtain⟨p,ys,rfl,hs,r'⟩:=hr.seq rx q
    exact⟨p,ys,rfl,hs,fun l hl=>fK a hr r' hl⟩
 ·cases e
theorem Ic:nP K (fun xs H Q => ∃ i j,xs = [.int i,.int j]/\Q (.int (if j > i then j else i)) H) oI:=by
 intro μ S H us vs u S' Q hr rs e a
 unfold oI at e
 split at e
 ·cases e
  obtain⟨v,r,rfl,rx,rs⟩:=rs.inv
  obtain⟨w,r,rfl,ry,rn⟩:=rs.inv
  rw [rn.nil_inv,cq rx,cq ry]
  exact⟨_,_,rfl,a.now hr d9⟩
 ·cases e
theorem sP : ∀ {ns:List Int}{m:Int},xM ns=some m->m∈ns /\ ∀ a∈ns,m<=a
 | [],m,h=>by cases h
 | x::xs,m,h=>by
   unfold xM at h
   cases q:xM xs with
   | none=>
     rw [q] at h;cases h
     cases xs with
     | nil=>exact⟨cX,fun a ha=>by simp at ha;omega⟩
     | cons y ys=>
       exfalso
       unfold xM at q
       split at q <;> cases q
   | some k=>
     rw [q] at h
     obtain⟨h1,h2⟩:=sP q
     have e:(if k < x then k else x)=m:=bw h
     by_cases hk:k < x
     ·rw [if_pos hk] at e;subst e
      refine⟨aO _ h1,fun a ha => ?_⟩
      rcases aK.mp ha with z | z
      ·omega
      ·exact h2 a z
     ·rw [if_neg hk] at e;subst e
      refine⟨cX,fun a ha => ?_⟩
      rcases aK.mp ha with z | z
      ·omega
      ·have:=h2 a z;omega
theorem yl {μ:List Addr} : ∀ {us:List U}{vs:List V}{ns:List Int},RUs H μ us vs->dz As us=some ns->vs=ns.map V.int
 | [],vs,ns,r,e=>by cases e;rw [r.nil_inv];rfl
 | u::us,vs,ns,r,e=>by
   obtain⟨v,r',rfl,a,b⟩:=r.inv
   unfold dz at e
   cases u with
   | int x=>
     simp only [As,ah] at e
     cases q:dz As us with
     | none=>rw [q] at e;cases e
     | some cs=>
       rw [q] at e;cases e
       rw [cq a,yl b q];rfl
   | _=>cases e
noncomputable def JT (K:ar):List V->Hp->VK->Prop:=fun xs H Q=>((∃ i j,xs = [.int i,.int j]/\Q (.int (if j < i then j else i)) H) \/ ∃ (p:Addr) (ns:List Int) (m:Int),xs = [.ref p]/\SqL K H p (ns.map V.int)/\m∈ns/\(∀ a∈ns,m<=a)/\Q (.int m) H)
theorem rR : ∀ {ns:List Int}{us:List Value},bO (ns.map V.int) us->IntsAre us ns
 | [],us,r=>by cases r;exact .nil
 | n::ns,us,r=>by
   cases r with
   | cons a b=>
     obtain⟨t,rfl⟩:=a
     exact .cons n t (rR b)
theorem Ag {X:Cx} (hc:X.calm=true) (hu:X.A.units+64 < cLine):gm X (.builtin "min") (JT X.K):=by
 intro pins s σ H xs us Q I rs h
 rcases h with h | ⟨p,ns,m,rfl,hS,hm,hle,q⟩
 ·exact z0 hc pins s σ H xs us Q I rs h
 cases rs with
 | cons r1 rr=>
   cases rr
   cases (show _=aT p from r1)
   obtain⟨its,rv,pl,_⟩:=I.list hS
   have hI:=rR rv
   have hl:=pl.isList
   obtain⟨ys,ey⟩:=hI.allInts.items
   have en:ns=ys.toList.map Prod.fst:=by rw [<- hI.numsOf,<- nums_intItems,<- ey]
   have lenE:ns.length=ys.size:=by rw [en];simp
   have pos:0 < ys.size:=by rw [<- lenE];exact List.length_pos_of_mem hm
   rw [ey] at hl
   refine min_intList (I.ok.hd hc) hl pos fun v h' tk hv hk => ?_
   obtain⟨t,rfl⟩:=intItems_at hv
   obtain⟨b1,b2⟩:=argBest_lt (numAt ys) (ys.size - 1)
   have hin:numAt ys (argBest (fun i j=>decide (numAt ys i < numAt ys j)) (ys.size - 1))∈ns:=by
    rw [en,numAt_eq]
    exact getD_mem (by rw [ay,bQ];omega)
   obtain⟨j,hj,ej⟩:=mem_getD (show m∈ys.toList.map Prod.fst from en▸hm)
   have hj':j<=ys.size - 1:=by rw [ay,bQ] at hj;omega
   have le2:=b2 j hj'
   rw [numAt_eq ys j,ej] at le2
   have le1:=hle _ hin
   have eq:numAt ys (argBest (fun i j=>decide (numAt ys i < numAt ys j)) (ys.size - 1))=m:=by omega
   exact⟨.int m,H,I.kept hk,⟨t,by rw [eq]⟩,q⟩
theorem HG:nP K (JT K) o5:=by
 intro μ S H us vs u S' Q hr rs e a
 unfold o5 at e
 split at e
 ·cases e
  obtain⟨v,r,rfl,rx,rs⟩:=rs.inv
  obtain⟨w,r,rfl,ry,rn⟩:=rs.inv
  rw [rn.nil_inv,cq rx,cq ry]
  exact .inl ⟨_,_,rfl,a.now hr d9⟩
 ·rename_i n
  obtain⟨v,r,rfl,rx,rn⟩:=rs.inv
  rw [rn.nil_inv]
  cases q:getL S n with
  | none=>rw [q] at e;cases e
  | some xs=>
    rw [q] at e
    simp only [ah] at e
    cases q2:dz As xs with
    | none=>rw [q2] at e;cases e
    | some ns=>
      rw [q2] at e
      simp only [ah] at e
      cases q3:xM ns with
      | none=>rw [q3] at e;cases e
      | some m=>
        rw [q3] at e;cases e
        obtain⟨p,rfl,hp⟩:=dU rx
        obtain⟨p',ys,hp',hs,r'⟩:=hr.sq q
        rw [hp] at hp';cases hp'
        rw [yl r' q2] at hs
        obtain⟨h1,h2⟩:=sP q3
        exact .inr ⟨p,ns,_,rfl,hs,h1,h2,a.now hr d9⟩
 ·cases e
noncomputable def MtU (K:KX) (r:V->List V->Hp->VK->Prop) (f:Nat->List U->Sto->Res U):Prop := ∀ (μ:List Addr) (S:Sto) (H:Hp) (n:Nat) (p:Addr) (us:List U) (vs:List V) (u:U) (S':Sto) (Q:VK),HR K μ S H->μ[n]? = some p->RUs H μ us vs->f n us S=some (u,S')->Aft K μ H u S' Q->r (.ref p) vs H Q
theorem GW {r:V->List V->Hp->VK->Prop}{f:Nat->List U->Sto->Res U}{o:ME}{a:MA} (m:MtU K r f) (h:tM K (mML f o a) σ H Q):tBM K "list" r (tM K o) (tMA K a) σ H Q:=by
 obtain⟨μ,S,ρ,u,S',hr,er,e,k⟩:=h
 obtain⟨x,S1,e1,e⟩:=aP e
 split at e
 ·rename_i n
  cases q:getL S1 n with
  | none=>rw [q] at e;cases e
  | some ws=>
    rw [q] at e
    obtain⟨xs,S2,e2,e⟩:=aP e
    refine⟨μ,S,ρ,_,S1,hr,er,e1,fun μ1 vx H1 p1 k1 hr1 rx => ?_⟩
    obtain⟨p,rfl,hp⟩:=dU rx
    obtain⟨p',ys,hp',hs,r'⟩:=hr1.sq q
    rw [hp] at hp';cases hp'
    refine⟨.inl ⟨rfl,ys,hs⟩,μ1,S1,ρ,xs,S2,hr1,er.mono k1 p1,e2,fun μ2 vs H2 p2 k2 hr2 rs => ?_⟩
    exact m μ2 S2 H2 n p xs vs u S' Q hr2 (p2.get hp) rs e (k.mono (p1.trans p2) (k1.trans k2))
 ·cases e
theorem IQ {r:V->List V->Hp->VK->Prop}{f:Nat->List U->Sto->Res U}{o:ME} (m:MtU K r f) (h:tM K (mML f o af) σ H Q):J0 K "list" r (tM K o) σ H Q:=by
 obtain⟨μ,S,ρ,u,S',hr,er,e,k⟩:=h
 obtain⟨x,S1,e1,e⟩:=aP e
 split at e
 ·rename_i n
  cases q:getL S1 n with
  | none=>rw [q] at e;cases e
  | some ws=>
    rw [q] at e
    refine⟨μ,S,ρ,_,S1,hr,er,e1,fun μ1 vx H1 p1 k1 hr1 rx => ?_⟩
    obtain⟨p,rfl,hp⟩:=dU rx
    obtain⟨p',ys,hp',hs,r'⟩:=hr1.sq q
    rw [hp] at hp';cases hp'
    exact⟨.inl ⟨rfl,ys,hs⟩,m μ1 S1 H1 n p [] [] u S' Q hr1 hp .nil e (k.mono p1 k1)⟩
 ·cases e
theorem ui {μ:List Addr}{S:Sto}{n:Nat}{us ws:List U}{vs:List V}{p:Addr}{u:U}{v:V} (k:Aft K μ H u (S.set n (.lst ws)) Q) (hr:HR K μ S H) (e:S[n]? = some (.lst us)) (hp:μ[n]? = some p) (rs:RUs H μ ws vs) (ru:RU H μ u v) :
  Q v (upd H p (.lst vs)):=by
 obtain⟨vs0,e0,_⟩:=hr.cell n _ p e hp
 exact k μ _ _ (Pre.refl _) (aZ.wr e0) (hr.wr e hp rs) (RU.mono (aZ.wr e0) (Pre.refl _) _ _ ru)
theorem zl:MtU K yT cn:=by
 intro μ S H n p us vs u S' Q hr hp rs e a
 unfold cn at e
 split at e
 ·split at e
  ·rename_i ws q
   split at e
   ·rename_i hc
    cases e
    obtain⟨v,r,rfl,rx,rn⟩:=rs.inv
    rw [rn.nil_inv]
    obtain⟨xs,e0,r0⟩:=hr.cell n _ p q hp
    refine⟨p,xs,v,rfl,rfl,e0,?_,ui a hr q hp (r0.append (.cons rx .nil)) pK⟩
    have:=r0.len;unfold big at hc;rw [sizeLine_eq];omega
   ·cases e
  ·cases e
 ·cases e
theorem GQ {n:Nat}{i:Int}{j:Nat} (h:ixN n i=some j):j < n /\ -(n:Int)<=i/\i < n:=by
 unfold ixN at h
 split at h
 ·split at h
  ·cases h;omega
  ·cases h
 ·split at h
  ·cases h;omega
  ·cases h
theorem ET {n:Nat}{i:Int}{j:Nat} (h:ixN n i=some j):seqIndex? i n=some j:=by
 unfold ixN at h
 unfold seqIndex?
 split at h
 ·split at h
  ·cases h
   rename_i h0 h1
   simp only [show ¬ i < 0 by omega,if_false]
   first
    | (rw [if_pos (by omega)])
    | (simp;omega)
  ·cases h
 ·split at h
  ·cases h
   rename_i h0 h1
   simp only [show i < 0 by omega,if_true]
   first
    | (rw [if_pos (by omega)])
    | (simp;omega)
  ·cases h
theorem Hk:MtU K Je pO:=by
 intro μ S H n p us vs u S' Q hr hp rs e a
 unfold pO at e
 split at e
 ·split at e
  ·rename_i ws q
   cases z:ws[ws.length - 1]? with
   | none=>rw [z] at e;cases e
   | some y=>
     rw [z] at e;cases e
     rw [rs.nil_inv]
     obtain⟨xs,e0,r0⟩:=hr.cell n _ p q hp
     obtain⟨v,hv,rv⟩:=r0.get z
     exact⟨p,xs,v,rfl,rfl,e0,by rw [<- r0.len];exact hv,ui a hr q hp r0.dropLast rv⟩
  ·cases e
 ·cases e
theorem Ap:MtU K AG jy:=by
 intro μ S H n p us vs u S' Q hr hp rs e a
 unfold jy at e
 split at e
 ·rename_i i
  split at e
  ·rename_i ws q
   split at e
   rotate_left
   ·cases e
   rename_i hR
   cases z:ixN ws.length i with
   | none=>rw [z] at e;cases e
   | some j=>
     rw [z] at e
     simp only [ah] at e
     cases z2:ws[j]? with
     | none=>rw [z2] at e;cases e
     | some y=>
       rw [z2] at e;cases e
       obtain⟨v,r,rfl,rx,rn⟩:=rs.inv
       rw [rn.nil_inv,cq rx]
       obtain⟨xs,e0,r0⟩:=hr.cell n _ p q hp
       obtain⟨w,hw,rw'⟩:=r0.get z2
       have hl:=GQ z
       have hlen:=r0.len
       refine⟨p,xs,i,j,w,rfl,rfl,e0,?_,?_,?_,hw,ui a hr q hp (r0.eraseIdx j) rw'⟩
       ·have:=hR.1;omega
       ·have:=hR.2;omega
       ·rw [<- hlen];exact ET z
  ·cases e
 ·cases e
theorem xF {t:TE}{m:ME}{Q:Bool->Hp->Prop} (ht : ∀ Q,tM K m σ H Q->t σ H Q) (h:tMT K (cOf m) σ H Q):Bn t σ H Q:=by
 obtain⟨μ,S,ρ,b,S',hr,er,e,k⟩:=h
 obtain⟨x,S1,e1,e⟩:=aP e
 split at e
 ·cases e
  refine ht _ ⟨μ,S,ρ,_,_,hr,er,e1,fun μ1 vx H1 p1 k1 hr1 rx => ?_⟩
  exact⟨_,iz rx,k μ1 H1 p1 k1 hr1⟩
 ·cases e
theorem LC {t:TE}{m:ME}{Q:Bool->Hp->Prop} (ht : ∀ Q,tM K m σ H Q->t σ H Q) (h:tMT K (cOf m) σ H Q):tB t σ H Q:=xF ht h
theorem IU {a b:MT}{Q:Bool->Hp->Prop} (h:tMT K (j8 a b) σ H Q):L2.JO (tMT K a) (tMT K b) σ H Q:=by
 obtain⟨μ,S,ρ,c,S',hr,er,e,k⟩:=h
 obtain⟨x,S1,e1,e⟩:=aP e
 refine⟨μ,S,ρ,x,S1,hr,er,e1,fun μ1 H1 p1 k1 hr1 => ?_⟩
 cases x with
 | true=>exact mL ⟨μ1,S1,ρ,c,S',hr1,er.mono k1 p1,e,fun μ2 H2 p2 k2=>k μ2 H2 (p1.trans p2) (k1.trans k2)⟩
 | false=>
   have e':some (false,S1)=some (c,S'):=e
   cases e'
   exact mJ (k μ1 H1 p1 k1 hr1)
theorem Lu {a b:MT}{Q:Bool->Hp->Prop} (h:tMT K (cOr a b) σ H Q):L2.tOr (tMT K a) (tMT K b) σ H Q:=by
 obtain⟨μ,S,ρ,c,S',hr,er,e,k⟩:=h
 obtain⟨x,S1,e1,e⟩:=aP e
 refine⟨μ,S,ρ,x,S1,hr,er,e1,fun μ1 H1 p1 k1 hr1 => ?_⟩
 cases x with
 | true=>
   have e':some (true,S1)=some (c,S'):=e
   cases e'
   exact mL (k μ1 H1 p1 k1 hr1)
 | false=>exact mJ ⟨μ1,S1,ρ,c,S',hr1,er.mono k1 p1,e,fun μ2 H2 p2 k2=>k μ2 H2 (p1.trans p2) (k1.trans k2)⟩
theorem K2 {a:MT}{Q:Bool->Hp->Prop} (h:tMT K (lW a) σ H Q):L2.Ja (tMT K a) σ H Q:=by
 obtain⟨μ,S,ρ,c,S',hr,er,e,k⟩:=h
 obtain⟨x,S1,e1,e⟩:=aP e
 cases e
 exact⟨μ,S,ρ,x,_,hr,er,e1,fun μ1 H1 p1 k1 hr1=>k μ1 H1 p1 k1 hr1⟩
section
variable {D:Ends}
theorem Bt (h:tMS K dP D σ H):BC D σ H:=by
 obtain⟨μ,S,ρ,r,hr,er,e,k⟩:=h
 cases e
 exact k μ σ H (Pre.refl _) (aZ.refl _) hr er
theorem IS {a b:MS} (h:tMS K (bf a b) D σ H):JJ (tMS K a) (tMS K b) D σ H:=by
 obtain⟨μ,S,ρ,r,hr,er,e,k⟩:=h
 unfold bf at e
 split at e
 ·rename_i ρ1 S1 q
  refine⟨μ,S,ρ,_,hr,er,q,fun μ1 σ1 H1 p1 k1 hr1 er1 => ?_⟩
  exact⟨μ1,S1,ρ1,r,hr1,er1,e,k.mono p1 k1⟩
 ·rename_i q
  refine⟨μ,S,ρ,r,hr,er,e,?_⟩
  obtain⟨f,ρ',S'⟩:=r
  cases f with
  | nx=>exact absurd e (q ρ' S')
  | bk=>exact k
  | ct=>exact k
  | rt u=>exact k
theorem Fw {i:Nat}{m:ME} (h:tMS K (bB i m) D σ H):zC (tM K m) (jk i) D σ H:=by
 obtain⟨μ,S,ρ,r,hr,er,e,k⟩:=h
 obtain⟨x,S1,e1,e⟩:=aP e
 cases e
 exact⟨μ,S,ρ,x,S1,hr,er,e1,fun μ1 vx H1 p1 k1 hr1 rx=>k μ1 _ H1 p1 k1 hr1 ((er.mono k1 p1).set rx i)⟩
noncomputable def IE:AH:=fun o i v H Q => ∃ a H',o = .ref a/\zL H a i v H'/\Q H'
noncomputable def Bk:AH:=fun o i v H Q=>Fg o i v H Q\/IE o i v H Q
theorem yA {X:Cx} (hu:X.A.units+1 < cLine):Gg X Bk:=by
 intro pins s σ H o i v ov iv u Q I ro ri rv h
 rcases h with h | ⟨a,H',rfl,g,q⟩
 ·exact set_list pins s σ H o i v ov iv u Q I ro ri rv h
 ·obtain rfl:ov=aT a:=ro
  exact zB hu I g ri rv fun s4 I4=>⟨H',I4,q⟩
theorem Dj {o i m:ME} (h:tMS K (mT o i m) D σ H):zC (tM K m) (Gu (tM K o) (tM K i) Bk) D σ H:=by
 obtain⟨μ,S,ρ,r,hr,er,e,k⟩:=h
 obtain⟨x,S1,e1,e⟩:=aP e
 obtain⟨p,S2,e2,e⟩:=aP e
 obtain⟨j,S3,e3,e⟩:=aP e
 cases p with
 | ref n=>
   simp only at e
   split at e
   ·rename_i us q
    split at e
    rotate_left
    ·cases e
    rename_i kk
    cases z:ixN us.length kk with
    | none=>rw [z] at e;cases e
    | some m'=>
      rw [z] at e;cases e
      refine⟨μ,S,ρ,x,S1,hr,er,e1,fun μ1 vx H1 p1 k1 hr1 rx => ?_⟩
      refine⟨μ1,S1,ρ,_,S2,hr1,er.mono k1 p1,e2,fun μ2 vo H2 p2 k2 hr2 ro => ?_⟩
      refine⟨μ2,S2,ρ,_,S3,hr2,er.mono (k1.trans k2) (p1.trans p2),e3,fun μ3 vi H3 p3 k3 hr3 ri => ?_⟩
      obtain⟨a,rfl,ha⟩:=dU ro
      have ha3:=p3.get ha
      obtain⟨vs,e0,r0⟩:=hr3.cell n _ a q ha3
      have rx3:RU H3 μ3 x vx:=RU.mono (k2.trans k3) (p2.trans p3) _ _ rx
      refine .inl ⟨a,vs,kk,m',rfl,cq ri,e0,by rw [<- r0.len];exact z,?_⟩
      have kw:aZ H3 (upd H3 a (.lst (vs.set m' vx))):=aZ.wr e0
      exact k μ3 _ _ (p1.trans (p2.trans p3)) (k1.trans (k2.trans (k3.trans kw))) (hr3.wr q ha3 (r0.set rx3 m')) (er.mono (k1.trans (k2.trans (k3.trans kw))) (p1.trans (p2.trans p3)))
   ·rename_i kvs q
    cases qk:keyOf j with
    | none=>rw [qk] at e;cases e
    | some kk=>
      rw [qk] at e
      simp only [ah] at e
      split at e
      ·rename_i hz
       cases e
       refine⟨μ,S,ρ,x,S1,hr,er,e1,fun μ1 vx H1 p1 k1 hr1 rx => ?_⟩
       refine⟨μ1,S1,ρ,_,S2,hr1,er.mono k1 p1,e2,fun μ2 vo H2 p2 k2 hr2 ro => ?_⟩
       refine⟨μ2,S2,ρ,_,S3,hr2,er.mono (k1.trans k2) (p1.trans p2),e3,fun μ3 vi H3 p3 k3 hr3 ri => ?_⟩
       obtain⟨a,rfl,ha⟩:=dU ro
       have ha3:=p3.get ha
       obtain⟨vs,e0,r0⟩:=hr3.cell n _ a q ha3
       have rx3:RU H3 μ3 x vx:=RU.mono (k2.trans k3) (p2.trans p3) _ _ rx
       have hl:kvs.length=vs.length:=by have:=r0.len;rwa [ay] at this
       obtain⟨ws,ew,rw'⟩:=yL (k:=kk) rx3 r0
       have kw:aZ H3 (upd H3 a (.dK (putK (dV kvs vs) kk vx))):=aZ.wrG e0 fun _ z=>by cases z
       refine .inr ⟨a,_,rfl,.inl ⟨_,kk,e0,lK ri qk,by rw [xA hl,sizeLine_eq];exact hz,rfl⟩,?_⟩
       exact k μ3 _ _ (p1.trans (p2.trans p3)) (k1.trans (k2.trans (k3.trans kw))) (hr3.wrC q ha3 rfl rfl ⟨ws,by rw [ew];exact cJ,RUs.mono kw (Pre.refl _) _ _ rw'⟩) (er.mono (k1.trans (k2.trans (k3.trans kw))) (p1.trans (p2.trans p3)))
      ·cases e
   ·cases e
 | _=>cases e
theorem Ge {m:ME} (h:tMS K (dj m) D σ H):Fq (tM K m) D σ H:=by
 obtain⟨μ,S,ρ,r,hr,er,e,k⟩:=h
 obtain⟨x,S1,e1,e⟩:=aP e
 cases e
 exact⟨μ,S,ρ,x,S1,hr,er,e1,fun μ1 vx H1 p1 k1 hr1 rx=>k μ1 σ H1 p1 k1 hr1 (er.mono k1 p1)⟩
theorem Kp {m:ME} (h:tMS K (dh m) D σ H):Kk (tM K m) D σ H:=by
 obtain⟨μ,S,ρ,r,hr,er,e,k⟩:=h
 obtain⟨x,S1,e1,e⟩:=aP e
 cases e
 exact⟨μ,S,ρ,x,S1,hr,er,e1,k⟩
theorem Li {c:MT}{a b:MS} (h:tMS K (sIf c a b) D σ H):Kg (tMT K c) (tMS K a) (tMS K b) D σ H:=by
 obtain⟨μ,S,ρ,r,hr,er,e,k⟩:=h
 obtain⟨x,S1,e1,e⟩:=aP e
 refine⟨μ,S,ρ,x,S1,hr,er,e1,fun μ1 H1 p1 k1 hr1 => ?_⟩
 cases x with
 | true=>exact mL ⟨μ1,S1,ρ,r,hr1,er.mono k1 p1,e,k.mono p1 k1⟩
 | false=>exact mJ ⟨μ1,S1,ρ,r,hr1,er.mono k1 p1,e,k.mono p1 k1⟩
theorem nN {b:MS}{ρ:Rho}{S:Sto}{μ μ0:List Addr}{H0:Hp}{k:MS}{r:Fl×Rho×Sto}{N:St->Hp->Prop} (hr:HR K μ S H) (er:ER H μ ρ σ) (e:aft (b ρ S) k=some r) (p:Pre μ0 μ) (kp:aZ H0 H) (fl:FlP K μ0 H0 D r)
  (hN : ∀ μ1 σ1 H1 ρ1 S1,Pre μ0 μ1->aZ H0 H1->HR K μ1 S1 H1->ER H1 μ1 ρ1 σ1->k ρ1 S1=some r->N σ1 H1):tMS K b { D with nx:=N,ct:=N,bk:=D.nx } σ H:=by
 unfold aft at e
 split at e
 ·rename_i ρ1 S1 q
  exact⟨μ,S,ρ,_,hr,er,q,fun μ1 σ1 H1 p1 k1 hr1 er1=>hN μ1 σ1 H1 ρ1 S1 (p.trans p1) (kp.trans k1) hr1 er1 e⟩
 ·rename_i ρ1 S1 q
  exact⟨μ,S,ρ,_,hr,er,q,fun μ1 σ1 H1 p1 k1 hr1 er1=>hN μ1 σ1 H1 ρ1 S1 (p.trans p1) (kp.trans k1) hr1 er1 e⟩
 ·rename_i ρ1 S1 q
  cases e
  exact⟨μ,S,ρ,_,hr,er,q,fun μ1 σ1 H1 p1 k1 hr1 er1=>fl μ1 σ1 H1 (p.trans p1) (kp.trans k1) hr1 er1⟩
 ·rename_i q1 q2 q3
  refine⟨μ,S,ρ,r,hr,er,e,?_⟩
  obtain⟨f,ρ',S'⟩:=r
  cases f with
  | nx=>exact absurd e (q1 ρ' S')
  | ct=>exact absurd e (q2 ρ' S')
  | bk=>exact absurd e (q3 ρ' S')
  | rt u=>exact Aft.mono fl p kp
theorem drop_cons {α:Type}{l:List α}{i:Nat}{x:α} (h:l[i]? = some x):l.drop i=x::l.drop (i+1):=by
 obtain⟨hi,e⟩:=ag.mp h
 rw [yb hi,e]
theorem HU {i:Nat}{b:MS}{us:List U}{vs:List V}{ρ:Rho}{S:Sto}{μ:List Addr}{a:Addr}{r:Fl×Rho×Sto} (hr:HR K μ S H) (er:ER H μ ρ σ) (e:pQ i b us ρ S=some r) (fl:FlP K μ H D r) (ha:H a=some (.tup vs)) (ru:RUs H μ us vs) :
  ∃ W:Nat->Nat->St->Hp->Prop,(∃ m,W 0 m σ H) /\ ∀ k m σ H,W k m σ H ->
   ((Itt K a).stop k H/\D.nx σ H)\/((Itt K a).go k H /\ ∃ N:St->Hp->Prop,(∀ σ' H',N σ' H' -> ∃ m',m' < m/\W (k+1) m' σ' H') /\ ∀ x H',(Itt K a).yld k H x H'->jk i x σ H' fun σ2 H2=>tMS K b { D with nx:=N,ct:=N,bk:=D.nx } σ2 H2):=by
 refine DK (xs:=vs) (fun k σ1 H1 => ∃ μ1 S1 ρ1,Pre μ μ1/\aZ H H1/\HR K μ1 S1 H1/\ER H1 μ1 ρ1 σ1/\pQ i b (us.drop k) ρ1 S1=some r) ⟨μ,S,ρ,Pre.refl _,aZ.refl _,hr,er,e⟩ ?_ ?_ ?_
 ·rintro k σ1 H1 _ ⟨μ1,S1,ρ1,p1,k1,_⟩
  exact .inl (.inl (k1 a vs ha))
 ·rintro k x σ1 H1 hx ⟨μ1,S1,ρ1,p1,k1,hr1,er1,e1⟩
  have hk:k < us.length:=by rw [ru.len];exact (ag.mp hx).1
  have hu:us[k]? = some us[k]:=by simp [hk]
  obtain⟨v,hv,rv⟩:=ru.get hu
  rw [hx] at hv;cases hv
  rw [drop_cons hu] at e1
  have rv1:RU H1 μ1 us[k] x:=RU.mono k1 p1 _ _ rv
  exact nN hr1 (er1.set rv1 i) e1 p1 k1 fl fun μ2 σ2 H2 ρ2 S2 p2 k2 hr2 er2 e2=>⟨μ2,S2,ρ2,p2,k2,hr2,er2,e2⟩
 ·rintro σ1 H1 ⟨μ1,S1,ρ1,p1,k1,hr1,er1,e1⟩
  rw [<- ru.len,iJ] at e1
  cases e1
  exact fl μ1 σ1 H1 p1 k1 hr1 er1
theorem Bm {i:Nat}{b:MS}{lo:Int}{n:Nat}{ρ:Rho}{S:Sto}{μ:List Addr}{r:Fl×Rho×Sto} (hr:HR K μ S H) (er:ER H μ ρ σ) (e:pQ i b (bg lo n) ρ S=some r) (fl:FlP K μ H D r) :
  ∃ W:Nat->Nat->St->Hp->Prop,(∃ m,W 0 m σ H) /\ ∀ k m σ H,W k m σ H ->
   ((Itr lo n).stop k H/\D.nx σ H)\/((Itr lo n).go k H /\ ∃ N:St->Hp->Prop,(∀ σ' H',N σ' H' -> ∃ m',m' < m/\W (k+1) m' σ' H') /\ ∀ x H',(Itr lo n).yld k H x H'->jk i x σ H' fun σ2 H2=>tMS K b { D with nx:=N,ct:=N,bk:=D.nx } σ2 H2):=by
 refine zx (fun k σ1 H1 => ∃ μ1 S1 ρ1,Pre μ μ1/\aZ H H1/\HR K μ1 S1 H1/\ER H1 μ1 ρ1 σ1/\pQ i b ((bg lo n).drop k) ρ1 S1=some r) ⟨μ,S,ρ,Pre.refl _,aZ.refl _,hr,er,e⟩ ?_ ?_
 ·rintro k σ1 H1 hk ⟨μ1,S1,ρ1,p1,k1,hr1,er1,e1⟩
  have hu:(bg lo n)[k]? = some (.int (lo+k)):=by simp [bg,hk]
  rw [drop_cons hu] at e1
  exact nN hr1 (er1.set d9 i) e1 p1 k1 fl fun μ2 σ2 H2 ρ2 S2 p2 k2 hr2 er2 e2=>⟨μ2,S2,ρ2,p2,k2,hr2,er2,e2⟩
 ·rintro σ1 H1 ⟨μ1,S1,ρ1,p1,k1,hr1,er1,e1⟩
  have hl:(bg lo n).length=n:=by simp [bg]
  rw [List.drop_eq_nil_of_le (by exact nc (by assumption))] at e1
  cases e1
  exact fl μ1 σ1 H1 p1 k1 hr1 er1
theorem GD {i:Nat}{b:MS}{n f:Nat}{ρ:Rho}{S:Sto}{μ:List Addr}{a:Addr}{r:Fl×Rho×Sto} (hr:HR K μ S H) (er:ER H μ ρ σ) (e:forL i b n f 0 ρ S=some r) (fl:FlP K μ H D r) (ha:μ[n]? = some a) :
  ∃ W:Nat->Nat->St->Hp->Prop,(∃ m,W 0 m σ H) /\ ∀ k m σ H,W k m σ H ->
   ((Itl K a).stop k H/\D.nx σ H)\/((Itl K a).go k H /\ ∃ N:St->Hp->Prop,(∀ σ' H',N σ' H' -> ∃ m',m' < m/\W (k+1) m' σ' H') /\ ∀ x H',(Itl K a).yld k H x H'->jk i x σ H' fun σ2 H2=>tMS K b { D with nx:=N,ct:=N,bk:=D.nx } σ2 H2):=by
 refine⟨fun k m σ1 H1 => ∃ μ1 S1 ρ1,Pre μ μ1/\aZ H H1/\HR K μ1 S1 H1/\ER H1 μ1 ρ1 σ1/\forL i b n m k ρ1 S1=some r,⟨f,μ,S,ρ,Pre.refl _,aZ.refl _,hr,er,e⟩,?_⟩
 rintro k m σ1 H1 ⟨μ1,S1,ρ1,p1,k1,hr1,er1,e1⟩
 cases m with
 | zero=>cases e1
 | succ m=>
   unfold forL at e1
   cases q:getL S1 n with
   | none=>rw [q] at e1;cases e1
   | some us=>
     rw [q] at e1
     simp only [ah] at e1
     obtain⟨a',vs,ha',hs,rs⟩:=hr1.sq q
     rw [p1.get ha] at ha';cases ha'
     cases z:us[k]? with
     | none=>
       rw [z] at e1
       cases e1
       refine .inl ⟨⟨vs,hs,?_⟩,fl μ1 σ1 H1 p1 k1 hr1 er1⟩
       rw [<- rs.len];exact d7.mp z
     | some u=>
       rw [z] at e1
       obtain⟨v,hv,rv⟩:=rs.get z
       refine .inr ⟨⟨vs,v,hs,hv⟩,fun σ2 H2 => ∃ μ2 S2 ρ2,Pre μ μ2/\aZ H H2/\HR K μ2 S2 H2/\ER H2 μ2 ρ2 σ2/\forL i b n m (k+1) ρ2 S2=some r,fun σ' H' w=>⟨m,aV _,w⟩,fun x H' y => ?_⟩
       obtain⟨e',y⟩:=y
       subst e'
       have hx:=y vs hs
       rw [hv] at hx;cases hx
       exact nN hr1 (er1.set rv i) e1 p1 k1 fl fun μ2 σ2 H2 ρ2 S2 p2 k2 hr2 er2 e2=>⟨μ2,S2,ρ2,p2,k2,hr2,er2,e2⟩
theorem DP {c:MT}{b:MS} (h:tMS K (j6 c b) D σ H):Ay (tMT K c) (tMS K b) D σ H:=by
 obtain⟨μ,S,ρ,r,hr,er,e,fl⟩:=h
 refine⟨fun m σ1 H1 => ∃ μ1 S1 ρ1,Pre μ μ1/\aZ H H1/\HR K μ1 S1 H1/\ER H1 μ1 ρ1 σ1/\whl c b m ρ1 S1=some r,⟨fuel,μ,S,ρ,Pre.refl _,aZ.refl _,hr,er,e⟩,?_⟩
 rintro m σ1 H1 ⟨μ1,S1,ρ1,p1,k1,hr1,er1,e1⟩
 cases m with
 | zero=>cases e1
 | succ m=>
   unfold whl at e1
   obtain⟨x,S2,e2,e1⟩:=aP e1
   refine⟨μ1,S1,ρ1,x,S2,hr1,er1,e2,fun μ2 H2 p2 k2 hr2 => ?_⟩
   cases x with
   | true=>
     refine mL ⟨fun σ3 H3 => ∃ μ3 S3 ρ3,Pre μ μ3/\aZ H H3/\HR K μ3 S3 H3/\ER H3 μ3 ρ3 σ3/\whl c b m ρ3 S3=some r,fun σ' H' w=>⟨m,aV _,w⟩,?_⟩
     exact nN hr2 (er1.mono k2 p2) e1 (p1.trans p2) (k1.trans k2) fl fun μ3 σ3 H3 ρ3 S3 p3 k3 hr3 er3 e3=>⟨μ3,S3,ρ3,p3,k3,hr3,er3,e3⟩
   | false=>
     have e':some (Fl.nx,ρ1,S2)=some r:=e1
     cases e'
     exact mJ (fl μ2 σ1 H2 (p1.trans p2) (k1.trans k2) hr2 (er1.mono k2 p2))
end
end
end G
end
section
namespace G
open PySem PySem.Spec L2
open PyProof.Rows hiding St
section
variable {K:KX}{σ:St}{H:Hp}{Q:VK}{D:Ends}
theorem Fj {a:MA}{R:It->Hp->Prop}{μ:List Addr}{S S1:Sto}{ρ:Rho}{src:Src} (hr:HR K μ S H) (er:ER H μ ρ σ) (e:iR1 a ρ S=some (src,S1))
  (hR : ∀ μ1 H1 n,Pre μ μ1->aZ H H1->HR K μ1 S1 H1->src = .imm (bg 0 n)->R (Itr 0 n) H1):vm (tMA K a) σ H R:=by
 obtain⟨xs,S2,e1,e⟩:=aP e
 split at e
 ·rename_i j
  split at e
  ·rename_i hj
   cases e
   refine⟨μ,S,ρ,_,_,hr,er,e1,fun μ1 vs H1 p1 k1 hr1 rs => ?_⟩
   obtain⟨v,r,rfl,rx,rn⟩:=rs.inv
   rw [rn.nil_inv,cq rx]
   exact⟨j,rfl,hj.1,hj.2,hR μ1 H1 _ p1 k1 hr1 rfl⟩
  ·cases e
 ·cases e
theorem FF {a:MA}{R:It->Hp->Prop}{μ:List Addr}{S S1:Sto}{ρ:Rho}{src:Src} (hr:HR K μ S H) (er:ER H μ ρ σ) (e:iR2 a ρ S=some (src,S1))
  (hR : ∀ μ1 H1 lo n,Pre μ μ1->aZ H H1->HR K μ1 S1 H1->src = .imm (bg lo n)->R (Itr lo n) H1):uD (tMA K a) σ H R:=by
 obtain⟨xs,S2,e1,e⟩:=aP e
 split at e
 ·rename_i i j
  split at e
  ·rename_i hj
   cases e
   refine⟨μ,S,ρ,_,_,hr,er,e1,fun μ1 vs H1 p1 k1 hr1 rs => ?_⟩
   obtain⟨v,r,rfl,rx,rs⟩:=rs.inv
   obtain⟨w,r,rfl,ry,rn⟩:=rs.inv
   rw [rn.nil_inv,cq rx,cq ry]
   exact⟨i,j,rfl,⟨hj.1.1,hj.1.2,hj.2.1,hj.2.2⟩,hR μ1 H1 _ _ p1 k1 hr1 rfl⟩
  ·cases e
 ·cases e
theorem tX {a:ME}{R:It->Hp->Prop}{μ:List Addr}{S S1:Sto}{ρ:Rho}{src:Src} (hr:HR K μ S H) (er:ER H μ ρ σ) (e:cZ a ρ S=some (src,S1))
  (hT : ∀ μ1 H1 us p vs,Pre μ μ1->aZ H H1->HR K μ1 S1 H1->src = .imm us->H1 p=some (.tup vs)->RUs H1 μ1 us vs->R (Itt K p) H1)
  (hL : ∀ μ1 H1 n p,Pre μ μ1->aZ H H1->HR K μ1 S1 H1->src = .mut n->μ1[n]? = some p->R (Itl K p) H1):pN K (tM K a) σ H R\/xZ K (tM K a) σ H R:=by
 obtain⟨x,S2,e1,e⟩:=aP e
 split at e
 ·cases e
  refine .inr ⟨μ,S,ρ,_,_,hr,er,e1,fun μ1 vx H1 p1 k1 hr1 rx => ?_⟩
  obtain⟨p,vs,rfl,hp,r⟩:=fO rx
  exact⟨p,rfl,⟨vs,.inl (.inl hp)⟩,hT μ1 H1 _ p vs p1 k1 hr1 rfl hp r⟩
 ·rename_i n
  cases q:getL S2 n with
  | none=>rw [q] at e;cases e
  | some ws=>
    rw [q] at e;cases e
    refine .inl ⟨μ,S,ρ,_,_,hr,er,e1,fun μ1 vx H1 p1 k1 hr1 rx => ?_⟩
    obtain⟨p,rfl,hp⟩:=dU rx
    obtain⟨p',ys,hp',hs,r'⟩:=hr1.sq q
    rw [hp] at hp';cases hp'
    exact⟨p,rfl,⟨ys,hs⟩,hL μ1 H1 n p p1 k1 hr1 rfl hp⟩
 ·cases e
theorem IP {i:Nat}{a:MA}{b:MS} (h:tMS K (eB i (iR1 a) b) D σ H):tV (vm (tMA K a)) (jk i) (tMS K b) D σ H:=by
 obtain⟨μ,S,ρ,r,hr,er,e,fl⟩:=h
 obtain⟨src,S1,e1,e⟩:=aP e
 refine Fj hr er e1 fun μ1 H1 n p1 k1 hr1 hs => ?_
 subst hs
 exact Bm hr1 (er.mono k1 p1) e (fl.mono p1 k1)
theorem Kz {i:Nat}{a:MA}{b:MS} (h:tMS K (eB i (iR2 a) b) D σ H):tV (uD (tMA K a)) (jk i) (tMS K b) D σ H:=by
 obtain⟨μ,S,ρ,r,hr,er,e,fl⟩:=h
 obtain⟨src,S1,e1,e⟩:=aP e
 refine FF hr er e1 fun μ1 H1 lo n p1 k1 hr1 hs => ?_
 subst hs
 exact Bm hr1 (er.mono k1 p1) e (fl.mono p1 k1)
theorem Lh {i:Nat}{a:ME}{b:MS} (h:tMS K (eB i (cZ a) b) D σ H):tV (fun σ H R=>pN K (tM K a) σ H R\/xZ K (tM K a) σ H R) (jk i) (tMS K b) D σ H:=by
 obtain⟨μ,S,ρ,r,hr,er,e,fl⟩:=h
 obtain⟨src,S1,e1,e⟩:=aP e
 refine tX hr er e1 (fun μ1 H1 us p vs p1 k1 hr1 hs hp rs => ?_) fun μ1 H1 n p p1 k1 hr1 hs hp => ?_
 ·subst hs
  exact HU hr1 (er.mono k1 p1) e (fl.mono p1 k1) hp rs
 ·subst hs
  exact GD hr1 (er.mono k1 p1) e (fl.mono p1 k1) hp
theorem oC {t:MT}{e:ME}{ρ:Rho} : ∀ {us acc ys:List U}{S S':Sto},gF t e ρ us acc S=some (ys,S')->acc.length<=ys.length
 | [],acc,ys,S,S',h=>by cases h;exact aq _
 | x::us,acc,ys,S,S',h=>by
   obtain⟨k,S1,e1,h⟩:=aP h
   cases k with
   | true=>
     obtain⟨y,S2,e2,h⟩:=aP (show bnd (e (ρ ++ [some x]) S1) (fun y S2=>gF t e ρ us (acc ++ [y]) S2)=some (ys,S') from h)
     have:=oC h
     simp at this;exact cK (by assumption)
   | false=>exact oC (show gF t e ρ us acc S1=some (ys,S') from h)
theorem oA {t:MT}{e:ME}{ρ:Rho}{n:Nat} : ∀ {f i:Nat}{acc ys:List U}{S S':Sto},kS t e ρ n f i acc S=some (ys,S')->acc.length<=ys.length
 | 0,i,acc,ys,S,S',h=>by cases h
 | f+1,i,acc,ys,S,S',h=>by
   unfold kS at h
   cases q:getL S n with
   | none=>rw [q] at h;cases h
   | some us=>
     rw [q] at h
     simp only [ah] at h
     cases z:us[i]? with
     | none=>rw [z] at h;cases h;exact aq _
     | some x=>
       rw [z] at h
       obtain⟨k,S1,e1,h⟩:=aP h
       cases k with
       | true=>
         obtain⟨y,S2,e2,h⟩:=aP (show bnd (e (ρ ++ [some x]) S1) (fun y S2=>kS t e ρ n f (i+1) (acc ++ [y]) S2)=some (ys,S') from h)
         have:=oA h
         simp at this;exact cK (by assumption)
       | false=>exact oA (show kS t e ρ n f (i+1) acc S1=some (ys,S') from h)
noncomputable def yk (J:It) (σ:St) (tt:TT) (te:TE) (H1:Hp) (Q:VK):Prop := ∃ W:Nat->Nat->List V->Hp->Prop,(∃ m,W 0 m [] H1) /\ ∀ i m ys H,W i m ys H->ys.length < sizeLine /\
 ((J.stop i H /\ ∀ D,H D=none->Q (.ref D) (upd H D (.lst ys))) \/
  (J.go i H /\ ∀ x H',J.yld i H x H'->tt (σ ++ [some x]) H' fun b H3=>if b=true then te (σ ++ [some x]) H3 fun y H4 => ∃ m',m' < m/\W (i+1) m' (ys ++ [y]) H4 else ∃ m',m' < m/\W (i+1) m' ys H3))
theorem wc {J:It}{t:MT}{e:ME}{ρ:Rho}{us ys:List U}{μ:List Addr}{S S':Sto} (hr:HR K μ S H) (er:ER H μ ρ σ) (h:gF t e ρ us [] S=some (ys,S')) (hz:ys.length < big) (k:Aft K μ H (.ref S'.length) (S' ++ [.lst ys]) Q)
  (hstop : ∀ H',aZ H H'->J.stop us.length H') (hgo : ∀ (i:Nat) H',i < us.length->aZ H H'->J.go i H')
  (hy : ∀ (i:Nat) H' x H'' (u:U),us[i]? = some u->aZ H H'->J.yld i H' x H''->H''=H'/\RU H μ u x):yk J σ (tMT K t) (tM K e) H Q:=by
 have hz':ys.length < sizeLine:=by unfold big at hz;rw [sizeLine_eq];exact hz
 refine⟨fun i m acc H1=>m=us.length - i/\i<=us.length /\ ∃ μ1 S1 au,Pre μ μ1/\aZ H H1/\HR K μ1 S1 H1/\RUs H1 μ1 au acc/\gF t e ρ (us.drop i) au S1=some (ys,S'),⟨_,rfl,da _,μ,S,[],Pre.refl _,aZ.refl _,hr,.nil,h⟩,?_⟩
 rintro i m acc H1 ⟨rfl,hi,μ1,S1,au,p1,k1,hr1,ra,e1⟩
 have hl:=oC e1
 have hl2:=ra.len
 refine⟨by omega,?_⟩
 by_cases hlt:i < us.length
 ·have hu:us[i]? = some us[i]:=by simp [hlt]
  rw [drop_cons hu] at e1
  obtain⟨b,S2,e2,e1⟩:=aP e1
  refine .inr ⟨hgo i H1 hlt k1,fun x H' y => ?_⟩
  obtain⟨rfl,rx⟩:=hy i H1 x H' us[i] hu k1 y
  have er1:ER H' μ1 (ρ ++ [some us[i]]) (σ ++ [some x]):=(er.mono k1 p1).push (RU.mono k1 p1 _ _ rx)
  refine⟨μ1,S1,_,b,S2,hr1,er1,e2,fun μ2 H2 p2 k2 hr2 => ?_⟩
  have ra2:=RUs.mono k2 p2 _ _ ra
  cases b with
  | true=>
    obtain⟨y',S3,e3,e1⟩:=aP (show bnd (e (ρ ++ [some us[i]]) S2) (fun y S2=>gF t e ρ (us.drop (i+1)) (au ++ [y]) S2)=some (ys,S') from e1)
    refine mL ⟨μ2,S2,_,y',S3,hr2,er1.mono k2 p2,e3,fun μ3 v3 H3 p3 k3 hr3 rv3 => ?_⟩
    exact⟨us.length - (i+1),by omega,rfl,hlt,μ3,S3,au ++ [y'],p1.trans (p2.trans p3),k1.trans (k2.trans k3),hr3,(RUs.mono k3 p3 _ _ ra2).append (.cons rv3 .nil),e1⟩
  | false=>
    exact mJ ⟨us.length - (i+1),by omega,rfl,hlt,μ2,S2,au,p1.trans p2,k1.trans k2,hr2,ra2,e1⟩
 ·have e:i=us.length:=by omega
  subst e
  rw [iJ] at e1
  cases e1
  exact .inl ⟨hstop H1 k1,fun D hD=>fK (k.mono p1 k1) hr1 ra hD⟩
theorem Ba {t:MT}{e:ME}{ρ:Rho}{n f:Nat}{ys:List U}{μ:List Addr}{S S':Sto}{p:Addr} (hr:HR K μ S H) (er:ER H μ ρ σ) (h:kS t e ρ n f 0 [] S=some (ys,S')) (hz:ys.length < big) (k:Aft K μ H (.ref S'.length) (S' ++ [.lst ys]) Q)
  (hp:μ[n]? = some p):yk (Itl K p) σ (tMT K t) (tM K e) H Q:=by
 have hz':ys.length < sizeLine:=by unfold big at hz;rw [sizeLine_eq];exact hz
 refine⟨fun i m acc H1 => ∃ μ1 S1 au,Pre μ μ1/\aZ H H1/\HR K μ1 S1 H1/\RUs H1 μ1 au acc/\kS t e ρ n m i au S1=some (ys,S'),⟨f,μ,S,[],Pre.refl _,aZ.refl _,hr,.nil,h⟩,?_⟩
 rintro i m acc H1 ⟨μ1,S1,au,p1,k1,hr1,ra,e1⟩
 have hl:=oA e1
 have hl2:=ra.len
 refine⟨by omega,?_⟩
 cases m with
 | zero=>cases e1
 | succ m=>
   unfold kS at e1
   cases q:getL S1 n with
   | none=>rw [q] at e1;cases e1
   | some us=>
     rw [q] at e1
     simp only [ah] at e1
     obtain⟨a',vs,ha',hs,rs⟩:=hr1.sq q
     rw [p1.get hp] at ha';cases ha'
     cases z:us[i]? with
     | none=>
       rw [z] at e1
       cases e1
       exact .inl ⟨⟨vs,hs,by rw [<- rs.len];exact d7.mp z⟩,fun D hD=>fK (k.mono p1 k1) hr1 ra hD⟩
     | some u=>
       rw [z] at e1
       obtain⟨v,hv,rv⟩:=rs.get z
       obtain⟨b,S2,e2,e1⟩:=aP e1
       refine .inr ⟨⟨vs,v,hs,hv⟩,fun x H' y => ?_⟩
       obtain⟨e',y⟩:=y
       subst e'
       have hx:=y vs hs
       rw [hv] at hx;cases hx
       have er1:ER _ μ1 (ρ ++ [some u]) (σ ++ [some v]):=(er.mono k1 p1).push rv
       refine⟨μ1,S1,_,b,S2,hr1,er1,e2,fun μ2 H2 p2 k2 hr2 => ?_⟩
       have ra2:=RUs.mono k2 p2 _ _ ra
       cases b with
       | true=>
         obtain⟨y',S3,e3,e1⟩:=aP (show bnd (e (ρ ++ [some u]) S2) (fun y S2=>kS t e ρ n m (i+1) (au ++ [y]) S2)=some (ys,S') from e1)
         refine mL ⟨μ2,S2,_,y',S3,hr2,er1.mono k2 p2,e3,fun μ3 v3 H3 p3 k3 hr3 rv3 => ?_⟩
         exact⟨m,aV _,μ3,S3,au ++ [y'],p1.trans (p2.trans p3),k1.trans (k2.trans k3),hr3,(RUs.mono k3 p3 _ _ ra2).append (.cons rv3 .nil),e1⟩
       | false=>
         exact mJ ⟨m,aV _,μ2,S2,au,p1.trans p2,k1.trans k2,hr2,ra2,e1⟩
theorem uI {lo:Int}{n:Nat}{t:MT}{e:ME}{ρ:Rho}{ys:List U}{μ:List Addr}{S S':Sto} (hr:HR K μ S H) (er:ER H μ ρ σ) (h:gF t e ρ (bg lo n) [] S=some (ys,S')) (hz:ys.length < big) (k:Aft K μ H (.ref S'.length) (S' ++ [.lst ys]) Q) :
  yk (Itr lo n) σ (tMT K t) (tM K e) H Q:=by
 have hl:(bg lo n).length=n:=by simp [bg]
 refine wc hr er h hz k (fun H' _=>by rw [hl];exact aq _) (fun i H' hi _=>by rw [hl] at hi;exact hi) fun i H' x H'' u hu _ y => ?_
 obtain⟨rfl,rfl⟩:=y
 have hi:i < n:=by rw [<- hl];exact (ag.mp hu).1
 have e2:(bg lo n)[i]? = some (.int (lo+i)):=by simp [bg,hi]
 rw [e2] at hu;cases hu
 exact⟨rfl,d9⟩
theorem A1 {us:List U}{vs:List V}{p:Addr}{t:MT}{e:ME}{ρ:Rho}{ys:List U}{μ:List Addr}{S S':Sto} (hr:HR K μ S H) (er:ER H μ ρ σ) (h:gF t e ρ us [] S=some (ys,S')) (hz:ys.length < big) (k:Aft K μ H (.ref S'.length) (S' ++ [.lst ys]) Q)
  (hp:H p=some (.tup vs)) (rs:RUs H μ us vs):yk (Itt K p) σ (tMT K t) (tM K e) H Q:=by
 refine wc hr er h hz k (fun H' kp=>⟨vs,.inl (.inl (kp p vs hp)),by rw [rs.len];exact aq _⟩) (fun i H' hi kp => ?_) fun i H' x H'' u hu kp y => ?_
 ·have hi':i < vs.length:=by rw [<- rs.len];exact hi
  exact⟨vs,vs[i],.inl (.inl (kp p vs hp)),by simp [hi']⟩
 ·obtain⟨rfl,y⟩:=y
  obtain⟨v,hv,rv⟩:=rs.get hu
  have:=y vs (.inl (.inl (kp p vs hp)))
  rw [hv] at this;cases this
  exact⟨rfl,rv⟩
theorem J3 {a:MA}{t:MT}{e:ME} (h:tM K (cU (iR1 a) t e) σ H Q):oO (vm (tMA K a)) (tMT K t) (tM K e) σ H Q:=by
 obtain⟨μ,S,ρ,u,S',hr,er,e0,k⟩:=h
 obtain⟨src,S1,e1,e0⟩:=aP e0
 obtain⟨ys,S2,e2,e0⟩:=aP e0
 split at e0
 ·rename_i hz
  cases e0
  refine Fj hr er e1 fun μ1 H1 n p1 k1 hr1 hs => ?_
  subst hs
  exact uI hr1 (er.mono k1 p1) e2 hz (k.mono p1 k1)
 ·cases e0
theorem K6 {a:MA}{t:MT}{e:ME} (h:tM K (cU (iR2 a) t e) σ H Q):oO (uD (tMA K a)) (tMT K t) (tM K e) σ H Q:=by
 obtain⟨μ,S,ρ,u,S',hr,er,e0,k⟩:=h
 obtain⟨src,S1,e1,e0⟩:=aP e0
 obtain⟨ys,S2,e2,e0⟩:=aP e0
 split at e0
 ·rename_i hz
  cases e0
  refine FF hr er e1 fun μ1 H1 lo n p1 k1 hr1 hs => ?_
  subst hs
  exact uI hr1 (er.mono k1 p1) e2 hz (k.mono p1 k1)
 ·cases e0
theorem Lm {a:ME}{t:MT}{e:ME} (h:tM K (cU (cZ a) t e) σ H Q):oO (fun σ H R=>pN K (tM K a) σ H R\/xZ K (tM K a) σ H R) (tMT K t) (tM K e) σ H Q:=by
 obtain⟨μ,S,ρ,u,S',hr,er,e0,k⟩:=h
 obtain⟨src,S1,e1,e0⟩:=aP e0
 obtain⟨ys,S2,e2,e0⟩:=aP e0
 split at e0
 ·rename_i hz
  cases e0
  refine tX hr er e1 (fun μ1 H1 us p vs p1 k1 hr1 hs hp rs => ?_) fun μ1 H1 n p p1 k1 hr1 hs hp => ?_
  ·subst hs
   exact A1 hr1 (er.mono k1 p1) e2 hz (k.mono p1 k1) hp rs
  ·subst hs
   exact Ba hr1 (er.mono k1 p1) e2 hz (k.mono p1 k1) hp
 ·cases e0
end
end G
end
section
namespace G
open PySem PySem.Spec L2
open PyProof.Rows hiding St
section
variable {K:KX}{σ:St}{H:Hp}{Q:VK}{D:Ends}
end
end G
end
section
namespace G
open PySem PySem.Spec L2
open PyProof.Rows hiding St
theorem PE.con {X:Cx}{e:Expr}{t t':TE} (h:PE X e t) (hm : ∀ σ H Q,t' σ H Q->t σ H Q):PE X e t':=fun pins s σ H Q I q=>h pins s σ H Q I (hm σ H Q q)
theorem PT.con {X:Cx}{e:Expr}{t t':TT} (h:PT X e t) (hm : ∀ σ H Q,t' σ H Q->t σ H Q):PT X e t':=fun pins s σ H Q I q=>h pins s σ H Q I (hm σ H Q q)
theorem PW.con {X:Cx}{e:Expr}{t t':TT} (h:PW X e t) (hm : ∀ σ H Q,t' σ H Q->t σ H Q):PW X e t':=fun wh pins s σ H Q I q=>h wh pins s σ H Q I (hm σ H Q q)
theorem PA.con {X:Cx}{e:List Expr}{t t':TA} (h:PA X e t) (hm : ∀ σ H Q,t' σ H Q->t σ H Q):PA X e t':=fun pos pins s σ H Q I q=>h pos pins s σ H Q I (hm σ H Q q)
theorem PS.con {X:Cx}{e:Stmt}{t t':TS} (h:PS X e t) (hm : ∀ D σ H,t' D σ H->t D σ H):PS X e t':=fun pins s σ H D I q=>h pins s σ H D I (hm D σ H q)
theorem PSs.con {X:Cx}{e:List Stmt}{t t':TS} (h:PSs X e t) (hm : ∀ D σ H,t' D σ H->t D σ H):PSs X e t':=fun pins s σ H D I q=>h pins s σ H D I (hm D σ H q)
theorem PTs.con {X:Cx}{e:List Expr}{t t':TT} (h:PTs X e t) (hm : ∀ σ H Q,t' σ H Q->t σ H Q):PTs X e t':=fun pins s σ H Q I q=>h pins s σ H Q I (hm σ H Q q)
theorem PI.or {X:Cx}{tg it:Expr}{w1 w2:TI} (h1:PI X tg it w1) (h2:PI X tg it w2):PI X tg it (fun σ H R=>w1 σ H R\/w2 σ H R):=fun pins s σ H R I q=>by
 rcases q with q | q
 ·exact h1 pins s σ H R I q
 ·exact h2 pins s σ H R I q
structure Mo where
 P:Program
 w:World
 K:KX
 mg:Str->Option Value
 base:Heap
 mkr:Option (Addr×Str)
noncomputable def vY (ns:List (Str×NameKind)) (x:Str):Bool:=match ns.lookup x with
 | some .local=>true
 | some .cell=>true
 | some .free=>true
 | _=>false
noncomputable def pZ (ns:List (Str×NameKind)) (x:Str):Bool:=match ns.lookup x with
 | some .local=>true
 | some .cell=>true
 | _=>false
noncomputable def eg (ns:List (Str×NameKind)) (x:Str):Bool:=match ns.lookup x with
 | some .globalImplicit=>true
 | _=>false
structure Sc (M:Mo) (X:Cx) (k:Nat) (N:List Str) (ns:List (Str×NameKind)):Prop where
 hP:X.prog=M.P
 hw:X.w=M.w
 hK:X.K=M.K
 hm:X.mg=M.mg
 hb:X.base=M.base
 hN:X.N=N
 nd:N.Nodup
 calm:X.calm=true
 loc : ∀ y,ns.lookup y=some .local->X.env.scope.names.lookup y=some .local
 cel : ∀ y,ns.lookup y=some .cell->X.env.scope.names.lookup y=some .cell/\X.fn y=true
 fre : ∀ y,ns.lookup y=some .free->X.env.scope.names.lookup y=some .cell\/X.env.scope.names.lookup y=some .free
 glo : ∀ y,ns.lookup y=some .globalImplicit->X.env.scope.names.lookup y=some .globalImplicit
 room:jM k X.A
 own:PassesOwn (model X.prog X.w) X.A X.env X.xe
 cod : ∀ c q,M.mkr=some (c,q)->X.env.code = .ref c/\X.env.qual=q
section
variable {M:Mo}{X:Cx}{k:Nat}{N:List Str}{ns:List (Str×NameKind)}
theorem Sc.vis (S:Sc M X k N ns) {x:Str} (h:vY ns x=true):Vis X.env.scope x:=by
 unfold vY at h
 split at h
 ·rename_i e;exact .inl (S.loc x e)
 ·rename_i e;exact .inr (.inl (S.cel x e).1)
 ·rename_i e;exact .inr (S.fre x e)
 ·cases h
theorem Sc.lo (S:Sc M X k N ns) {x:Str} (h:pZ ns x=true):Loc X.env.scope x/\(X.fn x=true\/X.env.scope.names.lookup x=some .local):=by
 unfold pZ at h
 split at h
 ·rename_i e;exact⟨.inl (S.loc x e),.inr (S.loc x e)⟩
 ·rename_i e;exact⟨.inr (S.cel x e).1,.inl (S.cel x e).2⟩
 ·cases h
theorem Sc.gl (S:Sc M X k N ns) {x:Str} (h:eg ns x=true):Gl X x:=by
 unfold eg at h
 split at h
 ·rename_i e;exact S.glo x e
 ·cases h
variable {a b c e:Expr}{es:List Expr}{ma mb mc:ME}{mt:MT}{mas:MA}{pos p1 p2:Pos}{x:Str}
theorem ID (S:Sc M X k N ns) (i:Nat) (hi:N[i]? = some x) (hv:vY ns x=true) (hd:(x == ("__debug__":Str))=false) (hcd:(x == ("__classdict__":Str))=false):PE X (.Name x pos) (tM M.K (ab i)):=
 PE.con (Hq (by rw [S.hN];exact hi) (S.vis hv) hd hcd) fun _ _ _ h=>JB h
theorem Jg {i:Int}{j}:PE X (.Constant (.int i) j pos) (tM M.K (mC (.int i))):=PE.con BX fun _ _ _ h=>r_c (fun _ _=>d9) h
theorem Lb {i:Bool}{j}:PE X (.Constant (.bool i) j pos) (tM M.K (mC (.bl i))):=PE.con KY fun _ _ _ h=>r_c (fun _ _=>fI) h
theorem Kn {j}:PE X (.Constant .none j pos) (tM M.K (mC .non)):=PE.con Gp fun _ _ _ h=>r_c (fun _ _=>pK) h
theorem FI {u:U}{v:V}{g:Value} (S:Sc M X k N ns) (hg:eg ns x=true) (hm:M.mg x=some g) (r:RelV v g) (hv : ∀ H μ,RU H μ u v) (hd:(x == ("__debug__":Str))=false):PE X (.Name x pos) (tM M.K (mC u)):=
 PE.con (Dv (S.gl hg) (by rw [S.hm];exact hm) r hd) fun _ _ _ h=>r_c hv h
theorem Iu (S:Sc M X k N ns) (ha:PE X a (tM M.K ma)) (hb:PE X b (tM M.K mb)):PE X (.BinOp a .Add b pos) (tM M.K (m2 bC ma mb)):=
 PE.con (rV (HP.or (OpR.or (S.hK▸DG) (OpR.or (S.hK▸CV) GL))) ha hb) fun _ _ _ h=>tw G6 h
theorem Ip (ha:PE X a (tM M.K ma)) (hb:PE X b (tM M.K mb)):PE X (.BinOp a .Sub b pos) (tM M.K (m2 h9 ma mb)):=PE.con (rV Ia ha hb) fun _ _ _ h=>tw FL h
theorem Js (S:Sc M X k N ns) (ha:PE X a (tM M.K ma)) (hb:PE X b (tM M.K mb)):PE X (.BinOp a .Mult b pos) (tM M.K (m2 fv ma mb)):=PE.con (rV (GK.or ((S.hK▸De).or F4)) ha hb) fun _ _ _ h=>tw FJ h
theorem JS (ha:PE X a (tM M.K ma)) (hb:PE X b (tM M.K mb)):PE X (.BinOp a .FloorDiv b pos) (tM M.K (m2 oDiv ma mb)):=PE.con (rV DD ha hb) fun _ _ _ h=>tw HA h
theorem K0 (ha:PE X a (tM M.K ma)) (hb:PE X b (tM M.K mb)):PE X (.BinOp a .Mod b pos) (tM M.K (m2 oMod ma mb)):=PE.con (rV GX ha hb) fun _ _ _ h=>tw Hi h
theorem JV (ha:PE X a (tM M.K ma)) (hb:PE X b (tM M.K mb)):PE X (.BinOp a .Pow b pos) (tM M.K (m2 ue ma mb)):=PE.con (rV GY ha hb) fun _ _ _ h=>tw Ie h
theorem J8 (ha:PE X a (tM M.K ma)):PE X (.UnaryOp .USub a pos) (tM M.K (m1 eK ma)):=PE.con (Ff B6 ha) fun _ _ _ h=>Lo Ib h
theorem K9 (S:Sc M X k N ns) (ha:PE X a (tM M.K ma)) (hb:PE X b (tM M.K mb)) (hs:tF b):PE X (.Subscript a b pos) (tM M.K (m2 oIx ma mb)):=
 PE.con (IW (IxR.or (S.hK▸F3) (Hf (by have:=S.room.units;omega))) ha hb hs) fun _ _ _ h=>tw II h
theorem J5:PA X [] (tMA M.K af):=PA.con og fun _ _ _ h=>Iv h
theorem F7 (ha:PE X a (tM M.K ma)) (hr:PA X es (tMA M.K mas)) (hs:starEach (a::es) X.env=(false,eval a X.env)::starEach es X.env:=by rfl):PA X (a::es) (tMA M.K (aa ma mas)):=
 PA.con (j3 ha hr hs) fun _ _ _ h=>GO h
theorem Ks {x1} (h:PA X es (tMA M.K mas)):PE X (.Tuple es x1 pos) (tM M.K (bA mas)):=PE.con (Hm h) fun _ _ _ h=>Km h
theorem Il (h:PA X es (tMA M.K mas)):PE X (.List es pos) (tM M.K (b4 mas)):=PE.con (Hl h) fun _ _ _ h=>IT h
theorem Jb (ha:PT X a (tMT M.K mt)) {mt':MT} (hb:PW X (.BoolOp .And (b::es) pos) (tMT M.K mt')):PW X (.BoolOp .And (a::b::es) pos) (tMT M.K (j8 mt mt')):=PW.con (Gf ha hb) fun _ _ _ h=>IU h
theorem LB (ha:PT X a (tMT M.K mt)) {mt':MT} (hb:PW X (.BoolOp .Or (b::es) pos) (tMT M.K mt')):PW X (.BoolOp .Or (a::b::es) pos) (tMT M.K (cOr mt mt')):=PW.con (Iq ha hb) fun _ _ _ h=>Lu h
theorem GF (ha:PT X a (tMT M.K mt)):PW X (.BoolOp .And [a] pos) (tMT M.K mt):=CT ha
theorem KC (ha:PT X a (tMT M.K mt)):PW X (.BoolOp .Or [a] pos) (tMT M.K mt):=FQ ha
theorem IA (ha:PT X a (tMT M.K mt)):PT X (.UnaryOp .Not a pos) (tMT M.K (lW mt)):=PT.con (Hr ha) fun _ _ _ h=>K2 h
theorem JC (ha:PE X a (tM M.K ma)) (he : ∀ whole,isTrue a X.env whole=(do let v <- whole;standAt a.pos;holding [v] (truthy v)):=by intro _;rfl):PT X a (tMT M.K (cOf ma)):=PT.con (FS ha he) fun _ _ _ h=>LC (fun _ q=>q) h
theorem A9 (S:Sc M X k N ns) (hg:eg ns "len"=true) (hm:M.mg "len"=none) (ha:PA X (e::es) (tMA M.K mas)) (he:starEach (e::es) X.env=(false,eval e X.env)::starEach es X.env:=by rfl) (hpl:(backTo pos (starEach es X.env)).any (·.1)=false:=by rfl) :
  PE X (.Call (.Name "len" p1) (e::es) [] pos) (tM M.K (mFn bq mas)):=
 PE.con (jR (gm.or (S.hK▸tJ) zO) (S.gl hg) (by rw [S.hm];exact hm) PySem.boot_len ha (by decide) (by decide) he hpl) fun _ _ _ h=>wt Hb h
theorem DT (S:Sc M X k N ns) (hg:eg ns "tuple"=true) (hm:M.mg "tuple"=none) (ha:PA X (e::es) (tMA M.K mas)) (he:starEach (e::es) X.env=(false,eval e X.env)::starEach es X.env:=by rfl) (hpl:(backTo pos (starEach es X.env)).any (·.1)=false:=by rfl) :
  PE X (.Call (.Name "tuple" p1) (e::es) [] pos) (tM M.K (mFn b5 mas)):=
 PE.con (iH (S.hK▸rj) (S.gl hg) (by rw [S.hm];exact hm) jH ha (by decide) (by decide) he hpl) fun _ _ _ h=>wt Av h
theorem KI (S:Sc M X k N ns) (hg:eg ns "max"=true) (hm:M.mg "max"=none) (ha:PA X (e::es) (tMA M.K mas)) (he:starEach (e::es) X.env=(false,eval e X.env)::starEach es X.env:=by rfl) (hpl:(backTo pos (starEach es X.env)).any (·.1)=false:=by rfl) :
  PE X (.Call (.Name "max" p1) (e::es) [] pos) (tM M.K (mFn oI mas)):=
 PE.con (jR (zI S.calm) (S.gl hg) (by rw [S.hm];exact hm) PyProof.Rows.boot_max ha (by decide) (by decide) he hpl) fun _ _ _ h=>wt Ic h
theorem Kb (S:Sc M X k N ns) (hg:eg ns "min"=true) (hm:M.mg "min"=none) (ha:PA X (e::es) (tMA M.K mas)) (he:starEach (e::es) X.env=(false,eval e X.env)::starEach es X.env:=by rfl) (hpl:(backTo pos (starEach es X.env)).any (·.1)=false:=by rfl) :
  PE X (.Call (.Name "min" p1) (e::es) [] pos) (tM M.K (mFn o5 mas)):=
 PE.con (jR (S.hK▸Ag S.calm (by have:=S.room.units;assumption)) (S.gl hg) (by rw [S.hm];exact hm) PyProof.Rows.boot_min ha (by decide) (by decide) he hpl) fun _ _ _ h=>wt HG h
structure Fn (M:Mo) (x:Str) (k:Nat) (ps:List Str) (m:MF):Prop where
 ex : ∃ (f:Addr) (fd:FuncData),M.mg x=some (.ref f)/\di M.K (.ref f)=true/\Binds M.K fd ps []/\nQ M.P M.w M.K M.mg M.base CX0 k f fd ps (spM M.K m)
theorem Hx {mf:MF}{ps:List Str}{k':Nat} (S:Sc M X k N ns) (F:Fn M x k' ps mf) (hk:k'<=k) (hg:eg ns x=true) (ha:PA X (e::es) (tMA M.K mas)) (hd:(x == ("__debug__":Str))=false) (he:starEach (e::es) X.env=(false,eval e X.env)::starEach es X.env:=by rfl) (hpl:(backTo pos (starEach es X.env)).any (·.1)=false:=by rfl) :
  PE X (.Call (.Name x p1) (e::es) [] pos) (tM M.K (mFn mf mas)):=by
 obtain⟨f,fd,hm,hkp,hb,F⟩:=F.ex
 rw [<- S.hP,<- S.hw,<- S.hK,<- S.hm,<- S.hb] at F
 rw [<- S.hm] at hm
 rw [<- S.hK] at hkp hb
 exact PE.con (CZ F (S.room.mono hk) (S.gl hg) hm hkp hb .nil Fp ha hd he hpl) fun _ _ _ h=>HF h
theorem El {mf:MF}{ps:List Str}{k':Nat} (S:Sc M X k N ns) (F:Fn M x k' ps mf) (hk:k'<=k) (hg:eg ns x=true) (hd:(x == ("__debug__":Str))=false) :
  PE X (.Call (.Name x p1) [] [] pos) (tM M.K (mFn mf af)):=by
 obtain⟨f,fd,hm,hkp,hb,F⟩:=F.ex
 rw [<- S.hP,<- S.hw,<- S.hK,<- S.hm,<- S.hb] at F
 rw [<- S.hm] at hm
 rw [<- S.hK] at hkp hb
 refine PE.con (B1 F (S.room.mono hk) (S.gl hg) hm hkp hb .nil Fp hd) fun σ H Q h => ?_
 obtain⟨μ,S,ρ,u,S',hr,er,e,kk⟩:=h
 exact⟨μ,S,[],u,S',hr,.nil,e,kk⟩
theorem BK (S:Sc M X k N ns) (ho:PE X a (tM M.K ma)) (ha:PA X (e::es) (tMA M.K mas)) (hbase:attributeBase a "append" X.env (eval a X.env)=eval a X.env:=by rfl)
  (hfew:((backTo pos (starEach (e::es) X.env)).all (fun x => !x.1)&&(backToKw pos (keywordEach [] X.env)).all (fun x=>x.1.isSome)
   && decide ((e::es).length+([]:List Keyword).length+(if ([]:List Keyword).isEmpty then 0 else 1) < 30))=true:=by rfl)
  (hline:(p1.endLine == pos.line)=true:=by rfl) (hs:starEach (e::es) X.env=(false,eval e X.env)::starEach es X.env:=by rfl) (hpl:(backTo pos (starEach es X.env)).any (·.1)=false:=by rfl) :
  PE X (.Call (.Attribute a "append" p1) (e::es) [] pos) (tM M.K (mML cn ma mas)):=by
 exact PE.con (AK gw PySem.F.slot_list_append PySem.F.type_list_append z5 ho ha hbase hfew hline hs hpl) fun _ _ _ h=>S.hK▸GW zl h
theorem DS (S:Sc M X k N ns) (ho:PE X a (tM M.K ma)) (ha:PA X (e::es) (tMA M.K mas)) (hbase:attributeBase a "pop" X.env (eval a X.env)=eval a X.env:=by rfl)
  (hfew:((backTo pos (starEach (e::es) X.env)).all (fun x => !x.1)&&(backToKw pos (keywordEach [] X.env)).all (fun x=>x.1.isSome)
   && decide ((e::es).length+([]:List Keyword).length+(if ([]:List Keyword).isEmpty then 0 else 1) < 30))=true:=by rfl)
  (hline:(p1.endLine == pos.line)=true:=by rfl) (hs:starEach (e::es) X.env=(false,eval e X.env)::starEach es X.env:=by rfl) (hpl:(backTo pos (starEach es X.env)).any (·.1)=false:=by rfl) :
  PE X (.Call (.Attribute a "pop" p1) (e::es) [] pos) (tM M.K (mML jy ma mas)):=by
 exact PE.con (AK gw ze zf B9 ho ha hbase hfew hline hs hpl) fun _ _ _ h=>S.hK▸GW Ap h
theorem Ku {tg:Expr} (S:Sc M X k N ns) (hg:eg ns "range"=true) (hm:M.mg "range"=none) (ha:PA X [a] (tMA M.K mas)) (hs:starEach [a] X.env = [(false,eval a X.env)]:=by rfl):PI X tg (.Call (.Name "range" p1) [a] [] pos) (vm (tMA M.K mas)):=
 zX (S.gl hg) (by rw [S.hm];exact hm) ha hs
theorem IM {tg:Expr} (S:Sc M X k N ns) (hg:eg ns "range"=true) (hm:M.mg "range"=none) (ha:PA X [a,b] (tMA M.K mas)) (hs:starEach [a,b] X.env = [(false,eval a X.env),(false,eval b X.env)]:=by rfl) (hs2:starEach [b] X.env = [(false,eval b X.env)]:=by rfl):PI X tg (.Call (.Name "range" p1) [a,b] [] pos) (uD (tMA M.K mas)):=
 zQ (S.gl hg) (by rw [S.hm];exact hm) ha hs hs2
theorem DZ {tg:Expr} (S:Sc M X k N ns) (ha:PE X a (tM M.K ma)):PI X tg a (fun σ H R=>pN M.K (tM M.K ma) σ H R\/xZ M.K (tM M.K ma) σ H R):=by
 have h:=PI.or (DF (tg:=tg) ha) (GJ ha)
 rw [S.hK] at h
 exact h
noncomputable def nD (N N':List Str) (ns names:List (Str×NameKind)) (xs:List Str):Bool:=
 decide ((names.map (·.1)).Nodup)&&names.all (fun y=>if y.2 == .free then (match ns.lookup y.1 with | some .cell=>true | some .free=>true | _=>false) else true)&&xs.all (pZ names)&&decide N'.Nodup &&
 (N'.length == N.length+xs.length)&&((aA xs.length).all fun j=>N'[N.length+j]? == xs[j]?)&&(aA N.length).all fun i=>match N'[i]? with
  | none=>true
  | some y=>if vY names y then N[i]? == some y&&names.lookup y == some .free else true
noncomputable def nB (N N':List Str) (ns names:List (Str×NameKind)) (x:Str):Bool:=nD N N' ns names [x]
theorem qI {N':List Str}{scope:Scope}{xs:List Str} (S:Sc M X k N ns) (hk:scope.kind = .function) (h:nD N N' ns scope.names xs=true):gn X N' scope xs:=by
 unfold nD at h
 simp only [aw] at h
 obtain⟨⟨⟨⟨⟨⟨h1,h2⟩,h3⟩,h4⟩,h5⟩,h6⟩,h7⟩:=h
 refine⟨hk,of_decide_eq_true h1,fun y hy e => ?_,fun x hx => ?_,of_decide_eq_true h4,?_,fun j x hj => ?_,fun i y hi e hv => ?_⟩
 ·have:=bx.mp h2 y hy
  rw [if_pos (by rw [e];rfl)] at this
  split at this
  ·rename_i q;exact .inl (S.cel y.1 q).1
  ·rename_i q;exact S.fre y.1 q
  ·cases this
 ·have h3:=bx.mp h3 x hx
  unfold pZ at h3
  split at h3
  ·rename_i q;exact .inl q
  ·rename_i q;exact .inr q
  ·cases h3
 ·rw [S.hN];exact eq_of_beq h5
 ·have hl:=(ag.mp hj).1
  have:=bx.mp h6 j (bb.mpr hl)
  rw [S.hN,eq_of_beq this];exact hj
 ·rw [S.hN] at hi ⊢
  have:=bx.mp h7 i (bb.mpr hi)
  rw [e] at this
  simp only at this
  have hvb:vY scope.names y=true:=by
   unfold vY
   rcases hv with q | q | q <;> rw [q]
  rw [if_pos hvb,aw] at this
  exact⟨eq_of_beq this.1,eq_of_beq this.2⟩
theorem rJ {N':List Str}{scope:Scope} (S:Sc M X k N ns) (hk:scope.kind = .function) (h:nB N N' ns scope.names x=true):gn X N' scope [x]:=qI S hk h
theorem oz {N':List Str}{scope:Scope}{xs:List Str} (S:Sc M X k N ns) (C:gn X N' scope xs) (s₂:Shared) (H₂:Hp) (fp:List Addr):Sc M (blk X N' scope s₂ H₂ fp) k N' scope.names where
 hP:=S.hP
 hw:=S.hw
 hK:=S.hK
 hm:=S.hm
 hb:=S.hb
 hN:=rfl
 nd:=C.ndN
 calm:=S.calm
 loc:=fun y h=>lookup_relabel_local h
 cel:=fun y h=>⟨iB h,by show (scope.names.lookup y == some .cell)=true;rw [h];rfl⟩
 fre:=fun y h=>j4 h
 glo:=fun y h=>nH h
 room:=S.room
 own:=CM
 cod:=S.cod
theorem Ca {N':List Str}{scope:Scope}{px:Pos}{iter elt:Expr}{ifs:List Expr}{wi:TI}{mi:MI} (S:Sc M X k N ns) (hk:scope.kind = .function) (ok:nB N N' ns scope.names x=true) (hi:PI X (.Name x px) iter wi)
  (ht : ∀ X',Sc M X' k N' scope.names->PTs X' ifs (tMT M.K mt)) (he : ∀ X',Sc M X' k N' scope.names->PE X' elt (tM M.K mc)) (hr : ∀ σ H Q,tM M.K (cU mi mt mc) σ H Q->oO wi (tMT M.K mt) (tM M.K mc) σ H Q)
  (hs : ∀ x,foldedSetIterable iter X.env x=pure x:=by intro _;rfl):PE X (.ListComp elt [⟨.Name x px,iter,ifs,0⟩] scope pos) (tM M.K (cU mi mt mc)):=by
 have C:=rJ S hk ok
 exact PE.con (EB S.calm C hi (fun s₂ H₂ fp=>ht _ (oz S C s₂ H₂ fp)) (fun s₂ H₂ fp=>he _ (oz S C s₂ H₂ fp)) hs) hr
theorem HI:PTs X [] (tMT M.K cTT):=PTs.con Ej fun σ H Q h=>by
 obtain⟨μ,S,ρ,b,S',hr,er,e,kk⟩:=h
 cases e
 exact kk μ H (Pre.refl _) (aZ.refl _) hr
theorem Kc (h:PT X c (tMT M.K mt)):PTs X [c] (tMT M.K mt):=DJ h
variable {st:Stmt}{sts:List Stmt}{ms ms':MS}
theorem Jx:PSs X [] (tMS M.K dP):=PSs.con Dc fun _ _ _ h=>Bt h
theorem JK (h1:PS X st (tMS M.K ms)) (h2:PSs X sts (tMS M.K ms')):PSs X (st::sts) (tMS M.K (bf ms ms')):=PSs.con (Cs h1 h2) fun _ _ _ h=>IS h
theorem K1 (h1:PS X st (tMS M.K ms)):PSs X [st] (tMS M.K ms):=EN h1
theorem FA (S:Sc M X k N ns) (i:Nat) (hi:N[i]? = some x) (ho:pZ ns x=true) (he:PE X e (tM M.K ma)) (hs:swapsWith e (some (.Name x p1)) pos.line X.env=pure false:=by rfl):PS X (.Assign [.Name x p1] e pos) (tMS M.K (bB i ma)):=
 PS.con (FP (by rw [S.hN];exact S.nd) (by rw [S.hN];exact hi) (S.lo ho).1 he hs (S.lo ho).2) fun _ _ _ h=>Fw h
theorem Dq (S:Sc M X k N ns) (ho:PE X a (tM M.K ma)) (hi:PE X b (tM M.K mb)) (he:PE X e (tM M.K mc)) (hs:swapsWithSole [.Subscript a b p1] e pos.line X.env=pure false:=by rfl) (hw:swappedStores [.Subscript a b p1] e X.env=pure none:=by rfl)
  (h1:(assignEach [.Subscript a b p1] X.env).map (·.2) = [assign (.Subscript a b p1) X.env]:=by rfl)
  (hasn : ∀ v,assign (.Subscript a b p1) X.env v=(do
   let ov <- holding [v] (eval a X.env)
   let iv <- holding [v,ov] (eval b X.env)
   standAt p1
   holding [v,ov,iv] (setItem ov iv v)
   release [v,ov,iv] []):=by intro _;rfl):PS X (.Assign [.Subscript a b p1] e pos) (tMS M.K (mT ma mb mc)):=
 PS.con (Bv he (B4 ho hi (yA (by have:=S.room.units;omega)) hasn) hs hw h1) fun _ _ _ h=>Dj h
theorem G1 (he:PE X e (tM M.K ma)) (hs:swapsWith e none pos.line X.env=pure false:=by rfl):PS X (.Expr e pos) (tMS M.K (dj ma)):=PS.con (Ef he hs) fun _ _ _ h=>Ge h
theorem Iz (he:PE X e (tM M.K ma)):PS X (.Return (some e) pos) (tMS M.K (dh ma)):=PS.con (F5 he) fun _ _ _ h=>Kp h
theorem Ll {sts':List Stmt} (hc:PT X c (tMT M.K mt)) (ha:PSs X sts (tMS M.K ms)) (hb:PSs X sts' (tMS M.K ms')):PS X (.If c sts sts' pos) (tMS M.K (sIf mt ms ms')):=PS.con (Kd hc ha hb) fun _ _ _ h=>Li h
theorem Ka {iter:Expr}{wi:TI}{mi:MI} (S:Sc M X k N ns) (i:Nat) (hi:N[i]? = some x) (ho:pZ ns x=true) (hit:PI X (.Name x p1) iter wi) (hb:PSs X sts (tMS M.K ms)) (hr : ∀ D σ H,tMS M.K (eB i mi ms) D σ H->tV wi (jk i) (tMS M.K ms) D σ H)
  (hs : ∀ x,foldedSetIterable iter X.env x=pure x:=by intro _;rfl):PS X (.For (.Name x p1) iter sts [] pos) (tMS M.K (eB i mi ms)):=
 PS.con (A3 S.own S.calm hit (yE (by rw [S.hN];exact S.nd) (by rw [S.hN];exact hi) (S.lo ho).1 (S.lo ho).2) hb hs) hr
theorem E5 (S:Sc M X k N ns) (hc:PT X c (tMT M.K mt)) (hb:PSs X sts (tMS M.K ms)):PS X (.While c sts [] pos) (tMS M.K (j6 mt ms)):=PS.con (BV S.own hc hb) fun _ _ _ h=>DP h
end
theorem Sc.def {M:Mo}{N ps:List Str}{qual:Str}{scope:Scope}{f:Addr}{cdv:Value}{A:Around}{outer:List Env}{s:Shared}{H:Hp}{E:XK}{k:Nat} (S:bM N ps scope) (hr:jM k (A.deeper (envOfC qual scope s.heap.objs.size f cdv))) (h0 : ∀ c q,M.mkr=some (c,q)->cdv = .ref c/\qual++".<locals>."=q) :
  Sc M (xo CX0 M.P M.w M.K M.mg M.base N qual scope f cdv A outer s H E).nox k N scope.names:=
 ⟨rfl,rfl,rfl,rfl,rfl,rfl,S.nd,rfl,fun _ h=>h,fun _ h=>⟨h,rfl⟩,fun _ h => .inr h,fun _ h=>h,hr,CM,h0⟩
theorem Ae {H:Hp}{μ:List Addr}{N:List Str}{us:List U}{vs:List V} (r:RUs H μ us vs):ER H μ (us.map some++aE (N.length - us.length) none) (L2.start N vs):=by
 unfold L2.start
 refine⟨by simp [r.len],fun i u h => ?_⟩
 by_cases hi:i < us.length
 ·rw [aS (by simpa using hi),ek] at h
  cases e:us[i]? with
  | none=>rw [e] at h;cases h
  | some w=>
    rw [e] at h;cases h
    obtain⟨v,hv,rv⟩:=r.get e
    refine⟨v,?_,rv⟩
    rw [aS (by simpa [<- r.len] using hi),ek,hv];rfl
 ·rw [ax (by simpa using hi)] at h
  rw [gK] at h
  split at h <;> cases h
theorem AW {M:Mo} (h0:M.mkr=none) {x qual:Str}{st:Stmt}{f:Addr}{fd:FuncData}{N ps:List Str}{k:Nat}{ms:MS} (F:Fun M.K x qual st f fd) (S:bM N ps (aF st))
  (hb : ∀ X,Sc M X k N (aF st).names->PSs X (bt st) (tMS M.K ms)):nQ M.P M.w M.K M.mg M.base CX0 (k+1) f fd ps (spM M.K (run ps.length N.length ms)):=by
 refine F.ok S (fun vs H Q E h => ?_) fun cdv A outer s H vs Q E hr h=>⟨tMS M.K ms,hb _ (Sc.def S hr fun c q h=>by rw [h0] at h;cases h),?_⟩
 ·obtain⟨μ,S',us,u,S'',hr,rs,e,_⟩:=h
  unfold run at e
  split at e
  ·rename_i hl;rw [<- rs.len];exact hl
  ·cases e
 ·obtain⟨μ,S1,us,u,S2,hr,rs,e,ka⟩:=h
  unfold run at e
  split at e
  ·rename_i hl
   have er:=Ae (N:=N) rs
   rw [hl] at er
   split at e
   ·rename_i w ρ' S3 q
    cases e
    exact⟨μ,S1,_,_,hr,er,q,ka⟩
   ·rename_i ρ' S3 q
    cases e
    exact⟨μ,S1,_,_,hr,er,q,fun μ' σ' H' p' k' hr' er'=>ka μ' _ H' p' k' hr' pK⟩
   ·cases e
  ·cases e
end G
end
section
namespace G
open PySem PySem.Spec L2
open PyProof.Rows hiding St
mutual
inductive oH (K:ar) (H:Hp):V->PyData->Prop where
 | non:oH K H .non .none
 | bl (b:Bool):oH K H (.bl b) (.bool b)
 | int (i:Int):oH K H (.int i) (.int i)
 | str (x:Str):oH K H (.str x) (.str x)
 | tup {a:Addr}{vs:List V}{ds:List PyData}:SqT K H a vs->kn K H vs ds->oH K H (.ref a) (.tuple ds)
 | lst {a:Addr}{vs:List V}{ds:List PyData}:SqL K H a vs->kn K H vs ds->oH K H (.ref a) (.list ds)
inductive kn (K:ar) (H:Hp):List V->List PyData->Prop where
 | nil:kn K H [] []
 | cons {v:V}{vs:List V}{d:PyData}{ds:List PyData}:oH K H v d->kn K H vs ds->kn K H (v::vs) (d::ds)
end
section
variable {X:Cx}{pins:List (Addr×Obj)}{σ:St}{H:Hp}{s:Shared}
mutual
theorem oH.reads (I:Inv X pins σ H s) : ∀ {v:V}{d:PyData}{w:Value},oH X.K H v d->RelV v w -> ∃ as,Reads s.heap w d as
 | _,_,_,.non,r=>⟨[],by cases (show _=dk from r);exact .none⟩
 | _,_,_,.bl b,r=>⟨[],by cases (show _=wC b from r);exact .bool b⟩
 | _,_,_,.int i,r=>by
   obtain⟨t,e⟩:=(show ∃ t,_=lu i t from r)
   subst e;exact⟨[],.int i t⟩
 | _,_,_,.str x,r=>by
   obtain⟨t,e⟩:=(show ∃ t,_=rC x t from r)
   subst e;exact⟨[],.str x t⟩
 | _,_,_,.tup (a:=a) h rs,r=>by
   cases (show _=aT a from r)
   obtain⟨its,rv,⟨o,e,c,n,dt⟩,_⟩:=I.tuple h
   obtain⟨as,q⟩:=kn.reads I rs rv
   exact⟨as,.tuple e c dt q⟩
 | _,_,_,.lst (a:=a) h rs,r=>by
   cases (show _=aT a from r)
   obtain⟨its,rv,⟨o,n,e,c,dd,dt⟩,_⟩:=I.list h
   obtain⟨as,q⟩:=kn.reads I rs rv
   exact⟨a::as,.list e c dt q⟩
theorem kn.reads (I:Inv X pins σ H s) : ∀ {vs:List V}{ds:List PyData}{ws:List Value},kn X.K H vs ds->bO vs ws -> ∃ as,ReadsAll s.heap ws ds as
 | _,_,_,.nil,r=>by cases r;exact⟨[],.nil⟩
 | _,_,_,.cons h rs,r=>by
   cases r with
   | cons r1 r2=>
     obtain⟨as,q⟩:=oH.reads I h r1
     obtain⟨bs,q'⟩:=kn.reads I rs r2
     exact⟨as++bs,.cons q q'⟩
end
end
theorem nW {α β:Type}{f:α->Option β}{P:α->β->Prop} (hf : ∀ x y,f x=some y->P x y) : ∀ {xs:List α}{ys:List β},dz f xs=some ys->Paired P xs ys
 | [],ys,h=>by cases h;exact .nil
 | x::xs,ys,h=>by
   unfold dz at h
   cases e:f x with
   | none=>rw [e] at h;cases h
   | some y=>
     rw [e] at h
     simp only [ah] at h
     cases e2:dz f xs with
     | none=>rw [e2] at h;cases h
     | some zs=>
       rw [e2] at h;cases h
       exact .cons (hf x y e) (nW hf e2)
theorem pD {f:Nat} : ∀ {us:List U}{ds:List PyData},Paired (fun (_:U) (d:PyData)=>d.canLay0=true/\d.depth<=f) us ds->ki ds=true/\i6 ds<=f
 | _,_,.nil=>⟨by simp [ki],by simp [i6]⟩
 | _,_,.cons h t=>by
   obtain⟨a,b⟩:=pD t
   exact⟨by simp [ki,h.1,a],by simp only [i6];exact Nat.max_le.mpr ⟨h.2,b⟩⟩
section
variable {K:KX}{H:Hp}{μ:List Addr}{S:Sto}
theorem pC {f:Nat} (hr:HR K μ S H) (ih : ∀ (u:U) (d:PyData),toD S f u=some d -> ∀ v,RU H μ u v->oH K H v d) : ∀ {us:List U}{ds:List PyData},dz (toD S f) us=some ds -> ∀ {vs:List V},RUs H μ us vs->kn K H vs ds
 | [],ds,h,vs,r=>by cases h;rw [r.nil_inv];exact .nil
 | u::us,ds,h,vs,r=>by
   unfold dz at h
   cases e:toD S f u with
   | none=>rw [e] at h;cases h
   | some y=>
     rw [e] at h
     simp only [ah] at h
     cases e2:dz (toD S f) us with
     | none=>rw [e2] at h;cases h
     | some zs=>
       rw [e2] at h;cases h
       obtain⟨v,r',rfl,a,b⟩:=r.inv
       exact .cons (ih u y e v a) (pC hr ih e2 b)
theorem pA (hr:HR K μ S H) : ∀ (f:Nat) (u:U) (d:PyData),toD S f u=some d -> ∀ v,RU H μ u v->oH K H v d
 | 0,u,d,h,v,r=>by cases u <;> cases h
 | f+1,.non,d,h,v,r=>by cases h;rw [show v = .non by simpa only [RU] using r];exact .non
 | f+1,.bl b,d,h,v,r=>by cases h;rw [iz r];exact .bl b
 | f+1,.int i,d,h,v,r=>by cases h;rw [cq r];exact .int i
 | f+1,.str x,d,h,v,r=>by
   unfold toD at h
   split at h
   ·cases h;rw [show v = .str x by simpa only [RU] using r];exact .str x
   ·cases h
 | f+1,.tup us,d,h,v,r=>by
   unfold toD at h
   cases e:dz (toD S f) us with
   | none=>rw [e] at h;cases h
   | some ds=>
     rw [e] at h;cases h
     obtain⟨a,vs,rfl,ha,rs⟩:=fO r
     exact .tup (.inl (.inl ha)) (pC hr (pA hr f) e rs)
 | f+1,.ref n,d,h,v,r=>by
   unfold toD at h
   cases e0:getL S n with
   | none=>rw [e0] at h;cases h
   | some us=>
     rw [e0] at h
     simp only [ah] at h
     cases e:dz (toD S f) us with
     | none=>rw [e] at h;cases h
     | some ds=>
       rw [e] at h;cases h
       obtain⟨a,rfl,ha⟩:=dU r
       obtain⟨a',vs,ha',hs,rs⟩:=hr.sq e0
       rw [ha] at ha';cases ha'
       exact .lst hs (pC hr (pA hr f) e rs)
 | f+1,.obj a,d,h,v,r=>by cases h
end
theorem pj (S:Sto) : ∀ (f:Nat) (u:U) (d:PyData),toD S f u=some d->d.canLay0=true/\d.depth<=f
 | 0,u,d,h=>by cases u <;> cases h
 | f+1,.non,d,h=>by cases h;exact⟨by simp [gZ],by simp [jt]⟩
 | f+1,.bl b,d,h=>by cases h;exact⟨by simp [gZ],by simp [jt]⟩
 | f+1,.int i,d,h=>by cases h;exact⟨by simp [gZ],by simp [jt]⟩
 | f+1,.str x,d,h=>by
   unfold toD at h
   split at h
   ·rename_i q;cases h;exact⟨q,by simp [jt]⟩
   ·cases h
 | f+1,.tup us,d,h=>by
   unfold toD at h
   cases e:dz (toD S f) us with
   | none=>rw [e] at h;cases h
   | some ds=>
     rw [e] at h;cases h
     obtain⟨a,b⟩:=pD (nW (fun x y q=>pj S f x y q) e)
     exact⟨by simpa [gZ] using a,by simp only [jt];exact Nat.lt_succ_of_le (by assumption)⟩
 | f+1,.ref n,d,h=>by
   unfold toD at h
   cases e0:getL S n with
   | none=>rw [e0] at h;cases h
   | some us=>
     rw [e0] at h
     simp only [ah] at h
     cases e:dz (toD S f) us with
     | none=>rw [e] at h;cases h
     | some ds=>
       rw [e] at h;cases h
       obtain⟨a,b⟩:=pD (nW (fun x y q=>pj S f x y q) e)
       exact⟨by simpa [gZ] using a,by simp only [jt];exact Nat.lt_succ_of_le (by assumption)⟩
 | f+1,.obj a,d,h=>by cases h
noncomputable def qz (K:ar) (H:Hp) (v:V) (d:PyData):Prop:=oH K H v d/\d.canLay0=true/\d.depth<=40
noncomputable def I0 (K:ar):R2:=fun x y H Q => ∃ a b,qz K H x a/\qz K H y b/\Q (.bl (jG a b)) H
noncomputable def Iy (K:ar):R2:=fun x y H Q => ∃ a b,qz K H x a/\qz K H y b/\Q (.bl (!jG a b)) H
theorem lO {K:ar}{H:Hp}{v:V}{d:PyData} (h:qz K H v d):SeqAt.shaped d=true:=by
 unfold SeqAt.shaped
 rw [h.2.1,decide_eq_true (be h.2.2 (by decide))];rfl
section
variable {X:Cx}
theorem Gb (hu:X.A.units+64 < cLine):OpR X (compareOp .Eq) (I0 X.K):=by
 intro pins s σ H x y v u Q I rx ry h
 obtain⟨a,b,ha,hb,q⟩:=h
 obtain⟨as,r1⟩:=ha.1.reads I rx
 obtain⟨bs,r2⟩:=hb.1.reads I ry
 exact SeqAt.compareEq_shaped r1 r2 (lO ha) (lO hb) hu ⟨.bl _,H,I,rfl,q⟩
theorem HB (hu:X.A.units+64 < cLine):OpR X (compareOp .NotEq) (Iy X.K):=by
 intro pins s σ H x y v u Q I rx ry h
 obtain⟨a,b,ha,hb,q⟩:=h
 obtain⟨as,r1⟩:=ha.1.reads I rx
 obtain⟨bs,r2⟩:=hb.1.reads I ry
 exact SeqAt.compareNe_shaped r1 r2 (lO ha) (lO hb) hu ⟨.bl _,H,I,rfl,q⟩
end
section
variable {K:KX}{μ:List Addr}{S:Sto}{H:Hp}
theorem vA {u:U}{v:V}{d:PyData} (hr:HR K μ S H) (r:RU H μ u v) (h:toD S 40 u=some d):qz K H v d:=⟨pA hr 40 u d h v r,pj S 40 u d h⟩
theorem yW {x y:U}{b:Bool} (h:eqU S x y=some b) : ∃ a c,toD S 40 x=some a/\toD S 40 y=some c/\b=jG a c:=by
 unfold eqU at h
 cases e1:toD S 40 x with
 | none=>rw [e1] at h;cases h
 | some a=>
   rw [e1] at h
   simp only [ah] at h
   cases e2:toD S 40 y with
   | none=>rw [e2] at h;cases h
   | some c=>rw [e2] at h;cases h;exact⟨a,c,rfl,rfl,rfl⟩
theorem IL:OpU K (I0 K) oEq:=by
 intro μ S H x y vx vy u S' Q hr rx ry e a
 unfold oEq at e
 cases q:eqU S x y with
 | none=>rw [q] at e;cases e
 | some b=>
   rw [q] at e;cases e
   obtain⟨d1,d2,e1,e2,rfl⟩:=yW q
   exact⟨d1,d2,vA hr rx e1,vA hr ry e2,a.now hr fI⟩
theorem Jv:OpU K (Iy K) oNe:=by
 intro μ S H x y vx vy u S' Q hr rx ry e a
 unfold oNe at e
 cases q:eqU S x y with
 | none=>rw [q] at e;cases e
 | some b=>
   rw [q] at e;cases e
   obtain⟨d1,d2,e1,e2,rfl⟩:=yW q
   exact⟨d1,d2,vA hr rx e1,vA hr ry e2,a.now hr fI⟩
end
end G
end
section
namespace G
open PySem PySem.Spec L2
open PyProof.Rows hiding St
section
noncomputable def K7 (K:ar):V->Option Int->Option Int->Hp->VK->Prop:=fun x lo hi H Q => ∃ a xs,x = .ref a/\SqT K H a xs /\
 (HT.sIx xs.length 0 lo=0/\HT.sIx xs.length xs.length hi=xs.length)/\Q (.ref a) H
theorem AU {X:Cx}:SlR X (K7 X.K):=by
 intro pins s σ H x v vl vu lo hi sl Q I rx hs pl pu h
 obtain⟨a,xs,rfl,hx,hw,q⟩:=h
 cases rx
 obtain⟨its,r,ht,hz⟩:=I.tuple hx
 have hlen:its.toArray.size=xs.length:=by rw [az];exact r.length.symm
 refine⟨"tuple",_,PyProof.Rows.slot_tuple_getitem.lookup,ht.typeIs,?_⟩
 exact HT.getItem_tuple_whole ht hs pl pu (by rw [hlen];exact hw) ⟨.ref a,H,I,rfl,q⟩
noncomputable def rSl (K:ar):V->Option Int->Option Int->Hp->VK->Prop:=fun x lo hi H Q=>Kw K x lo hi H Q\/(K7 K x lo hi H Q\/KS K x lo hi H Q)
theorem HQ {X:Cx}:SlR X (rSl X.K):=SlR.or FR (SlR.or AU Dp)
noncomputable def tO (K:KX):Option ME->TO
 | none=>yp
 | some m=>Fs (tM K m)
theorem yZ {H:Hp}{μ:List Addr}{us:List U}{vs:List V} (r:RUs H μ us vs) (lo hi:Option Int):RUs H μ (cut us lo hi) (vJ vs lo hi):=by
 unfold cut vJ
 rw [r.len]
 exact (r.drop _).take _
section
variable {K:KX}{σ:St}{H:Hp}{Q:VK}
theorem AS {a:Option ME}{μ:List Addr}{S S1:Sto}{ρ:Rho}{o:Option Int}{Q:Option Int->Hp->Prop} (hr:HR K μ S H) (er:ER H μ ρ σ) (e:mK a ρ S=some (o,S1))
  (k : ∀ μ1 H1,Pre μ μ1->aZ H H1->HR K μ1 S1 H1->Q o H1):tO K a σ H Q:=by
 cases a with
 | none=>cases e;exact k μ H (Pre.refl _) (aZ.refl _) hr
 | some m=>
   obtain⟨x,S2,e1,e⟩:=aP (show bnd (m ρ S) (fun x S1=>match x with
    | .int i=>some (some i,S1)
    | _=>none)=some (o,S1) from e)
   split at e
   ·cases e
    exact⟨μ,S,ρ,_,_,hr,er,e1,fun μ1 v H1 p1 k1 hr1 rx=>⟨_,cq rx,k μ1 H1 p1 k1 hr1⟩⟩
   ·cases e
theorem EM {a:ME}{lo hi:Option ME} (h:tM K (mSl a lo hi) σ H Q):tSl (rSl K) (tM K a) (tO K lo) (tO K hi) σ H Q:=by
 obtain⟨μ,S,ρ,u,S',hr,er,e,k⟩:=h
 obtain⟨x,S1,e1,e⟩:=aP e
 obtain⟨l,S2,e2,e⟩:=aP e
 obtain⟨r,S3,e3,e⟩:=aP e
 refine⟨μ,S,ρ,x,S1,hr,er,e1,fun μ1 vx H1 p1 k1 hr1 rx => ?_⟩
 refine AS hr1 (er.mono k1 p1) e2 fun μ2 H2 p2 k2 hr2 => ?_
 refine AS hr2 (er.mono (k1.trans k2) (p1.trans p2)) e3 fun μ3 H3 p3 k3 hr3 => ?_
 have k':=k.mono (p1.trans (p2.trans p3)) (k1.trans (k2.trans k3))
 have rx3:=RU.mono (k2.trans k3) (p2.trans p3) _ _ rx
 cases x with
 | tup us=>
   cases e
   obtain⟨p,vs,rfl,hp,rs⟩:=fO rx3
   by_cases hw:HT.sIx vs.length 0 l=0/\HT.sIx vs.length vs.length r=vs.length
   ·refine .inr (.inl ⟨p,vs,rfl,.inl (.inl hp),hw,k'.now hr3 ?_⟩)
    have e4:cut us l r=us:=by
     unfold cut
     rw [rs.len,hw.1,hw.2]
     simp [<- rs.len]
    rw [e4]
    exact fZ hp rs
   ·refine .inl ⟨p,vs,rfl,.inl (.inl hp),hw,fun t ht => ?_⟩
    refine k' μ3 _ _ (Pre.refl _) (aZ.new ht) (hr3.tup ht) (fZ cJ (RUs.mono (aZ.new ht) (Pre.refl _) _ _ (yZ rs l r)))
 | ref n=>
   simp only at e
   cases q:getL S3 n with
   | none=>rw [q] at e;cases e
   | some us=>
     rw [q] at e;cases e
     obtain⟨p,rfl,hp⟩:=dU rx3
     obtain⟨p',vs,hp',hs,rs⟩:=hr3.sq q
     rw [hp] at hp';cases hp'
     exact .inr (.inr ⟨p,vs,rfl,hs,fun t ht=>fK k' hr3 (yZ rs l r) ht⟩)
 | _=>cases e
end
section
variable {M:Mo}{X:Cx}{k:Nat}{N:List Str}{ns:List (Str×NameKind)}{a b c e:Expr}{es:List Expr}{ma mb mc:ME}{mt:MT}{mas:MA}{pos p1 p2:Pos}{x:Str}
inductive kE (M:Mo) (X:Cx):Option Expr->Option ME->Prop where
 | none:kE M X .none .none
 | some {e:Expr}{m:ME}:PE X e (tM M.K m)->kE M X (.some e) (.some m)
theorem kE.po {lo:Option Expr}{m:Option ME} (h:kE M X lo m):PO X lo (tO M.K m):=by
 cases h with
 | none=>exact EO
 | some h=>exact Ew h
theorem Eo {lo hi:Option Expr}{ml mh:Option ME} (S:Sc M X k N ns) (ha:PE X a (tM M.K ma)) (hl:kE M X lo ml) (hh:kE M X hi mh):PE X (.Subscript a (.Slice lo hi none p2) pos) (tM M.K (mSl ma ml mh)):=
 PE.con (B3 (S.hK▸HQ) ha hl.po hh.po) fun _ _ _ h=>EM h
end
noncomputable def fc (a b:ME):ME:=fun ρ S=>bnd (a ρ S) fun x S1=>match x with
 | .bl true=>b ρ S1
 | .bl false=>some (.bl false,S1)
 | _=>none
noncomputable def mOr (a b:ME):ME:=fun ρ S=>bnd (a ρ S) fun x S1=>match x with
 | .bl true=>some (.bl true,S1)
 | .bl false=>b ρ S1
 | _=>none
noncomputable def wm:U->Sto->Res U:=fun x S=>match x with
 | .bl b=>some (.bl (!b),S)
 | _=>none
section
variable {K:KX}{σ:St}{H:Hp}{Q:VK}
theorem FX {a b:ME} (h:tM K (fc a b) σ H Q):Fo (tM K a) (tM K b) σ H Q:=by
 obtain⟨μ,S,ρ,u,S',hr,er,e,k⟩:=h
 obtain⟨x,S1,e1,e⟩:=aP e
 refine⟨μ,S,ρ,x,S1,hr,er,e1,fun μ1 vx H1 p1 k1 hr1 rx => ?_⟩
 split at e
 ·exact⟨true,iz rx,mL ⟨μ1,S1,ρ,u,S',hr1,er.mono k1 p1,e,k.mono p1 k1⟩⟩
 ·cases e
  exact⟨false,iz rx,mJ (k μ1 _ H1 p1 k1 hr1 fI)⟩
 ·cases e
theorem IF {a b:ME} (h:tM K (mOr a b) σ H Q):IJ (tM K a) (tM K b) σ H Q:=by
 obtain⟨μ,S,ρ,u,S',hr,er,e,k⟩:=h
 obtain⟨x,S1,e1,e⟩:=aP e
 refine⟨μ,S,ρ,x,S1,hr,er,e1,fun μ1 vx H1 p1 k1 hr1 rx => ?_⟩
 split at e
 ·cases e
  exact⟨true,iz rx,mL (k μ1 _ H1 p1 k1 hr1 fI)⟩
 ·exact⟨false,iz rx,mJ ⟨μ1,S1,ρ,u,S',hr1,er.mono k1 p1,e,k.mono p1 k1⟩⟩
 ·cases e
theorem Hn {a:ME} (h:tM K (m1 wm a) σ H Q):FE (tM K a) σ H Q:=by
 obtain⟨μ,S,ρ,u,S',hr,er,e,k⟩:=h
 obtain⟨x,S1,e1,e⟩:=aP e
 refine⟨μ,S,ρ,x,S1,hr,er,e1,fun μ1 vx H1 p1 k1 hr1 rx => ?_⟩
 unfold wm at e
 split at e
 ·cases e
  exact⟨_,iz rx,k μ1 _ H1 p1 k1 hr1 fI⟩
 ·cases e
end
section
variable {X:Cx}{a b:Expr}{ta:TA}{p pos:Pos}
noncomputable def BG (ta:TA):TE:=fun σ H Q=>ta σ H fun vs H1 => ∃ j:Int,vs = [.int j] /\ -(2 ^ 62)<=j/\j < 2 ^ 62 /\ ∀ r,H1 r=none->Q (.ref r) (upd H1 r (.rng 0 j))
noncomputable def AC (ta:TA):TE:=fun σ H Q=>ta σ H fun vs H1 => ∃ i j:Int,vs = [.int i,.int j]/\(-(2 ^ 62)<=i/\i < 2 ^ 62 /\ -(2 ^ 62)<=j/\j < 2 ^ 62) /\ ∀ r,H1 r=none->Q (.ref r) (upd H1 r (.rng i j))
theorem vM {pins:List (Addr×Obj)}{σ:St}{H:Hp}{s:Shared}{Q:VK}{lo hi:Int}{t u v:Tok}{tk:Nat} (I:Inv X pins σ H s) (q : ∀ r,H r=none->Q (.ref r) (upd H r (.rng lo hi))) :
  EP X pins σ Q (.ref s.heap.objs.size) { s with heap:=s.heap.push { cls := .type "range",data := .fields #[.int lo t,.int hi u,.int 1 v] },toks:=tk }:=by
 refine⟨.ref s.heap.objs.size,_,I.laid (t':=tk) (o := .rng lo hi) (fun b ob q=>ak _ q) (aq _) ?_,rfl,q _ (I.hok.fresh (aq _))⟩
 exact⟨t,u,v,av _ rfl⟩
theorem yJ (hg:Gl X "range") (hm:X.mg "range"=none) (ha:PA X [a] ta) (hs:starEach [a] X.env = [(false,eval a X.env)]:=by rfl):PE X (.Call (.Name "range" p) [a] [] pos) (BG ta):=by
 intro pins s σ H Q I h
 refine Call_ (jA I hg hm boot_range (cc (thn (ha pos pins s σ H _ I h) fun us s1 ⟨vs,H1,I1,r1,q1⟩ => ?_) (by rw [hs];rfl) rfl))
 obtain⟨j,e,q1,q2,q⟩:=q1
 subst e
 cases r1 with
 | cons r rr=>
   cases rr
   obtain⟨t,rfl⟩:=r
   exact call_range_1 (vM I1 q)
theorem yq (hg:Gl X "range") (hm:X.mg "range"=none) (ha:PA X [a,b] ta) (hs:starEach [a,b] X.env = [(false,eval a X.env),(false,eval b X.env)]:=by rfl) (hs2:starEach [b] X.env = [(false,eval b X.env)]:=by rfl) :
  PE X (.Call (.Name "range" p) [a,b] [] pos) (AC ta):=by
 intro pins s σ H Q I h
 refine Call_ (jA I hg hm boot_range (cc (thn (ha pos pins s σ H _ I h) fun us s1 ⟨vs,H1,I1,r1,q1⟩ => ?_) (by rw [hs,hs2]) (by rw [hs2];rfl)))
 obtain⟨i,j,e,⟨q1,q2,q3,q4⟩,q⟩:=q1
 subst e
 cases r1 with
 | cons r rr=>
   cases rr with
   | cons r' rr=>
     cases rr
     obtain⟨t,rfl⟩:=r
     obtain⟨t',rfl⟩:=r'
     exact call_range_2 (vM I1 q)
theorem tE : ∀ {xs:List V}{us:List Value},xs.length=us.length->(∀ (i:Nat) (x:V) (u:Value),xs[i]? = some x->us[i]? = some u->RelV x u)->bO xs us
 | [],[],_,_ => .nil
 | [],_::_,h,_=>by simp at h
 | _::_,[],h,_=>by simp at h
 | x::xs,u::us,h,k => .cons (k 0 x u rfl rfl) (tE (by simpa using h) fun i y w h1 h2=>k (i+1) y w (by simpa using h1) (by simpa using h2))
noncomputable def kq (i:Int) (n:Nat):List V:=(aA n).map fun (k:Nat) => .int (i+k)
theorem mE (hc:X.calm=true):gm X (.type "list") (fun xs H Q => ∃ r lo hi,xs = [.ref r]/\H r=some (.rng lo hi)/\(-(2 ^ 62)<=lo/\lo < 2 ^ 62 /\ -(2 ^ 62)<=hi/\hi < 2 ^ 62)/\(hi - lo).toNat<=sizeLine /\ ∀ l,H l=none->Q (.ref l) (upd H l (.lst (kq lo (hi - lo).toNat)))):=by
 intro pins s σ H xs us Q I rs h
 obtain⟨r,lo,hi,rfl,hr,⟨h1,h2,h3,h4⟩,hz,q⟩:=h
 cases rs with
 | cons r1 rr=>
   cases rr
   cases (show _=aT r from r1)
   obtain⟨t,u,v,e⟩:=I.hok r _ hr
   have hn:dy lo hi 1=((hi - lo).toNat:Nat):=by rw [rangeSize_one];split <;> omega
   refine call_list_range (n:=(hi - lo).toNat) (I.ok.hd hc) e (small_one h1 h2 h3 h4) hn (by rw [sizeLine_eq] at hz;exact hz) fun h' tk acc c' hk hl hacc => ?_
   obtain⟨hsz,hit⟩:=hacc
   refine⟨.ref s.heap.objs.size,_,I.laid (t':=tk) (o := .lst (kq lo (hi - lo).toNat)) hk (aq _) ?_,rfl,q _ (I.hok.fresh (aq _))⟩
   refine⟨by rw [kq,ay,bz];exact hz,acc.toList,c',?_,by simpa using hl⟩
   refine tE (by rw [kq,ay,bz,bQ,hsz]) fun i x w h5 h6 => ?_
   have hlt:i < (hi - lo).toNat:=by
    have:=(ag.mp h5).1
    rwa [kq,ay,bz] at this
   have hx:(kq lo (hi - lo).toNat)[i]? = some (.int (lo+i)):=by simp [kq,hlt]
   rw [hx] at h5;cases h5
   obtain⟨t',e'⟩:=hit i w (by simpa using h6)
   exact⟨t',by rw [e'];simp⟩
end
end
end G
end
section
namespace G
open PySem PySem.Spec L2
open PyProof.Rows hiding St
section
theorem yu {H:Hp}{μ:List Addr} (i:Int) (n:Nat):RUs H μ (bg i n) (kq i n):=by
 unfold bg kq
 induction n with
 | zero=>simpa using RUs.nil
 | succ n ih=>rw [dO,cH,cH];exact ih.append (.cons d9 .nil)
section
variable {K:KX}{σ:St}{H:Hp}{Q:VK}
noncomputable def rLR:List V->Hp->VK->Prop:=fun xs H Q => ∃ r lo hi,xs = [.ref r]/\H r=some (.rng lo hi)/\(-(2 ^ 62)<=lo/\lo < 2 ^ 62 /\ -(2 ^ 62)<=hi/\hi < 2 ^ 62)/\(hi - lo).toNat<=sizeLine /\ ∀ l,H l=none->Q (.ref l) (upd H l (.lst (kq lo (hi - lo).toNat)))
theorem HR.rng {μ:List Addr}{S:Sto}{p:Addr}{i j:Int} (h:HR K μ S H) (hp:H p=none):HR K μ S (upd H p (.rng i j)):=by
 have kp:aZ H (upd H p (.rng i j)):=aZ.new hp
 refine⟨h.len,h.inj,fun m c b q1 q2=>(h.cell m c b q1 q2).mono kp (Pre.refl _) (fun hc => ?_) fun o u hf => ?_,h.ext.upd kp (Pre.refl _) fun o1 q=>by rw [hp] at q;cases q⟩
 ·obtain⟨o,e,_⟩:=(h.cell m _ b q1 q2).has hc
  exact bP (bD e hp)
 ·rw [bP (bD hf hp)];exact hf
theorem yr {μ:List Addr}{S1:Sto}{i j:Int}{r:Addr} (hr1:HR K μ S1 H) (ho:okR i/\okR j) (hz:(bg i (j - i).toNat).length<=big) (k:Aft K μ H (.ref S1.length) (S1 ++ [.lst (bg i (j - i).toNat)]) Q) (hrn:H r=none):rLR [.ref r] (upd H r (.rng i j)) Q:=by
 refine⟨r,i,j,rfl,cJ,⟨ho.1.1,ho.1.2,ho.2.1,ho.2.2⟩,?_,fun l hl => ?_⟩
 ·unfold bg big at hz;rw [ay,bz] at hz;rw [sizeLine_eq];exact hz
 ·exact fK (k.mono (Pre.refl _) (aZ.new hrn)) (hr1.rng hrn) (yu _ _) hl
theorem BW {a:MA} (h:tM K (fo (iR1 a)) σ H Q):tCB rLR (oM (BG (tMA K a)) uJ) σ H Q:=by
 obtain⟨μ,S,ρ,u,S',hr,er,e,k⟩:=h
 obtain⟨src,S1,e1,e⟩:=aP e
 obtain⟨xs,S2,e2,e1⟩:=aP e1
 refine⟨μ,S,ρ,xs,S2,hr,er,e2,fun μ1 vs H1 p1 k1 hr1 rs => ?_⟩
 split at e1
 ·rename_i j
  split at e1
  ·rename_i hj
   cases e1
   simp only at e
   split at e
   ·rename_i hz
    cases e
    obtain⟨v,r,rfl,rx,rn⟩:=rs.inv
    rw [rn.nil_inv,cq rx]
    refine⟨j,rfl,hj.1,hj.2,fun r hrn => ?_⟩
    have ez:(j - 0).toNat=j.toNat:=by simp
    exact yr (i:=0) hr1 ⟨⟨by decide,by decide⟩,hj⟩ (by rw [ez];exact hz) (by rw [ez];exact k.mono p1 k1) hrn
   ·cases e
  ·cases e1
 ·cases e1
theorem A0 {a:MA} (h:tM K (fo (iR2 a)) σ H Q):tCB rLR (oM (AC (tMA K a)) uJ) σ H Q:=by
 obtain⟨μ,S,ρ,u,S',hr,er,e,k⟩:=h
 obtain⟨src,S1,e1,e⟩:=aP e
 obtain⟨xs,S2,e2,e1⟩:=aP e1
 refine⟨μ,S,ρ,xs,S2,hr,er,e2,fun μ1 vs H1 p1 k1 hr1 rs => ?_⟩
 split at e1
 ·rename_i i j
  split at e1
  ·rename_i hj
   cases e1
   simp only at e
   split at e
   ·rename_i hz
    cases e
    obtain⟨v,r,rfl,rx,rs⟩:=rs.inv
    obtain⟨w,r,rfl,ry,rn⟩:=rs.inv
    rw [rn.nil_inv,cq rx,cq ry]
    exact⟨i,j,rfl,⟨hj.1.1,hj.1.2,hj.2.1,hj.2.2⟩,fun r hrn=>yr hr1 hj hz (k.mono p1 k1) hrn⟩
   ·cases e
  ·cases e1
 ·cases e1
end
noncomputable def nq:List String := ["NoneType","bool","int","str","list","tuple","dict"]
noncomputable def jY:List String := ["bool","int","str","list","tuple","dict"]
theorem FH (K:ar) {t T:String} (ht:t∈nq) (hT:T∈jY):PySem.W.kitOne K (.type t) (.type T)=some (En t T):=by
 simp only [nq,jY,aK,dD,or_false] at ht hT
 rcases ht with rfl | rfl | rfl | rfl | rfl | rfl | rfl <;> rcases hT with rfl | rfl | rfl | rfl | rfl | rfl <;> first | rfl | kernel_rfl
theorem BL {X:Cx}:gm X (.builtin "isinstance") (fun xs H Q => ∃ x t T,xs = [x,.ty T]/\m7 X.K H x (.type t)/\t∈nq/\T∈jY/\Q (.bl (En t T)) H):=by
 intro pins s σ H xs us Q I rs h
 obtain⟨x,t,T,rfl,ty,ht,hT,q⟩:=h
 cases rs with
 | cons r1 rr=>
   cases rr with
   | cons r2 rr=>
     cases rr
     cases (show _=jT T from r2)
     exact zA I r1 ty (FH X.K ht hT) fun tk=>⟨.bl _,H,I.tok _,rfl,q⟩
theorem Jy {K:KX}{μ:List Addr}{S:Sto}{H:Hp}{x:U}{v:V}{t:String} (hr:HR K μ S H) (r:RU H μ x v) (e:tyU S x=some t):m7 K H v (.type t)/\t∈nq:=by
 unfold tyU at e
 split at e
 ·cases e;rw [show v = .non by simpa only [RU] using r];exact⟨.non,by decide⟩
 ·cases e;rw [iz r];exact⟨.bl _,by decide⟩
 ·cases e;rw [cq r];exact⟨.int _,by decide⟩
 ·cases e;rw [show v = .str _ by simpa only [RU] using r];exact⟨.str _,by decide⟩
 ·cases e;obtain⟨a,vs,rfl,ha,_⟩:=fO r;exact⟨.tup ha,by decide⟩
 ·split at e
  ·rename_i q
   cases e
   obtain⟨a,rfl,ha⟩:=dU r
   obtain⟨vs,e1,_⟩:=hr.cell _ _ a q ha
   exact⟨.lst e1,by decide⟩
  ·rename_i q
   cases e
   obtain⟨a,rfl,ha⟩:=dU r
   obtain⟨vs,e1,_⟩:=hr.cell _ _ a q ha
   exact⟨.dK e1,by decide⟩
  ·cases e
 ·cases e
theorem Jq {K:KX}{σ:St}{H:Hp}{Q:VK}{a:ME}{T:String} (hT:T∈jY) (h:tM K (m1 (fg T) a) σ H Q) :
  tCB (fun xs H Q => ∃ x t T,xs = [x,.ty T]/\m7 K H x (.type t)/\t∈nq/\T∈jY/\Q (.bl (En t T)) H) (oM (tM K a) (oM (tC (.ty T)) uJ)) σ H Q:=by
 obtain⟨μ,S,ρ,u,S',hr,er,e,k⟩:=h
 obtain⟨x,S1,e1,e⟩:=aP e
 refine⟨μ,S,ρ,x,S1,hr,er,e1,fun μ1 vx H1 p1 k1 hr1 rx => ?_⟩
 unfold fg at e
 cases q:tyU S1 x with
 | none=>rw [q] at e;cases e
 | some t=>
   rw [q] at e;cases e
   obtain⟨ty,ht⟩:=Jy hr1 rx q
   exact⟨vx,t,T,rfl,ty,ht,hT,k μ1 _ H1 p1 k1 hr1 fI⟩
noncomputable def A6 (S:Sto) (x:U) (us:List U):Option Nat:=(dz (toD S 39) us).bind fun ds=>(toD S 40 x).bind fun d=>ds.findIdx? fun y=>jG y d
noncomputable def iC:List U->List U->Sto->Res U:=fun us xs S=>match xs with
 | [x]=>(A6 S x us).map fun k=>(.int k,S)
 | _=>none
noncomputable def G4 (K:ar) (to:TE) (t:TA):TE:=fun σ H Q=>to σ H fun x H1=>(∃ p ys,x = .ref p/\H1 p=some (.tup ys))/\t σ H1 fun xs H2 => ∃ p ys v ds d j,x = .ref p/\xs = [v]/\H2 p=some (.tup ys) /\
 kn K H2 ys ds/\ki ds=true/\i6 ds<=40/\qz K H2 v d/\ds.findIdx? (fun y=>jG y d)=some j/\Q (.int j) H2
theorem BH {X:Cx}{o e:Expr}{es:List Expr}{to:TE}{t:TA}{apos cpos:Pos} (hu:X.A.units+64 < cLine) (ho:PE X o to) (ha:PA X (e::es) t)
  (hbase:attributeBase o "index" X.env (eval o X.env)=eval o X.env:=by rfl)
  (hfew:((backTo cpos (starEach (e::es) X.env)).all (fun x => !x.1)&&(backToKw cpos (keywordEach [] X.env)).all (fun x=>x.1.isSome)
   && decide ((e::es).length+([]:List Keyword).length+(if ([]:List Keyword).isEmpty then 0 else 1) < 30))=true:=by rfl)
  (hline:(apos.endLine == cpos.line)=true:=by rfl) (hs:starEach (e::es) X.env=(false,eval e X.env)::starEach es X.env:=by rfl) (hplain:(backTo cpos (starEach es X.env)).any (·.1)=false:=by rfl) :
  PE X (.Call (.Attribute o "index" apos) (e::es) [] cpos) (G4 X.K to t):=by
 intro pins s σ H Q I h
 refine wpAny_Call_method_late hbase hfew hline rfl (thn (ho pins s σ H _ I h) fun v s1 ⟨x,H1,I1,r1,⟨p,ys,hx,hp⟩,q1⟩ => ?_)
 subst hx
 cases (show v=aT p from r1)
 obtain⟨_,its,rv,⟨o1,e1,c1,n1,d1⟩,o2,e2,c2⟩:=I1.hok p _ hp
 refine⟨"tuple",_,PySem.F.plainAttrs_tuple,wJ,PySem.F.type_tuple_index,⟨o1,e1,c1⟩,fun a ea=>by cases ea;exact⟨o2,e2,c2⟩,?_⟩
 have hA:=ha cpos pins s1 σ H1 _ I1 q1
 rw [hs] at hA ⊢
 refine mm (by show (false||(backTo cpos (starEach es X.env)).any (·.1))=false;rw [hplain] <;> rfl) (Cv ?_)
 refine thn hA fun us s2 ⟨vs,H2,I2,r2,q2⟩ => ?_
 obtain⟨p',ys',v',ds,d,j,hx,hxs,hp',rd,hl,hdp,hd,hj,q⟩:=q2
 cases hx
 subst hxs
 cases r2 with
 | cons ra rr=>
   cases rr
   obtain⟨_,its2,rv2,⟨⟨cls,dd,data,sl⟩,e3,c3,n3,d3⟩,_⟩:=I2.hok p _ hp'
   simp only at c3 d3
   subst c3 d3
   obtain⟨as,rds⟩:=rd.reads I2 rv2
   obtain⟨bs,rdv⟩:=hd.1.reads I2 ra
   have hlen:its2.length=ds.length:=SeqAt.ReadsAll.length _ _ _ rds
   have hjl:j < ds.length:=by
    obtain⟨h1,_⟩:=d5.mp hj
    exact h1
   have hmap:=SeqAt.readsAll_map ds _ _ hl rds
   have hget : ∀ (m:Nat) (h1:m < its2.length) (h2:m < ds.length),SeqAt.readOf s2.heap its2[m]=ds[m]:=fun m h1 h2=>by
    have:=congrArg (fun l=>l[m]?) hmap
    simp [h1,h2] at this
    exact this
   have heq:=SeqAt.items_eqAt (A:=X.A) (vs:=its2.toArray) (by simpa using rds) rdv hl hd.2.1 (by have:=Nat.min_le_left (i6 ds) d.depth;omega)
   obtain⟨h1,h2,h3⟩:=d5.mp hj
   refine call_meets wJ ⟨_,e3,rfl⟩ PySem.F.entry_tuple_index (PySem.F.args_tuple_index_2 _ _)
    (qX p its2.toArray n3 dd sl _ (fun y=>jG (SeqAt.readOf s2.heap y) d) j (by rw [az];omega) ?_ ?_) ⟨e3,heq,?_⟩
   ·have:=hget j (by omega) hjl
    simp only [CN,this];exact h2
   ·intro m hm hmj
    rw [az] at hm
    have:=hget m hm (by exact dq (by assumption) (by assumption))
    simp only [CN,this]
    simpa using h3 m hmj
   ·exact⟨.int j,H2,I2.tok _,⟨_,rfl⟩,q⟩
theorem EC {K:KX}{σ:St}{H:Hp}{Q:VK}{o:ME}{a:MA} (h:tM K (mMT iC o a) σ H Q):G4 K (tM K o) (tMA K a) σ H Q:=by
 obtain⟨μ,S,ρ,u,S',hr,er,e,k⟩:=h
 obtain⟨x,S1,e1,e⟩:=aP e
 refine⟨μ,S,ρ,x,S1,hr,er,e1,fun μ1 vx H1 p1 k1 hr1 rx => ?_⟩
 cases x with
 | tup us=>
   obtain⟨xs,S2,e2,e⟩:=aP e
   obtain⟨p,vs,rfl,hp,rs⟩:=fO rx
   refine⟨⟨p,vs,rfl,hp⟩,μ1,S1,ρ,xs,S2,hr1,er.mono k1 p1,e2,fun μ2 ws H2 p2 k2 hr2 rws => ?_⟩
   unfold iC at e
   split at e
   ·rename_i x
    obtain⟨v,r,rfl,rx',rn⟩:=rws.inv
    rw [rn.nil_inv]
    cases q:A6 S2 x us with
    | none=>rw [q] at e;cases e
    | some j=>
      rw [q] at e;cases e
      unfold A6 at q
      cases q1:dz (toD S' 39) us with
      | none=>rw [q1] at q;cases q
      | some ds=>
        rw [q1] at q
        simp only [ah] at q
        cases q2:toD S' 40 x with
        | none=>rw [q2] at q;cases q
        | some d=>
          rw [q2] at q
          simp only [ah] at q
          obtain⟨l1,l2⟩:=pD (nW (fun x y z=>pj S' 39 x y z) q1)
          exact⟨p,vs,v,ds,d,j,rfl,rfl,k2 p vs hp,pC hr2 (pA hr2 39) q1 (RUs.mono k2 p2 _ _ rs),l1,by exact be (by assumption) (by decide),vA hr2 rx' q2,q,k μ2 _ H2 (p1.trans p2) (k1.trans k2) hr2 d9⟩
   ·cases e
 | _=>cases e
end
end G
end
section
namespace G
open PySem PySem.Spec L2
open PyProof.Rows hiding St
section
theorem EJ {h h':Heap}{o:Obj} (hk : ∀ b x,b ∉ [h.objs.size]->(h.push o).get? b=some x->h'.get? b=some x) : ∀ b x,h.get? b=some x->h'.get? b=some x:=
 fun b x e=>hk b x (fun hm=>by rw [aW.mp hm] at e;exact cj _ (aC e)) (ak _ e)
theorem xh (bs:List Bool):((aA bs.length).all fun i=>(bs[i]?).getD true)=bs.all id:=by
 rw [ju,bx,bx]
 constructor
 ·intro h b hb
  obtain⟨i,hi,rfl⟩:=oV hb
  have:=h i (bb.mpr hi)
  simpa [aX hi] using this
 ·intro h i hi
  have hi':=bb.mp hi
  simp only [aX hi',Option.getD_some]
  exact h _ (dW hi')
theorem zv {bs:List Bool} : ∀ {us:List Value}{i:Nat}{v:Value},bO (bs.map V.bl) us->us[i]? = some v -> ∃ b,bs[i]? = some b/\v = .bool b:=fun {us i v} r h=>by
 have hl:=r.length
 rw [ay] at hl
 have hi:i < bs.length:=by rw [hl];exact (ag.mp h).1
 obtain⟨u,hu,ru⟩:=r.get (i:=i) (x := .bl bs[i]) (by simp [hi])
 rw [h] at hu;cases hu
 exact⟨bs[i],by simp [hi],ru⟩
section
variable {X:Cx}
theorem zh (hc:X.calm=true):gm X (.builtin "all") (fun xs H Q => ∃ (p:Addr) (bs:List Bool),xs = [.ref p]/\SqL X.K H p (bs.map V.bl)/\Q (.bl (bs.all id)) H):=by
 intro pins s σ H xs us Q I rs h
 obtain⟨p,bs,rfl,hS,q⟩:=h
 cases rs with
 | cons r1 rr=>
   cases rr
   cases (show _=aT p from r1)
   obtain⟨its,rv,pl,_⟩:=I.list hS
   have hl:=pl.isList
   have hlt:p < s.heap.objs.size:=by obtain⟨_,e,_⟩:=hl;exact aC e
   refine call_all_walk (wF hl ?_)
   refine⟨s.heap.objs.size,[s.heap.objs.size,p],[s.heap.objs.size],its.toArray.size,_,_,fun i=>(bs[i]?).getD true,rfl,Walks.list (A:=X.A.in1) (I.ok.hd hc) _ p (aG hlt) its.toArray,
    ⟨⟨_,av _ rfl,rfl,rfl⟩,hl.push _⟩,fun i v s' Q' E' hP hQ => ?_,fun h' tk hk => ?_⟩
   ·obtain⟨b,e,rfl⟩:=zv rv (by simpa using hP)
    simp only [e,Option.getD_some] at hQ
    exact dw hQ
   ·have e:((aA its.toArray.size).all fun i=>(bs[i]?).getD true)=bs.all id:=by
     rw [az,<- rv.length,ay];exact xh bs
    rw [e]
    exact⟨.bl _,H,I.kept (EJ hk),rfl,q⟩
end
noncomputable def iO:U->Option Bool
 | .bl b=>some b
 | _=>none
noncomputable def o8:MF:=fun us S=>match us with
 | [.ref n]=>(getL S n).bind fun xs=>(dz iO xs).map fun bs=>(.bl (bs.all id),S)
 | _=>none
theorem uG {H:Hp}{μ:List Addr} : ∀ {us:List U}{vs:List V}{bs:List Bool},RUs H μ us vs->dz iO us=some bs->vs=bs.map V.bl
 | [],vs,bs,r,e=>by cases e;rw [r.nil_inv];rfl
 | u::us,vs,bs,r,e=>by
   obtain⟨v,r',rfl,a,b⟩:=r.inv
   unfold dz at e
   cases u with
   | bl x=>
     simp only [iO,ah] at e
     cases q:dz iO us with
     | none=>rw [q] at e;cases e
     | some cs=>
       rw [q] at e;cases e
       rw [iz a,uG b q];rfl
   | _=>cases e
section
variable {K:KX}
theorem HD:nP K (fun xs H Q => ∃ (p:Addr) (bs:List Bool),xs = [.ref p]/\SqL K H p (bs.map V.bl)/\Q (.bl (bs.all id)) H) o8:=by
 intro μ S H us vs u S' Q hr rs e a
 unfold o8 at e
 split at e
 ·rename_i n
  obtain⟨v,r,rfl,rx,rn⟩:=rs.inv
  rw [rn.nil_inv]
  cases q:getL S n with
  | none=>rw [q] at e;cases e
  | some xs=>
    rw [q] at e
    simp only [ah] at e
    cases q2:dz iO xs with
    | none=>rw [q2] at e;cases e
    | some bs=>
      rw [q2] at e;cases e
      obtain⟨p,rfl,hp⟩:=dU rx
      obtain⟨p',ys,hp',hs,r'⟩:=hr.sq q
      rw [hp] at hp';cases hp'
      rw [uG r' q2] at hs
      exact⟨p,bs,rfl,hs,a.now hr fI⟩
 ·cases e
end
end
end G
end
section
namespace G
open PySem PySem.Spec L2
open PyProof.Rows hiding St
section
noncomputable def eG:U->Option V
 | .non=>some .non
 | .bl b=>some (.bl b)
 | .int i=>some (.int i)
 | .str x=>some (.str x)
 | _=>none
noncomputable def oIn:F2:=fun x y S=>match fR S y with
 | some kvs=>(keyOf x).map fun k=>(.bl (qp kvs k).isSome,S)
 | none=>(eG x).bind fun vx=>(dr S y).bind fun ys=>(dz eG ys).map fun vs=>(.bl (inV vx vs),S)
noncomputable def fN:F2:=fun x y S=>match fR S y with
 | some kvs=>(keyOf x).map fun k=>(.bl (!(qp kvs k).isSome),S)
 | none=>(eG x).bind fun vx=>(dr S y).bind fun ys=>(dz eG ys).map fun vs=>(.bl (!inV vx vs),S)
theorem ub {H:Hp}{μ:List Addr}{u:U}{v w:V} (e:eG u=some v) (r:RU H μ u w):w=v/\mF v=true:=by
 cases u <;> simp only [eG,dZ,reduceCtorEq] at e <;> subst e <;> exact⟨by simpa only [RU] using r,rfl⟩
theorem qG {H:Hp}{μ:List Addr} : ∀ {us:List U}{vs ws:List V},dz eG us=some vs->RUs H μ us ws->ws=vs/\vs.all mF=true
 | [],vs,ws,e,r=>by cases e;rw [r.nil_inv];exact⟨rfl,rfl⟩
 | u::us,vs,ws,e,r=>by
   obtain⟨v,r',rfl,a,b⟩:=r.inv
   unfold dz at e
   cases q1:eG u with
   | none=>rw [q1] at e;cases e
   | some x=>
     cases q2:dz eG us with
     | none=>rw [q1,q2] at e;cases e
     | some xs=>
       rw [q1,q2] at e;cases e
       obtain⟨e1,f1⟩:=ub q1 a
       obtain⟨e2,f2⟩:=qG q2 b
       exact⟨by rw [e1,e2],by rw [bW,f1,f2];rfl⟩
section
variable {K:KX}
noncomputable def DY (K:ar) (neg:Bool):R2:=fun y x H Q=>rIn K neg y x H Q \/ ∃ a o,x = .ref a/\rg H a y o/\Q (.bl (if neg then !o.isSome else o.isSome)) H
theorem Gi {X:Cx} (hu:X.A.units+1 < cLine):OpR X (compareOp .In) (DY X.K false):=by
 intro pins s σ H x y v u Q I rx ry h
 rcases h with h | ⟨a,o,rfl,g,q⟩
 ·exact zN pins s σ H x y v u Q I rx ry h
 ·obtain rfl:u=aT a:=ry
  exact Ln hu I g rx fun s3 I3=>⟨.bl o.isSome,H,I3,rfl,q⟩
theorem zm {X:Cx} (hu:X.A.units+1 < cLine):OpR X (compareOp .NotIn) (DY X.K true):=by
 intro pins s σ H x y v u Q I rx ry h
 rcases h with h | ⟨a,o,rfl,g,q⟩
 ·exact ug pins s σ H x y v u Q I rx ry h
 ·obtain rfl:u=aT a:=ry
  exact EX hu I g rx fun s3 I3=>⟨.bl (!o.isSome),H,I3,rfl,q⟩
theorem KA:OpU K (DY K false) oIn:=by
 intro μ S H x y vx vy u S' Q hr rx ry e a
 unfold oIn at e
 split at e
 ·rename_i kvs qd
  cases qk:keyOf x with
  | none=>rw [qk] at e;cases e
  | some kk=>
    rw [qk] at e;cases e
    obtain⟨p,vs,rfl,hp,r⟩:=hr.dic ry qd
    have hl:kvs.length=vs.length:=by have:=r.len;rwa [ay] at this
    refine .inr ⟨p,_,rfl,.inl ⟨_,kk,.inl hp,lK rx qk,rfl⟩,?_⟩
    simp only [eV,if_false]
    rw [pY hl]
    exact a.now hr fI
 refine .inl ?_
 cases q1:eG x with
 | none=>rw [q1] at e;cases e
 | some fx=>
   cases q2:dr S y with
   | none=>rw [q1,q2] at e;cases e
   | some ys=>
     cases q3:dz eG ys with
     | none=>rw [q1,q2] at e;simp only [ah,q3] at e;cases e
     | some vs=>
       rw [q1,q2] at e;simp only [ah,q3] at e;cases e
       obtain⟨rfl,f1⟩:=ub q1 rx
       obtain⟨p,zs,rfl,hs,r'⟩:=hr.seq ry q2
       obtain⟨rfl,f2⟩:=qG q3 r'
       exact⟨p,zs,rfl,hs,f1,f2,a.now hr fI⟩
theorem Au:OpU K (DY K true) fN:=by
 intro μ S H x y vx vy u S' Q hr rx ry e a
 unfold fN at e
 split at e
 ·rename_i kvs qd
  cases qk:keyOf x with
  | none=>rw [qk] at e;cases e
  | some kk=>
    rw [qk] at e;cases e
    obtain⟨p,vs,rfl,hp,r⟩:=hr.dic ry qd
    have hl:kvs.length=vs.length:=by have:=r.len;rwa [ay] at this
    refine .inr ⟨p,_,rfl,.inl ⟨_,kk,.inl hp,lK rx qk,rfl⟩,?_⟩
    simp only [if_true]
    rw [pY hl]
    exact a.now hr fI
 refine .inl ?_
 cases q1:eG x with
 | none=>rw [q1] at e;cases e
 | some fx=>
   cases q2:dr S y with
   | none=>rw [q1,q2] at e;cases e
   | some ys=>
     cases q3:dz eG ys with
     | none=>rw [q1,q2] at e;simp only [ah,q3] at e;cases e
     | some vs=>
       rw [q1,q2] at e;simp only [ah,q3] at e;cases e
       obtain⟨rfl,f1⟩:=ub q1 rx
       obtain⟨p,zs,rfl,hs,r'⟩:=hr.seq ry q2
       obtain⟨rfl,f2⟩:=qG q3 r'
       exact⟨p,zs,rfl,hs,f1,f2,a.now hr fI⟩
noncomputable def oIs:F2:=fun x y S=>match x,y with
 | .bl i,.bl j=>some (.bl (i == j),S)
 | .bl _,.non=>some (.bl false,S)
 | .non,.bl _=>some (.bl false,S)
 | .non,.non=>some (.bl true,S)
 | .tup _,.non=>some (.bl false,S)
 | .ref _,.non=>some (.bl false,S)
 | .int _,.non=>some (.bl false,S)
 | _,_=>none
noncomputable def rIs (neg:Bool):R2:=fun x y H Q=>(∃ i j,x = .bl i/\y = .bl j/\Q (.bl (if neg then i != j else i == j)) H)\/(∃ i,x = .bl i/\y = .non/\Q (.bl neg) H) \/
 (∃ j,x = .non/\y = .bl j/\Q (.bl neg) H)\/(x = .non/\y = .non/\Q (.bl (!neg)) H) \/
 (∃ p,x = .ref p/\y = .non/\Q (.bl neg) H)\/(∃ i,x = .int i/\y = .non/\Q (.bl neg) H)
theorem Ha {X:Cx}:OpR X (compareOp .Is) (rIs false):=by
 intro pins s σ H x y v u Q I rx ry h
 rcases h with⟨i,j,rfl,rfl,q⟩ | ⟨i,rfl,rfl,q⟩ | ⟨j,rfl,rfl,q⟩ | ⟨rfl,rfl,q⟩ | ⟨p,rfl,rfl,q⟩ | ⟨i,rfl,rfl,q⟩
 ·cases rx;cases ry
  exact is_bool ⟨.bl _,H,I,rfl,q⟩
 ·cases rx;cases ry
  exact is_bool_none ⟨.bl _,H,I,rfl,q⟩
 ·cases rx;cases ry
  exact ao ⟨.bl _,H,I,rfl,q⟩
 ·cases rx;cases ry
  exact is_none_none ⟨.bl _,H,I,rfl,q⟩
 ·cases rx;cases ry
  exact ao ⟨.bl _,H,I,rfl,q⟩
 ·obtain⟨t,rfl⟩:=rx;cases ry
  exact ao ⟨.bl _,H,I,rfl,q⟩
theorem mW {H:Hp}{μ:List Addr}{v:V} (h:RU H μ .non v):v = .non:=by simpa only [RU] using h
theorem Jn:OpU K (rIs false) oIs:=by
 intro μ S H x y vx vy u S' Q hr rx ry e a
 unfold oIs at e
 split at e <;> cases e
 ·rw [iz rx,iz ry];exact .inl ⟨_,_,rfl,rfl,a.now hr fI⟩
 ·rw [iz rx,mW ry];exact .inr (.inl ⟨_,rfl,rfl,a.now hr fI⟩)
 ·rw [mW rx,iz ry];exact .inr (.inr (.inl ⟨_,rfl,rfl,a.now hr fI⟩))
 ·rw [mW rx,mW ry];exact .inr (.inr (.inr (.inl ⟨rfl,rfl,a.now hr fI⟩)))
 ·obtain⟨p,_,rfl,_⟩:=fO rx
  rw [mW ry];exact .inr (.inr (.inr (.inr (.inl ⟨_,rfl,rfl,a.now hr fI⟩))))
 ·obtain⟨p,rfl,_⟩:=dU rx
  rw [mW ry];exact .inr (.inr (.inr (.inr (.inl ⟨_,rfl,rfl,a.now hr fI⟩))))
 ·rw [cq rx,mW ry];exact .inr (.inr (.inr (.inr (.inr ⟨_,rfl,rfl,a.now hr fI⟩))))
noncomputable def mCh (f g:F2) (a b c:ME):ME:=fun ρ S=>bnd (a ρ S) fun x S1=>bnd (b ρ S1) fun y S2=>bnd (f x y S2) fun z S3=>match z with
 | .bl true=>bnd (c ρ S3) fun w S4=>g y w S4
 | .bl false=>some (.bl false,S3)
 | _=>none
theorem yh {σ:St}{H:Hp}{Q:VK}{r r':R2}{f g:F2}{a b c:ME} (o:OpU K r f) (o':OpU K r' g) (h:tM K (mCh f g a b c) σ H Q):xu r r' (tM K a) (tM K b) (tM K c) σ H Q:=by
 obtain⟨μ,S,ρ,u,S',hr,er,e,k⟩:=h
 obtain⟨x,S1,e1,e⟩:=aP e
 obtain⟨y,S2,e2,e⟩:=aP e
 obtain⟨z,S3,e3,e⟩:=aP e
 refine⟨μ,S,ρ,x,S1,hr,er,e1,fun μ1 vx H1 p1 k1 hr1 rx => ?_⟩
 refine⟨μ1,S1,ρ,y,S2,hr1,er.mono k1 p1,e2,fun μ2 vy H2 p2 k2 hr2 ry => ?_⟩
 refine o μ2 S2 H2 x y vx vy z S3 _ hr2 (RU.mono k2 p2 x vx rx) ry e3 fun μ3 vz H3 p3 k3 hr3 rz => ?_
 split at e
 ·refine⟨true,iz rz,?_⟩
  rw [if_pos rfl]
  obtain⟨w,S4,e4,e⟩:=aP e
  refine⟨μ3,S3,ρ,w,S4,hr3,er.mono ((k1.trans k2).trans k3) ((p1.trans p2).trans p3),e4,fun μ4 vw H4 p4 k4 hr4 rw' => ?_⟩
  exact o' μ4 S4 H4 y w vy vw u S' Q hr4 (RU.mono (k3.trans k4) (p3.trans p4) y vy ry) rw' e (k.mono (((p1.trans p2).trans p3).trans p4) (((k1.trans k2).trans k3).trans k4))
 ·cases e
  refine⟨false,iz rz,?_⟩
  rw [if_neg bj]
  exact k μ3 _ H3 ((p1.trans p2).trans p3) ((k1.trans k2).trans k3) hr3 fI
 ·cases e
noncomputable def eF:Nat->List U->Sto->Res U:=fun n xs S=>match xs with
 | [.ref m]=>match S[n]?,S[m]? with
   | some (.lst us),some (.lst ws)=>if us.length+ws.length<=big then some (.non,S.set n (.lst (us++ws))) else none
   | _,_=>none
 | _=>none
theorem Ad:MtU K yP eF:=by
 intro μ S H n p us vs u S' Q hr hp rs e a
 unfold eF at e
 split at e
 ·rename_i m
  split at e
  ·rename_i xs ws q q2
   split at e
   ·rename_i hc
    cases e
    obtain⟨v,r,rfl,rx,rn⟩:=rs.inv
    rw [rn.nil_inv]
    obtain⟨b,rfl,hb⟩:=dU rx
    obtain⟨ys,e0,r0⟩:=hr.cell n _ p q hp
    obtain⟨zs,e1,r1⟩:=hr.cell m _ b q2 hb
    refine⟨p,b,ys,zs,rfl,rfl,e0,e1,?_,ui a hr q hp (r0.append r1) pK⟩
    have:=r0.len;have:=r1.len;unfold big at hc;rw [sizeLine_eq];omega
   ·cases e
  ·cases e
 ·cases e
end
noncomputable def km (ns:List Int):List Int:=ns.mergeSort fun i j=>decide (i<=j)
noncomputable def nG:U->Option Int
 | .int i=>some i
 | _=>none
noncomputable def xR (n:Nat):Prop:=n < 64
noncomputable instance (n:Nat):Decidable (xR n):=bX _
noncomputable def tU:L2.Key×U->Option Int
 | (.inl i,_)=>some i
 | _=>none
noncomputable def rK (S:Sto) (x:U):Option (List Int):=match fR S x with
 | some kvs=>dz tU kvs
 | none=>(dr S x).bind fun xs=>dz nG xs
noncomputable def fL:MF:=fun us S=>match us with
 | [x]=>(rK S x).bind fun ns=>if xR ns.length then some (.ref S.length,S ++ [.lst ((km ns).map U.int)]) else none
 | _=>none
theorem gH (ns:List Int):(km ns).Perm ns:=List.mergeSort_perm _ _
theorem uF (ns:List Int):(km ns).Pairwise (· <= ·):=by
 have h:=List.pairwise_mergeSort (le:=fun (i j:Int)=>decide (i<=j)) (fun a b c h1 h2=>by simp at *;omega) (fun a b=>by simp;omega) ns
 exact h.imp fun h=>by simpa using h
theorem oK : ∀ {as bs:List Int},as.Perm bs->as.Pairwise (· <= ·)->bs.Pairwise (· <= ·)->as=bs
 | [],bs,p,_,_=>by rw [List.nil_perm.mp p]
 | a::as,[],p,_,_=>by cases List.perm_nil.mp p
 | a::as,b::bs,p,h1,h2=>by
   rw [List.pairwise_cons] at h1 h2
   have e:a=b:=by
    have m1:a∈b::bs:=p.subset (by simp)
    have m2:b∈a::as:=p.symm.subset (by simp)
    rcases aK.mp m1 with e | m1
    ·exact e
    ·rcases aK.mp m2 with e | m2
     ·exact e.symm
     ·have:=h1.1 b m2;have:=h2.1 a m1;omega
   subst e
   rw [oK (List.perm_cons _ |>.mp p) h1.2 h2.2]
theorem nJ {ns ms:List Int} (p:ms.Perm ns) (h:ms.Pairwise (· <= ·)):ms=km ns:=oK (p.trans (gH ns).symm) h (uF ns)
theorem t9 {H:Hp}{μ:List Addr} : ∀ {us:List U}{vs:List V}{ns:List Int},RUs H μ us vs->dz nG us=some ns->vs=ns.map V.int
 | [],vs,ns,r,e=>by cases e;rw [r.nil_inv];rfl
 | u::us,vs,ns,r,e=>by
   obtain⟨v,r',rfl,a,b⟩:=r.inv
   unfold dz at e
   cases u with
   | int x=>
     simp only [nG,ah] at e
     cases q:dz nG us with
     | none=>rw [q] at e;cases e
     | some cs=>
       rw [q] at e;cases e
       rw [cq a,t9 b q];rfl
   | _=>cases e
theorem intsAre_of : ∀ {ns:List Int}{us:List Value},bO (ns.map V.int) us->IntsAre us ns
 | [],us,r=>by cases r;exact .nil
 | n::ns,us,r=>by
   cases r with
   | cons a b=>
     obtain⟨t,rfl⟩:=a
     exact .cons n t (intsAre_of b)
theorem lE : ∀ {ns:List Int}{us:List Value},IntsAre us ns->bO (ns.map V.int) us
 | _,_,.nil => .nil
 | _,_,.cons n t r => .cons ⟨t,rfl⟩ (lE r)
theorem hC : ∀ {ns:List Int}{us:List Value},IntsAre us ns->us.length=ns.length
 | _,_,.nil=>rfl
 | _,_,.cons n t r=>by simp [hC r]
theorem xx {prog:Program}{w:World}{A:Around}{E:Value->Shared->Prop}{s:Shared}{Q:List Value->Shared->Prop} (it:Addr) {T:String}{o:Obj}{items:Array Value}{n:Nat} (hT:T="list"\/T="tuple")
  (ho:s.heap.get? it=some o) (hc:o.cls = .type T) (hd:o.data = .seq items n) (hsz:items.size<=sizeLine)
  (hQ : ∀ h',(∀ b o',s.heap.get? b=some o'->h'.get? b=some o')->s.heap.objs.size<=h'.objs.size->Q items.toList { s with heap:=h' }) :
  aB (model prog w) A (collect (.ref it)) Q E s:=by
 unfold collect
 refine ae (iY (cu i7 ?_))
 rw [bJ i8 _]
 show aB _ A.in1 (newList [] >>= fun l=>again (.builtin "list.__iadd__" ⟨[l,.ref it],[]⟩)) _ _ s
 refine ae (aU (ao ⟨plainId_quiet dQ _,cu lT ?_⟩))
 rw [bJ dQ _]
 have hS:(s.heap.push { cls := .type "list",data := .seq ([]:List Value).toArray }).get? s.heap.objs.size=some { cls := .type "list",data := .seq #[] 0 }:=av _ rfl
 have hS₂:=cQ (cD (· ++ items)) hS rfl
 refine cR (wpAny_extend_seq (hsz:=hsz) (A:=A) (R:=fun r s'=>r = .ok (.ret (.ref s.heap.objs.size))/\s'={ s with heap:=(s.heap.push { cls := .type "list",data := .seq ([]:List Value).toArray }).update s.heap.objs.size (cD (· ++ items)) })
  (s:={ s with heap:=s.heap.push { cls := .type "list",data := .seq ([]:List Value).toArray } }) _ it _ 0 hT hS (ak _ ho) hc hd ⟨rfl,rfl⟩) (fun fin s' h => ?_) (fun e s' h=>absurd h.1 (by simp))
 have fin':aB (model prog w) A (match aT s.heap.objs.size with
   | aT a=>do
     match (<- load a).data with
      | CL xs _=>pure xs.toList
      | _=>unsupported "internal:collect"
   | _=>unsupported "internal:collect") Q E { s with heap:=(s.heap.push { cls := .type "list",data := .seq ([]:List Value).toArray }).update s.heap.objs.size (cD (· ++ items)) }:=by
  show aB _ A (load s.heap.objs.size >>= _) _ _ _
  refine ae (uq hS₂ (ao ?_))
  show Q ((#[]:Array Value)++items).toList _
  rw [show ((#[]:Array Value)++items).toList=items.toList by simp]
  exact hQ _ (fun b o' hb=>(cb _ _ (bL (aC hb))).trans (ak _ hb)) (by rw [Heap.size_update,size_push'];exact dc _)
 cases fin with
 | done f=>
   obtain⟨e,rfl⟩:=h
   cases e
   exact fin'
 | again c'=>exact⟨h.1,iW h.2 fun r s'' hr=>by obtain⟨rfl,rfl⟩:=hr;exact fin'⟩
theorem qm {prog:Program}{w:World}{A:Around}{E:Value->Shared->Prop}{s:Shared}{l:Addr}{T:String}{o:Obj}{n:Nat}{vs:List Value}{ns:List Int}{Q:Value->Shared->Prop} (hT:T="list"\/T="tuple")
  (ho:s.heap.get? l=some o) (hc:o.cls = .type T) (hd:o.data = .seq vs.toArray n) (hI:IntsAre vs ns) (h64:vs.length < 64)
  (h : ∀ (out:Array Value) (ns':List Int) (a:Addr) (e:Nat) (h':Heap),IntsAre out.toList ns'->ns'.Perm ns->ns'.Pairwise (· <= ·)->s.heap.objs.size<=a->(∀ b o',s.heap.get? b=some o'->h'.get? b=some o') ->
   h'.get? a=some (seqObj "list" out e)->Q (.ref a) { s with heap:=h' }) :
  aB (model prog w) A (call (.builtin "sorted") [.ref l]) Q E s:=by
 refine kj kind_sorted plain_sorted entry_sorted (args_sorted1 _) ?_
 unfold Builtin.«sorted»
 refine ae (m:=checkCount "sorted" 1 1 _) (ao ?_)
 refine ae (xx l hT ho hc hd (by rw [az,sizeLine_eq];omega) fun h1 hk hle => ?_)
 refine ae (wpAny_newList ?_)
 have hoL:(h1.push (seqObj "list" vs.toArray 0)).get? h1.objs.size=some (seqObj "list" vs.toArray 0):=av _ rfl
 show aB _ _ _ _ _ { s with heap:=h1.push (seqObj "list" vs.toArray 0) }
 refine ae (cM (bH slot_list_sort ⟨_,hoL,rfl⟩ entry_list_sort (list_sort_tree hoL hI h64 fun out ns' a1 a2 a3=>⟨_,rfl,?_⟩) (args_list_sort _)))
 obtain⟨e,he⟩:=sortedHeap_at (out:=out) hoL
 exact ao ⟨_,rfl,h out ns' _ e _ a1 a2 a3 hle (fun b o' hb=>by
  have hb1:=hk b o' hb
  have hlt:=aC hb1
  rw [sortedHeap_old (aG hlt) (by rw [size_push'];exact b7 hlt),qQ _ _ _ (aG hlt)]
  exact hb1) he⟩
theorem sW {prog:Program}{w:World}{A:Around}{E:Value->Shared->Prop}{s:Shared}{Q:List Value->Shared->Prop}{d:Addr}{vs:List (Key×Value)}{ep:Nat} (hh:A.handled=none) (hS:(d == sysModules)=false) (hm:s.heap.DictAt (dB prog w) d vs ep) (hn:vs.length<=sizeLine)
  (hQ : ∀ s' acc,(∀ b o,s.heap.get? b=some o->s'.heap.get? b=some o)->s'.gens=s.gens->s'.drawn=s.drawn->s'.os=s.os->ItemsOf (fun i v => ∃ k x,vs[i]? = some (k,x)/\(dB prog w).is k v=true) acc vs.length->s.heap.objs.size<=s'.heap.objs.size->Q acc.toList s'):aB (model prog w) A (collect (.ref d)) Q E s:=by
 have hdl:d < s.heap.objs.size:=hm.lt_size
 let lo:Obj:={ cls := .type "list",data := .seq ([]:List Value).toArray }
 let io:Obj:={ cls := .type "dict_keyiterator",data := .fields #[.ref d,.int 0 0,.int vs.length 0,.int ep 0] }
 have hm1:(s.heap.push lo).DictAt (dB prog w) d vs ep:=hm.push lo
 have hT1:ko { s with heap:=s.heap.push lo } (.ref d) "dict":=hm1.dictOf.typeIs
 unfold collect
 refine ae (iY (cu i7 ?_))
 rw [bJ i8 _]
 show aB _ A.in1 (newList [] >>= fun l=>again (.builtin "list.__iadd__" ⟨[l,.ref d],[]⟩)) _ _ s
 refine ae (aU (ao ⟨plainId_quiet dQ _,cu lT ?_⟩))
 rw [bJ dQ _]
 show aB _ A.in1 (eR (.ref s.heap.objs.size) (.ref d) (.ref s.heap.objs.size)) _ _ _
 unfold eR
 refine ae (fA hT1 ?_)
 have hne:fC (.ref s.heap.objs.size) (.ref d)=false:=by simp [fC];exact bL hdl
 rw [if_neg (by rw [hne];decide)]
 refine ae (wpAny_pyIter_dict hS hm1 ?_)
 refine ae (cM ?_)
 unfold pf
 have hT2:ko { s with heap:=(s.heap.push lo).push io } (.ref d) "dict":=(hm1.push io).dictOf.typeIs
 refine ae (wpAny_specialOf hT2 PySem.F.slot_dict_len.lookup ?_)
 generalize hid:("dict.__len__":String)=id0
 wp_delta
 rw [show splitId id0=some ("dict","__len__") from by subst hid;decide +kernel]
 subst hid
 refine ae (jD (b:=true) hT2 (by rw [isSubtype_type];kernel_rfl) ?_)
 simp only [Bool.not_true,eV,if_false]
 rw [if_pos (by decide +kernel)]
 refine ae (fA hT2 (ao ?_))
 rw [if_pos (by decide +kernel)]
 refine ae (lB (ae ?_))
 have hne2:s.heap.objs.size≠(s.heap.push lo).objs.size:=by rw [bc];exact aG (aV _)
 have hL1:((s.heap.push lo).push io).get? s.heap.objs.size=some lo:=ak _ (av _ rfl)
 show aB _ A.in1 (updateSeq s.heap.objs.size (·.push .none) >>= fun _=>updateSeq s.heap.objs.size (·.pop)) _ _ _
 refine ae (oW hL1 rfl ?_)
 have hL2:=cQ (cD (·.push dk)) hL1 rfl
 refine oW hL2 rfl ?_
 have hL3:=cQ (cD (·.pop)) hL2 rfl
 have oth : ∀ b o,b≠s.heap.objs.size->((s.heap.push lo).push io).get? b=some o->((((s.heap.push lo).push io).update s.heap.objs.size (cD (·.push dk))).update s.heap.objs.size (cD (·.pop))).get? b=some o:=
  fun b o hb e=>(cb _ _ (cY hb)).trans ((cb _ _ (cY hb)).trans e)
 have hI:(s.heap.push lo).objs.size=s.heap.objs.size+1:=bc ..
 have hdI:d≠(s.heap.push lo).objs.size:=by rw [hI];exact aG (b7 hdl)
 have W:=(Walks.dictKeys (prog:=prog) (w:=w) (A:=A.in1) (knd:=dB prog w) hh (s.heap.push lo).objs.size d hdI vs ep).toS
 have hSf:s.heap.objs.size ∉ [(s.heap.push lo).objs.size,d]:=by
  rw [hI]
  intro z
  rcases aK.mp z with z | z
  ·omega
  ·rw [aW] at z;exact absurd z (bL hdl)
 have it0:((s.heap.push lo).push io).IsKeyIter (s.heap.push lo).objs.size d 0 vs.length ep:=⟨io,av _ rfl,rfl,rfl⟩
 refine ao ⟨plainId_quiet F.plain_extend_loop _,codeAny_extend_loopS W hn s.heap.objs.size hSf _ vs.length 0 _ _ _ rfl (da _) ?_ hL3 (ItemsOf.nil _) fun s' acc' c' hmv hS' hacc => ?_⟩
 ·exact⟨it0.at fun o e=>oth _ o (cY hne2) e,(hm1.push io).at' fun o e=>oth _ o (aG hdl) e⟩
 ·show aB _ A (load s.heap.objs.size >>= _) _ _ s'
  refine ae (uq hS' (ao (hQ s' acc' (fun b o e => ?_) hmv.gens hmv.drawn hmv.os hacc (cK (aC hS')))))
  have hb:b < s.heap.objs.size:=aC e
  refine hmv.heap b o ?_ (oth b o (aG hb) (ak _ (ak _ e)))
  rw [hI]
  intro z
  rcases aK.mp z with z | z
  ·exact absurd z (aG hb)
  ·rw [aW] at z;exact absurd z (aG (b7 hb))
theorem rO : ∀ {l:List Value}{ns:List Int},l.length=ns.length->(∀ (j:Nat) (v:Value),l[j]? = some v -> ∃ i t,ns[j]? = some i/\v = .int i t)->IntsAre l ns
 | [],[],_,_ => .nil
 | [],_::_,h,_=>by simp at h
 | _::_,[],h,_=>by simp at h
 | v::l,n::ns,h,k=>by
   obtain⟨i,t,e,rfl⟩:=k 0 v rfl
   simp at e;subst e
   exact .cons n t (rO (by simpa using h) fun j w hj=>by simpa using k (j+1) w (by simpa using hj))
theorem wq {prog:Program}{w:World}{A:Around}{E:Value->Shared->Prop}{s:Shared}{d:Addr}{vs:List (Key×Value)}{ns:List Int}{Q:Value->Shared->Prop} (hh:A.handled=none) (hS:(d == sysModules)=false) (hm:s.heap.DictOf (dB prog w) d vs) (hk:vs.map (·.1)=ns.map i3) (h64:ns.length < 64)
  (h : ∀ (out:Array Value) (ns':List Int) (a:Addr) (e:Nat) (h':Heap) (tk:Nat),IntsAre out.toList ns'->ns'.Perm ns->ns'.Pairwise (· <= ·)->s.heap.objs.size<=a->(∀ b o',s.heap.get? b=some o'->h'.get? b=some o') ->
   h'.get? a=some (seqObj "list" out e)->Q (.ref a) { s with heap:=h',toks:=tk }) :
  aB (model prog w) A (call (.builtin "sorted") [.ref d]) Q E s:=by
 obtain⟨ep,hm⟩:=hm.dictAt
 have hlen:vs.length=ns.length:=by have:=congrArg uu hk;simpa using this
 refine kj kind_sorted plain_sorted entry_sorted (args_sorted1 _) ?_
 unfold Builtin.«sorted»
 refine ae (m:=checkCount "sorted" 1 1 _) (ao (ae (sW hh hS hm (by rw [hlen,sizeLine_eq];omega) fun s1 acc hk1 hg hdr hos hacc hle => ?_)))
 have hI:IntsAre acc.toList ns:=rO (by rw [<- hlen,<- hacc.1];simp) fun j v hj=>by
  obtain⟨k,x,e,ik⟩:=hacc.2 j v (by simpa using hj)
  have e2:(vs.map (·.1))[j]? = some k:=by rw [ek,e];rfl
  rw [hk,ek] at e2
  cases q:ns[j]? with
  | none=>rw [q] at e2;cases e2
  | some i=>
    rw [q] at e2
    have e3:i3 i=k:=bw e2
    subst e3
    rcases dI (show p9 (i3 i) v=true from ik) with⟨i',t,e4,e5⟩ | ⟨y,t,e4,_⟩
    ·cases e4;exact⟨_,t,rfl,e5⟩
    ·cases e4
 have hal:acc.toList.length < 64:=by rw [hC hI];exact h64
 refine ae (wpAny_newList ?_)
 have hoL:(s1.heap.push (seqObj "list" acc 0)).get? s1.heap.objs.size=some (seqObj "list" acc.toList.toArray 0):=av _ rfl
 show aB _ _ _ _ _ { s1 with heap:=s1.heap.push (seqObj "list" acc 0) }
 refine ae (cM (bH slot_list_sort ⟨_,hoL,rfl⟩ entry_list_sort (list_sort_tree hoL hI hal fun out ns' a1 a2 a3=>⟨_,rfl,?_⟩) (args_list_sort _)))
 obtain⟨e,he⟩:=sortedHeap_at (out:=out) hoL
 have hq:=h out ns' _ e _ s1.toks a1 a2 a3 hle (fun b o' hb=>by
  have hb1:=hk1 b o' hb
  have hlt:=aC hb1
  rw [sortedHeap_old (aG hlt) (by rw [size_push'];exact b7 hlt),qQ _ _ _ (aG hlt)]
  exact hb1) he
 rw [<- hg,<- hdr,<- hos] at hq
 exact ao ⟨_,rfl,hq⟩
section
variable {X:Cx}
noncomputable def yg (K:ar):List V->Hp->VK->Prop:=fun xs H Q => ∃ (p:Addr) (ns:List Int),xs = [.ref p]/\((SqL K H p (ns.map V.int)\/SqT K H p (ns.map V.int)) \/ ∃ kvs,H p=some (.dK kvs)/\kvs.map (·.1)=ns.map i3)/\ns.length < 64 /\ ∀ l,H l=none->Q (.ref l) (upd H l (.lst ((km ns).map V.int)))
theorem Et {kvs:List (Key×V)}{vs:List (Key×Value)} (h:KV kvs vs):vs.map (·.1)=kvs.map (·.1):=by
 induction h with
 | nil=>rfl
 | cons a _ ih=>rw [bu,bu,ih,a.1]
theorem wu (hc:X.calm=true):gm X (.builtin "sorted") (yg X.K):=by
 intro pins s σ H xs us Q I rs h
 obtain⟨p,ns,rfl,hS,h64,q⟩:=h
 cases rs with
 | cons r1 rr=>
   cases rr
   cases (show _=aT p from r1)
   have fin : ∀ (out:Array Value) (ns':List Int) (a:Addr) (e:Nat) (h':Heap) (tk:Nat),IntsAre out.toList ns'->ns'.Perm ns->ns'.Pairwise (· <= ·)->s.heap.objs.size<=a->(∀ b o',s.heap.get? b=some o'->h'.get? b=some o') ->
    h'.get? a=some (seqObj "list" out e)->EP X pins σ Q (.ref a) { s with heap:=h',toks:=tk }:=by
    intro out ns' a e h' tk a1 a2 a3 hle hk he
    have e':=nJ a2 a3
    subst e'
    refine⟨.ref a,_,I.laid (t':=tk) (o := .lst ((km ns).map V.int)) hk hle ?_,rfl,q _ (I.hok.fresh hle)⟩
    refine⟨by rw [ay,(gH ns).length_eq,sizeLine_eq];omega,out.toList,e,lE a1,?_⟩
    rw [he]
   rcases hS with (hS | hS) | ⟨kvs,hp,hks⟩
   ·obtain⟨its,rv,pl,_⟩:=I.list hS
    have hl:=pl.isList
    obtain⟨o,ho,hc,n,hd⟩:=hl
    have hI:=intsAre_of rv
    exact qm (.inl rfl) ho hc hd hI (by rw [hC hI];exact h64) fun out ns' a e h'=>fin out ns' a e h' s.toks
   ·obtain⟨its,rv,pl,_⟩:=I.tuple hS
    obtain⟨o,ho,hc,n,hd⟩:=pl
    have hI:=intsAre_of rv
    exact qm (.inr rfl) ho hc hd hI (by rw [hC hI];exact h64) fun out ns' a e h'=>fin out ns' a e h' s.toks
   ·obtain⟨_,hsm,vs,rel,dd⟩:=(show dJ X.prog X.w H s.heap p (.dK kvs) from I.hok p _ hp)
    exact wq (I.ok.hd hc) hsm dd (by rw [Et rel];exact hks) h64 fin
end
section
variable {K:KX}
theorem nZ {H:Hp}{μ:List Addr} : ∀ ns:List Int,RUs H μ (ns.map U.int) (ns.map V.int)
 | [] => .nil
 | n::ns => .cons d9 (nZ ns)
theorem yQ : ∀ {kvs:List (Key×U)}{vs:List V},kvs.length=vs.length->(dV kvs vs).map (·.1)=kvs.map (·.1)
 | [],_,_=>rfl
 | _::_,[],h=>by simp at h
 | kv::kvs,v::vs,h=>by
   show kv.1::(dV kvs vs).map (·.1)=kv.1::kvs.map (·.1)
   rw [yQ (by simpa using h)]
theorem sH : ∀ {kvs:List (Key×U)}{ns:List Int},dz tU kvs=some ns->kvs.map (·.1)=ns.map i3
 | [],ns,h=>by cases h;rfl
 | (k,u)::kvs,ns,h=>by
   unfold dz at h
   cases k with
   | inr x=>cases h
   | inl i=>
     simp only [tU,ah] at h
     cases q:dz tU kvs with
     | none=>rw [q] at h;cases h
     | some ms=>
       rw [q] at h;cases h
       rw [bu,sH q];rfl
theorem zY:nP K (yg K) fL:=by
 intro μ S H us vs u S' Q hr rs e a
 unfold fL at e
 split at e
 ·rename_i x
  obtain⟨v,r,rfl,rx,rn⟩:=rs.inv
  rw [rn.nil_inv]
  cases q:rK S x with
  | none=>rw [q] at e;cases e
  | some ns=>
    rw [q] at e;simp only [ah] at e
    split at e
    rotate_left
    ·cases e
    rename_i hc
    cases e
    unfold rK at q
    split at q
    ·rename_i kvs qd
     obtain⟨p,ws,rfl,hp,r'⟩:=hr.dic rx qd
     have hl:kvs.length=ws.length:=by have:=r'.len;rwa [ay] at this
     exact⟨p,ns,rfl,.inr ⟨_,hp,by rw [yQ hl];exact sH q⟩,hc,fun l hl=>fK a hr (nZ _) hl⟩
    ·cases q1:dr S x with
     | none=>rw [q1] at q;cases q
     | some ws=>
       rw [q1] at q
       obtain⟨p,ys,rfl,hs,r'⟩:=hr.seq rx q1
       rw [t9 r' q] at hs
       exact⟨p,ns,rfl,.inl hs,hc,fun l hl=>fK a hr (nZ _) hl⟩
 ·cases e
end
section
variable {X:Cx}
end
section
variable {K:KX}
end
end
end G
end
section
namespace G
open PySem PySem.Spec L2
open PyProof.Rows hiding St
theorem uW {prog:Program}{w:World}{A:Around}{E:Value->Shared->Prop}{s:Shared}{a:Addr}{ns:List Int}{Q:List Value->Shared->Prop} (hh:A.handled=none) (hS:pW prog w s.heap a (!w.params.followText "set-order") ns)
  (hQ : ∀ s' acc,(∀ b o,s.heap.get? b=some o->b≠a->s'.heap.get? b=some o)->s'.gens=s.gens->s'.os=s.os->(∃ ms,IntsAre acc ms/\ms.Perm ns)->s.heap.objs.size<=s'.heap.objs.size->Q acc s'):aB (model prog w) A (collect (.ref a)) Q E s:=by
 obtain⟨es,ep,t,ho,he⟩:=hS
 have la : @CA Nat _ a s.heap.objs.size:=aC ho
 let lo:Obj:={ cls := .type "list",data := .seq ([]:List Value).toArray }
 have hle:es.size<=sizeLine:=fits_of_scanBound he.sm
 have ho1:(s.heap.push lo).get? a=some (kr es ep t):=ak _ ho
 have hT1:ko { s with heap:=s.heap.push lo } (.ref a) "set":=⟨_,ho1,rfl⟩
 unfold collect;refine ae (iY (cu i7 ?_));rw [bJ i8 _];show aB _ A.in1 (newList [] >>= fun l=>again (.builtin "list.__iadd__" ⟨[l,.ref a],[]⟩)) _ _ s
 refine ae (aU (ao ⟨plainId_quiet dQ _,cu lT ?_⟩));rw [bJ dQ _];show aB _ A.in1 (eR (.ref s.heap.objs.size) (.ref a) (.ref s.heap.objs.size)) _ _ _
 unfold eR;refine ae (fA hT1 ?_)
 have hne:fC (.ref s.heap.objs.size) (.ref a)=false:=by simp [fC];exact bL la
 rw [if_neg (by rw [hne];decide)]
 have sz:(s.heap.push lo).objs.size=s.heap.objs.size+1:=bc ..
 refine ae (Aq (s:={ s with heap:=s.heap.push lo }) ho1 he hle fun I fp St L h' d W st hfp hL hk hI hfa => ?_)
 have hI : @LE.le Nat _ (s.heap.push lo).objs.size I:=hI
 refine ae (cM ?_);unfold pf
 have hT2:ko { s with heap:=h',drawn:=d } (.ref a) "set":=⟨_,hk _ _ ho1,rfl⟩
 refine ae (wpAny_specialOf hT2 PySem.F.slot_set_len.lookup ?_)
 generalize hid:("set.__len__":String)=id0
 wp_delta
 rw [show splitId id0=some ("set","__len__") from by subst hid;decide +kernel]
 subst hid
 refine ae (jD (b:=true) hT2 (by rw [isSubtype_type];kernel_rfl) ?_);simp only [Bool.not_true,eV,if_false];rw [if_pos (by decide +kernel)];refine ae (fA hT2 (ao ?_));rw [if_pos (by decide +kernel)];refine ae (lB (ae ?_))
 have hL1:h'.get? s.heap.objs.size=some lo:=hk _ _ (av _ rfl)
 show aB _ A.in1 (updateSeq s.heap.objs.size (·.push .none) >>= fun _=>updateSeq s.heap.objs.size (·.pop)) _ _ _;refine ae (oW hL1 rfl ?_)
 have hL2:=cQ (cD (·.push dk)) hL1 rfl
 refine oW hL2 rfl ?_
 have hL3:=cQ (cD (·.pop)) hL2 rfl
 have oth : ∀ b o,b≠s.heap.objs.size->h'.get? b=some o->((h'.update s.heap.objs.size (cD (·.push dk))).update s.heap.objs.size (cD (·.pop))).get? b=some o:=fun b o hb e=>(cb _ _ (cY hb)).trans ((cb _ _ (cY hb)).trans e)
 have hSf:s.heap.objs.size∉fp:=fun z=>by
  rcases hfa _ z with q | q
  ·have q' : @Eq Nat s.heap.objs.size a:=q;omega
  ·have q' : @LE.le Nat _ (s.heap.push lo).objs.size s.heap.objs.size:=q;omega
 have hlen:L.length=es.size:=by have:=hL.length_eq;simpa using this
 refine ao ⟨plainId_quiet F.plain_extend_loop _,codeAny_extend_loopS (W A.in1 hh).toS hle s.heap.objs.size hSf _ es.size 0 _ _ _ rfl (da _) ?_ hL3 (ItemsOf.nil _) fun s' acc' c' hmv hS' hacc => ?_⟩
 ·exact (W A.in1 hh).frame _ _ _ st fun b hb o e=>oth b o (fun q=>hSf (q▸hb)) e
 ·show aB _ A (load s.heap.objs.size >>= _) _ _ s'
  refine ae (uq hS' (ao (hQ s' acc'.toList (fun b o e hba => ?_) hmv.gens hmv.os ?_ (cK (aC hS')))))
  ·have hb : @CA Nat _ b s.heap.objs.size:=aC e
   refine hmv.heap b o (fun z => ?_) (oth b o (aG hb) (hk b o (ak _ e)))
   rcases aK.mp z with q | q
   ·have q' : @Eq Nat b s.heap.objs.size:=q;omega
   ·have q' : @Eq Nat b I:=aW.mp q;omega
  ·have eL:acc'.toList=L:=by
    apply List.ext_getElem?
    intro j
    by_cases hj:j < es.size
    ·have h1:j < acc'.size:=by rw [hacc.1];exact hj
     have:=hacc.2 j acc'[j] (by simp [h1])
     rw [this];simp [h1]
    ·rw [iF (by rw [bQ,hacc.1];exact eP (by assumption)),iF (by omega)]
   rw [eL]
   refine⟨L.map HK,v9 fun v hv => ?_,(hL.map _).trans (by rw [cx];exact he.pm)⟩
   obtain⟨e,hm,rfl⟩:=bI.mp (hL.mem_iff.mp hv)
   exact he.int hm
theorem xn {prog:Program}{w:World}{A:Around}{E:Value->Shared->Prop}{s:Shared}{d:Addr}{ns:List Int}{Q:Value->Shared->Prop} (hh:A.handled=none) (hS:pW prog w s.heap d (!w.params.followText "set-order") ns) (h64:ns.length < 64)
  (h : ∀ (out:Array Value) (ns':List Int) (a:Addr) (e:Nat) (s':Shared),IntsAre out.toList ns'->ns'.Perm ns->ns'.Pairwise (· <= ·)->s.heap.objs.size<=a->(∀ b o',s.heap.get? b=some o'->b≠d->s'.heap.get? b=some o')->s'.gens=s.gens->s'.os=s.os ->
   s'.heap.get? a=some (seqObj "list" out e)->Q (.ref a) s') :
  aB (model prog w) A (call (.builtin "sorted") [.ref d]) Q E s:=by
 refine kj kind_sorted plain_sorted entry_sorted (args_sorted1 _) ?_
 unfold Builtin.«sorted»
 refine ae (m:=checkCount "sorted" 1 1 _) (ao (ae (uW (A:=A.in1) hh hS fun s1 acc hk1 hg hos ⟨ms,hI,hp⟩ hle => ?_)))
 have hal:acc.length < 64:=by rw [hC hI,hp.length_eq];exact h64
 refine ae (wpAny_newList ?_)
 have hoL:(s1.heap.push (seqObj "list" acc.toArray 0)).get? s1.heap.objs.size=some (seqObj "list" acc.toArray 0):=av _ rfl
 show aB _ _ _ _ _ { s1 with heap:=s1.heap.push (seqObj "list" acc.toArray 0) }
 refine ae (cM (bH slot_list_sort ⟨_,hoL,rfl⟩ entry_list_sort (list_sort_tree hoL hI hal fun out ns' a1 a2 a3=>⟨_,rfl,?_⟩) (args_list_sort _)))
 obtain⟨e,he⟩:=sortedHeap_at (out:=out) hoL
 exact ao ⟨_,rfl,h out ns' _ e _ a1 (a2.trans hp) a3 hle (fun b o' hb hbd=>by
  have hb1:=hk1 b o' hb hbd
  have hlt:=aC hb1
  show (Heap.get? _ b)=_
  rw [sortedHeap_old (aG hlt) (by rw [size_push'];exact b7 hlt),qQ _ _ _ (aG hlt)]
  exact hb1) hg hos he⟩
section
noncomputable def DL (n m:Nat):Prop:=n < 4000/\m < 64
noncomputable instance (n m:Nat):Decidable (DL n m):=bX _
noncomputable def bSS:MF:=fun us S=>match us with
 | [x]=>((dr S x).bind fun xs=>dz nG xs).bind fun ns=>if DL ns.length (ddp ns).length then some (.ref S.length,S ++ [.lst ((km (ddp ns)).map U.int)]) else none
 | _=>none
end
noncomputable def rSS (K:ar):List V->Hp->VK->Prop:=fun xs H Q => ∃ (p:Addr) (ns:List Int),xs = [.ref p]/\(SqL K H p (ns.map V.int)\/SqT K H p (ns.map V.int))/\DL ns.length (ddp ns).length /\ ∀ l,H l=none->Q (.ref l) (upd H l (.lst ((km (ddp ns)).map V.int)))
theorem Jl {K:KX}:nP K (rSS K) bSS:=by
 intro μ S H us vs u S' Q hr rs e a
 unfold bSS at e
 split at e
 ·rename_i x
  obtain⟨v,r,rfl,rx,rn⟩:=rs.inv
  rw [rn.nil_inv]
  cases q1:dr S x with
  | none=>rw [q1] at e;cases e
  | some ws=>
    rw [q1] at e
    simp only [ah] at e
    cases q:dz nG ws with
    | none=>rw [q] at e;cases e
    | some ns=>
      rw [q] at e
      simp only [ah] at e
      split at e
      rotate_left
      ·cases e
      rename_i hc
      cases e
      obtain⟨p,ys,rfl,hs,r'⟩:=hr.seq rx q1
      rw [t9 r' q] at hs
      exact⟨p,ns,rfl,hs,hc,fun l hl=>fK a hr (nZ _) hl⟩
 ·cases e
theorem Inv.drawn {X:Cx}{pins:List (Addr×Obj)}{σ:L2.St}{H:Hp}{s s':Shared} (I:Inv X pins σ H s) (h1:s'.heap=s.heap) (h2:s'.gens=s.gens) (h3:s'.os=s.os):Inv X pins σ H s':=by
 obtain⟨a,b,c,d,e⟩:=s'
 simp only at h1 h2 h3
 subst h1 h2 h3
 exact⟨I.ok,I.os,I.bare,I.base,I.loc,I.cell,I.free,I.freeC,I.pin,I.hok,I.len⟩
theorem Ij {X:Cx}{e:Expr}{t:TA}{p q rp pos:Pos} (hc:X.calm=true) (hg:Gl X "sorted") (hm:X.mg "sorted"=none) (hg2:Gl X "set") (hm2:X.mg "set"=none) (ha:PA X [e] t) (he:starEach [e] X.env=(false,eval e X.env)::starEach [] X.env):PE X (.Call (.Name "sorted" p) [.Call (.Name "set" q) [e] [] rp] [] pos) (tCB (rSS X.K) t):=by
 intro pins s σ H Q I h
 refine fw (jA I hg hm qR ?_ (by decide) (by decide))
 refine n0 ?_ rfl rfl
 show aB _ _ (spliced ((false,eval (.Call (.Name "set" q) [e] [] rp) X.env)::backTo pos (starEach [] X.env))) _ _ s
 refine Calls.spliced_cons (fw (jA I hg2 hm2 PyProof.Rows.boot_set ?_ (by decide) (by decide)))
 refine cc (thn (ha rp pins s σ H _ I h) fun us s1 ⟨vs,H1,I1,r1,q1⟩ => ?_) he rfl
 obtain⟨a,ns,rfl,hS,⟨hk1,hk2⟩,qq⟩:=q1
 cases r1 with
 | cons r1 rr=>
   cases rr
   cases (show _=aT a from r1)
   have hh:=I1.ok.hd hc
   have fin : ∀ (T:String) (items:Array Value) (nl:Nat) (od:Option Addr) (osl:Array (Option Value)),T="list"\/T="tuple"->s1.heap.get? a=some { cls := .type T,dict:=od,data := .seq items nl,slots:=osl }->IntsAre items.toList ns ->
     aB (model X.prog X.w) X.A (call (.type "set") [.ref a]) (fun u s2=>aB (model X.prog X.w) X.A (spliced (backTo pos (starEach [] X.env))) (fun us s3=>aB (model X.prog X.w) X.A (call (.builtin "sorted") (u::us)) (EP X pins σ Q) X.xe s3) X.xe s2) X.xe s1:=by
    intro T items nl od osl hT hol hi
    refine Cn hT hh hol hi (by unfold scanBound;exact aJ (by assumption) (by decide)) fun h2 tk hset hold=>Calls.spliced_nil ?_
    refine xn (s:={ s1 with heap:=h2,toks:=tk }) hh hset hk2 fun out ns' l ee s3 a1 a2 a3 hle hkp hgn hos hl => ?_
    have e':=nJ a2 a3
    subst e'
    have la : ∀ b o,s1.heap.get? b=some o->s3.heap.get? b=some o:=fun b o e=>hkp b o (hold b o (by simp) e) (aG (aC e))
    have lz:s1.heap.objs.size<=l:=by
     obtain⟨es,ep,t,g,_⟩:=hset
     have : @CA Nat _ s1.heap.objs.size h2.objs.size:=aC g
     have z : @LE.le Nat _ h2.objs.size l:=hle
     exact cK (ai this z)
    have I3:=I1.laid (t':=s3.toks) (o := .lst ((km (ddp ns)).map V.int)) (h':=s3.heap) (a:=l) la lz ⟨by rw [ay,(gH _).length_eq,sizeLine_eq];omega,out.toList,ee,lE a1,by rw [hl]⟩
    exact⟨.ref l,_,Inv.drawn I3 rfl hgn hos,rfl,qq _ (I1.hok.fresh lz)⟩
   rcases hS with hS | hS
   ·obtain⟨its,rv,pl,_⟩:=I1.list hS
    obtain⟨⟨oc,od,odt,osl⟩,ho,hcl,n,hd⟩:=pl.isList
    simp only at hcl hd
    subst hcl hd
    exact fin "list" _ n _ _ (.inl rfl) ho (intsAre_of rv)
   ·obtain⟨its,rv,pl,_⟩:=I1.tuple hS
    obtain⟨⟨oc,od,odt,osl⟩,ho,hcl,n,hd⟩:=pl
    simp only at hcl hd
    subst hcl hd
    exact fin "tuple" _ n _ _ (.inr rfl) ho (intsAre_of rv)
end G
end
section
namespace G
open PySem PySem.Spec L2
open PyProof.Rows hiding St
section
section
variable {prog:Program}{w:World}{A:Around}{E:Value->Shared->Prop}{s:Shared}
theorem Bo (xs:Array Value) (n:Nat) (hn:xs.size=n):((aA n).filterMap fun (k:Nat)=>xs[(((n:Int) - 1)+(k:Int)*(-1)).toNat]?).toArray=xs.toList.reverse.toArray:=by
 subst hn
 have e:(fun (k:Nat)=>xs[(((xs.size:Int) - 1)+(k:Int)*(-1)).toNat]?)=(fun i=>xs[i]?)∘fun k=>xs.size - 1 - k:=by
  funext k
  have e1:(((xs.size:Int) - 1)+(k:Int)*(-1)).toNat=xs.size - 1 - k:=by omega
  rw [e1];rfl
 rw [e,<- List.filterMap_map,PySem.W.krv_range,List.filterMap_reverse,PySem.W.krv_all]
theorem oB {sl:Addr}{n:Nat}{t:Tok}{Q:Int×Int×Nat->Shared->Prop} (hs:s.heap.IsSliceOf sl .none .none (.int (-1) t))
  (h:Q ((n:Int) - 1,-1,n) s):aB (model prog w) A (eT (.ref sl) (pure (n:Int))) Q E s:=by
 obtain⟨os,hos,hcs,hds⟩:=id hs
 unfold eT pE
 refine ae (ae (cW hos hds (x := .none) rfl (ae (cW hos hds (x := .none) rfl (ae (cW hos hds (x := .int (-1) t) rfl (ao ?_)))))))
 refine ae (HT.slicePart_ (.int (-1) t) ?_)
 show aB _ _ (if ((-1:Int) == 0)=true then _ else _) _ _ s
 rw [if_neg (by decide)]
 refine ae (HT.slicePart_ .none (ae (HT.slicePart_ .none (ae (ao ?_)))))
 show aB _ _ (match dS none none (-1) (n:Int) with | (lo,hi)=>pure (lo,(-1:Int),b0 lo hi (-1))) _ _ s
 have e1:dS none none (-1) (n:Int)=((n:Int) - 1,-1):=rfl
 have e2:b0 ((n:Int) - 1) (-1) (-1)=n:=by
  unfold b0
  rw [if_neg (by decide)]
  split
  ·rw [show (-(-1):Int)=1 by decide,Int.ediv_one];omega
  ·omega
 rw [e1]
 show aB _ _ (pure ((n:Int) - 1,(-1:Int),b0 ((n:Int) - 1) (-1) (-1))) _ _ s
 rw [e2]
 exact ao h
theorem nE {t sl:Addr}{items:Array Value}{tk:Tok}{Q:Value->Shared->Prop} (ht:IsTup s.heap t items) (hs:s.heap.IsSliceOf sl .none .none (.int (-1) tk))
  (h:Q (.ref s.heap.objs.size) { s with heap:=s.heap.push { cls := .type "tuple",data := .seq items.toList.reverse.toArray } })
  (hsz:items.size<=sizeLine):aB (model prog w) A (getItem (.ref t) (.ref sl)) Q E s:=by
 have htake:sizeOk (.seq items.toList.reverse.toArray):=by
  show items.toList.reverse.toArray.size<=sizeLine
  rw [az,dR,bQ];exact hsz
 obtain⟨os,hos,hcs,hds⟩:=id hs
 have hTs:s.TypeIs (.ref sl) "slice":=⟨os,hos,hcs⟩
 unfold getItem
 try with_reducible refine cM ?_
 first | refine ae (ao ?_) | skip
 refine ae (wG ht.typeIs (by decide) ?_)
 refine ae (bG (name:=dF "__getitem__") ht.typeIs ck
  (bH ck ht.typeIs entry_tuple_getitem ?_ (args_tuple_getitem _ _)))
 show aB _ _ (iE (.ref t) >>= _) _ _ s
 refine ae (tupleItemsOf_ ht ?_)
 refine ae (fA hTs ?_)
 rw [if_pos (by decide)]
 refine ae (oB hs ?_)
 show aB _ _ (if ((((items.size:Int) - 1) == 0&&(-1:Int) == 1&&items.size == items.size))=true then _ else _) _ _ s
 rw [if_neg (by simp),Bo items _ rfl]
 first
  | exact ae (m:=bE _) (aU (ao ⟨_,rfl,ao h⟩) htake)
  | exact ae (m:=bE _) (aU (ae (ao (ao ⟨_,rfl,ao h⟩))) htake)
  | exact ae (ae (m:=bE _) (aU (ao (ao ⟨_,rfl,ao h⟩)) htake))
  | exact ae (ae (m:=bE _) (aU (ao ⟨_,rfl,ao h⟩) htake))
end
theorem bO.rev : ∀ {xs:List V}{us:List Value},bO xs us->bO xs.reverse us.reverse
 | _,_,.nil => .nil
 | x::xs,u::us,.cons a b=>by
   rw [il,il]
   exact (bO.rev b).append (.cons a .nil)
noncomputable def Ly (K:ar):V->Hp->VK->Prop:=fun x H Q => ∃ a xs,x = .ref a/\((SqT K H a xs /\ ∀ p,H p=none->Q (.ref p) (upd H p (.tup xs.reverse)))\/(SqL K H a xs /\ ∀ p,H p=none->Q (.ref p) (upd H p (.lst xs.reverse))))
noncomputable def HV (K:ar) (te:TE):TE:=fun σ H Q=>te σ H fun x H1=>Ly K x H1 Q
section
variable {X:Cx}{e:Expr}{te:TE}{pos p2 p3 p4:Pos}{j:Nat}
theorem HH (he:PE X e te):PE X (.Subscript e (.Slice none none (some (.UnaryOp .USub (.Constant (.int 1) j p3) p4)) p2) pos) (HV X.K te):=by
 intro pins s σ H Q I h
 refine Subscript_ (thn (he pins s σ H _ I h) fun v s1 ⟨x,H1,I1,r1,q1⟩ => ?_)
 refine wpAny_Slice ?_
 rw [evalPart_none,evalPart_some]
 refine ao (ao ?_)
 refine thn (Ff B6 BX pins s1 σ H1 (fun y H2=>y = .int (-1)/\H2=H1) I1 ⟨1,rfl,rfl,rfl⟩) fun u s3 ⟨y,H3,I3,ry,hy,hH⟩ => ?_
 subst hy hH
 obtain⟨t,rfl⟩:=ry
 have I4:Inv X pins σ H3 { s3 with heap:=s3.heap.push { cls := .type "slice",data := .fields #[.none,.none,.int (-1) t] } }:=I3.kept (t':=s3.toks) fun b ob q=>ak _ q
 show aB (model X.prog X.w) X.A (subscriptTail e (.Slice none none (some (.UnaryOp .USub (.Constant (.int 1) j p3) p4)) p2) v (.ref s3.heap.objs.size)) (EP X pins σ Q) X.xe { s3 with heap:=s3.heap.push { cls := .type "slice",data := .fields #[.none,.none,.int (-1) t] } }
 obtain⟨a,xs,rfl,q1⟩:=q1
 cases r1
 rcases q1 with⟨hx,q⟩ | ⟨hx,q⟩
 ·obtain⟨its,r,ht,hz⟩:=I4.tuple hx
  have hlen:its.toArray.size=xs.length:=by rw [az];exact r.length.symm
  refine tail_any (ops := [.ref a,.ref s3.heap.objs.size]) ht.typeIs PyProof.Rows.slot_tuple_getitem.lookup ?_ (by with_unfolding_all rfl)
  refine nE ht (lP ..) ?_ (by rw [hlen];exact hz)
  refine⟨.ref _,_,I4.laid (t':=s3.toks) (o := .tup xs.reverse) (fun b ob q=>ak _ q) (aq _) ?_,rfl,q _ (I4.hok.fresh (aq _))⟩
  exact⟨by rw [dR];exact hz,_,bO.rev r,lA _ _,_,av _ rfl,rfl⟩
 ·obtain⟨its,r,ht,hz⟩:=I4.list hx
  refine tail_any (ops := [.ref a,.ref s3.heap.objs.size]) ht.isList.typeIs slot_list_getitem.lookup ?_ (by with_unfolding_all rfl)
  refine wpAny_getItem_list_slice ht.isList (lP ..) .none .none (.int (-1) t) (by decide) ?_ (by rw [az,<- r.length];exact hz)
  rw [PySem.W.krv_pick]
  refine⟨.ref _,_,I4.laid (t':=s3.toks) (o := .lst xs.reverse) (fun b ob q=>ak _ q) (aq _) ?_,rfl,q _ (I4.hok.fresh (aq _))⟩
  exact⟨by rw [dR];exact hz,_,0,bO.rev r,av _ rfl⟩
end
noncomputable def lh:U->Sto->Res U:=fun x S=>match x with
 | .tup us=>some (.tup us.reverse,S)
 | .ref n=>(getL S n).map fun us=>(.ref S.length,S ++ [.lst us.reverse])
 | _=>none
theorem RUs.rev {H:Hp}{μ:List Addr} : ∀ {us:List U}{vs:List V},RUs H μ us vs->RUs H μ us.reverse vs.reverse
 | [],vs,r=>by rw [r.nil_inv];exact .nil
 | u::us,vs,r=>by
   obtain⟨v,r',rfl,a,b⟩:=r.inv
   rw [il,il]
   exact (RUs.rev b).append (.cons a .nil)
section
variable {K:KX}{σ:St}{H:Hp}{Q:VK}
theorem Kv {a:ME} (h:tM K (m1 lh a) σ H Q):HV K (tM K a) σ H Q:=by
 obtain⟨μ,S,ρ,u,S',hr,er,e,k⟩:=h
 obtain⟨x,S1,e1,e⟩:=aP e
 refine⟨μ,S,ρ,x,S1,hr,er,e1,fun μ1 vx H1 p1 k1 hr1 rx => ?_⟩
 have k':=k.mono p1 k1
 unfold lh at e
 split at e
 ·cases e
  obtain⟨p,vs,rfl,hp,rs⟩:=fO rx
  refine⟨p,vs,rfl,.inl ⟨.inl (.inl hp),fun l hl => ?_⟩⟩
  exact k' μ1 _ _ (Pre.refl _) (aZ.new hl) (hr1.tup hl) (fZ cJ (RUs.mono (aZ.new hl) (Pre.refl _) _ _ (RUs.rev rs)))
 ·rename_i n
  cases q:getL S1 n with
  | none=>rw [q] at e;cases e
  | some us=>
    rw [q] at e;cases e
    obtain⟨p,rfl,hp⟩:=dU rx
    obtain⟨p',ys,hp',hs,r'⟩:=hr1.sq q
    rw [hp] at hp';cases hp'
    exact⟨p,ys,rfl,.inr ⟨hs,fun l hl=>fK k' hr1 (RUs.rev r') hl⟩⟩
 ·cases e
end
end
end G
end
section
namespace G
open PySem PySem.Spec L2
open PyProof.Rows hiding St
section
noncomputable def sD:ME:=fun _ S=>some (.ref S.length,S ++ [.dic []])
noncomputable def Cp (k v:ME):ME:=fun ρ S=>bnd (k ρ (S ++ [.dic []])) fun x S1=>bnd (v ρ S1) fun y S2=>(keyOf x).bind fun kk=>match S2[S.length]? with
 | some (.dic [])=>some (.ref S.length,S2.set S.length (.dic [(kk,y)]))
 | _=>none
section
variable {K:KX}{σ:St}{H:Hp}{Q:VK}
theorem yB {μ:List Addr}{S:Sto}{p:Addr} (hr:HR K μ S H) (hp:H p=none):HR K (μ ++ [p]) (S ++ [.dic []]) (upd H p (.dK [])):=
 hr.newC hp rfl ⟨[],cJ,.nil⟩
theorem yH {μ:List Addr}{S:Sto}{p:Addr} (hr:HR K μ S H):(μ ++ [p])[S.length]? = some p:=by
 rw [<- hr.len,ax (aq _)];simp
theorem GP (h:tM K sD σ H Q):Bw σ H Q:=by
 obtain⟨μ,S,ρ,u,S',hr,er,e,k⟩:=h
 cases e
 intro p hp
 exact k (μ ++ [p]) _ _ ⟨[p],rfl⟩ (aZ.new hp) (yB hr hp) (ot (yH hr))
theorem Hg {a b:ME} (h:tM K (Cp a b) σ H Q):FB [(tM K a,tM K b)] σ H Q:=by
 obtain⟨μ,S,ρ,u,S',hr,er,e,k⟩:=h
 intro p hp
 obtain⟨x,S1,e1,e⟩:=aP e
 obtain⟨y,S2,e2,e⟩:=aP e
 have pre:Pre μ (μ ++ [p]):=⟨[p],rfl⟩
 refine⟨μ ++ [p],S ++ [.dic []],ρ,x,S1,yB hr hp,er.mono (aZ.new hp) pre,e1,fun μ1 vx H1 p1 k1 hr1 rx => ?_⟩
 refine⟨μ1,S1,ρ,y,S2,hr1,er.mono ((aZ.new hp).trans k1) (pre.trans p1),e2,fun μ2 vy H2 p2 k2 hr2 ry => ?_⟩
 cases qk:keyOf x with
 | none=>rw [qk] at e;cases e
 | some kk=>
   rw [qk] at e
   simp only [ah] at e
   split at e
   ·rename_i q
    cases e
    have hm:=p2.get (p1.get (yH hr (p:=p)))
    obtain⟨vs,e0,r0⟩:=hr2.cell _ _ p q hm
    have hv:vs = []:=r0.nil_inv
    subst hv
    have kw:aZ H2 (upd H2 p (.dK (oE [] [(kk,vy)]))):=aZ.wrG e0 fun _ z=>by cases z
    refine⟨e0,[(kk,vy)],?_,by simp,?_⟩
    ·rw [lK (RU.mono k2 p2 _ _ rx) qk];rfl
    ·refine k μ2 _ _ (pre.trans (p1.trans p2)) ((aZ.new hp).trans (k1.trans (k2.trans kw))) (hr2.wrC q hm rfl rfl ⟨[vy],by rw [cJ];rfl,.cons (RU.mono kw (Pre.refl _) _ _ ry) .nil⟩) (ot hm)
   ·cases e
noncomputable def IY (i:Int):Prop:=i.natAbs.log2 < 1920
noncomputable instance (i:Int):Decidable (IY i):=bX _
end
end
end G
end
section
namespace G
open PySem PySem.Spec L2
open PyProof.Rows hiding St
section
abbrev MG:=U->Rho->Sto->Option (Rho×Sto)
abbrev MGs:=List U->Rho->Sto->Option (Rho×Sto)
noncomputable def gN (i:Nat):MG:=fun u ρ S=>some (ρ.set i (some u),S)
noncomputable def gSb (o i:ME):MG:=fun x ρ S=>bnd (o ρ S) fun p S2=>bnd (i ρ S2) fun j S3=>match p with
 | .ref n=>match S3[n]? with
   | some (.lst us)=>(match j with
     | .int k=>(L2.ixN us.length k).map fun m=>(ρ,S3.set n (.lst (us.set m x)))
     | _=>none)
   | some (.dic kvs)=>(keyOf j).bind fun k=>if kvs.length < big then some (ρ,S3.set n (.dic (AL kvs k x))) else none
   | _=>none
 | _=>none
noncomputable def jl:MGs:=fun us ρ S=>match us with
 | []=>some (ρ,S)
 | _=>none
noncomputable def dn (g:MG) (r:MGs):MGs:=fun us ρ S=>match us with
 | []=>none
 | u::us=>(g u ρ S).bind fun p=>r us p.1 p.2
noncomputable def gTp (n:Nat) (gs:MGs):MG:=fun u ρ S=>match u with
 | .tup us=>if us.length=n then gs us ρ S else none
 | _=>none
noncomputable def p6 (e:ME) (g:MG):MS:=fun ρ S=>bnd (e ρ S) fun x S1=>(g x ρ S1).map fun p=>(.nx,p.1,p.2)
noncomputable def tG (K:KX) (g:MG):TG:=fun v σ H Q => ∃ μ S ρ u r,HR K μ S H/\ER H μ ρ σ/\RU H μ u v/\g u ρ S=some r /\ ∀ μ' σ' H',Pre μ μ'->aZ H H'->HR K μ' r.2 H'->ER H' μ' r.1 σ'->Q σ' H'
noncomputable def tGs (K:KX) (g:MGs):TGs:=fun vs σ H Q => ∃ μ S ρ us r,HR K μ S H/\ER H μ ρ σ/\RUs H μ us vs/\g us ρ S=some r /\ ∀ μ' σ' H',Pre μ μ'->aZ H H'->HR K μ' r.2 H'->ER H' μ' r.1 σ'->Q σ' H'
theorem PG.con {X:Cx}{tg:Expr}{t u:TG} (h:PG X tg t) (k : ∀ v σ H Q,u v σ H Q->t v σ H Q):PG X tg u:=fun pins s σ H v w Q I r q=>h pins s σ H v w Q I r (k _ _ _ _ q)
theorem PGs.con {X:Cx}{tg:List Expr}{t u:TGs} (h:PGs X tg t) (k : ∀ v σ H Q,u v σ H Q->t v σ H Q):PGs X tg u:=fun pins s σ H v w Q I r q=>h pins s σ H v w Q I r (k _ _ _ _ q)
section
variable {K:KX}{σ:St}{H:Hp}{Q:St->Hp->Prop}{v:V}{D:Ends}
theorem Lq {i:Nat} (h:tG K (gN i) v σ H Q):jk i v σ H Q:=by
 obtain⟨μ,S,ρ,u,r,hr,er,ru,e,k⟩:=h
 cases e
 exact k μ _ H (Pre.refl _) (aZ.refl _) hr (er.set ru i)
theorem Ju {o i:ME} (h:tG K (gSb o i) v σ H Q):Gu (tM K o) (tM K i) Bk v σ H Q:=by
 obtain⟨μ,S,ρ,x,r,hr,er,rx,e,k⟩:=h
 obtain⟨p,S2,e2,e⟩:=aP e
 obtain⟨j,S3,e3,e⟩:=aP e
 refine⟨μ,S,ρ,_,S2,hr,er,e2,fun μ2 vo H2 p2 k2 hr2 ro => ?_⟩
 refine⟨μ2,S2,ρ,_,S3,hr2,er.mono k2 p2,e3,fun μ3 vi H3 p3 k3 hr3 ri => ?_⟩
 have rx3:RU H3 μ3 x v:=RU.mono (k2.trans k3) (p2.trans p3) _ _ rx
 split at e
 ·rename_i n _
  obtain⟨a,rfl,ha⟩:=dU ro
  have ha3:=p3.get ha
  split at e
  ·rename_i us q
   split at e
   rotate_left
   ·cases e
   rename_i kk
   cases z:ixN us.length kk with
   | none=>rw [z] at e;cases e
   | some m'=>
     rw [z] at e;cases e
     obtain⟨vs,e0,r0⟩:=hr3.cell n _ a q ha3
     refine .inl ⟨a,vs,kk,m',rfl,cq ri,e0,by rw [<- r0.len];exact z,?_⟩
     have kw:aZ H3 (upd H3 a (.lst (vs.set m' v))):=aZ.wr e0
     exact k μ3 _ _ (p2.trans p3) (k2.trans (k3.trans kw)) (hr3.wr q ha3 (r0.set rx3 m')) (er.mono (k2.trans (k3.trans kw)) (p2.trans p3))
  ·rename_i kvs q
   cases qk:keyOf j with
   | none=>rw [qk] at e;cases e
   | some kk=>
     rw [qk] at e
     simp only [ah] at e
     split at e
     ·rename_i hz
      cases e
      obtain⟨vs,e0,r0⟩:=hr3.cell n _ a q ha3
      have hl:kvs.length=vs.length:=by have:=r0.len;rwa [ay] at this
      obtain⟨ws,ew,rw'⟩:=yL (k:=kk) rx3 r0
      have kw:aZ H3 (upd H3 a (.dK (putK (dV kvs vs) kk v))):=aZ.wrG e0 fun _ z=>by cases z
      refine .inr ⟨a,_,rfl,.inl ⟨_,kk,e0,lK ri qk,by rw [xA hl,sizeLine_eq];exact hz,rfl⟩,?_⟩
      exact k μ3 _ _ (p2.trans p3) (k2.trans (k3.trans kw)) (hr3.wrC q ha3 rfl rfl ⟨ws,by rw [ew];exact cJ,RUs.mono kw (Pre.refl _) _ _ rw'⟩) (er.mono (k2.trans (k3.trans kw)) (p2.trans p3))
     ·cases e
  ·cases e
 ·cases e
theorem Hz {vs:List V} (h:tGs K jl vs σ H Q):IK vs σ H Q:=by
 obtain⟨μ,S,ρ,us,r,hr,er,rs,e,k⟩:=h
 cases us with
 | nil=>cases e;exact⟨rs.nil_inv,k μ _ H (Pre.refl _) (aZ.refl _) hr er⟩
 | cons u us=>cases e
theorem CP {g:MG}{gs:MGs}{vs:List V} (h:tGs K (dn g gs) vs σ H Q):E7 (tG K g) (tGs K gs) vs σ H Q:=by
 obtain⟨μ,S,ρ,us,r,hr,er,rs,e,k⟩:=h
 cases us with
 | nil=>cases e
 | cons u us=>
   obtain⟨v,vr,rfl,ra,rb⟩:=rs.inv
   cases q:g u ρ S with
   | none=>rw [show dn g gs (u::us) ρ S=(g u ρ S).bind fun p=>gs us p.1 p.2 from rfl,q] at e;cases e
   | some p=>
     rw [show dn g gs (u::us) ρ S=(g u ρ S).bind fun p=>gs us p.1 p.2 from rfl,q] at e
     refine⟨v,vr,rfl,μ,S,ρ,u,p,hr,er,ra,q,fun μ1 σ1 H1 p1 k1 hr1 er1 => ?_⟩
     exact⟨μ1,p.2,p.1,us,r,hr1,er1,RUs.mono k1 p1 _ _ rb,e,fun μ2 σ2 H2 p2 k2=>k μ2 σ2 H2 (p1.trans p2) (k1.trans k2)⟩
theorem K5 {n:Nat}{gs:MGs} (h:tG K (gTp n gs) v σ H Q):JF K n (tGs K gs) v σ H Q:=by
 obtain⟨μ,S,ρ,u,r,hr,er,ru,e,k⟩:=h
 unfold gTp at e
 split at e
 ·rename_i us
  split at e
  ·rename_i hl
   obtain⟨a,vs,rfl,ha,rs⟩:=fO ru
   exact⟨a,vs,rfl,.inl (.inl ha),by rw [<- rs.len];exact hl,μ,S,ρ,us,r,hr,er,rs,e,k⟩
  ·cases e
 ·cases e
theorem J1 {m:ME}{g:MG} (h:tMS K (p6 m g) D σ H):zC (tM K m) (tG K g) D σ H:=by
 obtain⟨μ,S,ρ,r,hr,er,e,k⟩:=h
 obtain⟨x,S1,e1,e⟩:=aP e
 cases q:g x ρ S1 with
 | none=>rw [q] at e;cases e
 | some p=>
   rw [q] at e;cases e
   exact⟨μ,S,ρ,x,S1,hr,er,e1,fun μ1 vx H1 p1 k1 hr1 rx=>⟨μ1,S1,ρ,x,p,hr1,er.mono k1 p1,rx,q,fun μ2 σ2 H2 p2 k2 hr2 er2=>k μ2 σ2 H2 (p1.trans p2) (k1.trans k2) hr2 er2⟩⟩
end
theorem vk {a b c d:Expr}{p1 p2 p p3:Pos}{k k2:Nat}{vs:List Expr}{env:Env}:swappedStores [.Tuple [.Subscript a b p1,.Subscript c d p2] k p] (.Tuple vs k2 p3) env=pure none:=by
 unfold swappedStores
 simp only [List.filterMap_cons_none,List.filterMap_nil]
 split
 ·rfl
 ·split
  ·rfl
  ·rfl
end
end G
end
section
namespace G
open PySem PySem.Spec L2
open PyProof.Rows hiding St
section
noncomputable def oQ (g:MG) (b:MS):List U->MS
 | [],ρ,S=>some (.nx,ρ,S)
 | x::xs,ρ,S=>(g x ρ S).bind fun p=>aft (b p.1 p.2) (oQ g b xs)
noncomputable def sJ (g:MG) (b:MS) (n:Nat):Nat->Nat->MS
 | 0,_,_,_=>none
 | f+1,k,ρ,S=>(getL S n).bind fun us=>match us[k]? with
   | none=>some (.nx,ρ,S)
   | some x=>(g x ρ S).bind fun p=>aft (b p.1 p.2) (sJ g b n f (k+1))
noncomputable def oS (g:MG) (b:MS) (n:Nat):Nat->Nat->MS
 | 0,_,_,_=>none
 | f+1,k,ρ,S=>(getL S n).bind fun us=>match us[k]? with
   | none=>some (.nx,ρ,S)
   | some x=>(g (.tup [.int k,x]) ρ S).bind fun p=>aft (b p.1 p.2) (oS g b n f (k+1))
noncomputable def Jo (g:MG) (b:MS):Src->MS
 | .imm us=>oQ g b us
 | .mut n=>sJ g b n fuel 0
 | .enl n=>oS g b n fuel 0
 | _=>fun _ _=>none
noncomputable def pP (g:MG) (it:MI) (b:MS):MS:=fun ρ S=>bnd (it ρ S) fun src S1=>Jo g b src ρ S1
section
variable {K:KX}{σ:St}{H:Hp}{Q:VK}{D:Ends}
theorem nT {g:MG}{b:MS}{ρ:Rho}{S:Sto}{x:U}{v:V}{μ μ0:List Addr}{H0:Hp}{k:MS}{r:Fl×Rho×Sto}{N:St->Hp->Prop} (hr:HR K μ S H) (er:ER H μ ρ σ) (rx:RU H μ x v) (e:((g x ρ S).bind fun p=>aft (b p.1 p.2) k)=some r) (p:Pre μ0 μ) (kp:aZ H0 H) (fl:FlP K μ0 H0 D r)
  (hN : ∀ μ1 σ1 H1 ρ1 S1,Pre μ0 μ1->aZ H0 H1->HR K μ1 S1 H1->ER H1 μ1 ρ1 σ1->k ρ1 S1=some r->N σ1 H1):tG K g v σ H fun σ2 H2=>tMS K b { D with nx:=N,ct:=N,bk:=D.nx } σ2 H2:=by
 cases q:g x ρ S with
 | none=>rw [q] at e;cases e
 | some y=>
   rw [q] at e
   exact⟨μ,S,ρ,x,y,hr,er,rx,q,fun μ1 σ1 H1 p1 k1 hr1 er1=>nN hr1 er1 e (p.trans p1) (kp.trans k1) fl hN⟩
theorem DM {g:MG}{b:MS}{us:List U}{vs:List V}{ρ:Rho}{S:Sto}{μ:List Addr}{a:Addr}{r:Fl×Rho×Sto} (hr:HR K μ S H) (er:ER H μ ρ σ) (e:oQ g b us ρ S=some r) (fl:FlP K μ H D r) (ha:H a=some (.tup vs)) (ru:RUs H μ us vs) :
  ∃ W:Nat->Nat->St->Hp->Prop,(∃ m,W 0 m σ H) /\ ∀ k m σ H,W k m σ H ->
   ((Itt K a).stop k H/\D.nx σ H)\/((Itt K a).go k H /\ ∃ N:St->Hp->Prop,(∀ σ' H',N σ' H' -> ∃ m',m' < m/\W (k+1) m' σ' H') /\ ∀ x H',(Itt K a).yld k H x H'->tG K g x σ H' fun σ2 H2=>tMS K b { D with nx:=N,ct:=N,bk:=D.nx } σ2 H2):=by
 refine⟨fun k m σ1 H1=>m+k=us.length /\ ∃ μ1 S1 ρ1,Pre μ μ1/\aZ H H1/\HR K μ1 S1 H1/\ER H1 μ1 ρ1 σ1/\oQ g b (us.drop k) ρ1 S1=some r,⟨us.length,rfl,μ,S,ρ,Pre.refl _,aZ.refl _,hr,er,e⟩,?_⟩
 rintro k m σ1 H1 ⟨hm,μ1,S1,ρ1,p1,k1,hr1,er1,e1⟩
 have hq:SqT K H1 a vs := .inl (.inl (k1 a vs ha))
 cases m with
 | zero=>
   have hk:k=us.length:=by omega
   subst hk
   rw [iJ] at e1
   cases e1
   exact .inl ⟨⟨vs,hq,by rw [ru.len];exact aq _⟩,fl μ1 σ1 H1 p1 k1 hr1 er1⟩
 | succ m=>
   have hk:k < us.length:=by omega
   have hu:us[k]? = some us[k]:=by simp [hk]
   obtain⟨v,hv,rv⟩:=ru.get hu
   rw [drop_cons hu] at e1
   refine .inr ⟨⟨vs,v,hq,hv⟩,fun σ2 H2 => ∃ μ2 S2 ρ2,Pre μ μ2/\aZ H H2/\HR K μ2 S2 H2/\ER H2 μ2 ρ2 σ2/\oQ g b (us.drop (k+1)) ρ2 S2=some r,fun σ' H' w=>⟨m,aV _,by omega,w⟩,fun x H' y => ?_⟩
   obtain⟨e',y⟩:=y
   subst e'
   have hx:=y vs hq
   rw [hv] at hx;cases hx
   exact nT hr1 er1 (RU.mono k1 p1 _ _ rv) e1 p1 k1 fl fun μ2 σ2 H2 ρ2 S2 p2 k2 hr2 er2 e2=>⟨μ2,S2,ρ2,p2,k2,hr2,er2,e2⟩
theorem EU {g:MG}{b:MS}{n f:Nat}{ρ:Rho}{S:Sto}{μ:List Addr}{a:Addr}{r:Fl×Rho×Sto} (hr:HR K μ S H) (er:ER H μ ρ σ) (e:sJ g b n f 0 ρ S=some r) (fl:FlP K μ H D r) (ha:μ[n]? = some a) :
  ∃ W:Nat->Nat->St->Hp->Prop,(∃ m,W 0 m σ H) /\ ∀ k m σ H,W k m σ H ->
   ((Itl K a).stop k H/\D.nx σ H)\/((Itl K a).go k H /\ ∃ N:St->Hp->Prop,(∀ σ' H',N σ' H' -> ∃ m',m' < m/\W (k+1) m' σ' H') /\ ∀ x H',(Itl K a).yld k H x H'->tG K g x σ H' fun σ2 H2=>tMS K b { D with nx:=N,ct:=N,bk:=D.nx } σ2 H2):=by
 refine⟨fun k m σ1 H1 => ∃ μ1 S1 ρ1,Pre μ μ1/\aZ H H1/\HR K μ1 S1 H1/\ER H1 μ1 ρ1 σ1/\sJ g b n m k ρ1 S1=some r,⟨f,μ,S,ρ,Pre.refl _,aZ.refl _,hr,er,e⟩,?_⟩
 rintro k m σ1 H1 ⟨μ1,S1,ρ1,p1,k1,hr1,er1,e1⟩
 cases m with
 | zero=>cases e1
 | succ m=>
   unfold sJ at e1
   cases q:getL S1 n with
   | none=>rw [q] at e1;cases e1
   | some us=>
     rw [q] at e1
     simp only [ah] at e1
     obtain⟨a',vs,ha',hs,rs⟩:=hr1.sq q
     rw [p1.get ha] at ha';cases ha'
     cases z:us[k]? with
     | none=>
       rw [z] at e1
       cases e1
       refine .inl ⟨⟨vs,hs,?_⟩,fl μ1 σ1 H1 p1 k1 hr1 er1⟩
       rw [<- rs.len];exact d7.mp z
     | some u=>
       rw [z] at e1
       obtain⟨v,hv,rv⟩:=rs.get z
       refine .inr ⟨⟨vs,v,hs,hv⟩,fun σ2 H2 => ∃ μ2 S2 ρ2,Pre μ μ2/\aZ H H2/\HR K μ2 S2 H2/\ER H2 μ2 ρ2 σ2/\sJ g b n m (k+1) ρ2 S2=some r,fun σ' H' w=>⟨m,aV _,w⟩,fun x H' y => ?_⟩
       obtain⟨e',y⟩:=y
       subst e'
       have hx:=y vs hs
       rw [hv] at hx;cases hx
       exact nT hr1 er1 rv e1 p1 k1 fl fun μ2 σ2 H2 ρ2 S2 p2 k2 hr2 er2 e2=>⟨μ2,S2,ρ2,p2,k2,hr2,er2,e2⟩
theorem Fm {g:MG}{a:ME}{b:MS} (h:tMS K (pP g (cZ a) b) D σ H):tV (fun σ H R=>pN K (tM K a) σ H R\/xZ K (tM K a) σ H R) (tG K g) (tMS K b) D σ H:=by
 obtain⟨μ,S,ρ,r,hr,er,e,fl⟩:=h
 obtain⟨src,S1,e1,e⟩:=aP e
 refine tX hr er e1 (fun μ1 H1 us p vs p1 k1 hr1 hs hp rs => ?_) fun μ1 H1 n p p1 k1 hr1 hs hp => ?_
 ·subst hs
  exact DM hr1 (er.mono k1 p1) e (fl.mono p1 k1) hp rs
 ·subst hs
  exact EU hr1 (er.mono k1 p1) e (fl.mono p1 k1) hp
theorem CS {a:MA}{R:It->Hp->Prop}{μ:List Addr}{S S1:Sto}{ρ:Rho}{src:Src} (hr:HR K μ S H) (er:ER H μ ρ σ) (e:pV a ρ S=some (src,S1))
  (hR : ∀ μ1 H1 us p vs,Pre μ μ1->aZ H H1->HR K μ1 S1 H1->src = .imm (mD us)->H1 p=some (.tup vs)->RUs H1 μ1 us vs->R (Ite K p) H1)
  (hL : ∀ μ1 H1 n p,Pre μ μ1->aZ H H1->HR K μ1 S1 H1->src = .enl n->μ1[n]? = some p->R (Ac K p) H1):uh K (tMA K a) σ H R:=by
 obtain⟨xs,S2,e1,e⟩:=aP e
 split at e
 ·rename_i us
  cases e
  refine⟨μ,S,ρ,_,_,hr,er,e1,fun μ1 vs H1 p1 k1 hr1 rs => ?_⟩
  obtain⟨v,r,rfl,rx,rn⟩:=rs.inv
  rw [rn.nil_inv]
  obtain⟨p,vs,rfl,hp,r⟩:=fO rx
  exact .inl ⟨p,vs,rfl,.inl (.inl hp),hR μ1 H1 _ p vs p1 k1 hr1 rfl hp r⟩
 ·rename_i n
  cases q:getL S2 n with
  | none=>rw [q] at e;cases e
  | some us=>
    rw [q] at e
    simp only [aN,dZ,Prod.mk.injEq] at e
    obtain⟨e2,e3⟩:=e
    subst e3
    refine⟨μ,S,ρ,_,_,hr,er,e1,fun μ1 vs H1 p1 k1 hr1 rs => ?_⟩
    obtain⟨v,r,rfl,rx,rn⟩:=rs.inv
    rw [rn.nil_inv]
    obtain⟨p,rfl,hp⟩:=dU rx
    obtain⟨a',ws,ha',hs,_⟩:=hr1.sq q
    rw [hp] at ha';cases ha'
    exact .inr ⟨p,ws,rfl,hs,hL μ1 H1 n p p1 k1 hr1 e2.symm hp⟩
 ·cases e
theorem EA {g:MG}{b:MS}{n f:Nat}{ρ:Rho}{S:Sto}{μ:List Addr}{a:Addr}{r:Fl×Rho×Sto} (hr:HR K μ S H) (er:ER H μ ρ σ) (e:oS g b n f 0 ρ S=some r) (fl:FlP K μ H D r) (ha:μ[n]? = some a) :
  ∃ W:Nat->Nat->St->Hp->Prop,(∃ m,W 0 m σ H) /\ ∀ k m σ H,W k m σ H ->
   ((Ac K a).stop k H/\D.nx σ H)\/((Ac K a).go k H /\ ∃ N:St->Hp->Prop,(∀ σ' H',N σ' H' -> ∃ m',m' < m/\W (k+1) m' σ' H') /\ ∀ x H',(Ac K a).yld k H x H'->tG K g x σ H' fun σ2 H2=>tMS K b { D with nx:=N,ct:=N,bk:=D.nx } σ2 H2):=by
 refine⟨fun k m σ1 H1 => ∃ μ1 S1 ρ1,Pre μ μ1/\aZ H H1/\HR K μ1 S1 H1/\ER H1 μ1 ρ1 σ1/\oS g b n m k ρ1 S1=some r,⟨f,μ,S,ρ,Pre.refl _,aZ.refl _,hr,er,e⟩,?_⟩
 rintro k m σ1 H1 ⟨μ1,S1,ρ1,p1,k1,hr1,er1,e1⟩
 cases m with
 | zero=>cases e1
 | succ m=>
   unfold oS at e1
   cases q:getL S1 n with
   | none=>rw [q] at e1;cases e1
   | some us=>
     rw [q] at e1
     simp only [ah] at e1
     obtain⟨a',vs,ha',hs,rs⟩:=hr1.sq q
     rw [p1.get ha] at ha';cases ha'
     cases z:us[k]? with
     | none=>
       rw [z] at e1
       cases e1
       refine .inl ⟨⟨vs,hs,?_⟩,fl μ1 σ1 H1 p1 k1 hr1 er1⟩
       rw [<- rs.len];exact d7.mp z
     | some u=>
       rw [z] at e1
       obtain⟨v,hv,rv⟩:=rs.get z
       refine .inr ⟨⟨vs,v,hs,hv⟩,fun σ2 H2 => ∃ μ2 S2 ρ2,Pre μ μ2/\aZ H H2/\HR K μ2 S2 H2/\ER H2 μ2 ρ2 σ2/\oS g b n m (k+1) ρ2 S2=some r,fun σ' H' w=>⟨m,aV _,w⟩,fun x H' y => ?_⟩
       obtain⟨T,w,hy,hT,rfl,rfl⟩:=y
       have hyk:=hy vs hs
       rw [hv] at hyk;cases hyk
       have kp:aZ H1 (upd H1 T (.tup [.int k,v])):=aZ.new hT
       have rx:RU (upd H1 T (.tup [.int k,v])) μ1 (.tup [.int k,u]) (.ref T):=fZ cJ (.cons d9 (.cons (RU.mono kp (Pre.refl _) _ _ rv) .nil))
       exact nT (hr1.tup hT) (er1.mono kp (Pre.refl _)) rx e1 p1 (k1.trans kp) fl fun μ2 σ2 H2 ρ2 S2 p2 k2 hr2 er2 e2=>⟨μ2,S2,ρ2,p2,k2,hr2,er2,e2⟩
theorem DV {g:MG}{b:MS}{us:List U}{vs:List V}{ρ:Rho}{S:Sto}{μ:List Addr}{a:Addr}{r:Fl×Rho×Sto} (hr:HR K μ S H) (er:ER H μ ρ σ) (e:oQ g b (mD us) ρ S=some r) (fl:FlP K μ H D r) (ha:H a=some (.tup vs)) (ru:RUs H μ us vs) :
  ∃ W:Nat->Nat->St->Hp->Prop,(∃ m,W 0 m σ H) /\ ∀ k m σ H,W k m σ H ->
   ((Ite K a).stop k H/\D.nx σ H)\/((Ite K a).go k H /\ ∃ N:St->Hp->Prop,(∀ σ' H',N σ' H' -> ∃ m',m' < m/\W (k+1) m' σ' H') /\ ∀ x H',(Ite K a).yld k H x H'->tG K g x σ H' fun σ2 H2=>tMS K b { D with nx:=N,ct:=N,bk:=D.nx } σ2 H2):=by
 have hlen:(mD us).length=us.length:=by simp [mD]
 refine⟨fun k m σ1 H1=>m+k=us.length /\ ∃ μ1 S1 ρ1,Pre μ μ1/\aZ H H1/\HR K μ1 S1 H1/\ER H1 μ1 ρ1 σ1/\oQ g b ((mD us).drop k) ρ1 S1=some r,⟨us.length,rfl,μ,S,ρ,Pre.refl _,aZ.refl _,hr,er,e⟩,?_⟩
 rintro k m σ1 H1 ⟨hm,μ1,S1,ρ1,p1,k1,hr1,er1,e1⟩
 have hq:SqT K H1 a vs := .inl (.inl (k1 a vs ha))
 cases m with
 | zero=>
   have hk:k=(mD us).length:=by omega
   subst hk
   rw [iJ] at e1
   cases e1
   exact .inl ⟨⟨vs,hq,by rw [hlen,ru.len];exact aq _⟩,fl μ1 σ1 H1 p1 k1 hr1 er1⟩
 | succ m=>
   have hk:k < us.length:=by omega
   have hu:us[k]? = some us[k]:=by simp [hk]
   obtain⟨v,hv,rv⟩:=ru.get hu
   have hu2:(mD us)[k]? = some (.tup [.int k,us[k]]):=by simp [mD,List.getElem?_mapIdx,hk]
   rw [drop_cons hu2] at e1
   refine .inr ⟨⟨vs,v,hq,hv⟩,fun σ2 H2 => ∃ μ2 S2 ρ2,Pre μ μ2/\aZ H H2/\HR K μ2 S2 H2/\ER H2 μ2 ρ2 σ2/\oQ g b ((mD us).drop (k+1)) ρ2 S2=some r,fun σ' H' w=>⟨m,aV _,by omega,w⟩,fun x H' y => ?_⟩
   obtain⟨T,u,hy,hT,rfl,rfl⟩:=y
   have hyk:=hy vs hq
   rw [hv] at hyk;cases hyk
   have kp:aZ H1 (upd H1 T (.tup [.int k,v])):=aZ.new hT
   have rx:RU (upd H1 T (.tup [.int k,v])) μ1 (.tup [.int k,us[k]]) (.ref T):=fZ cJ (.cons d9 (.cons (RU.mono (k1.trans kp) p1 _ _ rv) .nil))
   exact nT (hr1.tup hT) (er1.mono kp (Pre.refl _)) rx e1 p1 (k1.trans kp) fl fun μ2 σ2 H2 ρ2 S2 p2 k2 hr2 er2 e2=>⟨μ2,S2,ρ2,p2,k2,hr2,er2,e2⟩
theorem Jk {g:MG}{a:MA}{b:MS} (h:tMS K (pP g (pV a) b) D σ H):tV (uh K (tMA K a)) (tG K g) (tMS K b) D σ H:=by
 obtain⟨μ,S,ρ,r,hr,er,e,fl⟩:=h
 obtain⟨src,S1,e1,e⟩:=aP e
 refine CS hr er e1 (fun μ1 H1 us p vs p1 k1 hr1 hs hp rs => ?_) fun μ1 H1 n p p1 k1 hr1 hs hp => ?_
 ·subst hs
  exact DV hr1 (er.mono k1 p1) e (fl.mono p1 k1) hp rs
 ·subst hs
  exact EA hr1 (er.mono k1 p1) e (fl.mono p1 k1) hp
end
end
end G
end
section
namespace G
open PySem PySem.Spec L2
open PyProof.Rows hiding St
section
noncomputable def uj (n:Nat):U->Option (List U)
 | .tup us=>if us.length=n then some us else none
 | _=>none
noncomputable def jz (c:Nat) (t:MT) (e:ME) (ρ:Rho):List U->List U->Sto->Res (List U)
 | [],acc,S=>some (acc,S)
 | x::xs,acc,S=>(uj c x).bind fun us=>bnd (t (ρ++us.map some) S) fun k S1=>if k then bnd (e (ρ++us.map some) S1) fun y S2=>jz c t e ρ xs (acc ++ [y]) S2 else jz c t e ρ xs acc S1
noncomputable def gI (c:Nat) (t:MT) (e:ME) (ρ:Rho) (n:Nat):Nat->Nat->List U->Sto->Res (List U)
 | 0,_,_,_=>none
 | f+1,i,acc,S=>(getL S n).bind fun ws=>match ws[i]? with
   | none=>some (acc,S)
   | some x=>(uj c x).bind fun us=>bnd (t (ρ++us.map some) S) fun k S1=>if k then bnd (e (ρ++us.map some) S1) fun y S2=>gI c t e ρ n f (i+1) (acc ++ [y]) S2 else gI c t e ρ n f (i+1) acc S1
noncomputable def BO (c:Nat) (t:MT) (e:ME) (ρ:Rho):Src->Sto->Res (List U)
 | .mut n,S=>gI c t e ρ n fuel 0 [] S
 | _,_=>none
noncomputable def iT (c:Nat) (it:MI) (t:MT) (e:ME):ME:=fun ρ S=>bnd (it ρ S) fun src S1=>bnd (BO c t e ρ src S1) fun ys S2=>if ys.length < big then some (.ref S2.length,S2 ++ [.lst ys]) else none
theorem m4 {c:Nat}{t:MT}{e:ME}{ρ:Rho} : ∀ {us acc ys:List U}{S S':Sto},jz c t e ρ us acc S=some (ys,S')->acc.length<=ys.length
 | [],acc,ys,S,S',h=>by cases h;exact aq _
 | x::us,acc,ys,S,S',h=>by
   unfold jz at h
   cases q:uj c x with
   | none=>rw [q] at h;cases h
   | some ws=>
     rw [q] at h
     simp only [ah] at h
     obtain⟨k,S1,e1,h⟩:=aP h
     cases k with
     | true=>
       obtain⟨y,S2,e2,h⟩:=aP (show bnd (e (ρ++ws.map some) S1) (fun y S2=>jz c t e ρ us (acc ++ [y]) S2)=some (ys,S') from h)
       have:=m4 h
       simp at this;omega
     | false=>exact m4 (show jz c t e ρ us acc S1=some (ys,S') from h)
theorem mZ {c:Nat}{t:MT}{e:ME}{ρ:Rho}{n:Nat} : ∀ {f i:Nat}{acc ys:List U}{S S':Sto},gI c t e ρ n f i acc S=some (ys,S')->acc.length<=ys.length
 | 0,i,acc,ys,S,S',h=>by cases h
 | f+1,i,acc,ys,S,S',h=>by
   unfold gI at h
   cases q0:getL S n with
   | none=>rw [q0] at h;cases h
   | some vs=>
     rw [q0] at h
     simp only [ah] at h
     cases z:vs[i]? with
     | none=>rw [z] at h;cases h;exact aq _
     | some x=>
       rw [z] at h
       simp only at h
       cases q:uj c x with
       | none=>rw [q] at h;cases h
       | some ws=>
         rw [q] at h
         simp only [ah] at h
         obtain⟨k,S1,e1,h⟩:=aP h
         cases k with
         | true=>
           obtain⟨y,S2,e2,h⟩:=aP (show bnd (e (ρ++ws.map some) S1) (fun y S2=>gI c t e ρ n f (i+1) (acc ++ [y]) S2)=some (ys,S') from h)
           have:=mZ h
           simp at this;omega
         | false=>exact mZ (show gI c t e ρ n f (i+1) acc S1=some (ys,S') from h)
section
variable {K:KX}{σ:St}{H:Hp}{Q:VK}
theorem ER.pushs {μ:List Addr} : ∀ {us:List U}{vs:List V}{ρ:Rho}{σ:St},ER H μ ρ σ->RUs H μ us vs->ER H μ (ρ++us.map some) (σ++vs.map some)
 | [],vs,ρ,σ,er,r=>by rw [r.nil_inv];simpa using er
 | u::us,vs,ρ,σ,er,r=>by
   obtain⟨v,r',rfl,a,b⟩:=r.inv
   have:=ER.pushs (er.push a) b
   simpa using this
theorem vE {μ:List Addr}{c:Nat}{x:U}{v:V}{us:List U} (r:RU H μ x v) (e:uj c x=some us) : ∃ a vs,v = .ref a/\SqT K H a vs/\vs.length=c/\RUs H μ us vs:=by
 unfold uj at e
 split at e
 ·split at e
  ·rename_i hl
   cases e
   obtain⟨a,vs,rfl,ha,rs⟩:=fO r
   exact⟨a,vs,rfl,.inl (.inl ha),by rw [<- rs.len];exact hl,rs⟩
  ·cases e
 ·cases e
noncomputable def Bz (c:Nat) (K:ar) (J:It) (σ:St) (tt:TT) (te:TE) (H1:Hp) (Q:VK):Prop := ∃ W:Nat->Nat->List V->Hp->Prop,(∃ m,W 0 m [] H1) /\ ∀ i m ys H,W i m ys H->ys.length < sizeLine /\
 ((J.stop i H /\ ∀ D,H D=none->Q (.ref D) (upd H D (.lst ys))) \/
  (J.go i H /\ ∀ x H',J.yld i H x H'->gTt K c x H' fun τ H2=>tt (σ++τ) H2 fun b H3=>if b=true then te (σ++τ) H3 fun y H4 => ∃ m',m' < m/\W (i+1) m' (ys ++ [y]) H4 else ∃ m',m' < m/\W (i+1) m' ys H3))
theorem Ih {c:Nat}{us:List U}{vs:List V}{p:Addr}{t:MT}{e:ME}{ρ:Rho}{ys:List U}{μ:List Addr}{S S':Sto} (hr:HR K μ S H) (er:ER H μ ρ σ) (h:jz c t e ρ us [] S=some (ys,S')) (hz:ys.length < big) (k:Aft K μ H (.ref S'.length) (S' ++ [.lst ys]) Q)
  (hp:H p=some (.tup vs)) (rs:RUs H μ us vs):Bz c K (Itt K p) σ (tMT K t) (tM K e) H Q:=by
 have hz':ys.length < sizeLine:=by unfold big at hz;rw [sizeLine_eq];exact hz
 refine⟨fun i m acc H1=>m=us.length - i/\i<=us.length /\ ∃ μ1 S1 au,Pre μ μ1/\aZ H H1/\HR K μ1 S1 H1/\RUs H1 μ1 au acc/\jz c t e ρ (us.drop i) au S1=some (ys,S'),⟨_,rfl,da _,μ,S,[],Pre.refl _,aZ.refl _,hr,.nil,h⟩,?_⟩
 rintro i m acc H1 ⟨rfl,hi,μ1,S1,au,p1,k1,hr1,ra,e1⟩
 have hl:=m4 e1
 have hl2:=ra.len
 have hq:SqT K H1 p vs := .inl (.inl (k1 p vs hp))
 refine⟨by omega,?_⟩
 by_cases hlt:i < us.length
 ·have hu:us[i]? = some us[i]:=by simp [hlt]
  obtain⟨v,hv,rv⟩:=rs.get hu
  rw [drop_cons hu] at e1
  unfold jz at e1
  cases q:uj c us[i] with
  | none=>rw [q] at e1;cases e1
  | some ws=>
    rw [q] at e1
    simp only [ah] at e1
    obtain⟨b,S2,e2,e1⟩:=aP e1
    refine .inr ⟨⟨vs,v,hq,hv⟩,fun x H' y => ?_⟩
    obtain⟨e',y⟩:=y
    subst e'
    have hx:=y vs hq
    rw [hv] at hx;cases hx
    obtain⟨a,xs,rfl,hs,hc,rw'⟩:=vE (K:=K) (RU.mono k1 p1 _ _ rv) q
    refine⟨a,xs,rfl,hs,hc,?_⟩
    have er1:ER _ μ1 (ρ++ws.map some) (σ++xs.map some):=ER.pushs (er.mono k1 p1) rw'
    refine⟨μ1,S1,_,b,S2,hr1,er1,e2,fun μ2 H2 p2 k2 hr2 => ?_⟩
    have ra2:=RUs.mono k2 p2 _ _ ra
    cases b with
    | true=>
      obtain⟨y',S3,e3,e1⟩:=aP (show bnd (e (ρ++ws.map some) S2) (fun y S2=>jz c t e ρ (us.drop (i+1)) (au ++ [y]) S2)=some (ys,S') from e1)
      refine mL ⟨μ2,S2,_,y',S3,hr2,er1.mono k2 p2,e3,fun μ3 v3 H3 p3 k3 hr3 rv3 => ?_⟩
      exact⟨us.length - (i+1),by omega,rfl,hlt,μ3,S3,au ++ [y'],p1.trans (p2.trans p3),k1.trans (k2.trans k3),hr3,(RUs.mono k3 p3 _ _ ra2).append (.cons rv3 .nil),e1⟩
    | false=>
      exact mJ ⟨us.length - (i+1),by omega,rfl,hlt,μ2,S2,au,p1.trans p2,k1.trans k2,hr2,ra2,e1⟩
 ·have e:i=us.length:=by omega
  subst e
  rw [iJ] at e1
  cases e1
  exact .inl ⟨⟨vs,hq,by rw [rs.len];exact aq _⟩,fun D hD=>fK (k.mono p1 k1) hr1 ra hD⟩
theorem zM {c:Nat}{t:MT}{e:ME}{ρ:Rho}{n f:Nat}{ys:List U}{μ:List Addr}{S S':Sto}{p:Addr} (hr:HR K μ S H) (er:ER H μ ρ σ) (h:gI c t e ρ n f 0 [] S=some (ys,S')) (hz:ys.length < big) (k:Aft K μ H (.ref S'.length) (S' ++ [.lst ys]) Q)
  (hp:μ[n]? = some p):Bz c K (Itl K p) σ (tMT K t) (tM K e) H Q:=by
 have hz':ys.length < sizeLine:=by unfold big at hz;rw [sizeLine_eq];exact hz
 refine⟨fun i m acc H1 => ∃ μ1 S1 au,Pre μ μ1/\aZ H H1/\HR K μ1 S1 H1/\RUs H1 μ1 au acc/\gI c t e ρ n m i au S1=some (ys,S'),⟨f,μ,S,[],Pre.refl _,aZ.refl _,hr,.nil,h⟩,?_⟩
 rintro i m acc H1 ⟨μ1,S1,au,p1,k1,hr1,ra,e1⟩
 have hl:=mZ e1
 have hl2:=ra.len
 refine⟨by omega,?_⟩
 cases m with
 | zero=>cases e1
 | succ m=>
   unfold gI at e1
   cases q0:getL S1 n with
   | none=>rw [q0] at e1;cases e1
   | some us=>
     rw [q0] at e1
     simp only [ah] at e1
     obtain⟨a',vs,ha',hs,rs⟩:=hr1.sq q0
     rw [p1.get hp] at ha';cases ha'
     cases z:us[i]? with
     | none=>
       rw [z] at e1
       cases e1
       exact .inl ⟨⟨vs,hs,by rw [<- rs.len];exact d7.mp z⟩,fun D hD=>fK (k.mono p1 k1) hr1 ra hD⟩
     | some u=>
       rw [z] at e1
       obtain⟨v,hv,rv⟩:=rs.get z
       simp only at e1
       cases q:uj c u with
       | none=>rw [q] at e1;cases e1
       | some ws=>
         rw [q] at e1
         simp only [ah] at e1
         obtain⟨b,S2,e2,e1⟩:=aP e1
         refine .inr ⟨⟨vs,v,hs,hv⟩,fun x H' y => ?_⟩
         obtain⟨e',y⟩:=y
         subst e'
         have hx:=y vs hs
         rw [hv] at hx;cases hx
         obtain⟨a,xs,rfl,hsx,hc,rw'⟩:=vE (K:=K) rv q
         refine⟨a,xs,rfl,hsx,hc,?_⟩
         have er1:ER _ μ1 (ρ++ws.map some) (σ++xs.map some):=ER.pushs (er.mono k1 p1) rw'
         refine⟨μ1,S1,_,b,S2,hr1,er1,e2,fun μ2 H2 p2 k2 hr2 => ?_⟩
         have ra2:=RUs.mono k2 p2 _ _ ra
         cases b with
         | true=>
           obtain⟨y',S3,e3,e1⟩:=aP (show bnd (e (ρ++ws.map some) S2) (fun y S2=>gI c t e ρ n m (i+1) (au ++ [y]) S2)=some (ys,S') from e1)
           refine mL ⟨μ2,S2,_,y',S3,hr2,er1.mono k2 p2,e3,fun μ3 v3 H3 p3 k3 hr3 rv3 => ?_⟩
           exact⟨m,aV _,μ3,S3,au ++ [y'],p1.trans (p2.trans p3),k1.trans (k2.trans k3),hr3,(RUs.mono k3 p3 _ _ ra2).append (.cons rv3 .nil),e1⟩
         | false=>
           exact mJ ⟨m,aV _,μ2,S2,au,p1.trans p2,k1.trans k2,hr2,ra2,e1⟩
theorem Kh {c:Nat}{a:ME}{t:MT}{e:ME} (h:tM K (iT c (cZ a) t e) σ H Q):xk (gTt K c) (fun σ H R=>pN K (tM K a) σ H R\/xZ K (tM K a) σ H R) (tMT K t) (tM K e) σ H Q:=by
 obtain⟨μ,S,ρ,u,S',hr,er,e0,k⟩:=h
 obtain⟨src,S1,e1,e0⟩:=aP e0
 obtain⟨ys,S2,e2,e0⟩:=aP e0
 split at e0
 ·rename_i hz
  cases e0
  refine tX hr er e1 (fun μ1 H1 us p vs p1 k1 hr1 hs hp rs => ?_) fun μ1 H1 n p p1 k1 hr1 hs hp => ?_
  ·subst hs
   cases (show none=some (ys,S2) from e2)
  ·subst hs
   exact zM hr1 (er.mono k1 p1) e2 hz (k.mono p1 k1) hp
 ·cases e0
end
end
end G
end
section
namespace G
open PySem PySem.Spec L2
open PyProof.Rows hiding St
section
section
variable {prog:Program}{w:World}{A:Around}{E:Value->Shared->Prop}{s:Shared}
theorem rf {Q:List Value->Shared->Prop}{r:Addr}{a b c:Int}{t u v:Tok}{n:Nat} (hh:A.handled=none) (hr:IsRange s.heap r a b c t u v) (hsmall:lC a b c=true)
  (hn:dy a b c=n) (hlen:n<=2 ^ 24)
  (hQ : ∀ (h':Heap) (tk:Nat) (acc:Array Value),(∀ b o,s.heap.get? b=some o->h'.get? b=some o)->s.heap.objs.size<=h'.objs.size->ItemsOf (fun i v => ∃ t,v = .int (a+i*c) t) acc n->Q acc.toList { s with heap:=h',toks:=tk }) :
  aB (model prog w) A (collect (.ref r)) Q E s:=by
 unfold collect
 refine ae (iY (cu i7 ?_))
 rw [bJ i8 _]
 show aB _ A.in1 (newList [] >>= fun l=>again (.builtin "list.__iadd__" ⟨[l,.ref r],[]⟩)) _ _ s
 refine ae (aU (ao ⟨plainId_quiet dQ _,cu lT ?_⟩))
 rw [bJ dQ _]
 have hS:(s.heap.push { cls := .type "list",data := .seq ([]:List Value).toArray }).get? s.heap.objs.size=some { cls := .type "list",data := .seq #[] 0 }:=av _ rfl
 have lt : ∀ b o,s.heap.get? b=some o->b≠s.heap.objs.size:=fun b o e=>aG (aC e)
 refine cR (wpAny_extend_range (A:=A) (R:=fun x s' => ∃ h' tk acc c',x = .ok (.ret (.ref s.heap.objs.size))/\s'={ s with heap:=h',toks:=tk }/\(∀ b o,s.heap.get? b=some o->h'.get? b=some o) /\
   h'.get? s.heap.objs.size=some { cls := .type "list",dict:=none,data := .seq acc c',slots := #[] }/\ItemsOf (fun i v => ∃ t,v = .int (a+i*c) t) acc n)
  (s:={ s with heap:=s.heap.push { cls := .type "list",data := .seq ([]:List Value).toArray } }) hh (ak _ hr) hsmall hn hlen s.heap.objs.size (.ref s.heap.objs.size) 0 hS
  fun h' tk acc c' hk hS' hacc=>⟨h',tk,acc,c',rfl,rfl,fun b o e=>hk b o (lt b o e) (ak _ e),hS',hacc⟩) (fun fin s' h => ?_) (fun e s' h=>by obtain⟨_,_,_,_,h,_⟩:=h;cases h)
 have fin' : ∀ x s',(∃ h' tk acc c',x=(.ok (.ret (.ref s.heap.objs.size)):Result)/\s'={ s with heap:=h',toks:=tk }/\(∀ b o,s.heap.get? b=some o->h'.get? b=some o) /\
   h'.get? s.heap.objs.size=some { cls := .type "list",dict:=none,data := .seq acc c',slots := #[] }/\ItemsOf (fun i v => ∃ t,v = .int (a+i*c) t) acc n)->x = .ok (.ret (.ref s.heap.objs.size))/\aB (model prog w) A (match aT s.heap.objs.size with
   | aT a=>do
     match (<- load a).data with
      | CL xs _=>pure xs.toList
      | _=>unsupported "internal:collect"
   | _=>unsupported "internal:collect") Q E s':=by
  rintro x s' ⟨h',tk,acc,c',rfl,rfl,hk,hS',hacc⟩
  refine⟨rfl,?_⟩
  show aB _ A (load s.heap.objs.size >>= _) _ _ _
  refine ae (uq hS' (ao ?_))
  exact hQ h' tk acc hk (cK (aC hS')) hacc
 cases fin with
 | done f=>
   obtain⟨e,q⟩:=fin' _ _ h
   cases e
   exact q
 | again c'=>exact⟨h.1,iW h.2 fun r s'' hr=>by
   obtain⟨e,q⟩:=fin' _ _ hr
   subst e
   exact q⟩
theorem kO {Q₁:Value->Shared->Prop}{r:Addr}{a b c:Int}{t u v:Tok}{n:Nat} (hh:A.handled=none) (hr:IsRange s.heap r a b c t u v) (hsmall:lC a b c=true)
  (hn:dy a b c=n) (hlen:n<=2 ^ 24)
  (h : ∀ (h':Heap) (tk:Nat) (acc:Array Value),(∀ b o,s.heap.get? b=some o->h'.get? b=some o)->s.heap.objs.size<=h'.objs.size->ItemsOf (fun i v => ∃ t,v = .int (a+i*c) t) acc n->Q₁ (.ref h'.objs.size) { s with heap:=h'.push { cls := .type "tuple",data := .seq acc },toks:=tk }) :
  oJ (model prog w) A (.call (.builtin "tuple.__new__") ⟨[.type "tuple",.ref r],[]⟩) (wants Q₁ E) s:=by
 refine Aj ?_
 show aB _ A.in1 (do checkBuiltinCall "tuple.__new__" ⟨[.type "tuple",.ref r],[]⟩;again (.builtin "tuple.__new__" ⟨[.type "tuple",.ref r],[]⟩)) _ _ s
 refine ae (fj (F.newCall_tuple_1 _) (ao ⟨plainId_quiet F.plain_tuple_new _,cu F.entry_tuple_new ?_⟩))
 rw [bJ F.plain_tuple_new _]
 have hsub:=sub_tuple_self
 have hinit:=init_tuple_lookup
 have hmh:=madeHere_tuple
 have hTI:s.TypeIs (.ref r) "range":=⟨_,hr,rfl⟩
 have hh1:A.in1.handled=none:=hh
 wp_walk using fA hTI,rf hh1 hr hsmall hn hlen
 intro h' tk acc hk hle hacc
 show aB _ _ (bE acc.toList.toArray >>= fun v=>ret v) _ _ _
 unfold bE
 refine ae (aU ?_ (by show acc.toList.toArray.size<=sizeLine;simp only [Array.toArray_toList];rw [hacc.1,sizeLine_eq];exact hlen))
 refine ao ?_
 have e:acc.toList.toArray=acc:=by simp
 rw [e]
 exact h h' tk acc hk hle hacc
theorem oG {Q:Value->Shared->Prop}{r:Addr}{a b c:Int}{t u v:Tok}{n:Nat} (hh:A.handled=none) (hr:IsRange s.heap r a b c t u v) (hsmall:lC a b c=true)
  (hn:dy a b c=n) (hlen:n<=2 ^ 24)
  (h : ∀ (h':Heap) (tk:Nat) (acc:Array Value),(∀ b o,s.heap.get? b=some o->h'.get? b=some o)->s.heap.objs.size<=h'.objs.size->ItemsOf (fun i v => ∃ t,v = .int (a+i*c) t) acc n->Q (.ref h'.objs.size) { s with heap:=h'.push { cls := .type "tuple",data := .seq acc },toks:=tk }) :
  aB (model prog w) A (call (.type "tuple") [.ref r]) Q E s:=by
 refine callType_codes (Q₁:=fun obj s₁=>s₁.TypeIs obj "tuple"/\Q obj s₁) F.called_tuple (F.typeCall_tuple_1 _) F.entry_object_init
  (kO hh hr hsmall hn hlen fun h' tk acc hk hle hacc=>⟨⟨_,av _ rfl,rfl⟩,h h' tk acc hk hle hacc⟩) fun obj s₁ h₁ => ?_
 exact⟨h₁.1,F.args_object_init_2 obj _,object_init_meets F.called_tuple.init.lookup F.called_tuple.made (by decide) prog w A.in1 _ s₁ ⟨h₁.1,rfl,h₁.2⟩⟩
end
theorem kG {X:Cx} (hc:X.calm=true):gm X (.type "tuple") (fun xs H Q => ∃ r lo hi,xs = [.ref r]/\H r=some (.rng lo hi)/\(-(2 ^ 62)<=lo/\lo < 2 ^ 62 /\ -(2 ^ 62)<=hi/\hi < 2 ^ 62)/\(hi - lo).toNat<=sizeLine /\ ∀ l,H l=none->Q (.ref l) (upd H l (.tup (kq lo (hi - lo).toNat)))):=by
 intro pins s σ H xs us Q I rs h
 obtain⟨r,lo,hi,rfl,hr,⟨h1,h2,h3,h4⟩,hz,q⟩:=h
 cases rs with
 | cons r1 rr=>
   cases rr
   cases (show _=aT r from r1)
   obtain⟨t,u,v,e⟩:=I.hok r _ hr
   have hn:dy lo hi 1=((hi - lo).toNat:Nat):=by rw [rangeSize_one];split <;> omega
   refine oG (n:=(hi - lo).toNat) (I.ok.hd hc) e (small_one h1 h2 h3 h4) hn (by rw [sizeLine_eq] at hz;exact hz) fun h' tk acc hk hle hacc => ?_
   obtain⟨hsz,hit⟩:=hacc
   refine⟨.ref h'.objs.size,_,I.laid (t':=tk) (o := .tup (kq lo (hi - lo).toNat)) (fun b o e=>ak _ (hk b o e)) hle ?_,rfl,q _ (I.hok.fresh hle)⟩
   refine⟨by rw [kq,ay,bz];exact hz,acc.toList,?_,lA _ _,_,av _ rfl,rfl⟩
   refine tE (by rw [kq,ay,bz,bQ,hsz]) fun i x w h5 h6 => ?_
   have hlt:i < (hi - lo).toNat:=by
    have:=(ag.mp h5).1
    rwa [kq,ay,bz] at this
   have hx:(kq lo (hi - lo).toNat)[i]? = some (.int (lo+i)):=by simp [kq,hlt]
   rw [hx] at h5;cases h5
   obtain⟨t',e'⟩:=hit i w (by simpa using h6)
   exact⟨t',by rw [e'];simp⟩
section
variable {K:KX}{σ:St}{H:Hp}{Q:VK}
noncomputable def rTR:List V->Hp->VK->Prop:=fun xs H Q => ∃ r lo hi,xs = [.ref r]/\H r=some (.rng lo hi)/\(-(2 ^ 62)<=lo/\lo < 2 ^ 62 /\ -(2 ^ 62)<=hi/\hi < 2 ^ 62)/\(hi - lo).toNat<=sizeLine /\ ∀ l,H l=none->Q (.ref l) (upd H l (.tup (kq lo (hi - lo).toNat)))
theorem vL {μ:List Addr}{S1:Sto}{i j:Int}{r:Addr} (hr1:HR K μ S1 H) (ho:okR i/\okR j) (hz:(bg i (j - i).toNat).length<=big) (k:Aft K μ H (.tup (bg i (j - i).toNat)) S1 Q) (hrn:H r=none):rTR [.ref r] (upd H r (.rng i j)) Q:=by
 refine⟨r,i,j,rfl,cJ,⟨ho.1.1,ho.1.2,ho.2.1,ho.2.2⟩,?_,fun l hl => ?_⟩
 ·unfold bg big at hz;rw [ay,bz] at hz;rw [sizeLine_eq];exact hz
 ·have k2:=k.mono (Pre.refl _) (aZ.new hrn (o := .rng i j))
  exact k2 μ _ _ (Pre.refl _) (aZ.new hl) ((hr1.rng hrn).tup hl) (fZ cJ (RUs.mono (aZ.new hl) (Pre.refl _) _ _ (yu _ _)))
theorem E3 {a:MA} (h:tM K (my (iR1 a)) σ H Q):tCB rTR (oM (BG (tMA K a)) uJ) σ H Q:=by
 obtain⟨μ,S,ρ,u,S',hr,er,e,k⟩:=h
 obtain⟨src,S1,e1,e⟩:=aP e
 obtain⟨xs,S2,e2,e1⟩:=aP e1
 refine⟨μ,S,ρ,xs,S2,hr,er,e2,fun μ1 vs H1 p1 k1 hr1 rs => ?_⟩
 split at e1
 ·rename_i j
  split at e1
  ·rename_i hj
   cases e1
   simp only at e
   split at e
   ·rename_i hz
    cases e
    obtain⟨v,r,rfl,rx,rn⟩:=rs.inv
    rw [rn.nil_inv,cq rx]
    refine⟨j,rfl,hj.1,hj.2,fun r hrn => ?_⟩
    have ez:(j - 0).toNat=j.toNat:=by simp
    exact vL (i:=0) hr1 ⟨⟨by decide,by decide⟩,hj⟩ (by rw [ez];exact hz) (by rw [ez];exact k.mono p1 k1) hrn
   ·cases e
  ·cases e1
 ·cases e1
theorem Ec {a:MA} (h:tM K (my (iR2 a)) σ H Q):tCB rTR (oM (AC (tMA K a)) uJ) σ H Q:=by
 obtain⟨μ,S,ρ,u,S',hr,er,e,k⟩:=h
 obtain⟨src,S1,e1,e⟩:=aP e
 obtain⟨xs,S2,e2,e1⟩:=aP e1
 refine⟨μ,S,ρ,xs,S2,hr,er,e2,fun μ1 vs H1 p1 k1 hr1 rs => ?_⟩
 split at e1
 ·rename_i i j
  split at e1
  ·rename_i hj
   cases e1
   simp only at e
   split at e
   ·rename_i hz
    cases e
    obtain⟨v,r,rfl,rx,rs⟩:=rs.inv
    obtain⟨w,r,rfl,ry,rn⟩:=rs.inv
    rw [rn.nil_inv,cq rx,cq ry]
    exact⟨i,j,rfl,⟨hj.1.1,hj.1.2,hj.2.1,hj.2.2⟩,fun r hrn=>vL hr1 hj hz (k.mono p1 k1) hrn⟩
   ·cases e
  ·cases e1
 ·cases e1
end
end
end G
end
section
namespace G
open PySem PySem.Spec L2
open PyProof.Rows hiding St
section
end
structure Lam (M:Mo) (f:Addr) (k:Nat) (ps:List Str) (φ:MF):Prop where
 ex : ∃ fd:FuncData,((∃ (oc:Value) (od:Option Addr) (sl:Array (Option Value)),M.base.get? f=some ⟨oc,od,.func fd,sl⟩)\/di M.K (.ref f)=true)/\Binds M.K fd ps []/\nQ M.P M.w M.K M.mg M.base CX0 k f fd ps (spM M.K φ)
section
variable {M:Mo}{X:Cx}{k:Nat}{N:List Str}{ns:List (Str×NameKind)}{e:Expr}{es:List Expr}{mas:MA}{x:Str}{p1 pos:Pos}
end
end G
end
section
namespace G
open PySem PySem.Spec L2
open PySem.W (envX kla_fn kla_obj CodeHd tabObj)
open PyProof.Rows hiding St
structure KP (ps fs:List Str) (scope:Scope):Prop where
 kind:scope.kind = .function
 co:scope.isCoroutine=false
 gen:scope.isGenerator=false
 nd:(ps++fs).Nodup
 par : ∀ p∈ps,scope.names.lookup p=some .local\/scope.names.lookup p=some .cell
 cel : ∀ x∈scope.names,x.2 = .cell->scope.names.lookup x.1=some .cell
 fre : ∀ y∈scope.names,y.2 = .free->y.1∈fs
 free : ∀ y∈fs,scope.names.lookup y=some .free
end G
end
section
namespace G
open PySem PySem.Spec L2
open PySem.W (envX kla_fn kla_obj CodeHd tabObj)
open PyProof.Rows hiding St
section
variable {K:KX}{H:Hp}{μ:List Addr}{S:Sto}
end
section
variable {X:Cx}{pins:List (Addr×Obj)}{σ:St}{H:Hp}{s:Shared}
end
end G
end
section
namespace G
open PySem PySem.Spec L2
open PySem.W (envX kla_fn kla_obj CodeHd tabObj)
open PyProof.Rows hiding St
noncomputable def md (mg:Str->Option Value) (base:Heap):Prop := ∃ bm ob,mg "__builtins__"=some (.ref bm)/\bm≠builtinsNs/\base.get? bm=some ob/\ob.cls = .type "module"/\ob.dict=some builtinsNs/\ob.data = .plain
structure Mkr (M:Mo) (c P:Addr) (q:Str):Prop where
 hd : ∀ h:Heap,M.K.K.In h->CodeHd h c P
 bl:md M.mg M.base
 gP:mainGlobals≠P
 mem:(P,q)∈M.K.tabs
 un : ∀ r∈M.K.tabs,r.1=P->r.2=q
noncomputable def KX.to (K:KX) (caps:List U) (capv:List V) (cds:List (Addr×Obj)):KX:=⟨K.K,caps,capv,cds,K.tabs⟩
noncomputable def Mo.to (M:Mo) (caps:List U) (capv:List V) (cds:List (Addr×Obj)) (base:Heap):Mo:=⟨M.P,M.w,M.K.to caps capv cds,M.mg,base,none⟩
structure FnC (M:Mo) (x:Str) (k:Nat) (ps:List Str) (F:Addr->MF->MF):Prop where
 ex : ∃ (f:Addr) (fd:FuncData),M.mg x=some (.ref f)/\di M.K (.ref f)=true/\Binds M.K fd ps [] /\
  ∀ (caps:List U) (capv:List V) (cds:List (Addr×Obj)) (base:Heap) (g:Addr) (j:Nat) (lps:List Str) (φ:MF),md M.mg base->k<=j->Lam (M.to caps capv cds base) g j lps φ ->
   nQ M.P M.w M.K M.mg base CX0 (j+1) f fd ps (spM (M.K.to caps capv cds) (F g φ))
section
variable {M:Mo}{X:Cx}{k:Nat}{N:List Str}{ns:List (Str×NameKind)}{pins:List (Addr×Obj)}{σ:St}{H:Hp}{s:Shared}
end
end G
end
section
namespace G
open PySem PySem.Spec L2
open PyProof.Rows hiding St
section
abbrev NS:=List (Str×NameKind)
structure Tb where
 D:List (Str×MF)
 C:List (Str×U)
 L:List (Str×Addr×MF)
 H:List (Str×(Addr->MF->MF))
 mkr:Bool
noncomputable def Tb.bare (T:Tb):Tb:=⟨T.D,T.C,[],T.H,false⟩
noncomputable def notStar:Expr->Bool
 | .Starred _ _=>false
 | _=>true
noncomputable def lG:Expr->Bool
 | .ListComp _ _ _ _=>false
 | .SetComp _ _ _ _=>false
 | .DictComp _ _ _ _ _=>false
 | _=>true
noncomputable def ir:Expr->Bool
 | .Set _ _ _=>false
 | _=>true
noncomputable def kZ:Expr->Bool
 | .Slice _ _ _ _=>false
 | _=>true
noncomputable def notTuple:Expr->Bool
 | .Tuple _ _ _=>false
 | _=>true
noncomputable def pk:List Expr->Bool
 | [.Subscript _ _ _,.Subscript _ _ _]=>true
 | _=>false
noncomputable def baseOk:Expr->Bool
 | .Call (.Name _ _) [] [] _=>false
 | _=>true
noncomputable def plainT:Expr->Bool
 | .Name _ _=>true
 | .Call _ _ _ _=>true
 | .Subscript _ _ _=>true
 | .Constant _ _ _=>true
 | _=>false
noncomputable def dummy (N:List Str):Str:=⟨#[N.length+1]⟩
noncomputable def zK (N:List Str) (x:Str):List Str:=(N.map fun y=>if y == x then dummy N else y) ++ [x]
noncomputable def Cr (N xs:List Str):List Str:=(N.zipIdx.map fun (y,i)=>if xs.contains y then (⟨#[N.length+1,i]⟩:Str) else y)++xs
noncomputable def namesOf:List Expr->Option (List Str)
 | []=>some []
 | .Name x _::r=>(namesOf r).map fun xs=>x::xs
 | _=>none
noncomputable def fS (x:Str):Bool := !(x == ("__debug__":Str)) && !(x == ("__classdict__":Str))
noncomputable def slot (N:List Str) (x:Str):Option Nat:=N.findIdx? (· == x)
noncomputable def Gz (g:Str):Option MF:=
 if g == ("len":Str) then some bq else if g == ("tuple":Str) then some b5 else if g == ("list":Str) then some mB
 else if g == ("max":Str) then some oI else if g == ("min":Str) then some o5 else if g == ("all":Str) then some o8
 else if g == ("sorted":Str) then some fL    else none
noncomputable def jJ:List Str := ["len","tuple","list","max","min","range","isinstance","bool","int","str","dict","all","any","sorted","reversed","zip","enumerate","set","sum","repr"]
noncomputable def Ck (t:Str):Option String:=
 if t == ("tuple":Str) then some "tuple" else if t == ("list":Str) then some "list" else if t == ("int":Str) then some "int"
 else if t == ("bool":Str) then some "bool" else if t == ("str":Str) then some "str" else if t == ("dict":Str) then some "dict" else none
noncomputable def Gv:Operator->Option F2
 | .Add=>some bC
 | .Sub=>some h9
 | .Mult=>some fv
 | .FloorDiv=>some oDiv
 | .Mod=>some oMod
 | .Pow=>some ue
 | _=>none
noncomputable def vV:CmpOp->Option F2
 | .Lt=>some oLt
 | .LtE=>some oLe
 | .Gt=>some oGt
 | .GtE=>some oGe
 | .Eq=>some oEq
 | .NotEq=>some oNe
 | .In=>some oIn
 | .NotIn=>some fN
 | .Is=>some oIs
 | _=>none
noncomputable def sNo:MS:=fun _ _=>none
noncomputable def Kt:MS:=fun ρ S=>some (.bk,ρ,S)
noncomputable def IZ:MS:=fun ρ S=>some (.ct,ρ,S)
noncomputable def A7 (name:Str) (ma:ME) (mas:MA):Option ME:=
 if name == ("append":Str) then some (mML cn ma mas) else if name == ("pop":Str) then some (mML jy ma mas)
 else if name == ("index":Str) then some (mMT iC ma mas)
 else if name == ("extend":Str) then some (mML eF ma mas) else none
structure Rc where
 e:Tb->List Str->NS->Expr->Option ME
 c:Tb->List Str->NS->Str->List Expr->Option ME
 v:Tb->List Str->NS->Str->List Expr->Option ME
 o:Tb->List Str->NS->Option Expr->Option (Option ME)
 t:Tb->List Str->NS->Expr->Option MT
 l:Tb->List Str->NS->Bool->List Expr->Option MT
 f:Tb->List Str->NS->List Expr->Option MT
 a:Tb->List Str->NS->List Expr->Option MA
 i:Tb->List Str->NS->Expr->Option MI
 g:Tb->List Str->NS->Expr->Option MG
 gs:Tb->List Str->NS->List Expr->Option MGs
 s:Tb->List Str->NS->Stmt->Option MS
 b:Tb->List Str->NS->List Stmt->Option MS
section
variable (R:Rc) (T:Tb) (N:List Str) (ns:NS)
noncomputable def KO:Const->Option ME
 | .int i=>some (mC (.int i))
 | .bool b=>some (mC (.bl b))
 | .none=>some (mC .non)
 | .str x=>some (mC (.str x))
 | _=>none
noncomputable def eUn (a:Expr):UnaryOp->Option ME
 | .USub=>(R.e T N ns a).map (m1 eK)
 | .Not=>(R.e T N ns a).map (m1 wm)
 | _=>none
noncomputable def eBo (op:BoolOp) (p:Pos):List Expr->Option ME
 | []=>none
 | [a]=>R.e T N ns a
 | a::b::r=>(R.e T N ns a).bind fun ma=>match op with
   | .And=>(R.e T N ns (.BoolOp .And (b::r) p)).map (fc ma)
   | .Or=>(R.e T N ns (.BoolOp .Or (b::r) p)).map (mOr ma)
noncomputable def eCm (a:Expr):List CmpOp->List Expr->Option ME
 | [op],[b]=>if ir b then (R.e T N ns a).bind fun ma=>(R.e T N ns b).bind fun mb=>(vV op).map fun f=>m2 f ma mb else none
 | [op,op'],[b,c]=>if ir b&&ir c then (R.e T N ns a).bind fun ma=>(R.e T N ns b).bind fun mb=>(R.e T N ns c).bind fun mc=>(vV op).bind fun f=>(vV op').map fun g=>mCh f g ma mb mc else none
 | _,_=>none
noncomputable def Di:Expr->Bool
 | .UnaryOp .USub (.Constant (.int i) _ _) _=>i == 1
 | _=>false
noncomputable def eSl (a:Expr) (lo hi:Option Expr):Option Expr->Option ME
 | none=>(R.e T N ns a).bind fun ma=>(R.o T N ns lo).bind fun ml=>(R.o T N ns hi).map (mSl ma ml)
 | some s=>if lo.isNone&&hi.isNone&&Di s then (R.e T N ns a).map (m1 lh) else none
noncomputable def eSb (a:Expr):Expr->Option ME
 | .Slice lo hi st _=>eSl R T N ns a lo hi st
 | b=>if kZ b then (R.e T N ns a).bind fun ma=>(R.e T N ns b).map (m2 oIx ma) else none
noncomputable def eDi:List (Option Expr)->List Expr->Option ME
 | [],[]=>some sD
 | [some a],[b]=>(R.e T N ns a).bind fun ma=>(R.e T N ns b).map (Cp ma)
 | _,_=>none
noncomputable def eLt (elt it:Expr) (ifs:List Expr) (scope:Scope):Expr->Option ME
 | .Name x _=>if scope.kind == .function&&nB N (zK N x) ns scope.names x&&ir it then
    (R.i T N ns it).bind fun mi=>(R.f T (zK N x) scope.names ifs).bind fun mt=>(R.e T (zK N x) scope.names elt).map (cU mi mt)
   else none
 | .Tuple ts _ _=>(namesOf ts).bind fun xs=>
   if scope.kind == .function&&nD N (Cr N xs) ns scope.names xs&&ir it then
    (R.e T N ns it).bind fun mi=>(R.f T (Cr N xs) scope.names ifs).bind fun mt=>(R.e T (Cr N xs) scope.names elt).map (iT xs.length (cZ mi) mt)
   else none
 | _=>none
noncomputable def eLc (elt:Expr) (scope:Scope):List Comprehension->Option ME
 | [c]=>if c.is_async=0 then eLt R T N ns elt c.iter c.ifs scope c.target else none
 | _=>none
noncomputable def eRg (g:Str):List Expr->Option ME
 | [a]=>(R.a T N ns [a]).map fun m=>if g == ("list":Str) then fo (iR1 m) else my (iR1 m)
 | [a,b]=>(R.a T N ns [a,b]).map fun m=>if g == ("list":Str) then fo (iR2 m) else my (iR2 m)
 | _=>none
noncomputable def eSS:List Expr->Option ME
 | [a]=>(R.a T N ns [a]).map (mFn bSS)
 | _=>none
noncomputable def eC1 (g:Str):Expr->Option ME
 | .Call (.Name r q) rs [] rp=>if (g == ("list":Str)||g == ("tuple":Str))&&r == ("range":Str) then (if eg ns r then eRg R T N ns g rs else none) else if g == ("sorted":Str)&&r == ("set":Str) then (if eg ns r then eSS R T N ns rs else none) else R.c T N ns g [.Call (.Name r q) rs [] rp]
 | a=>R.c T N ns g [a]
noncomputable def eIs (g t:Str) (tp:Pos) (a:Expr):Option ME:=
 if g == ("isinstance":Str) then (if eg ns t&&notStar a then (Ck t).bind fun c=>(R.e T N ns a).map (m1 (fg c)) else none) else R.c T N ns g [a,.Name t tp]
noncomputable def eC2 (g:Str) (a:Expr):Expr->Option ME
 | .Name t tp=>eIs R T N ns g t tp a
 | .Lambda _ _ _ _=>none
 | b=>R.c T N ns g [a,b]
noncomputable def eCf (g:Str):List Expr->Option ME
 | []=>(T.D.lookup g).map fun mf=>mFn mf af
 | [a]=>eC1 R T N ns g a
 | [a,b]=>eC2 R T N ns g a b
 | a::b::c::r=>R.c T N ns g (a::b::c::r)
noncomputable def eMe (o:Expr) (name:Str) (p q:Pos):List Expr->Option ME
 | []=>if baseOk o&&(p.endLine == q.line)&&name == ("pop":Str) then (R.e T N ns o).map fun mo=>mML pO mo af else none
 | [a]=>if baseOk o&&(p.endLine == q.line)&&notStar a then (R.e T N ns o).bind fun mo=>(R.a T N ns [a]).bind (A7 name mo) else none
 | _=>none
noncomputable def eCa (as:List Expr) (q:Pos):Expr->Option ME
 | .Name g _=>if eg ns g&&fS g then eCf R T N ns g as else R.v T N ns g as
 | .Attribute o name p=>eMe R T N ns o name p q as
 | _=>none
end
noncomputable def sE (R:Rc) (T:Tb):List Str->NS->Expr->Option ME:=fun N ns e=>match e with
  | .Name x _=>if fS x then (if vY ns x then (slot N x).map ab else if eg ns x then (T.C.lookup x).map mC else none) else none
  | .Constant c _ _=>KO c
  | .BinOp a op b _=>(R.e T N ns a).bind fun ma=>(R.e T N ns b).bind fun mb=>(Gv op).map fun f=>m2 f ma mb
  | .UnaryOp op a _=>eUn R T N ns a op
  | .BoolOp op vs p=>eBo R T N ns op p vs
  | .Compare a ops bs _=>eCm R T N ns a ops bs
  | .Subscript a b _=>eSb R T N ns a b
  | .Dict ks vs _=>eDi R T N ns ks vs
  | .Tuple es _ _=>(R.a T N ns es).map bA
  | .List es _=>(R.a T N ns es).map b4
  | .ListComp elt gens scope _=>eLc R T N ns elt scope gens
  | .Call f as kws q=>if kws.isEmpty then eCa R T N ns as q f else none
  | _=>none
noncomputable def sC (R:Rc) (T:Tb):List Str->NS->Str->List Expr->Option ME:=fun N ns g as=>(R.a T N ns as).bind fun mas=>match Gz g with
  | some mf=>some (mFn mf mas)
  | none=>(T.D.lookup g).map fun mf=>mFn mf mas
noncomputable def sV (R:Rc) (T:Tb):List Str->NS->Str->List Expr->Option ME:=fun N ns g as=>match as with
 | []=>none
 | a::as=>none
noncomputable def sO (R:Rc) (T:Tb):List Str->NS->Option Expr->Option (Option ME):=fun N ns o=>match o with
  | none=>some none
  | some e=>(R.e T N ns e).map some
noncomputable def sT (R:Rc) (T:Tb):List Str->NS->Expr->Option MT:=fun N ns e=>match e with
  | .UnaryOp .Not a _=>(R.t T N ns a).map lW
  | .BoolOp .And vs _=>R.l T N ns true vs
  | .BoolOp .Or vs _=>R.l T N ns false vs
  | .Compare a ops bs _=>(eCm R T N ns a ops bs).map cOf
  | e=>if plainT e then (R.e T N ns e).map cOf else none
noncomputable def sL (R:Rc) (T:Tb):List Str->NS->Bool->List Expr->Option MT:=fun N ns b vs=>match vs with
  | []=>none
  | [a]=>R.t T N ns a
  | a::r=>(R.t T N ns a).bind fun ma=>(R.l T N ns b r).map fun mr=>if b then j8 ma mr else cOr ma mr
noncomputable def sF (R:Rc) (T:Tb):List Str->NS->List Expr->Option MT:=fun N ns ifs=>match ifs with
  | []=>some cTT
  | [c]=>R.t T N ns c
  | _=>none
noncomputable def sA (R:Rc) (T:Tb):List Str->NS->List Expr->Option MA:=fun N ns es=>match es with
  | []=>some af
  | e::r=>if notStar e then (R.e T N ns e).bind fun m=>(R.a T N ns r).map (aa m) else none
noncomputable def sI (R:Rc) (T:Tb):List Str->NS->Expr->Option MI:=fun N ns e=>match e with
  | .Call (.Name g q) as [] p=>
    if g == ("range":Str) then
     if eg ns g then match as with
      | [a]=>(R.a T N ns [a]).map iR1
      | [a,b]=>(R.a T N ns [a,b]).map iR2
      | _=>none
     else none
    else (R.e T N ns (.Call (.Name g q) as [] p)).map cZ
  | e=>(R.e T N ns e).map cZ
noncomputable def sG (R:Rc) (T:Tb):List Str->NS->Expr->Option MG:=fun N ns e=>match e with
  | .Name x _=>if pZ ns x then (slot N x).map gN else none
  | .Subscript a b _=>if kZ b then (R.e T N ns a).bind fun ma=>(R.e T N ns b).map (gSb ma) else none
  | .Tuple es _ _=>(R.gs T N ns es).map (gTp es.length)
  | _=>none
noncomputable def sGs (R:Rc) (T:Tb):List Str->NS->List Expr->Option MGs:=fun N ns es=>match es with
  | []=>some jl
  | e::r=>if notStar e then (R.g T N ns e).bind fun g=>(R.gs T N ns r).map (dn g) else none
noncomputable def eIt (R:Rc) (T:Tb) (N:List Str) (ns:NS) (e:Expr):Option MI:=match e with
  | .Call (.Name g q) [a] [] p=>if g == ("enumerate":Str) then (if eg ns g then (R.a T N ns [a]).map pV else none) else (R.e T N ns (.Call (.Name g q) [a] [] p)).map cZ
  | e=>(R.e T N ns e).map cZ
noncomputable def FU (R:Rc) (T:Tb) (N:List Str) (ns:NS) (y:Str) (elt it:Expr) (ifs:List Expr) (scope:Scope):Expr->Option MS
 | .Name x _=>
   if pZ ns y&&(scope.kind == .function&&nB N (zK N x) ns scope.names x&&ir it) then
    (slot N y).bind fun i=>(R.i T N ns it).bind fun mi=>(R.f T (zK N x) scope.names ifs).bind fun mt=>(R.e T (zK N x) scope.names elt).map fun me=>bB i (cU mi mt me)
   else none
 | _=>none
noncomputable def Ir (R:Rc) (T:Tb) (N:List Str) (ns:NS) (y:Str) (elt:Expr) (scope:Scope):List Comprehension->Option MS
 | [c]=>if c.is_async=0 then FU R T N ns y elt c.iter c.ifs scope c.target else none
 | _=>none
noncomputable def HS (R:Rc) (T:Tb) (N:List Str) (ns:NS) (x:Str):Expr->Option MS
 | .ListComp elt gens scope _=>Ir R T N ns x elt scope gens
 | e=>if pZ ns x&&lG e then (slot N x).bind fun i=>(R.e T N ns e).map (bB i) else none
noncomputable def GG (R:Rc) (T:Tb) (N:List Str) (ns:NS) (e:Expr):Expr->Option MS
  | .Name x _=>HS R T N ns x e
  | .Subscript a b _=>if lG e&&kZ b then (R.e T N ns a).bind fun ma=>(R.e T N ns b).bind fun mb=>(R.e T N ns e).map (mT ma mb) else none
  | .Tuple ts kt pt=>if lG e&&(notTuple e||pk ts) then (R.g T N ns (.Tuple ts kt pt)).bind fun g=>(R.e T N ns e).map fun me=>p6 me g else none
  | _=>none
noncomputable def sAs (R:Rc) (T:Tb) (N:List Str) (ns:NS) (e:Expr):List Expr->Option MS
 | [t]=>GG R T N ns e t
 | _=>none
noncomputable def sAu (R:Rc) (T:Tb) (N:List Str) (ns:NS) (x:Str) (e:Expr):Operator->Option MS
  | .Add=>none
  | _=>none
noncomputable def Jt (R:Rc) (T:Tb) (N:List Str) (ns:NS) (op:Operator) (e:Expr):Expr->Option MS
 | .Name x _=>sAu R T N ns x e op
 | _=>none
noncomputable def sRt (R:Rc) (T:Tb) (N:List Str) (ns:NS):Option Expr->Option MS
 | some e=>(R.e T N ns e).map dh
 | none=>some (dh (mC .non))
noncomputable def sFo (R:Rc) (T:Tb) (N:List Str) (ns:NS) (it:Expr) (body:List Stmt):Expr->Option MS
  | .Name x _=>if pZ ns x&&ir it then (slot N x).bind fun i=>(R.i T N ns it).bind fun mi=>(R.b T N ns body).map (eB i mi) else none
  | .Tuple ts kt pt=>if ir it then (R.g T N ns (.Tuple ts kt pt)).bind fun g=>(eIt R T N ns it).bind fun mi=>(R.b T N ns body).map (pP g mi) else none
  | _=>none
noncomputable def Iw (R:Rc) (T:Tb) (N:List Str) (ns:NS) (t it:Expr) (body:List Stmt):List Stmt->Option MS
 | []=>sFo R T N ns it body t
 | _=>none
noncomputable def sWh (R:Rc) (T:Tb) (N:List Str) (ns:NS) (c:Expr) (body:List Stmt):List Stmt->Option MS
 | []=>(R.t T N ns c).bind fun mc=>(R.b T N ns body).map (j6 mc)
 | _=>none
noncomputable def sS (R:Rc) (T:Tb):List Str->NS->Stmt->Option MS:=fun N ns st=>match st with
  | .Assign ts e _=>sAs R T N ns e ts
  | .AugAssign t op e _=>Jt R T N ns op e t
  | .Expr e _=>if lG e then (R.e T N ns e).map dj else none
  | .Return o _=>sRt R T N ns o
  | .If c a b _=>(R.t T N ns c).bind fun mc=>(R.b T N ns a).bind fun ma=>(R.b T N ns b).map (sIf mc ma)
  | .For t it body els _=>Iw R T N ns t it body els
  | .While c body els _=>sWh R T N ns c body els
  | .Pass _=>some dP
  | .Break _=>some Kt
  | .Raise _ _ _=>some sNo
  | .Continue _=>some IZ
  | _=>none
noncomputable def sB (R:Rc) (T:Tb):List Str->NS->List Stmt->Option MS:=fun N ns sts=>match sts with
  | []=>some dP
  | [s]=>R.s T N ns s
  | s::r=>(R.s T N ns s).bind fun ms=>(R.b T N ns r).map (bf ms)
noncomputable def rc:Nat->Rc
 | 0=>⟨fun _ _ _ _=>none,fun _ _ _ _ _=>none,fun _ _ _ _ _=>none,fun _ _ _ _=>none,fun _ _ _ _=>none,fun _ _ _ _ _=>none,fun _ _ _ _=>none,fun _ _ _ _=>none,fun _ _ _ _=>none,fun _ _ _ _=>none,fun _ _ _ _=>none,fun _ _ _ _=>none,fun _ _ _ _=>none⟩
 | n+1=>⟨sE (rc n),sC (rc n),sV (rc n),sO (rc n),sT (rc n),sL (rc n),sF (rc n),sA (rc n),sI (rc n),sG (rc n),sGs (rc n),sS (rc n),sB (rc n)⟩
abbrev cE (T:Tb) (n:Nat):=(rc n).e T
abbrev cC (T:Tb) (n:Nat):=(rc n).c T
abbrev cV (T:Tb) (n:Nat):=(rc n).v T
abbrev cO (T:Tb) (n:Nat):=(rc n).o T
abbrev cT (T:Tb) (n:Nat):=(rc n).t T
abbrev cL (T:Tb) (n:Nat):=(rc n).l T
abbrev cF (T:Tb) (n:Nat):=(rc n).f T
abbrev cA (T:Tb) (n:Nat):=(rc n).a T
abbrev cI (T:Tb) (n:Nat):=(rc n).i T
abbrev cG (T:Tb) (n:Nat):=(rc n).g T
abbrev cGs (T:Tb) (n:Nat):=(rc n).gs T
abbrev cS (T:Tb) (n:Nat):=(rc n).s T
abbrev cB (T:Tb) (n:Nat):=(rc n).b T
end
end G
end
section
namespace G
open PySem PySem.Spec L2
open PyProof.Rows hiding St
section
variable {env:Env}{e a b o:Expr}{es:List Expr}{pos q:Pos}
theorem cN (h:notStar e=true) (es:List Expr) (env:Env):starEach (e::es) env=(false,eval e env)::starEach es env:=by
 cases e <;> first | rfl | cases h
theorem xI (pos:Pos) (env:Env) : ∀ {es:List Expr},es.all notStar=true->(backTo pos (starEach es env)).any (·.1)=false
 | [],_=>rfl
 | e::es,h=>by
   rw [bW,aw] at h
   rw [cN h.1]
   show (false||(backTo pos (starEach es env)).any (·.1))=false
   rw [xI pos env h.2];rfl
theorem BJ (h:plainT e=true) (env:Env) : ∀ whole,isTrue e env whole=(do let v <- whole;standAt e.pos;holding [v] (truthy v)):=by
 intro whole
 cases e <;> first | rfl | cases h
theorem nk (h:ir e=true) (env:Env) : ∀ x,foldedSetIterable e env x=pure x:=by
 intro x
 cases e <;> first | rfl | cases h
theorem sX (h:ir b=true) (op:CmpOp):behindInMarks op b=false:=by
 cases b <;> first | rfl | cases h
theorem JM (h:kZ b=true):tF b:=by
 intro o i
 cases b <;> first | rfl | cases h
theorem nV (h:baseOk o=true) (name:Str) (env:Env):attributeBase o name env (eval o env)=eval o env:=by
 cases o with
 | Call f as ks p=>
   cases f with
   | Name x p=>
     cases as with
     | nil=>cases ks with
       | nil=>cases h
       | cons k ks=>rfl
     | cons a as=>rfl
   | _=>rfl
 | _=>rfl
theorem nz (h:lG e=true) (t:Option Expr) (line:Nat) (env:Env):swapsWith e t line env=pure false:=by
 cases e <;> first | rfl | cases h
theorem yY (h:lG e=true) (t:Expr) (line:Nat) (env:Env):swapsWithSole [t] e line env=pure false:=by
 unfold swapsWithSole
 exact nz h _ _ _
theorem ud (h:notStar a=true) (q:Pos) (env:Env):((backTo q (starEach [a] env)).all (fun x => !x.1)&&(backToKw q (keywordEach [] env)).all (fun x=>x.1.isSome)
   && decide ([a].length+([]:List Keyword).length+(if ([]:List Keyword).isEmpty then 0 else 1) < 30))=true:=by
 rw [cN h];rfl
theorem BE (h:kZ b=true) (env:Env) : ∀ v,assign (.Subscript a b pos) env v=(do
   let ov <- holding [v] (eval a env)
   let iv <- holding [v,ov] (eval b env)
   standAt pos
   holding [v,ov,iv] (setItem ov iv v)
   release [v,ov,iv] []):=by
 intro v
 cases b <;> first | rfl | cases h
theorem uV (h:notStar e=true) (es:List Expr) (env:Env):assignEach (e::es) env=(false,assign e env)::assignEach es env:=by
 cases e <;> first | rfl | cases h
theorem yx (env:Env) : ∀ es:List Expr,es.all notStar=true->(assignEach es env).length=es.length/\(assignEach es env).findIdx? (·.1)=none
 | [],_=>⟨rfl,rfl⟩
 | e::es,h=>by
   rw [bW,aw] at h
   obtain⟨a,b⟩:=yx env es h.2
   rw [uV h.1]
   exact⟨by simp [a],by rw [pI];simp [b]⟩
theorem vF {ts:List Expr}{kt:Nat}{pt:Pos} (h:(notTuple e||pk ts)=true):swappedStores [.Tuple ts kt pt] e env=pure none:=by
 cases e with
 | Tuple vs k2 p2=>
   have h':pk ts=true:=h
   unfold pk at h'
   split at h'
   ·exact vk
   ·cases h'
 | _=>rfl
theorem w9:swappedStores [.Subscript a b pos] e env=pure none:=by
 cases e <;> rfl
end
theorem jh {T:Tb} : ∀ {n:Nat}{N:List Str}{ns:NS}{es:List Expr}{m:MA},cA T n N ns es=some m->es.all notStar=true
 | 0,_,_,_,_,h=>by simp [cA,rc] at h
 | n+1,_,_,[],_,h=>rfl
 | n+1,N,ns,e::es,m,h=>by
   simp only [cA,rc,sA] at h
   split at h
   ·rename_i hs
    cases e1:(rc n).e T N ns e with
    | none=>rw [e1] at h;cases h
    | some me=>
      rw [e1] at h
      simp only [ah] at h
      cases e2:(rc n).a T N ns es with
      | none=>rw [e2] at h;cases h
      | some mr=>rw [bW,hs,jh e2];rfl
   ·cases h
theorem vR {T:Tb} : ∀ {n:Nat}{N:List Str}{ns:NS}{es:List Expr}{m:MGs},cGs T n N ns es=some m->es.all notStar=true
 | 0,_,_,_,_,h=>by simp [cGs,rc] at h
 | n+1,_,_,[],_,h=>rfl
 | n+1,N,ns,e::es,m,h=>by
   simp only [cGs,rc,sGs] at h
   split at h
   ·rename_i hs
    cases e1:(rc n).g T N ns e with
    | none=>rw [e1] at h;cases h
    | some me=>
      rw [e1] at h
      simp only [ah] at h
      cases e2:(rc n).gs T N ns es with
      | none=>rw [e2] at h;cases h
      | some mr=>rw [bW,hs,vR e2];rfl
   ·cases h
theorem slot_get {N:List Str}{x:Str}{i:Nat} (h:slot N x=some i):N[i]? = some x:=by
 unfold slot at h
 obtain⟨h1,h2,_⟩:=d5.mp h
 rw [aX h1,eq_of_beq h2]
theorem jZ {x:Str} (h:fS x=true):(x == ("__debug__":Str))=false/\(x == ("__classdict__":Str))=false:=by
 unfold fS at h
 rw [aw] at h
 simpa using h
theorem bind_eq {α β:Type}{o:Option α}{f:α->Option β}{b:β} (h:o.bind f=some b) : ∃ a,o=some a/\f a=some b:=by
 cases o with
 | none=>cases h
 | some a=>exact⟨a,rfl,h⟩
theorem map_eq {α β:Type}{o:Option α}{f:α->β}{b:β} (h:o.map f=some b) : ∃ a,o=some a/\f a=b:=by
 cases o with
 | none=>cases h
 | some a=>exact⟨a,rfl,bw h⟩
section
variable {M:Mo}{X:Cx}{k:Nat}{N:List Str}{ns:NS}{a b c e:Expr}{es:List Expr}{ma mb mc:ME}{mt:MT}{mas:MA}{pos p1 p2:Pos}{x:Str}
theorem G3 (S:Sc M X k N ns) (hg:eg ns "list"=true) (hm:M.mg "list"=none) (ha:PA X (e::es) (tMA M.K mas)) (he:starEach (e::es) X.env=(false,eval e X.env)::starEach es X.env) (hpl:(backTo pos (starEach es X.env)).any (·.1)=false) :
  PE X (.Call (.Name "list" p1) (e::es) [] pos) (tM M.K (mFn mB mas)):=
 PE.con (iH (S.hK▸um) (S.gl hg) (by rw [S.hm];exact hm) jV ha (by decide) (by decide) he hpl) fun _ _ _ h=>wt Dz h
theorem JW (S:Sc M X k N ns) (hg:eg ns "all"=true) (hm:M.mg "all"=none) (ha:PA X (e::es) (tMA M.K mas)) (he:starEach (e::es) X.env=(false,eval e X.env)::starEach es X.env) (hpl:(backTo pos (starEach es X.env)).any (·.1)=false) :
  PE X (.Call (.Name "all" p1) (e::es) [] pos) (tM M.K (mFn o8 mas)):=
 PE.con (jR (S.hK▸zh S.calm) (S.gl hg) (by rw [S.hm];exact hm) PyProof.Rows.boot_all ha (by decide) (by decide) he hpl) fun _ _ _ h=>wt HD h
theorem Do {ts:List Expr}{kt:Nat}{pt:Pos}{a:Expr} (S:Sc M X k N ns) (hg:eg ns "enumerate"=true) (hm:M.mg "enumerate"=none) (ha:PA X [a] (tMA M.K mas)) (hs:starEach [a] X.env = [(false,eval a X.env)]):PI X (.Tuple ts kt pt) (.Call (.Name "enumerate" p1) [a] [] pos) (uh M.K (tMA M.K mas)):=
 S.hK▸Eg (S.gl hg) (by rw [S.hm];exact hm) ha hs
theorem BB (S:Sc M X k N ns) (hg:eg ns "sorted"=true) (hm:M.mg "sorted"=none) (ha:PA X (e::es) (tMA M.K mas)) (he:starEach (e::es) X.env=(false,eval e X.env)::starEach es X.env) (hpl:(backTo pos (starEach es X.env)).any (·.1)=false) :
  PE X (.Call (.Name "sorted" p1) (e::es) [] pos) (tM M.K (mFn fL mas)):=
 PE.con (jR (S.hK▸wu S.calm) (S.gl hg) (by rw [S.hm];exact hm) qR ha (by decide) (by decide) he hpl) fun _ _ _ h=>wt zY h
theorem Lk {as:Expr}{q rp:Pos} (S:Sc M X k N ns) (hg:eg ns "sorted"=true) (hm:M.mg "sorted"=none) (hg2:eg ns "set"=true) (hm2:M.mg "set"=none) (ha:PA X [as] (tMA M.K mas)) (hs:notStar as=true) :
  PE X (.Call (.Name "sorted" p1) [.Call (.Name "set" q) [as] [] rp] [] pos) (tM M.K (mFn bSS mas)):=
 PE.con (S.hK▸Ij S.calm (S.gl hg) (by rw [S.hm];exact hm) (S.gl hg2) (by rw [S.hm];exact hm2) ha (by rw [cN hs])) fun _ _ _ h=>wt Jl h
theorem Ar (S:Sc M X k N ns) (ho:PE X b (tM M.K mb)) (ha:PA X [a] (tMA M.K mas)) (hb:baseOk b=true) (hs:notStar a=true) (hl:(p1.endLine == pos.line)=true):PE X (.Call (.Attribute b "extend" p1) [a] [] pos) (tM M.K (mML eF mb mas)):=by
 exact PE.con (AK gw PySem.F.slot_list_extend PySem.F.type_list_extend zF ho ha (nV hb _ _) (ud hs _ _) hl (cN hs _ _) rfl) fun _ _ _ h=>S.hK▸GW Ad h
theorem BY {op:CmpOp}{f:F2} (S:Sc M X k N ns) (h:vV op=some f) : ∃ r,OpR X (compareOp op) r/\OpU M.K r f:=by
 cases op <;> simp only [vV,dZ,reduceCtorEq] at h <;> subst h
 ·exact⟨_,S.hK▸Gb S.room.units,IL⟩
 ·exact⟨_,S.hK▸HB S.room.units,Jv⟩
 ·exact⟨_,Ko,tj⟩
 ·exact⟨_,JN,tj⟩
 ·exact⟨_,IX,tj⟩
 ·exact⟨_,IH,tj⟩
 ·exact⟨_,Ha,Jn⟩
 ·exact⟨_,S.hK▸Gi (by have:=S.room.units;omega),KA⟩
 ·exact⟨_,S.hK▸zm (by have:=S.room.units;omega),Au⟩
theorem KQ {j:Nat}{p3 p4:Pos} (S:Sc M X k N ns) (ha:PE X a (tM M.K ma)):PE X (.Subscript a (.Slice none none (some (.UnaryOp .USub (.Constant (.int 1) j p3) p4)) p2) pos) (tM M.K (m1 lh ma)):=by
 refine PE.con (t:=HV M.K (tM M.K ma)) ?_ fun _ _ _ h=>Kv h
 rw [<- S.hK]
 exact HH ha
theorem FT {N':List Str}{scope:Scope}{px py spos:Pos}{iter elt:Expr}{ifs:List Expr}{wi:TI}{mi:MI}{y:Str} (S:Sc M X k N ns) (i:Nat) (hy:N[i]? = some y) (ho:pZ ns y=true) (hk:scope.kind = .function) (ok:nB N N' ns scope.names x=true) (hi:PI X (.Name x px) iter wi)
  (ht : ∀ X',Sc M X' k N' scope.names->PTs X' ifs (tMT M.K mt)) (he : ∀ X',Sc M X' k N' scope.names->PE X' elt (tM M.K mc)) (hr : ∀ σ H Q,tM M.K (cU mi mt mc) σ H Q->oO wi (tMT M.K mt) (tM M.K mc) σ H Q)
  (hs : ∀ x,foldedSetIterable iter X.env x=pure x):PS X (.Assign [.Name y py] (.ListComp elt [⟨.Name x px,iter,ifs,0⟩] scope pos) spos) (tMS M.K (bB i (cU mi mt mc))):=by
 have C:=rJ S hk ok
 have e : ∃ b,swapsWith (.ListComp elt [⟨.Name x px,iter,ifs,0⟩] scope pos) (some (.Name y py)) spos.line X.env=pure b:=⟨_,rfl⟩
 obtain⟨b,e⟩:=e
 cases b with
 | true=>exact PS.con (DB (by rw [S.hN];exact S.nd) (by rw [S.hN];exact hy) (S.lo ho).1 S.calm C hi (fun s₂ H₂ fp=>ht _ (oz S C s₂ H₂ fp)) (fun s₂ H₂ fp=>he _ (oz S C s₂ H₂ fp)) e hs (S.lo ho).2) fun _ _ _ h=>hr _ _ _ (Fw h)
 | false=>exact FA S i hy ho (Ca S hk ok hi ht he hr hs) e
theorem GN:PE X (.Dict [] [] pos) (tM M.K sD):=PE.con BZ fun _ _ _ h=>GP h
theorem FY (ha:PE X a (tM M.K ma)) (hb:PE X b (tM M.K mb)):PE X (.Dict [some a] [b] pos) (tM M.K (Cp ma mb)):=
 PE.con (Dn (AZ ha hb Em) rfl rfl (by simp) (by simp)) fun _ _ _ h=>Hg h
theorem vp : ∀ {ts:List Expr}{xs:List Str},namesOf ts=some xs->eJ ts xs
 | [],xs,h=>by cases h;exact .nil
 | t::ts,xs,h=>by
   cases t with
   | Name x p=>
     unfold namesOf at h
     cases q:namesOf ts with
     | none=>rw [q] at h;cases h
     | some ys=>rw [q] at h;cases h;exact .cons x p (vp q)
   | _=>cases h
theorem Eu {N' xs:List Str}{scope:Scope}{kt:Nat}{pt:Pos}{ts:List Expr}{iter elt:Expr}{ifs:List Expr}{mi:ME} (S:Sc M X k N ns) (hk:scope.kind = .function) (ok:nD N N' ns scope.names xs=true) (hn:eJ ts xs) (hi:PE X iter (tM M.K mi))
  (ht : ∀ X',Sc M X' k N' scope.names->PTs X' ifs (tMT M.K mt)) (he : ∀ X',Sc M X' k N' scope.names->PE X' elt (tM M.K mc))
  (hs : ∀ x,foldedSetIterable iter X.env x=pure x):PE X (.ListComp elt [⟨.Tuple ts kt pt,iter,ifs,0⟩] scope pos) (tM M.K (iT xs.length (cZ mi) mt mc)):=by
 have C:=qI S hk ok
 refine PE.con (B8 S.calm C hn (DZ S hi) (fun s₂ H₂ fp=>ht _ (oz S C s₂ H₂ fp)) (fun s₂ H₂ fp=>he _ (oz S C s₂ H₂ fp)) hs) fun _ _ _ h => ?_
 rw [S.hK]
 exact Kh h
theorem BU {as:Expr}{q rp:Pos} (S:Sc M X k N ns) (hg:eg ns "list"=true) (hm:M.mg "list"=none) (hg2:eg ns "range"=true) (hm2:M.mg "range"=none) (ha:PA X [as] (tMA M.K mas)) (hs:notStar as=true) :
  PE X (.Call (.Name "list" p1) [.Call (.Name "range" q) [as] [] rp] [] pos) (tM M.K (fo (iR1 mas))):=
 PE.con (iH (mE S.calm) (S.gl hg) (by rw [S.hm];exact hm) jV (j3 (yJ (S.gl hg2) (by rw [S.hm];exact hm2) ha (by rw [cN hs];rfl)) og) (by decide) (by decide)) fun _ _ _ h=>BW h
theorem Ct {as bs:Expr}{q rp:Pos} (S:Sc M X k N ns) (hg:eg ns "list"=true) (hm:M.mg "list"=none) (hg2:eg ns "range"=true) (hm2:M.mg "range"=none) (ha:PA X [as,bs] (tMA M.K mas)) (hs:notStar as=true) (hs2:notStar bs=true) :
  PE X (.Call (.Name "list" p1) [.Call (.Name "range" q) [as,bs] [] rp] [] pos) (tM M.K (fo (iR2 mas))):=
 PE.con (iH (mE S.calm) (S.gl hg) (by rw [S.hm];exact hm) jV (j3 (yq (S.gl hg2) (by rw [S.hm];exact hm2) ha (by rw [cN hs,cN hs2];rfl) (by rw [cN hs2];rfl)) og) (by decide) (by decide)) fun _ _ _ h=>A0 h
theorem E1 {as:Expr}{q rp:Pos} (S:Sc M X k N ns) (hg:eg ns "tuple"=true) (hm:M.mg "tuple"=none) (hg2:eg ns "range"=true) (hm2:M.mg "range"=none) (ha:PA X [as] (tMA M.K mas)) (hs:notStar as=true) :
  PE X (.Call (.Name "tuple" p1) [.Call (.Name "range" q) [as] [] rp] [] pos) (tM M.K (my (iR1 mas))):=
 PE.con (iH (kG S.calm) (S.gl hg) (by rw [S.hm];exact hm) jH (j3 (yJ (S.gl hg2) (by rw [S.hm];exact hm2) ha (by rw [cN hs];rfl)) og) (by decide) (by decide)) fun _ _ _ h=>E3 h
theorem EV {as bs:Expr}{q rp:Pos} (S:Sc M X k N ns) (hg:eg ns "tuple"=true) (hm:M.mg "tuple"=none) (hg2:eg ns "range"=true) (hm2:M.mg "range"=none) (ha:PA X [as,bs] (tMA M.K mas)) (hs:notStar as=true) (hs2:notStar bs=true) :
  PE X (.Call (.Name "tuple" p1) [.Call (.Name "range" q) [as,bs] [] rp] [] pos) (tM M.K (my (iR2 mas))):=
 PE.con (iH (kG S.calm) (S.gl hg) (by rw [S.hm];exact hm) jH (j3 (yq (S.gl hg2) (by rw [S.hm];exact hm2) ha (by rw [cN hs,cN hs2];rfl) (by rw [cN hs2];rfl)) og) (by decide) (by decide)) fun _ _ _ h=>Ec h
theorem JP {t:Str}{c:String} (S:Sc M X k N ns) (hg:eg ns "isinstance"=true) (hm:M.mg "isinstance"=none) (hg2:eg ns t=true) (hm2:M.mg t=none) (hb:bootBuiltins t=some (.type c)) (hc:c∈jY) (hn:t≠"__name__") (hd:(t == ("__debug__":Str))=false)
  (ha:PE X a (tM M.K ma)) (hs:notStar a=true):PE X (.Call (.Name "isinstance" p1) [a,.Name t p2] [] pos) (tM M.K (m1 (fg c) ma)):=by
 refine PE.con (jR BL (S.gl hg) (by rw [S.hm];exact hm) PyProof.Rows.boot_isinstance (j3 ha (j3 (EL (v := .ty c) (S.gl hg2) (by rw [S.hm];exact hm2) hb rfl hn hd) og) (cN hs _ _)) (by decide) (by decide) (cN hs _ _) rfl) fun _ _ _ h => ?_
 rw [S.hK]
 exact Jq hc h
theorem Ek (S:Sc M X k N ns) (ho:PE X b (tM M.K mb)) (ha:PA X [a] (tMA M.K mas)) (hb:baseOk b=true) (hs:notStar a=true) (hl:(p1.endLine == pos.line)=true):PE X (.Call (.Attribute b "index" p1) [a] [] pos) (tM M.K (mMT iC mb mas)):=by
 refine PE.con (t:=G4 M.K (tM M.K mb) (tMA M.K mas)) ?_ fun _ _ _ h=>EC h
 rw [<- S.hK]
 exact BH S.room.units ho ha (nV hb _ _) (ud hs _ _) hl (cN hs _ _) rfl
theorem G2 (S:Sc M X k N ns) (ho:PE X b (tM M.K mb)) (hb:baseOk b=true) (hl:(p1.endLine == pos.line)=true):PE X (.Call (.Attribute b "pop" p1) [] [] pos) (tM M.K (mML pO mb af)):=by
 exact PE.con (GV gw ze zf HN ho (nV hb _ _) hl) fun _ _ _ h=>S.hK▸IQ Hk h
section
variable {X:Cx}
end
theorem La {st:Stmt}:PS X st (tMS M.K sNo):=by
 intro pins s σ H D I h
 obtain⟨μ,S,ρ,r,hr,er,e,kk⟩:=h
 cases e
theorem Ki:PS X (.Break pos) (tMS M.K Kt):=PS.con BD fun D σ H h=>by
 obtain⟨μ,S,ρ,r,hr,er,e,kk⟩:=h
 cases e
 exact kk μ σ H (Pre.refl _) (aZ.refl _) hr er
theorem K3:PS X (.Continue pos) (tMS M.K IZ):=PS.con wB fun D σ H h=>by
 obtain⟨μ,S,ρ,r,hr,er,e,kk⟩:=h
 cases e
 exact kk μ σ H (Pre.refl _) (aZ.refl _) hr er
theorem G9:PS X (.Pass pos) (tMS M.K dP):=PS.con ED fun D σ H h=>Bt h
theorem He:PS X (.Return none pos) (tMS M.K (dh (mC .non))):=PS.con DX fun D σ H h=>by
 obtain⟨μ,S,ρ,r,hr,er,e,kk⟩:=h
 cases e
 exact kk μ _ H (Pre.refl _) (aZ.refl _) hr pK
theorem GM (ha:PE X a (tM M.K ma)) (hb:PE X (.BoolOp .And (b::es) pos) (tM M.K mb)):PE X (.BoolOp .And (a::b::es) pos) (tM M.K (fc ma mb)):=PE.con (HL ha hb) fun _ _ _ h=>FX h
theorem JX (ha:PE X a (tM M.K ma)) (hb:PE X (.BoolOp .Or (b::es) pos) (tM M.K mb)):PE X (.BoolOp .Or (a::b::es) pos) (tM M.K (mOr ma mb)):=PE.con (Jf ha hb) fun _ _ _ h=>IF h
theorem Gj (ha:PE X a (tM M.K ma)):PE X (.UnaryOp .Not a pos) (tM M.K (m1 wm ma)):=PE.con (GI ha) fun _ _ _ h=>Hn h
end
end G
end
section
namespace G
open PySem PySem.Spec L2
open PyProof.Rows hiding St
structure TOk (M:Mo) (T:Tb) (k:Nat):Prop where
 D : ∀ x mf,T.D.lookup x=some mf -> ∃ k' ps,k'<=k/\Fn M x k' ps mf
 C : ∀ x u,T.C.lookup x=some u -> ∃ g v,M.mg x=some g/\RelV v g /\ ∀ H μ,RU H μ u v
 B : ∀ x∈jJ,M.mg x=none
 L : ∀ x q,T.L.lookup x=some q -> ∃ k' ps,k'<=k/\Lam M q.1 k' ps q.2
 mkr:T.mkr=true -> ∃ c q P,M.mkr=some (c,q)/\Mkr M c P (q++"<lambda>")
noncomputable def GOk (M:Mo) (T:Tb) (k:Nat):Prop:=TOk M T k/\(T.mkr=true -> ∃ j,j+2<=k/\(∀ x F,T.H.lookup x=some F -> ∃ k' ps,k'<=j+1/\FnC M x k' ps F) /\ ∀ caps capv cds base,md M.mg base->TOk (M.to caps capv cds base) T.bare j)
noncomputable def IOk (M:Mo) (X:Cx) (tg it:Expr) (mi:MI):Prop := ∃ wi,PI X tg it wi /\
 (∀ i ms D σ H,tMS M.K (eB i mi ms) D σ H->tV wi (jk i) (tMS M.K ms) D σ H) /\
 (∀ mt mc σ H Q,tM M.K (cU mi mt mc) σ H Q->oO wi (tMT M.K mt) (tM M.K mc) σ H Q)
structure Snd (M:Mo) (T:Tb) (k n:Nat):Prop where
 e : ∀ N ns e m,cE T n N ns e=some m -> ∀ X,Sc M X k N ns->PE X e (tM M.K m)
 c : ∀ N ns g as m,cC T n N ns g as=some m->eg ns g=true->fS g=true -> ∀ a r,as=a::r -> ∀ X p1 pos,Sc M X k N ns->PE X (.Call (.Name g p1) as [] pos) (tM M.K m)
 v : ∀ N ns g as m,cV T n N ns g as=some m -> ∀ a r,as=a::r -> ∀ X p1 pos,Sc M X k N ns->PE X (.Call (.Name g p1) as [] pos) (tM M.K m)
 v0 : ∀ N ns g m,cV T n N ns g []≠some m
 o : ∀ N ns o m,cO T n N ns o=some m -> ∀ X,Sc M X k N ns->kE M X o m
 t : ∀ N ns e m,cT T n N ns e=some m -> ∀ X,Sc M X k N ns->PT X e (tMT M.K m)
 l : ∀ N ns b vs m pos,cL T n N ns b vs=some m -> ∀ X,Sc M X k N ns->PW X (.BoolOp (if b then .And else .Or) vs pos) (tMT M.K m)
 f : ∀ N ns vs m,cF T n N ns vs=some m -> ∀ X,Sc M X k N ns->PTs X vs (tMT M.K m)
 a : ∀ N ns es m,cA T n N ns es=some m -> ∀ X,Sc M X k N ns->PA X es (tMA M.K m)
 i : ∀ N ns tg it m,cI T n N ns it=some m -> ∀ X,Sc M X k N ns->IOk M X tg it m
 g : ∀ N ns e m,cG T n N ns e=some m -> ∀ X,Sc M X k N ns->PG X e (tG M.K m)
 gs : ∀ N ns es m,cGs T n N ns es=some m -> ∀ X,Sc M X k N ns->PGs X es (tGs M.K m)
 s : ∀ N ns st m,cS T n N ns st=some m -> ∀ X,Sc M X k N ns->PS X st (tMS M.K m)
 b : ∀ N ns sts m,cB T n N ns sts=some m -> ∀ X,Sc M X k N ns->PSs X sts (tMS M.K m)
theorem eS {α:Type}{x:α}{P:Prop} (h:(none:Option α)=some x):P:=by cases h
theorem Lj (M:Mo) (T:Tb) (k:Nat):Snd M T k 0:=
 ⟨fun _ _ _ _ h=>eS h,fun _ _ _ _ _ h=>eS h,fun _ _ _ _ _ h=>eS h,fun _ _ _ _ h=>eS h,fun _ _ _ _ h=>eS h,fun _ _ _ _ h=>eS h,fun _ _ _ _ _ _ h=>eS h,fun _ _ _ _ h=>eS h,fun _ _ _ _ h=>eS h,fun _ _ _ _ _ h=>eS h,fun _ _ _ _ h=>eS h,fun _ _ _ _ h=>eS h,fun _ _ _ _ h=>eS h,fun _ _ _ _ h=>eS h⟩
section
variable {M:Mo}{T:Tb}{k n:Nat}
theorem FK {N:List Str}{ns:NS}{X:Cx}{a b:Expr}{ma mb:ME}{op:Operator}{f:F2}{pos:Pos} (h:Gv op=some f) (S:Sc M X k N ns) (ha:PE X a (tM M.K ma)) (hb:PE X b (tM M.K mb)):PE X (.BinOp a op b pos) (tM M.K (m2 f ma mb)):=by
 cases op <;> simp only [Gv,dZ,reduceCtorEq] at h <;> subst h
 ·exact Iu S ha hb
 ·exact Ip ha hb
 ·exact Js S ha hb
 ·exact K0 ha hb
 ·exact JV ha hb
 ·exact JS ha hb
theorem HC {N:List Str}{ns:NS}{X:Cx}{a b:Expr}{ma mb:ME}{op:CmpOp}{f:F2}{pos:Pos} (h:vV op=some f) (S:Sc M X k N ns) (ha:PE X a (tM M.K ma)) (hb:PE X b (tM M.K mb)) (hs:ir b=true) :
  PE X (.Compare a [op] [b] pos) (tM M.K (m2 f ma mb))/\PT X (.Compare a [op] [b] pos) (tMT M.K (cOf (m2 f ma mb))):=by
 obtain⟨r,ho,ou⟩:=BY S h
 exact⟨PE.con (Dg ho ha hb (sX hs _)) fun _ _ _ h=>tw ou h,PT.con (DQ ho ha hb (sX hs _)) fun _ _ _ h=>xF (fun _ q=>tw ou q) h⟩
theorem A2 {N:List Str}{ns:NS}{X:Cx}{a b c:Expr}{ma mb mc:ME}{op op':CmpOp}{f g:F2}{pos:Pos} (h:vV op=some f) (h':vV op'=some g) (S:Sc M X k N ns) (ha:PE X a (tM M.K ma)) (hb:PE X b (tM M.K mb)) (hc:PE X c (tM M.K mc)) (hs:ir c=true) :
  PE X (.Compare a [op,op'] [b,c] pos) (tM M.K (mCh f g ma mb mc))/\PT X (.Compare a [op,op'] [b,c] pos) (tMT M.K (cOf (mCh f g ma mb mc))):=by
 obtain⟨r,ho,ou⟩:=BY S h
 obtain⟨r',ho',ou'⟩:=BY S h'
 have hm:lastMarks [op,op'] [b,c]=false:=sX hs _
 exact⟨PE.con (Bc ho ho' ha hb hc hm) fun _ _ _ h=>yh ou ou' h,PT.con (Bg ho ho' ha hb hc hm) fun _ _ _ h=>xF (fun _ q=>yh ou ou' q) h⟩
theorem HY {t:Str}{c:String} (h:Ck t=some c):bootBuiltins t=some (.type c)/\c∈jY/\t≠"__name__"/\(t == ("__debug__":Str))=false/\t∈jJ:=by
 unfold Ck at h
 repeat' split at h
 all_goals first
  | cases h
    done
  | (rename_i q
     cases h
     rw [eq_of_beq q]
     exact⟨by decide +kernel,by decide,by decide +kernel,by decide +kernel,by decide +kernel⟩)
theorem EF {N:List Str}{ns:NS}{X:Cx}{g:Str}{e:Expr}{es:List Expr}{mas:MA}{p1 pos:Pos}{mf:MF} (O:TOk M T k) (h:Gz g=some mf) (hg:eg ns g=true) (S:Sc M X k N ns) (ha:PA X (e::es) (tMA M.K mas)) (hs:(e::es).all notStar=true) :
  PE X (.Call (.Name g p1) (e::es) [] pos) (tM M.K (mFn mf mas)):=by
 rw [bW,aw] at hs
 have he:=cN hs.1 es X.env
 have hp:=xI pos X.env hs.2
 unfold Gz at h
 repeat' split at h
 all_goals first
  | (cases h;done)
  | (rename_i q
     cases h
     rw [eq_of_beq q] at hg ⊢
     first
      | exact A9 S hg (O.B _ (by decide +kernel)) ha he hp
      | exact DT S hg (O.B _ (by decide +kernel)) ha he hp
      | exact G3 S hg (O.B _ (by decide +kernel)) ha he hp
      | exact KI S hg (O.B _ (by decide +kernel)) ha he hp
      | exact Kb S hg (O.B _ (by decide +kernel)) ha he hp
      | exact JW S hg (O.B _ (by decide +kernel)) ha he hp
      | exact BB S hg (O.B _ (by decide +kernel)) ha he hp)
theorem DE {N:List Str}{ns:NS}{X:Cx}{name:Str}{a o:Expr}{mo m:ME}{mas:MA}{p1 pos:Pos} (h:A7 name mo mas=some m) (S:Sc M X k N ns) (ho:PE X o (tM M.K mo)) (ha:PA X [a] (tMA M.K mas)) (hb:baseOk o=true) (hl:(p1.endLine == pos.line)=true) (hs:notStar a=true) :
  PE X (.Call (.Attribute o name p1) [a] [] pos) (tM M.K m):=by
 unfold A7 at h
 repeat' split at h
 all_goals first
  | (cases h;done)
  | (rename_i q
     cases h
     rw [eq_of_beq q]
     first
      | exact BK S ho ha (nV hb _ _) (ud hs _ _) hl (cN hs _ _) rfl
      | exact DS S ho ha (nV hb _ _) (ud hs _ _) hl (cN hs _ _) rfl
      | exact Ek S ho ha hb hs hl
      | exact Ar S ho ha hb hs hl)
end
end G
end
section
namespace G
open PySem PySem.Spec L2
open PyProof.Rows hiding St
section
variable {M:Mo}{T:Tb}{k n:Nat}
theorem KF (O:TOk M T k) (R:Snd M T k n) : ∀ N ns g as m,cV T (n+1) N ns g as=some m -> ∀ a r,as=a::r -> ∀ X p1 pos,Sc M X k N ns->PE X (.Call (.Name g p1) as [] pos) (tM M.K m):=by
 intro N ns g as m h a r e X p1 pos S
 subst e
 simp only [cV,rc,sV] at h
 cases h
section
variable {N:List Str}{ns:NS}{X:Cx}{m:ME}
theorem DH {c:Const}{j}{pos:Pos} (h:KO c=some m):PE X (.Constant c j pos) (tM M.K m):=by
 cases c <;> first | (cases h;done) | skip
 all_goals cases h
 all_goals first | exact Jg | exact Lb | exact Kn | exact PE.con Hh fun _ _ _ q=>r_c (fun _ _=>by simp only [RU]) q
theorem F6 (R:Snd M T k n) {op:UnaryOp}{a:Expr}{pos:Pos} (h:eUn (rc n) T N ns a op=some m) (S:Sc M X k N ns):PE X (.UnaryOp op a pos) (tM M.K m):=by
 cases op <;> first | (cases h;done) | skip
 all_goals obtain⟨ma,e1,rfl⟩:=map_eq h
 all_goals first | exact J8 (R.e _ _ _ _ e1 X S) | exact Gj (R.e _ _ _ _ e1 X S)
theorem Hj (R:Snd M T k n) {op:BoolOp}{vs:List Expr}{p:Pos} (h:eBo (rc n) T N ns op p vs=some m) (S:Sc M X k N ns):PE X (.BoolOp op vs p) (tM M.K m):=by
 unfold eBo at h
 split at h
 ·cases h
 ·exact GA (R.e _ _ _ _ h X S)
 ·obtain⟨ma,e1,h⟩:=bind_eq h
  cases op
  ·obtain⟨mb,e2,rfl⟩:=map_eq h
   exact GM (R.e _ _ _ _ e1 X S) (R.e _ _ _ _ e2 X S)
  ·obtain⟨mb,e2,rfl⟩:=map_eq h
   exact JX (R.e _ _ _ _ e1 X S) (R.e _ _ _ _ e2 X S)
theorem BQ (R:Snd M T k n) {a:Expr}{ops:List CmpOp}{bs:List Expr}{pos:Pos} (h:eCm (rc n) T N ns a ops bs=some m) (S:Sc M X k N ns):PE X (.Compare a ops bs pos) (tM M.K m)/\PT X (.Compare a ops bs pos) (tMT M.K (cOf m)):=by
 unfold eCm at h
 split at h
 ·split at h
  ·rename_i hs
   obtain⟨ma,e1,h⟩:=bind_eq h
   obtain⟨mb,e2,h⟩:=bind_eq h
   obtain⟨f,e3,rfl⟩:=map_eq h
   exact HC e3 S (R.e _ _ _ _ e1 X S) (R.e _ _ _ _ e2 X S) hs
  ·cases h
 ·split at h
  ·rename_i hs
   rw [aw] at hs
   obtain⟨ma,e1,h⟩:=bind_eq h
   obtain⟨mb,e2,h⟩:=bind_eq h
   obtain⟨mc,e3,h⟩:=bind_eq h
   obtain⟨f,e4,h⟩:=bind_eq h
   obtain⟨g,e5,rfl⟩:=map_eq h
   exact A2 e4 e5 S (R.e _ _ _ _ e1 X S) (R.e _ _ _ _ e2 X S) (R.e _ _ _ _ e3 X S) hs.2
  ·cases h
 ·cases h
theorem Ea {s:Expr} (h:Di s=true) : ∃ j p3 p4,s = .UnaryOp .USub (.Constant (.int 1) j p3) p4:=by
 unfold Di at h
 split at h
 ·rename_i i j p3 p4
  rw [eq_of_beq h];exact⟨j,p3,p4,rfl⟩
 ·cases h
theorem Hy (R:Snd M T k n) {a b:Expr}{pos:Pos} (h:eSb (rc n) T N ns a b=some m) (S:Sc M X k N ns):PE X (.Subscript a b pos) (tM M.K m):=by
 unfold eSb at h
 split at h
 ·rename_i lo hi st p
  cases st with
  | none=>
    obtain⟨ma,e1,h⟩:=bind_eq h
    obtain⟨ml,e2,h⟩:=bind_eq h
    obtain⟨mh,e3,rfl⟩:=map_eq h
    exact Eo S (R.e _ _ _ _ e1 X S) (R.o _ _ _ _ e2 X S) (R.o _ _ _ _ e3 X S)
  | some s=>
    have h:(if lo.isNone&&hi.isNone&&Di s then ((rc n).e T N ns a).map (m1 lh) else none)=some m:=h
    split at h
    ·rename_i hs
     rw [aw,aw] at hs
     obtain⟨⟨h1,h2⟩,h3⟩:=hs
     cases lo with
     | some z=>cases h1
     | none=>
       cases hi with
       | some z=>cases h2
       | none=>
         obtain⟨j,p3,p4,rfl⟩:=Ea h3
         obtain⟨ma,e1,rfl⟩:=map_eq h
         exact KQ S (R.e _ _ _ _ e1 X S)
    ·cases h
 ·split at h
  ·rename_i hs
   obtain⟨ma,e1,h⟩:=bind_eq h
   obtain⟨mb,e2,rfl⟩:=map_eq h
   exact K9 S (R.e _ _ _ _ e1 X S) (R.e _ _ _ _ e2 X S) (JM hs)
  ·cases h
theorem Gc (R:Snd M T k n) {ks:List (Option Expr)}{vs:List Expr}{pos:Pos} (h:eDi (rc n) T N ns ks vs=some m) (S:Sc M X k N ns):PE X (.Dict ks vs pos) (tM M.K m):=by
 unfold eDi at h
 split at h
 ·cases h;exact GN
 ·obtain⟨ma,e1,h⟩:=bind_eq h
  obtain⟨mb,e2,rfl⟩:=map_eq h
  exact FY (R.e _ _ _ _ e1 X S) (R.e _ _ _ _ e2 X S)
 ·cases h
theorem FV (R:Snd M T k n) {elt:Expr}{scope:Scope}{gens:List Comprehension}{pos:Pos} (h:eLc (rc n) T N ns elt scope gens=some m) (S:Sc M X k N ns):PE X (.ListComp elt gens scope pos) (tM M.K m):=by
 unfold eLc at h
 split at h
 rotate_left
 ·cases h
 rename_i c
 obtain⟨tg,it,ifs,ia⟩:=c
 split at h
 rotate_left
 ·cases h
 rename_i h0
 have h0':ia=0:=h0
 subst h0'
 have h:eLt (rc n) T N ns elt it ifs scope tg=some m:=h
 unfold eLt at h
 split at h
 ·split at h
  ·rename_i hs
   rw [aw,aw] at hs
   obtain⟨mi,e1,h⟩:=bind_eq h
   obtain⟨mt,e2,h⟩:=bind_eq h
   obtain⟨mc,e3,rfl⟩:=map_eq h
   obtain⟨wi,h1,_,h3⟩:=R.i _ _ _ _ _ e1 X S
   exact Ca S (eq_of_beq hs.1.1) hs.1.2 h1 (fun X' S'=>R.f _ _ _ _ e2 X' S') (fun X' S'=>R.e _ _ _ _ e3 X' S') (h3 mt mc) (nk hs.2 _)
  ·cases h
 ·obtain⟨xs,e0,h⟩:=bind_eq h
  split at h
  ·rename_i hs
   rw [aw,aw] at hs
   obtain⟨mi,e1,h⟩:=bind_eq h
   obtain⟨mt,e2,h⟩:=bind_eq h
   obtain⟨mc,e3,rfl⟩:=map_eq h
   exact Eu S (eq_of_beq hs.1.1) hs.1.2 (vp e0) (R.e _ _ _ _ e1 X S) (fun X' S'=>R.f _ _ _ _ e2 X' S') (fun X' S'=>R.e _ _ _ _ e3 X' S') (nk hs.2 _)
  ·cases h
 ·cases h
theorem Ig (O:TOk M T k) (R:Snd M T k n) {g:Str}{rs:List Expr}{p1 q rp pos:Pos} (h:eRg (rc n) T N ns g rs=some m) (S:Sc M X k N ns) (hl:g="list"\/g="tuple") (hg:eg ns g=true) (hr:eg ns "range"=true) :
  PE X (.Call (.Name g p1) [.Call (.Name "range" q) rs [] rp] [] pos) (tM M.K m):=by
 unfold eRg at h
 split at h
 ·obtain⟨ma,e1,rfl⟩:=map_eq h
  have hst:=jh e1
  simp only [bW,jI,iZ] at hst
  rcases hl with rfl | rfl
  ·rw [if_pos (by decide +kernel)]
   exact BU S hg (O.B _ (by decide +kernel)) hr (O.B _ (by decide +kernel)) (R.a _ _ _ _ e1 X S) hst
  ·rw [if_neg (by decide +kernel)]
   exact E1 S hg (O.B _ (by decide +kernel)) hr (O.B _ (by decide +kernel)) (R.a _ _ _ _ e1 X S) hst
 ·obtain⟨ma,e1,rfl⟩:=map_eq h
  have hst:=jh e1
  simp only [bW,jI,iZ,aw] at hst
  rcases hl with rfl | rfl
  ·rw [if_pos (by decide +kernel)]
   exact Ct S hg (O.B _ (by decide +kernel)) hr (O.B _ (by decide +kernel)) (R.a _ _ _ _ e1 X S) hst.1 hst.2
  ·rw [if_neg (by decide +kernel)]
   exact EV S hg (O.B _ (by decide +kernel)) hr (O.B _ (by decide +kernel)) (R.a _ _ _ _ e1 X S) hst.1 hst.2
 ·cases h
theorem Gx (Gk:GOk M T k) (R:Snd M T k n) (RA : ∀ M T k,GOk M T k->Snd M T k n) {g:Str}{as:List Expr}{p1 pos:Pos} (h:eCf (rc n) T N ns g as=some m) (S:Sc M X k N ns) (hg:eg ns g=true) (hn:fS g=true) :
  PE X (.Call (.Name g p1) as [] pos) (tM M.K m):=by
 have O:=Gk.1
 unfold eCf at h
 split at h
 ·obtain⟨mf,e1,rfl⟩:=map_eq h
  obtain⟨k',ps,hk,F⟩:=O.D _ _ e1
  exact El S F hk hg (jZ hn).1
 ·unfold eC1 at h
  split at h
  ·split at h
   ·rename_i hl
    rw [aw,uB] at hl
    split at h
    ·rename_i hr
     rw [eq_of_beq hl.2] at hr ⊢
     exact Ig O R h S (hl.1.imp eq_of_beq eq_of_beq) hg hr
    ·cases h
   ·split at h
    ·rename_i hl
     rw [aw] at hl
     split at h
     ·rename_i hr
      rw [eq_of_beq hl.2] at hr ⊢
      rw [eq_of_beq hl.1] at hg ⊢
      unfold eSS at h
      split at h
      ·obtain⟨ma,e1,rfl⟩:=map_eq h
       have hst:=jh e1
       simp only [bW,jI,iZ] at hst
       exact Lk S hg (O.B _ (by decide +kernel)) hr (O.B _ (by decide +kernel)) (R.a _ _ _ _ e1 X S) hst
      ·cases h
     ·cases h
    ·exact R.c _ _ _ _ _ h hg hn _ _ rfl X _ _ S
  ·exact R.c _ _ _ _ _ h hg hn _ _ rfl X _ _ S
 ·unfold eC2 at h
  split at h
  ·unfold eIs at h
   split at h
   ·rename_i hl
    split at h
    ·rename_i ht
     obtain⟨c,e1,h⟩:=bind_eq h
     obtain⟨ma,e2,rfl⟩:=map_eq h
     obtain⟨c1,c2,c3,c4,c5⟩:=HY e1
     rw [aw] at ht
     rw [eq_of_beq hl] at hg ⊢
     exact JP S hg (O.B _ (by decide +kernel)) ht.1 (O.B _ c5) c1 c2 c3 c4 (R.e _ _ _ _ e2 X S) ht.2
    ·cases h
   ·exact R.c _ _ _ _ _ h hg hn _ _ rfl X _ _ S
  ·cases h
  ·exact R.c _ _ _ _ _ h hg hn _ _ rfl X _ _ S
 ·exact R.c _ _ _ _ _ h hg hn _ _ rfl X _ _ S
theorem Hd (R:Snd M T k n) {o:Expr}{name:Str}{p q:Pos}{as:List Expr} (h:eMe (rc n) T N ns o name p q as=some m) (S:Sc M X k N ns):PE X (.Call (.Attribute o name p) as [] q) (tM M.K m):=by
 unfold eMe at h
 split at h
 ·split at h
  ·rename_i hs
   rw [aw,aw] at hs
   obtain⟨mo,e1,rfl⟩:=map_eq h
   rw [eq_of_beq hs.2]
   exact G2 S (R.e _ _ _ _ e1 X S) hs.1.1 hs.1.2
  ·cases h
 ·split at h
  ·rename_i hs
   rw [aw,aw] at hs
   obtain⟨mo,e1,h⟩:=bind_eq h
   obtain⟨mas,e2,h⟩:=bind_eq h
   exact DE h S (R.e _ _ _ _ e1 X S) (R.a _ _ _ _ e2 X S) hs.1.1 hs.1.2 hs.2
  ·cases h
 ·cases h
end
theorem Jc (Gk:GOk M T k) (R:Snd M T k n) (RA : ∀ M T k,GOk M T k->Snd M T k n) : ∀ N ns e m,cE T (n+1) N ns e=some m -> ∀ X,Sc M X k N ns->PE X e (tM M.K m):=by
 have O:=Gk.1
 intro N ns e m h X S
 have h:sE (rc n) T N ns e=some m:=h
 cases e with
 | Name x p=>
   have h:(if fS x then (if vY ns x then (slot N x).map ab else if eg ns x then (T.C.lookup x).map mC else none) else none)=some m:=h
   split at h
   ·rename_i hn
    obtain⟨n1,n2⟩:=jZ hn
    split at h
    ·rename_i hv
     obtain⟨i,e1,rfl⟩:=map_eq h
     exact ID S i (slot_get e1) hv n1 n2
    ·split at h
     ·rename_i hg
      obtain⟨u,e1,rfl⟩:=map_eq h
      obtain⟨g,v,hm,r,hv⟩:=O.C _ _ e1
      exact FI S hg hm r hv n1
     ·cases h
   ·cases h
 | Constant c j p=>exact DH h
 | BinOp a op b p=>
   obtain⟨ma,e1,h⟩:=bind_eq (show ((rc n).e T N ns a).bind _=some m from h)
   obtain⟨mb,e2,h⟩:=bind_eq h
   obtain⟨f,e3,rfl⟩:=map_eq h
   exact FK e3 S (R.e _ _ _ _ e1 X S) (R.e _ _ _ _ e2 X S)
 | UnaryOp op a p=>exact F6 R h S
 | BoolOp op vs p=>exact Hj R h S
 | Compare a ops bs p=>exact (BQ R h S).1
 | Subscript a b p=>exact Hy R h S
 | Dict ks vs p=>exact Gc R h S
 | Tuple es j p=>
   obtain⟨ma,e1,rfl⟩:=map_eq (show ((rc n).a T N ns es).map bA=some m from h)
   exact Ks (R.a _ _ _ _ e1 X S)
 | List es p=>
   obtain⟨ma,e1,rfl⟩:=map_eq (show ((rc n).a T N ns es).map b4=some m from h)
   exact Il (R.a _ _ _ _ e1 X S)
 | ListComp elt gens scope p=>exact FV R h S
 | Call f as kws q=>
   have h:(if kws.isEmpty then eCa (rc n) T N ns as q f else none)=some m:=h
   cases kws with
   | cons w ws=>cases h
   | nil=>
     have h:eCa (rc n) T N ns as q f=some m:=h
     unfold eCa at h
     split at h
     ·split at h
      ·rename_i hs
       rw [aw] at hs
       exact Gx Gk R RA h S hs.1 hs.2
      ·cases as with
       | nil=>exact absurd h (R.v0 _ _ _ _)
       | cons a r=>exact R.v _ _ _ _ _ h _ _ rfl X _ _ S
     ·exact Hd R h S
     ·cases h
 | _=>cases h
theorem KG (O:TOk M T k) (R:Snd M T k n) : ∀ N ns g as m,cC T (n+1) N ns g as=some m->eg ns g=true->fS g=true -> ∀ a r,as=a::r -> ∀ X p1 pos,Sc M X k N ns->PE X (.Call (.Name g p1) as [] pos) (tM M.K m):=by
 intro N ns g as m h hg hn a r e X p1 pos S
 subst e
 simp only [cC,rc,sC] at h
 obtain⟨mas,e1,h⟩:=bind_eq h
 have hst:=jh e1
 split at h
 ·rename_i mf hb
  cases h
  exact EF O hb hg S (R.a _ _ _ _ e1 X S) hst
 ·obtain⟨mf,e2,rfl⟩:=map_eq h
  obtain⟨k',ps,hk,F⟩:=O.D _ _ e2
  rw [bW,aw] at hst
  exact Hx S F hk hg (R.a _ _ _ _ e1 X S) (jZ hn).1 (cN hst.1 _ _) (xI _ _ hst.2)
theorem KN (R:Snd M T k n) : ∀ N ns o m,cO T (n+1) N ns o=some m -> ∀ X,Sc M X k N ns->kE M X o m:=by
 intro N ns o m h X S
 simp only [cO,rc,sO] at h
 split at h
 ·cases h;exact .none
 ·obtain⟨me,e1,rfl⟩:=map_eq h
  exact .some (R.e _ _ _ _ e1 X S)
theorem KM (R:Snd M T k n) : ∀ N ns e m,cT T (n+1) N ns e=some m -> ∀ X,Sc M X k N ns->PT X e (tMT M.K m):=by
 intro N ns e m h X S
 simp only [cT,rc,sT] at h
 split at h
 ·obtain⟨ma,e1,rfl⟩:=map_eq h
  exact IA (R.t _ _ _ _ e1 X S)
 ·exact PW.pt (R.l _ _ true _ _ _ h X S)
 ·exact PW.pt (R.l _ _ false _ _ _ h X S)
 ·obtain⟨mc,e1,rfl⟩:=map_eq h
  exact (BQ R e1 S).2
 ·split at h
  ·rename_i hs
   obtain⟨ma,e1,rfl⟩:=map_eq h
   exact JC (R.e _ _ _ _ e1 X S) (BJ hs _)
  ·cases h
theorem Kr (R:Snd M T k n) : ∀ N ns b vs m pos,cL T (n+1) N ns b vs=some m -> ∀ X,Sc M X k N ns->PW X (.BoolOp (if b then .And else .Or) vs pos) (tMT M.K m):=by
 intro N ns b vs m pos h X S
 simp only [cL,rc,sL] at h
 split at h
 ·cases h
 ·cases b
  ·exact KC (R.t _ _ _ _ h X S)
  ·exact GF (R.t _ _ _ _ h X S)
 ·rename_i a r hr
  obtain⟨ma,e1,h⟩:=bind_eq h
  obtain⟨mr,e2,rfl⟩:=map_eq h
  cases r with
  | nil=>exact (hr rfl).elim
  | cons c r=>
    have h2:=R.l _ _ b _ _ pos e2 X S
    cases b
    ·exact LB (R.t _ _ _ _ e1 X S) h2
    ·exact Jb (R.t _ _ _ _ e1 X S) h2
theorem IG (R:Snd M T k n) : ∀ N ns vs m,cF T (n+1) N ns vs=some m -> ∀ X,Sc M X k N ns->PTs X vs (tMT M.K m):=by
 intro N ns vs m h X S
 simp only [cF,rc,sF] at h
 split at h
 ·cases h;exact HI
 ·exact Kc (R.t _ _ _ _ h X S)
 ·cases h
theorem Jr (R:Snd M T k n) : ∀ N ns es m,cA T (n+1) N ns es=some m -> ∀ X,Sc M X k N ns->PA X es (tMA M.K m):=by
 intro N ns es m h X S
 simp only [cA,rc,sA] at h
 split at h
 ·cases h;exact J5
 ·split at h
  ·rename_i hs
   obtain⟨ma,e1,h⟩:=bind_eq h
   obtain⟨mr,e2,rfl⟩:=map_eq h
   exact F7 (R.e _ _ _ _ e1 X S) (R.a _ _ _ _ e2 X S) (cN hs _ _)
  ·cases h
theorem AD {N:List Str}{ns:NS}{X:Cx}{tg e:Expr}{m:ME} (S:Sc M X k N ns) (h:PE X e (tM M.K m)):IOk M X tg e (cZ m):=
 ⟨_,DZ S h,fun _ _ _ _ _ q=>Lh q,fun _ _ _ _ _ q=>Lm q⟩
theorem J9 (O:TOk M T k) (R:Snd M T k n) : ∀ N ns tg it m,cI T (n+1) N ns it=some m -> ∀ X,Sc M X k N ns->IOk M X tg it m:=by
 intro N ns tg it m h X S
 simp only [cI,rc,sI] at h
 split at h
 ·split at h
  ·rename_i hr
   split at h
   ·rename_i hg
    rw [eq_of_beq hr] at hg ⊢
    split at h
    ·obtain⟨ma,e1,rfl⟩:=map_eq h
     have hst:=jh e1
     simp only [bW,jI,iZ] at hst
     exact⟨_,Ku S hg (O.B _ (by decide +kernel)) (R.a _ _ _ _ e1 X S) (cN hst _ _),fun _ _ _ _ _ q=>IP q,fun _ _ _ _ _ q=>J3 q⟩
    ·obtain⟨ma,e1,rfl⟩:=map_eq h
     have hst:=jh e1
     simp only [bW,jI,iZ,aw] at hst
     exact⟨_,IM S hg (O.B _ (by decide +kernel)) (R.a _ _ _ _ e1 X S) (by rw [cN hst.1,cN hst.2];rfl) (by rw [cN hst.2];rfl),fun _ _ _ _ _ q=>Kz q,fun _ _ _ _ _ q=>K6 q⟩
    ·cases h
   ·cases h
  ·obtain⟨ma,e1,rfl⟩:=map_eq h
   exact AD S (R.e _ _ _ _ e1 X S)
 ·obtain⟨ma,e1,rfl⟩:=map_eq h
  exact AD S (R.e _ _ _ _ e1 X S)
theorem Ii (R:Snd M T k n) : ∀ N ns e m,cG T (n+1) N ns e=some m -> ∀ X,Sc M X k N ns->PG X e (tG M.K m):=by
 intro N ns e m h X S
 simp only [cG,rc,sG] at h
 split at h
 ·split at h
  ·rename_i hs
   obtain⟨i,e1,rfl⟩:=map_eq h
   exact PG.con (yE (by rw [S.hN];exact S.nd) (by rw [S.hN];exact slot_get e1) (S.lo hs).1 (S.lo hs).2) fun _ _ _ _ q=>Lq q
  ·cases h
 ·split at h
  ·rename_i hs
   obtain⟨ma,e1,h⟩:=bind_eq h
   obtain⟨mb,e2,rfl⟩:=map_eq h
   exact PG.con (B4 (R.e _ _ _ _ e1 X S) (R.e _ _ _ _ e2 X S) (yA (by have:=S.room.units;omega)) (BE hs _)) fun _ _ _ _ q=>Ju q
  ·cases h
 ·obtain⟨gs,e1,rfl⟩:=map_eq h
  obtain⟨h1,h2⟩:=yx X.env _ (vR e1)
  refine PG.con (F8 S.calm (R.gs _ _ _ _ e1 X S) h1 h2) fun _ _ _ _ q => ?_
  rw [S.hK]
  exact K5 q
 ·cases h
theorem Gq (R:Snd M T k n) : ∀ N ns es m,cGs T (n+1) N ns es=some m -> ∀ X,Sc M X k N ns->PGs X es (tGs M.K m):=by
 intro N ns es m h X S
 simp only [cGs,rc,sGs] at h
 split at h
 ·cases h;exact PGs.con E2 fun _ _ _ _ q=>Hz q
 ·split at h
  ·rename_i hs
   obtain⟨g,e1,h⟩:=bind_eq h
   obtain⟨gs,e2,rfl⟩:=map_eq h
   exact PGs.con (Cq (R.g _ _ _ _ e1 X S) (R.gs _ _ _ _ e2 X S) (by rw [uV hs];rfl)) fun _ _ _ _ q=>CP q
  ·cases h
theorem G8 (O:TOk M T k) (R:Snd M T k n) {N:List Str}{ns:NS}{it:Expr}{mi:MI}{X:Cx}{ts:List Expr}{kt:Nat}{pt:Pos} (h:eIt (rc n) T N ns it=some mi) (S:Sc M X k N ns) :
  ∃ wi,PI X (.Tuple ts kt pt) it wi /\ ∀ g mb D σ H,tMS M.K (pP g mi mb) D σ H->tV wi (tG M.K g) (tMS M.K mb) D σ H:=by
 unfold eIt at h
 split at h
 ·split at h
  ·rename_i hr
   split at h
   ·rename_i hg
    rw [eq_of_beq hr] at hg ⊢
    obtain⟨ma,e1,rfl⟩:=map_eq h
    have hst:=jh e1
    simp only [bW,jI,iZ] at hst
    exact⟨_,Do S hg (O.B _ (by decide +kernel)) (R.a _ _ _ _ e1 X S) (cN hst _ _),fun _ _ _ _ _ q=>Jk q⟩
   ·cases h
  ·obtain⟨ma,e1,rfl⟩:=map_eq h
   exact⟨_,DZ S (R.e _ _ _ _ e1 X S),fun _ _ _ _ _ q=>Fm q⟩
 ·obtain⟨ma,e1,rfl⟩:=map_eq h
  exact⟨_,DZ S (R.e _ _ _ _ e1 X S),fun _ _ _ _ _ q=>Fm q⟩
theorem CU {N:List Str}{ns:NS}{X:Cx}{m:MS} (R:Snd M T k n) {y:Str}{elt it tg:Expr}{ifs:List Expr}{scope:Scope}{p1:Pos}{p2 p3:Pos} (h:FU (rc n) T N ns y elt it ifs scope tg=some m) (S:Sc M X k N ns) :
  PS X (.Assign [.Name y p1] (.ListComp elt [⟨tg,it,ifs,0⟩] scope p2) p3) (tMS M.K m):=by
 unfold FU at h
 split at h
 ·split at h
  ·rename_i hs
   rw [aw,aw,aw] at hs
   obtain⟨i,e0,h⟩:=bind_eq h
   obtain⟨mi,e1,h⟩:=bind_eq h
   obtain⟨mt,e2,h⟩:=bind_eq h
   obtain⟨mc,e3,rfl⟩:=map_eq h
   obtain⟨wi,h1,_,h3⟩:=R.i _ _ _ _ _ e1 X S
   exact FT S i (slot_get e0) hs.1 (eq_of_beq hs.2.1.1) hs.2.1.2 h1 (fun X' S'=>R.f _ _ _ _ e2 X' S') (fun X' S'=>R.e _ _ _ _ e3 X' S') (h3 mt mc) (nk hs.2.2 _)
  ·cases h
 ·cases h
theorem EW {N:List Str}{ns:NS}{X:Cx}{m:MS} (R:Snd M T k n) {x:Str}{e:Expr}{p1:Pos}{p3:Pos} (h:HS (rc n) T N ns x e=some m) (S:Sc M X k N ns):PS X (.Assign [.Name x p1] e p3) (tMS M.K m):=by
 unfold HS at h
 split at h
 ·unfold Ir at h
  split at h
  ·rename_i c
   obtain⟨tg,it,ifs,ia⟩:=c
   split at h
   ·rename_i h0
    have h0':ia=0:=h0
    subst h0'
    exact CU R h S
   ·cases h
  ·cases h
 ·split at h
  ·rename_i hs
   rw [aw] at hs
   obtain⟨i,e1,h⟩:=bind_eq h
   obtain⟨me,e2,rfl⟩:=map_eq h
   exact FA S i (slot_get e1) hs.1 (R.e _ _ _ _ e2 X S) (nz hs.2 _ _ _)
  ·cases h
theorem DA {N:List Str}{ns:NS}{X:Cx}{m:MS} (R:Snd M T k n) {t e:Expr}{p3:Pos} (h:GG (rc n) T N ns e t=some m) (S:Sc M X k N ns):PS X (.Assign [t] e p3) (tMS M.K m):=by
 unfold GG at h
 split at h
 ·exact EW R h S
 ·split at h
  ·rename_i hs
   rw [aw] at hs
   obtain⟨ma,e1,h⟩:=bind_eq h
   obtain⟨mb,e2,h⟩:=bind_eq h
   obtain⟨me,e3,rfl⟩:=map_eq h
   exact Dq S (R.e _ _ _ _ e1 X S) (R.e _ _ _ _ e2 X S) (R.e _ _ _ _ e3 X S) (yY hs.1 _ _ _) w9 rfl (BE hs.2 _)
  ·cases h
 ·split at h
  ·rename_i hs
   rw [aw] at hs
   obtain⟨g,e1,h⟩:=bind_eq h
   obtain⟨me,e2,rfl⟩:=map_eq h
   exact PS.con (Bv (R.e _ _ _ _ e2 X S) (R.g _ _ _ _ e1 X S) (yY hs.1 _ _ _) (vF hs.2) rfl) fun _ _ _ q=>J1 q
  ·cases h
 ·cases h
theorem Gr {N:List Str}{ns:NS}{X:Cx}{m:MS} (R:Snd M T k n) {x:Str}{e:Expr}{op:Operator}{p1:Pos}{p3:Pos} (h:sAu (rc n) T N ns x e op=some m) (S:Sc M X k N ns):PS X (.AugAssign (.Name x p1) op e p3) (tMS M.K m):=by
 unfold sAu at h
 split at h
 ·cases h
 ·cases h
theorem Hv {N:List Str}{ns:NS}{X:Cx}{m:MS} (O:TOk M T k) (R:Snd M T k n) {t it:Expr}{body:List Stmt}{p3:Pos} (h:sFo (rc n) T N ns it body t=some m) (S:Sc M X k N ns):PS X (.For t it body [] p3) (tMS M.K m):=by
 unfold sFo at h
 split at h
 ·split at h
  ·rename_i hs
   rw [aw] at hs
   obtain⟨i,e1,h⟩:=bind_eq h
   obtain⟨mi,e2,h⟩:=bind_eq h
   obtain⟨mb,e3,rfl⟩:=map_eq h
   obtain⟨wi,h1,h2,_⟩:=R.i _ _ _ _ _ e2 X S
   exact Ka S i (slot_get e1) hs.1 h1 (R.b _ _ _ _ e3 X S) (h2 i mb) (nk hs.2 _)
  ·cases h
 ·rename_i ts kt pt
  split at h
  ·rename_i hs
   obtain⟨g,e1,h⟩:=bind_eq h
   obtain⟨mi,e2,h⟩:=bind_eq h
   obtain⟨mb,e3,rfl⟩:=map_eq h
   obtain⟨wi,h1,h2⟩:=G8 O R (ts:=ts) (kt:=kt) (pt:=pt) e2 S
   exact PS.con (A3 S.own S.calm h1 (R.g _ _ _ _ e1 X S) (R.b _ _ _ _ e3 X S) (nk hs _)) fun _ _ _ q=>h2 _ _ _ _ _ q
  ·cases h
 ·cases h
theorem Im (O:TOk M T k) (R:Snd M T k n) : ∀ N ns st m,cS T (n+1) N ns st=some m -> ∀ X,Sc M X k N ns->PS X st (tMS M.K m):=by
 intro N ns st m h X S
 simp only [cS,rc,sS] at h
 split at h
 ·unfold sAs at h
  split at h
  ·exact DA R h S
  ·cases h
 ·unfold Jt at h
  split at h
  ·exact Gr R h S
  ·cases h
 ·split at h
  ·rename_i hs
   obtain⟨me,e2,rfl⟩:=map_eq h
   exact G1 (R.e _ _ _ _ e2 X S) (nz hs _ _ _)
  ·cases h
 ·unfold sRt at h
  split at h
  ·obtain⟨me,e2,rfl⟩:=map_eq h
   exact Iz (R.e _ _ _ _ e2 X S)
  ·cases h;exact He
 ·obtain⟨mc,e1,h⟩:=bind_eq h
  obtain⟨ma,e2,h⟩:=bind_eq h
  obtain⟨mb,e3,rfl⟩:=map_eq h
  exact Ll (R.t _ _ _ _ e1 X S) (R.b _ _ _ _ e2 X S) (R.b _ _ _ _ e3 X S)
 ·unfold Iw at h
  split at h
  ·exact Hv O R h S
  ·cases h
 ·unfold sWh at h
  split at h
  ·obtain⟨mc,e1,h⟩:=bind_eq h
   obtain⟨mb,e2,rfl⟩:=map_eq h
   exact E5 S (R.t _ _ _ _ e1 X S) (R.b _ _ _ _ e2 X S)
  ·cases h
 ·cases h;exact G9
 ·cases h;exact Ki
 ·cases h;exact La
 ·cases h;exact K3
 ·cases h
theorem Kx (R:Snd M T k n) : ∀ N ns sts m,cB T (n+1) N ns sts=some m -> ∀ X,Sc M X k N ns->PSs X sts (tMS M.K m):=by
 intro N ns sts m h X S
 simp only [cB,rc,sB] at h
 split at h
 ·cases h;exact Jx
 ·exact K1 (R.s _ _ _ _ h X S)
 ·obtain⟨ma,e1,h⟩:=bind_eq h
  obtain⟨mr,e2,rfl⟩:=map_eq h
  exact JK (R.s _ _ _ _ e1 X S) (R.b _ _ _ _ e2 X S)
theorem snd : ∀ n M T k,GOk M T k->Snd M T k n
 | 0,M,T,k,_=>Lj M T k
 | n+1,M,T,k,Gk=>by
   have RA:=snd n
   have R:=RA M T k Gk
   exact⟨Jc Gk R RA,KG Gk.1 R,KF Gk.1 R,fun N ns g m h=>(by cases (show (none:Option ME)=some m from h)),KN R,KM R,Kr R,IG R,Jr R,J9 Gk.1 R,Ii R,Gq R,Im Gk.1 R,Kx R⟩
theorem GOk.of (O:TOk M T k) (h:T.mkr=false):GOk M T k:=⟨O,fun z=>by rw [h] at z;cases z⟩
theorem BP {x qual:Str}{st:Stmt}{f:Addr}{fd:FuncData}{N ps:List Str}{ms:MS}{fu:Nat} (O:TOk M T k) (h0:M.mkr=none) (h1:T.mkr=false) (F:Fun M.K x qual st f fd) (S:bM N ps (aF st)) (hm:M.mg x=some (.ref f)) (hb:Binds M.K fd ps [])
  (h:cB T fu N (aF st).names (bt st)=some ms):Fn M x (k+1) ps (run ps.length N.length ms):=
 ⟨f,fd,hm,F.2,hb,AW h0 F S fun X S'=>(snd fu M T k (.of O h1)).b _ _ _ _ h X S'⟩
end
end G
end
section
namespace G
open PySem PySem.Spec L2
open PyProof.Rows hiding St
structure Def (K:ar) (x:Str) (st:Stmt):Prop where
 ex : ∃ f fd,jb K mainGlobals x=some (some (.ref f))/\Fun K x x st f fd
theorem dv {K:ar}{x:Str}{st:Stmt}{f:Addr}{od an:Option Addr}{sl:Array (Option Value)}{oc kV doc pm cd ct:Value} (a:jb K mainGlobals x=some (some (.ref f)))
  (l:K.lookup f=some ⟨oc,od,.func (dA x x (gS st) (bt st) (aF st) .none kV doc pm an cd ct),sl⟩) (c:jC K cd x=true) (k:di K (.ref f)=true):Def K x st:=
 ⟨f,_,a,Ht l c k⟩
section
variable {M:Mo}{T:Tb}{k:Nat}{h:Heap}{x:Str}{st:Stmt}{N ps:List Str}{ms:MS}{fu:Nat}
theorem Def.fn (O:TOk M T k) (h0:M.mkr=none) (h1:T.mkr=false) (X:M.K.K.In h) (Gn:h.Ns mainGlobals M.mg) (D:Def M.K x st) (S:bM N ps (aF st))
  (hb : ∀ (kV doc pm:Value) (an:Option Addr) (cdv ct:Value) (us:List Value),us.length=ps.length->bindArgs (dA x x (gS st) (bt st) (aF st) .none kV doc pm an cdv ct) ⟨us,[]⟩=pure (ps.zip us))
  (hc:cB T fu N (aF st).names (bt st)=some ms):Fn M x (k+1) ps (run ps.length N.length ms):=by
 obtain⟨f,fd,a,F⟩:=D.ex
 exact BP O h0 h1 F S (wK X Gn a) (F.binds hb) hc
theorem TOk.mono {j:Nat} (O:TOk M T k) (hj:k<=j):TOk M T j where
 D:=fun y g hy=>let ⟨k',ps',hk,F'⟩:=O.D y g hy;⟨k',ps',be hk hj,F'⟩
 C:=O.C
 B:=O.B
 L:=fun y q hy=>let ⟨k',ps',hk,F'⟩:=O.L y q hy;⟨k',ps',be hk hj,F'⟩
 mkr:=O.mkr
theorem TOk.cons {j:Nat}{mf:MF} (O:TOk M T k) (F:Fn M x j ps mf) (hj:k<=j):TOk M ⟨(x,mf)::T.D,T.C,T.L,T.H,T.mkr⟩ j where
 D:=fun y g hy=>by
  rw [aQ] at hy
  cases e:y == x with
  | true=>rw [e] at hy;cases hy;rw [eq_of_beq e];exact⟨j,ps,aq _,F⟩
  | false=>
    rw [e] at hy
    obtain⟨k',ps',hk,F'⟩:=O.D y g hy
    exact⟨k',ps',be hk hj,F'⟩
 C:=O.C
 B:=O.B
 L:=(O.mono hj).L
 mkr:=O.mkr
theorem TOk.setH {Hs:List (Str×(Addr->MF->MF))} (O:TOk M T k):TOk M ⟨T.D,T.C,T.L,Hs,T.mkr⟩ k:=⟨O.D,O.C,O.B,O.L,O.mkr⟩
theorem TOk.nil (X:M.K.K.In h) (Gn:h.Ns mainGlobals M.mg) (B : ∀ x∈jJ,jb M.K mainGlobals x=some none):TOk M ⟨[],[],[],[],false⟩ 0 where
 D:=fun y g hy=>by cases hy
 C:=fun y g hy=>by cases hy
 B:=fun y hy=>PySem.W.mg_none_of X Gn (B y hy)
 L:=fun y g hy=>by cases hy
 mkr:=fun h=>by cases h
theorem Def.fnC {y:Str}{msC:Addr->MF->MS} (O : ∀ caps capv cds base,md M.mg base->TOk (M.to caps capv cds base) T k) (h1:T.mkr=false) (hL:T.L = []) (X:M.K.K.In h) (Gn:h.Ns mainGlobals M.mg) (D:Def M.K x st) (S:bM N ps (aF st))
  (hb : ∀ (kV doc pm:Value) (an:Option Addr) (cdv ct:Value) (us:List Value),us.length=ps.length->bindArgs (dA x x (gS st) (bt st) (aF st) .none kV doc pm an cdv ct) ⟨us,[]⟩=pure (ps.zip us))
  (hc : ∀ g φ,cB ⟨T.D,T.C,[(y,g,φ)],T.H,T.mkr⟩ fu N (aF st).names (bt st)=some (msC g φ)):FnC M x k ps fun g φ=>run ps.length N.length (msC g φ):=by
 obtain⟨f,fd,a,F⟩:=D.ex
 refine⟨f,fd,wK X Gn a,F.2,F.binds hb,fun caps capv cds base g j lps φ hbb hkj lam => ?_⟩
 have O':TOk (M.to caps capv cds base) ⟨T.D,T.C,[(y,g,φ)],T.H,T.mkr⟩ j:=by
  have O1:=(O caps capv cds base hbb).mono hkj
  refine⟨O1.D,O1.C,O1.B,fun z q hz => ?_,fun hm=>by rw [h1] at hm;cases hm⟩
  rw [aQ] at hz
  cases e:z == y with
  | true=>rw [e] at hz;cases hz;exact⟨j,lps,aq _,lam⟩
  | false=>rw [e] at hz;cases hz
 exact AW (M:=M.to caps capv cds base) rfl F S fun X' S'=>(snd fu _ _ _ (.of O' h1)).b _ _ _ _ (hc g φ) X' S'
end
structure LD (K:ar) (x:Str) (st:Stmt) (c P:Addr):Prop where
 ex : ∃ (f:Addr) (oc:Value) (od:Option Addr) (kV doc pm:Value) (an:Option Addr) (ct:Value) (sl:Array (Option Value)),jb K mainGlobals x=some (some (.ref f)) /\
  K.lookup f=some ⟨oc,od,.func (dA x x (gS st) (bt st) (aF st) .none kV doc pm an (.ref c) ct),sl⟩/\jC K (.ref c) x=true/\di K (.ref f)=true
 cd : ∃ (vs:Array Value) (od:Option Addr) (sl:Array (Option Value)) (file:Str) (tf:Tok) (flags:Int) (tg:Tok) (inF:Bool) (text:Int) (tt:Tok),K.lookup c=some ⟨.type "code",od,.fields vs,sl⟩/\vs[11]? = some (.ref P)/\vs.getD 11 .none = .ref P/\vs.getD 18 .none = .str file tf /\
  vs.getD 7 .none = .int flags tg/\vs.getD 9 .none = .bool inF/\vs.getD 10 .none = .int text tt/\c≠P
section
variable {M:Mo}{T:Tb}{k:Nat}{h:Heap}{x:Str}{st:Stmt}{N ps:List Str}{ms:MS}{fu:Nat}{c P:Addr}
end
section
variable {M:Mo}
theorem y3 {Hs:List (Str×(Addr->MF->MF))}{j k:Nat} (h : ∀ y F,Hs.lookup y=some F -> ∃ k' ps,k'<=j/\FnC M y k' ps F) (hj:j<=k) : ∀ y F,Hs.lookup y=some F -> ∃ k' ps,k'<=k/\FnC M y k' ps F:=fun y F hy=>
 let ⟨k',ps,a,b⟩:=h y F hy;⟨k',ps,be a hj,b⟩
theorem Eb {Hs:List (Str×(Addr->MF->MF))}{i j k:Nat}{x:Str}{F0:Addr->MF->MF}{ps:List Str} (h : ∀ y F,Hs.lookup y=some F -> ∃ k' ps,k'<=j/\FnC M y k' ps F) (F1:FnC M x i ps F0) (hi:i<=k) (hj:j<=k) : ∀ y F,((x,F0)::Hs).lookup y=some F -> ∃ k' ps,k'<=k/\FnC M y k' ps F:=fun y F hy=>by
 rw [aQ] at hy
 cases e:y == x with
 | true=>rw [e] at hy;cases hy;rw [eq_of_beq e];exact⟨i,ps,hi,F1⟩
 | false=>rw [e] at hy;exact y3 h hj y F hy
end
theorem Gm {l:lU}{w:World}{K:ar}{h:Heap}{mg:Str->Option Value}{fa:Addr}{st:Stmt}{N:List Str}{ms:MS}{fu k:Nat}{T:Tb} (X:K.In h) (Gn:h.Ns mainGlobals mg) (hfa:mg "law"=some (.ref fa))
  (D:Def K "law" st) (S:bM N ["script"] (aF st))
  (hb : ∀ (kV doc pm:Value) (an:Option Addr) (cdv ct:Value) (us:List Value),us.length = ["script"].length->bindArgs (dA "law" "law" (gS st) (bt st) (aF st) .none kV doc pm an cdv ct) ⟨us,[]⟩=pure ((["script"]:List Str).zip us))
  {tabs:List (Addr×Str)} (h1:T.mkr=false) (hO : ∀ base:Heap,md mg base->TOk ⟨l.prog,w,⟨K,[],[],[],tabs⟩,mg,base,none⟩ T k) (hc:cB T fu N (aF st).names (bt st)=some ms) :
  ∃ fd:FuncData,(∀ (s:Shared) (v:Value),BindsTo s fd ⟨[v],[]⟩ [("script",v)]) /\ ∀ base:Heap,K.In base->base.Ns mainGlobals mg->md mg base->nQ l.prog w K mg base CX0 (k+1) fa fd ["script"] (spM ⟨K,[],[],[],tabs⟩ (run 1 N.length ms)):=by
 obtain⟨f,fd,a,F⟩:=D.ex
 have e:=hfa.symm.trans (wK X Gn a)
 cases e
 refine⟨fd,fun s v => ?_,fun base _ _ hbb=>AW (M:=⟨l.prog,w,⟨K,[],[],[],tabs⟩,mg,base,none⟩) rfl F S fun X' S'=>(snd fu _ _ _ (.of (hO base hbb) h1)).b _ _ _ _ hc X' S'⟩
 obtain⟨oc,od,kV,doc,pm,an,cdv,ct,osl,rfl,lk,hcd⟩:=F.ex
 exact .of_eq (hb kV doc pm an cdv ct [v] rfl)
theorem J2 {K:ar}{tabs:List (Addr×Str)}{H:Hp}{a:Addr}{ns:List Int}{m:MF} (hT : ∀ q∈tabs,xE H q.1 q.2) (hS:SqL K H a (ns.map V.int)) (hm : ∀ S:Sto,S.length=1->getL S 0=some (ns.map U.int) -> ∃ S',m [.ref 0] S=some (.bl true,S')) :
  spM ⟨K,[],[],[],tabs⟩ m [.ref a] H (fun v _=>v = .bl true) fun _ _ _=>False:=by
 have key : ∃ c:Cell,mx ⟨K,[],[],[],tabs⟩ H [a] a c/\getL [c] 0=some (ns.map U.int):=by
  rcases hS with (h | ⟨o,h⟩) | h
  ·exact⟨.lst (ns.map U.int),⟨_,h,RUs.ints ns⟩,rfl⟩
  ·exact⟨.frz (ns.map U.int),⟨_,.inl ⟨o,h⟩,RUs.ints ns⟩,rfl⟩
  ·exact⟨.frz (ns.map U.int),⟨_,.inr (.inr h),RUs.ints ns⟩,rfl⟩
 obtain⟨c,hc,hg⟩:=key
 obtain⟨S',e⟩:=hm [c] rfl hg
 refine⟨[a],[c],[.ref 0],.bl true,S',⟨rfl,fun n m us ws q1 q2 _ _ _ => ?_,fun n c' b q1 q2 => ?_,⟨.nil,fun q hq=>(nomatch hq),hT⟩⟩,.cons (ot rfl) .nil,e,fun μ' v H' _ _ _ r=>iz r⟩
 ·have h1:=(ag.mp q1).1
  have h2:=(ag.mp q2).1
  simp at h1 h2;omega
 ·have h1:=(ag.mp q1).1
  simp at h1;subst h1
  cases q1;cases q2
  exact hc
end G
end
section
namespace G
open PySem PySem.Spec L2
open PySem.W (CodeHd tabObj tabIn)
open PyProof.Rows hiding St
noncomputable def vN (K:ar) (tabs:List (Addr×Str)) (a:Addr) (o:Obj) (xs:List V):Hp:=fun b=>
 if b∈tabs.map (·.1) then some (.tbl #[]) else if b=a/\K.lookup a=none then some (.frz o (.lst xs)) else none
section
variable {P:Program}{w:World}{K:ar}{mg mb:Str->Option Value}{k:Nat}{fa a:Addr}{fd:FuncData}{x:Str}{sp:Sp}{s:Shared}{vs:List Value}{ns:List Int}{tabs:List (Addr×Str)}
theorem EH (kx:K.In s.heap) (hns:s.heap.Ns mainGlobals mg) (hb:s.heap.Ns builtinsNs mb) (hbb : ∀ x:Str,x≠"__name__"->mb x=bootBuiltins x) (hlim:s.heap.NoLimit) (hbm:md mg s.heap) (hg:s.gens = #[])
  (ha:s.heap.get? a=some { cls := .type "list",data := .seq vs.toArray }) (hi:IntsAre vs ns) (hl:ns.length<=sizeLine) (hr:jM k callerA)
  (hT : ∀ r∈tabs,K.lookup r.1=none /\ ∃ c,s.heap.TableAt c r.1 #[])
  (F : ∀ base:Heap,K.In base->base.Ns mainGlobals mg->md mg base->nQ P w K mg base CX0 k fa fd [x] sp) (hbind : ∀ (s:Shared) (u:Value),BindsTo s fd ⟨[u],[]⟩ [(x,u)])
  (hsp : ∀ H:Hp,(∀ r∈tabs,xE H r.1 r.2)->SqL K H a (ns.map V.int)->sp [.ref a] H (fun v _=>v = .bl true) fun _ _ _=>False) :
  oJ (model P w) callerA (.call (.ref fa) ⟨[.ref a],[]⟩) (fun r s'=>r = .ok (.ret (.bool true))/\OldK s.heap s'.heap/\s'.os=s.os/\AllBare s'.gens) s:=by
 have rv:=lE hi
 have lenV:=hi.length
 let o:Obj:={ cls := .type "list",data := .seq vs.toArray }
 let H:=vN K tabs a o (ns.map V.int)
 have hH:H=vN K tabs a o (ns.map V.int):=rfl
 have tab : ∀ b,b∈tabs.map (·.1)->H b=some (.tbl #[])/\K.lookup b=none /\ ∃ c,s.heap.TableAt c b #[]:=fun b hb=>by
  obtain⟨r,hr,e⟩:=bI.mp hb
  subst e
  exact⟨if_pos hb,hT r hr⟩
 have anot:a∉tabs.map (·.1):=fun z=>by
  obtain⟨_,_,c,ht⟩:=tab a z
  have e:=ht.2
  rw [ha] at e
  cases e
 have Hof : ∀ b u,H b=some u->(b∈tabs.map (·.1)/\u = .tbl #[])\/(b=a/\K.lookup a=none/\u = .frz o (.lst (ns.map V.int))):=fun b u e=>by
  rw [hH] at e
  unfold vN at e
  split at e
  ·rename_i z;cases e;exact .inl ⟨z,rfl⟩
  ·split at e
   ·rename_i z;cases e;exact .inr ⟨z.1,z.2,rfl⟩
   ·cases e
 have nodic : ∀ {b:Addr}{o:Obj}{es:Array DictEntry}{ep:Nat},s.heap.get? b=some o->o.data = .dict es ep->H b=none:=fun {b o' es ep} e d=>by
  cases q:H b with
  | none=>rfl
  | some u=>
    rcases Hof b u q with⟨z,_⟩ | ⟨z,_⟩
    ·obtain⟨_,_,c,ht⟩:=tab b z
     have e2:=ht.2
     rw [e] at e2;cases e2;cases d
    ·subst z
     rw [ha] at e;cases e;cases d
 have nsK : ∀ {b:Addr}{m:Str->Option Value},s.heap.Ns b m->(tm s.heap H).Ns b m:=fun {b m} ⟨o,es,ep,e,d,r⟩=>⟨o,es,ep,qB e (nodic e d),d,r⟩
 have hKb:K.In (tm s.heap H):=fun b o' e=>qB (kx b o' e) (by
  cases q:H b with
  | none=>rfl
  | some u=>
    rcases Hof b u q with⟨z,_⟩ | ⟨z,z2,_⟩
    ·rw [(tab b z).2.1] at e;cases e
    ·rw [z,z2] at e;cases e)
 have hok:HOk P w H s.heap:=fun b u e=>by
  rcases Hof b u e with⟨z,rfl⟩ | ⟨rfl,z2,rfl⟩
  ·obtain⟨_,_,c,ht⟩:=tab b z
   exact ht.2
  ·exact⟨ha,by rw [ay];exact hl,vs,_,rv,ha⟩
 have hS:SqL K H a (ns.map V.int):=by
  cases hk:K.lookup a with
  | some o'=>
    have e:=kx a o' hk
    rw [ha] at e
    cases e
    exact .inr ⟨_,vs.toArray,_,hk,rfl,rfl,rfl,by rw [az,lenV];exact hl,by simpa using rv⟩
  | none=>exact .inl (.inr ⟨o,by show vN K tabs a o (ns.map V.int) a=_;unfold vN;rw [if_neg anot,if_pos ⟨rfl,hk⟩]⟩)
 have hM:Mod K mg (tm s.heap H):=⟨hKb,nsK hns,⟨mb,nsK hb,hbb⟩,let ⟨mc,h1,h2⟩:=hlim;⟨mc,nsK h1,h2⟩⟩
 have e0:EK P w K mg (tm s.heap H) callerA [] s H:=⟨rfl,hM,fun b o e=>Da e,nc (z6 _ _),trivial,fun b hb=>absurd (show b∈([]:List Addr) from hb) (by simp),hok,.of_eq hg⟩
 have hBb:md mg (tm s.heap H):=by
  obtain⟨bm,ob,e1,e2,e3,e4,e5,e6⟩:=hbm
  refine⟨bm,ob,e1,e2,qB e3 ?_,e4,e5,e6⟩
  cases q:H bm with
  | none=>rfl
  | some u=>
    rcases Hof bm u q with⟨z,_⟩ | ⟨z,_⟩
    ·obtain⟨_,_,c,ht⟩:=tab bm z
     have e:=ht.2
     rw [e3] at e;cases e;cases e6
    ·rw [z,ha] at e3;cases e3;cases e6
 have hTR : ∀ r∈tabs,xE H r.1 r.2:=fun r hr=>⟨#[],(tab r.1 (bI.mpr ⟨r,hr,rfl⟩)).1,trivial,fun pos cv h=>by cases h⟩
 refine iW ((F _ hKb (nsK hns) hBb).run callerA [] s H ⟨[.ref a],[]⟩ [.ref a] [.ref a] _ _ hr e0 (hbind s (.ref a)) (.cons rfl .nil) (hsp H hTR hS)) fun r s' h => ?_
 cases r with
 | error e=>exact h.elim
 | ok fl=>
   cases fl with
   | next=>exact dm h
   | brk=>exact dm h
   | cont=>exact dm h
   | ret u=>
     obtain⟨v,H',os,bare,un,hok',r',q⟩:=h
     have q':v = .bl true:=q
     subst q'
     obtain rfl:u=wC true:=r'
     refine⟨rfl,⟨fun b o' e => ?_,fun b o' e=>un.there b o' e (by simp)⟩,os,bare⟩
     cases q:H b with
     | none=>exact .inl (un.keep b o' e q (by intro z;exact absurd (show b∈([]:List Addr) from z) (by simp)) (by simp))
     | some u=>
       rcases Hof b u q with⟨z,rfl⟩ | ⟨rfl,_,rfl⟩
       ·obtain⟨_,_,c,ht⟩:=tab b z
        obtain⟨more,e2⟩:=un.tbls b #[] q
        have e3:s'.heap.get? b=some { cls := .none,data := .fields (#[]++more) }:=hok' b _ e2
        have e4:=ht.2
        rw [e] at e4
        cases e4
        exact .inr (.inl ⟨ht.isCodeTable,rfl,#[],more,rfl,e3⟩)
       ·obtain⟨e2,_⟩:=hok' b _ (un.frzs b _ _ q)
        rw [ha] at e
        cases e
        exact .inl e2
end
theorem BI {l:lU}{n k:Nat}{q:Program}{loose:List Str}{XP:(Str->Option Value)->Heap->Prop}{YP:World->Heap->Prop}{d:DefRec}{K:Params->ar}{x:Str}
  (hn:l.most=some n) (hn2:n<=sizeLine) (hdf:d.params.defaults = []) (hr:jM k callerA) (hY : ∀ (w:World) (h:Heap),YP w h->(K w.params).In h)
  (F : ∀ (w:World) (mg:Str->Option Value) (fa:Addr) (h:Heap),(K w.params).In h->h.Ns mainGlobals mg->mg d.name=some (.ref fa) -> ∃ (tabs:List (Addr×Str)) (fd:FuncData) (sp:Sp),
   (∀ r∈tabs,(K w.params).lookup r.1=none /\ ∃ x d c,(recsOf q).find? (fun e=>e.name == x)=some d/\tabIn (K w.params) x=some (c,r.1)) /\
   (∀ (s:Shared) (u:Value),BindsTo s fd ⟨[u],[]⟩ [(x,u)])/\(∀ base:Heap,(K w.params).In base->base.Ns mainGlobals mg->md mg base->nQ l.prog w (K w.params) mg base CX0 k fa fd [x] sp) /\
   ∀ (H:Hp) (a:Addr) (ns:List Int),ns.length<=n->(∀ r∈tabs,xE H r.1 r.2)->SqL (K w.params) H a (ns.map V.int)->sp [.ref a] H (fun v _=>v = .bl true) fun _ _ _=>False) :
  PySem.W.WalkO q loose XP YP l.row.toRowW d [] (fun f vs=>PySem.call f vs):=by
 refine Att.attach_call hn hdf fun w s₀ s₁ mg mb fa o pm cd doc a vs ns G Y ho hd hcd hmg hobj hints hlen hg => ?_
 have kx:=hY w _ Y
 obtain⟨tabs,fd,sp,hT,hb,hF,hsp⟩:=F w mg fa _ kx G.T.g hmg
 refine EH (tabs:=tabs) kx G.T.g G.T.b G.T.builtins G.T.nolimit G.T.bmain hg hobj hints (be hlen hn2) hr (fun r hr => ?_) hF hb fun H h1 h2=>hsp H a ns hlen h1 h2
 obtain⟨h1,x',d',c,h2,h3⟩:=hT r hr
 obtain⟨h4,h5⟩:=PySem.W.tab_of G.T kx h2 h3
 exact⟨h1,c,h4.tab h5⟩
end G
end
section
namespace G
open PySem PySem.Spec L2
theorem us0 {p:List Value->Prop} (h:p []) : ∀ us:List Value,us.length=0->p us
 | [],_=>h
theorem us1 {p:List Value->Prop} (h : ∀ a,p [a]) : ∀ us:List Value,us.length=1->p us
 | [a],_=>h a
theorem us2 {p:List Value->Prop} (h : ∀ a b,p [a,b]) : ∀ us:List Value,us.length=2->p us
 | [a,b],_=>h a b
theorem us3 {p:List Value->Prop} (h : ∀ a b c,p [a,b,c]) : ∀ us:List Value,us.length=3->p us
 | [a,b,c],_=>h a b c
noncomputable def Bd (x:Str) (st:Stmt) (ps:List Str):Prop := ∀ (kV doc pm:Value) (an:Option Addr) (cdv ct:Value) (us:List Value),us.length=ps.length->bindArgs (dA x x (gS st) (bt st) (aF st) .none kV doc pm an cdv ct) ⟨us,[]⟩=pure (ps.zip us)
structure Ch (P:Program) (w:World) (K:ar) (mg:Str->Option Value) (tabs:List (Addr×Str)) (T:Tb) (k:Nat):Prop where
 o : ∀ (caps:List U) (capv:List V) (cds:List (Addr×Obj)) (base:Heap),md mg base->TOk ⟨P,w,⟨K,caps,capv,cds,tabs⟩,mg,base,none⟩ T k
 h : ∀ (caps:List U) (capv:List V) (cds:List (Addr×Obj)) (base:Heap),md mg base -> ∀ y F,T.H.lookup y=some F -> ∃ k' ps,k'<=k/\FnC ⟨P,w,⟨K,caps,capv,cds,tabs⟩,mg,base,none⟩ y k' ps F
section
variable {P:Program}{w:World}{K:ar}{mg:Str->Option Value}{tabs:List (Addr×Str)}{T T':Tb}{k j:Nat}{h:Heap}{x:Str}{st:Stmt}{N ps:List Str}{ms:MS}{fu:Nat}
theorem Ch.dfn (c:Ch P w K mg tabs T k) (O : ∀ (caps:List U) (capv:List V) (cds:List (Addr×Obj)) (base:Heap),md mg base->TOk ⟨P,w,⟨K,caps,capv,cds,tabs⟩,mg,base,none⟩ T' k) (h1:T'.mkr=false) (X:K.In h) (Gn:h.Ns mainGlobals mg) (D:Def K x st) (S:bM N ps (aF st)) (hb:Bd x st ps)
  (hc:cB T' fu N (aF st).names (bt st)=some ms):Ch P w K mg tabs ⟨(x,run ps.length N.length ms)::T.D,T.C,T.L,T.H,T.mkr⟩ (k+1):=
 ⟨fun a b d e f=>(c.o a b d e f).cons (D.fn (M:=⟨P,w,⟨K,a,b,d,tabs⟩,mg,e,none⟩) (O a b d e f) rfl h1 X Gn S hb hc) (dc k),fun a b d e f=>y3 (c.h a b d e f) (dc k)⟩
theorem Ch.cls {y:Str}{msC:Addr->MF->MS} (c:Ch P w K mg tabs T k) (h1:T.mkr=false) (hL:T.L = []) (X:K.In h) (Gn:h.Ns mainGlobals mg) (D:Def K x st) (S:bM N ps (aF st)) (hb:Bd x st ps)
  (hc : ∀ g φ,cB ⟨T.D,T.C,[(y,g,φ)],T.H,T.mkr⟩ fu N (aF st).names (bt st)=some (msC g φ)):Ch P w K mg tabs ⟨T.D,T.C,T.L,(x,fun g φ=>run ps.length N.length (msC g φ))::T.H,T.mkr⟩ k:=
 ⟨fun a b d e f=>(c.o a b d e f).setH,fun a b d e f=>Eb (c.h a b d e f) (D.fnC (M:=⟨P,w,⟨K,a,b,d,tabs⟩,mg,e,none⟩) c.o h1 hL X Gn S hb hc) (aq k) (aq k)⟩
end
end G
end
section
namespace W
open PySem PySem.Spec L2 G
section
noncomputable def fE:MS:=bf (sIf (cOf (m2 oLt (ab 1) (mFn bq (aa (ab 0) af)))) (dh (m2 oIx (ab 0) (ab 1))) dP) (dh (mC (.int 0)))
noncomputable def gM:MF:=run 2 2 fE
noncomputable def jj:MS:=bf (bB 2 (mFn gM (aa (ab 0) (aa (ab 1) af)))) (bf (sIf (cOf (m2 oGe (ab 2) (m2 ue (mC (.int 10)) (mC (.int 18))))) (dh (b4 (aa (m2 h9 (ab 2) (m2 ue (mC (.int 10)) (mC (.int 18)))) (aa (mC (.bl true)) af)))) dP) (dh (b4 (aa (m2 oMod (ab 2) (mC (.int 2147483647))) (aa (mC (.bl false)) af)))))
noncomputable def jd:MF:=run 2 3 jj
noncomputable def j7:MS:=bf (sIf (cOf (m2 oIx (ab 0) (mC (.int 1)))) (bf (bB 2 (m2 oMod (m2 oIx (ab 0) (mC (.int 0))) (ab 1))) (bf (mT (ab 0) (mC (.int 0)) (m2 oDiv (m2 oIx (ab 0) (mC (.int 0))) (ab 1))) (dh (ab 2)))) dP) (bf (mT (ab 0) (mC (.int 0)) (m2 oMod (m2 bC (m2 fv (m2 oIx (ab 0) (mC (.int 0))) (mC (.int 48271))) (mC (.int 29))) (mC (.int 2147483647)))) (bf (bB 3 (m2 oMod (m2 bC (m2 bC (m2 fv (m2 oIx (ab 0) (mC (.int 0))) (m2 oIx (ab 0) (mC (.int 0)))) (m2 fv (mC (.int 39373)) (m2 oIx (ab 0) (mC (.int 0))))) (mC (.int 7))) (mC (.int 2147483629)))) (bf (bB 3 (m2 oMod (m2 bC (m2 fv (ab 3) (ab 3)) (m2 fv (mC (.int 16807)) (ab 3))) (mC (.int 2147483587)))) (dh (m2 oMod (m2 oDiv (ab 3) (mC (.int 8))) (ab 1))))))
noncomputable def aM:MF:=run 2 4 j7
noncomputable def kY:MS:=dh (mFn b5 (aa (cU (iR1 (aa (ab 0) af)) cTT (mFn b5 (aa (cU (iR1 (aa (ab 0) af)) cTT (m2 oMod (m2 bC (ab 1) (ab 2)) (ab 0))) af))) af))
noncomputable def df:MF:=run 1 1 kY
noncomputable def lr:MS:=bf (bB 1 (b4 af)) (bf (eB 2 (iR1 (aa (m2 fv (mC (.int 2)) (ab 0)) af)) (bf (bB 3 (b4 af)) (bf (eB 4 (iR1 (aa (m2 fv (mC (.int 2)) (ab 0)) af)) (bf (bB 5 (m2 oMod (m2 bC (m2 oMod (ab 2) (ab 0)) (m2 fv (m2 oIx (b4 (aa (mC (.int 1)) (aa (m1 eK (mC (.int 1))) af))) (m2 oDiv (ab 2) (ab 0))) (m2 oMod (ab 4) (ab 0)))) (ab 0))) (dj (mML cn (ab 3) (aa (m2 bC (ab 5) (m2 fv (ab 0) (m2 oMod (m2 bC (m2 oDiv (ab 2) (ab 0)) (m2 oDiv (ab 4) (ab 0))) (mC (.int 2))))) af))))) (dj (mML cn (ab 1) (aa (mFn b5 (aa (ab 3) af)) af)))))) (dh (mFn b5 (aa (ab 1) af))))
noncomputable def eZ:MF:=run 1 6 lr
noncomputable def jv:MS:=bf (bB 0 (b4 (aa (b4 (aa (mC (.int 0)) (aa (mC (.int 0)) (aa (mC (.int 0)) (aa (mC (.int 0)) af))))) (aa (b4 (aa (mC (.int 0)) (aa (mC (.int 1)) (aa (mC (.int 0)) (aa (mC (.int 1)) af))))) (aa (b4 (aa (mC (.int 0)) (aa (mC (.int 1)) (aa (mC (.int 1)) (aa (mC (.int 0)) af))))) (aa (b4 (aa (mC (.int 0)) (aa (mC (.int 0)) (aa (mC (.int 1)) (aa (mC (.int 1)) af))))) af)))))) (bf (bB 1 (b4 (aa (b4 (aa (mC (.int 0)) (aa (mC (.int 1)) (aa (mC (.int 2)) (aa (mC (.int 3)) af))))) (aa (b4 (aa (mC (.int 1)) (aa (mC (.int 0)) (aa (mC (.int 3)) (aa (mC (.int 2)) af))))) (aa (b4 (aa (mC (.int 2)) (aa (mC (.int 3)) (aa (mC (.int 0)) (aa (mC (.int 1)) af))))) (aa (b4 (aa (mC (.int 3)) (aa (mC (.int 2)) (aa (mC (.int 1)) (aa (mC (.int 0)) af))))) af)))))) (bf (bB 2 (b4 af)) (bf (eB 3 (iR1 (aa (mC (.int 8)) af)) (bf (bB 4 (b4 af)) (bf (eB 5 (iR1 (aa (mC (.int 8)) af)) (bf (bB 6 (m2 oMod (m2 bC (m2 bC (ab 3) (ab 5)) (m2 oIx (m2 oIx (ab 0) (m2 oDiv (ab 3) (mC (.int 2)))) (m2 oDiv (ab 5) (mC (.int 2))))) (mC (.int 2)))) (dj (mML cn (ab 4) (aa (m2 bC (m2 fv (mC (.int 2)) (m2 oIx (m2 oIx (ab 1) (m2 oDiv (ab 3) (mC (.int 2)))) (m2 oDiv (ab 5) (mC (.int 2))))) (ab 6)) af))))) (dj (mML cn (ab 2) (aa (mFn b5 (aa (ab 4) af)) af)))))) (dh (mFn b5 (aa (ab 2) af))))))
noncomputable def fD:MF:=run 0 7 jv
noncomputable def m3:MS:=bf (bB 2 (mFn bq (aa (ab 1) af))) (bf (bB 3 (b4 af)) (bf (eB 4 (iR1 (aa (m2 fv (mFn bq (aa (ab 0) af)) (ab 2)) af)) (bf (bB 5 (b4 af)) (bf (eB 6 (iR1 (aa (m2 fv (mFn bq (aa (ab 0) af)) (ab 2)) af)) (bf (bB 7 (m2 oIx (m2 oIx (ab 0) (m2 oDiv (ab 4) (ab 2))) (m2 oDiv (ab 6) (ab 2)))) (dj (mML cn (ab 5) (aa (m2 bC (m2 fv (ab 7) (ab 2)) (m2 oIx (m2 oIx (ab 1) (m2 oMod (ab 4) (ab 2))) (m2 oMod (ab 6) (ab 2)))) af))))) (dj (mML cn (ab 3) (aa (mFn b5 (aa (ab 5) af)) af)))))) (dh (mFn b5 (aa (ab 3) af)))))
noncomputable def jW:MF:=run 2 8 m3
noncomputable def kN:MS:=dh (mFn b5 (aa (cU (cZ (ab 1)) cTT (mFn b5 (aa (cU (cZ (ab 1)) cTT (mMT iC (ab 1) (aa (m2 oIx (m2 oIx (ab 0) (ab 2)) (ab 3)) af))) af))) af))
noncomputable def jf:MF:=run 2 2 kN
noncomputable def kX:MS:=bf (bB 2 (fo (iR2 (aa (mC (.int 1)) (aa (ab 1) af))))) (dh (m2 bC (bA (aa (mC (.int 0)) af)) (mFn b5 (aa (cU (iR1 (aa (m2 h9 (ab 1) (mC (.int 1))) af)) cTT (mML jy (ab 2) (aa (mFn aM (aa (ab 0) (aa (mFn bq (aa (ab 2) af)) af))) af))) af))))
noncomputable def je:MF:=run 2 3 kX
noncomputable def kL:MS:=bf (bB 2 (mFn aM (aa (ab 0) (aa (mC (.int 8)) af)))) (bf (bB 3 (mFn df (aa (m2 bC (mC (.int 1)) (mFn aM (aa (ab 0) (aa (ab 1) af)))) af))) (bf (sIf (cOr (cOf (m2 oEq (ab 2) (mC (.int 1)))) (cOf (m2 oEq (ab 2) (mC (.int 2))))) (bB 3 (mFn eZ (aa (m2 bC (mC (.int 1)) (mFn aM (aa (ab 0) (aa (m2 oDiv (ab 1) (mC (.int 2))) af)))) af))) dP) (bf (sIf (j8 (cOf (m2 oEq (ab 2) (mC (.int 3)))) (cOf (m2 oGt (ab 1) (mC (.int 7))))) (bB 3 (mFn fD af)) dP) (bf (sIf (cOf (m2 oGt (ab 2) (mC (.int 3)))) (bf (bB 4 (m2 bC (mC (.int 2)) (mFn aM (aa (ab 0) (aa (mC (.int 3)) af))))) (bf (bB 5 (m2 oIx (b4 (aa (mFn df (aa (ab 4) af)) (aa (mFn eZ (aa (ab 4) af)) af))) (mFn aM (aa (ab 0) (aa (mC (.int 2)) af))))) (bf (sIf (cOf (m2 oGt (mFn bq (aa (ab 5) af)) (ab 1))) (bB 5 (mFn df (aa (ab 4) af))) dP) (bB 3 (mFn jW (aa (ab 5) (aa (mFn df (aa (m2 bC (mC (.int 1)) (mFn aM (aa (ab 0) (aa (m2 oDiv (ab 1) (mFn bq (aa (ab 5) af))) af)))) af)) af))))))) dP) (bf (sIf (cOf (m2 oEq (mFn aM (aa (ab 0) (aa (mC (.int 3)) af))) (mC (.int 0)))) (bB 3 (mFn jf (aa (ab 3) (aa (mFn je (aa (ab 0) (aa (mFn bq (aa (ab 3) af)) af))) af)))) dP) (dh (ab 3)))))))
noncomputable def ji:MF:=run 2 6 kL
end
end W
end
section
namespace W
structure Grp (m:Nat) (T:Nat->Nat->Nat):Prop where
 pos:0 < m
 cl : ∀ i j,i < m->j < m->T i j < m
 l0 : ∀ i,i < m->T 0 i=i
 r0 : ∀ i,i < m->T i 0=i
 inv : ∀ i,i < m -> ∃ j,j < m/\T i j=0/\T j i=0
 as : ∀ i j k,i < m->j < m->k < m->T (T i j) k=T i (T j k)
noncomputable def d8 (n:Nat):Nat->Nat->Nat:=fun i j=>(i+j) % n
theorem jS {n:Nat} (h:0 < n):Grp n (d8 n) where
 pos:=h
 cl:=fun i j _ _=>kg _ h
 l0:=fun i hi=>by unfold d8;rw [eC];exact bp hi
 r0:=fun i hi=>by unfold d8;rw [ng];exact bp hi
 inv:=fun i hi=>by
  by_cases h0:i=0
  ·subst h0;exact⟨0,h,by simp [d8],by simp [d8]⟩
  ·refine⟨n - i,by omega,?_,?_⟩ <;> unfold d8
   ·rw [show i+(n - i)=n by omega,nh]
   ·rw [show n - i+i=n by omega,nh]
 as:=fun i j k _ _ _=>by
  unfold d8
  rw [ni,Nat.add_mod_mod,Nat.add_assoc]
noncomputable def fQ (n:Nat):Nat->Nat->Nat:=fun i j=>
 (if i < n then (i % n+j % n) % n else (i % n+(n - j % n)) % n)+n*((i / n+j / n) % 2)
theorem half {n i:Nat} (h:i < 2*n):(i < n/\i % n=i/\i / n=0)\/(n<=i/\i % n=i - n/\i / n=1):=by
 by_cases hi:i < n
 ·exact .inl ⟨hi,bp hi,fW hi⟩
 ·refine .inr ⟨by omega,?_,?_⟩
  ·rw [Nat.mod_eq_sub_mod (by omega),bp (by omega)]
  ·exact Nat.div_eq_of_lt_le (by omega) (by omega)
theorem eE {n a b:Nat} (ha:a < n) (hb:b < n):fQ n a b=(a+b) % n:=by
 unfold fQ
 rw [if_pos ha,bp ha,bp hb,fW ha,fW hb];simp
theorem DU {n a:Nat} (ha:a < n):(n+a) / n=1:=Nat.div_eq_of_lt_le (by omega) (by omega)
theorem Ee {n a:Nat} (ha:a < n):(n+a) % n=a:=by rw [Nat.add_mod_left];exact bp ha
theorem gR {n a b:Nat} (ha:a < n) (hb:b < n):fQ n a (n+b)=n+(a+b) % n:=by
 unfold fQ
 rw [if_pos ha,bp ha,Ee hb,fW ha,DU hb];simp;omega
theorem gO {n a b:Nat} (ha:a < n) (hb:b < n):fQ n (n+a) b=n+(a+(n - b)) % n:=by
 unfold fQ
 rw [if_neg (by omega),Ee ha,bp hb,fW hb,DU ha];simp;omega
theorem gQ {n a b:Nat} (ha:a < n) (hb:b < n):fQ n (n+a) (n+b)=(a+(n - b)) % n:=by
 unfold fQ
 rw [if_neg (by omega),Ee ha,Ee hb,DU ha,DU hb];simp
theorem Lp {n a b:Nat} (ha:a < n) (hb:b < n):(a+b) % n=if a+b < n then a+b else a+b - n:=by
 split
 ·exact bp (by assumption)
 ·rw [Nat.mod_eq_sub_mod (by omega),bp (by omega)]
theorem Lf {n a b:Nat} (ha:a < n) (hb:b < n):(a+(n - b)) % n=if b<=a then a - b else a+n - b:=by
 split
 ·rw [show a+(n - b)=(a - b)+n by omega,kB,bp (by omega)]
 ·rw [bp (by omega)];omega
theorem kF {n i:Nat} (h:i < 2*n):(i < n) \/ ∃ a,a < n/\i=n+a:=by
 by_cases hi:i < n
 ·exact .inl hi
 ·exact .inr ⟨i - n,by omega,by omega⟩
theorem Ei {n a b c:Nat}:((a+b) % n+c) % n=(a+(b+c) % n) % n:=by rw [ni,Nat.add_mod_mod,Nat.add_assoc]
theorem Jd {n a b c:Nat} (hb:b < n) (hc:c < n):((a+(n - b)) % n+(n - c)) % n=(a+(n - (b+c) % n)) % n:=by
 rw [ni,Lp hb hc]
 split
 ·rw [show a+(n - b)+(n - c)=a+(n - (b+c))+n by omega,kB]
 ·rw [show a+(n - b)+(n - c)=a+(n - (b+c - n)) by omega]
theorem JA {n a b c:Nat} (hb:b < n) (hc:c < n):((a+(n - b)) % n+c) % n=(a+(n - (b+(n - c)) % n)) % n:=by
 rw [ni,Lf hb hc]
 split
 ·rw [show a+(n - b)+c=a+(n - (b - c)) by omega]
 ·rw [show a+(n - b)+c=a+(n - (b+n - c))+n by omega,kB]
theorem vP {n:Nat} (h:0 < n):Grp (2*n) (fQ n):=by
 have ml : ∀ x,x % n < n:=fun x=>kg _ h
 have cl : ∀ i j,i < 2*n->j < 2*n->fQ n i j < 2*n:=fun i j hi hj=>by
  rcases kF hi with hi | ⟨a,ha,rfl⟩ <;> rcases kF hj with hj | ⟨b,hb,rfl⟩
  ·rw [eE hi hj];have:=ml (i+j);omega
  ·rw [gR hi hb];have:=ml (i+b);omega
  ·rw [gO ha hj];have:=ml (a+(n - j));omega
  ·rw [gQ ha hb];have:=ml (a+(n - b));omega
 refine⟨by omega,cl,fun i hi => ?_,fun i hi => ?_,fun i hi => ?_,fun i j k hi hj hk => ?_⟩
 ·rcases kF hi with hi | ⟨a,ha,rfl⟩
  ·rw [eE h hi,eC,bp hi]
  ·rw [gR h ha,eC,bp ha]
 ·rcases kF hi with hi | ⟨a,ha,rfl⟩
  ·rw [eE hi h,ng,bp hi]
  ·rw [gO ha h,Nat.sub_zero,kB,bp ha]
 ·rcases kF hi with hi | ⟨a,ha,rfl⟩
  ·by_cases h0:i=0
   ·subst h0;exact⟨0,by omega,by rw [eE h h];simp,by rw [eE h h];simp⟩
   ·have hl:n - i < n:=by omega
    refine⟨n - i,by omega,?_,?_⟩
    ·rw [eE hi hl,show i+(n - i)=n by omega,nh]
    ·rw [eE hl hi,show n - i+i=n by omega,nh]
  ·refine⟨n+a,by omega,?_,?_⟩ <;> rw [gQ ha ha,show a+(n - a)=n by omega,nh]
 ·rcases kF hi with hi | ⟨a,ha,rfl⟩ <;> rcases kF hj with hj | ⟨b,hb,rfl⟩ <;> rcases kF hk with hk | ⟨c,hc,rfl⟩
  ·rw [eE hi hj,eE hj hk,eE (ml _) hk,eE hi (ml _),Ei]
  ·rw [eE hi hj,gR hj hc,gR (ml _) hc,gR hi (ml _),Ei]
  ·rw [gR hi hb,gO hb hk,gO (ml _) hk,gR hi (ml _),Ei]
  ·rw [gR hi hb,gQ hb hc,gQ (ml _) hc,eE hi (ml _),Ei]
  ·rw [gO ha hj,eE hj hk,gO (ml _) hk,gO ha (ml _),Jd hj hk]
  ·rw [gO ha hj,gR hj hc,gQ (ml _) hc,gQ ha (ml _),Jd hj hc]
  ·rw [gQ ha hb,gO hb hk,eE (ml _) hk,gQ ha (ml _),JA hb hk]
  ·rw [gQ ha hb,gQ hb hc,gR (ml _) hc,gO ha (ml _),JA hb hc]
noncomputable def nX (m:Nat) (A B:Nat->Nat->Nat):Nat->Nat->Nat:=fun i j=>A (i / m) (j / m)*m+B (i % m) (j % m)
theorem xl {m a b:Nat} (hb:b < m):(a*m+b) / m=a/\(a*m+b) % m=b:=by
 have hm:0 < m:=by omega
 constructor
 ·rw [iw,Nat.mul_add_div hm,fW hb];rfl
 ·rw [iw,Nat.mul_add_mod,bp hb]
theorem B5 {k m:Nat}{A B:Nat->Nat->Nat} (ga:Grp k A) (gb:Grp m B):Grp (k*m) (nX m A B):=by
 have hm:=gb.pos
 have dl : ∀ i,i < k*m->i / m < k:=fun i hi=>Nat.div_lt_of_lt_mul (by rw [iw];exact hi)
 have rl : ∀ i,i % m < m:=fun i=>kg _ hm
 have lt : ∀ a b,a < k->b < m->a*m+b < k*m:=fun a b ha hb=>by
  have:(a+1)*m<=k*m:=fP m ha
  rw [Nat.add_mul] at this;omega
 refine⟨Nat.mul_pos ga.pos hm,fun i j hi hj=>lt _ _ (ga.cl _ _ (dl i hi) (dl j hj)) (gb.cl _ _ (rl i) (rl j)),fun i hi => ?_,fun i hi => ?_,fun i hi => ?_,fun i j l hi hj hl => ?_⟩
 ·unfold nX;rw [Nat.zero_div,Nat.zero_mod,ga.l0 _ (dl i hi),gb.l0 _ (rl i),iw];exact Nat.div_add_mod i m
 ·unfold nX;rw [Nat.zero_div,Nat.zero_mod,ga.r0 _ (dl i hi),gb.r0 _ (rl i),iw];exact Nat.div_add_mod i m
 ·obtain⟨a,ha,a1,a2⟩:=ga.inv _ (dl i hi)
  obtain⟨b,hb,b1,b2⟩:=gb.inv _ (rl i)
  obtain⟨p1,p2⟩:=xl (a:=a) hb
  refine⟨a*m+b,lt a b ha hb,?_,?_⟩ <;> unfold nX <;> rw [p1,p2]
  ·rw [a1,b1];simp
  ·rw [a2,b2];simp
 ·unfold nX
  obtain⟨p1,p2⟩:=xl (a:=A (i / m) (j / m)) (gb.cl _ _ (rl i) (rl j))
  obtain⟨q1,q2⟩:=xl (a:=A (j / m) (l / m)) (gb.cl _ _ (rl j) (rl l))
  rw [p1,p2,q1,q2,ga.as _ _ _ (dl i hi) (dl j hj) (dl l hl),gb.as _ _ _ (rl i) (rl j) (rl l)]
noncomputable def KJ:List (List Nat) := [[0,1,2,3,4,5,6,7],[1,0,3,2,5,4,7,6],[2,3,1,0,6,7,5,4],[3,2,0,1,7,6,4,5],[4,5,7,6,1,0,2,3],[5,4,6,7,0,1,3,2],[6,7,4,5,3,2,1,0],[7,6,5,4,2,3,0,1]]
noncomputable def ft:Nat->Nat->Nat:=fun i j=>(KJ.getD i []).getD j 0
noncomputable def q1:Bool:=(aA 8).all fun i=>(ft 0 i == i)&&(ft i 0 == i)&&((aA 8).any fun j=>(ft i j == 0)&&(ft j i == 0))&&(aA 8).all fun j=>decide (ft i j < 8)&&(aA 8).all fun k=>ft (ft i j) k == ft i (ft j k)
theorem IB:q1=true:=by decide +kernel
theorem zo:Grp 8 ft:=by
 have h:=bx.mp IB
 have g : ∀ i,i < 8->_:=fun i hi=>h i (bb.mpr hi)
 simp only [aw,bx,List.any_eq_true,bb,beq_iff_eq,decide_eq_true_eq] at g
 refine⟨by decide,fun i j hi hj=>((g i hi).2 j hj).1,fun i hi=>(g i hi).1.1.1,fun i hi=>(g i hi).1.1.2,fun i hi => ?_,fun i j k hi hj hk=>((g i hi).2 j hj).2 k hk⟩
 obtain⟨j,hj,a,b⟩:=(g i hi).1.2
 exact⟨j,hj,a,b⟩
structure Ord (m:Nat) (o p:Nat->Nat):Prop where
 ol : ∀ i,i < m->o i < m
 pl : ∀ i,i < m->p i < m
 po : ∀ i,i < m->p (o i)=i
 op : ∀ i,i < m->o (p i)=i
 o0:o 0=0
noncomputable def kP (T:Nat->Nat->Nat) (o p:Nat->Nat):Nat->Nat->Nat:=fun i j=>p (T (o i) (o j))
theorem zG {m:Nat}{T:Nat->Nat->Nat}{o p:Nat->Nat} (g:Grp m T) (h:Ord m o p):Grp m (kP T o p):=by
 have p0:p 0=0:=by have:=h.po 0 g.pos;rwa [h.o0] at this
 refine⟨g.pos,fun i j hi hj=>h.pl _ (g.cl _ _ (h.ol i hi) (h.ol j hj)),fun i hi => ?_,fun i hi => ?_,fun i hi => ?_,fun i j k hi hj hk => ?_⟩
 ·unfold kP;rw [h.o0,g.l0 _ (h.ol i hi),h.po i hi]
 ·unfold kP;rw [h.o0,g.r0 _ (h.ol i hi),h.po i hi]
 ·obtain⟨j,hj,a,b⟩:=g.inv _ (h.ol i hi)
  refine⟨p j,h.pl j hj,?_,?_⟩ <;> unfold kP <;> rw [h.op j hj]
  ·rw [a,p0]
  ·rw [b,p0]
 ·unfold kP
  rw [h.op _ (g.cl _ _ (h.ol i hi) (h.ol j hj)),h.op _ (g.cl _ _ (h.ol j hj) (h.ol k hk)),g.as _ _ _ (h.ol i hi) (h.ol j hj) (h.ol k hk)]
end W
end
section
namespace W
theorem fM {α:Type} : ∀ (l:List α) (i:Nat) (h:i < l.length),(l[i]::l.eraseIdx i).Perm l
 | x::l,0,_=>by simp
 | x::l,i+1,h=>by
   have h':i < l.length:=by simpa using h
   have:=fM l i h'
   simp only [List.getElem_cons_succ,Ai]
   exact (List.Perm.swap _ _ _).trans (this.cons x)
theorem Dl {l:List Nat} (nd:l.Nodup) {i:Nat} (h:i < l.length):l.idxOf l[i]=i:=by
 have h1:l.idxOf l[i] < l.length:=kC.mpr (dW h)
 have h2:=List.getElem_idxOf h1
 exact (List.getElem_inj nd).mp h2
structure oq (m:Nat) (l:List Nat):Prop where
 perm:l.Perm (aA m)
 z:l[0]? = some 0
noncomputable def oF (l:List Nat):Nat->Nat:=fun i=>l.getD i 0
noncomputable def pF (l:List Nat):Nat->Nat:=fun x=>l.idxOf x
section
variable {m:Nat}{l:List Nat}
theorem oq.len (h:oq m l):l.length=m:=by have:=h.perm.length_eq;simpa using this
theorem oq.nd (h:oq m l):l.Nodup:=h.perm.nodup_iff.mpr iK
theorem oq.mem (h:oq m l) {x:Nat}:x∈l↔x < m:=by rw [h.perm.mem_iff,bb]
theorem oq.get (h:oq m l) {i:Nat} (hi:i < m):l[i]? = some (oF l i):=by
 have hl:i < l.length:=by rw [h.len];exact hi
 simp [oF,hl]
theorem oq.ord (h:oq m l):Ord m (oF l) (pF l) where
 ol:=fun i hi=>h.mem.mp (dG (h.get hi))
 pl:=fun x hx=>by
  have:=kC.mpr (h.mem.mpr hx)
  rw [h.len] at this;exact this
 po:=fun i hi=>by
  have hl:i < l.length:=by rw [h.len];exact hi
  have e:oF l i=l[i]:=by simp [oF,hl]
  unfold pF;rw [e];exact Dl h.nd hl
 op:=fun x hx=>by
  have h1:=kC.mpr (h.mem.mpr hx)
  have h2:=List.getElem_idxOf h1
  unfold oF pF
  rw [wV,aX h1,h2];rfl
 o0:=by
  unfold oF
  rw [wV,h.z];rfl
end
theorem zp {m:Nat}{xs:List Nat} (hm:0 < m) (h:xs.Perm (bU 1 (m - 1))):oq m (0::xs):=by
 refine⟨?_,rfl⟩
 have e:aA m=0::bU 1 (m - 1):=by
  rw [List.range_eq_range']
  have:m=(m - 1)+1:=by omega
  rw [this,List.range'_succ]
  simp
 rw [e]
 exact h.cons 0
end W
end
section
namespace W
section
variable {m:Nat}{T:Nat->Nat->Nat}
end
theorem xb : ∀ (m:Nat) (l:List Nat),l.Nodup->(∀ x∈l,x < m)->l.length<=m
 | 0,l,_,h=>by
   cases l with
   | nil=>simp
   | cons x l=>exact absurd (h x (by simp)) (by omega)
 | m+1,l,nd,h=>by
   have h1:=xb m (l.erase m) (nd.erase m) fun x hx=>by
    have hx2:=(List.Nodup.mem_erase_iff nd).mp hx
    have:=h x hx2.2
    have:=hx2.1
    omega
   have h2:l.length<=(l.erase m).length+1:=by
    rw [List.length_erase]
    split <;> omega
   omega
end W
end
section
namespace W
open L2 G
noncomputable def Ex (S S':Sto):Prop := ∃ t,S'=S++t
theorem Ex.refl (S:Sto):Ex S S:=⟨[],by simp⟩
theorem Ex.trans {S S1 S2:Sto} (a:Ex S S1) (b:Ex S1 S2):Ex S S2:=by
 obtain⟨t,rfl⟩:=a
 obtain⟨u,rfl⟩:=b
 exact⟨t++u,by simp⟩
theorem Ex.push (S:Sto) (c:Cell):Ex S (S ++ [c]):=⟨[c],rfl⟩
theorem Ex.get {S S':Sto} (h:Ex S S') {n:Nat} (hn:n < S.length):S'[n]? = S[n]? := by
 obtain⟨t,rfl⟩:=h
 exact aS hn
theorem Ex.some {S S':Sto} (h:Ex S S') {n:Nat}{c:Cell} (e:S[n]? = some c):S'[n]? = some c:=by
 rw [h.get (ag.mp e).1];exact e
theorem Ex.len {S S':Sto} (h:Ex S S'):S.length<=S'.length:=by
 obtain⟨t,rfl⟩:=h
 simp
noncomputable def jx (n:Nat) (S:Sto):Prop := ∃ s b,S[n]? = some (.lst [.int s,.bl b])
structure Stp (n:Nat) (S S':Sto):Prop where
 len:S.length<=S'.length
 same : ∀ m,m < S.length->m≠n->S'[m]? = S[m]?
 st:jx n S'
theorem Stp.refl {n:Nat}{S:Sto} (h:jx n S):Stp n S S:=⟨aq _,fun _ _ _=>rfl,h⟩
theorem Stp.trans {n:Nat}{S S1 S2:Sto} (a:Stp n S S1) (b:Stp n S1 S2):Stp n S S2:=
 ⟨be a.len b.len,fun m h1 h2=>(b.same m (ai h1 a.len) h2).trans (a.same m h1 h2),b.st⟩
theorem jx.lt {n:Nat}{S:Sto} (h:jx n S):n < S.length:=by
 obtain⟨s,b,e⟩:=h
 exact (ag.mp e).1
theorem jx.ex {n:Nat}{S S':Sto} (h:jx n S) (e:Ex S S'):jx n S':=by
 obtain⟨s,b,q⟩:=h
 exact⟨s,b,e.some q⟩
theorem Stp.ex {n:Nat}{S S':Sto} (h:jx n S) (e:Ex S S'):Stp n S S':=⟨e.len,fun m h1 _=>e.get h1,h.ex e⟩
theorem Stp.some {n:Nat}{S S':Sto} (h:Stp n S S') {m:Nat}{c:Cell} (hm:m≠n) (e:S[m]? = some c):S'[m]? = some c:=by
 rw [h.same m (ag.mp e).1 hm];exact e
theorem y0 {n:Nat}{S:Sto}{many:Int} (h:jx n S) (hm:0 < many) (hm2:many < 1073741824) :
  ∃ r S',aM [.ref n,.int many] S=some (.int r,S')/\0<=r/\r < many/\Stp n S S'/\S'.length=S.length:=by
 obtain⟨s,b,e⟩:=h
 have hn:=(ag.mp e).1
 have hd:qA many:=⟨hm,hm2⟩
 have hd8:qA 8:=⟨by decide,by decide⟩
 cases b with
 | true=>
   refine⟨s % many,S.set n (.lst [.int (s / many),.bl true]),?_,wL _ (by omega),qO _ hm,⟨by simp,fun m h1 h2=>by rw [aH (cY h2)],⟨s / many,true,by rw [aL hn]⟩⟩,by simp⟩
   simp [aM,G.run,j7,bf,sIf,cOf,m2,ab,mC,bnd,oIx,fR,dr,getL,e,atI,ixN,bB,oMod,oDiv,hm,hd,mT,dh]
 | false=>
   have b1 : ∀ x m:Int,0 < m->m < 4294967296->jq (x % m) (x % m):=fun x m h1 h2=>by
    have h3:=wL x (show m≠0 by omega)
    have h4:=qO x h1
    exact .inl ⟨by omega,by omega⟩
   have hg : ∀ c:Cell,(S.set n c)[n]? = Option.some c:=fun c=>aL hn
   have k1:jq s 48271 := .inr ⟨by decide,by decide⟩
   have k2:=b1 (s*48271+29) 2147483647 (by decide) (by decide)
   generalize hs1:(s*48271+29) % 2147483647=s1 at k2
   have k3:jq 39373 s1 := .inl ⟨by decide,by decide⟩
   have k4:=b1 (s1*s1+39373*s1+7) 2147483629 (by decide) (by decide)
   generalize hm1:(s1*s1+39373*s1+7) % 2147483629=m1 at k4
   have k5:jq 16807 m1 := .inl ⟨by decide,by decide⟩
   refine⟨(m1*m1+16807*m1) % 2147483587 / 8 % many,S.set n (.lst [.int s1,.bl false]),?_,wL _ (by omega),qO _ hm,⟨by simp,fun m h1 h2=>by rw [aH (cY h2)],⟨s1,false,by rw [aL hn]⟩⟩,by simp⟩
   simp [aM,G.run,j7,bf,sIf,cOf,m2,ab,mC,bnd,oIx,fR,dr,getL,e,atI,ixN,bB,oMod,oDiv,bC,fv,hm,hd,mT,dh,dP,hg,k1,k2,k3,k4,k5,hs1,hm1,hd8]
end W
end
section
namespace W
open L2 G
section
theorem nU {i:Nat}{b:MS} (P:Nat->Rho->Sto->Prop) : ∀ (us:List U) (k:Nat) (ρ:Rho) (S:Sto),P k ρ S ->
  (∀ (j:Nat) (u:U) (ρ:Rho) (S:Sto),us[j]? = some u->P (k+j) ρ S -> ∃ ρ' S',b (ρ.set i (some u)) S=some (.nx,ρ',S')/\P (k+j+1) ρ' S') ->
  ∃ ρ' S',pQ i b us ρ S=some (.nx,ρ',S')/\P (k+us.length) ρ' S'
 | [],k,ρ,S,h,_=>⟨ρ,S,rfl,h⟩
 | u::us,k,ρ,S,h,st=>by
   obtain⟨ρ1,S1,e1,h1⟩:=st 0 u ρ S rfl h
   obtain⟨ρ2,S2,e2,h2⟩:=nU P us (k+1) ρ1 S1 h1 fun j v ρ S hj hp=>by
    have:=st (j+1) v ρ S (by simpa using hj) (by rw [show k+(j+1)=k+1+j by omega];exact hp)
    rw [show k+(j+1)+1=k+1+j+1 by omega] at this
    exact this
   refine⟨ρ2,S2,?_,by rw [show k+(u::us).length=k+1+us.length by simp;omega];exact h2⟩
   show aft (b (ρ.set i (some u)) S) (pQ i b us)=_
   rw [e1];exact e2
theorem oi {e:ME}{ρ:Rho} (g:Nat->U) (P:Nat->Sto->Prop) : ∀ (us:List U) (k:Nat) (acc:List U) (S:Sto),P k S ->
  (∀ (j:Nat) (u:U) (S:Sto),us[j]? = some u->P (k+j) S -> ∃ S',e (ρ ++ [some u]) S=some (g (k+j),S')/\P (k+j+1) S') ->
  ∃ S',gF cTT e ρ us acc S=some (acc++(aA us.length).map (fun j=>g (k+j)),S')/\P (k+us.length) S'
 | [],k,acc,S,h,_=>⟨S,by simp [gF],h⟩
 | u::us,k,acc,S,h,st=>by
   obtain⟨S1,e1,h1⟩:=st 0 u S rfl h
   obtain⟨S2,e2,h2⟩:=oi g P us (k+1) (acc ++ [g k]) S1 h1 fun j v S hj hp=>by
    have:=st (j+1) v S (by simpa using hj) (by rw [show k+(j+1)=k+1+j by omega];exact hp)
    rw [show k+(j+1)+1=k+1+j+1 by omega,show k+(j+1)=k+1+j by omega] at this
    exact this
   refine⟨S2,?_,by rw [show k+(u::us).length=k+1+us.length by simp;omega];exact h2⟩
   show bnd (cTT (ρ ++ [some u]) S) _=_
   simp only [cTT,aD,if_true]
   rw [e1]
   simp only [aD,ng]
   rw [e2]
   simp only [ba,dZ,Prod.mk.injEq,and_true]
   rw [bo,List.range_succ_eq_map,bu,cx]
   simp only [List.singleton_append,ng,List.append_cancel_left_eq,List.cons.injEq,true_and]
   apply cm
   intro j _
   simp only [Function.comp]
   congr 1;omega
noncomputable def Bf (n:Nat) (g:Nat->U):U := .tup ((aA n).map g)
theorem pw {n:Nat} (h:n < big):okR (n:Int):=by
 unfold big at h
 exact⟨by exact kl _,by omega⟩
theorem mH {ρ:Rho}{S S0:Sto}{a:ME}{u:U} (ha:a ρ S=some (u,S0)):aa a af ρ S=some ([u],S0):=by
 simp only [aa,af,ha,aD]
theorem HW {ρ:Rho}{S S0:Sto}{a:MA}{j:Int} (ha:a ρ S=some ([.int j],S0)) (h:okR j):iR1 a ρ S=some (.imm (bg 0 j.toNat),S0):=by
 unfold iR1
 rw [ha]
 exact if_pos h
theorem lF {ρ:Rho}{S S0:Sto}{a:ME}{n:Nat} (ha:a ρ S=some (.int n,S0)) (h:n < big):iR1 (aa a af) ρ S=some (.imm (bg 0 n),S0):=by
 rw [HW (mH ha) (pw h),bN]
theorem pB {ρ:Rho}{S S0 S1:Sto}{it:MI}{t:MT}{e:ME}{us ys:List U} (hi:it ρ S=some (.imm us,S0)) (h:gF t e ρ us [] S0=some (ys,S1)) (hz:ys.length < big):cU it t e ρ S=some (.ref S1.length,S1 ++ [.lst ys]):=by
 simp only [cU,hi,aD,Fi,h]
 exact if_pos hz
theorem iN {ρ:Rho}{S S1:Sto}{a:ME}{ys:List U} (h:a ρ S=some (.ref S1.length,S1 ++ [.lst ys])):mFn b5 (aa a af) ρ S=some (.tup ys,S1 ++ [.lst ys]):=by
 unfold mFn
 rw [mH h]
 show (dr (S1 ++ [Cell.lst ys]) (.ref S1.length)).map _=_
 have:dr (S1 ++ [Cell.lst ys]) (.ref S1.length)=some ys:=by
  show getL (S1 ++ [Cell.lst ys]) S1.length=_
  unfold getL
  rw [ax (aq _)]
  simp
 rw [this];rfl
theorem FC {ρ:Rho}{S S0:Sto}{a e:ME}{n:Nat} (ha:a ρ S=some (.int n,S0)) (hn:n < big) (g:Nat->U) (P:Nat->Sto->Prop) (h0:P 0 S0)
  (hs : ∀ (j:Nat) (S:Sto),j < n->P j S -> ∃ S',e (ρ ++ [some (.int j)]) S=some (g j,S')/\P (j+1) S') :
  ∃ S',mFn b5 (aa (cU (iR1 (aa a af)) cTT e) af) ρ S=some (Bf n g,S' ++ [.lst ((aA n).map g)])/\P n S':=by
 obtain⟨S1,e1,h1⟩:=oi (e:=e) (ρ:=ρ) g P (bg 0 n) 0 [] S0 h0 fun j u S hj hp=>by
  have hl:j < n:=by have:=(ag.mp hj).1;simpa [bg] using this
  have hu:(bg 0 n)[j]? = some (.int j):=by simp [bg,hl]
  rw [hu] at hj;cases hj
  simpa using hs j S hl (by simpa using hp)
 have hlen:(bg 0 n).length=n:=by simp [bg]
 simp only [hlen,eC,ei] at e1 h1
 exact⟨S1,iN (pB (lF ha hn) e1 (by rw [ay,bz];exact hn)),h1⟩
theorem Io {ρ:Rho}{S S0:Sto}{a e:ME}{us:List U} (ha:a ρ S=some (.tup us,S0)) (hn:us.length < big) (g:Nat->U) (P:Nat->Sto->Prop) (h0:P 0 S0)
  (hs : ∀ (j:Nat) (u:U) (S:Sto),us[j]? = some u->P j S -> ∃ S',e (ρ ++ [some u]) S=some (g j,S')/\P (j+1) S') :
  ∃ S',mFn b5 (aa (cU (cZ a) cTT e) af) ρ S=some (Bf us.length g,S' ++ [.lst ((aA us.length).map g)])/\P us.length S':=by
 obtain⟨S1,e1,h1⟩:=oi (e:=e) (ρ:=ρ) g P us 0 [] S0 h0 fun j u S hj hp=>by
  simpa using hs j u S hj (by simpa using hp)
 simp only [eC,ei] at e1 h1
 exact⟨S1,iN (pB (it:=cZ a) (us:=us) (by unfold cZ;rw [ha];rfl) e1 (by rw [ay,bz];exact hn)),h1⟩
noncomputable def o6 (m:Nat) (T:Nat->Nat->Nat) (i:Nat):U:=Bf m fun j => .int (T i j)
noncomputable def tab (m:Nat) (T:Nat->Nat->Nat):U:=Bf m (o6 m T)
theorem lM {α:Type}{f:Nat->α}{m i:Nat} (h:i < m):atI ((aA m).map f) (i:Int)=some (f i):=by
 simp [atI,ixN,h]
theorem nj {n:Nat}{S:Sto} (h:0 < n) (hn:n < big) : ∃ S',df [.int n] S=some (tab n (d8 n),S')/\Ex S S':=by
 have key : ∃ S',mFn b5 (aa (cU (iR1 (aa (ab 0) af)) cTT (mFn b5 (aa (cU (iR1 (aa (ab 0) af)) cTT (m2 oMod (m2 bC (ab 1) (ab 2)) (ab 0))) af))) af) [some (.int n)] S=some (Bf n (o6 n (d8 n)),S' ++ [.lst ((aA n).map (o6 n (d8 n)))])/\Ex S S':=by
  refine FC (S0:=S) (by simp [ab]) hn _ (fun _ S'=>Ex S S') (Ex.refl S) fun i S1 hi hx => ?_
  obtain⟨S2,e2,h2⟩:=FC (ρ := [some (.int n),some (.int i)]) (S:=S1) (S0:=S1) (a:=ab 0) (e:=m2 oMod (m2 bC (ab 1) (ab 2)) (ab 0)) (n:=n) (by simp [ab]) hn (fun j => .int (d8 n i j)) (fun _ S'=>S'=S1) rfl fun j S' hj hx=>by
   refine⟨S',?_,hx⟩
   have h0:(0:Int) < n:=by omega
   simp only [m2,ab,List.cons_append,ei,Al,lV,aD,bC,oMod,h0,if_true,d8,mq,wM]
  subst h2
  exact⟨S2 ++ [_],e2,hx.trans (Ex.push _ _)⟩
 obtain⟨S',e,hx⟩:=key
 refine⟨S' ++ [.lst ((aA n).map (o6 n (d8 n)))],?_,hx.trans (Ex.push _ _)⟩
 simp only [df,G.run,kY,dh,bo,bT,bu,ij,CC,List.replicate_zero,fe,if_true,e,aD,tab]
end
end W
end
section
namespace W
open L2 G
section
theorem sf {n:Nat} (h:0 < n) (h2:n < 1000):qA (n:Int):=⟨by omega,by omega⟩
theorem pq {i j:Int} (h1 : -1000000000<=i) (h2:i<=1000000000):jq i j := .inl ⟨by omega,by omega⟩
theorem rL {n:Nat}{j:Int} (h:n < 1000000):jq (n:Int) j:=pq (by exact kl _) (by omega)
noncomputable def Agr (L:List Nat) (ρ0 ρ:Rho):Prop:=ρ.length=ρ0.length /\ ∀ i,i∉L->ρ[i]? = ρ0[i]?
theorem Agr.refl (L:List Nat) (ρ:Rho):Agr L ρ ρ:=⟨rfl,fun _ _=>rfl⟩
theorem Agr.set {L:List Nat}{ρ0 ρ:Rho}{i:Nat}{v:Option U} (h:Agr L ρ0 ρ) (hi:i∈L):Agr L ρ0 (ρ.set i v):=
 ⟨by rw [dN];exact h.1,fun j hj=>by rw [aH (by rintro rfl;exact hj hi)];exact h.2 j hj⟩
structure Sm (b:Nat) (S0 S:Sto):Prop where
 len:S0.length<=S.length
 same : ∀ m,m < b->S[m]? = S0[m]?
theorem Sm.trans {b:Nat}{S0 S1 S2:Sto} (a:Sm b S0 S1) (c:Sm b S1 S2):Sm b S0 S2:=⟨be a.len c.len,fun m h=>(c.same m h).trans (a.same m h)⟩
theorem Sm.ex {b:Nat}{S0 S:Sto} (h:Ex S0 S) (hb:b<=S0.length):Sm b S0 S:=⟨h.len,fun m hm=>h.get (ai hm hb)⟩
theorem Sm.set {b n:Nat}{S0 S:Sto}{c:Cell} (h:Sm b S0 S) (hn:b<=n):Sm b S0 (S.set n c):=
 ⟨by rw [dN];exact h.len,fun m hm=>by rw [aH (by omega)];exact h.same m hm⟩
structure Wr (r:Nat) (S S':Sto):Prop where
 len:S.length<=S'.length
 same : ∀ m,m < S.length->m≠r->S'[m]? = S[m]?
theorem Wr.trans {r:Nat}{S S1 S2:Sto} (a:Wr r S S1) (b:Wr r S1 S2):Wr r S S2:=
 ⟨be a.len b.len,fun m h1 h2=>(b.same m (ai h1 a.len) h2).trans (a.same m h1 h2)⟩
theorem Wr.refl (r:Nat) (S:Sto):Wr r S S:=⟨aq _,fun _ _ _=>rfl⟩
theorem Wr.ex {r:Nat}{S S':Sto} (h:Ex S S'):Wr r S S':=⟨h.len,fun m hm _=>h.get hm⟩
theorem Wr.set (r:Nat) (S:Sto) (c:Cell):Wr r S (S.set r c):=⟨by simp,fun m _ h=>aH (cY h)⟩
theorem Wr.sm {r b:Nat}{S S':Sto} (h:Wr r S S') (hb:b<=r) (hr:b<=S.length):Sm b S S':=⟨h.len,fun m hm=>h.same m (by exact ai (by assumption) (by assumption)) (by omega)⟩
theorem nM {ρ:Rho}{i:Nat}{v:Option U} (h:i < ρ.length):(ρ.set i v)[i]? = some v:=aL h
theorem var_eq {ρ:Rho}{S:Sto}{i:Nat}{u:U} (h:ρ[i]? = some (some u)):ab i ρ S=some (u,S):=by simp only [ab,h]
theorem B0 {ρ:Rho}{S:Sto}{i:Nat}{a:ME}{n:Nat}{b:MS} (ha:a ρ S=some (.int n,S)) (h:n < big):eB i (iR1 (aa a af)) b ρ S=pQ i b (bg 0 n) ρ S:=by
 unfold eB
 rw [lF ha h]
 rfl
theorem lL {ρ:Rho}{S:Sto}{i:Nat}{a:ME}{n:Nat}{b:MS} (ha:a ρ S=some (.int n,S)) (h:n < big) (P:Nat->Rho->Sto->Prop) (h0:P 0 ρ S)
  (st : ∀ (j:Nat) (ρ:Rho) (S:Sto),j < n->P j ρ S -> ∃ ρ' S',b (ρ.set i (some (.int j))) S=some (.nx,ρ',S')/\P (j+1) ρ' S') :
  ∃ ρ' S',eB i (iR1 (aa a af)) b ρ S=some (.nx,ρ',S')/\P n ρ' S':=by
 rw [B0 ha h]
 obtain⟨ρ',S',e,q⟩:=nU (i:=i) (b:=b) P (bg 0 n) 0 ρ S h0 fun j u ρ S hj hp=>by
  have hl:j < n:=by have:=(ag.mp hj).1;simpa [bg] using this
  have hu:(bg 0 n)[j]? = some (.int j):=by simp [bg,hl]
  rw [hu] at hj;cases hj
  simpa using st j ρ S hl (by simpa using hp)
 have hlen:(bg 0 n).length=n:=by simp [bg]
 rw [hlen,eC] at q
 exact⟨ρ',S',e,q⟩
theorem append_eq {ρ:Rho}{S S1:Sto}{o a:ME}{r:Nat}{u:U}{row:List U} (ho:o ρ S=some (.ref r,S)) (ha:a ρ S=some (u,S1)) (hr:S[r]? = some (Cell.lst row)) (hr1:S1[r]? = some (Cell.lst row)) (hl:row.length < big) :
  dj (mML cn o (aa a af)) ρ S=some (.nx,ρ,S1.set r (Cell.lst (row ++ [u]))):=by
 simp only [dj,mML,ho,aD,getL,hr,ah,mH ha,cn,hr1,hl,if_true]
theorem jP {ρ:Rho}{S:Sto}{a:ME}{r:Nat}{row:List U} (ha:a ρ S=some (.ref r,S)) (hr:S[r]? = some (Cell.lst row)):mFn b5 (aa a af) ρ S=some (.tup row,S):=by
 simp only [mFn,mH ha,aD,b5,dr,getL,hr,aN]
theorem build {fs rs is js:Nat}{L:List Nat}{ρ0:Rho}{S0:Sto}{bIn:MS}{a:ME}{m:Nat}{T:Nat->Nat->Nat} (hm:m < big) (h1:rs∈L) (h2:is∈L) (h3:js∈L) (h4:fs∉L) (d1:rs≠is) (d2:js≠is) (d3:js≠rs)
  (l1:rs < ρ0.length) (l2:is < ρ0.length) (l3:js < ρ0.length) (hf:ρ0[fs]? = some (some (.ref S0.length)))
  (ha : ∀ ρ S,Agr L ρ0 ρ->Sm S0.length S0 S->a ρ S=some (.int m,S))
  (hb : ∀ (i j r:Nat) (ρ:Rho) (S:Sto) (row:List U),i < m->j < m->Agr L ρ0 ρ->ρ[is]? = some (some (.int i))->ρ[js]? = some (some (.int j))->ρ[rs]? = some (some (.ref r))->Sm S0.length S0 S->S0.length < r->S[r]? = some (Cell.lst row)->row.length < big ->
   ∃ ρ' S',bIn ρ S=some (.nx,ρ',S')/\Agr L ρ0 ρ'/\ρ'[is]? = some (some (.int i))/\ρ'[rs]? = some (some (.ref r))/\Wr r S S'/\S'[r]? = some (Cell.lst (row ++ [.int (T i j)]))) :
  ∃ ρ' S',eB is (iR1 (aa a af)) (bf (bB rs (b4 af)) (bf (eB js (iR1 (aa a af)) bIn) (dj (mML cn (ab fs) (aa (mFn b5 (aa (ab rs) af)) af))))) ρ0 (S0 ++ [Cell.lst []])=some (.nx,ρ',S') /\
   Agr L ρ0 ρ'/\Sm S0.length S0 S'/\S'[S0.length]? = some (Cell.lst ((aA m).map (o6 m T))):=by
 have s0:Sm S0.length S0 (S0 ++ [Cell.lst []]):=Sm.ex (Ex.push _ _) (aq _)
 refine lL (P:=fun k ρ S=>Agr L ρ0 ρ/\Sm S0.length S0 S/\S0.length < S.length/\S[S0.length]? = some (Cell.lst ((aA k).map (o6 m T)))) (ha _ _ (Agr.refl _ _) s0) hm ⟨Agr.refl _ _,s0,by simp,by rw [ax (aq _)];simp⟩ ?_ |>.imp fun ρ' h=>h.imp fun S' h=>⟨h.1,h.2.1,h.2.2.1,h.2.2.2.2⟩
 rintro i ρ S hi ⟨g1,g2,g3,g4⟩
 have r0:S.length < (S ++ [Cell.lst ([]:List U)]).length:=by simp
 have e0:bB rs (b4 af) (ρ.set is (some (.int i))) S=some (.nx,(ρ.set is (some (.int i))).set rs (some (.ref S.length)),S ++ [Cell.lst []]):=by
  have hz:([]:List U).length<=big:=da _
  simp only [bB,b4,af,aD,hz,if_true]
 have ga:Agr L ρ0 ((ρ.set is (some (.int i))).set rs (some (.ref S.length))):=(g1.set h2).set h1
 have gs:Sm S0.length S0 (S ++ [Cell.lst ([]:List U)]):=g2.trans (Sm.ex (Ex.push _ _) g2.len)
 obtain⟨ρ1,S1,e1,q1,q2,q3,q4,q5⟩:=lL (b:=bIn) (i:=js) (P:=fun k ρ1 S1=>Agr L ρ0 ρ1/\ρ1[is]? = some (some (.int i))/\ρ1[rs]? = some (some (.ref S.length))/\Wr S.length (S ++ [Cell.lst ([]:List U)]) S1/\S1[S.length]? = some (Cell.lst ((aA k).map fun j => .int (T i j))))
  (ha _ _ ga gs) hm ⟨ga,by rw [aH d1,nM (by rw [g1.1];exact l2)],by rw [nM (by rw [dN,g1.1];exact l1)],Wr.refl _ _,by rw [ax (aq _)];simp⟩ (by
   rintro j ρ1 S1 hj ⟨q1,q2,q3,q4,q5⟩
   have sm1:Sm S0.length S0 S1:=gs.trans (q4.sm (cK g3) (by simp;omega))
   obtain⟨ρ2,S2,f1,f2,f3,f4,f5,f6⟩:=hb i j S.length (ρ1.set js (some (.int j))) S1 _ hi hj (q1.set h3) (by rw [aH d2];exact q2) (nM (by rw [q1.1];exact l3)) (by rw [aH d3];exact q3) sm1 g3 q5 (by rw [ay,bz];exact dq (by assumption) (by assumption))
   exact⟨ρ2,S2,f1,f2,f3,f4,q4.trans f5,by rw [f6,dO,cH];rfl⟩)
 have g5:S1[S0.length]? = some (Cell.lst ((aA i).map (o6 m T))):=by
  rw [q4.same _ (by simp;exact kA (by assumption)) (by exact aG (by assumption)),(Ex.push S _).get g3];exact g4
 have sm1:Sm S0.length S0 S1:=gs.trans (q4.sm (cK g3) (by simp;omega))
 have hfv:ab fs ρ1 S1=some (.ref S0.length,S1):=var_eq (by rw [q1.2 fs h4];exact hf)
 have e2:=append_eq (o:=ab fs) hfv (jP (a:=ab rs) (var_eq q3) q5) g5 g5 (by rw [ay,bz];exact dq (by assumption) (by assumption))
 refine⟨ρ1,S1.set S0.length (Cell.lst ((aA (i+1)).map (o6 m T))),?_,q1,sm1.set (aq _),?_,?_⟩
 ·simp only [bf,e0,e1,e2]
  rw [dO,cH];rfl
 ·rw [dN];have:=q4.len;simp at this;exact dq (by assumption) (by assumption)
 ·exact aL (by have:=q4.len;simp at this;exact dq (by assumption) (by assumption))
noncomputable def pz:MS:=bf (bB 5 (m2 oMod (m2 bC (m2 oMod (ab 2) (ab 0)) (m2 fv (m2 oIx (b4 (aa (mC (.int 1)) (aa (m1 eK (mC (.int 1))) af))) (m2 oDiv (ab 2) (ab 0))) (m2 oMod (ab 4) (ab 0)))) (ab 0))) (dj (mML cn (ab 3) (aa (m2 bC (ab 5) (m2 fv (ab 0) (m2 oMod (m2 bC (m2 oDiv (ab 2) (ab 0)) (m2 oDiv (ab 4) (ab 0))) (mC (.int 2))))) af)))
theorem Aa {n i j c:Int}{f r:Nat}{x y:Option U}{S:Sto}{row:List U} (h0:0 < n) (hd:qA n) (hc:atI [U.int 1,U.int (-1)] (i / n)=some (.int c)) (k1:jq c (j % n)) (k2:jq n ((i / n+j / n) % 2))
  (hr:(S ++ [Cell.lst [U.int 1,U.int (-1)]])[r]? = some (Cell.lst row)) (hl:row.length < big) :
  pz ([some (U.int n),some (U.ref f),some (U.int i),some (U.ref r),x,y].set 4 (some (U.int j))) S =
   some (Fl.nx,[some (U.int n),some (U.ref f),some (U.int i),some (U.ref r),some (U.int j),some (U.int ((i % n+c*(j % n)) % n))],(S ++ [Cell.lst [U.int 1,U.int (-1)]]).set r (Cell.lst (row ++ [U.int ((i % n+c*(j % n)) % n+n*((i / n+j / n) % 2))]))):=by
 have hb2:2<=big:=by decide
 simp [pz,bf,bB,m2,m1,ab,mC,b4,aa,af,bnd,oMod,bC,fv,oDiv,oIx,fR,eK,dr,getL,h0,hd,hb2,hc,k1,k2,dj,mML,cn,hr,hl]
theorem Cd {n i j f r:Nat}{x y:Option U}{S:Sto}{row:List U} (hn:0 < n) (hn2:n < 1000) (hi:i < 2*n) (hj:j < 2*n) (hr:S[r]? = some (Cell.lst row)) (hl:row.length < big) :
  ∃ z,pz ([some (U.int n),some (U.ref f),some (U.int i),some (U.ref r),x,y].set 4 (some (U.int j))) S =
   some (Fl.nx,[some (U.int n),some (U.ref f),some (U.int i),some (U.ref r),some (U.int j),z],(S ++ [Cell.lst [U.int 1,U.int (-1)]]).set r (Cell.lst (row ++ [U.int (fQ n i j:Nat)]))):=by
 have hd:=sf hn hn2
 have h0:(0:Int) < n:=by omega
 have hr2:=(Ex.push S (Cell.lst [U.int 1,U.int (-1)])).some hr
 have hk:jq (n:Int) (((i:Int) / n+j / n) % 2):=rL (by exact ai (by assumption) (by decide))
 have hc : ∃ c:Int,atI [U.int 1,U.int (-1)] ((i:Int) / n)=some (.int c)/\jq c ((j:Int) % n)/\((i:Int) % n+c*((j:Int) % n)) % n+n*(((i:Int) / n+j / n) % 2)=(fQ n i j:Nat):=by
  rcases half hi with⟨h1,h2,h3⟩ | ⟨h1,h2,h3⟩
  ·refine⟨1,?_,pq (by decide) (by decide),?_⟩
   ·have:(i:Int) / n=0:=by rw [<- uz,h3];rfl
    rw [this];rfl
   ·unfold fQ
    rw [if_pos h1,Int.one_mul]
    push_cast
    rfl
  ·refine⟨-1,?_,pq (by decide) (by decide),?_⟩
   ·have:(i:Int) / n=1:=by rw [<- uz,h3];rfl
    rw [this];rfl
   ·unfold fQ
    have hjm:j % n < n:=kg _ hn
    rw [if_neg (by omega)]
    have e1:((i:Int) % n + -1*((j:Int) % n)) % n=((i % n+(n - j % n)) % n:Nat):=by
     have e2:((n - j % n:Nat):Int)=(n:Int) - (j:Int) % n:=by omega
     rw [mq,wM,e2,mq]
     rw [show (i:Int) % n+((n:Int) - (j:Int) % n)=((i:Int) % n + -1*((j:Int) % n))+n by omega,Int.add_emod_right]
    rw [e1]
    push_cast
    rfl
 obtain⟨c,c1,c2,c3⟩:=hc
 rw [<- c3]
 exact⟨_,Aa h0 hd c1 c2 hk hr2 hl⟩
end
end W
end
section
namespace W
open L2 G
section
theorem aY {a b:MS}{ρ ρ1:Rho}{S S1:Sto} (h:a ρ S=some (.nx,ρ1,S1)):bf a b ρ S=b ρ1 S1:=by simp only [bf,h]
theorem b8 {e:ME}{ρ:Rho}{S S1:Sto}{u:U} (h:e ρ S=some (u,S1)):dh e ρ S=some (.rt u,ρ,S1):=by simp only [dh,h,aD]
theorem bR {e:ME}{ρ:Rho}{S S1:Sto}{u:U}{i:Nat} (h:e ρ S=some (u,S1)):bB i e ρ S=some (.nx,ρ.set i (some u),S1):=by simp only [bB,h,aD]
theorem j5 {ρ:Rho}{S:Sto}:b4 af ρ S=some (.ref S.length,S ++ [Cell.lst []]):=by
 have hz:([]:List U).length<=big:=da _
 simp only [b4,af,aD,hz,if_true]
theorem cz {k n:Nat}{b:MS}{us:List U}{S S1:Sto}{u:U}{ρ:Rho} (hl:us.length=k) (h:b (us.map some++aE (n - k) none) S=some (.rt u,ρ,S1)):G.run k n b us S=some (u,S1):=by
 simp only [G.run,hl,if_true,h]
theorem Sm.toEx {S S':Sto} (h:Sm S.length S S'):Ex S S':=by
 refine⟨S'.drop S.length,List.ext_getElem? fun i => ?_⟩
 by_cases hi:i < S.length
 ·rw [aS hi];exact h.same i hi
 ·rw [ax (by exact eP (by assumption)),List.getElem?_drop];congr 1;omega
theorem Ls {ρ:Rho} (h:ρ.length=6) : ∃ a b c d e f,ρ = [a,b,c,d,e,f]:=by
 match ρ,h with
 | [a,b,c,d,e,f],_=>exact⟨a,b,c,d,e,f,rfl⟩
theorem wA {n:Nat}{S:Sto} (hn:0 < n) (hn2:n < 1000) : ∃ S',eZ [.int n] S=some (tab (2*n) (fQ n),S')/\Ex S S':=by
 have hbig:2*n < big:=by unfold big;omega
 obtain⟨ρ1,S1,e1,q1,q2,q3⟩:=build (fs:=1) (rs:=3) (is:=2) (js:=4) (L := [2,3,4,5]) (ρ0 := [some (.int n),some (.ref S.length),none,none,none,none]) (S0:=S) (bIn:=pz) (a:=m2 fv (mC (.int 2)) (ab 0)) (m:=2*n) (T:=fQ n)
  hbig (by decide) (by decide) (by decide) (by decide) (by decide) (by decide) (by decide) (by simp) (by simp) (by simp) rfl
  (fun ρ S' g s=>by
   have h0:ρ[0]? = some (some (.int n)):=g.2 0 (by decide)
   have hk:jq 2 (n:Int):=pq (by decide) (by decide)
   simp only [m2,mC,aD,var_eq h0,fv,hk,if_true]
   rfl)
  (fun i j r ρ S' row hi hj g gi gj gr s hr he hl=>by
   obtain⟨a,b,c,d,e,f,rfl⟩:=Ls g.1
   have h0:some a=some (some (.int n)):=g.2 0 (by decide)
   have h1:some b=some (some (.ref S.length)):=g.2 1 (by decide)
   simp only [dZ,Al,lV] at h0 h1 gi gj gr
   subst h0 h1 gi gj gr
   obtain⟨z,ez⟩:=Cd (f:=S.length) (x:=none) (y:=f) hn hn2 hi hj he hl
   refine⟨_,_,ez,⟨rfl,fun k hk => ?_⟩,rfl,rfl,(Wr.ex (Ex.push _ _)).trans (Wr.set _ _ _),?_⟩
   ·match k with
    | 0=>rfl
    | 1=>rfl
    | 2=>exact absurd (by decide) hk
    | 3=>exact absurd (by decide) hk
    | 4=>exact absurd (by decide) hk
    | 5=>exact absurd (by decide) hk
    | k+6=>rfl
   ·exact aL (by have:=(ag.mp he).1;simp;exact kA (by assumption)))
 have e2:mFn b5 (aa (ab 1) af) ρ1 S1=some (tab (2*n) (fQ n),S1):=jP (var_eq (by rw [q1.2 1 (by decide)];rfl)) q3
 refine⟨S1,cz (ρ:=ρ1) rfl ?_,?_⟩
 ·show lr [some (.int n),none,none,none,none,none] S=_
  exact (aY (bR j5)).trans ((aY e1).trans (b8 e2))
 ·exact q2.toEx
end
end W
end
section
namespace W
open L2 G
section
section
variable {ρ:Rho}{S S1 S2:Sto}{a b:ME}
theorem op2 {f:F2}{x y:U}{r:Res U} (ha:a ρ S=some (x,S1)) (hb:b ρ S1=some (y,S2)) (h:f x y S2=r):m2 f a b ρ S=r:=by simp only [m2,ha,hb,aD,h]
theorem zz {us:List U}{z:Int}{u:U} (ha:a ρ S=some (.tup us,S1)) (hb:b ρ S1=some (.int z,S2)) (h:atI us z=some u):m2 oIx a b ρ S=some (u,S2):=op2 ha hb (by simp only [oIx,fR,dr,ah,h,aN])
theorem rh {n:Nat}{us:List U}{z:Int}{u:U} (ha:a ρ S=some (.ref n,S1)) (hb:b ρ S1=some (.int z,S2)) (hn:S2[n]? = some (Cell.lst us)) (h:atI us z=some u):m2 oIx a b ρ S=some (u,S2):=op2 ha hb (by simp only [oIx,fR,dr,getL,hn,ah,h,aN])
theorem Ji {x y:Int} (ha:a ρ S=some (.int x,S1)) (hb:b ρ S1=some (.int y,S2)):m2 bC a b ρ S=some (.int (x+y),S2):=op2 ha hb rfl
theorem Cu {x y:Int} (ha:a ρ S=some (.int x,S1)) (hb:b ρ S1=some (.int y,S2)):m2 h9 a b ρ S=some (.int (x - y),S2):=op2 ha hb rfl
theorem Kj {x y:Int} (ha:a ρ S=some (.int x,S1)) (hb:b ρ S1=some (.int y,S2)) (h:jq x y):m2 fv a b ρ S=some (.int (x*y),S2):=op2 ha hb (if_pos h)
theorem IC {x y:Int} (ha:a ρ S=some (.int x,S1)) (hb:b ρ S1=some (.int y,S2)) (h:qA y):m2 oDiv a b ρ S=some (.int (x / y),S2):=op2 ha hb (if_pos h)
theorem Fh {x y:Int} (ha:a ρ S=some (.int x,S1)) (hb:b ρ S1=some (.int y,S2)) (h:0 < y):m2 oMod a b ρ S=some (.int (x % y),S2):=op2 ha hb (if_pos h)
theorem c_i {z:Int}:mC (.int z) ρ S=some (.int z,S):=rfl
theorem oP {us:List U} (ha:a ρ S=some (.tup us,S1)):mFn bq (aa a af) ρ S=some (.int us.length,S1):=by
 simp only [mFn,mH ha,aD,bq,fR,dr,aN]
theorem len_tab {m:Nat}{T:Nat->Nat->Nat} (ha:a ρ S=some (tab m T,S1)):mFn bq (aa a af) ρ S=some (.int m,S1):=by
 rw [oP (us:=(aA m).map (o6 m T)) ha,ay,bz]
theorem m5 {m i:Nat}{T:Nat->Nat->Nat} (hi:i < m) (ha:a ρ S=some (tab m T,S1)) (hb:b ρ S1=some (.int i,S2)):m2 oIx a b ρ S=some (o6 m T i,S2):=zz ha hb (lM hi)
theorem mU {m i j:Nat}{T:Nat->Nat->Nat} (hj:j < m) (ha:a ρ S=some (o6 m T i,S1)) (hb:b ρ S1=some (.int j,S2)):m2 oIx a b ρ S=some (.int (T i j),S2):=zz ha hb (lM hj)
theorem rN {x y:Nat} (ha:a ρ S=some (.int x,S1)) (hb:b ρ S1=some (.int y,S2)) (h:0 < y) (h2:y < 1000):m2 oDiv a b ρ S=some (.int (x / y:Nat),S2):=by rw [IC ha hb (sf h h2),uz]
theorem Bl {x y:Nat} (ha:a ρ S=some (.int x,S1)) (hb:b ρ S1=some (.int y,S2)) (h:0 < y):m2 oMod a b ρ S=some (.int (x % y:Nat),S2):=by rw [Fh ha hb (by omega),mq]
theorem Bj {x y:Nat} (ha:a ρ S=some (.int x,S1)) (hb:b ρ S1=some (.int y,S2)) (h:x < 1000000):m2 fv a b ρ S=some (.int (x*y:Nat),S2):=by rw [Kj ha hb (rL h),Int.natCast_mul]
theorem add_n {x y:Nat} (ha:a ρ S=some (.int x,S1)) (hb:b ρ S1=some (.int y,S2)):m2 bC a b ρ S=some (.int (x+y:Nat),S2):=by rw [Ji ha hb,wM]
end
theorem Agr.of {L:List Nat}{ρ0 ρ:Rho}{i:Nat}{v:Option U} (h:Agr L ρ0 ρ) (hi:i∉L) (e:ρ0[i]? = some v):ρ[i]? = some v:=(h.2 i hi).trans e
noncomputable def H9:MS:=bf (bB 7 (m2 oIx (m2 oIx (ab 0) (m2 oDiv (ab 4) (ab 2))) (m2 oDiv (ab 6) (ab 2)))) (dj (mML cn (ab 5) (aa (m2 bC (m2 fv (ab 7) (ab 2)) (m2 oIx (m2 oIx (ab 1) (m2 oMod (ab 4) (ab 2))) (m2 oMod (ab 6) (ab 2)))) af)))
theorem Dm {k m:Nat}{A B:Nat->Nat->Nat}{S:Sto} (hk:0 < k) (hk2:k < 1000) (hm:0 < m) (hm2:m < 1000) (ca : ∀ i j,i < k->j < k->A i j < k) : ∃ S',jW [tab k A,tab m B] S=some (tab (k*m) (nX m A B),S')/\Ex S S':=by
 have hkm:k*m < 1000000:=by
  calc k*m<=999*m:=fP m (by exact ix (by assumption))
   _<=999*999:=pe 999 (by exact ix (by assumption))
   _ < 1000000:=by decide
 have hbig:k*m < big:=by unfold big;exact ai (by assumption) (by decide)
 have dl : ∀ i,i < k*m->i / m < k:=fun i hi=>Nat.div_lt_of_lt_mul (by rw [iw];exact hi)
 have rl : ∀ i,i % m < m:=fun i=>kg _ hm
 obtain⟨ρ1,S1,e1,q1,q2,q3⟩:=build (fs:=3) (rs:=5) (is:=4) (js:=6) (L := [4,5,6,7]) (ρ0 := [some (tab k A),some (tab m B),some (.int m),some (.ref S.length),none,none,none,none]) (S0:=S) (bIn:=H9) (a:=m2 fv (mFn bq (aa (ab 0) af)) (ab 2)) (m:=k*m) (T:=nX m A B)
  hbig (by decide) (by decide) (by decide) (by decide) (by decide) (by decide) (by decide) (by simp) (by simp) (by simp) rfl
  (fun ρ S' g s=>Bj (len_tab (var_eq (g.of (by decide) rfl))) (var_eq (g.of (by decide) rfl)) (by exact ai (by assumption) (by decide)))
  (fun i j r ρ S' row hi hj g gi gj gr s hr he hl=>by
   have v0 : ∀ S',ab 0 ρ S'=some (tab k A,S'):=fun S'=>var_eq (g.of (by decide) rfl)
   have v2 : ∀ S',ab 2 ρ S'=some (.int m,S'):=fun S'=>var_eq (g.of (by decide) rfl)
   have e7:m2 oIx (m2 oIx (ab 0) (m2 oDiv (ab 4) (ab 2))) (m2 oDiv (ab 6) (ab 2)) ρ S'=some (.int (A (i / m) (j / m)),S'):=
    mU (dl j hj) (m5 (dl i hi) (v0 _) (rN (var_eq gi) (v2 _) hm hm2)) (rN (var_eq gj) (v2 _) hm hm2)
   have hlen:ρ.length=8:=g.1
   have g':Agr [4,5,6,7] _ (ρ.set 7 (some (.int (A (i / m) (j / m))))):=g.set (by decide)
   have w2 : ∀ S',ab 2 (ρ.set 7 (some (.int (A (i / m) (j / m))))) S'=some (.int m,S'):=fun S'=>var_eq (g'.of (by decide) rfl)
   have w1 : ∀ S',ab 1 (ρ.set 7 (some (.int (A (i / m) (j / m))))) S'=some (tab m B,S'):=fun S'=>var_eq (g'.of (by decide) rfl)
   have w7 : ∀ S',ab 7 (ρ.set 7 (some (.int (A (i / m) (j / m))))) S'=some (.int (A (i / m) (j / m)),S'):=fun S'=>var_eq (nM (by omega))
   have n4:(ρ.set 7 (some (.int (A (i / m) (j / m)))))[4]? = some (some (.int i)):=by rw [aH (by decide)];exact gi
   have n5:(ρ.set 7 (some (.int (A (i / m) (j / m)))))[5]? = some (some (.ref r)):=by rw [aH (by decide)];exact gr
   have n6:(ρ.set 7 (some (.int (A (i / m) (j / m)))))[6]? = some (some (.int j)):=by rw [aH (by decide)];exact gj
   have hA:A (i / m) (j / m) < 1000000:=dq (ca _ _ (dl i hi) (dl j hj)) (by exact ai (by assumption) (by decide))
   have ev:m2 bC (m2 fv (ab 7) (ab 2)) (m2 oIx (m2 oIx (ab 1) (m2 oMod (ab 4) (ab 2))) (m2 oMod (ab 6) (ab 2))) (ρ.set 7 (some (.int (A (i / m) (j / m))))) S'=some (.int (nX m A B i j:Nat),S'):=
    add_n (Bj (w7 _) (w2 _) hA) (mU (rl j) (m5 (rl i) (w1 _) (Bl (var_eq n4) (w2 _) hm)) (Bl (var_eq n6) (w2 _) hm))
   exact⟨_,_,(aY (bR e7)).trans (append_eq (var_eq n5) ev he he hl),g',n4,n5,Wr.set _ _ _,aL (ag.mp he).1⟩)
 have e2:mFn b5 (aa (ab 3) af) ρ1 S1=some (tab (k*m) (nX m A B),S1):=jP (var_eq (q1.of (by decide) rfl)) q3
 refine⟨S1,cz (ρ:=ρ1) rfl ?_,q2.toEx⟩
 show m3 [some (tab k A),some (tab m B),none,none,none,none,none,none] S=_
 exact (aY (bR (len_tab (var_eq rfl)))).trans ((aY (bR j5)).trans ((aY e1).trans (b8 e2)))
end
end W
end
section
namespace W
open L2 G
section
noncomputable def mY:Nat->Nat->Nat:=fun a b=>([[0,0,0,0],[0,1,0,1],[0,1,1,0],[0,0,1,1]].getD a []).getD b 0
noncomputable def vv:Nat->Nat->Nat:=fun a b=>([[0,1,2,3],[1,0,3,2],[2,3,0,1],[3,2,1,0]].getD a []).getD b 0
noncomputable def ve (i j:Nat):Nat:=2*vv (i / 2) (j / 2)+(i+j+mY (i / 2) (j / 2)) % 2
theorem Ax:((aA 8).all fun i=>(aA 8).all fun j=>ve i j == ft i j)=true:=by decide +kernel
theorem zu {i j:Nat} (hi:i < 8) (hj:j < 8):ve i j=ft i j:=by
 have h:=bx.mp (bx.mp Ax i (bb.mpr hi)) j (bb.mpr hj)
 exact eq_of_beq h
noncomputable def Dk:MS:=bf (bB 6 (m2 oMod (m2 bC (m2 bC (ab 3) (ab 5)) (m2 oIx (m2 oIx (ab 0) (m2 oDiv (ab 3) (mC (.int 2)))) (m2 oDiv (ab 5) (mC (.int 2))))) (mC (.int 2)))) (dj (mML cn (ab 4) (aa (m2 bC (m2 fv (mC (.int 2)) (m2 oIx (m2 oIx (ab 1) (m2 oDiv (ab 3) (mC (.int 2)))) (m2 oDiv (ab 5) (mC (.int 2))))) (ab 6)) af)))
noncomputable def oh (T:Nat->Nat->Nat) (a:Nat):Cell := .lst ((aA 4).map fun b => .int (T a b))
noncomputable def vh (s:Nat):Cell := .lst ((aA 4).map fun a => .ref (s+a))
noncomputable def ten (s:Nat):Sto := [oh mY 0,oh mY 1,oh mY 2,oh mY 3,vh s,oh vv 0,oh vv 1,oh vv 2,oh vv 3,vh (s+5)]
theorem look {S S':Sto}{n k:Nat}{c:Cell} (s:Sm (S++ten S.length).length (S++ten S.length) S') (hk:(ten S.length)[k]? = some c) (hn:n=S.length+k):S'[n]? = some c:=by
 have hl:k < (ten S.length).length:=(ag.mp hk).1
 rw [s.same n (by rw [aI];omega),ax (by omega),hn]
 rw [show S.length+k - S.length=k by omega];exact hk
theorem uO {S S':Sto}{ρ:Rho}{v p q x y:Nat}{T:Nat->Nat->Nat} (hv:ρ[v]? = some (some (.ref x))) (hx:S'[x]? = some (vh y)) (hy : ∀ a,a < 4->S'[y+a]? = some (oh T a)) {i j:Nat} (hi:ρ[p]? = some (some (.int i))) (hj:ρ[q]? = some (some (.int j))) (li:i < 8) (lj:j < 8) :
  m2 oIx (m2 oIx (ab v) (m2 oDiv (ab p) (mC (.int 2)))) (m2 oDiv (ab q) (mC (.int 2))) ρ S'=some (.int (T (i / 2) (j / 2)),S'):=
 rh (rh (var_eq hv) (rN (y:=2) (var_eq hi) c_i (by decide) (by decide)) hx (lM (by omega))) (rN (y:=2) (var_eq hj) c_i (by decide) (by decide)) (hy _ (by omega)) (lM (by omega))
theorem jn {ρ:Rho}{S:Sto}{x y z w:Int}:b4 (aa (mC (.int x)) (aa (mC (.int y)) (aa (mC (.int z)) (aa (mC (.int w)) af)))) ρ S=some (.ref S.length,S ++ [Cell.lst [.int x,.int y,.int z,.int w]]):=by
 have hz:4<=big:=by decide
 simp [b4,aa,mC,af,aD,hz]
theorem vC {ρ:Rho}{S S1 S2 S3 S4:Sto}{a b c d:ME}{x y z w:U} (ha:a ρ S=some (x,S1)) (hb:b ρ S1=some (y,S2)) (hc:c ρ S2=some (z,S3)) (hd:d ρ S3=some (w,S4)) :
  b4 (aa a (aa b (aa c (aa d af)))) ρ S=some (.ref S4.length,S4 ++ [Cell.lst [x,y,z,w]]):=by
 have hz:4<=big:=by decide
 simp only [b4,aa,af,aD,ha,hb,hc,hd]
 simp [hz]
theorem xm {S:Sto} : ∃ S',fD [] S=some (tab 8 ft,S')/\Ex S S':=by
 have e0:=vC (ρ := [none,none,none,none,none,none,none]) (S:=S) (jn (x:=0) (y:=0) (z:=0) (w:=0)) (jn (x:=0) (y:=1) (z:=0) (w:=1)) (jn (x:=0) (y:=1) (z:=1) (w:=0)) (jn (x:=0) (y:=0) (z:=1) (w:=1))
 have e1:=vC (ρ := [some (.ref (S.length+4)),none,none,none,none,none,none]) (S:=S++(ten S.length).take 5) (jn (x:=0) (y:=1) (z:=2) (w:=3)) (jn (x:=1) (y:=0) (z:=3) (w:=2)) (jn (x:=2) (y:=3) (z:=0) (w:=1)) (jn (x:=3) (y:=2) (z:=1) (w:=0))
 have e0':=e0.trans (b:=_) (c:=some (U.ref (S.length+4),S++(ten S.length).take 5)) (by simp [ten,oh,vh,mY,dO])
 have e1':=e1.trans (b:=_) (c:=some (U.ref (S.length+9),S++ten S.length)) (by simp [ten,oh,vh,mY,vv,dO])
 obtain⟨ρ1,S1,f1,q1,q2,q3⟩:=build (fs:=2) (rs:=4) (is:=3) (js:=5) (L := [3,4,5,6]) (ρ0 := [some (.ref (S.length+4)),some (.ref (S.length+9)),some (.ref (S++ten S.length).length),none,none,none,none]) (S0:=S++ten S.length) (bIn:=Dk) (a:=mC (.int 8)) (m:=8) (T:=ft)
  (by decide) (by decide) (by decide) (by decide) (by decide) (by decide) (by decide) (by decide) (by simp) (by simp) (by simp) rfl
  (fun ρ S' g s=>rfl)
  (fun i j r ρ S' row hi hj g gi gj gr s hr he hl=>by
   have hlen:ρ.length=7:=g.1
   have hs : ∀ a,a < 4->S'[S.length+a]? = some (oh mY a):=fun a ha=>look (k:=a) s (by match a,ha with | 0,_=>rfl | 1,_=>rfl | 2,_=>rfl | 3,_=>rfl) rfl
   have hkk : ∀ a,a < 4->S'[S.length+5+a]? = some (oh vv a):=fun a ha=>look (k:=5+a) s (by match a,ha with | 0,_=>rfl | 1,_=>rfl | 2,_=>rfl | 3,_=>rfl) (by omega)
   have t1:=uO (S:=S) (T:=mY) (v:=0) (g.of (by decide) rfl) (look (k:=4) s rfl rfl) hs gi gj hi hj
   have e6:m2 oMod (m2 bC (m2 bC (ab 3) (ab 5)) (m2 oIx (m2 oIx (ab 0) (m2 oDiv (ab 3) (mC (.int 2)))) (m2 oDiv (ab 5) (mC (.int 2))))) (mC (.int 2)) ρ S'=some (.int ((i+j+mY (i / 2) (j / 2)) % 2:Nat),S'):=
    Bl (y:=2) (add_n (add_n (var_eq gi) (var_eq gj)) t1) c_i (by decide)
   have g':Agr [3,4,5,6] _ (ρ.set 6 (some (.int ((i+j+mY (i / 2) (j / 2)) % 2:Nat)))):=g.set (by decide)
   have n3:(ρ.set 6 (some (.int ((i+j+mY (i / 2) (j / 2)) % 2:Nat))))[3]? = some (some (.int i)):=by rw [aH (by decide)];exact gi
   have n4:(ρ.set 6 (some (.int ((i+j+mY (i / 2) (j / 2)) % 2:Nat))))[4]? = some (some (.ref r)):=by rw [aH (by decide)];exact gr
   have n5:(ρ.set 6 (some (.int ((i+j+mY (i / 2) (j / 2)) % 2:Nat))))[5]? = some (some (.int j)):=by rw [aH (by decide)];exact gj
   have t2:=uO (S:=S) (T:=vv) (v:=1) (g'.of (by decide) rfl) (look (k:=9) s rfl rfl) hkk n3 n5 hi hj
   have ev:m2 bC (m2 fv (mC (.int 2)) (m2 oIx (m2 oIx (ab 1) (m2 oDiv (ab 3) (mC (.int 2)))) (m2 oDiv (ab 5) (mC (.int 2))))) (ab 6) (ρ.set 6 (some (.int ((i+j+mY (i / 2) (j / 2)) % 2:Nat)))) S'=some (.int (ft i j:Nat),S'):=by
    rw [<- zu hi hj]
    exact add_n (Bj (x:=2) c_i t2 (by decide)) (var_eq (nM (by omega)))
   exact⟨_,_,(aY (bR e6)).trans (append_eq (var_eq n4) ev he he hl),g',n3,n4,Wr.set _ _ _,aL (ag.mp he).1⟩)
 have f2:mFn b5 (aa (ab 2) af) ρ1 S1=some (tab 8 ft,S1):=jP (var_eq (q1.of (by decide) rfl)) q3
 refine⟨S1,cz (ρ:=ρ1) rfl ?_,Ex.trans ⟨ten S.length,rfl⟩ q2.toEx⟩
 show jv [none,none,none,none,none,none,none] S=_
 exact (aY (bR e0')).trans ((aY (bR e1')).trans ((aY (bR j5)).trans ((aY f1).trans (b8 f2))))
end
end W
end
section
namespace W
open L2 G
section
theorem rQ {e:ME}{ρ:Rho} (P:List U->Sto->Prop) : ∀ (us acc:List U) (S:Sto),P acc S ->
  (∀ (k:Nat) (acc':List U) (u:U) (S:Sto),us[k]? = some u->acc'.length=acc.length+k->P acc' S -> ∃ v S',e (ρ ++ [some u]) S=some (v,S')/\P (acc' ++ [v]) S') ->
  ∃ ys S',gF cTT e ρ us acc S=some (ys,S')/\P ys S'/\ys.length=acc.length+us.length
 | [],acc,S,h,_=>⟨acc,S,rfl,h,by simp⟩
 | u::us,acc,S,h,st=>by
   obtain⟨v,S1,e1,h1⟩:=st 0 acc u S rfl (by simp) h
   obtain⟨ys,S2,e2,h2,h3⟩:=rQ P us (acc ++ [v]) S1 h1 fun k acc' w S hk hl hp=>st (k+1) acc' w S (by simpa using hk) (by simp at hl;omega) hp
   refine⟨ys,S2,?_,h2,by simp at h3 ⊢;omega⟩
   show bnd (cTT (ρ ++ [some u]) S) _=_
   simp only [cTT,aD,if_true]
   rw [e1]
   exact e2
theorem rX {ρ:Rho}{S S0:Sto}{a e:ME}{n:Nat} (ha:a ρ S=some (.int n,S0)) (hn:n < big) (P:List U->Sto->Prop) (h0:P [] S0)
  (hs : ∀ (k:Nat) (acc:List U) (S:Sto),k < n->acc.length=k->P acc S -> ∃ v S',e (ρ ++ [some (.int k)]) S=some (v,S')/\P (acc ++ [v]) S') :
  ∃ ys S',mFn b5 (aa (cU (iR1 (aa a af)) cTT e) af) ρ S=some (.tup ys,S' ++ [.lst ys])/\P ys S'/\ys.length=n:=by
 obtain⟨ys,S1,e1,h1,h2⟩:=rQ (e:=e) (ρ:=ρ) P (bg 0 n) [] S0 h0 fun k acc u S hk hl hp=>by
  have hlt:k < n:=by have:=(ag.mp hk).1;simpa [bg] using this
  have hu:(bg 0 n)[k]? = some (.int k):=by simp [bg,hlt]
  rw [hu] at hk;cases hk
  exact hs k acc S hlt (by simpa using hl) hp
 have hlen:(bg 0 n).length=n:=by simp [bg]
 rw [hlen] at h2
 simp only [bT,eC] at h2
 exact⟨ys,S1,iN (pB (lF ha hn) e1 (by rw [h2];exact hn)),h1,h2⟩
theorem Stp.set {n r:Nat}{S S':Sto}{c:Cell} (h:Stp n S S') (hr:S.length<=r) (hn:r≠n):Stp n S (S'.set r c):=by
 refine⟨by rw [dN];exact h.len,fun m h1 h2=>by rw [aH (by omega)];exact h.same m h1 h2,?_⟩
 obtain⟨s,b,e⟩:=h.st
 exact⟨s,b,by rw [aH hn];exact e⟩
theorem Stp.step {n:Nat}{S S1 S2:Sto} (a:Stp n S S1) (e:Ex S1 S2):Stp n S S2:=a.trans (Stp.ex a.st e)
theorem dg {f:MF}{ρ:Rho}{S S1 S2:Sto}{a b:ME}{x y:U}{r:Res U} (ha:a ρ S=some (x,S1)) (hb:b ρ S1=some (y,S2)) (h:f [x,y] S2=r):mFn f (aa a (aa b af)) ρ S=r:=by
 simp only [mFn,aa,af,ha,hb,aD,h]
theorem iU {f:MF}{ρ:Rho}{S S1:Sto}{a:ME}{x:U}{r:Res U} (ha:a ρ S=some (x,S1)) (h:f [x] S1=r):mFn f (aa a af) ρ S=r:=by
 simp only [mFn,mH ha,aD,h]
theorem yI {ρ:Rho}{S:Sto}{a:ME}{r:Nat}{us:List U} (ha:a ρ S=some (.ref r,S)) (hr:S[r]? = some (Cell.lst us)):mFn bq (aa a af) ρ S=some (.int us.length,S):=
 iU ha (by simp only [bq,fR,dr,getL,hr,aN])
theorem rZ {α β:Type} (f:α->β) : ∀ (l:List α) (j:Nat),(l.map f).eraseIdx j=(l.eraseIdx j).map f
 | [],_=>rfl
 | _::_,0=>rfl
 | x::l,j+1=>by simp [rZ f l j]
noncomputable def aj (l:List Nat):List U:=l.map fun (x:Nat)=>U.int x
theorem wa {ρ:Rho}{S S1:Sto}{o a:ME}{r:Nat}{l:List Nat}{j:Nat} (ho:o ρ S=some (.ref r,S)) (ha:a ρ S=some (.int j,S1)) (hr:S[r]? = some (Cell.lst (aj l))) (hr1:S1[r]? = some (Cell.lst (aj l))) (hj:j < l.length) (hl:l.length < big) :
  mML jy o (aa a af) ρ S=some (.int l[j],S1.set r (Cell.lst (aj (l.eraseIdx j)))):=by
 have hok:okR (j:Int):=pw (by exact dq (by assumption) (by assumption))
 have hx:ixN (aj l).length (j:Int)=some j:=by
  have:(aj l).length=l.length:=by simp [aj]
  rw [this];simp [ixN,hj]
 have hg:(aj l)[j]? = some (.int l[j]):=by simp [aj,hj]
 have he:(aj l).eraseIdx j=aj (l.eraseIdx j):=rZ _ _ _
 simp only [mML,ho,aD,getL,hr,ah,mH ha,jy,hr1,hok,if_true,hx,hg,aN,he]
theorem sk {ρ:Rho}{S:Sto}{a b:ME}{i j:Int} (ha:a ρ S=some (.int i,S)) (hb:b ρ S=some (.int j,S)) (h1:okR i) (h2:okR j) (hz:(bg i (j - i).toNat).length<=big):fo (iR2 (aa a (aa b af))) ρ S=some (.ref S.length,S ++ [Cell.lst (bg i (j - i).toNat)]):=by
 have e:iR2 (aa a (aa b af)) ρ S=some (.imm (bg i (j - i).toNat),S):=by
  unfold iR2
  simp only [aa,af,ha,hb,aD]
  exact if_pos ⟨h1,h2⟩
 simp only [fo,e,aD,hz,if_true]
theorem cat_t {ρ:Rho}{S S1 S2:Sto}{a b:ME}{xs ys:List U} (ha:a ρ S=some (.tup xs,S1)) (hb:b ρ S1=some (.tup ys,S2)) (hz:xs.length+ys.length<=big):m2 bC a b ρ S=some (.tup (xs++ys),S2):=op2 ha hb (by simp only [bC,hz,if_true])
theorem jX (m:Nat) (hm:0 < m):bg 1 ((m:Int) - 1).toNat=aj (bU 1 (m - 1)):=by
 have e:((m:Int) - 1).toNat=m - 1:=by omega
 rw [e]
 unfold bg aj
 rw [List.range'_eq_map_range,cx]
 apply cm
 intro k _
 simp
theorem Co {n m:Nat}{S:Sto} (h:jx n S) (hm:0 < m) (hm2:m < 1000) : ∃ l S',je [.ref n,.int m] S=some (.tup (aj l),S')/\Stp n S S'/\oq m l:=by
 have hn:=h.lt
 have hbig:m < big:=by unfold big;exact ai (by assumption) (by decide)
 have e0:fo (iR2 (aa (mC (.int 1)) (aa (ab 1) af))) [some (.ref n),some (.int m),none] S=some (.ref S.length,S ++ [Cell.lst (aj (bU 1 (m - 1)))]):=by
  rw [sk (i:=1) (j:=m) rfl (var_eq rfl) ⟨by decide,by decide⟩ (pw hbig) (by rw [jX m hm];simp [aj];omega),jX m hm]
 have st0:Stp n S (S ++ [Cell.lst (aj (bU 1 (m - 1)))]):=Stp.ex h (Ex.push _ _)
 obtain⟨ys,S1,e1,⟨tk,rem,rfl,q1,q2,q3⟩,e2⟩:=rX (ρ := [some (.ref n),some (.int m),some (.ref S.length)]) (S:=S ++ [Cell.lst (aj (bU 1 (m - 1)))]) (S0:=S ++ [Cell.lst (aj (bU 1 (m - 1)))])
  (a:=m2 h9 (ab 1) (mC (.int 1))) (e:=mML jy (ab 2) (aa (mFn aM (aa (ab 0) (aa (mFn bq (aa (ab 2) af)) af))) af)) (n:=m - 1)
  (by rw [Cu (var_eq rfl) c_i];congr 3;omega) (by omega)
  (fun acc S' => ∃ tk rem:List Nat,acc=aj tk/\S'[S.length]? = some (Cell.lst (aj rem))/\(tk++rem).Perm (bU 1 (m - 1))/\Stp n S S')
  ⟨[],bU 1 (m - 1),rfl,by rw [ax (aq _)];simp,by simp,st0⟩
  (by
   rintro k acc S' hk hl ⟨tk,rem,rfl,q1,q2,q3⟩
   have htk:tk.length=k:=by simpa [aj] using hl
   have hrem:rem.length=m - 1 - k:=by
    have:=q2.length_eq
    simp at this;omega
   obtain⟨r,S2,t1,t2,t3,t4,t5⟩:=y0 (many:=(rem.length:Int)) q3.st (by omega) (by omega)
   obtain⟨j,rfl⟩:=An t2
   have hj:j < rem.length:=by omega
   have ho : ∀ S',ab 2 ([some (U.ref n),some (.int m),some (.ref S.length)] ++ [some (.int k)]) S'=some (.ref S.length,S'):=fun S'=>var_eq rfl
   have hv : ∀ S',ab 0 ([some (U.ref n),some (.int m),some (.ref S.length)] ++ [some (.int k)]) S'=some (.ref n,S'):=fun S'=>var_eq rfl
   have hlen:mFn bq (aa (ab 2) af) ([some (U.ref n),some (.int m),some (.ref S.length)] ++ [some (.int k)]) S'=some (.int rem.length,S'):=by
    rw [yI (ho _) q1];simp [aj]
   have q1':S2[S.length]? = some (Cell.lst (aj rem)):=t4.some (by exact bL (by assumption)) q1
   refine⟨_,_,wa (ho _) (dg (hv _) hlen t1) q1 q1' hj (by omega),tk ++ [rem[j]],rem.eraseIdx j,by simp [aj],?_,?_,?_⟩
   ·exact aL (ag.mp q1').1
   ·refine CO ?_ q2
    rw [ba]
    exact (fM rem j hj).append_left tk
   ·exact (q3.trans t4).set (aq _) (by exact bL (by assumption)))
 have hrem:rem = []:=by
  have:=q2.length_eq
  simp [aj] at this e2
  exact dH (by omega)
 subst hrem
 rw [fe] at q2
 refine⟨0::tk,S1 ++ [Cell.lst (aj tk)],cz (ρ := [some (.ref n),some (.int m),some (.ref S.length)]) rfl ?_,q3.step (Ex.push _ _),zp hm q2⟩
 show kX [some (.ref n),some (.int m),none] S=_
 refine (aY (bR e0)).trans (b8 ?_)
 have ez:bA (aa (mC (.int 0)) af) [some (.ref n),some (.int m),some (.ref S.length)] (S ++ [Cell.lst (aj (bU 1 (m - 1)))])=some (.tup [.int 0],S ++ [Cell.lst (aj (bU 1 (m - 1)))]):=by
  have hb1:1<=big:=by decide
  simp [bA,mH (show mC (.int 0) _ _=some (U.int 0,S ++ [Cell.lst (aj (bU 1 (m - 1)))]) from rfl),aD,hb1]
 exact cat_t ez e1 (by simp [aj] at e2 ⊢;omega)
theorem ES {S:Sto}{f:Nat}{i:Int}:toD S (f+1) (.int i)=some (.int i):=rfl
theorem qC {S:Sto}{f:Nat} : ∀ (l:List Nat),dz (toD S (f+1)) (aj l)=some (l.map fun (x:Nat)=>cy x)
 | []=>rfl
 | x::l=>by
   show (toD S (f+1) (.int x)).bind _=_
   rw [ES]
   simp only [ah]
   rw [show List.map (fun (x:Nat)=>U.int x) l=aj l from rfl,qC l]
   rfl
theorem uY (x:Nat) : ∀ (l:List Nat),x∈l->(l.map fun (x:Nat)=>cy x).findIdx? (fun y=>dM y (.int x))=some (l.idxOf x)
 | [],h=>by simp at h
 | y::l,h=>by
   have e:dM (.int y) (.int x)=decide (y=x):=by
    simp [dM]
    by_cases hxy:y=x
    ·subst hxy;simp
    ·have : ¬ ((y:Int)=x):=by omega
     simp [hxy,this]
   rw [bu,pI,e,List.idxOf_cons]
   by_cases hxy:y=x
   ·subst hxy;simp
   ·have hm:x∈l:=by
     rcases aK.mp h with z | z
     ·exact absurd z.symm hxy
     ·exact z
    have hb:(y == x)=false:=by simpa using hxy
    rw [uY x l hm]
    simp [hxy,hb]
theorem Ed {S:Sto}{x:Nat}{l:List Nat} (h:x∈l):A6 S (.int x) (aj l)=some (l.idxOf x):=by
 unfold A6
 rw [qC l]
 simp only [ah]
 rw [show toD S 40 (.int x)=some (.int x) from rfl]
 exact uY x l h
theorem AQ {ρ:Rho}{S S1:Sto}{o a:ME}{l:List Nat}{x:Nat} (ho:o ρ S=some (.tup (aj l),S)) (ha:a ρ S=some (.int x,S1)) (h:x∈l):mMT iC o (aa a af) ρ S=some (.int (l.idxOf x:Nat),S1):=by
 simp only [mMT,ho,aD,mH ha,iC,Ed h,aN]
 rfl
theorem qj {l:List Nat}{j:Nat}{u:U} (h:(aj l)[j]? = some u):j < l.length/\u = .int (oF l j):=by
 have hl:j < l.length:=by have:=(ag.mp h).1;simpa [aj] using this
 have:(aj l)[j]? = some (.int l[j]):=by simp [aj,hl]
 rw [this] at h;cases h
 exact⟨hl,by simp [oF,hl]⟩
theorem bK (l:List Nat):(aj l).length=l.length:=by simp [aj]
theorem Br {m:Nat}{T:Nat->Nat->Nat}{l:List Nat}{S:Sto} (hm:m < big) (g : ∀ i j,i < m->j < m->T i j < m) (ho:oq m l) : ∃ S',jf [tab m T,.tup (aj l)] S=some (tab m (kP T (oF l) (pF l)),S')/\Ex S S':=by
 have hlen:=ho.len
 obtain⟨S1,e1,h1⟩:=Io (ρ := [some (tab m T),some (.tup (aj l))]) (S:=S) (S0:=S) (a:=ab 1) (us:=aj l) (e:=mFn b5 (aa (cU (cZ (ab 1)) cTT (mMT iC (ab 1) (aa (m2 oIx (m2 oIx (ab 0) (ab 2)) (ab 3)) af))) af))
  (var_eq rfl) (by rw [bK,hlen];exact hm) (o6 m (kP T (oF l) (pF l))) (fun _ S'=>Ex S S') (Ex.refl _) (by
   intro i u S' hu hx
   obtain⟨hi,rfl⟩:=qj hu
   rw [hlen] at hi
   obtain⟨S2,e2,h2⟩:=Io (ρ := [some (tab m T),some (.tup (aj l)),some (.int (oF l i))]) (S:=S') (S0:=S') (a:=ab 1) (us:=aj l) (e:=mMT iC (ab 1) (aa (m2 oIx (m2 oIx (ab 0) (ab 2)) (ab 3)) af))
    (var_eq rfl) (by rw [bK,hlen];exact hm) (fun j => .int (kP T (oF l) (pF l) i j)) (fun _ S''=>S''=S') rfl (by
     intro j u S'' hu hx
     obtain⟨hj,rfl⟩:=qj hu
     rw [hlen] at hj
     refine⟨S'',?_,hx⟩
     exact AQ (var_eq rfl) (mU (ho.ord.ol j hj) (m5 (ho.ord.ol i hi) (var_eq rfl) (var_eq rfl)) (var_eq rfl)) (ho.mem.mpr (g _ _ (ho.ord.ol i hi) (ho.ord.ol j hj))))
   subst h2
   rw [bK,hlen] at e2
   exact⟨_,e2,hx.trans (Ex.push _ _)⟩)
 rw [bK,hlen] at e1
 exact⟨_,cz (ρ := [some (tab m T),some (.tup (aj l))]) rfl (show kN [some (tab m T),some (.tup (aj l))] S=_ from b8 e1),h1.trans (Ex.push _ _)⟩
end
end W
end
section
namespace W
open L2 G
section
theorem xg {ρ:Rho}{S S1 S2:Sto}{a b:ME}{x y:Int} (ha:a ρ S=some (.int x,S1)) (hb:b ρ S1=some (.int y,S2)):m2 oEq a b ρ S=some (.bl (x == y),S2):=op2 ha hb rfl
theorem HJ {ρ:Rho}{S S1 S2:Sto}{a b:ME}{x y:Int} (ha:a ρ S=some (.int x,S1)) (hb:b ρ S1=some (.int y,S2)):m2 oGt a b ρ S=some (.bl (decide (y < x)),S2):=op2 ha hb rfl
theorem of_eq {ρ:Rho}{S S1:Sto}{a:ME}{b:Bool} (h:a ρ S=some (.bl b,S1)):cOf a ρ S=some (b,S1):=by simp only [cOf,h,aD]
theorem or_eq {ρ:Rho}{S S1 S2:Sto}{a b:MT}{x y:Bool} (ha:a ρ S=some (x,S1)) (hb:b ρ S1=some (y,S2)) (e:x=true->S2=S1):cOr a b ρ S=some (x||y,S2):=by
 cases x
 ·simp [cOr,ha,hb,aD]
 ·simp [cOr,ha,aD,e rfl]
theorem and_eq {ρ:Rho}{S S1 S2:Sto}{a b:MT}{x y:Bool} (ha:a ρ S=some (x,S1)) (hb:b ρ S1=some (y,S2)) (e:x=false->S2=S1):j8 a b ρ S=some (x&&y,S2):=by
 cases x
 ·simp [j8,ha,aD,e rfl]
 ·simp [j8,ha,hb,aD]
theorem kI {c:MT}{a b:MS}{ρ:Rho}{S S1:Sto} (h:c ρ S=some (true,S1)):sIf c a b ρ S=a ρ S1:=by simp [sIf,h,aD]
theorem mj {c:MT}{a b:MS}{ρ:Rho}{S S1:Sto} (h:c ρ S=some (false,S1)):sIf c a b ρ S=b ρ S1:=by simp [sIf,h,aD]
theorem fq {n m:Nat}{S:Sto} (h:jx n S) (hm:0 < m) (hm2:m < 1000) : ∃ r S',aM [.ref n,.int m] S=some (.int (r:Nat),S')/\r < m/\Stp n S S':=by
 obtain⟨r,S',e,h1,h2,h3,_⟩:=y0 (many:=(m:Int)) h (by omega) (by omega)
 obtain⟨r,rfl⟩:=An h1
 exact⟨r,S',e,by omega,h3⟩
noncomputable def gA:MS:=sIf (cOr (cOf (m2 oEq (ab 2) (mC (.int 1)))) (cOf (m2 oEq (ab 2) (mC (.int 2))))) (bB 3 (mFn eZ (aa (m2 bC (mC (.int 1)) (mFn aM (aa (ab 0) (aa (m2 oDiv (ab 1) (mC (.int 2))) af)))) af))) dP
noncomputable def gB:MS:=sIf (j8 (cOf (m2 oEq (ab 2) (mC (.int 3)))) (cOf (m2 oGt (ab 1) (mC (.int 7))))) (bB 3 (mFn fD af)) dP
noncomputable def gC:MS:=sIf (cOf (m2 oGt (ab 2) (mC (.int 3)))) (bf (bB 4 (m2 bC (mC (.int 2)) (mFn aM (aa (ab 0) (aa (mC (.int 3)) af))))) (bf (bB 5 (m2 oIx (b4 (aa (mFn df (aa (ab 4) af)) (aa (mFn eZ (aa (ab 4) af)) af))) (mFn aM (aa (ab 0) (aa (mC (.int 2)) af))))) (bf (sIf (cOf (m2 oGt (mFn bq (aa (ab 5) af)) (ab 1))) (bB 5 (mFn df (aa (ab 4) af))) dP) (bB 3 (mFn jW (aa (ab 5) (aa (mFn df (aa (m2 bC (mC (.int 1)) (mFn aM (aa (ab 0) (aa (m2 oDiv (ab 1) (mFn bq (aa (ab 5) af))) af)))) af)) af))))))) dP
noncomputable def gD:MS:=sIf (cOf (m2 oEq (mFn aM (aa (ab 0) (aa (mC (.int 3)) af))) (mC (.int 0)))) (bB 3 (mFn jf (aa (ab 3) (aa (mFn je (aa (ab 0) (aa (mFn bq (aa (ab 3) af)) af))) af)))) dP
structure Gs (n most way:Nat) (S0:Sto) (ρ:Rho) (S:Sto):Prop where
 ex : ∃ m T x y,ρ = [some (.ref n),some (.int most),some (.int way),some (tab m T),x,y]/\Grp m T/\m<=most
 st:Stp n S0 S
section
variable {n most way:Nat}{S0 S:Sto}{ρ:Rho}
theorem J4 (h6:6<=most) (hm:most < 1000) (g:Gs n most way S0 ρ S) : ∃ ρ' S',gA ρ S=some (.nx,ρ',S')/\Gs n most way S0 ρ' S':=by
 obtain⟨⟨m,T,x,y,rfl,gr,hle⟩,st⟩:=g
 have hc:=or_eq (of_eq (xg (ρ := [some (.ref n),some (.int most),some (.int way),some (tab m T),x,y]) (S:=S) (a:=ab 2) (b:=mC (.int 1)) (var_eq rfl) c_i)) (of_eq (xg (a:=ab 2) (b:=mC (.int 2)) (var_eq rfl) c_i)) fun _=>rfl
 cases hb:(((way:Int) == 1)||((way:Int) == 2)) with
 | false=>
   rw [hb] at hc
   exact⟨_,S,mj hc,⟨m,T,x,y,rfl,gr,hle⟩,st⟩
 | true=>
   rw [hb] at hc
   obtain⟨r,S1,e1,w1,s1⟩:=fq (m:=most / 2) st.st (by omega) (by omega)
   obtain⟨S2,e2,s2⟩:=wA (n:=1+r) (S:=S1) (by exact b6 (by decide) _) (by omega)
   refine⟨_,S2,(kI hc).trans (bR (iU (x := .int (1+r:Nat)) (add_n (x:=1) c_i (dg (var_eq rfl) (rN (y:=2) (var_eq rfl) c_i (by decide) (by decide)) e1)) e2)),⟨_,_,x,y,rfl,vP (by exact b6 (by decide) _),by omega⟩,(st.trans s1).step s2⟩
theorem Kf (g:Gs n most way S0 ρ S) : ∃ ρ' S',gB ρ S=some (.nx,ρ',S')/\Gs n most way S0 ρ' S':=by
 obtain⟨⟨m,T,x,y,rfl,gr,hle⟩,st⟩:=g
 have hc:=and_eq (of_eq (xg (ρ := [some (.ref n),some (.int most),some (.int way),some (tab m T),x,y]) (S:=S) (a:=ab 2) (b:=mC (.int 3)) (var_eq rfl) c_i)) (of_eq (HJ (a:=ab 1) (b:=mC (.int 7)) (var_eq rfl) c_i)) fun _=>rfl
 cases hb:(((way:Int) == 3)&&decide ((7:Int) < most)) with
 | false=>
   rw [hb] at hc
   exact⟨_,S,mj hc,⟨m,T,x,y,rfl,gr,hle⟩,st⟩
 | true=>
   rw [hb] at hc
   obtain⟨S2,e2,s2⟩:=xm (S:=S)
   have h7:(7:Int) < most:=by simp at hb;exact hb.2
   refine⟨_,S2,(kI hc).trans (bR (show mFn fD af _ S=_ from e2)),⟨_,_,x,y,rfl,zo,by omega⟩,st.step s2⟩
theorem Az {ρ:Rho}{S S1 S2:Sto}{a b:ME}{x y:U} (ha:a ρ S=some (x,S1)) (hb:b ρ S1=some (y,S2)):b4 (aa a (aa b af)) ρ S=some (.ref S2.length,S2 ++ [Cell.lst [x,y]]):=by
 have hz:2<=big:=by decide
 simp [b4,aa,af,aD,ha,hb,hz]
theorem JG (h6:6<=most) (hm:most < 1000) (g:Gs n most way S0 ρ S) : ∃ ρ' S',gC ρ S=some (.nx,ρ',S')/\Gs n most way S0 ρ' S':=by
 obtain⟨⟨m,T,x,y,rfl,gr,hle⟩,st⟩:=g
 have hbig : ∀ x,x<=most->x < big:=fun x hx=>by unfold big;exact aJ (by assumption) (ai (by assumption) (by decide))
 have hc:=of_eq (HJ (ρ := [some (.ref n),some (.int most),some (.int way),some (tab m T),x,y]) (S:=S) (a:=ab 2) (b:=mC (.int 3)) (var_eq rfl) c_i)
 cases hb:decide ((3:Int) < way) with
 | false=>
   rw [hb] at hc
   exact⟨_,S,mj hc,⟨m,T,x,y,rfl,gr,hle⟩,st⟩
 | true=>
   rw [hb] at hc
   obtain⟨r,S1,e1,w1,s1⟩:=fq (m:=3) st.st (by decide) (by decide)
   have f1:m2 bC (mC (.int 2)) (mFn aM (aa (ab 0) (aa (mC (.int 3)) af))) [some (.ref n),some (.int most),some (.int way),some (tab m T),x,y] S=some (.int (2+r:Nat),S1):=
    add_n (x:=2) c_i (dg (var_eq rfl) c_i e1)
   obtain⟨S2,e2,s2⟩:=nj (n:=2+r) (S:=S1) (by exact b6 (by decide) _) (hbig _ (by omega))
   obtain⟨S3,e3,s3⟩:=wA (n:=2+r) (S:=S2) (by exact b6 (by decide) _) (by omega)
   have st3:Stp n S0 (S3 ++ [Cell.lst [tab (2+r) (d8 (2+r)),tab (2*(2+r)) (fQ (2+r))]]):=(((st.trans s1).step s2).step s3).step (Ex.push _ _)
   obtain⟨q,S4,e4,w4,s4⟩:=fq (m:=2) st3.st (by decide) (by decide)
   have hcell:S4[S3.length]? = some (Cell.lst [tab (2+r) (d8 (2+r)),tab (2*(2+r)) (fQ (2+r))]):=by
    refine s4.some ?_ (by rw [ax (aq _)];simp)
    have:=(((st.trans s1).step s2).step s3).st.lt
    exact bL (by assumption)
   have one : ∃ k K,atI [tab (2+r) (d8 (2+r)),tab (2*(2+r)) (fQ (2+r))] (q:Int)=some (tab k K)/\Grp k K/\k<=8:=by
    have:q=0\/q=1:=by omega
    rcases this with rfl | rfl
    ·exact⟨_,_,rfl,jS (by exact b6 (by decide) _),by omega⟩
    ·exact⟨_,_,rfl,vP (by exact b6 (by decide) _),by omega⟩
   obtain⟨k,K,hix,gk,hk8⟩:=one
   have f5:m2 oIx (b4 (aa (mFn df (aa (ab 4) af)) (aa (mFn eZ (aa (ab 4) af)) af))) (mFn aM (aa (ab 0) (aa (mC (.int 2)) af))) [some (.ref n),some (.int most),some (.int way),some (tab m T),some (.int (2+r:Nat)),y] S1=some (tab k K,S4):=
    rh (Az (iU (x := .int (2+r:Nat)) (var_eq rfl) e2) (iU (x := .int (2+r:Nat)) (var_eq rfl) e3)) (dg (var_eq rfl) c_i e4) hcell hix
   have st4:=st3.trans s4
   have cut : ∃ k' K' S5,sIf (cOf (m2 oGt (mFn bq (aa (ab 5) af)) (ab 1))) (bB 5 (mFn df (aa (ab 4) af))) dP [some (.ref n),some (.int most),some (.int way),some (tab m T),some (.int (2+r:Nat)),some (tab k K)] S4 =
     some (.nx,[some (.ref n),some (.int most),some (.int way),some (tab m T),some (.int (2+r:Nat)),some (tab k' K')],S5)/\Grp k' K'/\k'<=most/\k'<=8/\Stp n S0 S5:=by
    have hc2:=of_eq (HJ (ρ := [some (.ref n),some (.int most),some (.int way),some (tab m T),some (.int (2+r:Nat)),some (tab k K)]) (S:=S4) (a:=mFn bq (aa (ab 5) af)) (b:=ab 1) (len_tab (var_eq rfl)) (var_eq rfl))
    cases hb2:decide ((most:Int) < k) with
    | false=>
      rw [hb2] at hc2
      have : ¬ ((most:Int) < k):=by simpa using hb2
      exact⟨k,K,S4,mj hc2,gk,by omega,hk8,st4⟩
    | true=>
      rw [hb2] at hc2
      obtain⟨S5,e5,s5⟩:=nj (n:=2+r) (S:=S4) (by exact b6 (by decide) _) (hbig _ (by omega))
      exact⟨_,_,S5,(kI hc2).trans (bR (iU (x := .int (2+r:Nat)) (var_eq rfl) e5)),jS (by exact b6 (by decide) _),by omega,by omega,st4.step s5⟩
   obtain⟨k',K',S5,f6,gk',hkm,hk8',st5⟩:=cut
   have kp:=gk'.pos
   have hdiv:0 < most / k':=Nat.div_pos hkm kp
   have hdl:most / k'<=most:=Nat.div_le_self _ _
   obtain⟨t,S6,e6,w6,s6⟩:=fq (m:=most / k') st5.st hdiv (by exact aJ (by assumption) (by assumption))
   obtain⟨S7,e7,s7⟩:=nj (n:=1+t) (S:=S6) (by exact b6 (by decide) _) (hbig _ (by omega))
   obtain⟨S8,e8,s8⟩:=Dm (k:=k') (m:=1+t) (A:=K') (B:=d8 (1+t)) (S:=S7) kp (by exact aJ (by assumption) (by decide)) (by exact b6 (by decide) _) (by omega) gk'.cl
   have hsz:k'*(1+t)<=most:=be (pe k' (by omega:1+t<=most / k')) (Nat.mul_div_le most k')
   refine⟨_,S8,(kI hc).trans ((aY (bR f1)).trans ((aY (bR f5)).trans ((aY f6).trans (bR (dg (var_eq rfl) (iU (x := .int (1+t:Nat)) ?_ e7) e8))))),⟨_,_,_,_,rfl,B5 gk' (jS (by exact b6 (by decide) _)),hsz⟩,((st5.trans s6).step s7).step s8⟩
   exact add_n (x:=1) c_i (dg (var_eq rfl) (rN (var_eq rfl) (len_tab (var_eq rfl)) kp (by exact aJ (by assumption) (by decide))) e6)
theorem IV (hm:most < 1000) (g:Gs n most way S0 ρ S) : ∃ ρ' S',gD ρ S=some (.nx,ρ',S')/\Gs n most way S0 ρ' S':=by
 obtain⟨⟨m,T,x,y,rfl,gr,hle⟩,st⟩:=g
 obtain⟨r,S1,e1,w1,s1⟩:=fq (m:=3) st.st (by decide) (by decide)
 have hc:=of_eq (xg (ρ := [some (.ref n),some (.int most),some (.int way),some (tab m T),x,y]) (S:=S) (a:=mFn aM (aa (ab 0) (aa (mC (.int 3)) af))) (b:=mC (.int 0)) (dg (var_eq rfl) c_i e1) c_i)
 cases hb:((r:Int) == 0) with
 | false=>
   rw [hb] at hc
   exact⟨_,S1,mj hc,⟨m,T,x,y,rfl,gr,hle⟩,st.trans s1⟩
 | true=>
   rw [hb] at hc
   obtain⟨l,S2,e2,s2,ol⟩:=Co (m:=m) s1.st gr.pos (by exact aJ (by assumption) (by assumption))
   obtain⟨S3,e3,s3⟩:=Br (m:=m) (T:=T) (S:=S2) (by unfold big;exact aJ (by assumption) (ai (by assumption) (by decide))) gr.cl ol
   refine⟨_,S3,(kI hc).trans (bR (dg (var_eq rfl) (dg (var_eq rfl) (len_tab (var_eq rfl)) e2) e3)),⟨_,_,x,y,rfl,zG gr ol.ord,hle⟩,((st.trans s1).trans s2).step s3⟩
end
theorem BA {n most:Nat}{S:Sto} (h:jx n S) (h6:6<=most) (hm:most < 1000) : ∃ m T S',ji [.ref n,.int most] S=some (tab m T,S')/\Grp m T/\m<=most/\Stp n S S':=by
 have hbig : ∀ x,x<=most->x < big:=fun x hx=>by unfold big;exact aJ (by assumption) (ai (by assumption) (by decide))
 obtain⟨way,S1,e1,w1,s1⟩:=fq (m:=8) h (by decide) (by decide)
 obtain⟨r2,S2,e2,w2,s2⟩:=fq (m:=most) s1.st (by exact Nat.zero_lt_of_lt (by assumption)) hm
 obtain⟨S3,e3,s3⟩:=nj (n:=1+r2) (S:=S2) (by exact b6 (by decide) _) (hbig _ (by omega))
 have f1:m2 bC (mC (.int 1)) (mFn aM (aa (ab 0) (aa (ab 1) af))) [some (.ref n),some (.int most),some (.int way),none,none,none] S1=some (.int (1+r2:Nat),S2):=add_n (x:=1) (y:=r2) c_i (dg (var_eq rfl) (var_eq rfl) e2)
 have g0:Gs n most way S [some (.ref n),some (.int most),some (.int way),some (tab (1+r2) (d8 (1+r2))),none,none] S3:=⟨⟨_,_,none,none,rfl,jS (by exact b6 (by decide) _),by omega⟩,(s1.trans s2).step s3⟩
 obtain⟨ρ4,S4,e4,g4⟩:=J4 h6 hm g0
 obtain⟨ρ5,S5,e5,g5⟩:=Kf g4
 obtain⟨ρ6,S6,e6,g6⟩:=JG h6 hm g5
 obtain⟨ρ7,S7,e7,g7⟩:=IV hm g6
 obtain⟨⟨m,T,x,y,rfl,gr,hle⟩,st⟩:=g7
 refine⟨m,T,S7,cz (ρ := [some (.ref n),some (.int most),some (.int way),some (tab m T),x,y]) rfl ?_,gr,hle,st⟩
 show kL [some (.ref n),some (.int most),none,none,none,none] S=_
 exact (aY (bR (dg (var_eq rfl) c_i e1))).trans ((aY (bR (iU f1 e3))).trans ((aY e4).trans ((aY e5).trans ((aY e6).trans ((aY e7).trans (b8 (var_eq rfl)))))))
end
end W
end
section
namespace W
open L2 G
section
noncomputable def Scr (ns:List Int) (S:Sto):Prop:=getL S 0=some (ns.map U.int)
theorem Scr.ex {ns:List Int}{S S':Sto} (h:Scr ns S) (e : ∀ c,S[0]? = some c->S'[0]? = some c):Scr ns S':=by
 unfold Scr getL at h ⊢
 split at h
 ·rename_i us q;rw [e _ q];exact h
 ·rename_i us q;rw [e _ q];exact h
 ·cases h
 ·cases h
theorem Scr.lt {ns:List Int}{S:Sto} (h:Scr ns S):0 < S.length:=by
 unfold Scr getL at h
 split at h
 ·rename_i q;exact (ag.mp q).1
 ·rename_i q;exact (ag.mp q).1
 ·cases h
 ·cases h
theorem bF {α:Type} (S:List α) (c:α):(S ++ [c])[S.length]? = some c:=by
 rw [ax (aq _)];simp
theorem JL {ρ:Rho}{S S1 S2:Sto}{a b:ME}{x y:Int} (ha:a ρ S=some (.int x,S1)) (hb:b ρ S1=some (.int y,S2)):m2 oLt a b ρ S=some (.bl (decide (x < y)),S2):=op2 ha hb rfl
theorem KW {ρ:Rho}{S S1 S2:Sto}{a b:ME}{x y:Int} (ha:a ρ S=some (.int x,S1)) (hb:b ρ S1=some (.int y,S2)):m2 oGe a b ρ S=some (.bl (decide (y<=x)),S2):=op2 ha hb rfl
theorem Fx {S:Sto}{r:Nat}{us:List U} (h:getL S r=some us):fR S (.ref r)=none:=by
 unfold getL at h
 show (match S[r]? with
  | some (.dic kvs)=>some kvs
  | _=>none)=none
 split at h <;> rename_i q <;> first | (cases h;done) | (rw [q])
theorem Fk {ρ:Rho}{S:Sto}{a:ME}{r:Nat}{us:List U} (ha:a ρ S=some (.ref r,S)) (hr:getL S r=some us):mFn bq (aa a af) ρ S=some (.int us.length,S):=
 iU ha (by simp only [bq,Fx hr,dr,hr,aN])
theorem Lv {ρ:Rho}{S S1 S2:Sto}{a b:ME}{n:Nat}{us:List U}{z:Int}{u:U} (ha:a ρ S=some (.ref n,S1)) (hb:b ρ S1=some (.int z,S2)) (hn:getL S2 n=some us) (h:atI us z=some u):m2 oIx a b ρ S=some (u,S2):=op2 ha hb (by simp only [oIx,Fx hn,dr,hn,ah,h,aN])
theorem kc {α:Type}{us:List α}{k:Nat}{u:α} (h:us[k]? = some u):atI us (k:Int)=some u:=by
 have hk:k < us.length:=(ag.mp h).1
 simp [atI,ixN,hk]
 exact (ag.mp h).2
theorem Ds {ns:List Int}{S:Sto}{k:Nat} (h:Scr ns S) : ∃ z,gM [.ref 0,.int k] S=some (.int z,S):=by
 have hc:=of_eq (JL (ρ := [some (.ref 0),some (.int k)]) (S:=S) (a:=ab 1) (b:=mFn bq (aa (ab 0) af)) (var_eq rfl) (Fk (var_eq rfl) h))
 rw [ay] at hc
 cases hb:decide ((k:Int) < ns.length) with
 | true=>
   rw [hb] at hc
   have hk:k < ns.length:=by simpa using hb
   have e:=Lv (ρ := [some (.ref 0),some (.int k)]) (S:=S) (a:=ab 0) (b:=ab 1) (var_eq rfl) (var_eq rfl) h (kc (k:=k) (u := .int ns[k]) (by simp [hk]))
   refine⟨ns[k],cz (ρ := [some (.ref 0),some (.int k)]) rfl ?_⟩
   show fE [some (.ref 0),some (.int k)] S=_
   unfold fE bf
   rw [kI hc,b8 e]
 | false=>
   rw [hb] at hc
   refine⟨0,cz (ρ := [some (.ref 0),some (.int k)]) rfl ?_⟩
   show fE [some (.ref 0),some (.int k)] S=_
   exact (aY ((mj hc).trans rfl)).trans (b8 c_i)
theorem FD {ρ:Rho}{S:Sto}:m2 ue (mC (.int 10)) (mC (.int 18)) ρ S=some (.int (10 ^ (18:Int).toNat),S):=op2 rfl rfl (if_pos ⟨by decide,by decide,by decide⟩)
theorem BF {ns:List Int}{S:Sto}{k:Nat} (h:Scr ns S) : ∃ S',jd [.ref 0,.int k] S=some (.ref S.length,S')/\Ex S S'/\jx S.length S':=by
 obtain⟨z,e1⟩:=Ds (k:=k) h
 have e2:bB 2 (mFn gM (aa (ab 0) (aa (ab 1) af))) [some (.ref 0),some (.int k),none] S=some (.nx,[some (.ref 0),some (.int k),some (.int z)],S):=bR (dg (var_eq rfl) (var_eq rfl) e1)
 have hc:=of_eq (KW (ρ := [some (.ref 0),some (.int k),some (.int z)]) (S:=S) (a:=ab 2) (var_eq rfl) FD)
 generalize hp:(10:Int) ^ (18:Int).toNat=p at hc
 have hpe : ∀ ρ (S:Sto),m2 ue (mC (.int 10)) (mC (.int 18)) ρ S=some (.int p,S):=fun ρ S=>by rw [FD,hp]
 cases hb:decide (p<=z) with
 | true=>
   rw [hb] at hc
   have e3:=Az (ρ := [some (.ref 0),some (.int k),some (.int z)]) (S:=S) (a:=m2 h9 (ab 2) (m2 ue (mC (.int 10)) (mC (.int 18)))) (b:=mC (.bl true)) (Cu (var_eq rfl) (hpe _ _)) rfl
   refine⟨_,cz (ρ := [some (.ref 0),some (.int k),some (.int z)]) rfl ?_,Ex.push _ _,⟨z - p,true,bF _ _⟩⟩
   show jj [some (.ref 0),some (.int k),none] S=_
   refine (aY e2).trans ?_
   unfold bf
   rw [kI hc,b8 e3]
 | false=>
   rw [hb] at hc
   have e3:=Az (ρ := [some (.ref 0),some (.int k),some (.int z)]) (S:=S) (a:=m2 oMod (ab 2) (mC (.int 2147483647))) (b:=mC (.bl false)) (Fh (var_eq rfl) c_i (by decide)) rfl
   refine⟨_,cz (ρ := [some (.ref 0),some (.int k),some (.int z)]) rfl ?_,Ex.push _ _,⟨z % 2147483647,false,bF _ _⟩⟩
   show jj [some (.ref 0),some (.int k),none] S=_
   exact (aY e2).trans ((aY ((mj hc).trans rfl)).trans (b8 e3))
theorem uC {i n:Nat}{b:MS} (us:List U) (P:Nat->Rho->Sto->Prop) (hl : ∀ k ρ S,P k ρ S->getL S n=some us)
  (st : ∀ (k:Nat) (u:U) (ρ:Rho) (S:Sto),us[k]? = some u->P k ρ S -> ∃ ρ' S',b (ρ.set i (some u)) S=some (.nx,ρ',S')/\P (k+1) ρ' S') :
  ∀ (f k:Nat) (ρ:Rho) (S:Sto),k<=us.length->us.length - k < f->P k ρ S -> ∃ ρ' S',forL i b n f k ρ S=some (.nx,ρ',S')/\P us.length ρ' S'
 | 0,k,ρ,S,h1,h2,_=>by omega
 | f+1,k,ρ,S,h1,h2,hp=>by
   unfold forL
   rw [hl k ρ S hp]
   simp only [ah]
   by_cases hk:k < us.length
   ·have hu:us[k]? = some us[k]:=by simp [hk]
    obtain⟨ρ1,S1,e1,p1⟩:=st k us[k] ρ S hu hp
    obtain⟨ρ2,S2,e2,p2⟩:=uC us P hl st f (k+1) ρ1 S1 (by assumption) (by omega) p1
    refine⟨ρ2,S2,?_,p2⟩
    simp only [hu,aft,e1,e2]
   ·have:k=us.length:=by omega
    subst this
    exact⟨ρ,S,by simp,hp⟩
theorem AR {i n:Nat}{b:MS}{e:ME}{ρ:Rho}{S S1:Sto}{us:List U} (he:e ρ S=some (.ref n,S1)) (hu:us.length < 100000) (P:Nat->Rho->Sto->Prop) (h0:P 0 ρ S1) (hl : ∀ k ρ S,P k ρ S->getL S n=some us)
  (st : ∀ (k:Nat) (u:U) (ρ:Rho) (S:Sto),us[k]? = some u->P k ρ S -> ∃ ρ' S',b (ρ.set i (some u)) S=some (.nx,ρ',S')/\P (k+1) ρ' S') :
  ∃ ρ' S',eB i (cZ e) b ρ S=some (.nx,ρ',S')/\P us.length ρ' S':=by
 obtain⟨ρ',S',e1,p1⟩:=uC us P hl st fuel 0 ρ S1 (da _) (by unfold fuel;assumption) h0
 refine⟨ρ',S',?_,p1⟩
 unfold eB cZ
 rw [he]
 simp only [aD,hl 0 ρ S1 h0,aN]
 exact e1
theorem Aw {i:Nat}{b:MS}{e:ME}{ρ:Rho}{S S1:Sto}{us:List U} (he:e ρ S=some (.tup us,S1)) (P:Nat->Rho->Sto->Prop) (h0:P 0 ρ S1)
  (st : ∀ (k:Nat) (u:U) (ρ:Rho) (S:Sto),us[k]? = some u->P k ρ S -> ∃ ρ' S',b (ρ.set i (some u)) S=some (.nx,ρ',S')/\P (k+1) ρ' S') :
  ∃ ρ' S',eB i (cZ e) b ρ S=some (.nx,ρ',S')/\P us.length ρ' S':=by
 obtain⟨ρ',S',e1,p1⟩:=nU (i:=i) (b:=b) P us 0 ρ S1 h0 fun j u ρ S hj hp=>by simpa using st j u ρ S hj (by simpa using hp)
 rw [eC] at p1
 refine⟨ρ',S',?_,p1⟩
 unfold eB cZ
 rw [he]
 exact e1
noncomputable def d0 (T:Nat->Nat->Nat) (w:List Nat):Nat:=w.foldl T 0
noncomputable def plc (T:Nat->Nat->Nat) (w:List Nat):List Nat:=(aA (w.length+1)).map fun k=>d0 T (w.take k)
theorem Er {m:Nat}{T:Nat->Nat->Nat} (hp:0 < m) (cl : ∀ i j,i < m->j < m->T i j < m) {w:List Nat} (hw : ∀ x∈w,x < m):d0 T w < m:=by
 unfold d0
 have : ∀ (w:List Nat) (a:Nat),a < m->(∀ x∈w,x < m)->w.foldl T a < m:=by
  intro w
  induction w with
  | nil=>intro a ha _;exact ha
  | cons x w ih=>intro a ha h;exact ih _ (cl a x ha (h x (by simp))) fun y hy=>h y (by simp [hy])
 exact this w 0 hp hw
theorem rS {T:Nat->Nat->Nat}{w:List Nat}{k x:Nat} (h:w[k]? = some x):d0 T (w.take (k+1))=T (d0 T (w.take k)) x:=by
 unfold d0
 rw [List.take_add_one,h]
 simp
theorem uT {α:Type}{f:Nat->α}{k:Nat}:atI ((aA (k+1)).map f) (-1)=some (f k):=by
 have e:ixN ((aA (k+1)).map f).length (-1)=some k:=by
  rw [ay,bz]
  unfold ixN
  rw [if_neg (by decide),if_pos (by omega)]
  congr 1;omega
 unfold atI
 rw [e]
 simp
theorem wo {l:List Nat}{k:Nat}{u:U} (h:(aj l)[k]? = some u) : ∃ x,l[k]? = some x/\u = .int x:=by
 obtain⟨hk,rfl⟩:=qj h
 exact⟨oF l k,by simp [oF,hk],rfl⟩
theorem zT {ρ:Rho}{S:Sto}:m1 eK (mC (.int 1)) ρ S=some (.int (-1),S):=rfl
end
end W
end
section
namespace W
open L2 G
section
theorem pX : ∀ (a b:List Nat),bV (a.map fun (x:Nat)=>cy x) (b.map fun (x:Nat)=>cy x)=decide (a=b)
 | [],[]=>by simp [bV]
 | [],_::_=>by simp [bV]
 | _::_,[]=>by simp [bV]
 | x::a,y::b=>by
   simp only [bu,bV,dM,pX a b]
   by_cases h:x=y
   ·subst h;simp
   ·have : ¬ ((x:Int)=y):=by omega
    simp [h,this]
theorem p8 {S:Sto}{f:Nat}{l:List Nat}:toD S (f+2) (.tup (aj l))=some (.tuple (l.map fun (x:Nat)=>cy x)):=by
 show (dz (toD S (f+1)) (aj l)).map _=_
 rw [qC l];rfl
theorem DO {S:Sto}{a b:List Nat}:G.eqU S (.tup (aj a)) (.tup (aj b))=some (decide (a=b)):=by
 unfold G.eqU
 rw [p8 (f:=38),p8 (f:=38)]
 simp only [ah,aN,dM,pX]
theorem isT {ρ:Rho}{S S1:Sto}{a:ME}{us:List U} (ha:a ρ S=some (.tup us,S1)):m1 (fg "tuple") a ρ S=some (.bl true,S1):=by
 simp only [m1,ha,aD,fg,tyU,aN]
 rfl
theorem not_eq {ρ:Rho}{S S1:Sto}{c:MT}{b:Bool} (h:c ρ S=some (b,S1)):lW c ρ S=some (!b,S1):=by simp only [lW,h,aD]
theorem Bi {ns:List Int}{S:Sto}{ρ:Rho}{c:Nat} (h:Scr ns S) (hv:ρ[0]? = some (some (.ref 0))) (hl:ns.length<=63) : ∃ q:Nat,q < 1000/\mFn oI (aa (mC (.int 1)) (aa (mFn o5 (aa (mFn bq (aa (ab 0) af)) (aa (mC (.int c)) af))) af)) ρ S=some (.int q,S):=by
 have e1:mFn o5 (aa (mFn bq (aa (ab 0) af)) (aa (mC (.int c)) af)) ρ S=some (.int (if (c:Int) < (ns.map U.int).length then (c:Int) else (ns.map U.int).length),S):=dg (Fk (var_eq hv) h) c_i rfl
 have e2:=dg (f:=oI) (a:=mC (.int 1)) (S:=S) (ρ:=ρ) c_i e1 rfl
 rw [ay] at e2
 refine⟨max 1 (min ns.length c),by omega,?_⟩
 rw [e2]
 show some (U.int (if (if (c:Int) < ns.length then (c:Int) else ns.length) > 1 then (if (c:Int) < ns.length then (c:Int) else ns.length) else 1),S)=_
 have:(if (if (c:Int) < ns.length then (c:Int) else ns.length) > 1 then (if (c:Int) < ns.length then (c:Int) else ns.length) else 1)=((max 1 (min ns.length c):Nat):Int):=by
  by_cases h:(c:Int) < ns.length
  ·simp only [h,if_true];split <;> omega
  ·simp only [h,if_false];split <;> omega
 rw [this]
theorem DR {ρ:Rho}{S S1 S2:Sto}{a b:ME}{x y:Nat} (ha:a ρ S=some (.int x,S1)) (hb:b ρ S1=some (.int y,S2)):m2 oEq a b ρ S=some (.bl (decide (x=y)),S2):=by
 rw [xg ha hb]
 congr 3
 by_cases h:x=y
 ·subst h;simp
 ·have : ¬ ((x:Int)=y):=by omega
  simp [h,this]
theorem yX {α:Type} (f:α->Bool) : ∀ (l:List α),dz iO (l.map fun x=>U.bl (f x))=some (l.map f)
 | []=>rfl
 | x::l=>by
   show (iO (.bl (f x))).bind _=_
   simp only [iO,ah]
   rw [yX f l];rfl
theorem JU {ρ:Rho}{S S1:Sto}{a:ME}{α:Type}{l:List α}{f:α->Bool} (ha:a ρ S=some (.ref S1.length,S1 ++ [Cell.lst (l.map fun x=>U.bl (f x))])):mFn o8 (aa a af) ρ S=some (.bl (l.all f),S1 ++ [Cell.lst (l.map fun x=>U.bl (f x))]):=by
 refine iU ha ?_
 simp only [o8,getL,bF,ah,yX,aN]
 rw [List.all_map];rfl
end
end W
end
section
namespace W
open L2 G
section
theorem Bu {a b:MS}{ρ ρ1:Rho}{S S1:Sto}{u:U} (h:a ρ S=some (.rt u,ρ1,S1)):bf a b ρ S=some (.rt u,ρ1,S1):=by simp only [bf,h]
theorem s9 {ρ:Rho}{S S1:Sto}{a:ME}{u:U} (ha:a ρ S=some (u,S1)):bA (aa a af) ρ S=some (.tup [u],S1):=by
 have hb1:1<=big:=by decide
 simp [bA,mH ha,aD,hb1]
theorem JZ {ρ:Rho}{S S1 S2:Sto}{a b:ME}{x y:Bool} (ha:a ρ S=some (.bl x,S1)) (hb:b ρ S1=some (.bl y,S2)):m2 oNe a b ρ S=some (.bl (!(x == y)),S2):=op2 ha hb rfl
theorem or_false {ρ:Rho}{S S1 S2:Sto}{a b:MT} (ha:a ρ S=some (false,S1)) (hb:b ρ S1=some (false,S2)):cOr a b ρ S=some (false,S2):=by
 rw [or_eq ha hb (by intro z;cases z)];rfl
end
end W
end
section
namespace W
open L2 G
section
noncomputable def dY (l:List Nat):List Int:=l.map fun (x:Nat)=>(x:Int)
noncomputable def srt (l:List Nat):List Nat:=(km (dY l)).map mv
theorem p7 (l:List Nat):(km (dY l)).map U.int=aj (srt l):=by
 unfold aj srt
 rw [cx]
 apply cm
 intro i hi
 have hm:=(gH (dY l)).mem_iff.mp hi
 obtain⟨x,_,rfl⟩:=bI.mp hm
 rfl
theorem mX : ∀ l:List Nat,(dY l).map mv=l
 | []=>rfl
 | x::l=>by
   show mv (x:Int)::(dY l).map mv=x::l
   rw [mX l];rfl
theorem kM (l:List Nat):(srt l).Perm l:=by
 have h:=(gH (dY l)).map mv
 rw [mX] at h
 exact h
theorem ox {a b:List Nat} (p:a.Perm b):srt a=srt b:=by
 unfold srt
 rw [nJ ((gH (dY a)).trans (p.map _)) (uF _)]
 rfl
theorem sZ {l:List Nat}{x:Nat}:x∈srt l↔x∈l:=(kM l).mem_iff
theorem tu (l:List Nat):(srt l).length=l.length:=(kM l).length_eq
theorem j9 : ∀ (l:List Nat),dz nG (aj l)=some (dY l)
 | []=>rfl
 | x::l=>by
   show (nG (.int x)).bind _=_
   simp only [nG,ah]
   rw [show List.map (fun (x:Nat)=>U.int x) l=aj l from rfl,j9 l]
   rfl
theorem vQ {S:Sto}{x:U}{l:List Nat} (h:rK S x=some (dY l)) (hl:l.length < 64):fL [x] S=some (.ref S.length,S ++ [.lst (aj (srt l))]):=by
 have ok:xR (dY l).length:=by unfold dY;rw [ay];exact hl
 simp only [fL,h,ah,ok,if_true,p7]
theorem Ci {ρ:Rho}{S S1:Sto}{a:ME}{n:Nat}{l:List Nat} (ha:a ρ S=some (.ref n,S1)) (hn:S1[n]? = some (Cell.lst (aj l))) (hl:l.length < 64):mFn fL (aa a af) ρ S=some (.ref S1.length,S1 ++ [.lst (aj (srt l))]):=
 iU ha (vQ (by simp only [rK,fR,hn,dr,getL,ah,j9]) hl)
section
variable {m:Nat}{T:Nat->Nat->Nat}{t n:Nat}
end
end
end W
end
section
namespace W
open L2 G
section
open PySem in
open PySem in
open PySem in
inductive Pl:mw->Prop where
 | non:Pl .none
 | bl (b:Bool):Pl (.bool b)
 | int (i:Int):i.natAbs < 10 ^ 12->Pl (.int i)
 | lst (xs:List mw):(∀ x∈xs,Pl x)->Pl (.list xs)
 | tup (xs:List mw):(∀ x∈xs,Pl x)->Pl (.tuple xs)
open PySem in
open PySem in
open PySem in
open PySem in
open PySem in
open PySem in
open PySem in
open PySem in
open PySem in
open PySem in
noncomputable def KR (l:List Nat):mw := .tuple (l.map fun (x:Nat)=>cy x)
open PySem in
open PySem in
theorem jm {f:MF}{ρ:Rho}{S S1 S2 S3:Sto}{a b c:ME}{x y z:U}{r:Res U} (ha:a ρ S=some (x,S1)) (hb:b ρ S1=some (y,S2)) (hc:c ρ S2=some (z,S3)) (h:f [x,y,z] S3=r):mFn f (aa a (aa b (aa c af))) ρ S=r:=by
 simp only [mFn,aa,af,ha,hb,hc,aD,h]
end
end W
end
section
namespace W
open L2 G
section
theorem t7 {c:MT}{b:MS} (P:Nat->Rho->Sto->Prop) (Q:Rho->Sto->Prop)
  (hc : ∀ μ ρ S,P μ ρ S -> ∃ k S1,c ρ S=some (k,S1)/\(k=false->Q ρ S1)/\(k=true -> ∃ ρ' S' μ',μ' < μ/\b ρ S1=some (.nx,ρ',S')/\P μ' ρ' S')) :
  ∀ (f μ:Nat) (ρ:Rho) (S:Sto),μ < f->P μ ρ S -> ∃ ρ' S',whl c b f ρ S=some (.nx,ρ',S')/\Q ρ' S'
 | 0,μ,ρ,S,h,_=>by omega
 | f+1,μ,ρ,S,h,hp=>by
   obtain⟨k,S1,e,q1,q2⟩:=hc μ ρ S hp
   unfold whl
   rw [e]
   simp only [aD]
   cases k with
   | false=>exact⟨ρ,S1,by simp,q1 rfl⟩
   | true=>
     obtain⟨ρ1,S2,μ1,hl,e1,p1⟩:=q2 rfl
     obtain⟨ρ2,S3,e2,q⟩:=t7 P Q hc f μ1 ρ1 S2 (by omega) p1
     exact⟨ρ2,S3,by simp only [if_true,aft,e1,e2],q⟩
section
variable {S x:Sto}{c e c' e':Cell}
theorem h0:(S ++ [c,e]++x)[S.length]? = some c:=by rw [ba,ax (aq _)];simp
theorem h1:(S ++ [c,e]++x)[S.length+1]? = some e:=by rw [ba,ax (by exact dc _)];simp
theorem t0:(S ++ [c,e]++x).set S.length c'=S ++ [c',e]++x:=by
 rw [ba,fm _ _ (aq _),CC,ba];rfl
theorem t1:(S ++ [c,e]++x).set (S.length+1) e'=S ++ [c,e']++x:=by
 rw [ba,fm _ _ (by exact dc _),show S.length+1 - S.length=1 by omega,ba];rfl
end
inductive Rch (T:Nat->Nat->Nat) (ths:List Nat):Nat->Prop where
 | zero:Rch T ths 0
 | step {x y:Nat}:Rch T ths x->y∈ths->Rch T ths (T x y)
structure Dfs (m:Nat) (T:Nat->Nat->Nat) (ths:List Nat) (ks:List Nat) (C:Nat->Prop):Prop where
 nd:ks.Nodup
 lt : ∀ x∈ks,x < m
 z:0∈ks
 rc : ∀ x∈ks,Rch T ths x
 cl : ∀ x∈ks,C x \/ ∀ y∈ths,T x y∈ks
section
variable {m:Nat}{T:Nat->Nat->Nat}{ths ks st:List Nat}
theorem EI {a b:List Nat} (ha:a.Nodup) (hb:b.Nodup) (h : ∀ x,x∈a↔x∈b):a.Perm b:=(wW ha hb).mpr fun x=>h x
structure Inn (m:Nat) (T:Nat->Nat->Nat) (ths:List Nat) (h k:Nat) (p:List Nat×List Nat) (μ:Nat):Prop where
 d:Dfs m T ths p.1 fun x=>x∈p.2\/x=h
 sub : ∀ x∈p.2,x∈p.1
 hk:h∈p.1
 hh : ∀ y∈ths.take k,T h y∈p.1
 ms:2*(m - p.1.length)+p.2.length<=μ
structure LG (m:Nat) (T:Nat->Nat->Nat) (ths ks st:List Nat) (μ:Nat):Prop where
 d:Dfs m T ths ks fun x=>x∈st
 sub : ∀ x∈st,x∈ks
 ms:2*(m - ks.length)+st.length<=μ
end
end
end W
end
section
namespace W
open L2 G
section
section
variable {m:Nat}{T:Nat->Nat->Nat}{ths:List Nat}{S x:Sto}{v:U}
theorem pv {α:Type} : ∀ {l:List α},l ≠ [] -> ∃ a b,l=a ++ [b]
 | l,h=>⟨l.dropLast,l.getLast h,(List.dropLast_concat_getLast h).symm⟩
theorem uP {ρ:Rho}{S S1:Sto}{a:ME}{x:U} (ha:a ρ S=some (x,S1)):b4 (aa a af) ρ S=some (.ref S1.length,S1 ++ [Cell.lst [x]]):=by
 have hq:1<=big:=by decide
 simp [b4,aa,af,aD,ha,hq]
end
end
end W
end
section
namespace W
open L2 G
section
noncomputable def tups (ls:List (List Nat)):List U:=ls.map fun l=>U.tup (aj l)
open PySem in
structure Sml (ls:List (List Nat)):Prop where
 len:ls.length<=64
 each : ∀ l∈ls,l.length<=64
 lt : ∀ l∈ls,∀ x∈l,x < 1000
open PySem in
open PySem in
open PySem in
theorem tL {l:List Nat}{x:Nat}:inV (.int x) (l.map fun (y:Nat)=>V.int y)=decide (x∈l):=by
 unfold inV
 rw [List.any_map]
 by_cases h:x∈l
 ·rw [decide_eq_true h,List.any_eq_true]
  exact⟨x,h,by simp [eqV]⟩
 ·rw [decide_eq_false h,qP]
  intro y hy
  have:y≠x:=fun e=>h (e▸hy)
  simp [eqV];omega
theorem lN : ∀ (l:List Nat),dz eG (aj l)=some (l.map fun (y:Nat)=>V.int y)
 | []=>rfl
 | x::l=>by
   show (eG (.int x)).bind _=_
   simp only [eG,ah]
   have:=lN l
   unfold aj at this
   rw [this];rfl
noncomputable def atM:MS:=dh (my (iR1 (aa (mFn bq (aa (ab 0) af)) af)))
theorem IR {m:Nat}{T:Nat->Nat->Nat}{S:Sto} (hm:m < 1000):G.run 1 1 atM [tab m T] S=some (.tup (aj (aA m)),S):=by
 refine cz (ρ := [some (tab m T)]) rfl (b8 ?_)
 have e1:=lF (ρ := [some (tab m T)]) (S:=S) (a:=mFn bq (aa (ab 0) af)) (n:=m) (len_tab (var_eq rfl)) (by unfold big;exact ai (by assumption) (by decide))
 have e2:bg 0 m=aj (aA m):=by
  unfold bg aj
  apply cm
  intro k _
  simp
 rw [e2] at e1
 have hz:(aj (aA m)).length<=big:=by rw [bK,bz];unfold big;omega
 show my (iR1 (aa (mFn bq (aa (ab 0) af)) af)) [some (tab m T)] S=_
 simp only [my,e1,aD,hz,if_true]
section
variable {m:Nat}{T:Nat->Nat->Nat}{part:List Nat}{S:Sto}
end
end
end W
end
section
namespace W
open L2 G
section
theorem mV {t:MT}{e:ME}{ρ:Rho}{S:Sto}{p:U->Bool}{f:U->U} : ∀ (us acc:List U),(∀ u∈us,t (ρ ++ [some u]) S=some (p u,S))->(∀ u∈us,p u=true->e (ρ ++ [some u]) S=some (f u,S)) ->
  gF t e ρ us acc S=some (acc++(us.filter p).map f,S)
 | [],acc,_,_=>by simp [gF]
 | u::us,acc,ht,he=>by
   unfold gF
   rw [ht u (by simp)]
   simp only [aD]
   cases hp:p u with
   | true=>
     rw [if_pos rfl,he u (by simp) hp]
     simp only [aD]
     rw [mV us _ (fun v hv=>ht v (aO _ hv)) (fun v hv=>he v (aO _ hv)),List.filter_cons_of_pos hp]
     simp
   | false=>
     rw [if_neg bj,mV us _ (fun v hv=>ht v (aO _ hv)) (fun v hv=>he v (aO _ hv)),List.filter_cons_of_neg (by rw [hp];decide)]
theorem su {t:MT}{e a:ME}{ρ:Rho}{S S1:Sto}{us:List U}{p:U->Bool}{f:U->U} (ha:a ρ S=some (.tup us,S1)) (hl:us.length < big) (ht : ∀ u∈us,t (ρ ++ [some u]) S1=some (p u,S1)) (he : ∀ u∈us,p u=true->e (ρ ++ [some u]) S1=some (f u,S1)) :
  cU (cZ a) t e ρ S=some (.ref S1.length,S1 ++ [.lst ((us.filter p).map f)]):=by
 have hi:cZ a ρ S=some (.imm us,S1):=by simp only [cZ,ha,aD]
 have e1:=mV us [] ht he
 rw [ei] at e1
 refine pB hi e1 ?_
 have:=iG p us
 rw [ay];exact aJ (by assumption) (by assumption)
theorem pU {t:MT}{e a:ME}{ρ:Rho}{S S1:Sto}{l:List Nat}{p:Nat->Bool}{f:Nat->U} (ha:a ρ S=some (.tup (aj l),S1)) (hl:l.length < big) (ht : ∀ x∈l,t (ρ ++ [some (.int x)]) S1=some (p x,S1)) (he : ∀ x∈l,p x=true->e (ρ ++ [some (.int x)]) S1=some (f x,S1)) :
  cU (cZ a) t e ρ S=some (.ref S1.length,S1 ++ [.lst ((l.filter p).map f)]):=by
 have nat : ∀ u∈aj l,∃ x∈l,u = .int (x:Nat):=fun u hu=>by
  obtain⟨x,hx,rfl⟩:=bI.mp hu;exact⟨x,hx,rfl⟩
 let g:U->Nat:=fun u=>match u with | .int i=>i.toNat | _=>0
 have gx : ∀ x:Nat,g (.int x)=x:=fun x=>by simp [g]
 have h:=su (t:=t) (e:=e) (p:=fun u=>p (g u)) (f:=fun u=>f (g u)) ha (by rw [bK];exact hl) (fun u hu=>by
  obtain⟨x,hx,rfl⟩:=nat u hu
  rw [gx];exact ht x hx) (fun u hu hp=>by
  obtain⟨x,hx,rfl⟩:=nat u hu
  rw [gx] at hp ⊢;exact he x hx hp)
 rw [h]
 have:((aj l).filter fun u=>p (g u)).map (fun u=>f (g u))=(l.filter p).map f:=by
  unfold aj
  rw [List.filter_map,cx]
  have e1:(fun u=>p (g u))∘(fun (x:Nat)=>U.int x)=p:=by funext x;simp [gx]
  have e2:(fun u=>f (g u))∘(fun (x:Nat)=>U.int x)=f:=by funext x;simp [gx]
  rw [e1,e2]
 rw [this]
theorem sj {t:MT}{e a:ME}{ρ:Rho}{S S1:Sto}{l:List Nat}{p:Nat->Bool}{f:Nat->U} (ha:a ρ S=some (.tup (aj l),S1)) (hl:l.length < 1000) (ht : ∀ x∈l,t (ρ ++ [some (.int x)]) S1=some (p x,S1)) (he : ∀ x∈l,p x=true->e (ρ ++ [some (.int x)]) S1=some (f x,S1)) :
  cU (cZ a) t e ρ S=some (.ref S1.length,S1 ++ [.lst ((l.filter p).map f)]):=
 pU ha (by unfold big;exact ai (by assumption) (by decide)) ht he
theorem EE {ρ:Rho}{S S1 S2:Sto}{a b:ME}{x:Nat}{l:List Nat} (ha:a ρ S=some (.int x,S1)) (hb:b ρ S1=some (.tup (aj l),S2)):cOf (m2 fN a b) ρ S=some (!decide (x∈l),S2):=by
 refine of_eq (op2 ha hb ?_)
 simp only [fN,fR,eG,ah,dr,lN,aN,tL]
theorem pL {ρ:Rho}{S S1 S2:Sto}{a b:ME}{x y:U} (ha:a ρ S=some (x,S1)) (hb:b ρ S1=some (y,S2)):bA (aa a (aa b af)) ρ S=some (.tup [x,y],S2):=by
 have hb2:2<=big:=by decide
 simp [bA,aa,af,ha,hb,aD,hb2]
section
variable {m:Nat}{T:Nat->Nat->Nat}{st left:List Nat}{S:Sto}
noncomputable def prU (T:Nat->Nat->Nat) (h s:Nat):U := .tup [.int s,.int (T h s:Nat)]
theorem FZ {ρ:Rho}{S S1 S2:Sto}{a b:ME}{x y:List Nat} (ha:a ρ S=some (.tup (aj x),S1)) (hb:b ρ S1=some (.tup (aj y),S2)) (hl:x.length+y.length<=big):m2 bC a b ρ S=some (.tup (aj (x++y)),S2):=by
 refine op2 ha hb ?_
 simp only [bC]
 rw [if_pos (by rw [bK,bK];exact hl)]
 simp [aj]
theorem yF {ρ:Rho}{S S1 S2:Sto}{a b:ME}{x y:List Nat} (ha:a ρ S=some (.tup (aj x),S1)) (hb:b ρ S1=some (.tup (aj y),S2)) (hl:x.length+y.length < 1000):m2 bC a b ρ S=some (.tup (aj (x++y)),S2):=
 FZ ha hb (by unfold big;omega)
end
end
end W
end
section
namespace W
open L2 G
section
abbrev Nod:=List Nat×List Nat
noncomputable def lnU (p:Nod):U := .tup [.tup (aj p.1),.tup (aj p.2)]
noncomputable def lnD (p:Nod):mw := .tuple [KR p.1,KR p.2]
theorem FO {S:Sto}{f:Nat} (p:Nod):toD S (f+3) (lnU p)=some (lnD p):=by
 show (dz (toD S (f+2)) [.tup (aj p.1),.tup (aj p.2)]).map _=_
 simp only [dz,p8,ah,aN]
 rfl
theorem yv {S:Sto}{f:Nat} : ∀ (ls:List Nod),dz (toD S (f+3)) (ls.map lnU)=some (ls.map lnD)
 | []=>rfl
 | p::ls=>by
   show (toD S (f+3) (lnU p)).bind _=_
   rw [FO]
   simp only [ah]
   rw [yv ls]
   rfl
theorem yK {S:Sto}{n:Nat}{ls:List Nod} (h:S[n]? = some (Cell.lst (ls.map lnU))):toD S 40 (.ref n)=some (.list (ls.map lnD)):=by
 show (getL S n).bind _=_
 unfold getL
 rw [h]
 simp only [ah]
 rw [yv (f:=36)]
 rfl
theorem Hc {ρ:Rho}{S S1 S2:Sto}{a b:ME}{n k:Nat}{x:List Nod} (ha:a ρ S=some (.ref n,S1)) (hb:b ρ S1=some (.ref k,S2)) (hn:S2[n]? = some (Cell.lst (x.map lnU))) (hk:S2[k]? = some (Cell.lst [])):m2 oNe a b ρ S=some (.bl (!decide (x = [])),S2):=by
 refine op2 ha hb ?_
 have e2:toD S2 40 (.ref k)=some (.list []):=by
  have:=yK (S:=S2) (n:=k) (ls := []) hk
  simpa using this
 simp only [oNe,G.eqU,yK hn,e2,ah,aN,dM]
 cases x <;> simp [bV]
noncomputable def eD (th:List Nat):Nat:=(th.getLast?).getD 0
theorem m6 {l:List Nat}{x:Nat}:eD (l ++ [x])=x:=by simp [eD]
theorem yC {th:List Nat} (h:th ≠ []):atI (aj th) (-1)=some (.int (eD th:Nat)):=by
 obtain⟨l,x,rfl⟩:=pv h
 rw [m6]
 have hl:(aj (l ++ [x])).length=l.length+1:=by simp [aj]
 unfold atI
 have:L2.ixN (aj (l ++ [x])).length (-1)=some l.length:=by
  rw [hl];unfold L2.ixN
  rw [if_neg (by decide),if_pos (by omega)]
  congr 1;omega
 rw [this]
 simp [aj]
theorem qh {m:Nat}{th:List Nat} (h:th ≠ []) (hl : ∀ x∈th,x < m):eD th < m:=by
 obtain⟨l,x,rfl⟩:=pv h
 rw [m6];exact hl x (by simp)
noncomputable def kids (T:Nat->Nat->Nat) (st:List Nat) (p:Nod):List Nod:=(st.filter fun s => !decide (T (eD p.2) s∈p.2)).map fun s=>(p.1 ++ [s],p.2 ++ [T (eD p.2) s])
noncomputable def kT (T:Nat->Nat->Nat) (st:List Nat) (L:Nod->List (List Nat)):Nat->Nod->List (List Nat)
 | 0,p=>L p
 | k+1,p=>(kids T st p).flatMap (kT T st L k)
theorem ql {e:ME}{ρ:Rho}{n c:Nat}{S:Sto}{us:List U}{f:U->U} (hu:getL S n=some us) (he : ∀ u∈us,∃ ws,uj c u=some ws/\e (ρ++ws.map some) S=some (f u,S)) :
  ∀ (k i:Nat) (acc:List U),i<=us.length->us.length - i < k->gI c cTT e ρ n k i acc S=some (acc++(us.drop i).map f,S)
 | 0,i,acc,h1,h2=>by omega
 | k+1,i,acc,h1,h2=>by
   unfold gI
   rw [hu]
   simp only [ah]
   by_cases hi:i < us.length
   ·have hd:us.drop i=us[i]::us.drop (i+1):=yb hi
    obtain⟨ws,e1,e2⟩:=he _ (dW hi)
    rw [aX hi]
    simp only
    rw [e1]
    simp only [ah,cTT,aD,if_true]
    rw [e2]
    simp only [aD]
    have ih:=ql hu he k (i+1) (acc ++ [f us[i]]) (by assumption) (by omega)
    rw [ih,hd,bu,ba]
    rfl
   ·rw [iF (by exact eP (by assumption)),mP (by exact eP (by assumption))]
    simp
noncomputable def bY (S:Sto) (F:List (List Nat)) (ln:List Nod) (x:Sto):Sto:=S ++ [.lst (tups F),.lst (ln.map lnU)]++x
section
variable {m:Nat}{T:Nat->Nat->Nat}{st:List Nat}{S x:Sto}{F:List (List Nat)}{ln:List Nod}{ρ:Rho}
theorem eM {c:Cell}:bY S F ln x ++ [c]=bY S F ln (x ++ [c]):=by simp [bY]
theorem vU {i n h:Nat}{he:ME}{p:Nod} (hh:h < m) (hs : ∀ s∈st,s < m) (hsl:st.length < 1000) (hp1:p.1.length < 400) (hp2:p.2.length < 400) (hln:ln.length < 100000) (hl:eD p.2=h)
  (h0':ρ[0]? = some (some (tab m T))) (h1':ρ[1]? = some (some (.tup (aj st)))) (h4:ρ[4]? = some (some (.ref (S.length+1)))) (h5:ρ[5]? = some (some (.tup (aj p.1)))) (h6:ρ[6]? = some (some (.tup (aj p.2)))) (hn:ρ.length=n) (hi:i < n) (hi6:6 < i)
  (hhe : ∀ z (S:Sto),he (ρ++z) S=some (.int (h:Nat),S)) :
  ∃ v x',bf (bB i (cU (cZ (ab 1)) (cOf (m2 fN (m2 oIx (m2 oIx (ab 0) he) (ab n)) (ab 6))) (bA (aa (ab n) (aa (m2 oIx (m2 oIx (ab 0) he) (ab n)) af))))) (dj (mML eF (ab 4) (aa (iT 2 (cZ (m1 lh (ab i))) cTT (bA (aa (m2 bC (ab 5) (bA (aa (ab n) af))) (aa (m2 bC (ab 6) (bA (aa (ab (n+1)) af))) af)))) af))) ρ (bY S F ln x) =
   some (.nx,ρ.set i v,bY S F (ln++(kids T st p).reverse) x'):=by
 have ap : ∀ {j:Nat}{v:Option U}{z:Rho},ρ[j]? = some v->(ρ++z)[j]? = some v:=fun {j v z} e=>by
  have:=(ag.mp e).1
  rw [aS this];exact e
 have apn : ∀ {v:Option U}{z:Rho},(ρ++(v::z))[n]? = some v:=fun {v z}=>by rw [ax (by exact nc (by assumption)),hn];simp
 have ev : ∀ (s:Nat) (S':Sto),s∈st->m2 oIx (m2 oIx (ab 0) he) (ab n) (ρ ++ [some (.int s)]) S'=some (.int (T h s:Nat),S'):=fun s S' hs'=>mU (T:=T) (i:=h) (j:=s) (hs s hs') (m5 hh (var_eq (ap h0')) (hhe _ _)) (var_eq apn)
 have e1:=sj (t:=cOf (m2 fN (m2 oIx (m2 oIx (ab 0) he) (ab n)) (ab 6))) (e:=bA (aa (ab n) (aa (m2 oIx (m2 oIx (ab 0) he) (ab n)) af))) (ρ:=ρ) (S:=bY S F ln x) (a:=ab 1) (l:=st) (p:=fun s => !decide (T h s∈p.2)) (f:=prU T h) (var_eq h1') hsl (fun s hs'=>EE (ev s _ hs') (var_eq (ap h6))) (fun s hs' _=>pL (var_eq apn) (ev s _ hs'))
 generalize hfr:(st.filter fun s => !decide (T h s∈p.2))=fr at e1
 have hfl:fr.length<=st.length:=by rw [<- hfr];exact iG _ _
 have g7:(ρ.set i (some (.ref (bY S F ln x).length)))[i]? = some (some (.ref (bY S F ln x).length)):=aL (by omega)
 have ne : ∀ {j:Nat}{v w:Option U},j≠i->ρ[j]? = some v->(ρ.set i w)[j]? = some v:=fun {j v w} hj e=>by rw [aH (by omega)];exact e
 have hlen:(ρ.set i (some (.ref (bY S F ln x).length))).length=n:=by simp [hn]
 rw [eM] at e1
 have c1:(bY S F ln (x ++ [Cell.lst (fr.map (prU T h))]))[(bY S F ln x).length]? = some (Cell.lst (fr.map (prU T h))):=by rw [<- eM];exact bF _ _
 have e2:m1 lh (ab i) (ρ.set i (some (.ref (bY S F ln x).length))) (bY S F ln (x ++ [Cell.lst (fr.map (prU T h))]))=some (.ref (bY S F ln (x ++ [Cell.lst (fr.map (prU T h))])).length,bY S F ln (x ++ [Cell.lst (fr.map (prU T h))] ++ [Cell.lst (fr.reverse.map (prU T h))])):=by
  simp only [m1,var_eq g7,aD,lh,getL,c1,aN]
  rw [eM,List.map_reverse]
 have c2:(bY S F ln (x ++ [Cell.lst (fr.map (prU T h))] ++ [Cell.lst (fr.reverse.map (prU T h))]))[(bY S F ln (x ++ [Cell.lst (fr.map (prU T h))])).length]? = some (Cell.lst (fr.reverse.map (prU T h))):=by rw [<- eM];exact bF _ _
 generalize hS2:bY S F ln (x ++ [Cell.lst (fr.map (prU T h))] ++ [Cell.lst (fr.reverse.map (prU T h))])=S2 at e2 c2
 generalize hr2:(bY S F ln (x ++ [Cell.lst (fr.map (prU T h))])).length=r2 at e2 c2
 have hg2:getL S2 r2=some (fr.reverse.map (prU T h)):=by unfold getL;rw [c2]
 have e3:=ql (c:=2) (e:=bA (aa (m2 bC (ab 5) (bA (aa (ab n) af))) (aa (m2 bC (ab 6) (bA (aa (ab (n+1)) af))) af))) (ρ:=ρ.set i (some (.ref (bY S F ln x).length))) (f:=fun u=>match u with | .tup [.int a,.int b]=>lnU (p.1 ++ [a.toNat],p.2 ++ [b.toNat]) | _ => .non) hg2 (by
  intro u hu
  obtain⟨s,_,rfl⟩:=bI.mp hu
  refine⟨[.int s,.int (T h s:Nat)],rfl,?_⟩
  have ap2 : ∀ {j:Nat}{v:Option U}{z:Rho},(ρ.set i (some (.ref (bY S F ln x).length)))[j]? = some v->(ρ.set i (some (.ref (bY S F ln x).length))++z)[j]? = some v:=fun {j v z} e=>by
   have:=(ag.mp e).1
   rw [aS this];exact e
  have q1:(ρ.set i (some (.ref (bY S F ln x).length))++([.int s,.int (T h s:Nat)]:List U).map some)[n]? = some (some (.int s)):=by rw [ax (by exact nc (by assumption)),hlen];simp
  have q2:(ρ.set i (some (.ref (bY S F ln x).length))++([.int s,.int (T h s:Nat)]:List U).map some)[n+1]? = some (some (.int (T h s:Nat))):=by rw [ax (by omega),hlen];simp
  refine (pL (yF (x:=p.1) (y := [s]) (var_eq (ap2 (ne (by omega) h5))) (s9 (var_eq q1)) (by simp;exact aJ (by assumption) (by decide))) (yF (x:=p.2) (y := [T h s]) (var_eq (ap2 (ne (by exact aG (by assumption)) h6))) (s9 (var_eq q2)) (by simp;exact aJ (by assumption) (by decide)))).trans ?_
  simp [prU,lnU]) fuel 0 [] (da _) (by rw [ay,dR];unfold fuel;exact aJ (by assumption) (ai (by assumption) (by decide)))
 rw [List.drop_zero,ei,cx] at e3
 have hk:(fr.reverse.map ((fun u=>match u with | .tup [.int a,.int b]=>lnU (p.1 ++ [a.toNat],p.2 ++ [b.toNat]) | _ => .non)∘prU T h))=((kids T st p).reverse).map lnU:=by
  unfold kids
  rw [hl,hfr,<- List.map_reverse,cx]
  apply cm
  intro s _
  simp [prU]
 rw [hk] at e3
 have hkl:(kids T st p).reverse.length < 1000:=by
  rw [dR];unfold kids;rw [ay,hl,hfr];exact aJ (by assumption) (by assumption)
 have e4:iT 2 (cZ (m1 lh (ab i))) cTT (bA (aa (m2 bC (ab 5) (bA (aa (ab n) af))) (aa (m2 bC (ab 6) (bA (aa (ab (n+1)) af))) af))) (ρ.set i (some (.ref (bY S F ln x).length))) (bY S F ln (x ++ [Cell.lst (fr.map (prU T h))]))=some (.ref S2.length,S2 ++ [.lst (((kids T st p).reverse).map lnU)]):=by
  have hi2:cZ (m1 lh (ab i)) (ρ.set i (some (.ref (bY S F ln x).length))) (bY S F ln (x ++ [Cell.lst (fr.map (prU T h))]))=some (.mut r2,S2):=by simp only [cZ,e2,aD,hg2,aN]
  simp only [iT,hi2,aD,BO,e3]
  exact if_pos (by rw [ay];unfold big;exact ai (by assumption) (by decide))
 have c3:(S2 ++ [Cell.lst (((kids T st p).reverse).map lnU)])[S.length+1]? = some (.lst (ln.map lnU)):=by rw [<- hS2,eM];exact h1
 have c4:(S2 ++ [Cell.lst (((kids T st p).reverse).map lnU)])[S2.length]? = some (.lst (((kids T st p).reverse).map lnU)):=bF _ _
 have c5:(bY S F ln (x ++ [Cell.lst (fr.map (prU T h))]))[S.length+1]? = some (.lst (ln.map lnU)):=h1
 refine⟨some (.ref (bY S F ln x).length),x ++ [Cell.lst (fr.map (prU T h))] ++ [Cell.lst (fr.reverse.map (prU T h))] ++ [Cell.lst (((kids T st p).reverse).map lnU)],(aY (bR e1)).trans ?_⟩
 have e5:mML eF (ab 4) (aa (iT 2 (cZ (m1 lh (ab i))) cTT (bA (aa (m2 bC (ab 5) (bA (aa (ab n) af))) (aa (m2 bC (ab 6) (bA (aa (ab (n+1)) af))) af)))) af) (ρ.set i (some (.ref (bY S F ln x).length))) (bY S F ln (x ++ [Cell.lst (fr.map (prU T h))]))=some (.non,bY S F (ln++(kids T st p).reverse) (x ++ [Cell.lst (fr.map (prU T h))] ++ [Cell.lst (fr.reverse.map (prU T h))] ++ [Cell.lst (((kids T st p).reverse).map lnU)])):=by
  simp only [mML,var_eq (ne (by omega) h4),aD,getL,c5,ah,aa,af,e4,eF,c3,c4]
  rw [if_pos (by rw [ay,ay];unfold big;omega)]
  congr 2
  rw [<- hS2,eM]
  show (S ++ [_,_]++_).set (S.length+1) _=_
  rw [t1]
  simp [bY]
 simp only [dj,e5,aD]
noncomputable def vt:MT:=j8 (cOf (m2 oNe (ab 4) (b4 af))) (cOf (m2 oLt (mFn bq (aa (ab 3) af)) (ab 2)))
theorem yi {most:Nat} (h2:ρ[2]? = some (some (.int most))) (h3:ρ[3]? = some (some (.ref S.length))) (h4:ρ[4]? = some (some (.ref (S.length+1)))) :
  vt ρ (bY S F ln x)=some (!decide (ln = [])&&decide (F.length < most),bY S F ln (x ++ [.lst []])):=by
 have e1:cOf (m2 oNe (ab 4) (b4 af)) ρ (bY S F ln x)=some (!decide (ln = []),bY S F ln (x ++ [.lst []])):=by
  refine of_eq (Hc (var_eq h4) (j5.trans (by rw [eM])) h1 ?_)
  rw [<- eM];exact bF _ _
 have e2:cOf (m2 oLt (mFn bq (aa (ab 3) af)) (ab 2)) ρ (bY S F ln (x ++ [.lst []]))=some (decide (F.length < most),bY S F ln (x ++ [.lst []])):=by
  have:=of_eq (JL (ρ:=ρ) (S:=bY S F ln (x ++ [.lst []])) (a:=mFn bq (aa (ab 3) af)) (b:=ab 2) (yI (var_eq h3) h0) (var_eq h2))
  rw [this]
  congr 2
  simp [tups]
 exact and_eq e1 e2 fun _=>rfl
theorem yy {p:Nod} (h4:ρ[4]? = some (some (.ref (S.length+1)))) :
  p6 (mML pO (ab 4) af) (gTp 2 (dn (gN 5) (dn (gN 6) jl))) ρ (bY S F (ln ++ [p]) x)=some (.nx,(ρ.set 5 (some (.tup (aj p.1)))).set 6 (some (.tup (aj p.2))),bY S F ln x):=by
 have e1:mML pO (ab 4) af ρ (bY S F (ln ++ [p]) x)=some (lnU p,bY S F ln x):=by
  have c:(bY S F (ln ++ [p]) x)[S.length+1]? = some (.lst ((ln ++ [p]).map lnU)):=h1
  simp only [mML,var_eq h4,aD,getL,c,ah,af,pO]
  simp only [cH,bu,ij,aI,bo,bT,List.dropLast_concat]
  rw [ax (by simp)]
  simp only [ay,Nat.add_sub_cancel_left,eC,Nat.add_sub_cancel,CC,lV,aN]
  congr 2
  exact t1
 simp only [p6,e1,aD]
 rfl
end
noncomputable def gc (b:Nat):Nat->Nat
 | 0=>1
 | k+1=>1+b*gc b k
noncomputable def msr (b m:Nat) (ln:List Nod):Nat:=(ln.map fun p=>gc b (m - 1 - p.1.length)).sum
noncomputable def rest (T:Nat->Nat->Nat) (st:List Nat) (L:Nod->List (List Nat)) (m:Nat) (ln:List Nod):List (List Nat):=ln.reverse.flatMap fun p=>kT T st L (m - 1 - p.1.length) p
structure Nd (m:Nat) (p:Nod):Prop where
 le:p.1.length<=m - 1
 len:p.2.length=p.1.length+1
 lt : ∀ x∈p.2,x < m
section
variable {m:Nat}{T:Nat->Nat->Nat}{st:List Nat}{L:Nod->List (List Nat)}{ln:List Nod}{p:Nod}
theorem ow {b k:Nat}:1<=gc b k:=by cases k <;> simp [gc]
theorem yV {b:Nat}{a c:List Nod}:msr b m (a++c)=msr b m a+msr b m c:=by simp [msr]
theorem nR {b:Nat} : ∀ ln:List Nod,ln.length<=msr b m ln
 | []=>by simp
 | p::ln=>by
   have:=nR (b:=b) ln
   have:=ow (b:=b) (k:=m - 1 - p.1.length)
   simp only [msr,bu,zg,bo] at *
   omega
theorem tH (g:Grp m T) (hs : ∀ s∈st,s < m) (n:Nd m p) (h:p.1.length < m - 1) {q:Nod} (hq:q∈kids T st p):Nd m q/\q.1.length=p.1.length+1:=by
 obtain⟨s,hs1,rfl⟩:=bI.mp hq
 have hsm:=(jr.mp hs1).1
 have hne:p.2 ≠ []:=by intro z;have:=n.len;rw [z] at this;simp at this
 refine⟨⟨by simp;assumption,by simp [n.len],fun x hx => ?_⟩,by simp⟩
 rcases bS.mp hx with hx | hx
 ·exact n.lt x hx
 ·simp at hx;rw [hx];exact g.cl _ _ (qh hne n.lt) (hs s hsm)
theorem BR (g:Grp m T) (hs : ∀ s∈st,s < m) (n:Nd m p) (h:p.1.length < m - 1):msr st.length m (kids T st p).reverse+1<=msr st.length m [p]:=by
 have hk:(kids T st p).length<=st.length:=by unfold kids;rw [ay];exact iG _ _
 have e1 : ∀ q∈(kids T st p).reverse,gc st.length (m - 1 - q.1.length)=gc st.length (m - 1 - p.1.length - 1):=fun q hq=>by
  rw [(tH g hs n h (sR.mp hq)).2];congr 1
 have e2:msr st.length m (kids T st p).reverse=(kids T st p).length*gc st.length (m - 1 - p.1.length - 1):=by
  unfold msr
  rw [cm e1,List.map_const',List.sum_replicate_nat,dR]
 obtain⟨k,hk2⟩ : ∃ k,m - 1 - p.1.length=k+1:=⟨m - 1 - p.1.length - 1,by omega⟩
 rw [e2]
 simp only [msr,bu,ij,zg,List.sum_nil,ng]
 rw [hk2,Nat.add_sub_cancel,gc]
 have:=fP (gc st.length k) hk
 omega
theorem x9 (h:p.1.length < m - 1) (hk : ∀ q∈kids T st p,q.1.length=p.1.length+1):rest T st L m (ln++(kids T st p).reverse)=rest T st L m (ln ++ [p]):=by
 unfold rest
 rw [oX,List.reverse_reverse,oX,oY,oY]
 congr 1
 obtain⟨k,hk2⟩ : ∃ k,m - 1 - p.1.length=k+1:=⟨m - 1 - p.1.length - 1,by omega⟩
 simp only [il,List.reverse_nil,ei,List.flatMap_cons,List.flatMap_nil,fe]
 rw [hk2,kT]
 rw [List.flatMap_def,List.flatMap_def]
 congr 1
 apply cm
 intro q hq
 rw [hk q hq]
 congr 1
 omega
theorem Ab (h:p.1.length=m - 1):rest T st L m (ln ++ [p])=L p++rest T st L m ln:=by
 unfold rest
 rw [oX,oY]
 congr 1
 simp [h,kT]
end
end
end W
end
section
namespace W
open L2 G
section
theorem xK {ρ:Rho}{S S0:Sto}{i:Nat}{a:ME}{n:Nat}{b:MS} (ha:a ρ S=some (.int n,S0)) (h:n < big) (P:Nat->Rho->Sto->Prop) (h0:P 0 ρ S0)
  (hs : ∀ (j:Nat) (ρ:Rho) (S:Sto),j < n->P j ρ S -> ∃ ρ' S',b (ρ.set i (some (.int j))) S=some (.nx,ρ',S')/\P (j+1) ρ' S') :
  ∃ ρ' S',eB i (iR1 (aa a af)) b ρ S=some (.nx,ρ',S')/\P n ρ' S':=by
 obtain⟨ρ',S',e1,p1⟩:=nU (i:=i) (b:=b) P (bg 0 n) 0 ρ S0 h0 fun j u ρ S hj hp=>by
  have hl:j < n:=by have:=(ag.mp hj).1;simpa [bg] using this
  have hu:(bg 0 n)[j]? = some (.int j):=by simp [bg,hl]
  rw [hu] at hj;cases hj
  simpa using hs j ρ S hl (by simpa using hp)
 have hlen:(bg 0 n).length=n:=by simp [bg]
 rw [hlen,eC] at p1
 refine⟨ρ',S',?_,p1⟩
 unfold eB
 rw [lF ha h]
 exact e1
theorem Ke {ρ:Rho}{S S1 S2:Sto}{a b:ME}{x y:Nat} (ha:a ρ S=some (.int x,S1)) (hb:b ρ S1=some (.int y,S2)):mFn o5 (aa a (aa b af)) ρ S=some (.int (min x y:Nat),S2):=by
 refine dg ha hb ?_
 show some (U.int (if (y:Int) < x then (y:Int) else x),S2)=_
 congr 3
 split <;> omega
noncomputable def yM:MS:=dj (mML cn (ab 4) (aa (mML jy (ab 3) (aa (mFn aM (aa (ab 0) (aa (mFn bq (aa (ab 3) af)) af))) af)) af))
noncomputable def wY:MS:=bf (bB 3 (fo (iR2 (aa (mC (.int 1)) (aa (mFn bq (aa (ab 1) af)) af))))) (bf (bB 4 (b4 af)) (bf (eB 5 (iR1 (aa (mFn o5 (aa (mFn bq (aa (ab 3) af)) (aa (m2 bC (mC (.int 1)) (mFn aM (aa (ab 0) (aa (ab 2) af)))) af))) af)) yM) (dh (mFn b5 (aa (mFn fL (aa (ab 4) af)) af)))))
theorem zW {n m most:Nat}{T:Nat->Nat->Nat}{S:Sto} (h:jx n S) (g:Grp m T) (hm:m < 60) (hmo:0 < most) (hmo2:most < 60) : ∃ w S',G.run 3 6 wY [.ref n,tab m T,.int (most:Nat)] S=some (.tup (aj w),S')/\Stp n S S'/\(∀ x∈w,x < m)/\w.length<=most/\w.length < 60/\w.Nodup/\(∀ x∈w,x≠0)/\(1 < m->w ≠ [])/\srt w=w:=by
 have hp:=g.pos
 have hbig:m < big:=by unfold big;exact ai (by assumption) (by decide)
 have hn:=h.lt
 have e1:fo (iR2 (aa (mC (.int 1)) (aa (mFn bq (aa (ab 1) af)) af))) [some (.ref n),some (tab m T),some (.int (most:Nat)),none,none,none] S=some (.ref S.length,S ++ [Cell.lst (aj (bU 1 (m - 1)))]):=by
  rw [sk (i:=1) (j:=m) rfl (len_tab (var_eq rfl)) ⟨by decide,by decide⟩ (pw hbig) (by rw [jX m (by assumption)];simp [aj];omega),jX m (by assumption)]
 have e2:b4 af [some (.ref n),some (tab m T),some (.int (most:Nat)),some (.ref S.length),none,none] (S ++ [Cell.lst (aj (bU 1 (m - 1)))])=some (.ref (S.length+1),S ++ [Cell.lst (aj (bU 1 (m - 1)))] ++ [Cell.lst []]):=j5.trans (by simp)
 generalize hS2:S ++ [Cell.lst (aj (bU 1 (m - 1)))] ++ [Cell.lst []]=S2 at e2
 have x2:Ex S S2:=⟨_,by rw [<- hS2,ba]⟩
 have g3:S2[S.length]? = some (Cell.lst (aj (bU 1 (m - 1)))):=by rw [<- hS2,ba,ax (aq _)];simp
 have g4:S2[S.length+1]? = some (Cell.lst (aj [])):=by rw [<- hS2,ba,ax (by exact dc _)];simp [aj]
 have st2:Stp n S S2:=Stp.ex h x2
 obtain⟨r,S3,e3,hr,st3⟩:=fq (m:=most) st2.st hmo (by exact ai (by assumption) (by decide))
 have hlen:(bU 1 (m - 1)).length=m - 1:=by simp
 have e4:mFn o5 (aa (mFn bq (aa (ab 3) af)) (aa (m2 bC (mC (.int 1)) (mFn aM (aa (ab 0) (aa (ab 2) af)))) af)) [some (.ref n),some (tab m T),some (.int (most:Nat)),some (.ref S.length),some (.ref (S.length+1)),none] S2=some (.int (min (m - 1) (1+r):Nat),S3):=by
  refine Ke (x:=m - 1) (y:=1+r) ?_ (add_n (x:=1) (y:=r) c_i (dg (var_eq rfl) (var_eq rfl) e3))
  have:=yI (ρ := [some (.ref n),some (tab m T),some (.int (most:Nat)),some (.ref S.length),some (.ref (S.length+1)),none]) (S:=S2) (a:=ab 3) (var_eq rfl) g3
  rw [this,bK,hlen]
 obtain⟨ρ5,S5,e5,a5,l5,w5,rfl,q3,q4,q5,q6,q7,q8,st5⟩:=xK (i:=5) (b:=yM) e4 (by unfold big;omega)
  (fun k ρ S' => ∃ a l w,ρ = [some (.ref n),some (tab m T),some (.int (most:Nat)),some (.ref S.length),some (.ref (S.length+1)),a]/\S'[S.length]? = some (Cell.lst (aj l))/\S'[S.length+1]? = some (Cell.lst (aj w))/\l.length+k=m - 1/\w.length=k/\(∀ x∈l,x < m)/\(w++l).Perm (bU 1 (m - 1))/\Stp n S S')
  ⟨none,bU 1 (m - 1),[],rfl,st3.some (by exact bL (by assumption)) g3,st3.some (by omega) g4,by rw [hlen];rfl,rfl,fun x hx=>by have:=qS.mp hx;omega,by simp,st2.trans st3⟩ (by
   rintro k ρ S' hk ⟨a,l,w,rfl,c3,c4,hl,hw,lt1,lt2,st⟩
   have hlp:0 < l.length:=by omega
   obtain⟨q,S6,e6,hq,st6⟩:=fq (m:=l.length) st.st hlp (by omega)
   have c3':=st6.some (by exact bL (by assumption)) c3
   have c4':=st6.some (by omega) c4
   have el:mFn bq (aa (ab 3) af) [some (.ref n),some (tab m T),some (.int (most:Nat)),some (.ref S.length),some (.ref (S.length+1)),some (.int k)] S'=some (.int (l.length:Nat),S'):=by
    have:=yI (ρ := [some (.ref n),some (tab m T),some (.int (most:Nat)),some (.ref S.length),some (.ref (S.length+1)),some (.int k)]) (S:=S') (a:=ab 3) (var_eq rfl) c3
    rw [this,bK]
   have ep:=wa (ρ := [some (.ref n),some (tab m T),some (.int (most:Nat)),some (.ref S.length),some (.ref (S.length+1)),some (.int k)]) (o:=ab 3) (a:=mFn aM (aa (ab 0) (aa (mFn bq (aa (ab 3) af)) af))) (r:=S.length) (j:=q) (l:=l) (var_eq rfl) (dg (var_eq rfl) el e6) c3 c3' hq (by unfold big;omega)
   have hin:l[q]∈l:=dW hq
   generalize hx:l[q]=xv at ep hin
   have lS:S.length < S6.length:=(ag.mp c3').1
   have c4'':(S6.set S.length (Cell.lst (aj (l.eraseIdx q))))[S.length+1]? = some (Cell.lst (aj w)):=by rw [aH (by exact aG (aV _))];exact c4'
   have ea:=append_eq (ρ := [some (.ref n),some (tab m T),some (.int (most:Nat)),some (.ref S.length),some (.ref (S.length+1)),some (.int k)]) (o:=ab 4) (r:=S.length+1) (var_eq rfl) ep c4 c4'' (by rw [bK];unfold big;omega)
   refine⟨_,_,ea,some (.int k),l.eraseIdx q,w ++ [xv],rfl,?_,?_,?_,by simp [hw],fun z hz=>lt1 z (List.mem_of_mem_eraseIdx hz),?_,?_⟩
   ·rw [aH (by exact ux _)]
    exact aL lS
   ·rw [aL (ag.mp c4'').1]
    simp [aj]
   ·rw [List.length_eraseIdx,if_pos hq];omega
   ·rw [ba]
    refine CO (wU w ?_) lt2
    show (xv::l.eraseIdx q).Perm l
    rw [<- hx]
    exact fM l q hq
   ·exact ((st.trans st6).set (by exact aq _) (by exact bL (by assumption))).set (by exact dc _) (by omega))
 have hw:w5.length < 60:=by omega
 have e6:=iN (Ci (ρ := [some (.ref n),some (tab m T),some (.int (most:Nat)),some (.ref S.length),some (.ref (S.length+1)),a5]) (S:=S5) (a:=ab 4) (var_eq rfl) q4 (by exact ai (by assumption) (by decide)))
 refine⟨srt w5,_,cz (ρ := [some (.ref n),some (tab m T),some (.int (most:Nat)),some (.ref S.length),some (.ref (S.length+1)),a5]) rfl (show wY [some (.ref n),some (tab m T),some (.int (most:Nat)),none,none,none] S=_ from (aY (bR e1)).trans ((aY (bR e2)).trans ((aY e5).trans (b8 e6)))),st5.step (Ex.push _ _),fun x hx => ?_,?_,?_,?_,fun x hx => ?_,fun h1 z => ?_,ox (kM w5)⟩
 ·have:=qS.mp (q8.mem_iff.mp (b9 l5 (sZ.mp hx)));omega
 ·rw [tu];omega
 ·rw [tu];assumption
 ·rw [(kM w5).nodup_iff]
  have:=q8.nodup_iff.mpr List.nodup_range'
  exact (qT.mp this).1
 ·have:=qS.mp (q8.mem_iff.mp (b9 l5 (sZ.mp hx)));omega
 ·have:w5.length=0:=by rw [<- tu,z];rfl
  omega
theorem Cj {n m most:Nat}{T:Nat->Nat->Nat}{S:Sto} (h:jx n S) (g:Grp m T) (hm:m < 60) (hmo:0 < most) (hmo2:most < 60) : ∃ w S',G.run 3 6 wY [.ref n,tab m T,.int (most:Nat)] S=some (.tup (aj w),S')/\Stp n S S'/\(∀ x∈w,x < m)/\w.length<=most/\w.length < 60:=let ⟨w,S',a,b,c,d,e,_⟩:=zW h g hm hmo hmo2;⟨w,S',a,b,c,d,e⟩
theorem sU {α:Type}{xs:List α}{k:Nat}:cut xs none (some (k:Int))=xs.take k:=by
 have h1:HT.sIx xs.length 0 none=0:=rfl
 have h2:HT.sIx xs.length xs.length (some (k:Int))=min k xs.length:=HT.sIx_nat _ _ k
 unfold cut
 rw [h1,h2,List.drop_zero,Nat.sub_zero]
 by_cases h:k<=xs.length
 ·rw [Nat.min_eq_left h]
 ·rw [Nat.min_eq_right (by omega),eX (aq _),eX (by omega)]
theorem A8 {F:List (List Nat)}{k:Nat}:cut (tups F) none (some (k:Int))=tups (F.take k):=by
 rw [sU];unfold tups;rw [List.map_take]
section
variable {m:Nat}{T:Nat->Nat->Nat}{st:List Nat}{S:Sto}
noncomputable def hV (m:Nat) (T:Nat->Nat->Nat) (st:List Nat) (most:Nat) (S:Sto) (r:List (Option U)):Rho := [some (tab m T),some (.tup (aj st)),some (.int most),some (.ref S.length),some (.ref (S.length+1))]++r
structure Sv (m:Nat) (T:Nat->Nat->Nat) (st:List Nat) (L:Nod->List (List Nat)) (F:List (List Nat)) (ln:List Nod) (μ:Nat):Prop where
 nd : ∀ p∈ln,Nd m p
 tot:F++rest T st L m ln=kT T st L (m - 1) ([],[0])
 ms:msr st.length m ln<=μ
 bd:μ<=30000
theorem Sv.start {L:Nod->List (List Nat)} (hm:0 < m) (hz:gc st.length (m - 1)<=30000):Sv m T st L [] [([],[0])] (gc st.length (m - 1)):=
 ⟨fun p hp=>by simp at hp;subst hp;exact⟨by simp,rfl,by simpa using hm⟩,by simp [rest],by simp [msr],hz⟩
theorem Sv.stop {L:Nod->List (List Nat)}{F:List (List Nat)}{ln:List Nod}{μ most:Nat} (s:Sv m T st L F ln μ) (h:(!decide (ln = [])&&decide (F.length < most))=false):F.take most=(kT T st L (m - 1) ([],[0])).take most:=by
 rw [<- s.tot]
 by_cases hl:ln = []
 ·subst hl;simp [rest]
 ·have:most<=F.length:=by simpa [hl] using h
  rw [i9 this]
theorem Sv.leaf {L:Nod->List (List Nat)}{F:List (List Nat)}{ln:List Nod}{μ:Nat}{p:Nod} (s:Sv m T st L F (ln ++ [p]) (μ+1)) (h:p.1.length=m - 1):Sv m T st L (F++L p) ln μ:=by
 refine⟨fun q hq=>s.nd q (b9 _ hq),?_,?_,by have:=s.bd;exact cK (by assumption)⟩
 ·have:=s.tot
  rw [Ab h] at this
  rw [<- this,ba]
 ·have:=s.ms
  rw [yV] at this
  have h1:=ow (b:=st.length) (k:=m - 1 - p.1.length)
  simp only [msr,bu,ij,zg,List.sum_nil] at this ⊢
  omega
theorem Sv.inner {L:Nod->List (List Nat)}{F:List (List Nat)}{ln:List Nod}{μ:Nat}{p:Nod} (g:Grp m T) (hs : ∀ s∈st,s < m) (s:Sv m T st L F (ln ++ [p]) (μ+1)) (h:p.1.length < m - 1):Sv m T st L F (ln++(kids T st p).reverse) μ:=by
 have np:=s.nd p (by simp)
 refine⟨fun q hq => ?_,?_,?_,by have:=s.bd;exact cK (by assumption)⟩
 ·rcases bS.mp hq with hq | hq
  ·exact s.nd q (b9 _ hq)
  ·exact (tH g hs np h (sR.mp hq)).1
 ·rw [x9 h fun q hq=>(tH g hs np h hq).2];exact s.tot
 ·have:=s.ms
  have:=BR g hs np h
  rw [yV] at *
  omega
noncomputable def Fu:MS:=bf (p6 (mML pO (ab 4) af) (gTp 2 (dn (gN 5) (dn (gN 6) jl)))) (sIf (cOf (m2 oEq (mFn bq (aa (ab 5) af)) (m2 h9 (mFn bq (aa (ab 0) af)) (mC (.int 1))))) (dj (mML cn (ab 3) (aa (ab 5) af))) (bf (bB 7 (cU (cZ (ab 1)) (cOf (m2 fN (m2 oIx (m2 oIx (ab 0) (m2 oIx (ab 6) (m1 eK (mC (.int 1))))) (ab 8)) (ab 6))) (bA (aa (ab 8) (aa (m2 oIx (m2 oIx (ab 0) (m2 oIx (ab 6) (m1 eK (mC (.int 1))))) (ab 8)) af))))) (dj (mML eF (ab 4) (aa (iT 2 (cZ (m1 lh (ab 7))) cTT (bA (aa (m2 bC (ab 5) (bA (aa (ab 8) af))) (aa (m2 bC (ab 6) (bA (aa (ab 9) af))) af)))) af)))))
noncomputable def E8:MS:=bf (bB 3 (b4 af)) (bf (bB 4 (b4 (aa (bA (aa (bA af) (aa (bA (aa (mC (.int 0)) af)) af))) af))) (bf (j6 vt Fu) (dh (ab 3))))
noncomputable def yD:MS:=bf (p6 (mML pO (ab 4) af) (gTp 2 (dn (gN 5) (dn (gN 6) jl)))) (bf (bB 7 (m2 oIx (ab 6) (m1 eK (mC (.int 1))))) (sIf (cOf (m2 oEq (mFn bq (aa (ab 5) af)) (m2 h9 (mFn bq (aa (ab 0) af)) (mC (.int 1))))) (dj (mML eF (ab 3) (aa (cU (cZ (ab 1)) (cOf (m2 oEq (m2 oIx (m2 oIx (ab 0) (ab 7)) (ab 9)) (mC (.int 0)))) (m2 bC (ab 5) (bA (aa (ab 9) af)))) af))) (bf (bB 8 (cU (cZ (ab 1)) (cOf (m2 fN (m2 oIx (m2 oIx (ab 0) (ab 7)) (ab 9)) (ab 6))) (bA (aa (ab 9) (aa (m2 oIx (m2 oIx (ab 0) (ab 7)) (ab 9)) af))))) (dj (mML eF (ab 4) (aa (iT 2 (cZ (m1 lh (ab 8))) cTT (bA (aa (m2 bC (ab 5) (bA (aa (ab 9) af))) (aa (m2 bC (ab 6) (bA (aa (ab 10) af))) af)))) af))))))
noncomputable def ye:MS:=bf (bB 3 (b4 af)) (bf (bB 4 (b4 (aa (bA (aa (bA af) (aa (bA (aa (mC (.int 0)) af)) af))) af))) (bf (j6 vt yD) (dh (mSl (ab 3) none (some (ab 2))))))
noncomputable def wz (p:Nod):List (List Nat) := [p.1]
noncomputable def mQ (T:Nat->Nat->Nat) (st:List Nat) (p:Nod):List (List Nat):=(st.filter fun s=>decide (T (eD p.2) s=0)).map fun s=>p.1 ++ [s]
theorem Jj {ρ:Rho}{S':Sto}{p:Nod} (h0':ρ[0]? = some (some (tab m T))) (h5:ρ[5]? = some (some (.tup (aj p.1)))) (hm:0 < m):cOf (m2 oEq (mFn bq (aa (ab 5) af)) (m2 h9 (mFn bq (aa (ab 0) af)) (mC (.int 1)))) ρ S'=some (decide (p.1.length=m - 1),S'):=by
 have:=of_eq (xg (ρ:=ρ) (S:=S') (a:=mFn bq (aa (ab 5) af)) (b:=m2 h9 (mFn bq (aa (ab 0) af)) (mC (.int 1))) (oP (var_eq h5)) (Cu (len_tab (var_eq h0')) c_i))
 rw [this,bK]
 congr 2
 by_cases h:p.1.length=m - 1
 ·rw [decide_eq_true h,h];simp;omega
 ·rw [decide_eq_false h];simp;omega
theorem E9 {ρ:Rho}{S':Sto}{th:List Nat} (h6:ρ[6]? = some (some (.tup (aj th)))) (hne:th ≠ []):m2 oIx (ab 6) (m1 eK (mC (.int 1))) ρ S'=some (.int (eD th:Nat),S'):=zz (var_eq h6) zT (yC hne)
theorem v8 {ρ:Rho}{S':Sto}:b4 (aa (bA (aa (bA af) (aa (bA (aa (mC (.int 0)) af)) af))) af) ρ S'=some (.ref S'.length,S' ++ [.lst [lnU ([],[0])]]):=uP (pL (x := .tup []) rfl (s9 c_i))
theorem EY {most:Nat} (g:Grp m T) (hm:m < 100) (hs : ∀ s∈st,s < m) (hsl:st.length < 1000) (hmo:most < 100000) (hz:gc st.length (m - 1)<=30000) :
  ∃ F S',G.run 3 8 E8 [tab m T,.tup (aj st),.int (most:Nat)] S=some (.ref S.length,S')/\Ex S S'/\S'[S.length]? = some (.lst (tups F))/\F=(kT T st wz (m - 1) ([],[0])).take most:=by
 have hp:=g.pos
 obtain⟨ρ1,S1,e1,r,F,ln,x,rfl,rfl,hF⟩:=t7 (c:=vt) (b:=Fu) (fun μ ρ S' => ∃ a b c F ln x,ρ=hV m T st most S [a,b,c]/\S'=bY S F ln x/\Sv m T st wz F ln μ/\F.length<=most)
  (fun ρ S' => ∃ r F ln x,ρ=hV m T st most S r/\S'=bY S F ln x/\F=(kT T st wz (m - 1) ([],[0])).take most) (by
  rintro μ ρ S' ⟨a,b,c,F,ln,x,rfl,rfl,s,hFm⟩
  refine⟨_,_,yi (most:=most) rfl rfl rfl,fun hf=>⟨_,F,ln,_,rfl,rfl,by rw [<- s.stop hf,eX hFm]⟩,fun ht => ?_⟩
  rw [aw] at ht
  have hne:ln ≠ []:=by simpa using ht.1
  have hFl:F.length < most:=of_decide_eq_true ht.2
  obtain⟨ln,p,rfl⟩:=pv hne
  have np:=s.nd p (by simp)
  have hln:ln.length < 100000:=by
   have:=nR (m:=m) (b:=st.length) (ln ++ [p])
   have:=s.ms;have:=s.bd
   simp only [aI,bo,bT] at *
   omega
  have hth:p.2 ≠ []:=by intro z;have:=np.len;rw [z] at this;simp at this
  cases μ with
  | zero=>
    have:=s.ms
    have:=nR (m:=m) (b:=st.length) (ln ++ [p])
    simp at this;omega
  | succ μ=>
  have e1:=yy (S:=S) (F:=F) (ln:=ln) (x:=x ++ [.lst []]) (p:=p) (ρ:=hV m T st most S [a,b,c]) rfl
  have ec:=Jj (m:=m) (T:=T) (p:=p) (ρ:=hV m T st most S [some (.tup (aj p.1)),some (.tup (aj p.2)),c]) (S':=bY S F ln (x ++ [.lst []])) rfl rfl hp
  by_cases hl:p.1.length=m - 1
  ·rw [decide_eq_true hl] at ec
   have e2:=append_eq (ρ:=hV m T st most S [some (.tup (aj p.1)),some (.tup (aj p.2)),c]) (S:=bY S F ln (x ++ [.lst []])) (o:=ab 3) (a:=ab 5) (var_eq rfl) (var_eq rfl) h0 h0 (by simp only [tups,ay];unfold big;exact dq (by assumption) (ai (by assumption) (by decide)))
   rw [show (bY S F ln (x ++ [Cell.lst []])).set S.length (Cell.lst (tups F ++ [.tup (aj p.1)]))=bY S (F++wz p) ln (x ++ [Cell.lst []]) from (show (S ++ [_,_]++_).set S.length _=_ from t0).trans (by simp [bY,tups,wz])] at e2
   exact⟨_,_,μ,aV _,(aY e1).trans ((kI ec).trans e2),_,_,_,_,_,_,rfl,rfl,s.leaf hl,by simp [wz];assumption⟩
  ·rw [decide_eq_false hl] at ec
   have hlt:p.1.length < m - 1:=by have:=np.le;exact kh (by assumption) (by assumption)
   obtain⟨v,x',e2⟩:=vU (S:=S) (F:=F) (ln:=ln) (x:=x ++ [.lst []]) (i:=7) (n:=8) (h:=eD p.2) (he:=m2 oIx (ab 6) (m1 eK (mC (.int 1)))) (p:=p) (ρ:=hV m T st most S [some (.tup (aj p.1)),some (.tup (aj p.2)),c]) (qh hth np.lt) hs hsl (by omega) (by have:=np.len;omega) hln rfl rfl rfl rfl rfl rfl rfl (by decide) (by decide) (fun z S'=>E9 rfl hth)
   exact⟨_,_,μ,aV _,(aY e1).trans ((mj ec).trans e2),_,_,_,_,_,_,rfl,rfl,s.inner g hs hlt,hFm⟩) fuel (gc st.length (m - 1)) (hV m T st most S [none,none,none]) (bY S [] [([],[0])] []) (by unfold fuel;exact aJ (by assumption) (by decide)) ⟨_,_,_,_,_,_,rfl,rfl,Sv.start hp hz,by simp⟩
 refine⟨F,bY S F ln x,cz (ρ:=hV m T st most S r) rfl ?_,⟨[.lst (tups F),.lst (ln.map lnU)]++x,by unfold bY;rw [ba]⟩,h0,hF⟩
 show E8 [some (tab m T),some (.tup (aj st)),some (.int (most:Nat)),none,none,none,none,none] S=_
 refine (aY (bR j5)).trans ((aY (bR v8)).trans ?_)
 refine (aY (ρ1:=hV m T st most S r) (S1:=bY S F ln x) ?_).trans (b8 (var_eq rfl))
 rw [<- e1]
 simp [j6,bY,hV,tups]
theorem zD {ρ:Rho}{S S1:Sto}{o a:ME}{r k:Nat}{us ws:List U} (ho:o ρ S=some (.ref r,S)) (ha:a ρ S=some (.ref k,S1)) (hr:S[r]? = some (Cell.lst us)) (hr1:S1[r]? = some (Cell.lst us)) (hk:S1[k]? = some (Cell.lst ws)) (hl:us.length+ws.length<=big) :
  dj (mML eF o (aa a af)) ρ S=some (.nx,ρ,S1.set r (.lst (us++ws))):=by
 simp only [dj,mML,ho,aD,getL,hr,ah,aa,af,ha,eF,hr1,hk]
 rw [if_pos hl]
 simp only [aD]
theorem zk {most:Nat} (g:Grp m T) (hm:m < 100) (hs : ∀ s∈st,s < m) (hsl:st.length < 1000) (hmo:most < 100000) (hz:gc st.length (m - 1)<=30000) :
  ∃ r S',G.run 3 9 ye [tab m T,.tup (aj st),.int (most:Nat)] S=some (.ref r,S')/\Ex S S'/\S'[r]? = some (.lst (tups ((kT T st (mQ T st) (m - 1) ([],[0])).take most))):=by
 have hp:=g.pos
 obtain⟨ρ1,S1,e1,r,F,ln,x,rfl,rfl,hF⟩:=t7 (c:=vt) (b:=yD) (fun μ ρ S' => ∃ a b c d F ln x,ρ=hV m T st most S [a,b,c,d]/\S'=bY S F ln x/\Sv m T st (mQ T st) F ln μ)
  (fun ρ S' => ∃ r F ln x,ρ=hV m T st most S r/\S'=bY S F ln x/\F.take most=(kT T st (mQ T st) (m - 1) ([],[0])).take most) (by
  rintro μ ρ S' ⟨a,b,c,d,F,ln,x,rfl,rfl,s⟩
  refine⟨_,_,yi (most:=most) rfl rfl rfl,fun hf=>⟨_,F,ln,_,rfl,rfl,s.stop hf⟩,fun ht => ?_⟩
  rw [aw] at ht
  have hne:ln ≠ []:=by simpa using ht.1
  have hFl:F.length < most:=of_decide_eq_true ht.2
  obtain⟨ln,p,rfl⟩:=pv hne
  have np:=s.nd p (by simp)
  have hln:ln.length < 100000:=by
   have:=nR (m:=m) (b:=st.length) (ln ++ [p])
   have:=s.ms;have:=s.bd
   simp only [aI,bo,bT] at *
   omega
  have hth:p.2 ≠ []:=by intro z;have:=np.len;rw [z] at this;simp at this
  cases μ with
  | zero=>
    have:=s.ms
    have:=nR (m:=m) (b:=st.length) (ln ++ [p])
    simp at this;omega
  | succ μ=>
  have e1:=yy (S:=S) (F:=F) (ln:=ln) (x:=x ++ [.lst []]) (p:=p) (ρ:=hV m T st most S [a,b,c,d]) rfl
  have e0:bB 7 (m2 oIx (ab 6) (m1 eK (mC (.int 1)))) (hV m T st most S [some (.tup (aj p.1)),some (.tup (aj p.2)),c,d]) (bY S F ln (x ++ [.lst []]))=some (.nx,hV m T st most S [some (.tup (aj p.1)),some (.tup (aj p.2)),some (.int (eD p.2:Nat)),d],bY S F ln (x ++ [.lst []])):=bR (E9 rfl hth)
  have ec:=Jj (m:=m) (T:=T) (p:=p) (ρ:=hV m T st most S [some (.tup (aj p.1)),some (.tup (aj p.2)),some (.int (eD p.2:Nat)),d]) (S':=bY S F ln (x ++ [.lst []])) rfl rfl hp
  have hla:=qh hth np.lt
  by_cases hl:p.1.length=m - 1
  ·rw [decide_eq_true hl] at ec
   have e2:=sj (t:=cOf (m2 oEq (m2 oIx (m2 oIx (ab 0) (ab 7)) (ab 9)) (mC (.int 0)))) (e:=m2 bC (ab 5) (bA (aa (ab 9) af))) (ρ:=hV m T st most S [some (.tup (aj p.1)),some (.tup (aj p.2)),some (.int (eD p.2:Nat)),d]) (S:=bY S F ln (x ++ [.lst []])) (a:=ab 1) (l:=st) (p:=fun s=>decide (T (eD p.2) s=0)) (f:=fun s => .tup (aj (p.1 ++ [s]))) (var_eq rfl) hsl
    (fun s hs'=>of_eq (DR (y:=0) (mU (T:=T) (i:=eD p.2) (j:=s) (hs s hs') (m5 hla (var_eq rfl) (var_eq rfl)) (var_eq rfl)) c_i)) (fun s hs' _=>yF (x:=p.1) (y := [s]) (var_eq rfl) (s9 (var_eq rfl)) (by simp;omega))
   have hrl:((st.filter fun s=>decide (T (eD p.2) s=0)).map fun s=>U.tup (aj (p.1 ++ [s])))=tups (mQ T st p):=by
    unfold tups mQ;rw [cx];rfl
   rw [hrl,eM] at e2
   have hll:(mQ T st p).length<=st.length:=by unfold mQ;rw [ay];exact iG _ _
   have e3:=zD (ρ:=hV m T st most S [some (.tup (aj p.1)),some (.tup (aj p.2)),some (.int (eD p.2:Nat)),d]) (o:=ab 3) (r:=S.length) (var_eq rfl) e2 h0 h0 (by rw [<- eM];exact bF _ _) (by simp only [tups,ay];unfold big;omega)
   rw [show (bY S F ln (x ++ [Cell.lst []] ++ [Cell.lst (tups (mQ T st p))])).set S.length (Cell.lst (tups F++tups (mQ T st p)))=bY S (F++mQ T st p) ln (x ++ [Cell.lst []] ++ [Cell.lst (tups (mQ T st p))]) from (show (S ++ [_,_]++_).set S.length _=_ from t0).trans (by simp [bY,tups])] at e3
   exact⟨_,_,μ,aV _,(aY e1).trans ((aY e0).trans ((kI ec).trans e3)),_,_,_,_,_,_,_,rfl,rfl,s.leaf hl⟩
  ·rw [decide_eq_false hl] at ec
   have hlt:p.1.length < m - 1:=by have:=np.le;exact kh (by assumption) (by assumption)
   obtain⟨v,x',e2⟩:=vU (S:=S) (F:=F) (ln:=ln) (x:=x ++ [.lst []]) (i:=8) (n:=9) (h:=eD p.2) (he:=ab 7) (p:=p) (ρ:=hV m T st most S [some (.tup (aj p.1)),some (.tup (aj p.2)),some (.int (eD p.2:Nat)),d]) hla hs hsl (by omega) (by have:=np.len;omega) hln rfl rfl rfl rfl rfl rfl rfl (by decide) (by decide) (fun z S'=>var_eq rfl)
   exact⟨_,_,μ,aV _,(aY e1).trans ((aY e0).trans ((mj ec).trans e2)),_,_,_,_,_,_,_,rfl,rfl,s.inner g hs hlt⟩) fuel (gc st.length (m - 1)) (hV m T st most S [none,none,none,none]) (bY S [] [([],[0])] []) (by unfold fuel;exact aJ (by assumption) (by decide)) ⟨_,_,_,_,_,_,_,rfl,rfl,Sv.start hp hz⟩
 have e9:mSl (ab 3) none (some (ab 2)) (hV m T st most S r) (bY S F ln x)=some (.ref (bY S F ln x).length,bY S F ln x ++ [.lst (tups (F.take most))]):=by
  have c:(bY S F ln x)[S.length]? = some (.lst (tups F)):=h0
  have v3:ab 3 (hV m T st most S r) (bY S F ln x)=some (.ref S.length,bY S F ln x):=var_eq rfl
  have v2:ab 2 (hV m T st most S r) (bY S F ln x)=some (.int (most:Nat),bY S F ln x):=var_eq rfl
  simp only [mSl,v3,aD,mK,v2,getL,c,aN]
  rw [A8]
 rw [hF] at e9
 refine⟨(bY S F ln x).length,bY S F ln x ++ [.lst (tups ((kT T st (mQ T st) (m - 1) ([],[0])).take most))],cz (ρ:=hV m T st most S r) rfl ?_,⟨[.lst (tups F),.lst (ln.map lnU)]++x ++ [.lst (tups ((kT T st (mQ T st) (m - 1) ([],[0])).take most))],by unfold bY;simp⟩,bF _ _⟩
 show ye [some (tab m T),some (.tup (aj st)),some (.int (most:Nat)),none,none,none,none,none,none] S=_
 refine (aY (bR j5)).trans ((aY (bR v8)).trans ?_)
 refine (aY (ρ1:=hV m T st most S r) (S1:=bY S F ln x) ?_).trans (b8 e9)
 rw [<- e1]
 simp [j6,bY,hV,tups]
end
end
end W
end
section
namespace W
open L2 G
section
theorem Ex.set {S S':Sto}{r:Nat}{c:Cell} (h:Ex S S') (hr:S.length<=r):Ex S (S'.set r c):=by
 obtain⟨t,rfl⟩:=h
 exact⟨t.set (r - S.length) c,by rw [fm _ _ hr]⟩
theorem pM {b c:Nat} (h:b<=c) : ∀ {j k:Nat},j<=k->gc b j<=gc c k
 | 0,k,_=>ow
 | j+1,0,h2=>by omega
 | j+1,k+1,h2=>by
   unfold gc
   have:=Nat.mul_le_mul h (pM h (j:=j) (k:=k) (by exact ix (by assumption)))
   omega
section
variable {m:Nat}{T:Nat->Nat->Nat}{st:List Nat}
structure Lft (m:Nat) (th left:List Nat):Prop where
 nd:left.Nodup
 mem : ∀ y,y∈left↔y < m/\y∉th
end
structure Lng (ls:List (List Nat)):Prop where
 len:ls.length<=9000
 each : ∀ l∈ls,l.length<=8
 lt : ∀ l∈ls,∀ x∈l,x < 1000
open PySem in
open PySem in
section
variable {m:Nat}{T:Nat->Nat->Nat}{st:List Nat}{S:Sto}
end
end
end W
end
section
namespace W
open L2 G
section
abbrev Rds:=List (Nat×List Nat)
structure Rd (T:Nat->Nat->Nat) (ths:List Nat) (ks:Rds):Prop where
 go : ∀ p∈ks,d0 T p.2=p.1
 by' : ∀ p∈ks,∀ y∈p.2,y∈ths
 len : ∀ p∈ks,p.2.length < ks.length
section
variable {m:Nat}{T:Nat->Nat->Nat}{ths:List Nat}{S x:Sto}{v:U}
end
end
end W
end
section
namespace W
open L2 G
section
theorem K4 {α β γ:Sort _}{f:α->β->γ}{a a':α}{b b':β} (h1:a=a') (h2:b=b'):f a b=f a' b':=by rw [h1,h2]
section
variable {m:Nat}{T:Nat->Nat->Nat}
abbrev Lt (m:Nat) (w:List Nat):Prop := ∀ x∈w,x < m
theorem Lt.tk {a:List Nat} (ha:Lt m a) (k:Nat):Lt m (a.take k):=fun x hx=>ha x (eA hx)
theorem AM (g:Grp m T) {w:List Nat} (hw:Lt m w):d0 T w < m:=Er g.pos g.cl hw
theorem rG {w:List Nat}{x:Nat}:d0 T (w ++ [x])=T (d0 T w) x:=by unfold d0;rw [List.foldl_append];rfl
theorem B2 {w:List Nat}{x:Nat}:plc T (w ++ [x])=plc T w ++ [T (d0 T w) x]:=by
 unfold plc
 rw [aI,bo,bT,dO,cH]
 refine K4 (cm fun k hk => ?_) ?_
 ·have:=bb.mp hk
  rw [i9 (by exact ix (by assumption))]
 ·show [d0 T ((w ++ [x]).take (w.length+1))]=_
  rw [eX (by simp),rG]
theorem nv {w:List Nat}:(plc T w).length=w.length+1:=by simp [plc]
theorem oe (g:Grp m T) {w:List Nat} (hw:Lt m w):Lt m (plc T w):=fun x hx=>by
 obtain⟨k,_,rfl⟩:=bI.mp hx
 exact AM g (hw.tk k)
noncomputable def pre (T:Nat->Nat->Nat) (w:List Nat):List Nat:=(aA w.length).map fun k=>d0 T (w.take k)
theorem lD {w:List Nat}:plc T w=pre T w ++ [d0 T w]:=by
 unfold plc pre
 rw [dO,cH]
 simp
theorem yf {w:List Nat}:(pre T w).length=w.length:=by simp [pre]
theorem G0 (g:Grp m T) {w:List Nat} (hw:Lt m w):Lt m (pre T w):=fun x hx=>oe g hw x (by rw [lD];exact b9 _ hx)
structure All (m:Nat) (l:List Nat):Prop where
 nd:l.Nodup
 lt:Lt m l
 len:l.length=m
theorem All.mem {l:List Nat} (h:All m l) {x:Nat} (hx:x < m):x∈l:=by
 apply Classical.byContradiction
 intro z
 have:=xb m (x::l) (eh.mpr ⟨z,h.nd⟩) (fun y hy=>(aK.mp hy).elim (fun e=>e▸hx) (h.lt y))
 have:=h.len
 simp at *
 omega
theorem All.perm {l:List Nat} (h:All m l):l.Perm (aA m):=
 (wW h.nd iK).mpr fun x=>⟨fun hx=>bb.mpr (h.lt x hx),fun hx=>h.mem (bb.mp hx)⟩
theorem All.of {l:List Nat} (h:l.Perm (aA m)):All m l:=
 ⟨h.nodup_iff.mpr iK,fun x hx=>bb.mp (h.mem_iff.mp hx),by have:=h.length_eq;simpa using this⟩
theorem All.map {f:Nat->Nat}{l:List Nat} (h:All m l) (lt : ∀ x,x < m->f x < m) (inj : ∀ x y,x < m->y < m->f x=f y->x=y):All m (l.map f):=by
 refine⟨?_,fun x hx => ?_,by simp [h.len]⟩
 ·rw [wX,ky]
  exact List.Pairwise.imp_of_mem (fun ha hb hab e=>hab (inj _ _ (h.lt _ ha) (h.lt _ hb) e)) (wX.mp h.nd)
 ·obtain⟨y,hy,rfl⟩:=bI.mp hx
  exact lt y (h.lt y hy)
abbrev Way (m:Nat) (T:Nat->Nat->Nat) (w:List Nat):Prop:=All m (plc T w)
structure Rnd (m:Nat) (T:Nat->Nat->Nat) (w:List Nat):Prop where
 home:d0 T w=0
 all:All m (pre T w)
structure Gd (T:Nat->Nat->Nat) (st:List Nat) (p:Nod):Prop where
 pl:p.2=plc T p.1
 nd:p.2.Nodup
 by' : ∀ x∈p.1,x∈st
theorem pS {w:List Nat}:eD (plc T w)=d0 T w:=by rw [lD,m6]
theorem tz {st:List Nat}{L:Nod->List (List Nat)} : ∀ (k:Nat) (p:Nod) (w:List Nat),Gd T st p->w∈kT T st L k p -> ∃ q:Nod,Gd T st q/\q.1.length=p.1.length+k/\w∈L q
 | 0,p,w,h,e=>⟨p,h,rfl,e⟩
 | k+1,p,w,h,e=>by
   obtain⟨q,hq,e⟩:=List.mem_flatMap.mp (show w∈(kids T st p).flatMap (kT T st L k) from e)
   obtain⟨s,hs,rfl⟩:=bI.mp hq
   obtain⟨hs1,hs2⟩:=jr.mp hs
   have hn:T (eD p.2) s∉p.2:=by simpa using hs2
   have hl:eD p.2=d0 T p.1:=by rw [h.pl,pS]
   have gd:Gd T st (p.1 ++ [s],p.2 ++ [T (eD p.2) s]):=by
    refine⟨?_,?_,fun x hx => ?_⟩
    ·show p.2 ++ [T (eD p.2) s]=plc T (p.1 ++ [s])
     rw [B2,hl,<- h.pl]
    ·show (p.2 ++ [T (eD p.2) s]).Nodup
     rw [qT]
     exact⟨h.nd,by simp,fun a ha b hb=>by simp at hb;rintro rfl;exact hn (hb▸ha)⟩
    ·rcases bS.mp hx with hx | hx
     ·exact h.by' x hx
     ·simp at hx;rw [hx];exact hs1
   obtain⟨q,g1,g2,g3⟩:=tz k _ w gd e
   exact⟨q,g1,by rw [g2];simp;omega,g3⟩
theorem we {st:List Nat}:Gd T st ([],[0]):=⟨rfl,by simp,by simp⟩
theorem zZ {st w:List Nat} (g:Grp m T) (hs:Lt m st) (h:w∈kT T st wz (m - 1) ([],[0])):Way m T w/\(∀ x∈w,x∈st)/\w.length=m - 1:=by
 obtain⟨q,g1,g2,g3⟩:=tz _ _ _ we h
 have e:w=q.1:=by simpa [wz] using g3
 subst e
 have hp:=g.pos
 have hl:q.1.length=m - 1:=by simpa using g2
 refine⟨⟨by rw [<- g1.pl];exact g1.nd,oe g fun x hx=>hs x (g1.by' x hx),by rw [nv];omega⟩,g1.by',hl⟩
theorem vq {st w:List Nat} (g:Grp m T) (hs:Lt m st) (h:w∈kT T st (mQ T st) (m - 1) ([],[0])):Rnd m T w/\(∀ x∈w,x∈st)/\w.length=m:=by
 obtain⟨q,g1,g2,g3⟩:=tz _ _ _ we h
 obtain⟨s,hs1,rfl⟩:=bI.mp g3
 obtain⟨hs1,hs2⟩:=jr.mp hs1
 have hl:eD q.2=d0 T q.1:=by rw [g1.pl,pS]
 rw [hl] at hs2
 have hs2:=of_decide_eq_true hs2
 have hp:=g.pos
 have hlen:q.1.length=m - 1:=by simpa using g2
 have lt1:Lt m q.1:=fun x hx=>hs x (g1.by' x hx)
 refine⟨⟨by rw [rG];exact hs2,?_⟩,fun x hx => ?_,by simp;omega⟩
 ·have:pre T (q.1 ++ [s])=plc T q.1:=by
   unfold pre plc
   rw [aI,bo,bT]
   refine cm fun k hk => ?_
   have:=bb.mp hk
   rw [i9 (by exact ix (by assumption))]
  rw [this]
  exact⟨by rw [<- g1.pl];exact g1.nd,oe g lt1,by rw [nv];omega⟩
 ·rcases bS.mp hx with hx | hx
  ·exact g1.by' x hx
  ·simp at hx;rw [hx];exact hs1
end
theorem iR {ρ:Rho}{S S1 S2:Sto}{a b:ME}{x y:Bool} (ha:a ρ S=some (.bl x,S1)) (hb:x=true->b ρ S1=some (.bl y,S2)) (hf:x=false->S2=S1):fc a b ρ S=some (.bl (x&&y),S2):=by
 cases x with
 | true=>simp only [fc,ha,aD,hb rfl,gy]
 | false=>simp only [fc,ha,aD,hf rfl,Bool.false_and]
theorem m8 {ρ:Rho}{S S1 S2:Sto}{a b:ME}{x y:Bool} (ha:a ρ S=some (.bl x,S1)) (hb:b ρ S1=some (.bl y,S2)) (x1:Ex S S1) (x2:Ex S1 S2) : ∃ S',fc a b ρ S=some (.bl (x&&y),S')/\Ex S S':=by
 cases x with
 | true=>exact⟨S2,iR ha (fun _=>hb) (fun z=>by cases z),x1.trans x2⟩
 | false=>exact⟨S1,iR (y:=y) ha (fun z=>by cases z) (fun _=>rfl),x1⟩
theorem vZ {α:Type}{f:α->Bool} : ∀ l:List α,dz iO (l.map fun x=>U.bl (f x))=some (l.map f)
 | []=>rfl
 | x::l=>by
   show (iO (U.bl (f x))).bind _=_
   simp only [iO,ah]
   rw [vZ l]
   rfl
theorem AI {α:Type}{ρ:Rho}{S S1:Sto}{a:ME}{r:Nat}{f:α->Bool}{l:List α} (ha:a ρ S=some (.ref r,S1)) (hr:S1[r]? = some (.lst (l.map fun x=>U.bl (f x)))):mFn o8 (aa a af) ρ S=some (.bl (l.all f),S1):=by
 refine iU ha ?_
 simp only [o8,getL,hr,ah,vZ,aN]
 congr 2
 simp [List.all_map,oZ]
theorem Lx {ρ:Rho}{S S1 S2:Sto}{a b:ME}{x y:List Nat} (ha:a ρ S=some (.tup (aj x),S1)) (hb:b ρ S1=some (.tup (aj y),S2)):m2 oEq a b ρ S=some (.bl (decide (x=y)),S2):=
 op2 ha hb (by simp only [oEq,DO,aN])
theorem Cb {ρ:Rho}{S S1:Sto}{a:ME}{l:List Nat} (ha:a ρ S=some (.tup (aj l),S1)) (hl:l.length < 64):mFn fL (aa a af) ρ S=some (.ref S1.length,S1 ++ [.lst (aj (srt l))]):=
 iU ha (vQ (by simp only [rK,fR,dr,ah,j9]) hl)
theorem oj (m:Nat):srt (aA m)=aA m:=by
 have h:dY (aA m)=km (dY (aA m)):=nJ (List.Perm.refl _) (by
  unfold dY
  rw [ky]
  exact (Am (n:=m)).imp fun h=>by omega)
 unfold srt
 rw [<- h];exact mX _
theorem yo {m:Nat}{l:List Nat}:decide (srt l=aA m)=true↔All m l:=by
 rw [decide_eq_true_iff]
 constructor
 ·intro h
  exact All.of ((kM l).symm.trans (by rw [h]))
 ·intro h
  rw [ox h.perm,oj]
section
variable {m:Nat}{T:Nat->Nat->Nat}{st w:List Nat}{S:Sto}
noncomputable def nbM:MS:=dh (fc (m1 (fg "int") (ab 0)) (fc (m1 wm (m1 (fg "bool") (ab 0))) (mCh oLe oLt (mC (.int 0)) (ab 0) (ab 1))))
theorem KH {x n:Nat}:G.run 2 2 nbM [.int (x:Nat),.int (n:Nat)] S=some (.bl (decide (x < n)),S):=by
 refine cz (ρ := [some (.int (x:Nat)),some (.int (n:Nat))]) rfl (b8 ?_)
 have h1:m1 (fg "int") (ab 0) [some (.int (x:Nat)),some (.int (n:Nat))] S=some (.bl true,S):=rfl
 have h2:m1 wm (m1 (fg "bool") (ab 0)) [some (.int (x:Nat)),some (.int (n:Nat))] S=some (.bl true,S):=rfl
 have h3:mCh oLe oLt (mC (.int 0)) (ab 0) (ab 1) [some (.int (x:Nat)),some (.int (n:Nat))] S=some (.bl (decide (x < n)),S):=by
  have v0:ab 0 [some (.int (x:Nat)),some (.int (n:Nat))] S=some (.int (x:Nat),S):=rfl
  have v1:ab 1 [some (.int (x:Nat)),some (.int (n:Nat))] S=some (.int (n:Nat),S):=rfl
  have l:oLe (.int 0) (.int (x:Nat)) S=some (.bl true,S):=by
   show some (U.bl (decide ((0:Int)<=(x:Int))),S)=_
   rw [decide_eq_true (by exact kl _)]
  have l2:oLt (.int (x:Nat)) (.int (n:Nat)) S=some (.bl (decide (x < n)),S):=by
   show some (U.bl (decide ((x:Int) < (n:Int))),S)=_
   congr 2
   simp
  simp only [mCh,mC,aD,v0,l,v1,l2]
 exact iR h1 (fun _=>iR h2 (fun _=>h3) (fun z=>by cases z)) (fun z=>by cases z)
noncomputable def z8:MS:=dh (fc (m1 (fg "tuple") (ab 0)) (mFn o8 (aa (cU (cZ (ab 0)) cTT (mFn (G.run 2 2 nbM) (aa (ab 2) (aa (ab 1) af)))) af)))
theorem uE {ρ:Rho}{S:Sto}{e a:ME}{l:List Nat}{f:Nat->U} (ha:a ρ S=some (.tup (aj l),S)) (hl:l.length < 10000000) (he : ∀ x∈l,e (ρ ++ [some (.int x)]) S=some (f x,S)):cU (cZ a) cTT e ρ S=some (.ref S.length,S ++ [.lst (l.map f)]):=by
 have h:=pU (t:=cTT) (e:=e) (ρ:=ρ) (S:=S) (a:=a) (l:=l) (p:=fun _=>true) (f:=f) ha (by unfold big;exact ai (by assumption) (by decide)) (fun _ _=>rfl) (fun x hx _=>he x hx)
 rwa [List.filter_eq_self.mpr (fun _ _=>rfl)] at h
theorem BS {n:Nat} (hl:w.length < 10000000) : ∃ S',G.run 2 2 z8 [.tup (aj w),.int (n:Nat)] S=some (.bl (w.all fun x=>decide (x < n)),S')/\Ex S S':=by
 have h1:m1 (fg "tuple") (ab 0) [some (.tup (aj w)),some (.int (n:Nat))] S=some (.bl true,S):=isT (var_eq rfl)
 have h2:=uE (e:=mFn (G.run 2 2 nbM) (aa (ab 2) (aa (ab 1) af))) (ρ := [some (.tup (aj w)),some (.int (n:Nat))]) (S:=S) (a:=ab 0) (l:=w) (f:=fun x => .bl (decide (x < n))) (var_eq rfl) hl (fun x _=>dg (var_eq rfl) (var_eq rfl) KH)
 obtain⟨S',e,x⟩:=m8 h1 (AI h2 (bF _ _)) (Ex.refl _) (Ex.push _ _)
 exact⟨S',cz (ρ := [some (.tup (aj w)),some (.int (n:Nat))]) rfl (b8 (e.trans (by rw [gy]))),x⟩
noncomputable def wbM:MS:=dh (fc (mFn (G.run 2 2 z8) (aa (ab 2) (aa (mFn bq (aa (ab 0) af)) af))) (mFn o8 (aa (cU (cZ (ab 2)) cTT (m2 oIn (ab 3) (ab 1))) af)))
theorem K8 {ρ:Rho}{S S1 S2:Sto}{a b:ME}{x:Nat}{l:List Nat} (ha:a ρ S=some (.int x,S1)) (hb:b ρ S1=some (.tup (aj l),S2)):m2 oIn a b ρ S=some (.bl (decide (x∈l)),S2):=
 op2 ha hb (by simp only [oIn,fR,eG,ah,dr,lN,aN,tL])
theorem Bx (hl:w.length < 10000000) (hw:Lt m w) : ∃ S',G.run 3 3 wbM [tab m T,.tup (aj st),.tup (aj w)] S=some (.bl (w.all fun x=>decide (x∈st)),S')/\Ex S S':=by
 obtain⟨S1,e1,x1⟩:=BS (S:=S) (n:=m) hl
 have ht:(w.all fun x=>decide (x < m))=true:=bx.mpr fun x hx=>decide_eq_true (hw x hx)
 rw [ht] at e1
 have h1:mFn (G.run 2 2 z8) (aa (ab 2) (aa (mFn bq (aa (ab 0) af)) af)) [some (tab m T),some (.tup (aj st)),some (.tup (aj w))] S=some (.bl true,S1):=dg (var_eq rfl) (len_tab (var_eq rfl)) e1
 have h2:=uE (e:=m2 oIn (ab 3) (ab 1)) (ρ := [some (tab m T),some (.tup (aj st)),some (.tup (aj w))]) (S:=S1) (a:=ab 2) (l:=w) (f:=fun x => .bl (decide (x∈st))) (var_eq rfl) hl (fun x _=>K8 (var_eq rfl) (var_eq rfl))
 obtain⟨S',e,x⟩:=m8 h1 (AI h2 (bF _ _)) x1 (Ex.push _ _)
 exact⟨S',cz (ρ := [some (tab m T),some (.tup (aj st)),some (.tup (aj w))]) rfl (b8 (e.trans (by rw [gy]))),x⟩
noncomputable def Bq:MS:=dh (m2 oEq (mFn b5 (aa (mFn fL (aa (ab 1) af)) af)) (mFn (G.run 1 1 atM) (aa (ab 0) af)))
theorem AF {l:List Nat} (hm:m < 1000) (hl:l.length < 64) : ∃ S',G.run 2 2 Bq [tab m T,.tup (aj l)] S=some (.bl (decide (srt l=aA m)),S')/\Ex S S':=
 ⟨_,cz (ρ := [some (tab m T),some (.tup (aj l))]) rfl (b8 (Lx (iN (Cb (var_eq rfl) hl)) (iU (var_eq rfl) (IR hm)))),Ex.push _ _⟩
noncomputable def plM:MS:=bf (bB 2 (b4 (aa (mC (.int 0)) af))) (bf (eB 3 (cZ (ab 1)) (dj (mML cn (ab 2) (aa (m2 oIx (m2 oIx (ab 0) (m2 oIx (ab 2) (m1 eK (mC (.int 1))))) (ab 3)) af)))) (dh (mFn b5 (aa (ab 2) af))))
theorem Fc (g:Grp m T) (hw:Lt m w) (hl:w.length < 10000000) : ∃ S',G.run 2 4 plM [tab m T,.tup (aj w)] S=some (.tup (aj (plc T w)),S')/\Ex S S':=by
 have hone:b4 (aa (mC (.int 0)) af) [some (tab m T),some (.tup (aj w)),none,none] S=some (.ref S.length,S ++ [Cell.lst [.int 0]]):=uP rfl
 obtain⟨ρ1,S1,e1,⟨x,rfl⟩,q1,q2⟩:=Aw (i:=3) (b:=dj (mML cn (ab 2) (aa (m2 oIx (m2 oIx (ab 0) (m2 oIx (ab 2) (m1 eK (mC (.int 1))))) (ab 3)) af))) (e:=ab 1)
  (ρ := [some (tab m T),some (.tup (aj w)),some (.ref S.length),none]) (S:=S ++ [Cell.lst [.int 0]]) (S1:=S ++ [Cell.lst [.int 0]]) (us:=aj w) (var_eq rfl)
  (fun k ρ S'=>(∃ x,ρ = [some (tab m T),some (.tup (aj w)),some (.ref S.length),x])/\Ex S S'/\S'[S.length]? = some (Cell.lst (aj ((aA (k+1)).map fun i=>d0 T (w.take i)))))
  ⟨⟨none,rfl⟩,Ex.push _ _,by rw [bF];simp [aj,d0]⟩
  (by
   rintro k u ρ S' hu ⟨⟨x,rfl⟩,q1,q2⟩
   obtain⟨y,hy,rfl⟩:=wo hu
   have hym:y < m:=hw y (dG hy)
   have hpm:d0 T (w.take k) < m:=AM g (hw.tk k)
   have hlast:atI (aj ((aA (k+1)).map fun i=>d0 T (w.take i))) (-1)=some (.int (d0 T (w.take k))):=by
    unfold aj
    rw [cx]
    exact uT
   have ev:m2 oIx (m2 oIx (ab 0) (m2 oIx (ab 2) (m1 eK (mC (.int 1))))) (ab 3) [some (tab m T),some (.tup (aj w)),some (.ref S.length),some (.int y)] S'=some (.int (T (d0 T (w.take k)) y),S'):=
    mU hym (m5 hpm (var_eq rfl) (rh (var_eq rfl) zT q2 hlast)) (var_eq rfl)
   have hkl:k < w.length:=(ag.mp hy).1
   refine⟨_,_,append_eq (var_eq rfl) ev q2 q2 (by simp [aj];unfold big;exact aJ (by assumption) (ai (by assumption) (by decide))),⟨_,rfl⟩,q1.set (aq _),?_⟩
   rw [aL (ag.mp q2).1]
   rw [dO (n:=k+1),cH]
   simp [aj,rS hy])
 rw [bK] at q2
 refine⟨S1,cz (ρ := [some (tab m T),some (.tup (aj w)),some (.ref S.length),x]) rfl ?_,q1⟩
 show plM [some (tab m T),some (.tup (aj w)),none,none] S=_
 exact (aY (bR hone)).trans ((aY e1).trans (b8 (jP (var_eq rfl) q2)))
noncomputable def gtM:MS:=dh (fc (mFn (G.run 2 2 z8) (aa (ab 1) (aa (mFn bq (aa (ab 0) af)) af))) (mFn (G.run 2 2 Bq) (aa (ab 0) (aa (mFn (G.run 2 4 plM) (aa (ab 0) (aa (ab 1) af))) af))))
theorem Kq (g:Grp m T) (hm:m < 1000) (hw:Lt m w) (hl:w.length < 63) : ∃ S',G.run 2 2 gtM [tab m T,.tup (aj w)] S=some (.bl (decide (srt (plc T w)=aA m)),S')/\Ex S S':=by
 obtain⟨S1,e1,x1⟩:=BS (S:=S) (n:=m) (w:=w) (by exact ai (by assumption) (by decide))
 have ht:(w.all fun x=>decide (x < m))=true:=bx.mpr fun x hx=>decide_eq_true (hw x hx)
 rw [ht] at e1
 obtain⟨S2,e2,x2⟩:=Fc (S:=S1) g hw (by exact ai (by assumption) (by decide))
 obtain⟨S3,e3,x3⟩:=AF (T:=T) (S:=S2) (l:=plc T w) hm (by rw [nv];exact aJ (by assumption) (by decide))
 obtain⟨S',e,x⟩:=m8 (ρ := [some (tab m T),some (.tup (aj w))]) (a:=mFn (G.run 2 2 z8) (aa (ab 1) (aa (mFn bq (aa (ab 0) af)) af))) (b:=mFn (G.run 2 2 Bq) (aa (ab 0) (aa (mFn (G.run 2 4 plM) (aa (ab 0) (aa (ab 1) af))) af))) (dg (var_eq rfl) (len_tab (var_eq rfl)) e1) (dg (var_eq rfl) (dg (var_eq rfl) (var_eq rfl) e2) e3) x1 (x2.trans x3)
 exact⟨S',cz (ρ := [some (tab m T),some (.tup (aj w))]) rfl (b8 (e.trans (by rw [gy]))),x⟩
noncomputable def iwM:MS:=dh (fc (mFn (G.run 3 3 wbM) (aa (ab 0) (aa (ab 1) (aa (ab 2) af)))) (mFn (G.run 2 2 gtM) (aa (ab 0) (aa (ab 2) af))))
theorem JH (g:Grp m T) (hm:m < 1000) (hw:Lt m w) (hl:w.length < 63) : ∃ S',G.run 3 3 iwM [tab m T,.tup (aj st),.tup (aj w)] S=some (.bl ((w.all fun x=>decide (x∈st))&&decide (srt (plc T w)=aA m)),S')/\Ex S S':=by
 obtain⟨S1,e1,x1⟩:=Bx (S:=S) (T:=T) (st:=st) (by exact ai (by assumption) (by decide)) hw
 obtain⟨S2,e2,x2⟩:=Kq (S:=S1) g hm hw hl
 obtain⟨S',e,x⟩:=m8 (ρ := [some (tab m T),some (.tup (aj st)),some (.tup (aj w))]) (a:=mFn (G.run 3 3 wbM) (aa (ab 0) (aa (ab 1) (aa (ab 2) af)))) (b:=mFn (G.run 2 2 gtM) (aa (ab 0) (aa (ab 2) af))) (jm (var_eq rfl) (var_eq rfl) (var_eq rfl) e1) (dg (var_eq rfl) (var_eq rfl) e2) x1 x2
 exact⟨S',cz (ρ := [some (tab m T),some (.tup (aj st)),some (.tup (aj w))]) rfl (b8 e),x⟩
theorem uU (hne:True):atI (aj (plc T w)) (-1)=some (.int (d0 T w:Nat)):=by
 have:=yC (th:=plc T w) (by rw [lD];simp)
 rw [pS] at this
 exact this
theorem Cf {α:Type}{xs:List α}{y:α}:cut (xs ++ [y]) none (some (-1))=xs:=by
 unfold cut
 have h1:HT.sIx (xs ++ [y]).length 0 none=0:=rfl
 have h2:HT.sIx (xs ++ [y]).length (xs ++ [y]).length (some (-1))=xs.length:=by
  unfold HT.sIx
  simp
  omega
 rw [h1,h2]
 simp
theorem E4 {ρ:Rho}{S S1:Sto}{a:ME}{l:List Nat}{x:Nat} (ha:a ρ S=some (.tup (aj (l ++ [x])),S1)):mSl a none (some (m1 eK (mC (.int 1)))) ρ S=some (.tup (aj l),S1):=by
 have e:aj (l ++ [x])=aj l ++ [.int x]:=by simp [aj]
 rw [e] at ha
 have n1:m1 eK (mC (.int 1)) ρ S1=some (.int (-1),S1):=rfl
 simp only [mSl,ha,aD,mK,n1,Cf]
noncomputable def crM:MS:=bf (bB 2 (mFn (G.run 2 4 plM) (aa (ab 0) (aa (ab 1) af)))) (dh (fc (m2 oEq (m2 oIx (ab 2) (m1 eK (mC (.int 1)))) (mC (.int 0))) (mFn (G.run 2 2 Bq) (aa (ab 0) (aa (mSl (ab 2) none (some (m1 eK (mC (.int 1))))) af)))))
theorem Jp (g:Grp m T) (hm:m < 1000) (hw:Lt m w) (hl:w.length < 63) : ∃ S',G.run 2 3 crM [tab m T,.tup (aj w)] S=some (.bl (decide (d0 T w=0)&&decide (srt (pre T w)=aA m)),S')/\Ex S S':=by
 obtain⟨S1,e1,x1⟩:=Fc (S:=S) g hw (by exact ai (by assumption) (by decide))
 obtain⟨S2,e2,x2⟩:=AF (T:=T) (S:=S1) (l:=pre T w) hm (by rw [yf];exact ai (by assumption) (by decide))
 have h1:m2 oEq (m2 oIx (ab 2) (m1 eK (mC (.int 1)))) (mC (.int 0)) [some (tab m T),some (.tup (aj w)),some (.tup (aj (plc T w)))] S1=some (.bl (decide (d0 T w=0)),S1):=DR (y:=0) (zz (var_eq rfl) zT (uU trivial)) c_i
 have h2:mFn (G.run 2 2 Bq) (aa (ab 0) (aa (mSl (ab 2) none (some (m1 eK (mC (.int 1))))) af)) [some (tab m T),some (.tup (aj w)),some (.tup (aj (plc T w)))] S1=some (.bl (decide (srt (pre T w)=aA m)),S2):=dg (var_eq rfl) (E4 (l:=pre T w) (x:=d0 T w) (by rw [<- lD];exact var_eq rfl)) e2
 obtain⟨S',e,x⟩:=m8 h1 h2 (Ex.refl _) x2
 refine⟨S',cz (ρ := [some (tab m T),some (.tup (aj w)),some (.tup (aj (plc T w)))]) rfl ?_,x1.trans x⟩
 show crM [some (tab m T),some (.tup (aj w)),none] S=_
 exact (aY (bR (dg (var_eq rfl) (var_eq rfl) e1))).trans (b8 e)
noncomputable def irM:MS:=dh (fc (mFn (G.run 3 3 wbM) (aa (ab 0) (aa (ab 1) (aa (ab 2) af)))) (fc (m2 oGe (mFn bq (aa (ab 2) af)) (mC (.int 2))) (mFn (G.run 2 3 crM) (aa (ab 0) (aa (ab 2) af)))))
theorem Ik (g:Grp m T) (hm:m < 1000) (hw:Lt m w) (hl:w.length < 63) : ∃ S',G.run 3 3 irM [tab m T,.tup (aj st),.tup (aj w)] S=some (.bl ((w.all fun x=>decide (x∈st))&&(decide (2<=w.length)&&(decide (d0 T w=0)&&decide (srt (pre T w)=aA m)))),S')/\Ex S S':=by
 obtain⟨S1,e1,x1⟩:=Bx (S:=S) (T:=T) (st:=st) (by exact ai (by assumption) (by decide)) hw
 have h2:m2 oGe (mFn bq (aa (ab 2) af)) (mC (.int 2)) [some (tab m T),some (.tup (aj st)),some (.tup (aj w))] S1=some (.bl (decide (2<=w.length)),S1):=by
  have:=KW (ρ := [some (tab m T),some (.tup (aj st)),some (.tup (aj w))]) (S:=S1) (a:=mFn bq (aa (ab 2) af)) (b:=mC (.int 2)) (oP (var_eq rfl)) c_i
  rw [this,bK]
  congr 2
  simp
  omega
 obtain⟨S2,e2,x2⟩:=Jp (S:=S1) g hm hw hl
 obtain⟨S3,e3,x3⟩:=m8 (ρ := [some (tab m T),some (.tup (aj st)),some (.tup (aj w))]) (b:=mFn (G.run 2 3 crM) (aa (ab 0) (aa (ab 2) af))) h2 (dg (var_eq rfl) (var_eq rfl) e2) (Ex.refl _) x2
 obtain⟨S',e,x⟩:=m8 (ρ := [some (tab m T),some (.tup (aj st)),some (.tup (aj w))]) (a:=mFn (G.run 3 3 wbM) (aa (ab 0) (aa (ab 1) (aa (ab 2) af)))) (jm (var_eq rfl) (var_eq rfl) (var_eq rfl) e1) e3 x1 x3
 exact⟨S',cz (ρ := [some (tab m T),some (.tup (aj st)),some (.tup (aj w))]) rfl (b8 e),x⟩
end
end
end W
end
section
namespace W
open L2 G
section
section
variable {m:Nat}{T:Nat->Nat->Nat}
structure Sn (m:Nat) (T:Nat->Nat->Nat) (p:List Nat):Prop where
 lt:Lt m p
 nd:(plc T p).Nodup
 cl : ∀ x∈plc T p,∀ y∈plc T p,T x y∈plc T p
end
section
variable {m:Nat}{T:Nat->Nat->Nat}{S:Sto}
abbrev Pln (m:Nat) (T:Nat->Nat->Nat):Prop := ∀ i j,i < m->j < m->T i j=T j i
end
end
end W
end
section
namespace W
open L2 G
section
section
variable {m:Nat}{T:Nat->Nat->Nat}{S:Sto}
structure Pg (n most:Nat) (S0:Sto) (ρ:Rho) (S:Sto):Prop where
 h : ∃ m T,ρ = [some (.ref n),some (.int (most:Nat)),some (tab m T)]/\Grp m T/\Pln m T/\m<=most
 st:Stp n S0 S
end
end
end W
end
section
namespace W
open L2 G
section
theorem rM : ∀ (l acc:List Int) (x:Int),x∈l.foldl (fun acc x=>if x∈acc then acc else acc ++ [x]) acc↔x∈acc\/x∈l
 | [],acc,x=>by simp
 | y::l,acc,x=>by
   rw [gE,rM l]
   by_cases h:y∈acc
   ·rw [if_pos h,aK]
    constructor
    ·rintro (z | z)
     ·exact .inl z
     ·exact .inr (.inr z)
    ·rintro (z | rfl | z)
     ·exact .inl z
     ·exact .inl h
     ·exact .inr z
   ·rw [if_neg h,bS,aW,aK,or_assoc]
theorem yG {l:List Int}{x:Int}:x∈ddp l↔x∈l:=by unfold ddp;rw [rM];simp
theorem sr : ∀ (l acc:List Int),acc.Nodup->(l.foldl (fun acc x=>if x∈acc then acc else acc ++ [x]) acc).Nodup
 | [],acc,h=>h
 | y::l,acc,h=>by
   rw [gE]
   refine sr l _ ?_
   by_cases z:y∈acc
   ·rw [if_pos z];exact h
   ·rw [if_neg z];exact qT.mpr ⟨h,by simp,fun a ha b hb=>by simp at hb;rw [hb];exact fun e=>z (e▸ha)⟩
theorem G7 (l:List Int):(ddp l).Nodup:=sr l [] List.nodup_nil
noncomputable def ddN (l:List Nat):List Nat:=(ddp (dY l)).map mv
theorem lH (l:List Nat):dY (ddN l)=ddp (dY l):=by
 unfold dY ddN
 rw [cx]
 conv=>rhs;rw [<- List.map_id (ddp (l.map fun (x:Nat)=>(x:Int)))]
 apply cm
 intro x hx
 obtain⟨y,_,rfl⟩:=bI.mp (yG.mp hx)
 simp
theorem tS {l:List Nat}{x:Nat}:x∈ddN l↔x∈l:=by
 have h:(x:Int)∈dY (ddN l)↔(x:Int)∈dY l:=by rw [lH];exact yG
 have e : ∀ k:List Nat,(x:Int)∈dY k↔x∈k:=fun k=>by
  unfold dY
  rw [bI]
  constructor
  ·rintro ⟨y,hy,e⟩
   have:y=x:=by omega
   rw [<- this];exact hy
  ·exact fun h=>⟨x,h,rfl⟩
 rw [<- e,<- e];exact h
theorem AE (l:List Nat):(ddN l).Nodup:=by
 have h:(dY (ddN l)).Nodup:=by rw [lH];exact G7 _
 unfold dY at h
 exact (ky.mp h).imp fun {a b} hab e=>hab (by rw [e])
theorem Lz {ρ:Rho}{S S1:Sto}{a:ME}{n:Nat}{l:List Nat} (ha:a ρ S=some (.ref n,S1)) (hn:S1[n]? = some (Cell.lst (aj l))) (h1:l.length < 4000) (h2:(ddN l).length < 64):mFn bSS (aa a af) ρ S=some (.ref S1.length,S1 ++ [.lst (aj (srt (ddN l)))]):=by
 refine iU (f:=bSS) ha ?_
 have h3:(ddp (dY l)).length < 64:=by rw [<- lH];simpa [dY] using h2
 have ok:DL (dY l).length (ddp (dY l)).length:=⟨by simpa [dY] using h1,h3⟩
 simp only [bSS,dr,getL,hn,ah,j9]
 rw [if_pos ok,<- lH,p7]
end
end W
end
section
namespace W
open L2 G
section
inductive Smp:U->Prop where
 | non:Smp .non
 | bl (b:Bool):Smp (.bl b)
 | int (i:Int):Smp (.int i)
 | str (x:PySem.Str):Smp (.str x)
 | tup (us:List U):Smp (.tup us)
inductive Thg (S:Sto):U->Prop where
 | non:Thg S .non
 | bl (b:Bool):Thg S (.bl b)
 | int (i:Int):Thg S (.int i)
 | str (x:PySem.Str):Thg S (.str x)
 | tup {us:List U} (h : ∀ v∈us,Smp v) (hl:us.length < 64):Thg S (.tup us)
 | lst {n:Nat}{xs:List U} (h:S[n]? = some (Cell.lst xs)):Thg S (.ref n)
 | dic {n:Nat}{kv:List (L2.Key×U)} (h:S[n]? = some (Cell.dic kv)):Thg S (.ref n)
theorem Thg.ex {S S':Sto}{u:U} (h:Thg S u) (x:Ex S S'):Thg S' u:=by
 cases h with
 | non=>exact .non
 | bl b=>exact .bl b
 | int i=>exact .int i
 | str y=>exact .str y
 | tup h hl=>exact .tup h hl
 | lst h=>exact .lst (x.some h)
 | dic h=>exact .dic (x.some h)
theorem Thg.stp {S S':Sto}{u:U}{n:Nat} (h:Thg S u) (x:Stp n S S') (hn:u ≠ .ref n):Thg S' u:=by
 cases h with
 | non=>exact .non
 | bl b=>exact .bl b
 | int i=>exact .int i
 | str y=>exact .str y
 | tup h hl=>exact .tup h hl
 | lst h=>exact .lst (x.some (fun e=>hn (by rw [e])) h)
 | dic h=>exact .dic (x.some (fun e=>hn (by rw [e])) h)
theorem Thg.nat {S:Sto}{l:List Nat} (hl:l.length < 64):Thg S (.tup (aj l)) := .tup (fun v hv=>by obtain⟨x,_,rfl⟩:=bI.mp hv;exact .int _) (by rw [bK];exact hl)
noncomputable def isTup:U->Bool
 | .tup _=>true
 | _=>false
theorem yt {ρ:Rho}{S S1:Sto}{a:ME}{u:U} (ha:a ρ S=some (u,S1)) (h:Thg S1 u):m1 (fg "tuple") a ρ S=some (.bl (isTup u),S1):=by
 simp only [m1,ha,aD,fg]
 cases h with
 | lst h=>simp only [tyU,h];rfl
 | dic h=>simp only [tyU,h];rfl
 | _=>rfl
noncomputable def nbV (n:Nat):U->Bool
 | .int i=>decide (0<=i)&&decide (i < n)
 | _=>false
theorem Be {n:Nat} : ∀ {us:List U},us.all (nbV n)=true -> ∃ l:List Nat,us=aj l /\ ∀ x∈l,x < n
 | [],_=>⟨[],rfl,by simp⟩
 | u::us,h=>by
   rw [bW,aw] at h
   obtain⟨l,rfl,hl⟩:=Be h.2
   cases u with
   | int i=>
     have h1:=h.1
     simp only [nbV,aw,decide_eq_true_eq] at h1
     refine⟨i.toNat::l,?_,fun x hx => ?_⟩
     ·show _=U.int ((i.toNat:Nat):Int)::aj l
      rw [ph h1.1]
     ·rcases aK.mp hx with rfl | hx
      ·omega
      ·exact hl x hx
   | _=>exact absurd h.1 (by simp [nbV])
theorem rY {i:Nat}{b:MS}{v:U} (p:U->Bool) (P:Rho->Sto->Prop) : ∀ (us:List U) (ρ:Rho) (S:Sto),P ρ S ->
  (∀ (u:U) (ρ:Rho) (S:Sto),u∈us->P ρ S -> ∃ ρ' S',b (ρ.set i (some u)) S=some (if p u then .nx else .rt v,ρ',S')/\P ρ' S') ->
  ∃ ρ' S',pQ i b us ρ S=some (if us.all p then .nx else .rt v,ρ',S')/\P ρ' S'
 | [],ρ,S,h,_=>⟨ρ,S,rfl,h⟩
 | u::us,ρ,S,h,st=>by
   obtain⟨ρ1,S1,e1,h1⟩:=st u ρ S (by simp) h
   show ∃ ρ' S',aft (b (ρ.set i (some u)) S) (pQ i b us)=_/\_
   rw [e1]
   cases hp:p u with
   | true=>
     obtain⟨ρ2,S2,e2,h2⟩:=rY p P us ρ1 S1 h1 fun w ρ S hw hP=>st w ρ S (aO _ hw) hP
     exact⟨ρ2,S2,by simpa [aft,hp] using e2,h2⟩
   | false=>exact⟨ρ1,S1,by simp [aft,hp],h1⟩
theorem sx {S:Sto}{f:Nat} : ∀ (l:List Int),dz (toD S (f+1)) (l.map U.int)=some (l.map cy)
 | []=>rfl
 | x::l=>by
   show (some (cy x)).bind _=_
   simp only [ah]
   rw [sx l];rfl
theorem qf : ∀ (a b:List Int),bV (a.map cy) (b.map cy)=decide (a=b)
 | [],[]=>by simp [bV]
 | [],_::_=>by simp [bV]
 | _::_,[]=>by simp [bV]
 | x::a,y::b=>by
   simp only [bu,bV,dM,qf a b]
   by_cases h:x=y
   ·subst h;simp
   ·simp [h]
end
end W
end
section
namespace W
open L2 G
section
section
variable {m:Nat}{T:Nat->Nat->Nat}{S:Sto}{u:U}{st:List Nat}
theorem yd {ρ:Rho}{S1:Sto}{a b:ME} (ha:a ρ S=some (.bl false,S1)):fc a b ρ S=some (.bl false,S1):=by simp only [fc,ha,aD]
theorem Df {ρ:Rho}{S1:Sto}{a b:MT} (ha:a ρ S=some (true,S1)):cOr a b ρ S=some (true,S1):=by simp [cOr,ha,aD]
theorem Dy {ρ:Rho}{S1 S2:Sto}{a b:MT}{y:Bool} (ha:a ρ S=some (false,S1)) (hb:b ρ S1=some (y,S2)):cOr a b ρ S=some (y,S2):=by simp [cOr,ha,aD,hb]
theorem AY {a b:List Nat} (h:aj a=aj b):a=b:=by
 have:(aj a).map (fun u=>match u with | .int i=>i.toNat | _=>0)=(aj b).map (fun u=>match u with | .int i=>i.toNat | _=>0):=by rw [h]
 unfold aj at this
 rw [cx,cx] at this
 simpa [oZ] using this
theorem GU {v:U}{n:Nat} (h:Smp v):G.run 2 2 nbM [v,.int (n:Nat)] S=some (.bl (nbV n v),S):=by
 refine cz (ρ := [some v,some (.int (n:Nat))]) rfl (show nbM [some v,some (.int (n:Nat))] S=_ from b8 ?_)
 cases h with
 | int i=>
   have h1:m1 (fg "int") (ab 0) [some (.int i),some (.int (n:Nat))] S=some (.bl true,S):=rfl
   have h2:m1 wm (m1 (fg "bool") (ab 0)) [some (.int i),some (.int (n:Nat))] S=some (.bl true,S):=rfl
   have h3:mCh oLe oLt (mC (.int 0)) (ab 0) (ab 1) [some (.int i),some (.int (n:Nat))] S=some (.bl (decide (0<=i)&&decide (i < n)),S):=by
    have v0:ab 0 [some (.int i),some (.int (n:Nat))] S=some (.int i,S):=rfl
    have v1:ab 1 [some (.int i),some (.int (n:Nat))] S=some (.int (n:Nat),S):=rfl
    have c0:mC (.int 0) [some (.int i),some (.int (n:Nat))] S=some (.int 0,S):=rfl
    by_cases z:(0:Int)<=i
    ·simp [mCh,v0,v1,c0,aD,wj,z]
    ·simp [mCh,v0,v1,c0,aD,wj,z]
   exact (iR h1 (fun _=>iR h2 (fun _=>h3) (fun z=>by cases z)) (fun z=>by cases z)).trans (by simp [nbV])
 | bl b=>rfl
 | non=>rfl
 | str x=>rfl
 | tup us=>rfl
noncomputable def Fy (n:Nat):U->Bool
 | .tup us=>us.all (nbV n)
 | _=>false
theorem EZ {n:Nat} (h:Thg S u) : ∃ S',G.run 2 2 z8 [u,.int (n:Nat)] S=some (.bl (Fy n u),S')/\Ex S S':=by
 have h1:=yt (ρ := [some u,some (.int (n:Nat))]) (S:=S) (a:=ab 0) (var_eq rfl) h
 cases ht:isTup u with
 | false=>
   rw [ht] at h1
   refine⟨S,cz (ρ := [some u,some (.int (n:Nat))]) rfl (b8 ((yd h1).trans ?_)),Ex.refl _⟩
   cases u with
   | tup us=>cases ht
   | _=>rfl
 | true=>
   rw [ht] at h1
   cases h with
   | tup h hl=>
     rename_i us
     have h2:=su (t:=cTT) (e:=mFn (G.run 2 2 nbM) (aa (ab 2) (aa (ab 1) af))) (ρ := [some (.tup us),some (.int (n:Nat))]) (S:=S) (a:=ab 0) (us:=us) (p:=fun _=>true) (f:=fun v => .bl (nbV n v)) (var_eq rfl) (by unfold big;exact ai (by assumption) (by decide)) (fun _ _=>rfl) (fun v hv _=>dg (var_eq rfl) (var_eq rfl) (GU (h v hv)))
     rw [List.filter_eq_self.mpr (fun _ _=>rfl)] at h2
     exact⟨_,cz (ρ := [some (.tup us),some (.int (n:Nat))]) rfl (b8 (iR h1 (fun _=>JU h2) (fun z=>by cases z))),Ex.push _ _⟩
   | _=>cases ht
theorem mc {ρ:Rho}{S1 S2:Sto}{a:ME}{r:MA}{x:U}{xs:List U} (ha:a ρ S=some (x,S1)) (hr:r ρ S1=some (xs,S2)):aa a r ρ S=some (x::xs,S2):=by simp only [aa,ha,hr,aD]
theorem ml {ρ:Rho}{S1:Sto}{r:MA}{xs:List U} (h:r ρ S=some (xs,S1)) (hl:xs.length < 1000):b4 r ρ S=some (.ref S1.length,S1 ++ [.lst xs]):=by
 have:xs.length<=big:=by unfold big;omega
 simp only [b4,h,aD,this,if_true]
noncomputable def Tn (n:Nat) (S:Sto) (u:U):Prop:=Thg S u/\u ≠ .ref n
theorem Tn.ex {n:Nat}{S':Sto} (h:Tn n S u) (x:Ex S S'):Tn n S' u:=⟨h.1.ex x,h.2⟩
theorem Tn.stp {n:Nat}{S':Sto} (h:Tn n S u) (x:Stp n S S'):Tn n S' u:=⟨h.1.stp x h.2,h.2⟩
theorem se {xs:List U}{k:Nat}:cut xs (some (k:Int)) none=xs.drop k:=by
 have h1:HT.sIx xs.length 0 (some (k:Int))=min k xs.length:=HT.sIx_nat _ _ k
 have h2:HT.sIx xs.length xs.length none=xs.length:=rfl
 unfold cut
 rw [h1,h2]
 rcases Nat.le_total k xs.length with z | z
 ·rw [Nat.min_eq_left z,eX (by simp)]
 ·rw [Nat.min_eq_right z,mP (aq _),mP z];simp
theorem qr {ρ:Rho}{S1 S2:Sto}{a b:ME}{xs ys:List U} (ha:a ρ S=some (.tup xs,S1)) (hb:b ρ S1=some (.tup ys,S2)) (hl:xs.length+ys.length < 1000):m2 bC a b ρ S=some (.tup (xs++ys),S2):=op2 ha hb (if_pos (by unfold big;omega))
theorem wg : ∀ (a b:List Nat),a.Nodup->(∀ x∈a,x∈b)->b.length<=a.length->a.Perm b
 | [],b,_,_,h=>by
   have e:b = []:=dH (by simpa using h)
   rw [e]
 | x::a,b,h,hs,hl=>by
   have hx:=hs x (by simp)
   have h2:=List.length_erase_of_mem hx
   have h1:=wg a (b.erase x) (eh.mp h).2 (fun y hy=>(List.mem_erase_of_ne (fun e:y=x=>(eh.mp h).1 (by rw [<- e];exact hy))).mpr (hs y (aO _ hy))) (by simp only [bo] at hl;omega)
   exact (h1.cons x).trans (List.perm_cons_erase hx).symm
theorem Cc {l:List Nat} (hl:Lt m l):srt (ddN l)=aA m ↔ ∀ x,x < m->x∈l:=by
 constructor
 ·intro e x hx
  have:x∈srt (ddN l):=by rw [e];exact bb.mpr hx
  exact tS.mp (sZ.mp this)
 ·intro h
  rw [<- oj m]
  refine ox (EI (AE l) iK fun x => ?_)
  rw [tS,bb]
  exact⟨fun hx=>hl x hx,h x⟩
theorem yz {l:List Nat} (hl:Lt m l):All m l↔(∀ x,x < m->x∈l)/\l.length=m:=by
 constructor
 ·intro h;exact⟨fun x hx=>h.mem hx,h.len⟩
 ·rintro ⟨h1,h2⟩
  refine All.of ((wg (aA m) l iK (fun x hx=>h1 x (bb.mp hx)) (by simp;exact nc (by assumption))).symm)
theorem Du (g:Grp m T) {w:List Nat} (hw:Lt m w):decide (srt (plc T w)=aA m)=(decide (srt (ddN (plc T w))=aA m)&&decide ((w.length:Int)=(m:Int) - 1)):=by
 have hp:=g.pos
 have h1:=oe g hw
 rw [ju,yo,yz h1,aw,decide_eq_true_iff,decide_eq_true_iff,Cc h1,nv]
 constructor
 ·rintro ⟨a,b⟩;exact⟨a,by omega⟩
 ·rintro ⟨a,b⟩;exact⟨a,by omega⟩
theorem zr (g:Grp m T) {w:List Nat} (hw:Lt m w):(decide (2<=w.length)&&(decide (d0 T w=0)&&decide (srt (pre T w)=aA m)))=(decide (srt (ddN (plc T w))=aA m)&&((decide ((w.length:Int)=(m:Int))&&decide (1 < m))&&decide (d0 T w=0))):=by
 have hp:=g.pos
 have h1:=oe g hw
 have h2:=G0 g hw
 rw [ju]
 simp only [aw]
 rw [yo,yz h2,decide_eq_true_iff,decide_eq_true_iff,decide_eq_true_iff,decide_eq_true_iff,decide_eq_true_iff,Cc h1,yf]
 constructor
 ·rintro ⟨a,b,c,d⟩
  refine⟨fun x hx => ?_,⟨by omega,by omega⟩,b⟩
  rw [lD]
  exact b9 _ (c x hx)
 ·rintro ⟨a,⟨b,c⟩,d⟩
  refine⟨by omega,d,fun x hx => ?_,by omega⟩
  have:=a x hx
  rw [lD] at this
  rcases bS.mp this with z | z
  ·exact z
  ·rw [aW.mp z,d]
   exact bI.mpr ⟨0,bb.mpr (by omega),rfl⟩
theorem qc {ρ:Rho}{S1 S2:Sto}{a b:ME}{n k:Nat}{xs ys:List U} (ha:a ρ S=some (.ref n,S1)) (hb:b ρ S1=some (.ref k,S2)) (hn:S2[n]? = some (Cell.lst xs)) (hk:S2[k]? = some (Cell.lst ys)) (hl:xs.length+ys.length < 1000):m2 bC a b ρ S=some (.ref S2.length,S2 ++ [Cell.lst (xs++ys)]):=
 op2 ha hb (by simp only [bC,hn,hk];exact if_pos (by unfold big;omega))
theorem B7 {ρ:Rho}{S1 S2:Sto}{a b:ME}{n k:Nat}{x y:List Nat} (ha:a ρ S=some (.ref n,S1)) (hb:b ρ S1=some (.ref k,S2)) (hn:S2[n]? = some (Cell.lst (aj x))) (hk:S2[k]? = some (Cell.lst (aj y))):m2 oEq a b ρ S=some (.bl (decide (x=y)),S2):=by
 refine op2 ha hb ?_
 have e : ∀ l:List Nat,aj l=(l.map fun (z:Nat)=>(z:Int)).map U.int:=fun l=>by unfold aj;rw [cx];rfl
 have d : ∀ {n:Nat}{l:List Nat},S2[n]? = some (Cell.lst (aj l))->toD S2 40 (.ref n)=some (.list ((l.map fun (z:Nat)=>(z:Int)).map cy)):=fun {n l} h=>by
  show (getL S2 n).bind _=_
  have:getL S2 n=some ((l.map fun (z:Nat)=>(z:Int)).map U.int):=by unfold getL;rw [h,e]
  rw [this]
  simp only [ah]
  rw [sx];rfl
 unfold oEq G.eqU
 rw [d hn,d hk]
 simp only [ah,aN,dM,qf]
 congr 3
 rw [decide_eq_decide]
 constructor
 ·intro h
  have:=congrArg (List.map mv) h
  rw [cx,cx] at this
  simpa [oZ] using this
 ·rintro rfl;rfl
theorem sy {g:MG}{b:MS}{n:Nat} (us:List U) (P:Nat->Rho->Sto->Prop) (hl : ∀ k ρ S,P k ρ S->getL S n=some us)
  (st : ∀ (k:Nat) (u:U) (ρ:Rho) (S:Sto),us[k]? = some u->P k ρ S -> ∃ ρ1 S1 ρ' S',g (.tup [.int k,u]) ρ S=some (ρ1,S1)/\b ρ1 S1=some (.nx,ρ',S')/\P (k+1) ρ' S') :
  ∀ (f k:Nat) (ρ:Rho) (S:Sto),k<=us.length->us.length - k < f->P k ρ S -> ∃ ρ' S',oS g b n f k ρ S=some (.nx,ρ',S')/\P us.length ρ' S'
 | 0,k,ρ,S,h1,h2,_=>by omega
 | f+1,k,ρ,S,h1,h2,hp=>by
   unfold oS
   rw [hl k ρ S hp]
   simp only [ah]
   by_cases hk:k < us.length
   ·have hu:us[k]? = some us[k]:=by simp [hk]
    obtain⟨ρ0,S0,ρ1,S1,e0,e1,p1⟩:=st k us[k] ρ S hu hp
    obtain⟨ρ2,S2,e2,p2⟩:=sy us P hl st f (k+1) ρ1 S1 (by assumption) (by omega) p1
    refine⟨ρ2,S2,?_,p2⟩
    simp only [hu,e0,ah,aft,e1,e2]
   ·have:k=us.length:=by omega
    subst this
    exact⟨ρ,S,by simp,hp⟩
theorem Dr {ρ:Rho}{S1 S2:Sto}{a b:ME}{i:Int}{l:List Nat} (ha:a ρ S=some (.int i,S1)) (hb:b ρ S1=some (.tup (aj l),S2)):m2 fN a b ρ S=some (.bl (!decide (0<=i/\i.toNat∈l)),S2):=by
 refine op2 ha hb ?_
 have:inV (.int i) (l.map fun (y:Nat)=>V.int y)=decide (0<=i/\i.toNat∈l):=by
  by_cases z:0<=i
  ·have e:i=((i.toNat:Nat):Int):=(ph z).symm
   conv=>lhs;rw [e]
   rw [tL]
   simp [z]
  ·rw [decide_eq_false (fun h=>z h.1)]
   unfold inV
   rw [List.any_map,qP]
   intro y hy
   simp [eqV];omega
 simp only [fN,fR,eG,ah,dr,lN,aN,this]
end
end
end W
end
namespace W
open PySem PySem.Spec L2 G
section
noncomputable def oR:MS:=bf (bB 3 (fo (iR2 (aa (mC (.int 1)) (aa (mFn bq (aa (ab 1) af)) af))))) (bf (bB 4 (b4 af)) (bf (eB 5 (iR1 (aa (mFn o5 (aa (mFn bq (aa (ab 3) af)) (aa (m2 bC (mC (.int 1)) (mFn aM (aa (ab 0) (aa (ab 2) af)))) af))) af)) (dj (mML cn (ab 4) (aa (mML jy (ab 3) (aa (mFn aM (aa (ab 0) (aa (mFn bq (aa (ab 3) af)) af))) af)) af)))) (dh (mFn b5 (aa (mFn fL (aa (ab 4) af)) af)))))
noncomputable def jc:MF:=run 3 6 oR
noncomputable def jg:MS:=dh (fc (m1 (fg "int") (ab 0)) (fc (m1 wm (m1 (fg "bool") (ab 0))) (mCh oLe oLt (mC (.int 0)) (ab 0) (ab 1))))
noncomputable def jo:MF:=run 2 2 jg
noncomputable def iy:MS:=dh (fc (m1 (fg "tuple") (ab 0)) (mFn o8 (aa (cU (cZ (ab 0)) cTT (mFn jo (aa (ab 2) (aa (ab 1) af)))) af)))
noncomputable def d6:MF:=run 2 2 iy
noncomputable def nL:MS:=dh (fc (mFn d6 (aa (ab 2) (aa (mFn bq (aa (ab 0) af)) af))) (mFn o8 (aa (cU (cZ (ab 2)) cTT (m2 oIn (ab 3) (ab 1))) af)))
noncomputable def fh:MF:=run 3 3 nL
noncomputable def nF:MS:=dh (my (iR1 (aa (mFn bq (aa (ab 0) af)) af)))
noncomputable def nu:MF:=run 1 1 nF
noncomputable def jO:MS:=dh (m2 oEq (mFn b5 (aa (mFn fL (aa (ab 1) af)) af)) (mFn nu (aa (ab 0) af)))
noncomputable def gG:MF:=run 2 2 jO
noncomputable def vg:MS:=bf (bB 2 (b4 (aa (mC (.int 0)) af))) (bf (eB 3 (cZ (ab 1)) (dj (mML cn (ab 2) (aa (m2 oIx (m2 oIx (ab 0) (m2 oIx (ab 2) (m1 eK (mC (.int 1))))) (ab 3)) af)))) (dh (mFn b5 (aa (ab 2) af))))
noncomputable def qK:MF:=run 2 4 vg
noncomputable def lq:MS:=dh (fc (mFn d6 (aa (ab 1) (aa (mFn bq (aa (ab 0) af)) af))) (mFn gG (aa (ab 0) (aa (mFn qK (aa (ab 0) (aa (ab 1) af))) af))))
noncomputable def kH:MF:=run 2 2 lq
noncomputable def uX:MS:=dh (fc (mFn fh (aa (ab 0) (aa (ab 1) (aa (ab 2) af)))) (mFn kH (aa (ab 0) (aa (ab 2) af))))
noncomputable def gg:MF:=run 3 3 uX
noncomputable def mG:MS:=bf (bB 2 (mFn qK (aa (ab 0) (aa (ab 1) af)))) (dh (fc (m2 oEq (m2 oIx (ab 2) (m1 eK (mC (.int 1)))) (mC (.int 0))) (mFn gG (aa (ab 0) (aa (mSl (ab 2) none (some (m1 eK (mC (.int 1))))) af)))))
noncomputable def mI:MF:=run 2 3 mG
noncomputable def qb:MS:=dh (fc (mFn fh (aa (ab 0) (aa (ab 1) (aa (ab 2) af)))) (fc (m2 oGe (mFn bq (aa (ab 2) af)) (mC (.int 2))) (mFn mI (aa (ab 0) (aa (ab 2) af)))))
noncomputable def eI:MF:=run 3 3 qb
noncomputable def nO:MS:=bf (bB 3 (b4 af)) (bf (bB 4 (b4 (aa (bA (aa (bA af) (aa (bA (aa (mC (.int 0)) af)) af))) af))) (bf (j6 (j8 (cOf (m2 oNe (ab 4) (b4 af))) (cOf (m2 oLt (mFn bq (aa (ab 3) af)) (ab 2)))) (bf (p6 (mML pO (ab 4) af) (gTp 2 (dn (gN 5) (dn (gN 6) jl)))) (bf (bB 7 (m2 oIx (ab 6) (m1 eK (mC (.int 1))))) (sIf (cOf (m2 oEq (mFn bq (aa (ab 5) af)) (m2 h9 (mFn bq (aa (ab 0) af)) (mC (.int 1))))) (dj (mML eF (ab 3) (aa (cU (cZ (ab 1)) (cOf (m2 oEq (m2 oIx (m2 oIx (ab 0) (ab 7)) (ab 9)) (mC (.int 0)))) (m2 bC (ab 5) (bA (aa (ab 9) af)))) af))) (bf (bB 8 (cU (cZ (ab 1)) (cOf (m2 fN (m2 oIx (m2 oIx (ab 0) (ab 7)) (ab 9)) (ab 6))) (bA (aa (ab 9) (aa (m2 oIx (m2 oIx (ab 0) (ab 7)) (ab 9)) af))))) (dj (mML eF (ab 4) (aa (iT 2 (cZ (m1 lh (ab 8))) cTT (bA (aa (m2 bC (ab 5) (bA (aa (ab 9) af))) (aa (m2 bC (ab 6) (bA (aa (ab 10) af))) af)))) af)))))))) (dh (mSl (ab 3) none (some (ab 2))))))
noncomputable def iA:MF:=run 3 9 nO
noncomputable def pR:MS:=bf (bB 3 (b4 af)) (bf (bB 4 (b4 (aa (bA (aa (bA af) (aa (bA (aa (mC (.int 0)) af)) af))) af))) (bf (j6 (j8 (cOf (m2 oNe (ab 4) (b4 af))) (cOf (m2 oLt (mFn bq (aa (ab 3) af)) (ab 2)))) (bf (p6 (mML pO (ab 4) af) (gTp 2 (dn (gN 5) (dn (gN 6) jl)))) (sIf (cOf (m2 oEq (mFn bq (aa (ab 5) af)) (m2 h9 (mFn bq (aa (ab 0) af)) (mC (.int 1))))) (dj (mML cn (ab 3) (aa (ab 5) af))) (bf (bB 7 (cU (cZ (ab 1)) (cOf (m2 fN (m2 oIx (m2 oIx (ab 0) (m2 oIx (ab 6) (m1 eK (mC (.int 1))))) (ab 8)) (ab 6))) (bA (aa (ab 8) (aa (m2 oIx (m2 oIx (ab 0) (m2 oIx (ab 6) (m1 eK (mC (.int 1))))) (ab 8)) af))))) (dj (mML eF (ab 4) (aa (iT 2 (cZ (m1 lh (ab 7))) cTT (bA (aa (m2 bC (ab 5) (bA (aa (ab 8) af))) (aa (m2 bC (ab 6) (bA (aa (ab 9) af))) af)))) af))))))) (dh (ab 3))))
noncomputable def kd:MF:=run 3 8 pR
noncomputable def pT:MS:=bf (bB 3 (mFn aM (aa (ab 0) (aa (m2 bC (mFn bq (aa (ab 1) af)) (mC (.int 1))) af)))) (bf (bB 4 (mFn aM (aa (ab 0) (aa (m2 bC (mFn bq (aa (ab 1) af)) (mC (.int 1))) af)))) (bf (bB 5 (m2 oIx (b4 (aa (mC (.bl true)) (aa (mC (.bl false)) (aa (mC .non) (aa (mC (.str "1")) (aa (mC (.int 0)) (aa (ab 2) (aa (m1 eK (mC (.int 1))) (aa (mC (.int 1)) (aa (mC (.int 2)) (aa (m2 h9 (ab 2) (mC (.int 1))) (aa (bA (aa (mC (.int 1)) af)) af)))))))))))) (mFn aM (aa (ab 0) (aa (mC (.int 11)) af))))) (bf (bB 6 (b4 (aa (m2 bC (mSl (ab 1) none (some (ab 3))) (mSl (ab 1) (some (m2 bC (ab 3) (mC (.int 1)))) none)) (aa (m2 bC (m2 bC (mSl (ab 1) none (some (ab 3))) (bA (aa (ab 5) af))) (mSl (ab 1) (some (ab 3)) none)) (aa (m2 bC (m2 bC (mSl (ab 1) none (some (ab 3))) (bA (aa (ab 5) af))) (mSl (ab 1) (some (m2 bC (ab 3) (mC (.int 1)))) none)) af))))) (bf (bB 6 (m2 bC (ab 6) (b4 (aa (m2 bC (mSl (ab 1) (some (ab 3)) none) (mSl (ab 1) none (some (ab 3)))) (aa (m1 lh (ab 1)) (aa (m2 bC (ab 1) (mSl (ab 1) none (some (mC (.int 1))))) (aa (mFn mB (aa (ab 1) af)) (aa (mC .non) (aa (bA (aa (ab 1) af)) (aa (mSl (ab 1) none (some (m1 eK (mC (.int 1))))) af)))))))))) (bf (bB 7 (mFn mB (aa (ab 1) af))) (bf (sIf (j8 (cOf (m2 oLt (ab 3) (mFn bq (aa (ab 1) af)))) (cOf (m2 oLt (ab 4) (mFn bq (aa (ab 1) af))))) (p6 (bA (aa (m2 oIx (ab 7) (ab 4)) (aa (m2 oIx (ab 7) (ab 3)) af))) (gTp 2 (dn (gSb (ab 7) (ab 3)) (dn (gSb (ab 7) (ab 4)) jl)))) dP) (dh (m2 oIx (m2 bC (m2 bC (ab 6) (m2 fv (b4 (aa (mFn b5 (aa (ab 7) af)) af)) (mC (.int 2)))) (b4 (aa (mC (.int 0)) (aa sD af)))) (mFn aM (aa (ab 0) (aa (mC (.int 14)) af)))))))))))
noncomputable def eY:MF:=run 3 8 pT
noncomputable def sM:MS:=bf (sIf (lW (cOf (m1 (fg "tuple") (ab 2)))) (dh (bA (aa (mC (.bl false)) (aa (mC (.bl false)) af)))) dP) (bf (eB 3 (cZ (ab 2)) (sIf (cOr (lW (cOf (m1 (fg "int") (ab 3)))) (cOr (cOf (m1 (fg "bool") (ab 3))) (cOf (m2 fN (ab 3) (ab 1))))) (dh (bA (aa (mC (.bl false)) (aa (mC (.bl false)) af)))) dP)) (bf (bB 4 (b4 (aa (mC (.int 0)) af))) (bf (eB 3 (cZ (ab 2)) (dj (mML cn (ab 4) (aa (m2 oIx (m2 oIx (ab 0) (m2 oIx (ab 4) (m1 eK (mC (.int 1))))) (ab 3)) af)))) (bf (bB 5 (mFn bq (aa (ab 0) af))) (bf (bB 6 (m2 oEq (mFn bSS (aa (ab 4) af)) (fo (iR1 (aa (ab 5) af))))) (dh (bA (aa (fc (ab 6) (m2 oEq (mFn bq (aa (ab 2) af)) (m2 h9 (ab 5) (mC (.int 1))))) (aa (fc (ab 6) (fc (mCh oEq oGt (mFn bq (aa (ab 2) af)) (ab 5) (mC (.int 1))) (m2 oEq (m2 oIx (ab 4) (m1 eK (mC (.int 1)))) (mC (.int 0))))) af)))))))))
noncomputable def iI:MF:=run 3 7 sM
noncomputable def Fb:MS:=bf (eB 1 (iR1 (aa (mFn oI (aa (mC (.int 1)) (aa (mFn o5 (aa (mFn bq (aa (ab 0) af)) (aa (mC (.int 6)) af))) af))) af)) (bf (bB 2 (mFn jd (aa (ab 0) (aa (ab 1) af)))) (bf (bB 3 (mFn ji (aa (ab 2) (aa (mC (.int 8)) af)))) (bf (bB 4 (mFn jc (aa (ab 2) (aa (ab 3) (aa (mC (.int 4)) af))))) (bf (sIf (cOf (m2 oEq (mFn aM (aa (ab 2) (aa (mC (.int 9)) af))) (mC (.int 0)))) (bB 4 (bA af)) dP) (bf (bB 5 (m2 bC (m2 bC (mFn iA (aa (ab 3) (aa (ab 4) (aa (mC (.int 1)) af)))) (mFn kd (aa (ab 3) (aa (ab 4) (aa (mC (.int 1)) af))))) (b4 (aa (bA af) af)))) (bf (bB 6 (mSl (m2 bC (ab 4) (bA (aa (mC (.int 0)) af))) none (some (mFn oI (aa (mC (.int 1)) (aa (mFn bq (aa (ab 4) af)) af)))))) (bf (eB 7 (iR1 (aa (mC (.int 2)) af)) (bf (bB 8 (m2 h9 (mFn bq (aa (ab 3) af)) (mFn aM (aa (ab 2) (aa (mC (.int 2)) af))))) (dj (mML cn (ab 5) (aa (mFn b5 (aa (cU (iR1 (aa (ab 8) af)) cTT (m2 oIx (ab 6) (mFn aM (aa (ab 2) (aa (mFn bq (aa (ab 6) af)) af))))) af)) af))))) (eB 9 (cZ (ab 5)) (eB 10 (cZ (b4 (aa (ab 9) (aa (mFn eY (aa (ab 2) (aa (ab 9) (aa (mFn bq (aa (ab 3) af)) af)))) (aa (mFn eY (aa (ab 2) (aa (ab 9) (aa (mFn bq (aa (ab 3) af)) af)))) af))))) (pP (gTp 2 (dn (gN 11) (dn (gN 12) jl))) (pV (aa (b4 (aa (mFn gg (aa (ab 3) (aa (ab 4) (aa (ab 10) af)))) (aa (mFn eI (aa (ab 3) (aa (ab 4) (aa (ab 10) af)))) af))) af)) (sIf (cOr (lW (cOf (m1 (fg "bool") (ab 12)))) (cOf (m2 oNe (ab 12) (m2 oIx (mFn iI (aa (ab 3) (aa (ab 4) (aa (ab 10) af)))) (ab 11))))) (dh (mC (.bl false))) dP)))))))))))) (dh (fc (m2 oIs (mFn gg (aa (bA (aa (bA (aa (mC (.int 0)) af)) af)) (aa (bA af) (aa (bA af) af)))) (mC (.bl true))) (m2 oIs (mFn eI (aa (bA (aa (bA (aa (mC (.int 0)) af)) af)) (aa (bA af) (aa (bA af) af)))) (mC (.bl false)))))
noncomputable def Jm:MF:=run 1 13 Fb
end
section
open L2 G
section
variable {m:Nat}{T:Nat->Nat->Nat}{S:Sto}{u:U}{st:List Nat}
noncomputable def WkS (st:List Nat) (u:U) (w:List Nat):Prop:=u = .tup (aj w) /\ ∀ x∈w,x∈st
noncomputable def DI (m:Nat) (T:Nat->Nat->Nat) (st:List Nat) (u:U):Prop := ∃ w,WkS st u w/\srt (plc T w)=aA m
noncomputable def Dh (m:Nat) (T:Nat->Nat->Nat) (st:List Nat) (u:U):Prop := ∃ w,WkS st u w/\2<=w.length/\d0 T w=0/\srt (pre T w)=aA m
theorem WkS.inj {w v:List Nat} (h:WkS st u w) (k:WkS st u v):v=w:=by
 have:=h.1.symm.trans k.1
 injection this with this
 exact (AY this).symm
theorem xS {w:List Nat} (h:WkS st u w):DI m T st u↔srt (plc T w)=aA m:=⟨fun⟨v,k,e⟩=>h.inj k▸e,fun e=>⟨w,h,e⟩⟩
theorem xJ {w:List Nat} (h:WkS st u w):Dh m T st u↔(2<=w.length/\d0 T w=0/\srt (pre T w)=aA m):=⟨fun⟨v,k,e⟩=>h.inj k▸e,fun e=>⟨w,h,e⟩⟩
theorem E6 (hs:Lt m st) (h:Thg S u) (hn : ¬ ∃ w,WkS st u w) : ∃ S',fh [tab m T,.tup (aj st),u] S=some (.bl false,S')/\Ex S S':=by
 obtain⟨S1,e1,x1⟩:=EZ (n:=m) h
 have e1':mFn d6 (aa (ab 2) (aa (mFn bq (aa (ab 0) af)) af)) [some (tab m T),some (.tup (aj st)),some u] S=_:=dg (var_eq rfl) (len_tab (var_eq rfl)) e1
 cases ha:Fy m u with
 | false=>
   rw [ha] at e1'
   exact⟨S1,cz (ρ := [some (tab m T),some (.tup (aj st)),some u]) rfl (b8 (yd e1')),x1⟩
 | true=>
   cases h with
   | tup h hl=>
     obtain⟨l,rfl,hlt⟩:=Be ha
     rw [bK] at hl
     obtain⟨S2,e2,x2⟩:=Bx (S:=S) (T:=T) (st:=st) (w:=l) (by exact ai (by assumption) (by decide)) hlt
     have:(l.all fun x=>decide (x∈st))=false:=by
      rw [Bool.eq_false_iff]
      intro z
      rw [bx] at z
      exact hn ⟨l,rfl,fun x hx=>of_decide_eq_true (z x hx)⟩
     rw [this] at e2
     exact⟨S2,e2,x2⟩
   | _=>cases ha
noncomputable def Sh (u:U):Prop := ∀ us,u = .tup us->us.length < 60
theorem Ce (g:Grp m T) (hm:m < 64) (hs:Lt m st) (h:Thg S u) (hu:Sh u) : ∃ b S',gg [tab m T,.tup (aj st),u] S=some (.bl b,S')/\Ex S S'/\(b=true↔DI m T st u):=by
 by_cases hw : ∃ w,WkS st u w
 ·obtain⟨w,hw⟩:=hw
  obtain⟨rfl,hws⟩:=id hw
  have hl:=hu _ rfl
  rw [bK] at hl
  obtain⟨S1,e1,x1⟩:=JH (S:=S) (st:=st) g (by exact ai (by assumption) (by decide)) (fun x hx=>hs x (hws x hx)) (by exact ai (by assumption) (by decide):w.length < 63)
  refine⟨_,S1,e1,x1,?_⟩
  rw [xS hw,show (w.all fun x=>decide (x∈st))=true from bx.mpr fun x hx=>decide_eq_true (hws x hx),gy,decide_eq_true_iff]
 ·obtain⟨S1,e1,x1⟩:=E6 (T:=T) hs h hw
  refine⟨false,S1,cz (ρ := [some (tab m T),some (.tup (aj st)),some u]) rfl (b8 (yd (jm (f:=fh) (var_eq rfl) (var_eq rfl) (var_eq rfl) e1))),x1,?_⟩
  exact⟨fun z=>by (cases z),fun⟨w,k,_⟩=>absurd ⟨w,k⟩ hw⟩
theorem Bb (g:Grp m T) (hm:m < 64) (hs:Lt m st) (h:Thg S u) (hu:Sh u) : ∃ b S',eI [tab m T,.tup (aj st),u] S=some (.bl b,S')/\Ex S S'/\(b=true↔Dh m T st u):=by
 by_cases hw : ∃ w,WkS st u w
 ·obtain⟨w,hw⟩:=hw
  obtain⟨rfl,hws⟩:=id hw
  have hl:=hu _ rfl
  rw [bK] at hl
  obtain⟨S1,e1,x1⟩:=Ik (S:=S) (st:=st) g (by exact ai (by assumption) (by decide)) (fun x hx=>hs x (hws x hx)) (by exact ai (by assumption) (by decide):w.length < 63)
  refine⟨_,S1,e1,x1,?_⟩
  rw [xJ hw,show (w.all fun x=>decide (x∈st))=true from bx.mpr fun x hx=>decide_eq_true (hws x hx),gy]
  simp only [aw,decide_eq_true_iff]
 ·obtain⟨S1,e1,x1⟩:=E6 (T:=T) hs h hw
  refine⟨false,S1,cz (ρ := [some (tab m T),some (.tup (aj st)),some u]) rfl (b8 (yd (jm (f:=fh) (var_eq rfl) (var_eq rfl) (var_eq rfl) e1))),x1,?_⟩
  exact⟨fun z=>by (cases z),fun⟨w,k,_⟩=>absurd ⟨w,k⟩ hw⟩
noncomputable def inS (st:List Nat):U->Bool
 | .int i=>decide (0<=i/\i.toNat∈st)
 | _=>false
theorem AN : ∀ {us:List U},us.all (inS st)=true -> ∃ w,WkS st (.tup us) w
 | [],_=>⟨[],rfl,by simp⟩
 | v::us,h=>by
   rw [bW,aw] at h
   obtain⟨w,e,hw⟩:=AN h.2
   injection e with e
   cases v with
   | int i=>
     have h1:=of_decide_eq_true h.1
     refine⟨i.toNat::w,?_,fun x hx => ?_⟩
     ·show U.tup (.int i::us) = .tup (.int ((i.toNat:Nat):Int)::aj w)
      rw [ph h1.1,e]
     ·rcases aK.mp hx with rfl | hx
      ·exact h1.2
      ·exact hw x hx
   | _=>exact absurd h.1 (by simp [inS])
theorem Dx {w:List Nat} (h : ∀ x∈w,x∈st):(aj w).all (inS st)=true:=by
 rw [bx]
 intro v hv
 obtain⟨x,hx,rfl⟩:=bI.mp hv
 exact decide_eq_true ⟨by exact kl _,by simpa using h x hx⟩
noncomputable def ffT:ME:=bA (aa (mC (.bl false)) (aa (mC (.bl false)) af))
theorem rT {ρ:Rho}:ffT ρ S=some (.tup [.bl false,.bl false],S):=rfl
noncomputable def Hu:MS:=sIf (cOr (lW (cOf (m1 (fg "int") (ab 3)))) (cOr (cOf (m1 (fg "bool") (ab 3))) (cOf (m2 fN (ab 3) (ab 1))))) (dh ffT) dP
theorem DC {a b c d e:Option U}{v:U} (h:Smp v):Hu [a,some (.tup (aj st)),b,some v,c,d,e] S=some (if inS st v then .nx else .rt (.tup [.bl false,.bl false]),[a,some (.tup (aj st)),b,some v,c,d,e],S):=by
 have v3:ab 3 [a,some (.tup (aj st)),b,some v,c,d,e] S=some (v,S):=rfl
 cases h with
 | int i=>
   have h1:lW (cOf (m1 (fg "int") (ab 3))) [a,some (.tup (aj st)),b,some (.int i),c,d,e] S=some (false,S):=rfl
   have h2:cOf (m1 (fg "bool") (ab 3)) [a,some (.tup (aj st)),b,some (.int i),c,d,e] S=some (false,S):=rfl
   have h3:=of_eq (Dr (ρ := [a,some (.tup (aj st)),b,some (.int i),c,d,e]) (S:=S) (a:=ab 3) (b:=ab 1) (l:=st) (i:=i) rfl rfl)
   have h4:=Dy h1 (Dy h2 h3)
   by_cases z:0<=i/\i.toNat∈st
   ·rw [decide_eq_true z] at h4
    exact (mj h4).trans (by simp [inS,z,dP])
   ·rw [decide_eq_false z] at h4
    exact (kI h4).trans ((b8 rT).trans (by simp [inS,z]))
 | bl x=>
   have h1:lW (cOf (m1 (fg "int") (ab 3))) [a,some (.tup (aj st)),b,some (.bl x),c,d,e] S=some (false,S):=rfl
   have h2:cOf (m1 (fg "bool") (ab 3)) [a,some (.tup (aj st)),b,some (.bl x),c,d,e] S=some (true,S):=rfl
   exact (kI (Dy h1 (Df h2))).trans (b8 rT)
 | non=>exact (kI (Df (show lW (cOf (m1 (fg "int") (ab 3))) _ _=some (true,S) from rfl))).trans (b8 rT)
 | str x=>exact (kI (Df (show lW (cOf (m1 (fg "int") (ab 3))) _ _=some (true,S) from rfl))).trans (b8 rT)
 | tup us=>exact (kI (Df (show lW (cOf (m1 (fg "int") (ab 3))) _ _=some (true,S) from rfl))).trans (b8 rT)
theorem GT (g:Grp m T) (hm:m < 60) (hs:Lt m st) (h:Thg S u) (hu:Sh u) : ∃ a b S',iI [tab m T,.tup (aj st),u] S=some (.tup [.bl a,.bl b],S')/\Ex S S'/\(a=true↔DI m T st u)/\(b=true↔Dh m T st u):=by
 have h1:=yt (ρ := [some (tab m T),some (.tup (aj st)),some u,none,none,none,none]) (S:=S) (a:=ab 2) (var_eq rfl) h
 have no:(¬ ∃ w,WkS st u w)->(false=true↔DI m T st u)/\(false=true↔Dh m T st u):=fun hn=>⟨⟨fun z=>(by cases z),fun⟨w,k,_⟩=>absurd ⟨w,k⟩ hn⟩,⟨fun z=>(by cases z),fun⟨w,k,_⟩=>absurd ⟨w,k⟩ hn⟩⟩
 have c1:=not_eq (of_eq h1)
 cases ht:isTup u with
 | false=>
   rw [ht] at c1
   refine⟨false,false,S,cz (ρ := [some (tab m T),some (.tup (aj st)),some u,none,none,none,none]) rfl (Bu ((kI c1).trans (b8 rT))),Ex.refl _,no fun⟨w,k,_⟩=>by rw [k] at ht;cases ht⟩
 | true=>
   rw [ht] at c1
   cases h with
   | tup h hl=>
     rename_i us
     obtain⟨ρ1,S1,e1,⟨a3,rfl⟩,rfl⟩:=rY (i:=3) (b:=Hu) (v := .tup [.bl false,.bl false]) (inS st) (fun ρ S'=>(∃ a,ρ = [some (tab m T),some (.tup (aj st)),some (.tup us),a,none,none,none])/\S'=S) us [some (tab m T),some (.tup (aj st)),some (.tup us),none,none,none,none] S ⟨⟨_,rfl⟩,rfl⟩ (by
      rintro v ρ S' hv ⟨⟨a,rfl⟩,rfl⟩
      exact⟨_,_,DC (h v hv),⟨_,rfl⟩,rfl⟩)
     have e1':eB 3 (cZ (ab 2)) Hu [some (tab m T),some (.tup (aj st)),some (.tup us),none,none,none,none] S1=_:=e1
     cases ha:us.all (inS st) with
     | false=>
       rw [ha] at e1'
       refine⟨false,false,S1,cz (ρ := [some (tab m T),some (.tup (aj st)),some (.tup us),a3,none,none,none]) rfl ((aY ((mj c1).trans rfl)).trans (Bu e1')),Ex.refl _,no ?_⟩
       rintro ⟨w,k,hw⟩
       injection k with k
       rw [k,Dx hw] at ha
       cases ha
     | true=>
       rw [ha] at e1'
       obtain⟨w,k⟩:=AN ha
       obtain⟨k1,hws⟩:=id k
       injection k1 with k1
       subst k1
       have hw:Lt m w:=fun x hx=>hs x (hws x hx)
       have hl2:=hu _ rfl
       rw [bK] at hl2
       obtain⟨ρ2,S2,e2,⟨x,rfl⟩,q1,q2⟩:=Aw (i:=3) (b:=dj (mML cn (ab 4) (aa (m2 oIx (m2 oIx (ab 0) (m2 oIx (ab 4) (m1 eK (mC (.int 1))))) (ab 3)) af))) (e:=ab 2)
        (ρ := [some (tab m T),some (.tup (aj st)),some (.tup (aj w)),a3,some (.ref S1.length),none,none]) (S:=S1 ++ [Cell.lst [.int 0]]) (S1:=S1 ++ [Cell.lst [.int 0]]) (us:=aj w) (var_eq rfl)
        (fun k ρ S'=>(∃ x,ρ = [some (tab m T),some (.tup (aj st)),some (.tup (aj w)),x,some (.ref S1.length),none,none])/\Ex S1 S'/\S'[S1.length]? = some (Cell.lst (aj ((aA (k+1)).map fun i=>d0 T (w.take i)))))
        ⟨⟨_,rfl⟩,Ex.push _ _,by rw [bF];simp [aj,d0]⟩
        (by
         rintro k u ρ S' hu ⟨⟨x,rfl⟩,q1,q2⟩
         obtain⟨y,hy,rfl⟩:=wo hu
         have hym:y < m:=hw y (dG hy)
         have hpm:d0 T (w.take k) < m:=AM g (hw.tk k)
         have hlast:atI (aj ((aA (k+1)).map fun i=>d0 T (w.take i))) (-1)=some (.int (d0 T (w.take k))):=by
          unfold aj
          rw [cx]
          exact uT
         have ev:m2 oIx (m2 oIx (ab 0) (m2 oIx (ab 4) (m1 eK (mC (.int 1))))) (ab 3) [some (tab m T),some (.tup (aj st)),some (.tup (aj w)),some (.int y),some (.ref S1.length),none,none] S'=some (.int (T (d0 T (w.take k)) y),S'):=
          mU hym (m5 hpm (var_eq rfl) (rh (var_eq rfl) zT q2 hlast)) (var_eq rfl)
         have hkl:k < w.length:=(ag.mp hy).1
         refine⟨_,_,append_eq (var_eq rfl) ev q2 q2 (by simp [aj];unfold big;exact aJ (by assumption) (ai (by assumption) (by decide))),⟨_,rfl⟩,q1.set (aq _),?_⟩
         rw [aL (ag.mp q2).1]
         rw [dO (n:=k+1),cH]
         simp [aj,rS hy])
       rw [bK] at q2
       have q2:S2[S1.length]? = some (Cell.lst (aj (plc T w))):=q2
       have lp:=oe g hw
       have hdd:(ddN (plc T w)).length<=m:=xb m _ (AE _) fun x hx=>lp x (tS.mp hx)
       have e3:=Lz (ρ := [some (tab m T),some (.tup (aj st)),some (.tup (aj w)),x,some (.ref S1.length),some (.int (m:Nat)),none]) (S:=S2) (a:=ab 4) (var_eq rfl) q2 (by rw [nv];exact aJ (by assumption) (by decide)) (by exact aJ (by assumption) (ai (by assumption) (by decide)))
       have e4:fo (iR1 (aa (ab 5) af)) [some (tab m T),some (.tup (aj st)),some (.tup (aj w)),x,some (.ref S1.length),some (.int (m:Nat)),none] (S2 ++ [Cell.lst (aj (srt (ddN (plc T w))))])=some (.ref (S2 ++ [Cell.lst (aj (srt (ddN (plc T w))))]).length,S2 ++ [Cell.lst (aj (srt (ddN (plc T w))))] ++ [Cell.lst (aj (aA m))]):=by
        simp only [fo,lF (ρ := [some (tab m T),some (.tup (aj st)),some (.tup (aj w)),x,some (.ref S1.length),some (.int (m:Nat)),none]) (a:=ab 5) (n:=m) (var_eq rfl) (by unfold big;exact ai (by assumption) (by decide)),aD]
        rw [if_pos (by simp [bg];unfold big;omega)]
        simp [bg,aj]
       have e5:=B7 e3 e4 ((Ex.push _ _).some (bF _ _)) (bF _ _)
       have x5:Ex S2 (S2 ++ [Cell.lst (aj (srt (ddN (plc T w))))] ++ [Cell.lst (aj (aA m))]):=(Ex.push _ _).trans (Ex.push _ _)
       generalize S2 ++ [Cell.lst (aj (srt (ddN (plc T w))))] ++ [Cell.lst (aj (aA m))]=S5 at e5 x5
       have q5:=x5.some q2
       generalize hE:decide (srt (ddN (plc T w))=aA m)=E at e5
       have ln:mFn bq (aa (ab 2) af) [some (tab m T),some (.tup (aj st)),some (.tup (aj w)),x,some (.ref S1.length),some (.int (m:Nat)),some (.bl E)] S5=some (.int (w.length:Nat),S5):=by
        have:=oP (ρ := [some (tab m T),some (.tup (aj st)),some (.tup (aj w)),x,some (.ref S1.length),some (.int (m:Nat)),some (.bl E)]) (S:=S5) (a:=ab 2) (us:=aj w) (var_eq rfl)
        rwa [bK] at this
       have a1:fc (ab 6) (m2 oEq (mFn bq (aa (ab 2) af)) (m2 h9 (ab 5) (mC (.int 1)))) [some (tab m T),some (.tup (aj st)),some (.tup (aj w)),x,some (.ref S1.length),some (.int (m:Nat)),some (.bl E)] S5=some (.bl (E&&decide ((w.length:Int)=(m:Int) - 1)),S5):=
        iR (var_eq rfl) (fun _=>(xg ln (op2 (f:=h9) (var_eq (u := .int (m:Nat)) rfl) (c_i (z:=1)) rfl)).trans rfl) (fun _=>rfl)
       have hla:atI (aj (plc T w)) (-1)=some (.int (d0 T w:Nat)):=uU trivial
       have a2:fc (ab 6) (fc (mCh oEq oGt (mFn bq (aa (ab 2) af)) (ab 5) (mC (.int 1))) (m2 oEq (m2 oIx (ab 4) (m1 eK (mC (.int 1)))) (mC (.int 0)))) [some (tab m T),some (.tup (aj st)),some (.tup (aj w)),x,some (.ref S1.length),some (.int (m:Nat)),some (.bl E)] S5=some (.bl (E&&((decide ((w.length:Int)=(m:Int))&&decide (1 < m))&&decide (d0 T w=0))),S5):=by
        refine iR (var_eq rfl) (fun _=>iR ?_ (fun _=>DR (y:=0) (rh (var_eq rfl) zT q5 hla) c_i) (fun _=>rfl)) (fun _=>rfl)
        have v5:ab 5 [some (tab m T),some (.tup (aj st)),some (.tup (aj w)),x,some (.ref S1.length),some (.int (m:Nat)),some (.bl E)] S5=some (.int (m:Nat),S5):=rfl
        have c1:mC (.int 1) [some (tab m T),some (.tup (aj st)),some (.tup (aj w)),x,some (.ref S1.length),some (.int (m:Nat)),some (.bl E)] S5=some (.int 1,S5):=rfl
        have eqq:oEq (.int (w.length:Nat)) (.int (m:Nat)) S5=some (.bl (decide ((w.length:Int)=(m:Int))),S5):=by
         rfl
        simp only [mCh,ln,v5,aD,eqq]
        cases hd:decide ((w.length:Int)=(m:Int)) with
        | false=>simp
        | true=>
          simp only [c1,aD]
          show some (U.bl (decide ((1:Int) < (m:Int))),S5)=_
          congr 3
          rw [gy,decide_eq_decide]
          omega
       refine⟨_,_,S5,cz (ρ := [some (tab m T),some (.tup (aj st)),some (.tup (aj w)),x,some (.ref S1.length),some (.int (m:Nat)),some (.bl E)]) rfl ((aY ((mj c1).trans rfl)).trans ((aY e1').trans ((aY (bR (uP (c_i (z:=0))))).trans ((aY e2).trans ((aY (bR (len_tab (var_eq rfl)))).trans ((aY (bR e5)).trans (b8 (pL a1 a2)))))))),q1.trans x5,?_,?_⟩
       ·rw [xS k,<- hE,<- Du g hw,decide_eq_true_iff]
       ·rw [xJ k,<- hE,<- zr g hw]
        simp only [aw,decide_eq_true_iff]
   | _=>cases ht
noncomputable def Tq (n:Nat) (S:Sto) (u:U):Prop:=Tn n S u/\Sh u
theorem Tq.ex {n:Nat}{S':Sto} (h:Tq n S u) (x:Ex S S'):Tq n S' u:=⟨h.1.ex x,h.2⟩
theorem Tq.stp {n:Nat}{S':Sto} (h:Tq n S u) (x:Stp n S S'):Tq n S' u:=⟨h.1.stp x,h.2⟩
theorem yR {n k:Nat} (h:k < n):L2.ixN n (k:Int)=some k:=by simp [L2.ixN,h]
theorem nz {a0 a1 a2 a5 a6:Option U}{l:List Nat}{p q r:Nat} (hr:S[r]? = some (Cell.lst (aj l))) : ∃ l' S',sIf (j8 (cOf (m2 oLt (ab 3) (mFn bq (aa (ab 1) af)))) (cOf (m2 oLt (ab 4) (mFn bq (aa (ab 1) af))))) (p6 (bA (aa (m2 oIx (ab 7) (ab 4)) (aa (m2 oIx (ab 7) (ab 3)) af))) (gTp 2 (dn (gSb (ab 7) (ab 3)) (dn (gSb (ab 7) (ab 4)) jl)))) dP [a0,some (.tup (aj l)),a2,some (.int (p:Nat)),some (.int (q:Nat)),a5,a6,some (.ref r)] S=some (.nx,[a0,some (.tup (aj l)),a2,some (.int (p:Nat)),some (.int (q:Nat)),a5,a6,some (.ref r)],S')/\S'[r]? = some (Cell.lst (aj l'))/\l'.length=l.length/\(∀ b,b<=r -> ∀ S0,S0.length=b->Ex S0 S->Ex S0 S'):=by
 have ln : ∀ S',mFn bq (aa (ab 1) af) [a0,some (.tup (aj l)),a2,some (.int (p:Nat)),some (.int (q:Nat)),a5,a6,some (.ref r)] S'=some (.int (l.length:Nat),S'):=fun S'=>by
  have:=oP (ρ := [a0,some (.tup (aj l)),a2,some (.int (p:Nat)),some (.int (q:Nat)),a5,a6,some (.ref r)]) (S:=S') (a:=ab 1) (us:=aj l) (var_eq rfl)
  rwa [bK] at this
 have c1:cOf (m2 oLt (ab 3) (mFn bq (aa (ab 1) af))) [a0,some (.tup (aj l)),a2,some (.int (p:Nat)),some (.int (q:Nat)),a5,a6,some (.ref r)] S=some (decide ((p:Int) < (l.length:Int)),S):=of_eq (op2 (f:=oLt) (var_eq (u := .int (p:Nat)) rfl) (ln S) rfl)
 have c2:cOf (m2 oLt (ab 4) (mFn bq (aa (ab 1) af))) [a0,some (.tup (aj l)),a2,some (.int (p:Nat)),some (.int (q:Nat)),a5,a6,some (.ref r)] S=some (decide ((q:Int) < (l.length:Int)),S):=of_eq (op2 (f:=oLt) (var_eq (u := .int (q:Nat)) rfl) (ln S) rfl)
 by_cases hp:p < l.length
 ·by_cases hq:q < l.length
  ·have c:j8 (cOf (m2 oLt (ab 3) (mFn bq (aa (ab 1) af)))) (cOf (m2 oLt (ab 4) (mFn bq (aa (ab 1) af)))) [a0,some (.tup (aj l)),a2,some (.int (p:Nat)),some (.int (q:Nat)),a5,a6,some (.ref r)] S=some (true,S):=by
    rw [decide_eq_true (by omega)] at c1 c2
    simp only [j8,c1,c2,aD,if_true]
   have gp:(aj l)[p]? = some (.int (l[p]:Nat)):=by simp [aj,hp]
   have gq:(aj l)[q]? = some (.int (l[q]:Nat)):=by simp [aj,hq]
   have e1:bA (aa (m2 oIx (ab 7) (ab 4)) (aa (m2 oIx (ab 7) (ab 3)) af)) [a0,some (.tup (aj l)),a2,some (.int (p:Nat)),some (.int (q:Nat)),a5,a6,some (.ref r)] S=some (.tup [.int (l[q]:Nat),.int (l[p]:Nat)],S):=pL (rh (var_eq rfl) (var_eq rfl) hr (kc gq)) (rh (var_eq rfl) (var_eq rfl) hr (kc gp))
   have hrl:r < S.length:=(ag.mp hr).1
   have ip:L2.ixN (aj l).length (p:Int)=some p:=yR (by rw [bK];exact hp)
   have hl1:(aj l).set p (.int (l[q]:Nat))=aj (l.set p l[q]):=by simp [aj,List.map_set]
   have iq:L2.ixN (aj (l.set p l[q])).length (q:Int)=some q:=yR (by rw [bK,dN];exact hq)
   have hl2:(aj (l.set p l[q])).set q (.int (l[p]:Nat))=aj ((l.set p l[q]).set q l[p]):=by simp [aj,List.map_set]
   have s1:(S.set r (.lst (aj (l.set p l[q]))))[r]? = some (Cell.lst (aj (l.set p l[q]))):=aL hrl
   have e2:gTp 2 (dn (gSb (ab 7) (ab 3)) (dn (gSb (ab 7) (ab 4)) jl)) (.tup [.int (l[q]:Nat),.int (l[p]:Nat)]) [a0,some (.tup (aj l)),a2,some (.int (p:Nat)),some (.int (q:Nat)),a5,a6,some (.ref r)] S=some ([a0,some (.tup (aj l)),a2,some (.int (p:Nat)),some (.int (q:Nat)),a5,a6,some (.ref r)],(S.set r (.lst (aj (l.set p l[q])))).set r (.lst (aj ((l.set p l[q]).set q l[p])))):=by
    have g1:gSb (ab 7) (ab 3) (.int (l[q]:Nat)) [a0,some (.tup (aj l)),a2,some (.int (p:Nat)),some (.int (q:Nat)),a5,a6,some (.ref r)] S=some ([a0,some (.tup (aj l)),a2,some (.int (p:Nat)),some (.int (q:Nat)),a5,a6,some (.ref r)],S.set r (.lst (aj (l.set p l[q])))):=by
     have v7 : ∀ S',ab 7 [a0,some (.tup (aj l)),a2,some (.int (p:Nat)),some (.int (q:Nat)),a5,a6,some (.ref r)] S'=some (.ref r,S'):=fun _=>rfl
     have v3 : ∀ S',ab 3 [a0,some (.tup (aj l)),a2,some (.int (p:Nat)),some (.int (q:Nat)),a5,a6,some (.ref r)] S'=some (.int (p:Nat),S'):=fun _=>rfl
     simp only [gSb,v7,v3,aD,hr,ip,aN,hl1]
    have g2:gSb (ab 7) (ab 4) (.int (l[p]:Nat)) [a0,some (.tup (aj l)),a2,some (.int (p:Nat)),some (.int (q:Nat)),a5,a6,some (.ref r)] (S.set r (.lst (aj (l.set p l[q]))))=some ([a0,some (.tup (aj l)),a2,some (.int (p:Nat)),some (.int (q:Nat)),a5,a6,some (.ref r)],(S.set r (.lst (aj (l.set p l[q])))).set r (.lst (aj ((l.set p l[q]).set q l[p])))):=by
     have v7 : ∀ S',ab 7 [a0,some (.tup (aj l)),a2,some (.int (p:Nat)),some (.int (q:Nat)),a5,a6,some (.ref r)] S'=some (.ref r,S'):=fun _=>rfl
     have v4 : ∀ S',ab 4 [a0,some (.tup (aj l)),a2,some (.int (p:Nat)),some (.int (q:Nat)),a5,a6,some (.ref r)] S'=some (.int (q:Nat),S'):=fun _=>rfl
     simp only [gSb,v7,v4,aD,s1,iq,aN,hl2]
    simp only [gTp,dn,jl,g1,g2,ah,bo,bT,if_true]
   refine⟨(l.set p l[q]).set q l[p],(S.set r (.lst (aj (l.set p l[q])))).set r (.lst (aj ((l.set p l[q]).set q l[p]))),(kI c).trans (by simp only [p6,e1,aD,e2,aN]),aL (by rw [dN];exact hrl),by simp,fun b hb S0 h0 x=>(x.set (by omega)).set (by omega)⟩
  ·have c:j8 (cOf (m2 oLt (ab 3) (mFn bq (aa (ab 1) af)))) (cOf (m2 oLt (ab 4) (mFn bq (aa (ab 1) af)))) [a0,some (.tup (aj l)),a2,some (.int (p:Nat)),some (.int (q:Nat)),a5,a6,some (.ref r)] S=some (false,S):=by
    rw [decide_eq_true (by omega)] at c1
    rw [decide_eq_false (by omega)] at c2
    simp only [j8,c1,c2,aD,if_true]
   exact⟨l,S,(mj c).trans rfl,hr,rfl,fun _ _ _ _ x=>x⟩
 ·have c:j8 (cOf (m2 oLt (ab 3) (mFn bq (aa (ab 1) af)))) (cOf (m2 oLt (ab 4) (mFn bq (aa (ab 1) af)))) [a0,some (.tup (aj l)),a2,some (.int (p:Nat)),some (.int (q:Nat)),a5,a6,some (.ref r)] S=some (false,S):=by
   rw [decide_eq_false (by omega)] at c1
   simp only [j8,c1,aD];rfl
  exact⟨l,S,(mj c).trans rfl,hr,rfl,fun _ _ _ _ x=>x⟩
theorem AV {n:Nat}{l:List Nat} (h:jx n S) (hl:l.length<=12) : ∃ u S',eY [.ref n,.tup (aj l),.int (m:Nat)] S=some (u,S')/\Stp n S S'/\Tq n S' u:=by
 have hn:=h.lt
 have el : ∀ {a b c d e:Option U} (S:Sto),m2 bC (mFn bq (aa (ab 1) af)) (mC (.int 1)) [some (.ref n),some (.tup (aj l)),some (.int (m:Nat)),a,b,c,d,e] S=some (.int (l.length+1:Nat),S):=fun {a b c d e} S=>by
  have:=add_n (ρ := [some (.ref n),some (.tup (aj l)),some (.int (m:Nat)),a,b,c,d,e]) (S:=S) (x:=(aj l).length) (y:=1) (a:=mFn bq (aa (ab 1) af)) (b:=mC (.int 1)) (oP (var_eq rfl)) c_i
  rwa [bK] at this
 obtain⟨k,S1,f1,hk,st1⟩:=fq (m:=l.length+1) h (by omega) (by omega)
 obtain⟨q,S2,f2,hq,st2⟩:=fq (m:=l.length+1) st1.st (by exact Nat.zero_lt_of_lt (by assumption)) (by omega)
 have h2:=st2.st.lt
 have e2:=ml (mc (a:=mC (.bl true)) rfl (mc (a:=mC (.bl false)) rfl (mc (a:=mC .non) rfl (mc (a:=mC (.str "1")) rfl (mc (c_i (z:=0)) (mc (a:=ab 2) (ρ := [some (.ref n),some (.tup (aj l)),some (.int (m:Nat)),some (.int (k:Nat)),some (.int (q:Nat)),none,none,none]) (S:=S2) (x := .int (m:Nat)) (var_eq rfl) (mc zT (mc (c_i (z:=1)) (mc (c_i (z:=2)) (mc (a:=m2 h9 (ab 2) (mC (.int 1))) (op2 (f:=h9) (var_eq (u := .int (m:Nat)) rfl) (c_i (z:=1)) rfl) (mc (s9 (c_i (z:=1))) (show af _ _=_ from rfl)))))))))))) (by simp)
 have all : ∀ v∈([.bl true,.bl false,.non,.str "1",.int 0,.int (m:Nat),.int (-1),.int 1,.int 2,.int ((m:Nat) - 1),.tup [.int 1]]:List U),Smp v:=by
  intro v hv
  simp only [aK,dD,_root_.or_false] at hv
  rcases hv with rfl | rfl | rfl | rfl | rfl | rfl | rfl | rfl | rfl | rfl | rfl
  ·exact .bl _
  ·exact .bl _
  ·exact .non
  ·exact .str _
  ·exact .int _
  ·exact .int _
  ·exact .int _
  ·exact .int _
  ·exact .int _
  ·exact .int _
  ·exact .tup _
 generalize hits:([.bl true,.bl false,.non,.str "1",.int 0,.int (m:Nat),.int (-1),.int 1,.int 2,.int ((m:Nat) - 1),.tup [.int 1]]:List U)=its at e2 all
 have hlen:its.length=11:=by rw [<- hits];rfl
 have st2':Stp n S2 (S2 ++ [Cell.lst its]):=Stp.ex st2.st (Ex.push _ _)
 obtain⟨r,S3,f3,hr,st3⟩:=fq (m:=11) st2'.st (by decide) (by decide)
 have g3:S3[S2.length]? = some (Cell.lst its):=st3.some (by exact bL (by assumption)) (bF _ _)
 have hi:its[r]? = some its[r]:=aX (by omega)
 have e3:m2 oIx (b4 (aa (mC (.bl true)) (aa (mC (.bl false)) (aa (mC .non) (aa (mC (.str "1")) (aa (mC (.int 0)) (aa (ab 2) (aa (m1 eK (mC (.int 1))) (aa (mC (.int 1)) (aa (mC (.int 2)) (aa (m2 h9 (ab 2) (mC (.int 1))) (aa (bA (aa (mC (.int 1)) af)) af)))))))))))) (mFn aM (aa (ab 0) (aa (mC (.int 11)) af))) [some (.ref n),some (.tup (aj l)),some (.int (m:Nat)),some (.int (k:Nat)),some (.int (q:Nat)),none,none,none] S2=some (its[r],S3):=rh e2 (dg (var_eq rfl) c_i f3) g3 (kc hi)
 have hod:Smp its[r]:=all _ (dW (by omega))
 generalize its[r]=od at e3 hod
 have h3:=st3.st.lt
 have s1 : ∀ {a b:Option U} (S':Sto),mSl (ab 1) none (some (ab 3)) [some (.ref n),some (.tup (aj l)),some (.int (m:Nat)),some (.int (k:Nat)),some (.int (q:Nat)),some od,a,b] S'=some (.tup ((aj l).take k),S'):=fun {a b} S'=>by
  have v1:ab 1 [some (.ref n),some (.tup (aj l)),some (.int (m:Nat)),some (.int (k:Nat)),some (.int (q:Nat)),some od,a,b] S'=some (.tup (aj l),S'):=rfl
  have v3:ab 3 [some (.ref n),some (.tup (aj l)),some (.int (m:Nat)),some (.int (k:Nat)),some (.int (q:Nat)),some od,a,b] S'=some (.int (k:Nat),S'):=rfl
  simp only [mSl,v1,aD,mK,v3]
  rw [sU]
 have s2 : ∀ {a b:Option U} (S':Sto),mSl (ab 1) (some (ab 3)) none [some (.ref n),some (.tup (aj l)),some (.int (m:Nat)),some (.int (k:Nat)),some (.int (q:Nat)),some od,a,b] S'=some (.tup ((aj l).drop k),S'):=fun {a b} S'=>by
  have v1:ab 1 [some (.ref n),some (.tup (aj l)),some (.int (m:Nat)),some (.int (k:Nat)),some (.int (q:Nat)),some od,a,b] S'=some (.tup (aj l),S'):=rfl
  have v3:ab 3 [some (.ref n),some (.tup (aj l)),some (.int (m:Nat)),some (.int (k:Nat)),some (.int (q:Nat)),some od,a,b] S'=some (.int (k:Nat),S'):=rfl
  simp only [mSl,v1,aD,mK,v3]
  rw [se]
 have s3 : ∀ {a b:Option U} (S':Sto),mSl (ab 1) (some (m2 bC (ab 3) (mC (.int 1)))) none [some (.ref n),some (.tup (aj l)),some (.int (m:Nat)),some (.int (k:Nat)),some (.int (q:Nat)),some od,a,b] S'=some (.tup ((aj l).drop (k+1)),S'):=fun {a b} S'=>by
  have v1:ab 1 [some (.ref n),some (.tup (aj l)),some (.int (m:Nat)),some (.int (k:Nat)),some (.int (q:Nat)),some od,a,b] S'=some (.tup (aj l),S'):=rfl
  have v3:m2 bC (ab 3) (mC (.int 1)) [some (.ref n),some (.tup (aj l)),some (.int (m:Nat)),some (.int (k:Nat)),some (.int (q:Nat)),some od,a,b] S'=some (.int ((k+1:Nat):Int),S'):=rfl
  simp only [mSl,v1,aD,mK,v3]
  rw [se]
 have s4 : ∀ {a b:Option U} (S':Sto),mSl (ab 1) none (some (mC (.int 1))) [some (.ref n),some (.tup (aj l)),some (.int (m:Nat)),some (.int (k:Nat)),some (.int (q:Nat)),some od,a,b] S'=some (.tup ((aj l).take 1),S'):=fun {a b} S'=>by
  have v1:ab 1 [some (.ref n),some (.tup (aj l)),some (.int (m:Nat)),some (.int (k:Nat)),some (.int (q:Nat)),some od,a,b] S'=some (.tup (aj l),S'):=rfl
  have v3:mC (.int 1) [some (.ref n),some (.tup (aj l)),some (.int (m:Nat)),some (.int (k:Nat)),some (.int (q:Nat)),some od,a,b] S'=some (.int ((1:Nat):Int),S'):=rfl
  simp only [mSl,v1,aD,mK,v3]
  rw [sU]
 have s5 : ∀ {a b:Option U} (S':Sto),∃ us,mSl (ab 1) none (some (m1 eK (mC (.int 1)))) [some (.ref n),some (.tup (aj l)),some (.int (m:Nat)),some (.int (k:Nat)),some (.int (q:Nat)),some od,a,b] S'=some (.tup us,S')/\us=cut (aj l) none (some (-1)):=fun {a b} S'=>⟨_,rfl,rfl⟩
 have hnl:=bK l
 have lt1:((aj l).take k).length<=12:=by rw [cg];omega
 have lt2:((aj l).drop k).length<=12:=by rw [eO];omega
 have lt3:((aj l).drop (k+1)).length<=12:=by rw [eO];omega
 have lt4:((aj l).take 1).length<=12:=by rw [cg];omega
 have ss : ∀ v∈aj l,Smp v:=fun v hv=>by obtain⟨x,_,rfl⟩:=bI.mp hv;exact .int _
 have t1 : ∀ v∈(aj l).take k,Smp v:=fun v hv=>ss v (eA hv)
 have t2 : ∀ v∈(aj l).drop k,Smp v:=fun v hv=>ss v (oa hv)
 have t3 : ∀ v∈(aj l).drop (k+1),Smp v:=fun v hv=>ss v (oa hv)
 have t4 : ∀ v∈(aj l).take 1,Smp v:=fun v hv=>ss v (eA hv)
 have hcut:(∀ v∈cut (aj l) none (some (-1)),Smp v)/\(cut (aj l) none (some (-1))).length<=12:=by
  unfold cut
  refine⟨fun v hv=>ss v (oa (eA hv)),?_⟩
  rw [cg,eO];omega
 have o1 : ∀ v ∈ [od],Smp v:=fun v hv=>by cases aW.mp hv;exact hod
 have ap : ∀ {a b:List U},(∀ v∈a,Smp v)->(∀ v∈b,Smp v) -> ∀ v∈a++b,Smp v:=fun {a b} ha hb v hv=>(bS.mp hv).elim (ha v) (hb v)
 have tq : ∀ {S4:Sto}{us:List U},(∀ v∈us,Smp v)->us.length < 60->Tq n S4 (.tup us):=fun h hl=>⟨⟨.tup h (by exact ai (by assumption) (by decide)),fun z=>by cases z⟩,fun us e=>by injection e with e;rw [<- e];exact hl⟩
 have e5:=ml (mc (qr (s1 (a:=none) (b:=none) S3) (s3 S3) (by omega)) (mc (qr (qr (s1 S3) (s9 (a:=ab 5) (u:=od) (var_eq rfl)) (by simp;omega)) (s2 S3) (by simp only [aI,bo,bT];omega)) (mc (qr (qr (s1 S3) (s9 (a:=ab 5) (u:=od) (var_eq rfl)) (by simp;omega)) (s3 S3) (by simp only [aI,bo,bT];omega)) (show af _ _=_ from rfl)))) (by simp)
 generalize hX:([.tup ((aj l).take k++(aj l).drop (k+1)),.tup ((aj l).take k ++ [od]++(aj l).drop k),.tup ((aj l).take k ++ [od]++(aj l).drop (k+1))]:List U)=X at e5
 have lX:X.length=3:=by rw [<- hX];rfl
 obtain⟨uc,e6c,huc⟩:=s5 (a:=some (.ref S3.length)) (b:=none) (S3 ++ [Cell.lst X] ++ [Cell.lst (aj l)])
 have e6:=ml (mc (qr (s2 (a:=some (.ref S3.length)) (b:=none) (S3 ++ [Cell.lst X])) (s1 _) (by omega)) (mc (a:=m1 lh (ab 1)) (x := .tup (aj l).reverse) rfl (mc (qr (a:=ab 1) (xs:=aj l) (var_eq rfl) (s4 _) (by omega)) (mc (a:=mFn mB (aa (ab 1) af)) (iU (f:=mB) (var_eq (u := .tup (aj l)) rfl) (show mB [.tup (aj l)] (S3 ++ [Cell.lst X])=some (.ref (S3 ++ [Cell.lst X]).length,S3 ++ [Cell.lst X] ++ [.lst (aj l)]) from rfl)) (mc (a:=mC .non) rfl (mc (s9 (a:=ab 1) (u := .tup (aj l)) (var_eq rfl)) (mc e6c (show af _ _=_ from rfl)))))))) (by simp)
 generalize hY:([.tup ((aj l).drop k++(aj l).take k),.tup (aj l).reverse,.tup (aj l++(aj l).take 1),.ref (S3 ++ [Cell.lst X]).length,.non,.tup [.tup (aj l)],.tup uc]:List U)=Y at e6
 have lY:Y.length=7:=by rw [<- hY];rfl
 have gX:(S3 ++ [Cell.lst X] ++ [Cell.lst (aj l)] ++ [Cell.lst Y])[S3.length]? = some (Cell.lst X):=((Ex.push _ _).trans (Ex.push _ _)).some (bF _ _)
 have gW:(S3 ++ [Cell.lst X] ++ [Cell.lst (aj l)] ++ [Cell.lst Y])[(S3 ++ [Cell.lst X]).length]? = some (Cell.lst (aj l)):=(Ex.push _ _).some (bF _ _)
 have gY:(S3 ++ [Cell.lst X] ++ [Cell.lst (aj l)] ++ [Cell.lst Y])[(S3 ++ [Cell.lst X] ++ [Cell.lst (aj l)]).length]? = some (Cell.lst Y):=bF _ _
 have x4:Ex S3 (S3 ++ [Cell.lst X] ++ [Cell.lst (aj l)] ++ [Cell.lst Y]):=((Ex.push _ _).trans (Ex.push _ _)).trans (Ex.push _ _)
 have e7:=qc (ρ := [some (.ref n),some (.tup (aj l)),some (.int (m:Nat)),some (.int (k:Nat)),some (.int (q:Nat)),some od,some (.ref S3.length),none]) (S:=S3 ++ [Cell.lst X]) (a:=ab 6) (var_eq rfl) e6 gX gY (by omega)
 have hrW:(S3 ++ [Cell.lst X]).length≠n:=by simp;omega
 generalize (S3 ++ [Cell.lst X]).length=rW at gW hrW hY
 generalize S3 ++ [Cell.lst X] ++ [Cell.lst (aj l)] ++ [Cell.lst Y]=S4 at e7 gW x4
 have allT : ∀ v∈X++Y,Tq n S4 v:=by
  intro v hv
  rcases bS.mp hv with hv | hv
  ·rw [<- hX] at hv
   simp only [aK,dD,_root_.or_false] at hv
   rcases hv with rfl | rfl | rfl
   ·exact tq (ap t1 t3) (by simp only [aI];omega)
   ·exact tq (ap (ap t1 o1) t2) (by simp only [aI,bo,bT];omega)
   ·exact tq (ap (ap t1 o1) t3) (by simp only [aI,bo,bT];omega)
  ·rw [<- hY] at hv
   simp only [aK,dD,_root_.or_false] at hv
   rcases hv with rfl | rfl | rfl | rfl | rfl | rfl | rfl
   ·exact tq (ap t2 t1) (by simp only [aI];omega)
   ·exact tq (fun v hv=>ss v (sR.mp hv)) (by rw [dR];omega)
   ·exact tq (ap ss t4) (by simp only [aI];omega)
   ·exact⟨⟨.lst gW,fun z=>by injection z with z;exact hrW z⟩,fun us e=>by cases e⟩
   ·exact⟨⟨.non,fun z=>by cases z⟩,fun us e=>by cases e⟩
   ·exact tq (fun w hw=>by cases aW.mp hw;exact .tup _) (by simp)
   ·rw [huc];exact tq hcut.1 (by omega)
 have hlZ:(X++Y).length=10:=by rw [aI,lX,lY]
 generalize X++Y=Z at e7 allT hlZ
 have x4':=x4.trans (Ex.push S4 (Cell.lst Z))
 have h4:n < S4.length:=ai h3 x4.len
 obtain⟨l',S6,e8,g8,l8,k8⟩:=nz (S:=S4 ++ [Cell.lst Z] ++ [Cell.lst (aj l)]) (l:=l) (p:=k) (q:=q) (r:=(S4 ++ [Cell.lst Z]).length) (a0:=some (.ref n)) (a1:=none) (a2:=some (.int (m:Nat))) (a5:=some od) (a6:=some (.ref S4.length)) (bF _ _)
 have x6:Ex (S4 ++ [Cell.lst Z]) S6:=k8 _ (aq _) _ rfl (Ex.push _ _)
 have g6:S6[S4.length]? = some (Cell.lst Z):=x6.some (bF _ _)
 have l6:=x6.len
 generalize hr7:(S4 ++ [Cell.lst Z]).length=r7 at e8 g8
 have e9:b4 (aa (mFn b5 (aa (ab 7) af)) af) [some (.ref n),some (.tup (aj l)),some (.int (m:Nat)),some (.int (k:Nat)),some (.int (q:Nat)),some od,some (.ref S4.length),some (.ref r7)] S6=some (.ref S6.length,S6 ++ [Cell.lst [.tup (aj l')]]):=uP (jP (var_eq rfl) g8)
 have e10:m2 fv (b4 (aa (mFn b5 (aa (ab 7) af)) af)) (mC (.int 2)) [some (.ref n),some (.tup (aj l)),some (.int (m:Nat)),some (.int (k:Nat)),some (.int (q:Nat)),some od,some (.ref S4.length),some (.ref r7)] S6=some (.ref (S6 ++ [Cell.lst [.tup (aj l')]]).length,S6 ++ [Cell.lst [.tup (aj l')]] ++ [Cell.lst [.tup (aj l'),.tup (aj l')]]):=by
  refine op2 e9 (c_i (z:=2)) ?_
  have g9:(S6 ++ [Cell.lst [.tup (aj l')]])[S6.length]? = some (Cell.lst [.tup (aj l')]):=bF _ _
  simp only [fv,g9]
  rw [if_pos ⟨by decide,by decide,by simp,by simp⟩]
  rfl
 have x10:Ex S6 (S6 ++ [Cell.lst [.tup (aj l')]] ++ [Cell.lst [.tup (aj l'),.tup (aj l')]]):=(Ex.push _ _).trans (Ex.push _ _)
 have e11:=qc (ρ := [some (.ref n),some (.tup (aj l)),some (.int (m:Nat)),some (.int (k:Nat)),some (.int (q:Nat)),some od,some (.ref S4.length),some (.ref r7)]) (S:=S6) (a:=ab 6) (var_eq rfl) e10 (x10.some g6) (bF _ _) (by rw [hlZ];simp)
 generalize S6 ++ [Cell.lst [.tup (aj l')]] ++ [Cell.lst [.tup (aj l'),.tup (aj l')]]=S10 at e11 x10
 have e12:b4 (aa (mC (.int 0)) (aa sD af)) [some (.ref n),some (.tup (aj l)),some (.int (m:Nat)),some (.int (k:Nat)),some (.int (q:Nat)),some od,some (.ref S4.length),some (.ref r7)] (S10 ++ [Cell.lst (Z ++ [.tup (aj l'),.tup (aj l')])])=some (.ref (S10 ++ [Cell.lst (Z ++ [.tup (aj l'),.tup (aj l')])] ++ [Cell.dic []]).length,S10 ++ [Cell.lst (Z ++ [.tup (aj l'),.tup (aj l')])] ++ [Cell.dic []] ++ [Cell.lst [.int 0,.ref (S10 ++ [Cell.lst (Z ++ [.tup (aj l'),.tup (aj l')])]).length]]):=ml (mc (c_i (z:=0)) (mc (a:=sD) rfl (show af _ _=_ from rfl))) (by simp)
 generalize hS11:S10 ++ [Cell.lst (Z ++ [.tup (aj l'),.tup (aj l')])]=S11 at e11 e12
 have g11:S11[S10.length]? = some (Cell.lst (Z ++ [.tup (aj l'),.tup (aj l')])):=by rw [<- hS11];exact bF _ _
 have x11:Ex S10 S11:=⟨_,hS11.symm⟩
 have x12:Ex S11 (S11 ++ [Cell.dic []] ++ [Cell.lst [.int 0,.ref S11.length]]):=(Ex.push _ _).trans (Ex.push _ _)
 have e13:=qc e11 e12 (x12.some g11) (bF _ _) (by rw [aI,hlZ];simp)
 have g12:(S11 ++ [Cell.dic []] ++ [Cell.lst [.int 0,.ref S11.length]])[S11.length]? = some (Cell.dic []):=(Ex.push _ _).some (bF _ _)
 have n11:n < S11.length:=ai h4 (be (by simp at l6;exact cK (by assumption)) (be x10.len x11.len))
 generalize S11 ++ [Cell.dic []] ++ [Cell.lst [.int 0,.ref S11.length]]=S12 at e13 x12 g12
 have x412:Ex S4 S12:=((((Ex.push _ _).trans x6).trans x10).trans x11).trans x12
 have nl : ∀ {S4:Sto},Tq n S4 (.tup (aj l')):=tq (fun v hv=>by obtain⟨x,_,rfl⟩:=bI.mp hv;exact .int _) (by rw [bK];omega)
 have allT2 : ∀ v∈Z ++ [.tup (aj l'),.tup (aj l')] ++ [.int 0,.ref S11.length],Tq n S12 v:=by
  intro v hv
  rcases bS.mp hv with hv | hv
  ·rcases bS.mp hv with hv | hv
   ·exact (allT v hv).ex x412
   ·simp only [aK,dD,_root_.or_false] at hv
    rcases hv with rfl | rfl
    ·exact nl
    ·exact nl
  ·simp only [aK,dD,_root_.or_false] at hv
   rcases hv with rfl | rfl
   ·exact⟨⟨.int _,fun z=>by cases z⟩,fun us e=>by cases e⟩
   ·exact⟨⟨.dic g12,fun z=>by injection z with z;omega⟩,fun us e=>by cases e⟩
 have hlW:(Z ++ [.tup (aj l'),.tup (aj l')] ++ [.int 0,.ref S11.length]:List U).length=14:=by rw [aI,aI,hlZ];rfl
 generalize (Z ++ [.tup (aj l'),.tup (aj l')] ++ [.int 0,.ref S11.length]:List U)=V at e13 allT2 hlW
 have st5:Stp n S3 (S12 ++ [Cell.lst V]):=Stp.ex st3.st ((x4.trans x412).trans (Ex.push _ _))
 obtain⟨j,S13,f13,hj,st13⟩:=fq (m:=14) st5.st (by decide) (by decide)
 have g13:S13[S12.length]? = some (Cell.lst V):=st13.some (by have:=x12.len;omega) (bF _ _)
 have hj13:V[j]? = some V[j]:=aX (by omega)
 have e14:=rh e13 (dg (f:=aM) (a:=ab 0) (b:=mC (.int 14)) (var_eq rfl) c_i f13) g13 (kc hj13)
 refine⟨V[j],S13,cz (ρ := [some (.ref n),some (.tup (aj l)),some (.int (m:Nat)),some (.int (k:Nat)),some (.int (q:Nat)),some od,some (.ref S4.length),some (.ref r7)]) rfl ?_,((((st1.trans st2).trans st2').trans st3).trans st5).trans st13,((allT2 _ (dW (by omega))).ex (Ex.push _ _)).stp st13⟩
 have e8l:mFn mB (aa (ab 1) af) [some (.ref n),some (.tup (aj l)),some (.int (m:Nat)),some (.int (k:Nat)),some (.int (q:Nat)),some od,some (.ref S4.length),none] (S4 ++ [Cell.lst Z])=some (.ref r7,S4 ++ [Cell.lst Z] ++ [Cell.lst (aj l)]):=by rw [<- hr7];rfl
 exact (aY (bR (dg (var_eq rfl) (el _) f1))).trans ((aY (bR (dg (var_eq rfl) (el _) f2))).trans ((aY (bR e3)).trans ((aY (bR e5)).trans ((aY (bR e7)).trans ((aY (bR e8l)).trans ((aY e8).trans (b8 e14)))))))
noncomputable def GZ:MS:=sIf (cOr (lW (cOf (m1 (fg "bool") (ab 12)))) (cOf (m2 oNe (ab 12) (m2 oIx (mFn iI (aa (ab 3) (aa (ab 4) (aa (ab 10) af)))) (ab 11))))) (dh (mC (.bl false))) dP
noncomputable def z7:MS:=pP (gTp 2 (dn (gN 11) (dn (gN 12) jl))) (pV (aa (b4 (aa (mFn gg (aa (ab 3) (aa (ab 4) (aa (ab 10) af)))) (aa (mFn eI (aa (ab 3) (aa (ab 4) (aa (ab 10) af)))) af))) af)) GZ
theorem EG {a0 a1 a2 a5 a6 a7 a8 a9 a11 a12:Option U} (g:Grp m T) (hm:m < 60) (hs:Lt m st) (h:Thg S u) (hu:Sh u) : ∃ x y S',z7 [a0,a1,a2,some (tab m T),some (.tup (aj st)),a5,a6,a7,a8,a9,some u,a11,a12] S=some (.nx,[a0,a1,a2,some (tab m T),some (.tup (aj st)),a5,a6,a7,a8,a9,some u,x,y],S')/\Ex S S':=by
 obtain⟨b1,S1,e1,x1,i1⟩:=Ce (S:=S) g (by exact ai (by assumption) (by decide)) hs h hu
 obtain⟨b2,S2,e2,x2,i2⟩:=Bb (S:=S1) g (by exact ai (by assumption) (by decide)) hs (h.ex x1) hu
 have e3:=ml (mc (jm (ρ := [a0,a1,a2,some (tab m T),some (.tup (aj st)),a5,a6,a7,a8,a9,some u,a11,a12]) (f:=gg) (a:=ab 3) (b:=ab 4) (c:=ab 10) (var_eq rfl) (var_eq rfl) (var_eq rfl) e1) (mc (jm (f:=eI) (a:=ab 3) (b:=ab 4) (c:=ab 10) (var_eq rfl) (var_eq rfl) (var_eq rfl) e2) (show af _ _=_ from rfl))) (by simp)
 have x3:Ex S (S2 ++ [Cell.lst [.bl b1,.bl b2]]):=(x1.trans x2).trans (Ex.push _ _)
 have gl : ∀ S',Ex (S2 ++ [Cell.lst [.bl b1,.bl b2]]) S'->getL S' S2.length=some [.bl b1,.bl b2]:=fun S' x=>by unfold getL;rw [x.some (bF _ _)]
 obtain⟨ρ4,S4,e4,⟨x,y,rfl⟩,x4⟩:=sy (g:=gTp 2 (dn (gN 11) (dn (gN 12) jl))) (b:=GZ) (n:=S2.length) [.bl b1,.bl b2] (fun _ ρ S'=>(∃ x y,ρ = [a0,a1,a2,some (tab m T),some (.tup (aj st)),a5,a6,a7,a8,a9,some u,x,y])/\Ex (S2 ++ [Cell.lst [.bl b1,.bl b2]]) S') (fun _ ρ S' hp=>gl S' hp.2) (by
  rintro k v ρ S' hv ⟨⟨x,y,rfl⟩,xs⟩
  obtain⟨c1,c2,S5,e5,x5,j1,j2⟩:=GT (S:=S') g hm hs (h.ex (x3.trans xs)) hu
  have hb1:b1=c1:=by rw [ju,i1,j1]
  have hb2:b2=c2:=by rw [ju,i2,j2]
  subst hb1 hb2
  have ed : ∀ {z1 z2:U},mFn iI (aa (ab 3) (aa (ab 4) (aa (ab 10) af))) [a0,a1,a2,some (tab m T),some (.tup (aj st)),a5,a6,a7,a8,a9,some u,some z1,some z2] S'=some (.tup [.bl b1,.bl b2],S5):=jm (f:=iI) (var_eq rfl) (var_eq rfl) (var_eq rfl) e5
  have key : ∀ (b:Bool),[U.bl b1,U.bl b2][k]? = some (.bl b)->GZ [a0,a1,a2,some (tab m T),some (.tup (aj st)),a5,a6,a7,a8,a9,some u,some (.int (k:Nat)),some (.bl b)] S'=some (.nx,[a0,a1,a2,some (tab m T),some (.tup (aj st)),a5,a6,a7,a8,a9,some u,some (.int (k:Nat)),some (.bl b)],S5):=fun b hb=>by
   have q1:lW (cOf (m1 (fg "bool") (ab 12))) [a0,a1,a2,some (tab m T),some (.tup (aj st)),a5,a6,a7,a8,a9,some u,some (.int (k:Nat)),some (.bl b)] S'=some (false,S'):=rfl
   have q2:=of_eq (JZ (ρ := [a0,a1,a2,some (tab m T),some (.tup (aj st)),a5,a6,a7,a8,a9,some u,some (.int (k:Nat)),some (.bl b)]) (S:=S') (a:=ab 12) (x:=b) (y:=b) (var_eq rfl) (zz (b:=ab 11) ed (var_eq rfl) (kc hb)))
   rw [beq_self_eq_true] at q2
   exact (mj (Dy q1 q2)).trans rfl
  have hk:k < 2:=(ag.mp hv).1
  have hvb : ∃ b,v = .bl b:=by
   have:=dG hv
   simp only [aK,dD,_root_.or_false] at this
   rcases this with rfl | rfl
   ·exact⟨_,rfl⟩
   ·exact⟨_,rfl⟩
  obtain⟨b,rfl⟩:=hvb
  exact⟨_,_,_,_,rfl,key b hv,⟨_,_,rfl⟩,xs.trans x5⟩) fuel 0 [a0,a1,a2,some (tab m T),some (.tup (aj st)),a5,a6,a7,a8,a9,some u,a11,a12] _ (da _) (by simp [fuel]) ⟨⟨_,_,rfl⟩,Ex.refl _⟩
 refine⟨x,y,S4,?_,x3.trans x4⟩
 have hi:pV (aa (b4 (aa (mFn gg (aa (ab 3) (aa (ab 4) (aa (ab 10) af)))) (aa (mFn eI (aa (ab 3) (aa (ab 4) (aa (ab 10) af)))) af))) af) [a0,a1,a2,some (tab m T),some (.tup (aj st)),a5,a6,a7,a8,a9,some u,a11,a12] S=some (.enl S2.length,S2 ++ [Cell.lst [.bl b1,.bl b2]]):=by
  have:=mc e3 (show af _ _=_ from rfl)
  simp only [pV,this,aD,gl _ (Ex.refl _),aN]
 unfold z7 pP
 rw [hi]
 exact e4
theorem AX {b m:Nat} (h1:b<=4) (h2:m<=8):gc b (m - 1)<=30000:=be (pM h1 (k:=7) (by omega)) (by decide)
theorem Lr {ρ:Rho}{S S1:Sto}{a:ME} (h:a ρ S=some (.bl true,S1)):m2 oIs a (mC (.bl true)) ρ S=some (.bl true,S1):=op2 h rfl rfl
theorem Lc {ρ:Rho}{S S1:Sto}{a:ME} (h:a ρ S=some (.bl false,S1)):m2 oIs a (mC (.bl false)) ρ S=some (.bl true,S1):=op2 h rfl rfl
theorem Jz {ρ:Rho} : ∃ S',(fc (m2 oIs (mFn gg (aa (bA (aa (bA (aa (mC (.int 0)) af)) af)) (aa (bA af) (aa (bA af) af)))) (mC (.bl true))) (m2 oIs (mFn eI (aa (bA (aa (bA (aa (mC (.int 0)) af)) af)) (aa (bA af) (aa (bA af) af)))) (mC (.bl false)))) ρ S=some (.bl true,S'):=by
 have g:Grp 1 (d8 1):=jS (by decide)
 have et : ∀ S',bA (aa (bA (aa (mC (.int 0)) af)) af) ρ S'=some (tab 1 (d8 1),S'):=fun _=>rfl
 have e0 : ∀ S',bA af ρ S'=some (.tup (aj []),S'):=fun _=>rfl
 have wk:WkS [] (.tup (aj [])) []:=⟨rfl,by simp⟩
 have sh:Sh (.tup (aj [])):=fun us e=>by injection e with e;rw [<- e];decide
 obtain⟨b1,S1,e1,x1,i1⟩:=Ce (S:=S) (u := .tup (aj [])) (st := []) g (by decide) (fun x hx=>by cases hx) (Thg.nat (by decide)) sh
 obtain⟨b2,S2,e2,x2,i2⟩:=Bb (S:=S1) (u := .tup (aj [])) (st := []) g (by decide) (fun x hx=>by cases hx) (Thg.nat (by decide)) sh
 have h1:b1=true:=i1.mpr ((xS wk).mpr (by show srt (aA 1)=_;exact oj 1))
 have h2:b2=false:=by
  rw [Bool.eq_false_iff]
  intro z
  have:=(xJ wk).mp (i2.mp z)
  exact absurd this.1 (by decide)
 subst h1 h2
 exact⟨S2,iR (Lr (jm (f:=gg) (et S) (e0 S) (e0 S) e1)) (fun _=>Lc (jm (f:=eI) (et S1) (e0 S1) (e0 S1) e2)) (fun z=>by cases z)⟩
end
noncomputable def GH:MS:=bf (bB 8 (m2 h9 (mFn bq (aa (ab 3) af)) (mFn aM (aa (ab 2) (aa (mC (.int 2)) af))))) (dj (mML cn (ab 5) (aa (mFn b5 (aa (cU (iR1 (aa (ab 8) af)) cTT (m2 oIx (ab 6) (mFn aM (aa (ab 2) (aa (mFn bq (aa (ab 6) af)) af))))) af)) af)))
noncomputable def Dw:ME:=b4 (aa (ab 9) (aa (mFn eY (aa (ab 2) (aa (ab 9) (aa (mFn bq (aa (ab 3) af)) af)))) (aa (mFn eY (aa (ab 2) (aa (ab 9) (aa (mFn bq (aa (ab 3) af)) af)))) af)))
section
variable {m:Nat}{T:Nat->Nat->Nat}{S:Sto}{st:List Nat}
theorem Ez {n r:Nat}{W:List (List Nat)}{sm:List Nat}{a0 a1 a4 a7 a8 a9 a10 a11 a12:Option U} (g:Grp m T) (hm:m<=8) (h:jx n S) (hr:S[r]? = some (Cell.lst (tups W))) (hrn:r≠n) (hW:W.length < 90) (hW2 : ∀ w∈W,w.length<=12) (hs:sm ≠ []) (hsl:sm.length < 20) :
  ∃ W' x S',GH [a0,a1,some (.ref n),some (tab m T),a4,some (.ref r),some (.tup (aj sm)),a7,a8,a9,a10,a11,a12] S=some (.nx,[a0,a1,some (.ref n),some (tab m T),a4,some (.ref r),some (.tup (aj sm)),a7,x,a9,a10,a11,a12],S')/\jx n S'/\S'[r]? = some (Cell.lst (tups W'))/\W'.length=W.length+1/\(∀ w∈W',w.length<=12)/\(∀ j c,j≠n->j≠r->S[j]? = some c->S'[j]? = some c):=by
 have hp:=g.pos
 obtain⟨t,S1,f1,ht,st1⟩:=fq (m:=2) h (by decide) (by decide)
 have e1:m2 h9 (mFn bq (aa (ab 3) af)) (mFn aM (aa (ab 2) (aa (mC (.int 2)) af))) [a0,a1,some (.ref n),some (tab m T),a4,some (.ref r),some (.tup (aj sm)),a7,a8,a9,a10,a11,a12] S=some (.int ((m - t:Nat):Int),S1):=by
  refine op2 (f:=h9) (len_tab (var_eq rfl)) (dg (f:=aM) (var_eq rfl) c_i f1) ?_
  show some (U.int ((m:Int) - (t:Int)),S1)=_
  congr 3;omega
 have hlen:0 < sm.length:=List.length_pos_iff.mpr hs
 obtain⟨ys,S2,e2,⟨w,rfl,st2⟩,hyl⟩:=rX (ρ := [a0,a1,some (.ref n),some (tab m T),a4,some (.ref r),some (.tup (aj sm)),a7,some (.int ((m - t:Nat):Int)),a9,a10,a11,a12]) (S:=S1) (S0:=S1) (a:=ab 8) (n:=m - t) (e:=m2 oIx (ab 6) (mFn aM (aa (ab 2) (aa (mFn bq (aa (ab 6) af)) af)))) (var_eq rfl) (by unfold big;omega) (fun acc S' => ∃ w,acc=aj w/\Stp n S1 S') ⟨[],rfl,Stp.refl st1.st⟩ (by
  rintro k acc S' hk hl ⟨w,rfl,st2⟩
  obtain⟨j,S3,f3,hj,st3⟩:=fq (m:=sm.length) st2.st hlen (by exact ai (by assumption) (by decide))
  have ln:mFn bq (aa (ab 6) af) ([a0,a1,some (.ref n),some (tab m T),a4,some (.ref r),some (.tup (aj sm)),a7,some (.int ((m - t:Nat):Int)),a9,a10,a11,a12] ++ [some (.int (k:Nat))]) S'=some (.int (sm.length:Nat),S'):=by
   have:=oP (ρ := [a0,a1,some (.ref n),some (tab m T),a4,some (.ref r),some (.tup (aj sm)),a7,some (.int ((m - t:Nat):Int)),a9,a10,a11,a12] ++ [some (.int (k:Nat))]) (S:=S') (a:=ab 6) (us:=aj sm) (var_eq rfl)
   rwa [bK] at this
  have gj:(aj sm)[j]? = some (.int (sm[j]:Nat)):=by simp [aj,hj]
  exact⟨.int (sm[j]:Nat),S3,zz (var_eq rfl) (dg (f:=aM) (var_eq rfl) ln f3) (kc gj),w ++ [sm[j]],by simp [aj],st2.trans st3⟩)
 rw [bK] at hyl
 have st12:=st1.trans st2
 have g2:S2[r]? = some (Cell.lst (tups W)):=st12.some hrn hr
 have hrl:r < S2.length:=(ag.mp g2).1
 have ea:=append_eq (ρ := [a0,a1,some (.ref n),some (tab m T),a4,some (.ref r),some (.tup (aj sm)),a7,some (.int ((m - t:Nat):Int)),a9,a10,a11,a12]) (S:=S1) (o:=ab 5) (r:=r) (var_eq rfl) e2 (st1.some hrn hr) ((Ex.push _ _).some g2) (by unfold tups;rw [ay];unfold big;exact ai (by assumption) (by decide))
 have hx2:Ex S2 (S2 ++ [Cell.lst (aj w)]):=Ex.push _ _
 refine⟨W ++ [w],_,_,(aY (bR e1)).trans ea,?_,?_,by simp,fun v hv => ?_,fun j c hj1 hj2 e => ?_⟩
 ·obtain⟨s,b,q⟩:=st2.st.ex hx2
  exact⟨s,b,by rw [aH hrn];exact q⟩
 ·rw [aL (by simp;exact kA (by assumption))]
  simp [tups]
 ·rcases bS.mp hv with hv | hv
  ·exact hW2 v hv
  ·rw [aW.mp hv];omega
 ·rw [aH (fun z=>hj2 z.symm)]
  exact hx2.some (st12.some hj1 e)
theorem Eh {n:Nat}{w:List Nat}{a0 a1 a5 a6 a7 a8 a10 a11 a12:Option U} (g:Grp m T) (hm:m<=8) (hs:Lt m st) (h:jx n S) (hw:w.length<=12) :
  ∃ x y z S',eB 10 (cZ Dw) z7 [a0,a1,some (.ref n),some (tab m T),some (.tup (aj st)),a5,a6,a7,a8,some (.tup (aj w)),a10,a11,a12] S=some (.nx,[a0,a1,some (.ref n),some (tab m T),some (.tup (aj st)),a5,a6,a7,a8,some (.tup (aj w)),x,y,z],S')/\Stp n S S':=by
 obtain⟨u1,S1,f1,st1,h1⟩:=AV (m:=m) (l:=w) h hw
 obtain⟨u2,S2,f2,st2,h2⟩:=AV (m:=m) (l:=w) st1.st hw
 have e1:=ml (mc (a:=ab 9) (ρ := [a0,a1,some (.ref n),some (tab m T),some (.tup (aj st)),a5,a6,a7,a8,some (.tup (aj w)),a10,a11,a12]) (S:=S) (x := .tup (aj w)) (var_eq rfl) (mc (jm (f:=eY) (a:=ab 2) (b:=ab 9) (var_eq rfl) (var_eq rfl) (len_tab (T:=T) (a:=ab 3) (var_eq rfl)) f1) (mc (jm (f:=eY) (a:=ab 2) (b:=ab 9) (var_eq rfl) (var_eq rfl) (len_tab (T:=T) (a:=ab 3) (var_eq rfl)) f2) (show af _ _=_ from rfl)))) (by simp)
 have hw0:Tq n S2 (.tup (aj w)):=⟨⟨Thg.nat (by exact aJ (by assumption) (by decide)),fun z=>by cases z⟩,fun us e=>by injection e with e;rw [<- e,bK];exact aJ (by assumption) (by decide)⟩
 have all : ∀ v ∈ [.tup (aj w),u1,u2],Tq n S2 v:=by
  intro v hv
  simp only [aK,dD,_root_.or_false] at hv
  rcases hv with rfl | rfl | rfl
  ·exact hw0
  ·exact h1.stp st2
  ·exact h2
 obtain⟨ρ3,S3,e3,⟨x,y,z,rfl⟩,x3⟩:=AR (i:=10) (b:=z7) (n:=S2.length) (e:=Dw) (ρ := [a0,a1,some (.ref n),some (tab m T),some (.tup (aj st)),a5,a6,a7,a8,some (.tup (aj w)),a10,a11,a12]) (S:=S) (us := [.tup (aj w),u1,u2]) e1 (by simp)
  (fun _ ρ S'=>(∃ x y z,ρ = [a0,a1,some (.ref n),some (tab m T),some (.tup (aj st)),a5,a6,a7,a8,some (.tup (aj w)),x,y,z])/\Ex (S2 ++ [Cell.lst [.tup (aj w),u1,u2]]) S') ⟨⟨_,_,_,rfl⟩,Ex.refl _⟩ (fun _ ρ S' hp=>by unfold getL;rw [hp.2.some (bF _ _)]) (by
   rintro k u ρ S' hu ⟨⟨x,y,z,rfl⟩,xs⟩
   have hv:=(all u (dG hu)).ex ((Ex.push _ _).trans xs)
   obtain⟨x',y',S4,e4,x4⟩:=EG (S:=S') (a0:=a0) (a1:=a1) (a2:=some (.ref n)) (a5:=a5) (a6:=a6) (a7:=a7) (a8:=a8) (a9:=some (.tup (aj w))) (a11:=y) (a12:=z) g (by exact aJ (by assumption) (by decide)) hs hv.1.1 hv.2
   exact⟨_,S4,e4,⟨_,_,_,rfl⟩,xs.trans x4⟩)
 exact⟨x,y,z,S3,e3,((st1.trans st2).step (Ex.push _ _)).step x3⟩
end
theorem Ao (ns:List Int) (hl:ns.length<=63) (S:Sto) (h1:S.length=1) (h2:getL S 0=some (ns.map U.int)) : ∃ S',Jm [.ref 0] S=some (.bl true,S'):=by
 obtain⟨q,hq,eq⟩:=Bi (ρ := [some (.ref 0),none,none,none,none,none,none,none,none,none,none,none,none]) (c:=6) h2 rfl hl
 obtain⟨ρ1,S1,e1,_,_⟩:=lL (i:=1) (a:=mFn oI (aa (mC (.int 1)) (aa (mFn o5 (aa (mFn bq (aa (ab 0) af)) (aa (mC (.int 6)) af))) af))) (n:=q)
  (b:=bf (bB 2 (mFn jd (aa (ab 0) (aa (ab 1) af)))) (bf (bB 3 (mFn ji (aa (ab 2) (aa (mC (.int 8)) af)))) (bf (bB 4 (mFn jc (aa (ab 2) (aa (ab 3) (aa (mC (.int 4)) af))))) (bf (sIf (cOf (m2 oEq (mFn aM (aa (ab 2) (aa (mC (.int 9)) af))) (mC (.int 0)))) (bB 4 (bA af)) dP) (bf (bB 5 (m2 bC (m2 bC (mFn iA (aa (ab 3) (aa (ab 4) (aa (mC (.int 1)) af)))) (mFn kd (aa (ab 3) (aa (ab 4) (aa (mC (.int 1)) af))))) (b4 (aa (bA af) af)))) (bf (bB 6 (mSl (m2 bC (ab 4) (bA (aa (mC (.int 0)) af))) none (some (mFn oI (aa (mC (.int 1)) (aa (mFn bq (aa (ab 4) af)) af)))))) (bf (eB 7 (iR1 (aa (mC (.int 2)) af)) GH) (eB 9 (cZ (ab 5)) (eB 10 (cZ Dw) z7)))))))))
  (ρ := [some (.ref 0),none,none,none,none,none,none,none,none,none,none,none,none]) (S:=S) eq (by unfold big;exact ai (by assumption) (by decide))
  (fun k ρ S'=>(∃ a b c d e f g h i j k l,ρ = [some (.ref 0),a,b,c,d,e,f,g,h,i,j,k,l])/\Scr ns S') ⟨⟨_,_,_,_,_,_,_,_,_,_,_,_,rfl⟩,h2⟩
  (by
   rintro k ρ S' hk ⟨⟨u1,u2,u3,u4,u5,u6,u7,u8,u9,u10,u11,u12,rfl⟩,hs⟩
   have h0:=hs.lt
   obtain⟨S2,f2,x2,st2⟩:=BF (k:=k) hs
   obtain⟨m,T,S3,f3,g,hm,st3⟩:=BA (most:=8) st2 (by decide) (by decide)
   have hp:=g.pos
   obtain⟨w,S4,f4,st4,hw,hwl,_⟩:=Cj (most:=4) st3.st g (by exact aJ (by assumption) (by decide)) (by decide) (by decide)
   obtain⟨t,S5,f5,ht,st5⟩:=fq (m:=9) st4.st (by decide) (by decide)
   have c5:=of_eq (DR (y:=0) (ρ := [some (.ref 0),some (.int k),some (.ref S'.length),some (tab m T),some (.tup (aj w)),u5,u6,u7,u8,u9,u10,u11,u12]) (S:=S4) (b:=mC (.int 0)) (dg (f:=aM) (a:=ab 2) (b:=mC (.int 9)) (var_eq rfl) c_i f5) c_i)
   obtain⟨v,e5,hv,hvl⟩ : ∃ v,sIf (cOf (m2 oEq (mFn aM (aa (ab 2) (aa (mC (.int 9)) af))) (mC (.int 0)))) (bB 4 (bA af)) dP [some (.ref 0),some (.int k),some (.ref S'.length),some (tab m T),some (.tup (aj w)),u5,u6,u7,u8,u9,u10,u11,u12] S4=some (.nx,[some (.ref 0),some (.int k),some (.ref S'.length),some (tab m T),some (.tup (aj v)),u5,u6,u7,u8,u9,u10,u11,u12],S5)/\Lt m v/\v.length<=4:=by
    by_cases z:t=0
    ·rw [decide_eq_true z] at c5
     exact⟨[],(kI c5).trans rfl,fun x hx=>by (cases hx),by simp⟩
    ·rw [decide_eq_false z] at c5
     exact⟨w,(mj c5).trans rfl,hw,hwl⟩
   obtain⟨r6,S6,f6,x6,g6⟩:=zk (S:=S5) (st:=v) (most:=1) g (by exact aJ (by assumption) (by decide)) hv (by exact aJ (by assumption) (by decide)) (by decide) (AX hvl hm)
   obtain⟨F,S7,f7,x7,g7,hF⟩:=EY (S:=S6) (st:=v) (most:=1) g (by exact aJ (by assumption) (by decide)) hv (by exact aJ (by assumption) (by decide)) (by decide) (AX hvl hm)
   generalize hG:(kT T v (mQ T v) (m - 1) ([],[0])).take 1=R at g6
   have hR : ∀ y∈R,y.length<=12:=fun y hy=>by
    rw [<- hG] at hy
    have:=(vq g hv (eA hy)).2.2
    omega
   have hRl:R.length<=1:=by rw [<- hG,cg];omega
   have hF2 : ∀ y∈F,y.length<=12:=fun y hy=>by
    rw [hF] at hy
    have:=(zZ g hv (eA hy)).2.2
    omega
   have hFl:F.length<=1:=by rw [hF,cg];omega
   have e7:=qc (ρ := [some (.ref 0),some (.int k),some (.ref S'.length),some (tab m T),some (.tup (aj v)),u5,u6,u7,u8,u9,u10,u11,u12]) (S:=S5) (jm (f:=iA) (a:=ab 3) (b:=ab 4) (c:=mC (.int 1)) (var_eq rfl) (var_eq rfl) (c_i (z:=((1:Nat):Int))) f6) (jm (f:=kd) (a:=ab 3) (b:=ab 4) (c:=mC (.int 1)) (var_eq rfl) (var_eq rfl) (c_i (z:=((1:Nat):Int))) f7) (x7.some g6) g7 (by unfold tups;simp;omega)
   have e8:=qc e7 (uP (a:=bA af) (x := .tup []) rfl) ((Ex.push _ _).some (bF _ _)) (bF _ _) (by unfold tups;simp;omega)
   have eW:tups R++tups F ++ [.tup []]=tups (R++F ++ [[]]):=by simp [tups,aj]
   rw [eW] at e8
   have x8:Ex S5 (S7 ++ [Cell.lst (tups R++tups F)] ++ [Cell.lst [.tup []]]):=((x6.trans x7).trans (Ex.push _ _)).trans (Ex.push _ _)
   generalize S7 ++ [Cell.lst (tups R++tups F)] ++ [Cell.lst [.tup []]]=S8 at e8 x8
   generalize hW:R++F ++ [[]]=W at e8
   have hWl:W.length<=3:=by rw [<- hW];simp;omega
   have hW2 : ∀ y∈W,y.length<=12:=fun y hy=>by
    rw [<- hW] at hy
    rcases bS.mp hy with hy | hy
    ·rcases bS.mp hy with hy | hy
     ·exact hR y hy
     ·exact hF2 y hy
    ·rw [aW.mp hy];simp
   have st8:Stp S'.length S2 (S8 ++ [Cell.lst (tups W)]):=(((st3.trans st4).trans st5).step x8).step (Ex.push _ _)
   have h8:S'.length < S8.length:=ai st5.st.lt x8.len
   have g8:(S8 ++ [Cell.lst (tups W)])[S8.length]? = some (Cell.lst (tups W)):=bF _ _
   generalize hr8:S8.length=r8 at e8 g8 h8
   generalize S8 ++ [Cell.lst (tups W)]=S9 at e8 g8 st8
   obtain⟨sm,e9,hsm,hsml⟩ : ∃ sm,mSl (m2 bC (ab 4) (bA (aa (mC (.int 0)) af))) none (some (mFn oI (aa (mC (.int 1)) (aa (mFn bq (aa (ab 4) af)) af)))) [some (.ref 0),some (.int k),some (.ref S'.length),some (tab m T),some (.tup (aj v)),some (.ref r8),u6,u7,u8,u9,u10,u11,u12] S9=some (.tup (aj sm),S9)/\sm ≠ []/\sm.length < 20:=by
    have a1:m2 bC (ab 4) (bA (aa (mC (.int 0)) af)) [some (.ref 0),some (.int k),some (.ref S'.length),some (tab m T),some (.tup (aj v)),some (.ref r8),u6,u7,u8,u9,u10,u11,u12] S9=some (.tup (aj (v ++ [0])),S9):=yF (x:=v) (y := [0]) (var_eq rfl) (s9 (c_i (z:=0))) (by simp;omega)
    have a2:mFn bq (aa (ab 4) af) [some (.ref 0),some (.int k),some (.ref S'.length),some (tab m T),some (.tup (aj v)),some (.ref r8),u6,u7,u8,u9,u10,u11,u12] S9=some (.int (v.length:Nat),S9):=by
     have:=oP (ρ := [some (.ref 0),some (.int k),some (.ref S'.length),some (tab m T),some (.tup (aj v)),some (.ref r8),u6,u7,u8,u9,u10,u11,u12]) (S:=S9) (a:=ab 4) (us:=aj v) (var_eq rfl)
     rwa [bK] at this
    have a3:mFn oI (aa (mC (.int 1)) (aa (mFn bq (aa (ab 4) af)) af)) [some (.ref 0),some (.int k),some (.ref S'.length),some (tab m T),some (.tup (aj v)),some (.ref r8),u6,u7,u8,u9,u10,u11,u12] S9=some (.int ((max 1 v.length:Nat):Int),S9):=by
     refine dg (f:=oI) (c_i (z:=1)) a2 ?_
     show some (U.int (if ((v.length:Nat):Int) > 1 then ((v.length:Nat):Int) else 1),S9)=_
     congr 3
     split <;> omega
    refine⟨(v ++ [0]).take (max 1 v.length),?_,?_,?_⟩
    ·simp only [mSl,a1,aD,mK,a3]
     rw [sU]
     unfold aj;rw [List.map_take]
    ·intro z
     have:=congrArg uu z
     rw [cg,aI] at this
     simp only [bo,bT] at this
     omega
    ·rw [cg,aI];simp;omega
   have i10:mC (.int 2) [some (.ref 0),some (.int k),some (.ref S'.length),some (tab m T),some (.tup (aj v)),some (.ref r8),some (.tup (aj sm)),u7,u8,u9,u10,u11,u12] S9=some (.int ((2:Nat):Int),S9):=rfl
   obtain⟨ρ10,S10,e10,⟨y7,y8,W10,rfl,s10,g10,l10,w10⟩,hs10⟩:=lL (i:=7) (b:=GH) (n:=2) (ρ := [some (.ref 0),some (.int k),some (.ref S'.length),some (tab m T),some (.tup (aj v)),some (.ref r8),some (.tup (aj sm)),u7,u8,u9,u10,u11,u12]) (S:=S9) i10 (by decide)
    (fun i ρ S10=>(∃ y7 y8 W',ρ = [some (.ref 0),some (.int k),some (.ref S'.length),some (tab m T),some (.tup (aj v)),some (.ref r8),some (.tup (aj sm)),y7,y8,u9,u10,u11,u12]/\jx S'.length S10/\S10[r8]? = some (Cell.lst (tups W'))/\W'.length<=3+i /\ ∀ y∈W',y.length<=12)/\Scr ns S10)
    ⟨⟨_,_,W,rfl,st8.st,g8,by assumption,hW2⟩,(hs.ex fun c h=>x2.some h).ex fun c h=>st8.some (by exact aG (by assumption)) h⟩ (by
     rintro i ρ S10 hi ⟨⟨y7,y8,W',rfl,s10,g10,l10,w10⟩,hs10⟩
     obtain⟨W2,x,S11,e11,s11,g11,l11,w11,k11⟩:=Ez (a0:=some (.ref 0)) (a1:=some (.int k)) (a4:=some (.tup (aj v))) (a7:=some (.int (i:Nat))) (a8:=y8) (a9:=u9) (a10:=u10) (a11:=u11) (a12:=u12) g hm s10 g10 (by exact bL (by assumption)) (by omega) w10 hsm hsml
     exact⟨_,S11,e11,⟨_,_,W2,rfl,s11,g11,by omega,w11⟩,hs10.ex fun c h=>k11 0 c (by exact aG (by assumption)) (by omega) h⟩)
   obtain⟨ρ12,S12,e12,⟨z9,z10,z11,z12,rfl⟩,_,_,hs12⟩:=AR (i:=9) (b:=eB 10 (cZ Dw) z7) (n:=r8) (e:=ab 5) (ρ := [some (.ref 0),some (.int k),some (.ref S'.length),some (tab m T),some (.tup (aj v)),some (.ref r8),some (.tup (aj sm)),y7,y8,u9,u10,u11,u12]) (S:=S10) (us:=tups W10) (var_eq rfl) (by unfold tups;rw [ay];exact aJ (by assumption) (by decide))
    (fun i ρ S12=>(∃ z9 z10 z11 z12,ρ = [some (.ref 0),some (.int k),some (.ref S'.length),some (tab m T),some (.tup (aj v)),some (.ref r8),some (.tup (aj sm)),y7,y8,z9,z10,z11,z12])/\jx S'.length S12/\S12[r8]? = some (Cell.lst (tups W10))/\Scr ns S12)
    ⟨⟨_,_,_,_,rfl⟩,s10,g10,hs10⟩ (fun i ρ S12 hp=>by unfold getL;rw [hp.2.2.1]) (by
     rintro i u ρ S12 hu ⟨⟨z9,z10,z11,z12,rfl⟩,s12,g12,hs12⟩
     obtain⟨y,hy,rfl⟩:=bI.mp (dG hu)
     obtain⟨a,b,c,S13,e13,st13⟩:=Eh (w:=y) (a0:=some (.ref 0)) (a1:=some (.int k)) (a5:=some (.ref r8)) (a6:=some (.tup (aj sm))) (a7:=y7) (a8:=y8) (a10:=z10) (a11:=z11) (a12:=z12) g hm hv s12 (w10 y hy)
     exact⟨_,S13,e13,⟨_,_,_,_,rfl⟩,st13.st,st13.some (by exact bL (by assumption)) g12,hs12.ex fun c h=>st13.some (by exact aG (by assumption)) h⟩)
   exact⟨_,S12,(aY (bR (dg (var_eq rfl) (var_eq rfl) f2))).trans ((aY (bR (dg (var_eq rfl) c_i f3))).trans ((aY (bR (jm (f:=jc) (var_eq rfl) (var_eq rfl) c_i f4))).trans ((aY e5).trans ((aY (bR e8)).trans ((aY (bR e9)).trans ((aY e10).trans e12)))))),⟨_,_,_,_,_,_,_,_,_,_,_,_,rfl⟩,hs12⟩)
 obtain⟨S2,e2⟩:=Jz (S:=S1) (ρ:=ρ1)
 exact⟨S2,cz (ρ:=ρ1) rfl ((aY e1).trans (b8 e2))⟩
end
noncomputable def top (i:Nat):Stmt:=PySem.Challenge.pw_groupwalks_k32_ways_and_rounds_looked_at.main.body.getD i (.Pass ⟨0,0,0,0⟩)
abbrev fG:Stmt:=top 13
abbrev ie:Stmt:=top 14
abbrev iQ:Stmt:=top 15
abbrev hJ:Stmt:=top 16
abbrev ib:Stmt:=top 17
abbrev fH:Stmt:=top 19
abbrev iV:Stmt:=top 18
abbrev hZ:Stmt:=top 21
abbrev ig:Stmt:=top 20
abbrev hU:Stmt:=top 22
abbrev ic:Stmt:=top 23
abbrev dX:Stmt:=top 1
abbrev dE:Stmt:=top 2
abbrev gh:Stmt:=top 9
abbrev fY:Stmt:=top 3
abbrev ef:Stmt:=top 6
abbrev ll:Stmt:=top 5
abbrev fb:Stmt:=top 8
abbrev kW:Stmt:=top 10
abbrev fF:Stmt:=top 7
abbrev iL:Stmt:=top 11
abbrev gf:Stmt:=top 24
abbrev iP:Stmt:=top 25
abbrev iS:Stmt:=top 27
abbrev jK:Stmt:=top 26
abbrev yN:Stmt:=top 28
noncomputable def T0:Tb:=⟨[],[],[],[],false⟩
noncomputable def T1:Tb:=⟨("_law_cell_at",gM)::T0.D,T0.C,[],T0.H,false⟩
noncomputable def T2:Tb:=⟨("_law_state",jd)::T1.D,T1.C,[],T1.H,false⟩
noncomputable def T3:Tb:=⟨("_law_take",aM)::T2.D,T2.C,[],T2.H,false⟩
noncomputable def T4:Tb:=⟨("_law_clock",df)::T3.D,T3.C,[],T3.H,false⟩
noncomputable def T5:Tb:=⟨("_law_flips",eZ)::T4.D,T4.C,[],T4.H,false⟩
noncomputable def T6:Tb:=⟨("_law_quarter",fD)::T5.D,T5.C,[],T5.H,false⟩
noncomputable def T7:Tb:=⟨("_law_both",jW)::T6.D,T6.C,[],T6.H,false⟩
noncomputable def T8:Tb:=⟨("_law_named",jf)::T7.D,T7.C,[],T7.H,false⟩
noncomputable def T9:Tb:=⟨("_law_order",je)::T8.D,T8.C,[],T8.H,false⟩
noncomputable def T10:Tb:=⟨("_law_group",ji)::T9.D,T9.C,[],T9.H,false⟩
noncomputable def T11:Tb:=⟨("_law_steps",jc)::T10.D,T10.C,[],T10.H,false⟩
noncomputable def T12:Tb:=⟨("is_number_below",jo)::T11.D,T11.C,[],T11.H,false⟩
noncomputable def T13:Tb:=⟨("are_numbers_below",d6)::T12.D,T12.C,[],T12.H,false⟩
noncomputable def T14:Tb:=⟨("is_walk_by",fh)::T13.D,T13.C,[],T13.H,false⟩
noncomputable def T15:Tb:=⟨("all_things",nu)::T14.D,T14.C,[],T14.H,false⟩
noncomputable def T16:Tb:=⟨("are_all_things",gG)::T15.D,T15.C,[],T15.H,false⟩
noncomputable def T17:Tb:=⟨("places",qK)::T16.D,T16.C,[],T16.H,false⟩
noncomputable def T18:Tb:=⟨("goes_through",kH)::T17.D,T17.C,[],T17.H,false⟩
noncomputable def T19:Tb:=⟨("is_way",gg)::T18.D,T18.C,[],T18.H,false⟩
noncomputable def T20:Tb:=⟨("comes_round",mI)::T19.D,T19.C,[],T19.H,false⟩
noncomputable def T21:Tb:=⟨("is_round",eI)::T20.D,T20.C,[],T20.H,false⟩
noncomputable def T22:Tb:=⟨("_law_rounds",iA)::T21.D,T21.C,[],T21.H,false⟩
noncomputable def T23:Tb:=⟨("_law_ways",kd)::T22.D,T22.C,[],T22.H,false⟩
noncomputable def T24:Tb:=⟨("_law_bent",eY)::T23.D,T23.C,[],T23.H,false⟩
noncomputable def T25:Tb:=⟨("_law_due",iI)::T24.D,T24.C,[],T24.H,false⟩
theorem qV:cB T0 80 (["script","k"]:List Str) (aF fG).names (bt fG)=some fE:=by kernel_rfl
theorem qg:bM (["script","k"]:List Str) (["script","k"]:List Str) (aF fG):=⟨rfl,rfl,rfl,by decide +kernel,rfl,by decide +kernel,by decide +kernel⟩
theorem vd:cB T1 80 (["script","k","cell"]:List Str) (aF ie).names (bt ie)=some jj:=by kernel_rfl
theorem tD:bM (["script","k","cell"]:List Str) (["script","k"]:List Str) (aF ie):=⟨rfl,rfl,rfl,by decide +kernel,rfl,by decide +kernel,by decide +kernel⟩
theorem xQ:cB T2 80 (["state","many","found","mixed"]:List Str) (aF iQ).names (bt iQ)=some j7:=by kernel_rfl
theorem vH:bM (["state","many","found","mixed"]:List Str) (["state","many"]:List Str) (aF iQ):=⟨rfl,rfl,rfl,by decide +kernel,rfl,by decide +kernel,by decide +kernel⟩
theorem wy:cB T3 80 (["n"]:List Str) (aF hJ).names (bt hJ)=some kY:=by kernel_rfl
theorem tT:bM (["n"]:List Str) (["n"]:List Str) (aF hJ):=⟨rfl,rfl,rfl,by decide +kernel,rfl,by decide +kernel,by decide +kernel⟩
theorem vT:cB T4 80 (["n","found","i","row","j","turn"]:List Str) (aF ib).names (bt ib)=some lr:=by kernel_rfl
theorem uo:bM (["n","found","i","row","j","turn"]:List Str) (["n"]:List Str) (aF ib):=⟨rfl,rfl,rfl,by decide +kernel,rfl,by decide +kernel,by decide +kernel⟩
theorem qY:cB T5 80 (["signs","kinds","found","one","row","other","sign"]:List Str) (aF fH).names (bt fH)=some jv:=by kernel_rfl
theorem qi:bM (["signs","kinds","found","one","row","other","sign"]:List Str) ([]:List Str) (aF fH):=⟨rfl,rfl,rfl,by decide +kernel,rfl,by decide +kernel,by decide +kernel⟩
theorem xT:cB T6 80 (["one","other","size","found","i","row","j","ahead"]:List Str) (aF iV).names (bt iV)=some m3:=by kernel_rfl
theorem vc:bM (["one","other","size","found","i","row","j","ahead"]:List Str) (["one","other"]:List Str) (aF iV):=⟨rfl,rfl,rfl,by decide +kernel,rfl,by decide +kernel,by decide +kernel⟩
theorem vf:cB T7 80 (["group","order"]:List Str) (aF hZ).names (bt hZ)=some kN:=by kernel_rfl
theorem tQ:bM (["group","order"]:List Str) (["group","order"]:List Str) (aF hZ):=⟨rfl,rfl,rfl,by decide +kernel,rfl,by decide +kernel,by decide +kernel⟩
theorem vG:cB T8 80 (["state","many","left"]:List Str) (aF ig).names (bt ig)=some kX:=by kernel_rfl
theorem ua:bM (["state","many","left"]:List Str) (["state","many"]:List Str) (aF ig):=⟨rfl,rfl,rfl,by decide +kernel,rfl,by decide +kernel,by decide +kernel⟩
theorem uL:cB T9 80 (["state","most","way","found","first","one"]:List Str) (aF hU).names (bt hU)=some kL:=by kernel_rfl
theorem tY:bM (["state","most","way","found","first","one"]:List Str) (["state","most"]:List Str) (aF hU):=⟨rfl,rfl,rfl,by decide +kernel,rfl,by decide +kernel,by decide +kernel⟩
theorem uR:cB T10 80 (["state","group","most","left","found","k"]:List Str) (aF ic).names (bt ic)=some oR:=by kernel_rfl
theorem tK:bM (["state","group","most","left","found","k"]:List Str) (["state","group","most"]:List Str) (aF ic):=⟨rfl,rfl,rfl,by decide +kernel,rfl,by decide +kernel,by decide +kernel⟩
theorem nS:cB T11 80 (["value","many"]:List Str) (aF dX).names (bt dX)=some jg:=by kernel_rfl
theorem mR:bM (["value","many"]:List Str) (["value","many"]:List Str) (aF dX):=⟨rfl,rfl,rfl,by decide +kernel,rfl,by decide +kernel,by decide +kernel⟩
theorem lZ:cB T12 80 (["value","many"]:List Str) (aF dE).names (bt dE)=some iy:=by kernel_rfl
theorem kQ:bM (["value","many"]:List Str) (["value","many"]:List Str) (aF dE):=⟨rfl,rfl,rfl,by decide +kernel,rfl,by decide +kernel,by decide +kernel⟩
theorem tP:cB T13 80 (["group","steps","thing"]:List Str) (aF gh).names (bt gh)=some nL:=by kernel_rfl
theorem qW:bM (["group","steps","thing"]:List Str) (["group","steps","thing"]:List Str) (aF gh):=⟨rfl,rfl,rfl,by decide +kernel,rfl,by decide +kernel,by decide +kernel⟩
theorem t6:cB T14 80 (["group"]:List Str) (aF fY).names (bt fY)=some nF:=by kernel_rfl
theorem rA:bM (["group"]:List Str) (["group"]:List Str) (aF fY):=⟨rfl,rfl,rfl,by decide +kernel,rfl,by decide +kernel,by decide +kernel⟩
theorem oo:cB T15 80 (["group","come_to"]:List Str) (aF ef).names (bt ef)=some jO:=by kernel_rfl
theorem nA:bM (["group","come_to"]:List Str) (["group","come_to"]:List Str) (aF ef):=⟨rfl,rfl,rfl,by decide +kernel,rfl,by decide +kernel,by decide +kernel⟩
theorem By:cB T16 80 (["group","walk","come_to","thing"]:List Str) (aF ll).names (bt ll)=some vg:=by kernel_rfl
theorem z4:bM (["group","walk","come_to","thing"]:List Str) (["group","walk"]:List Str) (aF ll):=⟨rfl,rfl,rfl,by decide +kernel,rfl,by decide +kernel,by decide +kernel⟩
theorem qo:cB T17 80 (["group","thing"]:List Str) (aF fb).names (bt fb)=some lq:=by kernel_rfl
theorem o7:bM (["group","thing"]:List Str) (["group","thing"]:List Str) (aF fb):=⟨rfl,rfl,rfl,by decide +kernel,rfl,by decide +kernel,by decide +kernel⟩
theorem Bp:cB T18 80 (["group","steps","thing"]:List Str) (aF kW).names (bt kW)=some uX:=by kernel_rfl
theorem z3:bM (["group","steps","thing"]:List Str) (["group","steps","thing"]:List Str) (aF kW):=⟨rfl,rfl,rfl,by decide +kernel,rfl,by decide +kernel,by decide +kernel⟩
theorem qZ:cB T19 80 (["group","walk","come_to"]:List Str) (aF fF).names (bt fF)=some mG:=by kernel_rfl
theorem qy:bM (["group","walk","come_to"]:List Str) (["group","walk"]:List Str) (aF fF):=⟨rfl,rfl,rfl,by decide +kernel,rfl,by decide +kernel,by decide +kernel⟩
theorem xY:cB T20 80 (["group","steps","thing"]:List Str) (aF iL).names (bt iL)=some qb:=by kernel_rfl
theorem uQ:bM (["group","steps","thing"]:List Str) (["group","steps","thing"]:List Str) (aF iL):=⟨rfl,rfl,rfl,by decide +kernel,rfl,by decide +kernel,by decide +kernel⟩
theorem tZ:cB T21 80 (["group","steps","most","found","line","walk","there","here","fresh"]:List Str) (aF gf).names (bt gf)=some nO:=by kernel_rfl
theorem qU:bM (["group","steps","most","found","line","walk","there","here","fresh"]:List Str) (["group","steps","most"]:List Str) (aF gf):=⟨rfl,rfl,rfl,by decide +kernel,rfl,by decide +kernel,by decide +kernel⟩
theorem xc:cB T22 80 (["group","steps","most","found","line","walk","there","fresh"]:List Str) (aF iP).names (bt iP)=some pR:=by kernel_rfl
theorem vb:bM (["group","steps","most","found","line","walk","there","fresh"]:List Str) (["group","steps","most"]:List Str) (aF iP):=⟨rfl,rfl,rfl,by decide +kernel,rfl,by decide +kernel,by decide +kernel⟩
theorem wZ:cB T23 80 (["state","walk","many","at","to","odd","some","rows"]:List Str) (aF iS).names (bt iS)=some pT:=by kernel_rfl
theorem wx:bM (["state","walk","many","at","to","odd","some","rows"]:List Str) (["state","walk","many"]:List Str) (aF iS):=⟨rfl,rfl,rfl,by decide +kernel,rfl,by decide +kernel,by decide +kernel⟩
theorem Af:cB T24 80 (["group","steps","thing","one","there","many","every"]:List Str) (aF jK).names (bt jK)=some sM:=by kernel_rfl
theorem xC:bM (["group","steps","thing","one","there","many","every"]:List Str) (["group","steps","thing"]:List Str) (aF jK):=⟨rfl,rfl,rfl,by decide +kernel,rfl,by decide +kernel,by decide +kernel⟩
theorem JI:cB T25 80 (["script","k","state","group","steps","walks","some","turn","long","walk","thing","way","found"]:List Str) (aF yN).names (bt yN)=some Fb:=by kernel_rfl
theorem GC:bM (["script","k","state","group","steps","walks","some","turn","long","walk","thing","way","found"]:List Str) (["script"]:List Str) (aF yN):=⟨rfl,rfl,rfl,by decide +kernel,rfl,by decide +kernel,by decide +kernel⟩
theorem chain {P:Program}{w:World}{K:ar}{mg:Str->Option Value}{h:Heap} (X:K.In h) (Gn:h.Ns mainGlobals mg) (B : ∀ x∈jJ,jb K mainGlobals x=some none)
  (D0:Def K "_law_cell_at" fG) (D1:Def K "_law_state" ie) (D2:Def K "_law_take" iQ) (D3:Def K "_law_clock" hJ) (D4:Def K "_law_flips" ib) (D5:Def K "_law_quarter" fH) (D6:Def K "_law_both" iV) (D7:Def K "_law_named" hZ) (D8:Def K "_law_order" ig) (D9:Def K "_law_group" hU) (D10:Def K "_law_steps" ic) (D11:Def K "is_number_below" dX) (D12:Def K "are_numbers_below" dE) (D13:Def K "is_walk_by" gh) (D14:Def K "all_things" fY) (D15:Def K "are_all_things" ef) (D16:Def K "places" ll) (D17:Def K "goes_through" fb) (D18:Def K "is_way" kW) (D19:Def K "comes_round" fF) (D20:Def K "is_round" iL) (D21:Def K "_law_rounds" gf) (D22:Def K "_law_ways" iP) (D23:Def K "_law_bent" iS) (D24:Def K "_law_due" jK) : ∀ (caps:List U) (capv:List V) (cds:List (Addr×Obj)) (base:Heap),md mg base->TOk ⟨P,w,⟨K,caps,capv,cds,[]⟩,mg,base,none⟩ T25 25:=by
 have C0:Ch P w K mg [] T0 0:=⟨fun _ _ _ _ _=>TOk.nil X Gn B,fun _ _ _ _ _ _ _ z=>by cases z⟩
 have C1:Ch P w K mg _ T1 1:=C0.dfn C0.o rfl X Gn D0 qg (fun _ _ _ _ _ _=>us2 fun _ _=>rfl) qV
 have C2:Ch P w K mg _ T2 2:=C1.dfn C1.o rfl X Gn D1 tD (fun _ _ _ _ _ _=>us2 fun _ _=>rfl) vd
 have C3:Ch P w K mg _ T3 3:=C2.dfn C2.o rfl X Gn D2 vH (fun _ _ _ _ _ _=>us2 fun _ _=>rfl) xQ
 have C4:Ch P w K mg _ T4 4:=C3.dfn C3.o rfl X Gn D3 tT (fun _ _ _ _ _ _=>us1 fun _=>rfl) wy
 have C5:Ch P w K mg _ T5 5:=C4.dfn C4.o rfl X Gn D4 uo (fun _ _ _ _ _ _=>us1 fun _=>rfl) vT
 have C6:Ch P w K mg _ T6 6:=C5.dfn C5.o rfl X Gn D5 qi (fun _ _ _ _ _ _=>us0 rfl) qY
 have C7:Ch P w K mg _ T7 7:=C6.dfn C6.o rfl X Gn D6 vc (fun _ _ _ _ _ _=>us2 fun _ _=>rfl) xT
 have C8:Ch P w K mg _ T8 8:=C7.dfn C7.o rfl X Gn D7 tQ (fun _ _ _ _ _ _=>us2 fun _ _=>rfl) vf
 have C9:Ch P w K mg _ T9 9:=C8.dfn C8.o rfl X Gn D8 ua (fun _ _ _ _ _ _=>us2 fun _ _=>rfl) vG
 have C10:Ch P w K mg _ T10 10:=C9.dfn C9.o rfl X Gn D9 tY (fun _ _ _ _ _ _=>us2 fun _ _=>rfl) uL
 have C11:Ch P w K mg _ T11 11:=C10.dfn C10.o rfl X Gn D10 tK (fun _ _ _ _ _ _=>us3 fun _ _ _=>rfl) uR
 have C12:Ch P w K mg _ T12 12:=C11.dfn C11.o rfl X Gn D11 mR (fun _ _ _ _ _ _=>us2 fun _ _=>rfl) nS
 have C13:Ch P w K mg _ T13 13:=C12.dfn C12.o rfl X Gn D12 kQ (fun _ _ _ _ _ _=>us2 fun _ _=>rfl) lZ
 have C14:Ch P w K mg _ T14 14:=C13.dfn C13.o rfl X Gn D13 qW (fun _ _ _ _ _ _=>us3 fun _ _ _=>rfl) tP
 have C15:Ch P w K mg _ T15 15:=C14.dfn C14.o rfl X Gn D14 rA (fun _ _ _ _ _ _=>us1 fun _=>rfl) t6
 have C16:Ch P w K mg _ T16 16:=C15.dfn C15.o rfl X Gn D15 nA (fun _ _ _ _ _ _=>us2 fun _ _=>rfl) oo
 have C17:Ch P w K mg _ T17 17:=C16.dfn C16.o rfl X Gn D16 z4 (fun _ _ _ _ _ _=>us2 fun _ _=>rfl) By
 have C18:Ch P w K mg _ T18 18:=C17.dfn C17.o rfl X Gn D17 o7 (fun _ _ _ _ _ _=>us2 fun _ _=>rfl) qo
 have C19:Ch P w K mg _ T19 19:=C18.dfn C18.o rfl X Gn D18 z3 (fun _ _ _ _ _ _=>us3 fun _ _ _=>rfl) Bp
 have C20:Ch P w K mg _ T20 20:=C19.dfn C19.o rfl X Gn D19 qy (fun _ _ _ _ _ _=>us2 fun _ _=>rfl) qZ
 have C21:Ch P w K mg _ T21 21:=C20.dfn C20.o rfl X Gn D20 uQ (fun _ _ _ _ _ _=>us3 fun _ _ _=>rfl) xY
 have C22:Ch P w K mg _ T22 22:=C21.dfn C21.o rfl X Gn D21 qU (fun _ _ _ _ _ _=>us3 fun _ _ _=>rfl) tZ
 have C23:Ch P w K mg _ T23 23:=C22.dfn C22.o rfl X Gn D22 vb (fun _ _ _ _ _ _=>us3 fun _ _ _=>rfl) xc
 have C24:Ch P w K mg _ T24 24:=C23.dfn C23.o rfl X Gn D23 wx (fun _ _ _ _ _ _=>us3 fun _ _ _=>rfl) wZ
 have C25:Ch P w K mg _ T25 25:=C24.dfn C24.o rfl X Gn D24 xC (fun _ _ _ _ _ _=>us3 fun _ _ _=>rfl) Af
 exact fun caps capv cds base hbb=>(C25.o caps capv cds base hbb)
theorem all_mk {l:lU}{w:World}{K:ar}{h:Heap}{mg:Str->Option Value}{fa:Addr}{q:Program} (X:K.In h) (Gn:h.Ns mainGlobals mg) (hfa:mg "law"=some (.ref fa)) (B : ∀ x∈jJ,jb K mainGlobals x=some none)
  (D0:Def K "_law_cell_at" fG) (D1:Def K "_law_state" ie) (D2:Def K "_law_take" iQ) (D3:Def K "_law_clock" hJ) (D4:Def K "_law_flips" ib) (D5:Def K "_law_quarter" fH) (D6:Def K "_law_both" iV) (D7:Def K "_law_named" hZ) (D8:Def K "_law_order" ig) (D9:Def K "_law_group" hU) (D10:Def K "_law_steps" ic) (D11:Def K "is_number_below" dX) (D12:Def K "are_numbers_below" dE) (D13:Def K "is_walk_by" gh) (D14:Def K "all_things" fY) (D15:Def K "are_all_things" ef) (D16:Def K "places" ll) (D17:Def K "goes_through" fb) (D18:Def K "is_way" kW) (D19:Def K "comes_round" fF) (D20:Def K "is_round" iL) (D21:Def K "_law_rounds" gf) (D22:Def K "_law_ways" iP) (D23:Def K "_law_bent" iS) (D24:Def K "_law_due" jK) (D25:Def K "law" yN) :
  ∃ (tabs:List (Addr×Str)) (fd:FuncData) (sp:Sp),(∀ r∈tabs,K.lookup r.1=none /\ ∃ x d c,(wN q).find? (fun e=>e.name == x)=some d/\PySem.W.tabIn K x=some (c,r.1))/\(∀ (s:Shared) (v:Value),BindsTo s fd ⟨[v],[]⟩ [("script",v)]) /\
   (∀ base:Heap,K.In base->base.Ns mainGlobals mg->md mg base->nQ l.prog w K mg base CX0 26 fa fd ["script"] sp) /\ ∀ (H:Hp) (a:Addr) (ns:List Int),ns.length<=63->(∀ r∈tabs,xE H r.1 r.2)->SqL K H a (ns.map V.int)->sp [.ref a] H (fun v _=>v = .bl true) fun _ _ _=>False:=by
 obtain⟨fd,h1,h2⟩:=Gm (l:=l) (w:=w) (tabs := []) X Gn hfa D25 GC (fun _ _ _ _ _ _=>us1 fun _=>rfl) rfl (fun base hbb=>chain X Gn B   D0 D1 D2 D3 D4 D5 D6 D7 D8 D9 D10 D11 D12 D13 D14 D15 D16 D17 D18 D19 D20 D21 D22 D23 D24 [] [] [] base hbb) JI
 refine⟨[],fd,_,?_,h1,h2,fun H a ns hl hT hS=>J2 hT hS fun S h1 h2=>Ao ns hl S h1 h2⟩
 intro r hr
 cases hr
theorem walk {l:lU}{q:Program}{loose:List Str}{XP:(Str->Option Value)->Heap->Prop}{YP:World->Heap->Prop}{d:DefRec}{K:Params->ar} (hn:l.most=some 63) (hdf:d.params.defaults = [])
  (hY : ∀ (w:World) (h:Heap),YP w h->(K w.params).In h)
  (F : ∀ (w:World) (mg:Str->Option Value) (fa:Addr) (h:Heap),(K w.params).In h->h.Ns mainGlobals mg->mg d.name=some (.ref fa) -> ∃ (tabs:List (Addr×Str)) (fd:FuncData) (sp:Sp),
   (∀ r∈tabs,(K w.params).lookup r.1=none /\ ∃ x d c,(wN q).find? (fun e=>e.name == x)=some d/\PySem.W.tabIn (K w.params) x=some (c,r.1))/\(∀ (s:Shared) (v:Value),BindsTo s fd ⟨[v],[]⟩ [("script",v)]) /\
   (∀ base:Heap,(K w.params).In base->base.Ns mainGlobals mg->md mg base->nQ l.prog w (K w.params) mg base CX0 26 fa fd ["script"] sp) /\ ∀ (H:Hp) (a:Addr) (ns:List Int),ns.length<=63->(∀ r∈tabs,xE H r.1 r.2)->SqL (K w.params) H a (ns.map V.int)->sp [.ref a] H (fun v _=>v = .bl true) fun _ _ _=>False) :
  PySem.W.WalkO q loose XP YP l.row.toRowW d [] (fun f vs=>PySem.call f vs):=
 BI (n:=63) (k:=26) (x:="script") hn (by decide) hdf ⟨rfl,by decide,by decide,rfl⟩ hY F
end W
open PySem PySem.W PyProof.Rows
set_option maxRecDepth 100000 in
set_option maxHeartbeats 0 in
theorem PySem.Challenge.cw_groupwalks_k32_ways_and_rounds_looked_at_holds : PySem.Challenge.rw_groupwalks_k32_ways_and_rounds_looked_at.Holds := by
 w_on;o_law;k_head;(case hw=>w_witness2)
 k_fill
 refine W.walk (l:=PySem.Challenge.rw_groupwalks_k32_ways_and_rounds_looked_at) rfl rfl (fun w h Y=>PySem.W.kIn_of Y) ?F
 case F=>
  intro w mg fa h KX Gh hmg
  refine' W.all_mk KX Gh hmg ?B   (G.dv ?a0 ?l0 ?c0 ?k0) (G.dv ?a1 ?l1 ?c1 ?k1) (G.dv ?a2 ?l2 ?c2 ?k2) (G.dv ?a3 ?l3 ?c3 ?k3) (G.dv ?a4 ?l4 ?c4 ?k4) (G.dv ?a5 ?l5 ?c5 ?k5) (G.dv ?a6 ?l6 ?c6 ?k6) (G.dv ?a7 ?l7 ?c7 ?k7) (G.dv ?a8 ?l8 ?c8 ?k8) (G.dv ?a9 ?l9 ?c9 ?k9) (G.dv ?a10 ?l10 ?c10 ?k10) (G.dv ?a11 ?l11 ?c11 ?k11) (G.dv ?a12 ?l12 ?c12 ?k12) (G.dv ?a13 ?l13 ?c13 ?k13) (G.dv ?a14 ?l14 ?c14 ?k14) (G.dv ?a15 ?l15 ?c15 ?k15) (G.dv ?a16 ?l16 ?c16 ?k16) (G.dv ?a17 ?l17 ?c17 ?k17) (G.dv ?a18 ?l18 ?c18 ?k18) (G.dv ?a19 ?l19 ?c19 ?k19) (G.dv ?a20 ?l20 ?c20 ?k20) (G.dv ?a21 ?l21 ?c21 ?k21) (G.dv ?a22 ?l22 ?c22 ?k22) (G.dv ?a23 ?l23 ?c23 ?k23) (G.dv ?a24 ?l24 ?c24 ?k24) (G.dv ?a25 ?l25 ?c25 ?k25)
  case B=>
   intro x hx
   simp only [G.jJ,aK,dD,or_false] at hx
   rcases hx with rfl | rfl | rfl | rfl | rfl | rfl | rfl | rfl | rfl | rfl | rfl | rfl | rfl | rfl | rfl | rfl | rfl | rfl | rfl | rfl
   all_goals k_is
  (case a0=>k_is);(case l0=>k_is);(case c0=>k_is);(case k0=>k_is)
  (case a1=>k_is);(case l1=>k_is);(case c1=>k_is);(case k1=>k_is)
  (case a2=>k_is);(case l2=>k_is);(case c2=>k_is);(case k2=>k_is)
  (case a3=>k_is);(case l3=>k_is);(case c3=>k_is);(case k3=>k_is)
  (case a4=>k_is);(case l4=>k_is);(case c4=>k_is);(case k4=>k_is)
  (case a5=>k_is);(case l5=>k_is);(case c5=>k_is);(case k5=>k_is)
  (case a6=>k_is);(case l6=>k_is);(case c6=>k_is);(case k6=>k_is)
  (case a7=>k_is);(case l7=>k_is);(case c7=>k_is);(case k7=>k_is)
  (case a8=>k_is);(case l8=>k_is);(case c8=>k_is);(case k8=>k_is)
  (case a9=>k_is);(case l9=>k_is);(case c9=>k_is);(case k9=>k_is)
  (case a10=>k_is);(case l10=>k_is);(case c10=>k_is);(case k10=>k_is)
  (case a11=>k_is);(case l11=>k_is);(case c11=>k_is);(case k11=>k_is)
  (case a12=>k_is);(case l12=>k_is);(case c12=>k_is);(case k12=>k_is)
  (case a13=>k_is);(case l13=>k_is);(case c13=>k_is);(case k13=>k_is)
  (case a14=>k_is);(case l14=>k_is);(case c14=>k_is);(case k14=>k_is)
  (case a15=>k_is);(case l15=>k_is);(case c15=>k_is);(case k15=>k_is)
  (case a16=>k_is);(case l16=>k_is);(case c16=>k_is);(case k16=>k_is)
  (case a17=>k_is);(case l17=>k_is);(case c17=>k_is);(case k17=>k_is)
  (case a18=>k_is);(case l18=>k_is);(case c18=>k_is);(case k18=>k_is)
  (case a19=>k_is);(case l19=>k_is);(case c19=>k_is);(case k19=>k_is)
  (case a20=>k_is);(case l20=>k_is);(case c20=>k_is);(case k20=>k_is)
  (case a21=>k_is);(case l21=>k_is);(case c21=>k_is);(case k21=>k_is)
  (case a22=>k_is);(case l22=>k_is);(case c22=>k_is);(case k22=>k_is)
  (case a23=>k_is);(case l23=>k_is);(case c23=>k_is);(case k23=>k_is)
  (case a24=>k_is);(case l24=>k_is);(case c24=>k_is);(case k24=>k_is)
  (case a25=>k_is);(case l25=>k_is);(case c25=>k_is);(case k25=>k_is)
