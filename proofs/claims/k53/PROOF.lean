import PyProof.Rows.All
import Wide.All
import OpenK.AllK
import Wide.FinOn
import Lean
import PyProof.EqAt
import PyProof.EqKinds
import PyProof.TupleCall
import KE.KSortTup
import PyProof.EnumStmt
import PyProof.EnumMake
import PyProof.EnumFor
import PyProof.ZipIter
import PyProof.CompFree
import PyProof.CompMap
import PyProof.Cells
import PyProof.ListMulRoad
import PyProof.ConsumeWalk
import PyProof.TupleOfGen
import PyProof.ListRange
import PySem.Challenge.RW_groupwalks_k53_all_rounds_by_two_steps
set_option bootstrap.genMatcherCode false
set_option Elab.async false
set_option linter.all false
set_option maxRecDepth 100000
set_option maxHeartbeats 0
set_option compiler.postponeCompile true
set_option bootstrap.genMatcherCode false
set_option genSizeOfSpec false
set_option relaxedAutoImplicit false
set_option compiler.extract_closed false
theorem au1(h:0=0:=by rfl):0=0:=h
theorem au2(h:0=0:=by decide):0=0:=h
theorem au3(h:Nat->0=0:=by intro _;rfl):0=0:=h 0
theorem au4(h:0=0\/0=1:=by first |exact .inl rfl |exact .inr rfl |assumption):0=0:=rfl
noncomputable section
open Array renaming length_toList→ej,getElem?_toList→BV,toList_append→Fe
open Array.Perm renaming refl→EZ
open Bool renaming and_eq_true→ay,false_ne_true→bM,false_eq_true→fw,and_true→hV,or_eq_true→ni,and_eq_true_iff→oE
open Classical renaming propDecidable→bV,byContradiction→gc
open False renaming elim→di
open ForInStep renaming yield→dF
open Int renaming ofNat_lt→fK,toNat_natCast→kI,natCast_emod→mw,emod_lt_of_pos→sr,natCast_ediv→vY,toNat→vZ,emod_nonneg→yc,natCast_add→yd,eq_ofNat_of_zero_le→BZ
open List renaming getElem?_eq_some_iff→ai,length_map→aq,getElem?_append_right→av,size_toArray→aA,range→aB,mem_cons_of_mem→aC,getElem?_eq_getElem→aD,mem_cons→aG,mem_map→aI,getD_eq_getElem?_getD→aJ,getElem?_set_ne→aK,mem_range→aN,range'→aO,getElem?_append_left→aP,replicate→aR,nodup_iff_pairwise_ne→aS,length_append→aV,lookup_cons→aW,getElem?_set_self→aY,mem_cons_self→aZ,mem_append_right→bb,map_cons→bg,mem_filter→bo,length_range→bp,mem_append→bu,append_assoc→bz,mem_append_left→bA,length_cons→bB,getElem?_map→bG,map_congr_left→bH,find?_cons→bN,getElem_mem→bT,map_map→bX,mem_of_getElem?→bZ,all_cons→cf,pairwise_map→cx,eq_nil_of_length_eq_zero→cD,getElem?_eq_none_iff→cH,mem_singleton→cJ,all_eq_true→cR,nodup_cons→dj,nil_append→dk,replicate_succ→dw,length_filter_le→dz,map_append→dB,not_mem_nil→dC,set_append_right→eE,findIdx?_eq_some_iff_getElem→eG,drop_eq_getElem_cons→eM,length_nil→eQ,length_reverse→fb,any_eq_true→fg,take_of_length_le→fA,length_set→fM,forIn_cons→fN,any_cons→fS,getElem?_eq_none→fV,flatten_cons→f9,length_take→gH,pairwise_iff_getElem→gK,filterMap_cons→gO,append_nil→hZ,range_succ→h9,lookup_append→ic,getElem?_replicate→iw,map_nil→iQ,reverse_cons→iR,nodup_append→iS,all_nil→iT,mem_range'_1→iU,length_replicate→jb,drop_zero→j4,length→kE,take_add_one→kH,idxOf_lt_length_iff→kM,ext_getElem→lT,length_eq_zero_iff→lU,range'_succ→lV,getElem?_cons_zero→lX,filter_cons_of_pos→lY,filter_cons_of_neg→lZ,flatMap_def→md,pairwise_lt_range→mJ,drop_of_length_le→mK,of_mem_zip→nc,foldl_cons→nj,forIn_nil→oA,lookup→oC,range_eq_range'→oG,map→oH,reverse_append→pP,flatMap_append→pQ,findIdx?_cons→qC,find?_eq_none→qE,toArray→sx,flatMap_cons→sN,eraseIdxIfInBounds_toArray→tN,nodup_range→uE,drop_length→uI,mem_flatMap→uJ,getElem_map→uK,perm_ext_iff_of_nodup→yg,sum_cons→Ar,eraseIdx_cons_succ→BP,pairwise_mergeSort→BQ,getElem?_cons_succ→BR,length_eq_one_iff→BX,map_id'→B0,length_singleton→EY,dropLast_eq_take→E3,pairwise_flatMap→E5,getElem_toArray→Fd,map_eq_cons_iff→Ff,dropLast_concat→Fg,mem_iff_getElem→Fh
open List.Pairwise renaming imp_of_mem→dM,nil→gJ
open Nat renaming le_refl→ah,lt_of_lt_of_le→ao,lt_of_le_of_lt→aL,le_trans→aM,ne_of_lt→aQ,le_of_lt→aU,le_of_not_lt→bC,lt_succ_self→bD,mod_eq_of_lt→bE,lt_irrefl→bF,add_pos_left→bU,ne_of_gt→b0,zero_le→cn,le_succ→dD,mul_le_mul_right→dE,lt_trans→dI,lt_succ_of_lt→dJ,le_add_right→dX,zero_add→d5,le_succ_of_le→eS,le_of_lt_succ→eT,lt_succ_iff_lt_or_eq→eY,add_assoc→eZ,lt_of_le_of_ne→fJ,lt_or_eq_of_le→fL,div_eq_of_lt→gM,lt_of_succ_lt_succ→i0,mul_comm→j0,add_mod_right→kJ,sub_sub_right→kK,sub_add_comm→mv,succ_mul→ng,le_of_eq→nk,mod_lt→nq,add_zero→nr,mod_self→nu,sub_le→nv,mod_add_mod→ny,pow_le_pow_right→pE,mul_le_mul_left→p8,sub_add_cancel→sk,add_comm→tP,sub_self→tS,zero_lt_of_lt→tT,max_eq_left→xY,div_add_mod→yb,add_sub_cancel_left→BY
open Nat.succ renaming inj→yf
open Ne renaming symm→cZ
open Option renaming bind_some→ag,map_some→aT,isSome_iff_exists→gQ,isSome_map→qB,getD_some→sD,map_eq_some_iff→Ao,isSome_some→Fc
open Option.some renaming inj→bR,injEq→dS
open PUnit renaming unit→p7
open Prod.mk renaming injEq→ya
open PyProof.Rows renaming callWith_type1→cK,slot_tuple_getitem→cW,recsOf→mj,boot_sorted→sM,boot_tuple→tR
open PyProof.Rows.IsTup renaming new→lI
open PySem renaming wpAny_bind→ab,wpAny_pure→ar,wpAny→aH,wpAny_newObj_type→bP,wpAny_field→bS,mem_of_lookup→bY,wpAny_callSpecial?_slot→cz,wpAny_setField_rec→cQ,wpAny_call_entry→cY,wpAny_mono→dc,wpAny_loadPart'→dR,wpAny_holding→eh,wpAny_seqItems→fI,wpAny_Call_Name_kw→fY,wpAny_passesOwn→gn,codeAny_builtin→gp,wpAny_truthy_bool→gG,wpAny_typeOf→jq,codeAny_mono→kD,wpAny_pyIter_tuple→lG,PyData→mx,wpAny_assign_Name→mH,wpAny_pyIter_enum→mI,wpAny_comprehension_free→nh,wpAny_rule→pB,wpAny_execs_nil→pO,Addr→p9,wpAny_updateSeq_pair→si,codeAny→sv,wpAny_newList→uF,wpAny_attempt→uG,wpAny_onRaise→uH,wpAny_pyIter_list→xW,wpAny_sequenceKey→xX,wpAny_isInstance→zg,wpAny_letGo→An,wpAny_load→EW,wpAny_newTuple→E1,wpAny_letOwnedTupleGo_enum→E2,wpAny_runValue→E4
open PySem.Around renaming under_plainId→dY,frames_deeper→BU
open PySem.AutoSeq1 renaming idx_int→qD
open PySem.Builtin.List renaming listTooLong→jD,listExtendWith→p6,listSameRef→sJ
open PySem.Builtin.Range renaming rangeSize→dP,small→lJ
open PySem.Builtin.Slice renaming slicePlaces→cq,sliceAdjust→en,sliceApplied→ft,sliceFields→qA
open PySem.Builtin.SmallTypes renaming ownedTupleIsFree→b9,nextOf→cj,ownedTupleHandOut→dO
open PySem.Builtin.Tuple renaming tupleExact→bO,tupleItemsOf→jc,tupleIsExact→pZ,tupleTooMany→p5
open PySem.Calls renaming call_function_entry→kr,callWith_builtin→mq,evalArgs_plain→oy,spliced_cons→pY,Name_function_global→xV
open PySem.Data renaming cell→pz,seq→sy,fields→vU
open PySem.F renaming plain_list_iadd→gw,slot_tuple_iterator_next→gL,plainAttrs_list→hU,slot_enumerate_next→jr,args_tuple_add_2→ko,entry_tuple_add→kG,slot_tuple_add→lH,slot_zip_next→oB,entry_proto_collect→pC,plain_proto_collect→pD,args_tuple_mul_2→tQ,entry_tuple_mul→vW,entry_list_iadd→vX,slot_tuple_mul→x8,slot_tuple_index→x9,args_tuple_iterator_next_1→zf,entry_tuple_iterator_next→Am,slot_list_pop→Ap,type_list_pop→Aq,args_enumerate_next_1→Fb
open PySem.Heap renaming get?_push_of_some→af,get?_push_size→aw,lt_size→ax,size_push→ba,get?_update_other→dr,SameBut→eR,get?_update_self→fU,get?_push_ne→sH,ExtBut→E9
open PySem.Heap.IsSliceOf renaming new→lS
open PySem.Heap.SameBut renaming update→xZ
open PySem.IsL renaming update→EX
open PySem.NameKind renaming free→aX,cell→cM
open PySem.Obj renaming mapSeq→cg
open PySem.Paired renaming length→ye
open PySem.PassesOwn renaming never→sj
open PySem.PyData renaming eqvAll→cb,eqv→eN,int→fO,canLay0→iD,depthAll→jt,depth→jE,eqv→jK,canLayAll0→kq
open PySem.SeqAt.EqAt renaming int_str→Ak,str_int→Al
open PySem.Shared renaming heap→BW
open PySem.Str renaming ofString→fH
open PySem.Value renaming ref→bj,none→dh,type→hX,int→oz,str→tK,bool→xU
open PySem.W renaming Frag→aj,keepIn→cm,fnOf→cU,kia_one→dy,nsIn→eI,codeIn→fZ,cellsFrom_some→iu,findIn→jJ,mg_of→ku,OpenLaw→lW,callWith_K→pA,methodObj→pX,instObj→tL,lookIn→vV,hideAll_size→BN,hideAll_none→BO,hideAll_get→BS,of_hideAll→EV,specialIn→E6,kitx_list→E7,kitx_dict→E8
open Sum renaming inl→eF,inr→tJ
open Sum.inl renaming inj→su
open True renaming intro→fv
section
namespace _L
open PySem PySem.Spec PyProof.Rows
abbrev Key:=Sum Int Str
noncomputable def rK:Key->Value->Bool
 | .inl k,v=>Value.isInt k v
 | .inr x,v=>Value.isStrOf x v
noncomputable def OC(w:World):Key->Int
 | .inl k=>hashInt k
 | .inr x=>hashStr w x
theorem d8: ∀{k:Key}{v:Value},rK k v=true->(∃i t,k=eF i/\v=oz i t)\/(∃x t,k=tJ x/\v=tK x t)
 | .inl i,v,h=>by
   obtain⟨t,e⟩:=Value.isInt_shape (k:=i) (v:=v) h
   exact .inl ⟨i,t,rfl,e⟩
 | .inr x,v,h=>by
   obtain⟨t,e⟩:=Value.isStrOf_shape (x:=x) (v:=v) h
   exact .inr ⟨x,t,rfl,e⟩
theorem BH(i:Int)(t:Tok):rK (.inl i) (.int i t)=true:=by simp[rK,Value.isInt]
theorem AU(x:Str)(t:Tok):rK (.inr x) (.str x t)=true:=by simp[rK,Value.isStrOf]
theorem KS(a b:Int):decide ((eF a:Key)=eF b)=(a==b):=by
 by_cases e:a=b
 ·subst e;simp
 ·have h: ¬(eF a:Key)=eF b:=λq=>e (su q)
  rw[decide_eq_false h]
  exact(beq_eq_false_iff_ne.mpr e).symm
theorem Jw(a b:Str):decide ((tJ a:Key)=tJ b)=decide (a=b):=by
 by_cases e:a=b
 ·subst e;simp
 ·have h: ¬(tJ a:Key)=tJ b:=λq=>e (Sum.inr.inj q)
  rw[decide_eq_false h,decide_eq_false e]
theorem Jf(a:Int)(b:Str):decide ((eF a:Key)=tJ b)=false:=decide_eq_false (λq=>nomatch q)
theorem IM(a:Str)(b:Int):decide ((tJ a:Key)=eF b)=false:=decide_eq_false (λq=>nomatch q)
noncomputable def dQ(prog:Program)(w:World):PySem.KeyKind prog w Key where
 is:=rK
 hash:=OC w
 inj:=λv a b ha hb=>by
  rcases d8 ha with⟨i,t,rfl,rfl⟩ | ⟨x,t,rfl,rfl⟩
  ·rcases d8 hb with⟨j,u,rfl,e⟩ | ⟨y,u,rfl,e⟩
   ·injection e with e1 _;rw[e1]
   ·exact nomatch e
  ·rcases d8 hb with⟨j,u,rfl,e⟩ | ⟨y,u,rfl,e⟩
   ·exact nomatch e
   ·injection e with e1 _;rw[e1]
 byValue:=λk v h=>by
  rcases d8 h with⟨i,t,rfl,rfl⟩ | ⟨x,t,rfl,rfl⟩ <;> rfl
 pyHash:=λhv h=>by
  rcases d8 hv with⟨i,t,rfl,rfl⟩ | ⟨x,t,rfl,rfl⟩
  ·exact wpAny_pyHash_int h
  ·exact wpAny_pyHash_str h
 eqBool:=λhu hv h=>by
  rcases d8 hu with⟨i,t,rfl,rfl⟩ | ⟨x,t,rfl,rfl⟩
  ·rcases d8 hv with⟨j,u,rfl,rfl⟩ | ⟨y,u,rfl,rfl⟩
   ·rw[KS]at h;exact wpAny_eqBool_int h
   ·rw[Jf]at h;exact Ak i t y u _ _ _ _ h
  ·rcases d8 hv with⟨j,u,rfl,rfl⟩ | ⟨y,u,rfl,rfl⟩
   ·rw[IM]at h;exact Al x t j u _ _ _ _ h
   ·rw[Jw]at h;exact wpAny_eqBool_str h
 «strs»:=λk x t v h=>by
  rcases d8 h with⟨i,u,rfl,e⟩ | ⟨y,u,rfl,e⟩
  ·exact nomatch e
  ·injection e with e1 _
   subst e1
   cases v <;> rfl
theorem wI(prog:Program)(w:World)(i:Int)(t:Tok):(dQ prog w).is (.inl i) (.int i t)=true:=BH i t
theorem xP(prog:Program)(w:World)(x:Str)(t:Tok):(dQ prog w).is (.inr x) (.str x t)=true:=AU x t
end _L
namespace _L
open PySem PySem.Spec PyProof.Rows
inductive V where
 | non |bl (b:Bool) |int (i:Int) |str (x:Str) |byt (b:Array UInt8) |flt (b:UInt64) |ref (a:Addr) |ty (n:String)
 deriving DecidableEq
noncomputable def RelV:V->Value->Prop
 | .non,u=>u=dh
 | .bl b,u=>u=xU b
 | .int i,u =>∃t,u=oz i t
 | .str x,u =>∃t,u=tK x t
 | .byt b,u =>∃t,u=Value.bytes b t
 | .flt b,u =>∃t,u=Value.float b t
 | .ref a,u=>u=bj a
 | .ty n,u=>u=hX n
abbrev bW:List V->List Value->Prop:=Paired RelV
theorem bW.length{xs:List V}{us:List Value}(r:bW xs us):xs.length=us.length:=ye r
theorem bW.get: ∀{xs:List V}{us:List Value}{i:Nat}{x:V},bW xs us->xs[i]? = some x -> ∃u,us[i]? = some u/\RelV x u
 | _,_,_,_,.nil,e=>by simp at e
 | _,_,0,_,.cons r _,e=>by simp at e;subst e;exact⟨_,rfl,r⟩
 | _,_,i+1,x,.cons _ t,e=>by
   obtain⟨u,h1,h2⟩:=bW.get (i:=i) (x:=x) t (by simpa using e)
   exact⟨u,by simpa using h1,h2⟩
theorem bW.set{x:V}{u:Value}(r:RelV x u): ∀{xs:List V}{us:List Value} (i:Nat),bW xs us->bW (xs.set i x) (us.set i u)
 | _,_,_,.nil => .nil
 | _,_,0,.cons _ t => .cons r t
 | _,_,i+1,.cons q t => .cons q (bW.set r i t)
theorem bW.append: ∀{xs ys:List V}{us ws:List Value},bW xs us->bW ys ws->bW (xs++ys) (us++ws)
 | _,_,_,_,.nil,s=>s
 | _,_,_,_,.cons r t,s => .cons r (bW.append t s)
theorem bW.take: ∀{xs:List V}{us:List Value} (n:Nat),bW xs us->bW (xs.take n) (us.take n)
 | _,_,0,_ => .nil
 | _,_,_+1,.nil => .nil
 | _,_,n+1,.cons r t => .cons r (bW.take n t)
theorem bW.drop: ∀{xs:List V}{us:List Value} (n:Nat),bW xs us->bW (xs.drop n) (us.drop n)
 | _,_,0,r=>r
 | _,_,_+1,.nil => .nil
 | _,_,n+1,.cons _ t=>bW.drop n t
noncomputable def rO:Option V->Option Value->Prop
 | some v,some u=>RelV v u
 | none,none=>True
 | _,_=>False
noncomputable def KV{κ:Type}:List (κ×V)->List (κ×Value)->Prop:=Paired λ(p:κ×V) (q:κ×Value)=>p.1=q.1/\RelV p.2 q.2
noncomputable def kV:Key->V
 | .inl i => .int i
 | .inr x => .str x
inductive HO where
 | lst (xs:List V)
 | tup (xs:List V)
 | dK (kvs:List (Key×V)) |dT (kvs:List (List Key×V))
 | set (S:Int->Bool) (n:Nat)
 | ins (C dx:Addr) (fs:List (Str×V))
 | own (x:Addr)
 | xd (fs:List (Str×V))
 | met (f x:Addr)
 | rng (lo hi:Int)
 | frz (o:Obj) (u:HO)
 | tbl (ps:Array Value)
 | ext (φ:Heap->Prop)
abbrev Hp:=Addr->Option HO
noncomputable def upd(H:Hp)(a:Addr)(o:HO):Hp:=λb=>if b=a then some o else H b
theorem cw{H:Hp}{a:Addr}{o:HO}:upd H a o a=some o:=by unfold upd;rw[if_pos rfl]
theorem bw{H:Hp}{a b:Addr}{o:HO}(h:b≠a):upd H a o b=H b:=by unfold upd;rw[if_neg h]
theorem rh{H:Hp}{a b:Addr}{o u:HO}(h:H a=some o)(h':H b=some u)(d:o≠u):a≠b:=by
 intro e;subst e;rw[h]at h';exact d (bR h')
theorem bx{H:Hp}{a b:Addr}{o:HO}(h:H a=some o)(h':H b=none):a≠b:=by
 intro e;subst e;rw[h]at h';cases h'
section
variable (P:Program) (w:World)
noncomputable def d9(H:Hp)(h:Heap)(a:Addr):HO->Prop
 | .lst xs=>xs.length<=sizeLine /\ ∃ (its:List Value) (n:Nat),bW xs its/\h.get? a=some { cls := .type "list",data := .seq its.toArray n }
 | .tup xs=>xs.length<=sizeLine /\ ∃its:List Value,bW xs its/\IsTup h a its.toArray /\ ∃o,h.get? a=some o/\o.dict=none
 | .dK kvs=>kvs.length<=sizeLine/\(a==sysModules)=false /\ ∃vs,KV kvs vs/\h.DictOf (dQ P w) a vs
 | .dT kvs=>kvs.length<=sizeLine/\(a==sysModules)=false /\ ∃xs:List (List Key×Addr×Value),
   Paired (λ(p:List Key×V) (q:List Key×Addr×Value)=>p.1=q.1/\H q.2.1=some (.tup (p.1.map kV))/\RelV p.2 q.2.2) kvs xs /\
   ∃o es ep,h.get? a=some o/\o.ExactDict/\o.data = .dict es ep/\es.toList=xs.map (entryOfKey (tupleKind (dQ P w)))/\(xs.map (·.1)).Nodup
 | .set S n=>h.SetOf (intKind P w) a S n
 | .ins C dx fs=>H dx=some (.own a)/\fs.length<=1000/\dx≠a/\h.get? a=some (tL C dx) /\
   ∃mA,h.Ns1 dx mA/\(∀f,rO (fs.lookup f) (mA f))/\PySem.Within mA (fs.map (·.1))
 | .own _ =>∃o,h.get? a=some o
 | .xd fs =>∃mA,h.Ns1 a mA /\ ∀f,rO (fs.lookup f) (mA f)
 | .rng lo hi => ∃ t u v,h.get? a=some { cls := .type "range",data := .fields #[.int lo t,.int hi u,.int 1 v] }
 | .frz o u=>h.get? a=some o/\d9 H h a u
 | .tbl ps=>h.get? a=some { cls:= .none,data:= .fields ps }
 | .met f x=>h.get? a=some (pX (.ref f) (.ref x))
 | .ext φ=>φ h/\(∃o,h.get? a=some o) /\ ∀h1 h2:Heap,φ h1->(∀o,h1.get? a=some o->h2.get? a=some o)->φ h2
noncomputable def HOk(H:Hp)(h:Heap):Prop:= ∀a o,H a=some o->d9 P w H h a o
end
section
variable {P:Program}{w:World}{H H':Hp}{h h':Heap}{a:Addr}{o:HO}
theorem d9.lt(x:d9 P w H h a o):a<h.objs.size:=by
 cases o with
 | lst xs=>obtain⟨_,_,_,_,e⟩:=x;exact ax e
 | tup xs=>obtain⟨_,_,_,p⟩:=x;exact p.1.lt
 | dK kvs=>obtain⟨_,_,_,_,o,_,_,e,_⟩:=x;exact ax e
 | dT kvs=>obtain⟨_,_,_,_,o,_,_,e,_⟩:=x;exact ax e
 | set S n=>obtain⟨o,_,_,_,e,_⟩:=x;exact ax e
 | ins C dx fs=>obtain⟨_,_,_,e,_⟩:=x;exact ax e
 | own y=>obtain⟨_,e⟩:=x;exact ax e
 | xd fs=>obtain⟨_,⟨_,_,_,e,_⟩,_⟩:=x;exact ax e
 | rng lo hi=>obtain⟨_,_,_,e⟩:=x;exact ax e
 | frz ob u=>obtain⟨e,_⟩:=x;exact ax e
 | tbl ps=>exact ax (show h.get? a=some _ from x)
 | met f y=>exact ax (show h.get? a=some _ from x)
 | ext φ=>obtain⟨_,⟨_,e⟩,_⟩:=x;exact ax e
theorem Paired.mapP{α β:Type}{F G:α->β->Prop}: ∀{l₁:List α}{l₂:List β},Paired F l₁ l₂->(∀a b,F a b->G a b)->Paired G l₁ l₂:=by
 intro l m h f
 induction h with
 | nil=>exact .nil
 | cons r t ih=>exact .cons (f _ _ r) ih
theorem d9.stay(x:d9 P w H h a o)(k: ∀b u,(b=a\/H b=some (.own a))->h.get? b=some u->h'.get? b=some u)
  (ho: ∀b,H b=some (.own a)->H' b=some (.own a)) (ht: ∀b xs,H b=some (.tup xs)->H' b=some (.tup xs)):d9 P w H' h' a o:=by
 induction o with
 | lst xs=>obtain⟨z,its,n,r,e⟩:=x;exact⟨z,its,n,r,k _ _ (.inl rfl) e⟩
 | tup xs=>obtain⟨z,its,r,⟨ob,e,c⟩,o2,e2,c2⟩:=x;exact⟨z,its,r,⟨ob,k _ _ (.inl rfl) e,c⟩,o2,k _ _ (.inl rfl) e2,c2⟩
 | dK kvs=>obtain⟨z,y,vs,r,ob,es,ep,e,c⟩:=x;exact⟨z,y,vs,r,ob,es,ep,k _ _ (.inl rfl) e,c⟩
 | dT kvs=>
   obtain⟨z,y,xs,r,ob,es,ep,e,c⟩:=x
   exact⟨z,y,xs,Paired.mapP r λp q z=>⟨z.1,ht _ _ z.2.1,z.2.2⟩,ob,es,ep,k _ _ (.inl rfl) e,c⟩
 | set S n=>obtain⟨ob,es,ep,t,e,c⟩:=x;exact⟨ob,es,ep,t,k _ _ (.inl rfl) e,c⟩
 | ins C dx fs=>
   obtain⟨d,z,ne,e,mA,⟨od,es,ep,e2,c⟩,r⟩:=x
   exact⟨ho _ d,z,ne,k _ _ (.inl rfl) e,mA,⟨od,es,ep,k _ _ (.inr d) e2,c⟩,r⟩
 | own y=>obtain⟨ob,e⟩:=x;exact⟨ob,k _ _ (.inl rfl) e⟩
 | xd fs=>obtain⟨mA,⟨od,es,ep,e,c⟩,r⟩:=x;exact⟨mA,⟨od,es,ep,k _ _ (.inl rfl) e,c⟩,r⟩
 | rng lo hi=>obtain⟨t,u,v,e⟩:=x;exact⟨t,u,v,k _ _ (.inl rfl) e⟩
 | frz ob u ih=>obtain⟨e,q⟩:=x;exact⟨k _ _ (.inl rfl) e,ih q⟩
 | tbl ps=>
   have e:h.get? a=some { cls:= .none,data:= .fields ps }:=x
   show h'.get? a=some { cls:= .none,data:= .fields ps }
   exact k a _ (.inl rfl) e
 | met f y=>
   have e:h.get? a=some (pX (.ref f) (.ref y)):=x
   show h'.get? a=some (pX (.ref f) (.ref y))
   exact k a _ (.inl rfl) e
 | ext φ=>obtain⟨p,⟨o,e⟩,st⟩:=x;exact⟨st _ _ p λo q=>k _ _ (.inl rfl) q,⟨o,k _ _ (.inl rfl) e⟩,st⟩
theorem HOk.lt(x:HOk P w H h)(e:H a=some o):a<h.objs.size:=(x a o e).lt
theorem HOk.fresh(x:HOk P w H h)(e:h.objs.size<=a):H a=none:=by
 cases q:H a with
 | none=>rfl
 | some u=>exact absurd (ao (x.lt q) e) (bF _)
theorem HOk.kept(x:HOk P w H h)(k: ∀b u,h.get? b=some u->h'.get? b=some u):HOk P w H h':=λa o e=>
 (x a o e).stay (λb u _ q=>k b u q) (λ_ q=>q) λ_ _ q=>q
theorem HOk.laid(x:HOk P w H h)(k: ∀b u,h.get? b=some u->h'.get? b=some u)(hp:h.objs.size<=a)(new:d9 P w (upd H a o) h' a o):HOk P w (upd H a o) h':=λb u e=>by
 have hn:=x.fresh hp
 by_cases hb:b=a
 ·subst hb;rw[cw]at e;cases e;exact new
 ·rw[bw hb]at e
  exact(x b u e).stay (λc v _ q=>k c v q) (λc q=>by rw[bw (bx q hn)];exact q) λc xs q=>by rw[bw (bx q hn)];exact q
end
noncomputable def Rd(H:Hp)(a:Addr)(u:HO):Prop:=H a=some u \/ ∃o,H a=some (.frz o u)
theorem Rd.ok{P:Program}{w:World}{H:Hp}{h:Heap}{a:Addr}{u:HO}(r:Rd H a u)(x:HOk P w H h):d9 P w H h a u:=by
 rcases r with r | ⟨o,r⟩
 ·exact x a u r
 ·obtain⟨_,q⟩:=x a _ r
  exact q
noncomputable def Mut:Option HO->Prop
 | some (.lst _)=>True
 | some (.dK _)=>True
 | some (.dT _)=>True
 | some (.set _ _)=>True
 | some (.ins _ _ _)=>True
 | some (.ext _)=>True
 | _=>False
section
variable {P:Program}{w:World}{H:Hp}{h h':Heap}{x e:Addr}{o':HO}
theorem HOk.write(ok:HOk P w H h)(mu:Mut (H x))(he:e=x\/H e=some (.own x))(k: ∀b u,b≠e->h.get? b=some u->h'.get? b=some u)(heo: ∃u,h'.get? e=some u)
  (new:d9 P w (upd H x o') h' x o'):HOk P w (upd H x o') h':=λb u q=>by
 have nown: ∀c y,H c=some (.own y)->c≠x:=λc y r z=>by subst z;rw[r]at mu;exact mu
 have ntup: ∀c xs,H c=some (.tup xs)->c≠x:=λc xs r z=>by subst z;rw[r]at mu;exact mu
 by_cases hb:b=x
 ·subst hb;rw[cw]at q;cases q;exact new
 ·rw[bw hb]at q
  by_cases hbe:b=e
  ·have q':H b=some (.own x):=by
    rcases he with z |z
    ·exact absurd (hbe.trans z) hb
    ·rw[hbe];exact z
   rw[q]at q';cases q'
   obtain⟨v,hv⟩:=heo
   exact⟨v,by rw[hbe];exact hv⟩
  ·refine(ok b u q).stay (λc v hc r=>k c v ?_ r) (λc r=>by rw[bw (nown c b r)];exact r) λc xs r=>by rw[bw (ntup c xs r)];exact r
   rcases hc with rfl |hc
   ·exact hbe
   ·rintro rfl
    rcases he with z |z
    ·exact nown c b hc z
    ·rw[hc]at z;cases z;exact hb rfl
end
structure Un(fs ex:List Addr)(H H':Hp)(h h':Heap):Prop where
 keep: ∀b o,h.get? b=some o->H b=none->b∉fs->b∉ex->h'.get? b=some o
 slot: ∀b o,h.get? b=some o->H b=none->b∈fs->b∉ex -> ∃sl,h'.get? b=some { o with slots:=sl }
 free: ∀b o,h.get? b=some o->H b=none->b∉ex->H' b=none
 there: ∀b o,h.get? b=some o->b∉ex -> ∃o',h'.get? b=some o'
 tups: ∀b xs,H b=some (.tup xs)->H' b=some (.tup xs)
 frzs: ∀b o u,H b=some (.frz o u)->H' b=some (.frz o u)
 tbls: ∀b ps,H b=some (.tbl ps) -> ∃more,H' b=some (.tbl (ps++more))
section
variable {fs fs' ex ex':List Addr}{H H1 H2:Hp}{h h1 h2 h':Heap}{a x e:Addr}{o:HO}
theorem Un.any(u:Un fs ex H H1 h h1){b:Addr}{ob:Obj}(q:h.get? b=some ob)(n:H b=none)(hx:b∉ex): ∃sl,h1.get? b=some { ob with slots:=sl }:=by
 by_cases hb:b∈fs
 ·exact u.slot b ob q n hb hx
 ·exact⟨ob.slots,u.keep b ob q n hb hx⟩
theorem Un.kept(k: ∀b u,h.get? b=some u->h'.get? b=some u):Un fs ex H H h h':=
 ⟨λb ob q _ _ _=>k b ob q,λb ob q _ _ _=>⟨ob.slots,k b ob q⟩,λ_ _ _ n _=>n,λb ob q _=>⟨ob,k b ob q⟩,λ_ _ q=>q,λ_ _ _ q=>q,λ_ ps q=>⟨#[],by rw[q];simp⟩⟩
theorem Un.refl:Un fs ex H H h h:=Un.kept λ_ _ q=>q
theorem Un.laid(k: ∀b u,h.get? b=some u->h'.get? b=some u)(hp:h.objs.size<=a)(hn:H a=none):Un fs ex H (upd H a o) h h' where
 keep:=λb u q _ _ _=>k b u q
 slot:=λb u q _ _ _=>⟨u.slots,k b u q⟩
 free:=λb u q n _=>by rw[bw (aQ (ao (ax q) hp))];exact n
 there:=λb u q _=>⟨u,k b u q⟩
 tups:=λb xs q=>by rw[bw (bx q hn)];exact q
 frzs:=λb u xs q=>by rw[bw (bx q hn)];exact q
 tbls:=λb ps q=>⟨#[],by rw[bw (bx q hn),q];simp⟩
theorem Un.write(mu:Mut (H x))(he:e=x\/H e=some (.own x))(k: ∀b u,b≠e->h.get? b=some u->h'.get? b=some u)(heo: ∃u,h'.get? e=some u):Un fs ex H (upd H x o) h h':=by
 have hx: ∀b,H b=none->b≠x:=λb n z=>by subst z;rw[n]at mu;exact mu
 have hb: ∀b,H b=none->b≠e:=λb n z=>by
  subst z
  rcases he with r |r
  ·exact hx b n r
  ·rw[n]at r;cases r
 have hm: ∀b u,H b=some u -> ¬Mut (some u)->b≠x:=λb u q nm z=>by subst z;rw[q]at mu;exact nm mu
 refine⟨λb u q n _ _=>k b u (hb b n) q,λb u q n _ _=>⟨u.slots,k b u (hb b n) q⟩,λb u q n _=>by rw[bw (hx b n)];exact n,λb u q _ =>?_,
  λb xs q=>by rw[bw (hm b _ q λz=>z)];exact q,λb u xs q=>by rw[bw (hm b _ q λz=>z)];exact q,λb ps q=>⟨#[],by rw[bw (hm b _ q λz=>z),q];simp⟩⟩
 by_cases hbe:b=e
 ·subst hbe;exact heo
 ·exact⟨u,k b u hbe q⟩
end
noncomputable def trk(h:Heap)(H:Hp):List Addr:=(aB h.objs.size).filter λa=>(H a).isSome
noncomputable def s9(h:Heap)(H:Hp):Heap:=PySem.W.hideAll h (trk h H)
theorem uj(h:Heap)(H:Hp):(s9 h H).objs.size=h.objs.size:=BN _ _
theorem oa{h:Heap}{H:Hp}{b:Addr}{o:Obj}(e:h.get? b=some o)(n:H b=none):(s9 h H).get? b=some o:=
 BS _ e λhm=>by
  have q:(H b).isSome=true:=(bo.mp hm).2
  rw[n]at q;simp at q
theorem Ah{h:Heap}{H:Hp}{b:Addr}{o:Obj}(e:(s9 h H).get? b=some o):h.get? b=some o/\H b=none:=by
 have e':h.get? b=some o:=EV (trk h H) e
 refine⟨e',?_⟩
 cases q:H b with
 | none=>rfl
 | some x=>
   have hm:b∈trk h H:=bo.mpr ⟨aN.mpr (ax e'),by simp[q]⟩
   have z:(s9 h H).get? b=none:=BO (trk h H) hm
   rw[z]at e;cases e
noncomputable def FY(g h:Heap)(L:Addr):List (Addr×Obj):=(aB h.objs.size).filterMap λa=>if a=L\/(g.get? a).isSome=true then none else(h.get? a).map λo=>(a,o)
noncomputable def rest(g h:Heap)(L d:Addr):List (Addr×Obj):=(FY g h L).filter λp=>decide (p.1≠d)
end _L
namespace _L
open PySem PySem.Spec PyProof.Rows
structure Mod(K:aj)(mg:Str->Option Value)(base:Heap):Prop where
 kin:K.In base
 glob:base.Ns mainGlobals mg
 blt : ∃ mb,base.Ns builtinsNs mb /\ ∀ x:Str,x≠"__name__"->mb x=bootBuiltins x
 nolimit:base.NoLimit
set_option genInjectivity false in
structure Cx where
 prog:Program
 w:World
 K:aj
 mg:Str->Option Value
 base:Heap
 A:Around
 N:List Str
 s₀:Shared
 H₀:Hp
 env:Env
 outer:List Env
 stack:List Env
 ex:List Addr
 fn:Str->Bool
 calm:Bool
 pn:List (Addr×Obj)
 xe:Value->Shared->Prop
noncomputable def frs(l:List Env):List Addr:=l.filterMap (·.frame)
abbrev Cx.fs(X:Cx):List Addr:=frs X.outer
noncomputable def Vis(sc:Scope)(x:Str):Prop:=sc.names.lookup x=some .local\/sc.names.lookup x=some .cell\/sc.names.lookup x=some .free
noncomputable def Loc(sc:Scope)(x:Str):Prop:=sc.names.lookup x=some .local\/sc.names.lookup x=some .cell
noncomputable def Look(env:Env)(h:Heap)(m:Str->Option Value)(x:Str)(u:Value):Prop:=
 (env.kindOf x=some .local/\m x=some u)\/((env.kindOf x=some .cell\/env.kindOf x=some .free) /\ ∃c,env.cells.lookup x=some c/\h.IsCell c (some u))
structure Cx.Ok(X:Cx):Prop where
 mod:Mod X.K X.mg X.base
 kind:X.env.scope.kind = .function
 glob:X.env.globals=mainGlobals
 blt:X.env.builtins=builtinsNs
 above:X.s₀.heap.objs.size<=X.env.locals
 inj: ∀x y c,X.env.cells.lookup x=some c->X.env.cells.lookup y=some c->x=y
 has: ∀x,(X.env.kindOf x=some .cell\/X.env.kindOf x=some .free) -> ∃c,X.env.cells.lookup x=some c
 cab: ∀x c,X.fn x=true->X.env.cells.lookup x=some c->X.s₀.heap.objs.size<=c
 hd:X.calm=true->X.A.handled=none
 frames:X.A.frames=some X.stack
 stk:X.stack=X.outer\/(X.stack=X.env::X.outer/\X.env.frame=some X.env.locals)
 exf: ∀b∈X.ex,b≠X.env.locals /\ ∀x c,X.env.cells.lookup x=some c->c≠b
 bs: ∀b o,X.base.get? b=some o->X.s₀.heap.get? b=some o/\X.H₀ b=none
 bsz:X.base.objs.size<=X.s₀.heap.objs.size
 noex: ∀b o,X.base.get? b=some o->b∉X.ex
 exfs: ∀b∈X.ex,b∉X.fs
 funs:X.s₀.heap.FunFrames X.base X.outer
 frf: ∀b∈X.fs,X.H₀ b=none
structure Inv(X:Cx)(pins:List (Addr×Obj))(σ:List (Option V))(H:Hp)(s:Shared):Prop where
 ok:X.Ok
 os:s.os=X.s₀.os
 bare:AllBare s.gens
 base:Un X.fs X.ex X.H₀ H X.s₀.heap s.heap
 loc: ∃m,s.heap.Ns X.env.locals m /\ ∀(i:Nat) (x:Str) (v:V),X.N[i]? = some x->σ[i]? = some (some v)->Vis X.env.scope x -> ∃u,RelV v u/\Look X.env s.heap m x u
 cell: ∀x c,X.env.cells.lookup x=some c -> ∃v,s.heap.IsCell c v
 free:H X.env.locals=none
 freeC: ∀x c,X.env.cells.lookup x=some c->H c=none
 pin: ∀p∈X.pn++pins,s.heap.get? p.1=some p.2/\H p.1=none/\p.1≠X.env.locals/\p.1∉X.fs /\ ∀v,p.2.data≠.cell v
 hok:HOk X.prog X.w H s.heap
 len:σ.length=X.N.length
section
variable {X:Cx}{pins:List (Addr×Obj)}{σ:List (Option V)}{H H':Hp}{s:Shared}{h':Heap}
theorem Cx.Ok.nofr(ok:X.Ok){b:Addr}{o:Obj}(e:X.base.get? b=some o):b∉X.fs:=λhb=>by
 have:=(ok.funs.mem hb).1
 rw[e]at this;cases this
theorem Inv.bs(I:Inv X pins σ H s): ∀b o,X.base.get? b=some o->s.heap.get? b=some o/\H b=none:=λb o e=>
 ⟨I.base.keep b o (I.ok.bs b o e).1 (I.ok.bs b o e).2 (I.ok.nofr e) (I.ok.noex b o e),I.base.free b o (I.ok.bs b o e).1 (I.ok.bs b o e).2 (I.ok.noex b o e)⟩
theorem Inv.bk(I:Inv X pins σ H s): ∀b o,X.base.get? b=some o->s.heap.get? b=some o:=λb o e=>(I.bs b o e).1
theorem Inv.mod(I:Inv X pins σ H s):Mod X.K X.mg X.base:=I.ok.mod
theorem Inv.kIn(I:Inv X pins σ H s):X.K.In s.heap:=I.ok.mod.kin.keeps I.bk
theorem Inv.lt(I:Inv X pins σ H s):X.env.locals<s.heap.objs.size:=let ⟨_,hn,_⟩:=I.loc;hn.lt
theorem Inv.sz(I:Inv X pins σ H s):X.s₀.heap.objs.size<=s.heap.objs.size:=aM I.ok.above (aU I.lt)
theorem Inv.nofs(I:Inv X pins σ H s){a:Addr}(h:s.heap.objs.size<=a):a∉X.fs:=λhb=>by
 obtain⟨_,o,ho,_⟩:=I.ok.funs.mem hb
 exact absurd (ao (ax ho) (aM I.sz h)) (bF _)
theorem Inv.cne(I:Inv X pins σ H s): ∀x c,X.env.cells.lookup x=some c->c≠X.env.locals:=λx c e z=>by
 obtain⟨v,o,ho,hd⟩:=I.cell x c e
 obtain⟨m,⟨o',es,ep,ho',hd',_⟩,_⟩:=I.loc
 rw[z,ho']at ho;cases ho;rw[hd']at hd;cases hd
theorem Inv.funs(I:Inv X pins σ H s):s.heap.FunFrames X.base X.outer:=by
 have all: ∀(l:List Env),(∀b∈frs l,b∈X.fs)->X.s₀.heap.FunFrames X.base l->s.heap.FunFrames X.base l:=by
  intro l
  induction l with
  | nil=>intro _ _;trivial
  | cons env r ih=>
    intro hs hl
    obtain⟨hk,⟨L,o,hf,hn,ho,hd⟩,hr⟩:=hl
    have hL:L∈X.fs:=hs L (by unfold frs;rw[gO,hf];exact aZ)
    obtain⟨sl,e⟩:=I.base.slot L o ho (I.ok.frf L hL) hL λz=>I.ok.exfs L z hL
    exact⟨hk,⟨L,_,hf,hn,e,hd⟩,ih (λb hb=>hs b (by unfold frs;rw[gO,hf];exact aC _ hb)) hr⟩
 exact all X.outer (λ_ hb=>hb) I.ok.funs
theorem Inv.stack(I:Inv X pins σ H s):s.heap.FunFrames X.base X.stack:=by
 rcases I.ok.stk with e | ⟨e,hf⟩
 ·rw[e];exact I.funs
 ·rw[e]
  obtain⟨m,hn,_⟩:=I.loc
  refine .cons (by rw[I.ok.kind];decide) hf hn ?_ I.funs
  exact Heap.get?_none_of_le (aM I.ok.bsz I.ok.above)
theorem Inv.stkSub(I:Inv X pins σ H s): ∀b∈frs X.stack,b∈X.env.locals::X.fs:=λb hb=>by
 rcases I.ok.stk with e | ⟨e,hf⟩
 ·rw[e]at hb;exact aC _ hb
 ·rw[e]at hb
  unfold frs at hb
  rw[gO,hf]at hb
  exact hb
theorem Inv.stkFree(I:Inv X pins σ H s): ∀b∈frs X.stack,H b=none:=λb hb=>by
 rcases aG.mp (I.stkSub b hb) with e |hb
 ·rw[e];exact I.free
 ·obtain⟨_,o,ho,_⟩:=I.ok.funs.mem hb
  exact I.base.free b o ho (I.ok.frf b hb) λz=>I.ok.exfs b z hb
theorem Inv.step{g':Array GenState}{t':Nat}{d':Drawn}{ch:List Addr}(I:Inv X pins σ H s)
  (hch: ∀b∈ch,(b∈X.ex\/X.s₀.heap.objs.size<=b)/\b≠X.env.locals/\(∀x c,X.env.cells.lookup x=some c->c≠b) /\ ∀p∈X.pn++pins,p.1≠b)
  (keep: ∀b o,b≠X.env.locals->b∉X.fs->b∉ch->s.heap.get? b=some o->H b=none->h'.get? b=some o)
  (slot: ∀b o,b≠X.env.locals->b∈X.fs->b∉ch->s.heap.get? b=some o->H b=none -> ∃sl,h'.get? b=some { o with slots:=sl }) (free: ∀b o,b∉ch->s.heap.get? b=some o->H b=none->H' b=none)
  (there: ∀b o,b∉ch->s.heap.get? b=some o -> ∃o',h'.get? b=some o')
  (tups: ∀b xs,H b=some (.tup xs)->H' b=some (.tup xs)) (frzs: ∀b o u,H b=some (.frz o u)->H' b=some (.frz o u)) (tbls: ∀b ps,H b=some (.tbl ps) -> ∃more,H' b=some (.tbl (ps++more)))
  (ns: ∀m,s.heap.Ns X.env.locals m->h'.Ns X.env.locals m) (hok:HOk X.prog X.w H' h') (hg:AllBare g'):
  Inv X pins σ H' { s with heap:=h',gens:=g',drawn:=d',toks:=t' }:=by
 have neL: ∀b o,X.s₀.heap.get? b=some o->b≠X.env.locals:=λb o e=>aQ (ao (ax e) I.ok.above)
 have neC: ∀b o,X.s₀.heap.get? b=some o->b∉X.ex->b∉ch:=λb o e hx hb=>by
  rcases (hch b hb).1 with z |z
  ·exact hx z
  ·exact absurd (ao (ax e) z) (bF _)
 have cellK: ∀x c,X.env.cells.lookup x=some c -> ∀v,s.heap.IsCell c v->h'.IsCell c v:=λx c e v ⟨o,ho,hd⟩=>by
  have nch:c∉ch:=λz=>(hch c z).2.2.1 x c e rfl
  by_cases hc:c∈X.fs
  ·obtain⟨sl,q⟩:=slot c o (I.cne x c e) hc nch ho (I.freeC x c e)
   exact⟨_,q,hd⟩
  ·exact⟨o,keep c o (I.cne x c e) hc nch ho (I.freeC x c e),hd⟩
 refine⟨I.ok,I.os,hg,⟨λb o e n hb hx =>?_,λb o e n hb hx =>?_,λb o e n hx =>?_,λb o e hx =>?_,λb xs e=>tups b xs (I.base.tups b xs e),λb o xs e=>frzs b o xs (I.base.frzs b o xs e),λb ps e =>?_⟩,?_,λx c e =>?_,?_,λx c e =>?_,λp hp =>?_,hok,I.len⟩
 ·exact keep b o (neL b o e) hb (neC b o e hx) (I.base.keep b o e n hb hx) (I.base.free b o e n hx)
 ·obtain⟨sl,e1⟩:=I.base.slot b o e n hb hx
  obtain⟨sl',e2⟩:=slot b _ (neL b o e) hb (neC b o e hx) e1 (I.base.free b o e n hx)
  exact⟨sl',e2⟩
 ·obtain⟨o',e1⟩:=I.base.there b o e hx
  exact free b o' (neC b o e hx) e1 (I.base.free b o e n hx)
 ·obtain⟨o',e1⟩:=I.base.there b o e hx
  exact there b o' (neC b o e hx) e1
 ·obtain⟨m1,e1⟩:=I.base.tbls b ps e
  obtain⟨m2,e2⟩:=tbls b _ e1
  exact⟨m1++m2,by rw[e2,Array.append_assoc]⟩
 ·obtain⟨m,hn,hl⟩:=I.loc
  refine⟨m,ns m hn,λi x v e1 e2 e3 =>?_⟩
  obtain⟨u,r,l⟩:=hl i x v e1 e2 e3
  refine⟨u,r,?_⟩
  rcases l with l | ⟨k,c,e,z⟩
  ·exact .inl l
  ·exact .inr ⟨k,c,e,cellK x c e _ z⟩
 ·obtain⟨v,z⟩:=I.cell x c e
  exact⟨v,cellK x c e v z⟩
 ·obtain⟨m,⟨o,_,_,ho,_⟩,_⟩:=I.loc
  exact free _ o (λz=>(hch _ z).2.1 rfl) ho I.free
 ·obtain⟨v,o,ho,hd⟩:=I.cell x c e
  exact free c o (λz=>(hch c z).2.2.1 x c e rfl) ho (I.freeC x c e)
 ·obtain⟨e,n,ne,nf,d⟩:=I.pin p hp
  have nch:p.1∉ch:=λz=>(hch p.1 z).2.2.2 p hp rfl
  exact⟨keep p.1 p.2 ne nf nch e n,free p.1 p.2 nch e n,ne,nf,d⟩
theorem Inv.un{t':Nat}(I:Inv X pins σ H s)(u:Un X.fs [] H H' s.heap h')(hok:HOk X.prog X.w H' h'):Inv X pins σ H' { s with heap:=h',toks:=t' }:=by
 obtain⟨m,⟨o,es,ep,ho,r⟩,_⟩:=id I.loc
 obtain⟨sl,hL⟩:=u.any ho I.free (by simp)
 exact I.step (g':=s.gens) (d':=s.drawn) (ch:= []) (λ_ z=>nomatch z) (λb o _ hb _ e n=>u.keep b o e n hb (by simp)) (λb o _ hb _ e n=>u.slot b o e n hb (by simp)) (λb o _ e n=>u.free b o e n (by simp)) (λb o _ e=>u.there b o e (by simp)) u.tups u.frzs u.tbls (λm' hm=>by
  obtain⟨o',es',ep',ho',r'⟩:=hm
  rw[ho]at ho';cases ho'
  exact⟨_,es',ep',hL,r'⟩) hok I.bare
theorem Inv.call{g':Array GenState}{t':Nat}{d':Drawn}{ch:List Addr}(I:Inv X pins σ H s)(u:Un (frs X.stack) ch H H' s.heap h')(hok:HOk X.prog X.w H' h')(hg:AllBare g')
  (hch: ∀b∈ch,(b∈X.ex\/X.s₀.heap.objs.size<=b)/\b≠X.env.locals/\(∀x c,X.env.cells.lookup x=some c->c≠b) /\ ∀p∈X.pn++pins,p.1≠b):
  Inv X pins σ H' { s with heap:=h',gens:=g',drawn:=d',toks:=t' }:=by
 obtain⟨m,⟨o,es,ep,ho,r⟩,_⟩:=id I.loc
 obtain⟨sl,hL⟩:=u.any ho I.free λz=>(hch _ z).2.1 rfl
 exact I.step (ch:=ch) hch (λb o hL hb hc e n=>u.keep b o e n (λz=>(aG.mp (I.stkSub b z)).elim hL hb) hc) (λb o _ _ hc e n=>u.any e n hc) (λb o hc e n=>u.free b o e n hc) (λb o hc e=>u.there b o e hc) u.tups u.frzs u.tbls (λm' hm=>by
  obtain⟨o',es',ep',ho',r'⟩:=hm
  rw[ho]at ho';cases ho'
  exact⟨_,es',ep',hL,r'⟩) hok hg
theorem Inv.turned{t':Nat}{it:Addr}(I:Inv X pins σ H s)(k: ∀b o,b≠it->s.heap.get? b=some o->h'.get? b=some o)(hn:H it=none)(hL:it≠X.env.locals)
  (h1:it∈X.ex\/X.s₀.heap.objs.size<=it) (h2: ∀x c,X.env.cells.lookup x=some c->c≠it) (h3: ∀p∈X.pn++pins,p.1≠it):Inv X pins σ H { s with heap:=h',toks:=t' }:=by
 have nit: ∀b u,H b=some u->b≠it:=λb u e z=>by rw[z,hn]at e;cases e
 refine I.step (g':=s.gens) (d':=s.drawn) (ch:= [it]) (λb hb =>?_) (λb o _ _ hc e _=>k b o (λz=>hc (by simp[z])) e) (λb o _ _ hc e _=>⟨o.slots,k b o (λz=>hc (by simp[z])) e⟩) (λ_ _ _ _ n=>n)
  (λb o hc e=>⟨o,k b o (λz=>hc (by simp[z])) e⟩) (λ_ _ e=>e) (λ_ _ _ e=>e) (λb ps e=>⟨#[],by rw[e];simp⟩) (λm hm =>?_) (λb u e =>?_) I.bare
 ·have e:b=it:=by simpa using hb
  subst e
  exact⟨h1,hL,h2,h3⟩
 ·obtain⟨o,es,ep,ho,r⟩:=hm
  exact⟨o,es,ep,k _ o (cZ hL) ho,r⟩
 ·refine(I.hok b u e).stay (λc v hc q=>k c v ?_ q) (λ_ q=>q) λ_ _ q=>q
  rcases hc with z |z
  ·rw[z];exact nit b u e
  ·exact nit c _ z
theorem Inv.tok(I:Inv X pins σ H s)(t:Nat):Inv X pins σ H { s with toks:=t }:=I.un (h':=s.heap) (t':=t) Un.refl I.hok
theorem Inv.kept{t':Nat}(I:Inv X pins σ H s)(k: ∀b u,s.heap.get? b=some u->h'.get? b=some u):Inv X pins σ H { s with heap:=h',toks:=t' }:=I.un (Un.kept k) (I.hok.kept k)
theorem Inv.laid{a:Addr}{o:HO}{t':Nat}(I:Inv X pins σ H s)(k: ∀b u,s.heap.get? b=some u->h'.get? b=some u)(hp:s.heap.objs.size<=a)(new:d9 X.prog X.w (upd H a o) h' a o):
  Inv X pins σ (upd H a o) { s with heap:=h',toks:=t' }:=I.un (Un.laid k hp (I.hok.fresh hp)) (I.hok.laid k hp new)
theorem Inv.write{x e:Addr}{o:HO}{t':Nat}(I:Inv X pins σ H s)(mu:Mut (H x))(he:e=x\/H e=some (.own x))(k: ∀b u,b≠e->s.heap.get? b=some u->h'.get? b=some u)(heo: ∃u,h'.get? e=some u)
  (new:d9 X.prog X.w (upd H x o) h' x o):Inv X pins σ (upd H x o) { s with heap:=h',toks:=t' }:=I.un (Un.write mu he k heo) (I.hok.write mu he k heo new)
theorem Inv.weak{σ':List (Option V)}(I:Inv X pins σ H s)(hl:σ'.length=σ.length)(w: ∀(i:Nat) v,σ'[i]? = some (some v)->σ[i]? = some (some v)):Inv X pins σ' H s:=
 ⟨I.ok,I.os,I.bare,I.base,let ⟨m,hn,hl'⟩:=I.loc;⟨m,hn,λi x v e1 e2 e3=>hl' i x v e1 (w i v e2) e3⟩,I.cell,I.free,I.freeC,I.pin,I.hok,hl.trans I.len⟩
theorem Inv.pins_of{pins':List (Addr×Obj)}(I:Inv X pins σ H s)(h: ∀p∈pins',s.heap.get? p.1=some p.2/\H p.1=none/\p.1≠X.env.locals/\p.1∉X.fs /\ ∀v,p.2.data≠.cell v):Inv X pins' σ H s:=
 ⟨I.ok,I.os,I.bare,I.base,I.loc,I.cell,I.free,I.freeC,λp hp=>(bu.mp hp).elim (λz=>I.pin p (bA _ z)) (h p),I.hok,I.len⟩
theorem xM{N:List Str}(hN:N.Nodup){i j:Nat}{x:Str}(a:N[i]? = some x)(b:N[j]? = some x):i=j:=by
 obtain⟨h1,e1⟩:=ai.mp a
 obtain⟨h2,e2⟩:=ai.mp b
 exact(List.getElem_inj hN).mp (e1.trans e2.symm)
theorem ua{M:Model}{A:Around}{E:Value->Shared->Prop}{i:Nat}{x:Str}{v:V}{u:Value}{Q:Unit->Shared->Prop}(I:Inv X pins σ H s)(hN:X.N.Nodup)(hi:X.N[i]? = some x)(hx:Loc X.env.scope x)(r:RelV v u)
  (h: ∀s',Inv X pins (σ.set i (some v)) H s'->(∃a,eR a s.heap s'.heap/\(a=X.env.locals\/X.env.cells.lookup x=some a))->Q () s') (hf:autoParam (X.fn x=true\/X.env.scope.names.lookup x=some .local) au4._auto_1):aH M A (storeName X.env x u) Q E s:=by
 obtain⟨m,hn,hl⟩:=id I.loc
 have hcls:(X.env.scope.kind==.class||(X.env.scope.kind==.module&&X.env.locals != X.env.globals))=false:=by rw[I.ok.kind];rfl
 have hiσ:i<σ.length:=by rw[I.len];exact(ai.mp hi).1
 have cne:=I.cne
 have tracked: ∀{a:Addr}{h':Heap},(∃o,s.heap.get? a=some o/\H a=none)->eR a s.heap h'->HOk X.prog X.w H h':=λ{a h'} ha hs b ob e=>by
  obtain⟨_,_,hfree⟩:=ha
  refine(I.hok b ob e).stay (λc w' hc q=>(hs.2 c ?_).trans q) (λ_ q=>q) λ_ _ q=>q
  rintro rfl
  rcases hc with rfl |hc
  ·rw[hfree]at e;cases e
  ·rw[hfree]at hc;cases hc
 rcases hx with hk |hk
 ·refine wpAny_storeName_local hk hn (λh' hn' hs =>?_) hcls
  obtain⟨oL,_,_,hoL,_⟩:=id hn
  refine h _ ⟨I.ok,I.os,I.bare,⟨λb o e n hb hx =>?_,λb o e n hb hx =>?_,I.base.free,λb o e hx =>?_,I.base.tups,I.base.frzs,I.base.tbls⟩,⟨_,hn',λj y v' e1 e2 e3 =>?_⟩,λy c e =>?_,I.free,I.freeC,λp hp =>?_,tracked ⟨oL,hoL,I.free⟩ hs,by simpa using I.len⟩ ⟨_,hs,.inl rfl⟩
  ·exact(hs.2 b (aQ (ao (ax e) I.ok.above))).trans (I.base.keep b o e n hb hx)
  ·obtain⟨sl,e1⟩:=I.base.slot b o e n hb hx
   exact⟨sl,(hs.2 b (aQ (ao (ax e) I.ok.above))).trans e1⟩
  ·obtain⟨o',e1⟩:=I.base.there b o e hx
   exact⟨o',(hs.2 b (aQ (ao (ax e) I.ok.above))).trans e1⟩
  ·by_cases hj:j=i
   ·subst hj
    rw[hi]at e1;cases e1
    rw[aY hiσ]at e2
    cases e2
    exact⟨u,r,.inl ⟨hk,by simp⟩⟩
   ·rw[aK (cZ hj)]at e2
    obtain⟨u',r',q⟩:=hl j y v' e1 e2 e3
    refine⟨u',r',?_⟩
    rcases q with⟨k,e⟩ | ⟨k,c,e,z⟩
    ·refine .inl ⟨k,?_⟩
     have:y≠x:=λe=>hj (xM hN e1 (e▸hi))
     simp[this,e]
    ·exact .inr ⟨k,c,e,z.sameBut hs (cne y c e)⟩
  ·obtain⟨w',z⟩:=I.cell y c e
   exact⟨w',z.sameBut hs (cne y c e)⟩
  ·obtain⟨e,n,ne,nf,d⟩:=I.pin p hp
   exact⟨(hs.2 p.1 ne).trans e,n,ne,nf,d⟩
 ·have hfn:X.fn x=true:=by
   rcases hf with z |z
   ·exact z
   ·rw[z]at hk;cases hk
  obtain⟨c,hc⟩:=I.ok.has x (.inl hk)
  obtain⟨w',z⟩:=I.cell x c hc
  refine wpAny_storeName_cell I.ok.kind hk hc z (λh' hc' hs =>?_)
  obtain⟨oc,hoc,hocd⟩:=id z
  refine h { s with heap:=h' } ⟨I.ok,I.os,I.bare,⟨λb o e n hb hx =>?_,λb o e n hb hx =>?_,I.base.free,λb o e hx =>?_,I.base.tups,I.base.frzs,I.base.tbls⟩,⟨m,hn.sameBut hs (cZ (cne x c hc)),λj y v' e1 e2 e3 =>?_⟩,λy c' e =>?_,I.free,I.freeC,λp hp =>?_,tracked ⟨oc,hoc,I.freeC x c hc⟩ hs,by simpa using I.len⟩ ⟨c,hs,.inr hc⟩
  ·exact(hs.2 b (aQ (ao (ax e) (I.ok.cab x c hfn hc)))).trans (I.base.keep b o e n hb hx)
  ·obtain⟨sl,e1⟩:=I.base.slot b o e n hb hx
   exact⟨sl,(hs.2 b (aQ (ao (ax e) (I.ok.cab x c hfn hc)))).trans e1⟩
  ·obtain⟨o',e1⟩:=I.base.there b o e hx
   exact⟨o',(hs.2 b (aQ (ao (ax e) (I.ok.cab x c hfn hc)))).trans e1⟩
  ·by_cases hj:j=i
   ·subst hj
    rw[hi]at e1;cases e1
    rw[aY hiσ]at e2
    cases e2
    exact⟨u,r,.inr ⟨.inl hk,c,hc,hc'⟩⟩
   ·rw[aK (cZ hj)]at e2
    obtain⟨u',r',q⟩:=hl j y v' e1 e2 e3
    refine⟨u',r',?_⟩
    rcases q with q | ⟨k,c',e,z'⟩
    ·exact .inl q
    ·refine .inr ⟨k,c',e,z'.sameBut hs ?_⟩
     rintro rfl
     exact hj (xM hN e1 (I.ok.inj _ _ _ e hc▸hi))
  ·by_cases hcc:c'=c
   ·subst hcc;exact⟨_,hc'⟩
   ·obtain⟨w2,z2⟩:=I.cell y c' e
    exact⟨w2,z2.sameBut hs hcc⟩
  ·obtain⟨e,n,ne,nf,d⟩:=I.pin p hp
   refine⟨(hs.2 p.1 ?_).trans e,n,ne,nf,d⟩
   intro q
   rw[q,hoc]at e
   have q':oc=p.2:=bR e
   exact d w' (by rw[<- q'];exact hocd)
theorem nB{M:Model}{A:Around}{E:Value->Shared->Prop}{i:Nat}{x:Str}{v:V}{u:Value}{Q:Unit->Shared->Prop}(I:Inv X pins σ H s)(hN:X.N.Nodup)(hi:X.N[i]? = some x)(hx:Loc X.env.scope x)(r:RelV v u)
  (h: ∀s',Inv X pins (σ.set i (some v)) H s'->Q () s') (hf:autoParam (X.fn x=true\/X.env.scope.names.lookup x=some .local) au4._auto_1):aH M A (storeName X.env x u) Q E s:=
 ua I hN hi hx r (λs' I' _=>h s' I') hf
theorem Inv.call'{s':Shared}{ch:List Addr}(I:Inv X pins σ H s)(ho:s'.os=s.os)(u:Un (frs X.stack) ch H H' s.heap s'.heap)(hok:HOk X.prog X.w H' s'.heap)(hg:AllBare s'.gens)
  (hch: ∀b∈ch,(b∈X.ex\/X.s₀.heap.objs.size<=b)/\b≠X.env.locals/\(∀x c,X.env.cells.lookup x=some c->c≠b) /\ ∀p∈X.pn++pins,p.1≠b):Inv X pins σ H' s':=by
 obtain⟨h',g',d',t',o'⟩:=s'
 have e:o'=s.os:=ho
 subst e
 exact I.call (g':=g') (t':=t') (d':=d') u hok hg hch
end
abbrev XK:=Value->Option Addr->Hp->Prop
abbrev St:=List (Option V)
abbrev VK:=V->Hp->Prop
abbrev TE:=St->Hp->VK->Prop
abbrev TT:=St->Hp->(Bool->Hp->Prop)->Prop
abbrev TA:=St->Hp->(List V->Hp->Prop)->Prop
structure Ends where
 nx:St->Hp->Prop
 rt:VK
 bk:St->Hp->Prop:=λ_ _=>False
 ct:St->Hp->Prop:=λ_ _=>False
abbrev TS:=Ends->St->Hp->Prop
noncomputable def EP(X:Cx)(pins:List (Addr×Obj))(σ:St)(Q:VK)(u:Value)(s':Shared):Prop:= ∃v H',Inv X pins σ H' s'/\RelV v u/\Q v H'
noncomputable def TP(X:Cx)(pins:List (Addr×Obj))(σ:St)(Q:Bool->Hp->Prop)(b:Bool)(s':Shared):Prop:= ∃H',Inv X pins σ H' s'/\Q b H'
noncomputable def AP(X:Cx)(pins:List (Addr×Obj))(σ:St)(Q:List V->Hp->Prop)(us:List Value)(s':Shared):Prop:= ∃vs H',Inv X pins σ H' s'/\bW vs us/\Q vs H'
noncomputable def SP(X:Cx)(pins:List (Addr×Obj))(D:Ends)(f:Flow)(s':Shared):Prop:=
 match f with
 | .next =>∃σ' H',Inv X pins σ' H' s'/\D.nx σ' H'
 | .brk =>∃σ' H',Inv X pins σ' H' s'/\D.bk σ' H'
 | .cont =>∃σ' H',Inv X pins σ' H' s'/\D.ct σ' H'
 | .ret u =>∃v σ' H',Inv X pins σ' H' s'/\RelV v u/\D.rt v H'
noncomputable def PE(X:Cx)(e:Expr)(t:TE):Prop:=
 ∀(pins:List (Addr×Obj)) (s:Shared) (σ:St) (H:Hp) (Q:VK),Inv X pins σ H s->t σ H Q->aH (model X.prog X.w) X.A (eval e X.env) (EP X pins σ Q) X.xe s
noncomputable def PT(X:Cx)(e:Expr)(t:TT):Prop:=
 ∀(pins:List (Addr×Obj)) (s:Shared) (σ:St) (H:Hp) (Q:Bool->Hp->Prop),Inv X pins σ H s->t σ H Q->aH (model X.prog X.w) X.A (isTrue e X.env (eval e X.env)) (TP X pins σ Q) X.xe s
noncomputable def PW(X:Cx)(e:Expr)(t:TT):Prop:=
 ∀(whole:Sem Value) (pins:List (Addr×Obj)) (s:Shared) (σ:St) (H:Hp) (Q:Bool->Hp->Prop),Inv X pins σ H s->t σ H Q->aH (model X.prog X.w) X.A (isTrue e X.env whole) (TP X pins σ Q) X.xe s
theorem PW.pt{X:Cx}{e:Expr}{t:TT}(h:PW X e t):PT X e t:=h _
noncomputable def PA(X:Cx)(es:List Expr)(t:TA):Prop:=
 ∀(pos:Pos) (pins:List (Addr×Obj)) (s:Shared) (σ:St) (H:Hp) (Q:List V->Hp->Prop),Inv X pins σ H s->t σ H Q->aH (model X.prog X.w) X.A (spliced (backTo pos (starEach es X.env))) (AP X pins σ Q) X.xe s
noncomputable def PS(X:Cx)(st:Stmt)(t:TS):Prop:=
 ∀(pins:List (Addr×Obj)) (s:Shared) (σ:St) (H:Hp) (D:Ends),Inv X pins σ H s->t D σ H->aH (model X.prog X.w) X.A (exec st X.env) (SP X pins D) X.xe s
noncomputable def PSs(X:Cx)(st:List Stmt)(t:TS):Prop:=
 ∀(pins:List (Addr×Obj)) (s:Shared) (σ:St) (H:Hp) (D:Ends),Inv X pins σ H s->t D σ H->aH (model X.prog X.w) X.A (execs st X.env) (SP X pins D) X.xe s
theorem thn{α:Type}{t:Sem α}{Q Q':α->Shared->Prop}{M:Model}{A:Around}{E:Value->Shared->Prop}{s:Shared}(h:aH M A t Q E s)(hQ: ∀a s,Q a s->Q' a s):aH M A t Q' E s:=dc h hQ λ_ _ x=>x
end _L
namespace _L
open PySem PySem.Spec PyProof.Rows
section
variable {X:Cx}
noncomputable def Lz(i:Nat):TE:=λσ H Q =>∃v,σ[i]? = some (some v)/\Q v H
noncomputable def tC(v:V):TE:=λ_ H Q=>Q v H
theorem Dx {i:Nat}{x:Str}{pos:Pos} (hN:X.N[i]? = some x) (hv:Vis X.env.scope x) (hd:autoParam ((x == ("__debug__":Str))=false) au2._auto_1) (hcd:autoParam ((x == ("__classdict__":Str))=false) au2._auto_1):PE X (.Name x pos) (Lz i):=by
 intro pins s σ H Q I h
 obtain⟨v,e,h⟩:=h
 obtain⟨m,hn,hl⟩:=I.loc
 obtain⟨u,r,l⟩:=hl i x v hN e hv
 have fin:EP X pins σ Q u s:=⟨v,H,I,r,h⟩
 rcases l with⟨hk,hm⟩ | ⟨hk,c,hc,hcell⟩
 ·exact wpAny_Name (wpAny_loadName_local I.ok.kind hk hn hm fin) hd
 ·rcases hk with hk |hk
  ·exact wpAny_Name (wpAny_loadName_cell I.ok.kind hk hc hcell fin) hd
  ·exact wpAny_Name (wpAny_loadName_free I.ok.kind hk hc hcell fin hcd) hd
theorem Cc{i j pos}:PE X (.Constant (.int i) j pos) (tC (.int i)):=λ_ _ _ H _ I h=>wpAny_Constant_int ⟨.int i,H,I.tok _,⟨_,rfl⟩,h⟩
theorem Lk{b j pos}:PE X (.Constant (.bool b) j pos) (tC (.bl b)):=λ_ _ _ H _ I h=>Constant_bool ⟨.bl b,H,I,rfl,h⟩
theorem JP{j pos}:PE X (.Constant .none j pos) (tC .non):=λ_ _ _ H _ I h=>Constant_none ⟨.non,H,I,rfl,h⟩
theorem Ku{x j pos}:PE X (.Constant (.str x) j pos) (tC (.str x)):=λ_ _ _ H _ I h=>Calls.Constant_str ⟨.str x,H,I.tok _,⟨_,rfl⟩,h⟩
noncomputable def Gl(X:Cx)(x:Str):Prop:=X.env.kindOf x=some .globalImplicit
theorem qr{E:Value->Shared->Prop}{pins:List (Addr×Obj)}{s:Shared}{σ:St}{H:Hp}{x:Str}{u:Value}{pos:Pos}{Q:Value->Shared->Prop}(I:Inv X pins σ H s)(hg:Gl X x)(hm:X.mg x=some u)(h:Q u s)
  (hd:autoParam ((x == ("__debug__":Str))=false) au2._auto_1):aH (model X.prog X.w) X.A (eval (.Name x pos) X.env) Q E s:=
 xV I.ok.kind hg (Calls.loadGlobal_global (by rw[I.ok.glob];exact I.mod.glob.keeps I.bk) hm h) hd
theorem kn{E:Value->Shared->Prop}{pins:List (Addr×Obj)}{s:Shared}{σ:St}{H:Hp}{x:Str}{u:Value}{pos:Pos}{Q:Value->Shared->Prop}(I:Inv X pins σ H s)(hg:Gl X x)(hm:X.mg x=none)(hv:bootBuiltins x=some u)(h:Q u s)
  (hn:autoParam (x≠"__name__") au2._auto_1) (hd:autoParam ((x == ("__debug__":Str))=false) au2._auto_1):aH (model X.prog X.w) X.A (eval (.Name x pos) X.env) Q E s:=by
 obtain⟨mb,h1,h2⟩:=I.mod.blt
 exact xV I.ok.kind hg (Calls.loadGlobal_builtin (by rw[I.ok.glob];exact I.mod.glob.keeps I.bk) hm (by rw[I.ok.blt];exact h1.keeps I.bk) ((h2 x hn).trans hv) h) hd
theorem Hd {x:Str}{v:V}{u:Value}{pos:Pos} (hg:Gl X x) (hm:X.mg x=some u) (r:RelV v u) (hd:autoParam ((x == ("__debug__":Str))=false) au2._auto_1):PE X (.Name x pos) (tC v):=
 λ_ _ _ H _ I h=>qr I hg hm ⟨v,H,I,r,h⟩ hd
theorem FG {x:Str}{v:V}{u:Value}{pos:Pos} (hg:Gl X x) (hm:X.mg x=none) (hv:bootBuiltins x=some u) (r:RelV v u) (hn:autoParam (x≠"__name__") au2._auto_1) (hd:autoParam ((x == ("__debug__":Str))=false) au2._auto_1):PE X (.Name x pos) (tC v):=
 λ_ _ _ H _ I h=>kn I hg hm hv ⟨v,H,I,r,h⟩ hn hd
variable {a b:Expr}{ta tb:TE}{pos:Pos}
noncomputable def tB(t:TE):TT:=λσ H Q=>t σ H λx H1 =>∃c,x = .bl c/\Q c H1
theorem KN{e:Expr}{t:TE}(h:PE X e t)(he:autoParam (∀whole,isTrue e X.env whole=(do let v <- whole;standAt e.pos;holding [v] (truthy v))) au3._auto_1):PT X e (tB t):=by
 intro pins s σ H Q I hw
 refine isTrue_plain (thn (h pins s σ H _ I hw) λv s1 ⟨x,H1,I1,r1,q1⟩ =>?_) (he _)
 obtain⟨d,rfl,q⟩:=q1
 cases r1
 exact gG ⟨H1,I1,q⟩
variable {tA tB':TT}{rest:List Expr}
noncomputable def NC(t u:TT):TT:=λσ H Q=>t σ H λc H1=>if c=true then u σ H1 Q else Q false H1
noncomputable def tOr(t u:TT):TT:=λσ H Q=>t σ H λc H1=>if c=true then Q true H1 else u σ H1 Q
noncomputable def LU(t:TT):TT:=λσ H Q=>t σ H λc H1=>Q (!c) H1
theorem He(ha:PT X a tA):PW X (.BoolOp .And [a] pos) tA:=by
 intro wh pins s σ H Q I h
 refine isTrue_and (thn (ha pins s σ H Q I h) λc s1 e =>?_)
 cases c with
 | true=>exact isTrue_and_nil e
 | false=>exact e
theorem K6(ha:PT X a tA):PW X (.BoolOp .Or [a] pos) tA:=by
 intro wh pins s σ H Q I h
 refine isTrue_or (thn (ha pins s σ H Q I h) λc s1 e =>?_)
 cases c with
 | false=>exact isTrue_or_nil e
 | true=>exact e
theorem Kv(ha:PT X a tA)(hb:PW X (.BoolOp .And (b::rest) pos) tB'):PW X (.BoolOp .And (a::b::rest) pos) (NC tA tB'):=by
 intro wh pins s σ H Q I h
 refine isTrue_and (thn (ha pins s σ H _ I h) λc s1 ⟨H1,I1,q1⟩ =>?_)
 cases c with
 | true=>exact hb wh pins s1 σ H1 Q I1 q1
 | false=>exact⟨H1,I1,q1⟩
theorem NA(ha:PT X a tA)(hb:PW X (.BoolOp .Or (b::rest) pos) tB'):PW X (.BoolOp .Or (a::b::rest) pos) (tOr tA tB'):=by
 intro wh pins s σ H Q I h
 refine isTrue_or (thn (ha pins s σ H _ I h) λc s1 ⟨H1,I1,q1⟩ =>?_)
 cases c with
 | true=>exact⟨H1,I1,q1⟩
 | false=>exact hb wh pins s1 σ H1 Q I1 q1
theorem KF(ha:PT X a tA):PT X (.UnaryOp .Not a pos) (LU tA):=by
 intro pins s σ H Q I h
 exact isTrue_not (ha pins s σ H (λc H1=>Q (!c) H1) I h)
noncomputable def IF(ta tb:TE):TE:=λσ H Q=>ta σ H λx H1 =>∃c,x = .bl c/\if c=true then tb σ H1 Q else Q (.bl false) H1
noncomputable def Lo(ta tb:TE):TE:=λσ H Q=>ta σ H λx H1 =>∃c,x = .bl c/\if c=true then Q (.bl true) H1 else tb σ H1 Q
noncomputable def HS(ta:TE):TE:=λσ H Q=>ta σ H λx H1 =>∃c,x = .bl c/\Q (.bl (!c)) H1
theorem Kp{op}{t:TE}(h:PE X a t):PE X (.BoolOp op [a] pos) t:=λpins s σ H Q I hw=>BoolOp_one (h pins s σ H Q I hw)
theorem KY(ha:PE X a ta)(hb:PE X (.BoolOp .And (b::rest) pos) tb):PE X (.BoolOp .And (a::b::rest) pos) (IF ta tb):=by
 intro pins s σ H Q I h
 refine BoolOp_and (thn (ha pins s σ H _ I h) λv s1 ⟨x,H1,I1,r1,q1⟩ =>?_)
 obtain⟨c,rfl,q1⟩:=q1
 cases r1
 refine gG ?_
 cases c with
 | true=>exact hb pins s1 σ H1 Q I1 q1
 | false=>exact⟨.bl false,H1,I1,rfl,q1⟩
theorem L7(ha:PE X a ta)(hb:PE X (.BoolOp .Or (b::rest) pos) tb):PE X (.BoolOp .Or (a::b::rest) pos) (Lo ta tb):=by
 intro pins s σ H Q I h
 refine BoolOp_or (thn (ha pins s σ H _ I h) λv s1 ⟨x,H1,I1,r1,q1⟩ =>?_)
 obtain⟨c,rfl,q1⟩:=q1
 cases r1
 refine gG ?_
 cases c with
 | false=>exact hb pins s1 σ H1 Q I1 q1
 | true=>exact⟨.bl true,H1,I1,rfl,q1⟩
theorem Ja(ha:PE X a ta):PE X (.UnaryOp .Not a pos) (HS ta):=by
 intro pins s σ H Q I h
 refine UnaryOp_ (thn (ha pins s σ H _ I h) λv s1 ⟨x,H1,I1,r1,q1⟩ =>?_)
 obtain⟨c,rfl,q1⟩:=q1
 cases r1
 exact not_of (gG ⟨.bl (!c),H1,I1,rfl,q1⟩)
noncomputable def tIf(t:TT)(ta tb:TE):TE:=λσ H Q=>t σ H λc H1=>if c=true then ta σ H1 Q else tb σ H1 Q
theorem DW{c:Expr}(hc:PT X c tA)(ha:PE X a ta)(hb:PE X b tb):PE X (.IfExp c a b pos) (tIf tA ta tb):=by
 intro pins s σ H Q I h
 refine wpAny_IfExp (thn (hc pins s σ H _ I h) λd s1 ⟨H1,I1,q1⟩ =>?_)
 cases d with
 | true=>exact ha pins s1 σ H1 Q I1 q1
 | false=>exact hb pins s1 σ H1 Q I1 q1
end
end _L
namespace _L
open PySem PySem.Spec PyProof.Rows
noncomputable def SqL(K:aj)(H:Hp)(a:Addr)(xs:List V):Prop:=
 Rd H a (.lst xs) \/
  ∃ (o:Obj) (its:Array Value) (n:Nat),K.lookup a=some o/\o.cls = .type "list"/\o.dict=none/\o.data = .seq its n/\its.size<=sizeLine/\bW xs its.toList
noncomputable def SqT(K:aj)(H:Hp)(a:Addr)(xs:List V):Prop:=
 Rd H a (.tup xs) \/
  ∃ (o:Obj) (its:Array Value) (n:Nat),K.lookup a=some o/\o.cls = .type "tuple"/\o.data = .seq its n/\its.size<=sizeLine/\bW xs its.toList
noncomputable def OR:Value->Option V
 | .none=>some .non
 | .bool b=>some (.bl b)
 | .int i _=>some (.int i)
 | .str x _=>some (.str x)
 | .bytes b _=>some (.byt b)
 | .float b _=>some (.flt b)
 | .ref a=>some (.ref a)
 | .type n=>some (.ty n)
 | _=>none
theorem RelV.abs{x:V}{u:Value}(r:RelV x u):OR u=some x:=by
 cases x with
 | non=>cases r;rfl
 | bl _=>cases r;rfl
 | int _=>obtain⟨t,rfl⟩:=r;rfl
 | str _=>obtain⟨t,rfl⟩:=r;rfl
 | byt _=>obtain⟨t,rfl⟩:=r;rfl
 | flt _=>obtain⟨t,rfl⟩:=r;rfl
 | ref _=>cases r;rfl
 | ty _=>cases r;rfl
theorem RelV.inj{x y:V}{u:Value}(r:RelV x u)(q:RelV y u):x=y:=bR (r.abs.symm.trans q.abs)
theorem bW.inj: ∀{xs ys:List V}{us:List Value},bW xs us->bW ys us->xs=ys:=by
 intro xs ys us h
 induction h generalizing ys with
 | nil=>intro q;cases q;rfl
 | cons r t ih=>intro q;cases q with |cons r' t'=>rw[r.inj r',ih t']
section
variable {X:Cx}{pins:List (Addr×Obj)}{σ:St}{H:Hp}{s:Shared}{a:Addr}{xs ys:List V}
theorem SqL.of{K:aj}(h:H a=some (.lst xs)):SqL K H a xs:= .inl (.inl h)
theorem SqT.of{K:aj}(h:H a=some (.tup xs)):SqT K H a xs:= .inl (.inl h)
theorem Inv.list(I:Inv X pins σ H s)(h:SqL X.K H a xs): ∃its:List Value,bW xs its/\PlainL s.heap a its.toArray/\xs.length<=sizeLine:=by
 rcases h with h | ⟨o,its,n,hk,hc,hd,hs,hz,r⟩
 ·obtain⟨z,its,n,r,e⟩:=h.ok I.hok
  exact⟨its,r,⟨_,n,e,rfl,rfl,rfl⟩,z⟩
 ·refine⟨its.toList,r,⟨o,n,I.kIn a o hk,hc,hd,by simpa using hs⟩,?_⟩
  have e:=r.length
  simp only[ej]at e
  omega
theorem Inv.tuple(I:Inv X pins σ H s)(h:SqT X.K H a xs): ∃its:List Value,bW xs its/\IsTup s.heap a its.toArray/\xs.length<=sizeLine:=by
 rcases h with h | ⟨o,its,n,hk,hc,hs,hz,r⟩
 ·obtain⟨z,its,r,p⟩:=h.ok I.hok
  exact⟨its,r,p.1,z⟩
 ·refine⟨its.toList,r,⟨o,I.kIn a o hk,hc,n,by simpa using hs⟩,?_⟩
  have e:=r.length
  simp only[ej]at e
  omega
theorem Inv.list_inj(I:Inv X pins σ H s)(h:SqL X.K H a xs)(h':SqL X.K H a ys):xs=ys:=by
 obtain⟨its,r,⟨o,n,e,_,_,d⟩,_⟩:=I.list h
 obtain⟨its',r',⟨o',n',e',_,_,d'⟩,_⟩:=I.list h'
 rw[e]at e';cases e'
 rw[d]at d'
 injection d' with d1 _
 have:its=its':=by simpa using congrArg Array.toList d1
 subst this
 exact r.inj r'
theorem Inv.tuple_inj(I:Inv X pins σ H s)(h:SqT X.K H a xs)(h':SqT X.K H a ys):xs=ys:=by
 obtain⟨its,r,⟨o,e,_,n,d⟩,_⟩:=I.tuple h
 obtain⟨its',r',⟨o',e',_,n',d'⟩,_⟩:=I.tuple h'
 rw[e]at e';cases e'
 rw[d]at d'
 injection d' with d1 _
 have:its=its':=by simpa using congrArg Array.toList d1
 subst this
 exact r.inj r'
end
abbrev Cx.wish(X:Cx)(E:Value->Shared->Prop):Cx:={ X with xe:=E }
abbrev Cx.nox(X:Cx):Cx:=X.wish λ_ _=>False
theorem Cx.Ok.wish{X:Cx}(ok:X.Ok)(E:Value->Shared->Prop):(X.wish E).Ok:=
 ⟨ok.mod,ok.kind,ok.glob,ok.blt,ok.above,ok.inj,ok.has,ok.cab,ok.hd,ok.frames,ok.stk,ok.exf,ok.bs,ok.bsz,ok.noex,ok.exfs,ok.funs,ok.frf⟩
theorem Cx.Ok.unwish{X:Cx}{E:Value->Shared->Prop}(ok:(X.wish E).Ok):X.Ok:=
 ⟨ok.mod,ok.kind,ok.glob,ok.blt,ok.above,ok.inj,ok.has,ok.cab,ok.hd,ok.frames,ok.stk,ok.exf,ok.bs,ok.bsz,ok.noex,ok.exfs,ok.funs,ok.frf⟩
section
variable {X:Cx}{pins:List (Addr×Obj)}{σ:St}{H:Hp}{s:Shared}{E:Value->Shared->Prop}
theorem Inv.wish(I:Inv X pins σ H s)(E:Value->Shared->Prop):Inv (X.wish E) pins σ H s:=⟨I.ok.wish E,I.os,I.bare,I.base,I.loc,I.cell,I.free,I.freeC,I.pin,I.hok,I.len⟩
theorem Inv.unwish(I:Inv (X.wish E) pins σ H s):Inv X pins σ H s:=⟨I.ok.unwish,I.os,I.bare,I.base,I.loc,I.cell,I.free,I.freeC,I.pin,I.hok,I.len⟩
theorem SP.unwish{D:Ends}{f:Flow}{s':Shared}(h:SP (X.wish E) pins D f s'):SP X pins D f s':=by
 cases f with
 | next=>obtain⟨σ',H',I,q⟩:=h;exact⟨σ',H',I.unwish,q⟩
 | brk=>obtain⟨σ',H',I,q⟩:=h;exact⟨σ',H',I.unwish,q⟩
 | cont=>obtain⟨σ',H',I,q⟩:=h;exact⟨σ',H',I.unwish,q⟩
 | ret u=>obtain⟨v,σ',H',I,r,q⟩:=h;exact⟨v,σ',H',I.unwish,r,q⟩
theorem PSs.nox{st:List Stmt}{t:TS}(h:PSs X.nox st t):PSs X st t:=λpins s σ H D I hw=>
 dc (h pins s σ H D (I.wish _) hw) (λ_ _ q=>q.unwish) λ_ _ z=>di z
end
section
variable {X:Cx}{st:Stmt}{rest:List Stmt}{t u:TS}{e:Expr}{te:TE}{pos:Pos}
noncomputable def DG:TS:=λD σ H=>D.nx σ H
noncomputable def LP(t u:TS):TS:=λD σ H=>t { D with nx:=u D } σ H
theorem GF:PSs X [] DG:=λ_ _ σ H _ I h=>pO ⟨σ,H,I,h⟩
theorem Eg(h1:PS X st t)(h2:PSs X rest u):PSs X (st::rest) (LP t u):=by
 intro pins s σ H D I h
 refine wpAny_execs_cons (thn (h1 pins s σ H { D with nx:=u D } I h) λf s1 q =>?_)
 cases f with
 | next=>
   obtain⟨σ',H',I',q⟩:=q
   exact h2 pins s1 σ' H' D I' q
 | ret v=>exact q
 | brk=>exact q
 | cont=>exact q
theorem FH(h1:PS X st t):PSs X [st] t:=by
 intro pins s σ H D I h
 refine wpAny_execs_cons (thn (h1 pins s σ H D I h) λf s1 q =>?_)
 cases f with
 | next=>exact pO q
 | ret v=>exact q
 | brk=>exact q
 | cont=>exact q
noncomputable def JS:TS:=λD σ H=>D.bk σ H
noncomputable def ND:TS:=λD σ H=>D.ct σ H
theorem Ha:PS X (.Pass pos) DG:=λ_ _ σ H _ I h=>wpAny_Pass ⟨σ,H,I,h⟩
theorem DA:PS X (.Break pos) JS:=λ_ _ σ H _ I h=>wpAny_Break ⟨σ,H,I,h⟩
theorem wd:PS X (.Continue pos) ND:=λ_ _ σ H _ I h=>wpAny_Continue ⟨σ,H,I,h⟩
theorem Inv.quiet{pins:List (Addr×Obj)}{σ:St}{H:Hp}{s:Shared}(I:Inv X pins σ H s):interactive X.env=false:=by simp[interactive,I.ok.kind]
noncomputable def HP(te:TE):TS:=λD σ H=>te σ H λ_ H1=>D.nx σ H1
theorem HG(he:PE X e te)(hs:autoParam (swapsWith e none pos.line X.env=pure false) au1._auto_1):PS X (.Expr e pos) (HP te):=by
 intro pins s σ H D I h
 exact wpAny_Expr_any (thn (he pins s σ H _ I h) λv s1 ⟨x,H1,I1,r1,q1⟩=>⟨σ,H1,I1,q1⟩) I.quiet hs
noncomputable def MY(te:TE):TS:=λD σ H=>te σ H D.rt
theorem Jk(he:PE X e te):PS X (.Return (some e) pos) (MY te):=by
 intro pins s σ H D I h
 exact wpAny_Return_some (thn (he pins s σ H _ I h) λv s1 ⟨x,H1,I1,r1,q1⟩=>⟨x,σ,H1,I1,r1,q1⟩)
noncomputable def Mi:TS:=λD _ H=>D.rt .non H
theorem GK:PS X (.Return none pos) Mi:=λ_ _ σ H _ I h=>wpAny_Return_none ⟨.non,σ,H,I,rfl,h⟩
noncomputable def Ni(c:TT)(t u:TS):TS:=λD σ H=>c σ H λb H1=>if b=true then t D σ H1 else u D σ H1
theorem Mh{c:Expr}{a b:List Stmt}{tc:TT}(hc:PT X c tc)(ha:PSs X a t)(hb:PSs X b u):PS X (.If c a b pos) (Ni tc t u):=by
 intro pins s σ H D I h
 refine wpAny_If (thn (hc pins s σ H _ I h) λd s1 ⟨H1,I1,q1⟩ =>?_)
 cases d with
 | true=>exact ha pins s1 σ H1 D I1 q1
 | false=>exact hb pins s1 σ H1 D I1 q1
end
abbrev TG:=V->St->Hp->(St->Hp->Prop)->Prop
abbrev TGs:=List V->St->Hp->(St->Hp->Prop)->Prop
noncomputable def PG(X:Cx)(target:Expr)(t:TG):Prop:=
 ∀(pins:List (Addr×Obj)) (s:Shared) (σ:St) (H:Hp) (v:V) (u:Value) (Q:St->Hp->Prop),Inv X pins σ H s->RelV v u->t v σ H Q ->
  aH (model X.prog X.w) X.A (assign target X.env u) (λ_ s' =>∃σ' H',Inv X pins σ' H' s'/\Q σ' H') X.xe s
noncomputable def PGs(X:Cx)(ts:List Expr)(t:TGs):Prop:=
 ∀(pins:List (Addr×Obj)) (s:Shared) (σ:St) (H:Hp) (vs:List V) (us:List Value) (Q:St->Hp->Prop),Inv X pins σ H s->bW vs us->t vs σ H Q ->
  aH (model X.prog X.w) X.A (assignInOrder ((assignEach ts X.env).map (·.2)) us) (λ_ s' =>∃σ' H',Inv X pins σ' H' s'/\Q σ' H') X.xe s
abbrev CD:=V->V->V->Hp->(Hp->Prop)->Prop
noncomputable def Lb(X:Cx)(t:CD):Prop:=
 ∀(pins:List (Addr×Obj)) (s:Shared) (σ:St) (H:Hp) (o i v:V) (ov iv u:Value) (Q:Hp->Prop),Inv X pins σ H s->RelV o ov->RelV i iv->RelV v u->t o i v H Q ->
  aH (model X.prog X.w) X.A (setItem ov iv u) (λ_ s' =>∃H',Inv X pins σ H' s'/\Q H') X.xe s
section
variable {X:Cx}{pos:Pos}
noncomputable def ju(i:Nat):TG:=λv σ H Q=>Q (σ.set i (some v)) H
theorem Ag{i:Nat}{x:Str}(hN:X.N.Nodup)(hi:X.N[i]? = some x)(hx:Loc X.env.scope x)(hf:autoParam (X.fn x=true\/X.env.scope.names.lookup x=some .local) au4._auto_1):PG X (.Name x pos) (ju i):=by
 intro pins s σ H v u Q I r h
 exact mH (nB I hN hi hx r (λs' I'=>⟨_,H,I',h⟩) hf)
noncomputable def LG:TGs:=λvs σ H Q=>vs = []/\Q σ H
noncomputable def HQ(t:TG)(u:TGs):TGs:=λvs σ H Q =>∃v r,vs=v::r/\t v σ H λσ' H'=>u r σ' H' Q
theorem Hb:PGs X [] LG:=by
 intro pins s σ H vs us Q I r h
 obtain⟨e,h⟩:=h
 subst e
 cases r
 exact assignInOrder_nil ⟨σ,H,I,h⟩
theorem Ee{e:Expr}{es:List Expr}{t:TG}{u:TGs}(h1:PG X e t)(h2:PGs X es u)
  (hs:autoParam ((assignEach (e::es) X.env).map (·.2)=assign e X.env::(assignEach es X.env).map (·.2)) au1._auto_1):PGs X (e::es) (HQ t u):=by
 intro pins s σ H vs us Q I r h
 obtain⟨v,vr,e1,h⟩:=h
 subst e1
 cases r with
 | cons r rr=>
   rw[hs]
   refine assignInOrder_cons (thn (h1 pins s σ H _ _ _ I r h) λ_ s1 ⟨σ1,H1,I1,q1⟩ =>?_)
   exact h2 pins s1 σ1 H1 _ _ Q I1 rr q1
noncomputable def MQ(K:aj)(n:Nat)(t:TGs):TG:=λv σ H Q =>∃a xs,v = .ref a/\SqT K H a xs/\xs.length=n/\t xs σ H Q
theorem JB{es:List Expr}{k:Nat}{t:TGs}{n:Nat}(hc:X.calm=true)(h:PGs X es t)
  (hn:autoParam ((assignEach es X.env).length=n) au1._auto_1) (hst:autoParam ((assignEach es X.env).findIdx? (·.1)=none) au1._auto_1):PG X (.Tuple es k pos) (MQ X.K n t):=by
 intro pins s σ H v u Q I r hw
 obtain⟨a,xs,e1,hq,hl,hw⟩:=hw
 subst e1
 cases r
 obtain⟨its,rv,ht,hz⟩:=I.tuple hq
 refine assign_Tuple_tuple (I.ok.hd hc) ht (by simp[hn,<- hl,rv.length]) hst λh' hx =>?_
 have I1:Inv X pins σ H { s with heap:=h' }:=I.kept (t':=s.toks) λb o e=>hx b o (aQ (ax e)) e
 exact h pins _ σ H xs _ Q I1 (by simpa using rv) hw
noncomputable def Nb(to ti:TE)(t:CD):TG:=λv σ H Q=>to σ H λo H1=>ti σ H1 λi H2=>t o i v H2 λH3=>Q σ H3
theorem Jc{o i:Expr}{to ti:TE}{t:CD}(ho:PE X o to)(hi:PE X i ti)(hs:Lb X t)
  (ha:autoParam (∀v,assign (.Subscript o i pos) X.env v=(do
   let ov <- holding [v] (eval o X.env)
   let iv <- holding [v,ov] (eval i X.env)
   standAt pos
   holding [v,ov,iv] (setItem ov iv v)
   release [v,ov,iv] [])) au3._auto_1):PG X (.Subscript o i pos) (Nb to ti t):=by
 intro pins s σ H v u Q I r h
 rw[ha]
 refine ab (eh (thn (ho pins s σ H _ I h) λov s1 ⟨x,H1,I1,r1,q1⟩ =>?_))
 refine ab (eh (thn (hi pins s1 σ H1 _ I1 q1) λiv s2 ⟨y,H2,I2,r2,q2⟩ =>?_))
 refine ab (wpAny_standAt (ab (eh (thn (hs pins s2 σ H2 x y v ov iv u _ I2 r1 r2 r q2) λ_ s3 ⟨H3,I3,q3⟩ =>?_))))
 exact wpAny_release ⟨σ,H3,I3,q3⟩
noncomputable def AO(te:TE)(g:TG):TS:=λD σ H=>te σ H λx H1=>g x σ H1 D.nx
theorem DR{tg e:Expr}{te:TE}{g:TG}(he:PE X e te)(hg:PG X tg g)(hs:autoParam (swapsWithSole [tg] e pos.line X.env=pure false) au1._auto_1)(hw:autoParam (swappedStores [tg] e X.env=pure none) au1._auto_1)
  (h1:autoParam ((assignEach [tg] X.env).map (·.2) = [assign tg X.env]) au1._auto_1):PS X (.Assign [tg] e pos) (AO te g):=by
 intro pins s σ H D I h
 refine wpAny_Assign_stores (thn (he pins s σ H _ I h) λv s1 ⟨x,H1,I1,r1,q1⟩ =>?_) hs hw
 rw[h1]
 exact thn (hg pins s1 σ H1 x v _ I1 r1 q1) λ_ s2 q=>q
theorem K4{i:Nat}{x:Str}{e:Expr}{te:TE}{pos':Pos}(hN:X.N.Nodup)(hi:X.N[i]? = some x)(hx:Loc X.env.scope x)(he:PE X e te)(hs:autoParam (swapsWith e (some (.Name x pos')) pos.line X.env=pure false) au1._auto_1)(hf:autoParam (X.fn x=true\/X.env.scope.names.lookup x=some .local) au4._auto_1):
  PS X (.Assign [.Name x pos'] e pos) (AO te (ju i)):=by
 intro pins s σ H D I h
 refine wpAny_Assign_Name (thn (he pins s σ H _ I h) λv s1 ⟨y,H1,I1,r1,q1⟩ =>?_) hs
 exact nB I1 hN hi hx r1 (λs2 I2=>⟨_,H1,I2,q1⟩) hf
end
section
variable {X:Cx}{pos:Pos}
noncomputable def EH(c:TT)(tb:TS):TS:=λD σ H =>∃W:Nat->St->Hp->Prop,(∃m,W m σ H) /\ ∀m σ H,W m σ H ->
 c σ H λb H1=>if b=true then ∃N:St->Hp->Prop,(∀σ' H',N σ' H' -> ∃m',m'<m/\W m' σ' H')/\tb { D with nx:=N,ct:=N,bk:=D.nx } σ H1 else D.nx σ H1
theorem EM{c:Expr}{body:List Stmt}{tc:TT}{tb:TS}(hp:PassesOwn (model X.prog X.w) X.A X.env X.xe)(hc:PT X c tc)(hb:PSs X body tb):PS X (.While c body [] pos) (EH tc tb):=by
 intro pins s σ H D I h
 obtain⟨W,⟨m0,w0⟩,turn⟩:=h
 refine wpAny_While (codeAny_whileLoop (λn s' =>∃σ' H',Inv X pins σ' H' s'/\W n σ' H') ?_ m0 ⟨σ,H,I,w0⟩)
 rintro n s1 ⟨σ1,H1,I1,w1⟩
 refine gn hp (thn (hc pins s1 σ1 H1 _ I1 (turn n σ1 H1 w1)) λb s2 ⟨H2,I2,q2⟩ =>?_)
 cases b with
 | true=>
   obtain⟨N,hN,q2⟩:=q2
   rw[if_pos rfl]
   refine gn hp (thn (hb pins s2 σ1 H2 _ I2 q2) λf s3 q3 =>?_)
   cases f with
   | next=>
     obtain⟨σ3,H3,I3,n3⟩:=q3
     obtain⟨m',hm,w3⟩:=hN σ3 H3 n3
     exact⟨m',hm,σ3,H3,I3,w3⟩
   | cont=>
     obtain⟨σ3,H3,I3,n3⟩:=q3
     obtain⟨m',hm,w3⟩:=hN σ3 H3 n3
     exact⟨m',hm,σ3,H3,I3,w3⟩
   | brk=>exact q3
   | ret v=>exact q3
 | false=>
   rw[if_neg bM]
   exact pO ⟨σ1,H2,I2,q2⟩
end
structure It where
 go:Nat->Hp->Prop
 yld:Nat->Hp->V->Hp->Prop
 stop:Nat->Hp->Prop
noncomputable def qX(X:Cx)(pins:List (Addr×Obj))(H:Hp)(b:Addr):Prop:=
 H b=none/\b≠X.env.locals/\b∉X.fs/\(b∈X.ex\/X.s₀.heap.objs.size<=b)/\(∀x c,X.env.cells.lookup x=some c->c≠b) /\ ∀p∈X.pn++pins,p.1≠b
theorem Inv.fpOk{X:Cx}{pins:List (Addr×Obj)}{σ:St}{H H':Hp}{s:Shared}{b:Addr}(I:Inv X pins σ H s)(hb:s.heap.objs.size<=b)(hn:H' b=none):qX X pins H' b:=by
 refine⟨hn,b0 (ao I.lt hb),I.nofs hb,.inr (aM I.sz hb),λx c e z =>?_,λp hp z =>?_⟩
 ·obtain⟨v,q⟩:=I.cell x c e
  exact absurd (ao q.lt (by rw[z];exact hb)) (bF _)
 ·exact absurd (ao (ax (I.pin p hp).1) (by rw[z];exact hb)) (bF _)
structure Turn(P:Program)(w:World)(K:aj)(tg:Expr)(J:It)(fp:List Addr)(it:Addr)(tn:Nat->Heap->Prop):Prop where
 mem:it∈fp
 obj: ∀i h,tn i h -> ∀b∈fp,∃o,h.get? b=some o /\ ∀v,o.data≠.cell v
 keep: ∀i h h',tn i h->(∀b∈fp,∀o,h.get? b=some o->h'.get? b=some o)->tn i h'
 item: ∀(X:Cx),X.prog=P->X.w=w->X.K=K->X.calm=true -> ∀(i:Nat) (pins:List (Addr×Obj)) (s:Shared) (σ:St) (H:Hp) (E:Value->Shared->Prop),Inv X pins σ H s->(∀b∈fp,qX X pins H b)->tn i s.heap->J.go i H ->
  aH (model P w) X.A (pyNext (.ref it)) (λr s1 =>∃u,r=some u /\
   aH (model P w) X.A (letOwnedTupleGo tg (.ref it) u) (λ_ s2 =>∃x H',Inv X pins σ H' s2/\RelV x u/\J.yld i H x H'/\tn (i+1) s2.heap /\ ∀b∈fp,H' b=none) E s1) E s
 done: ∀(X:Cx),X.prog=P->X.w=w->X.K=K->X.calm=true -> ∀(i:Nat) (pins:List (Addr×Obj)) (s:Shared) (σ:St) (H:Hp) (E:Value->Shared->Prop),Inv X pins σ H s->(∀b∈fp,qX X pins H b)->tn i s.heap->J.stop i H ->
  aH (model P w) X.A (pyNext (.ref it)) (λr s1=>r=none/\Inv X pins σ H s1) E s
 self: ∀(A:Around) (i:Nat) (s:Shared) (Q:Value->Shared->Prop) (E:Value->Shared->Prop),tn i s.heap->Q (.ref it) s->aH (model P w) A (pyIter (.ref it)) Q E s
abbrev TI:=St->Hp->(It->Hp->Prop)->Prop
noncomputable def PIE(X:Cx)(pins:List (Addr×Obj))(σ:St)(tg:Expr)(R:It->Hp->Prop)(itv:Value)(s2:Shared):Prop:=
 ∃(it:Addr) (fp:List Addr) (tn:Nat->Heap->Prop) (J:It) (H':Hp),itv = .ref it/\Inv X pins σ H' s2/\Turn X.prog X.w X.K tg J fp it tn/\tn 0 s2.heap/\(∀b∈fp,qX X pins H' b)/\R J H'
noncomputable def PI(X:Cx)(tg iter:Expr)(wi:TI):Prop:=
 ∀(pins:List (Addr×Obj)) (s:Shared) (σ:St) (H:Hp) (R:It->Hp->Prop),Inv X pins σ H s->wi σ H R ->
  aH (model X.prog X.w) X.A (eval iter X.env) (λv s1=>aH (model X.prog X.w) X.A (pyIter v) (PIE X pins σ tg R) X.xe s1) X.xe s
theorem Ez{M:Model}{A:Around}{E:Value->Shared->Prop}{s:Shared}{tg:Expr}{it:Addr}{u:Value}{o:Obj}{n:String}{vs:Array Value}{Q:Unit->Shared->Prop}(ho:s.heap.get? it=some o)(hc:o.cls = .type n)(hd:o.data = .fields vs)
  (hn : ["enumerate","zip","dict_itemiterator","dict_reverseitemiterator","odict_iterator","itertools.zip_longest","itertools.pairwise"].contains n=false) (hQ:Q () s):aH M A (letOwnedTupleGo tg (.ref it) u) Q E s:=by
 unfold letOwnedTupleGo
 cases tg <;> first
  | exact ar hQ
  | (cases u <;> first
    | exact ar hQ
    | (refine ab (EW ho ?_)
       rw[hc,hd]
       show aH M A (if (["enumerate","zip","dict_itemiterator","dict_reverseitemiterator","odict_iterator","itertools.zip_longest","itertools.pairwise"].contains n&&vs[0]? == some (rawInt _))=true then _ else _) Q E s
       rw[if_neg (by intro h;rw[hn,Bool.false_and]at h;cases h)]
       exact ar hQ))
noncomputable def Itl(K:aj)(a:Addr):It:=
 ⟨λi H =>∃xs x,SqL K H a xs/\xs[i]? = some x,λi H x H'=>H'=H /\ ∀xs,SqL K H a xs->xs[i]? = some x,λi H =>∃xs,SqL K H a xs/\xs.length<=i⟩
noncomputable def Itt(K:aj)(a:Addr):It:=
 ⟨λi H =>∃xs x,SqT K H a xs/\xs[i]? = some x,λi H x H'=>H'=H /\ ∀xs,SqT K H a xs->xs[i]? = some x,λi H =>∃xs,SqT K H a xs/\xs.length<=i⟩
noncomputable def Itr(lo:Int)(n:Nat):It:=⟨λi _=>i<n,λi H x H'=>H'=H/\x = .int (lo+i),λi _=>n<=i⟩
theorem BG{P:Program}{w:World}{K:aj}{tg:Expr}(a it:Addr):Turn P w K tg (Itl K a) [it] it (λi h=>h.IsListIter it a i) where
 mem:=by simp
 obj:=λi h st b hb=>by
  have e:b=it:=by simpa using hb
  subst e
  obtain⟨o,e,c,d⟩:=st
  exact⟨o,e,λv z=>by rw[d]at z;cases z⟩
 keep:=λi h h' st k=>st.at λo e=>k it (by simp) o e
 item:=by
  intro X hP hw hK hc i pins s σ H E I hf st hg
  subst hP hw hK
  obtain⟨xs,x,hq,hx⟩:=hg
  obtain⟨its,rv,p,hz⟩:=I.list hq
  obtain⟨u,hu,ru⟩:=rv.get hx
  obtain⟨f0,f1,f2,f3,f4,f5⟩:=hf it (by simp)
  refine wpAny_pyNext_list_item st p.isList (x:=u) (by simpa using hu) λh' st' sb =>?_
  have I1:Inv X pins σ H { s with heap:=h' }:=I.turned (t':=s.toks) (λb o hb e=>(sb.2 b hb).trans e) f0 f1 f3 f4 f5
  obtain⟨o,e,c,d⟩:=id st'
  exact⟨u,rfl,Ez (s:={ s with heap:=h' }) e c d (by decide) ⟨x,H,I1,ru,⟨rfl,λys hy=>by rw[I.list_inj hy hq];exact hx⟩,st',λb hb=>(hf b hb).1⟩⟩
 done:=by
  intro X hP hw hK hc i pins s σ H E I hf st hg
  subst hP hw hK
  obtain⟨xs,hq,hx⟩:=hg
  obtain⟨its,rv,p,hz⟩:=I.list hq
  obtain⟨f0,f1,f2,f3,f4,f5⟩:=hf it (by simp)
  have hl:=rv.length
  exact wpAny_pyNext_list_end (I.ok.hd hc) st p.isList (by simp;omega) λh' eb=>⟨rfl,I.turned (t':=s.toks) (λb o hb e=>eb b o hb e) f0 f1 f3 f4 f5⟩
 self:=λ_ _ _ _ _ st h=>wpAny_pyIter_listiter st h
theorem zd{P:Program}{w:World}{K:aj}{tg:Expr}(a it:Addr):Turn P w K tg (Itt K a) [it] it (λi h=>h.IsTupleIter it a i) where
 mem:=by simp
 obj:=λi h st b hb=>by
  have e:b=it:=by simpa using hb
  subst e
  obtain⟨o,e,c,d⟩:=st
  exact⟨o,e,λv z=>by rw[d]at z;cases z⟩
 keep:=λi h h' st k=>st.at λo e=>k it (by simp) o e
 item:=by
  intro X hP hw hK hc i pins s σ H E I hf st hg
  subst hP hw hK
  obtain⟨xs,x,hq,hx⟩:=hg
  obtain⟨its,rv,p,hz⟩:=I.tuple hq
  obtain⟨u,hu,ru⟩:=rv.get hx
  obtain⟨f0,f1,f2,f3,f4,f5⟩:=hf it (by simp)
  refine wpAny_pyNext_tuple_item st (show s.heap.IsTuple a its.toArray from p) (x:=u) (by simpa using hu) λh' st' sb =>?_
  have I1:Inv X pins σ H { s with heap:=h' }:=I.turned (t':=s.toks) (λb o hb e=>(sb.2 b hb).trans e) f0 f1 f3 f4 f5
  obtain⟨o,e,c,d⟩:=id st'
  exact⟨u,rfl,Ez (s:={ s with heap:=h' }) e c d (by decide) ⟨x,H,I1,ru,⟨rfl,λys hy=>by rw[I.tuple_inj hy hq];exact hx⟩,st',λb hb=>(hf b hb).1⟩⟩
 done:=by
  intro X hP hw hK hc i pins s σ H E I hf st hg
  subst hP hw hK
  obtain⟨xs,hq,hx⟩:=hg
  obtain⟨its,rv,p,hz⟩:=I.tuple hq
  obtain⟨f0,f1,f2,f3,f4,f5⟩:=hf it (by simp)
  have hl:=rv.length
  exact wpAny_pyNext_tuple_end (I.ok.hd hc) st (show s.heap.IsTuple a its.toArray from p) (by simp;omega) λh' eb=>⟨rfl,I.turned (t':=s.toks) (λb o hb e=>eb b o hb e) f0 f1 f3 f4 f5⟩
 self:=λ_ _ _ _ _ st h=>wpAny_pyIter_tupleiter st h
theorem za{P:Program}{w:World}{K:aj}{tg:Expr}(it:Addr)(lo:Int)(n:Nat):Turn P w K tg (Itr lo n) [it] it (λi h=>IsRangeIter h it (lo+(i:Nat)*1) ((n:Int) - (i:Nat)) 1) where
 mem:=by simp
 obj:=λi h st b hb=>by
  have e:b=it:=by simpa using hb
  subst e
  exact⟨_,st,λv z=>by
   have z':vU _=pz v:=z
   cases z'⟩
 keep:=λi h h' st k=>k it (by simp) _ st
 item:=by
  intro X hP hw hK hc i pins s σ H E I hf st hg
  subst hP hw hK
  obtain⟨f0,f1,f2,f3,f4,f5⟩:=hf it (by simp)
  have W:=Walks.range (prog:=X.prog) (w:=X.w) (I.ok.hd hc) it lo 1 n
  refine W.item i s _ _ hg st λv h' tk hv st' kk =>?_
  obtain⟨t,rfl⟩:=hv
  have I1:Inv X pins σ H { s with heap:=h',toks:=tk }:=I.turned (λb o hb e=>kk b o (by simpa using hb) e) f0 f1 f3 f4 f5
  refine⟨_,rfl,Ez (s:={ s with heap:=h',toks:=tk }) (n:="range_iterator") st' rfl rfl (by decide) ⟨.int (lo+i),H,I1,⟨t,?_⟩,⟨rfl,rfl⟩,st',fun b hb=>(hf b hb).1⟩⟩
  rw[Int.mul_one]
 done:=by
  intro X hP hw hK hc i pins s σ H E I hf st hg
  subst hP hw hK
  obtain⟨f0,f1,f2,f3,f4,f5⟩:=hf it (by simp)
  exact wpAny_pyNext_range_end (I.ok.hd hc) st (by have:n<=i:=hg;omega) λh' eb=>⟨rfl,I.turned (t':=s.toks) (λb o hb e=>eb b o hb e) f0 f1 f3 f4 f5⟩
 self:=λ_ _ _ _ _ st h=>wpAny_pyIter_rangeiter st h
end _L
namespace _L
open PySem PySem.Spec PyProof.Rows
section
variable {X:Cx}{tg:Expr}
noncomputable def qI(K:aj)(tl:TE):TI:=λσ H R=>tl σ H λx H1 =>∃a,x = .ref a/\(∃xs,SqL K H1 a xs)/\R (Itl K a) H1
noncomputable def yR(K:aj)(tl:TE):TI:=λσ H R=>tl σ H λx H1 =>∃a,x = .ref a/\(∃xs,SqT K H1 a xs)/\R (Itt K a) H1
theorem Gz{l:Expr}{tl:TE}(hl:PE X l tl):PI X tg l (qI X.K tl):=by
 intro pins s σ H R I h
 refine thn (hl pins s σ H _ I h) λv s1 ⟨x,H1,I1,r1,q1⟩ =>?_
 obtain⟨a,e,⟨xs,hq⟩,q⟩:=q1
 subst e
 cases r1
 obtain⟨its,rv,p,hz⟩:=I1.list hq
 refine xW p.isList ?_
 refine⟨s1.heap.objs.size,[s1.heap.objs.size],_,_,H1,rfl,I1.kept (t':=s1.toks) λb o e=>af _ e,BG a _,⟨_,aw _ rfl,rfl,rfl⟩,λb hb =>?_,q⟩
 have e:b=s1.heap.objs.size:=by simpa using hb
 subst e
 exact I1.fpOk (ah _) (I1.hok.fresh (ah _))
theorem Ks{l:Expr}{tl:TE}(hl:PE X l tl):PI X tg l (yR X.K tl):=by
 intro pins s σ H R I h
 refine thn (hl pins s σ H _ I h) λv s1 ⟨x,H1,I1,r1,q1⟩ =>?_
 obtain⟨a,e,⟨xs,hq⟩,q⟩:=q1
 subst e
 cases r1
 obtain⟨its,rv,p,hz⟩:=I1.tuple hq
 refine lG (show s1.heap.IsTuple a its.toArray from p) ?_
 refine⟨s1.heap.objs.size,[s1.heap.objs.size],_,_,H1,rfl,I1.kept (t':=s1.toks) λb o e=>af _ e,zd a _,⟨_,aw _ rfl,rfl,rfl⟩,λb hb =>?_,q⟩
 have e:b=s1.heap.objs.size:=by simpa using hb
 subst e
 exact I1.fpOk (ah _) (I1.hok.fresh (ah _))
theorem xt{pins:List (Addr×Obj)}{σ:St}{H:Hp}{s:Shared}{R:It->Hp->Prop}{E:Value->Shared->Prop}{lo hi:Int}{t u v:Tok}{tk:Nat}(I:Inv X pins σ H s)(h1: -(2 ^ 62)<=lo)(h2:lo<2 ^ 62)(h3: -(2 ^ 62)<=hi)(h4:hi<2 ^ 62)
  (q:R (Itr lo (hi - lo).toNat) H):aH (model X.prog X.w) X.A (pyIter (.ref s.heap.objs.size)) (PIE X pins σ tg R) E { s with heap:=s.heap.push { cls := .type "range",data := .fields #[.int lo t,.int hi u,.int 1 v] },toks:=tk }:=by
 refine wpAny_pyIter_range (IsRange.new ..) (small_one h1 h2 h3 h4) ?_
 have I1:Inv X pins σ H { s with heap:=s.heap.push { cls := .type "range",data := .fields #[.int lo t,.int hi u,.int 1 v] },toks:=tk }:=I.kept fun b o e=>af _ e
 refine⟨(s.heap.push { cls := .type "range",data := .fields #[.int lo t,.int hi u,.int 1 v] }).objs.size,[(s.heap.push { cls := .type "range",data := .fields #[.int lo t,.int hi u,.int 1 v] }).objs.size],_,_,H,rfl,
  I1.kept (t':=tk) λb o e=>af _ e,za _ lo (hi - lo).toNat,?_,λb hb =>?_,q⟩
 ·have e1:lo+((0:Nat):Int)*1=lo:=by simp
  have e2:(((hi - lo).toNat:Nat):Int) - ((0:Nat):Int)=dP lo hi 1:=by rw[rangeSize_one];split <;> omega
  show IsRangeIter _ _ (lo+((0:Nat):Int)*1) ((((hi - lo).toNat:Nat):Int) - ((0:Nat):Int)) 1
  rw[e1,e2]
  exact aw _ rfl
 ·have e:b=(s.heap.push { cls := .type "range",data := .fields #[.int lo t,.int hi u,.int 1 v] }).objs.size:=by simpa using hb
  subst e
  exact I1.fpOk (ah _) (I1.hok.fresh (ah _))
noncomputable def wx(ta:TA):TI:=λσ H R=>ta σ H λvs H1 =>∃j:Int,vs = [.int j] /\ -(2 ^ 62)<=j/\j<2 ^ 62/\R (Itr 0 j.toNat) H1
noncomputable def xC(ta:TA):TI:=λσ H R=>ta σ H λvs H1 =>∃i j:Int,vs = [.int i,.int j]/\(-(2 ^ 62)<=i/\i<2 ^ 62 /\ -(2 ^ 62)<=j/\j<2 ^ 62)/\R (Itr i (j - i).toNat) H1
theorem Au {a:Expr}{ta:TA}{p pos:Pos} (hg:Gl X "range") (hm:X.mg "range"=none) (ha:PA X [a] ta) (hs:autoParam (starEach [a] X.env = [(false,eval a X.env)]) au1._auto_1):PI X tg (.Call (.Name "range" p) [a] [] pos) (wx ta):=by
 intro pins s σ H R I h
 refine Call_ (kn I hg hm boot_range (cK (thn (ha pos pins s σ H _ I h) λus s1 ⟨vs,H1,I1,r1,q1⟩ =>?_) hs rfl))
 obtain⟨j,e,q1,q2,q⟩:=q1
 subst e
 cases r1 with
 | cons r rr=>
   cases rr
   obtain⟨t,rfl⟩:=r
   exact call_range_1 (xt I1 (by omega) (by omega) q1 q2 (by simpa using q))
theorem AS {a b:Expr}{ta:TA}{p pos:Pos} (hg:Gl X "range") (hm:X.mg "range"=none) (ha:PA X [a,b] ta) (hs:autoParam (starEach [a,b] X.env = [(false,eval a X.env),(false,eval b X.env)]) au1._auto_1) (hs2:autoParam (starEach [b] X.env = [(false,eval b X.env)]) au1._auto_1) :
  PI X tg (.Call (.Name "range" p) [a,b] [] pos) (xC ta):=by
 intro pins s σ H R I h
 refine Call_ (kn I hg hm boot_range (cK (thn (ha pos pins s σ H _ I h) λus s1 ⟨vs,H1,I1,r1,q1⟩ =>?_) (by rw[hs,hs2]) (by rw[hs2];rfl)))
 obtain⟨i,j,e,⟨q1,q2,q3,q4⟩,q⟩:=q1
 subst e
 cases r1 with
 | cons r rr=>
   cases rr with
   | cons r' rr=>
     cases rr
     obtain⟨t,rfl⟩:=r
     obtain⟨t',rfl⟩:=r'
     exact call_range_2 (xt I1 q1 q2 q3 q4 q)
noncomputable def sX(wi:TI)(g:TG)(tb:TS):TS:=λD σ H=>wi σ H λJ H1 =>∃W:Nat->Nat->St->Hp->Prop,(∃m,W 0 m σ H1) /\ ∀i m σ H,W i m σ H ->
 (J.stop i H/\D.nx σ H)\/(J.go i H /\ ∃N:St->Hp->Prop,(∀σ' H',N σ' H' -> ∃m',m'<m/\W (i+1) m' σ' H') /\ ∀x H',J.yld i H x H'->g x σ H' λσ2 H2=>tb { D with nx:=N,ct:=N,bk:=D.nx } σ2 H2)
noncomputable def rm(fp:List Addr)(h:Heap):List (Addr×Obj):=fp.filterMap λb=>(h.get? b).map λo=>(b,o)
theorem km{fp:List Addr}{h:Heap}{b:Addr}{o:Obj}(hb:b∈fp)(e:h.get? b=some o):(b,o)∈rm fp h:=List.mem_filterMap.mpr ⟨b,hb,by rw[e];rfl⟩
theorem BL{fp:List Addr}{h:Heap}{p:Addr×Obj}(hp:p∈rm fp h):p.1∈fp/\h.get? p.1=some p.2:=by
 obtain⟨b,hb,e⟩:=List.mem_filterMap.mp hp
 cases q:h.get? b with
 | none=>rw[q]at e;cases e
 | some o=>
   rw[q]at e
   have e':(b,o)=p:=bR e
   subst e'
   exact⟨hb,q⟩
theorem Inv.pinned{pins:List (Addr×Obj)}{σ:St}{H:Hp}{s:Shared}{fp:List Addr}(I:Inv X pins σ H s)(hf: ∀b∈fp,qX X pins H b)(ho: ∀b∈fp,∃o,s.heap.get? b=some o /\ ∀v,o.data≠.cell v):Inv X (pins++rm fp s.heap) σ H s:=
 I.pins_of λp hp=>(bu.mp hp).elim (λz=>I.pin p (bb _ z)) λz=>by
  obtain⟨hb,e⟩:=BL z
  obtain⟨f0,f1,f2,_⟩:=hf p.1 hb
  obtain⟨o,e',d⟩:=ho p.1 hb
  rw[e]at e';cases e'
  exact⟨e,f0,f1,f2,d⟩
theorem Inv.unpinned{pins pl:List (Addr×Obj)}{σ:St}{H:Hp}{s:Shared}(I:Inv X (pins++pl) σ H s):Inv X pins σ H s:=I.pins_of λp hp=>I.pin p (bb _ (bA _ hp))
theorem EU{iter:Expr}{body:List Stmt}{wi:TI}{g:TG}{tb:TS}{pos:Pos}(hp:PassesOwn (model X.prog X.w) X.A X.env X.xe)(hc:X.calm=true)(hi:PI X tg iter wi)(hg:PG X tg g)(hb:PSs X body tb)
  (hs:autoParam (∀x,foldedSetIterable iter X.env x=pure x) au3._auto_1):PS X (.For tg iter body [] pos) (sX wi g tb):=by
 intro pins s σ H D I h
 refine wpAny_For (thn (hi pins s σ H _ I h) λv s1 h1=>thn h1 λitv s2 h2 =>?_) hs
 obtain⟨it,fp,tn,J,H2,e,I2,T,st2,f2,W,⟨m0,w0⟩,turn⟩:=h2
 subst e
 have stat: ∀{H':Hp},(∀b∈fp,H' b=none) -> ∀b∈fp,qX X pins H' b:=λhn b hb=>⟨hn b hb,(f2 b hb).2⟩
 refine codeAny_forLoop_any (λn s' =>∃i σ' H',Inv X pins σ' H' s'/\tn i s'.heap/\(∀b∈fp,H' b=none)/\W i n σ' H') ?_ m0 ⟨0,σ,H2,I2,st2,λb hb=>(f2 b hb).1,w0⟩
 rintro n s3 ⟨i,σ3,H3,I3,st3,fr3,w3⟩
 rcases turn i n σ3 H3 w3 with⟨stop,qn⟩ | ⟨go,N,hN,step⟩
 ·refine gn hp (thn (T.done X rfl rfl rfl hc i pins s3 σ3 H3 X.xe I3 (stat fr3) st3 stop) λr s4 ⟨hr,I4⟩ =>?_)
  subst hr
  exact pO ⟨σ3,H3,I4,qn⟩
 ·refine gn hp (thn (T.item X rfl rfl rfl hc i pins s3 σ3 H3 X.xe I3 (stat fr3) st3 go) λr s4 ⟨u,hr,h4⟩ =>?_)
  subst hr
  refine gn hp (thn h4 λ_ s5 ⟨x,H5,I5,r5,y5,st5,fr5⟩ =>?_)
  have I5':=I5.pinned (stat fr5) (T.obj _ _ st5)
  refine gn hp (thn (hg _ s5 σ3 H5 x u _ I5' r5 (step x H5 y5)) λ_ s6 ⟨σ6,H6,I6,q6⟩ =>?_)
  refine gn hp (thn (hb _ s6 σ6 H6 _ I6 q6) λf s7 q7 =>?_)
  have again: ∀{σ7:St}{H7:Hp},Inv X (pins++rm fp s5.heap) σ7 H7 s7->N σ7 H7 -> ∃m,m<n /\ ∃i σ' H',Inv X pins σ' H' s7/\tn i s7.heap/\(∀b∈fp,H' b=none)/\W i m σ' H':=λ{σ7 H7} I7 n7=>by
   obtain⟨m',hm,w7⟩:=hN σ7 H7 n7
   refine⟨m',hm,i+1,σ7,H7,I7.unpinned,T.keep _ _ _ st5 λb hb o e=>(I7.pin (b,o) (bb _ (bb _ (km hb e)))).1,λb hb =>?_,w7⟩
   obtain⟨o,e,d⟩:=T.obj _ _ st5 b hb
   exact(I7.pin (b,o) (bb _ (bb _ (km hb e)))).2.1
  cases f with
  | next=>obtain⟨σ7,H7,I7,n7⟩:=q7;exact again I7 n7
  | cont=>obtain⟨σ7,H7,I7,n7⟩:=q7;exact again I7 n7
  | brk=>obtain⟨σ7,H7,I7,q7⟩:=q7;exact⟨σ7,H7,I7.unpinned,q7⟩
  | ret v=>obtain⟨x7,σ7,H7,I7,r7,q7⟩:=q7;exact⟨x7,σ7,H7,I7.unpinned,r7,q7⟩
end
theorem Hf{K:aj}{a:Addr}{xs:List V}{g:TG}{tb:TS}{D:Ends}{σ:St}{H:Hp}(Pv:Nat->St->Hp->Prop)(h0:Pv 0 σ H)(hl: ∀i σ H,i<=xs.length->Pv i σ H->SqT K H a xs)
  (hs: ∀i x σ H,xs[i]? = some x->Pv i σ H->g x σ H λσ2 H2=>tb { D with nx:=Pv (i+1),ct:=Pv (i+1),bk:=D.nx } σ2 H2) (hd: ∀σ H,Pv xs.length σ H->D.nx σ H):
  ∃W:Nat->Nat->St->Hp->Prop,(∃m,W 0 m σ H) /\ ∀i m σ H,W i m σ H ->
   ((Itt K a).stop i H/\D.nx σ H)\/((Itt K a).go i H /\ ∃N:St->Hp->Prop,(∀σ' H',N σ' H' -> ∃m',m'<m/\W (i+1) m' σ' H') /\ ∀x H',(Itt K a).yld i H x H'->g x σ H' λσ2 H2=>tb { D with nx:=N,ct:=N,bk:=D.nx } σ2 H2):=by
 refine⟨λi m σ H=>m=xs.length - i/\i<=xs.length/\Pv i σ H,⟨xs.length,by simp,cn _,h0⟩,?_⟩
 rintro i m σ H ⟨rfl,hi,p⟩
 have q:=hl i σ H hi p
 by_cases hlt:i<xs.length
 ·refine .inr ⟨⟨xs,xs[i],q,by simp[hlt]⟩,Pv (i+1),λσ' H' p'=>⟨xs.length - (i+1),by omega,rfl,hlt,p'⟩,λx H' y =>?_⟩
  obtain⟨e,y⟩:=y
  subst e
  exact hs i x σ _ (y xs q) p
 ·have e:i=xs.length:=by omega
  subst e
  exact .inl ⟨⟨xs,q,ah _⟩,hd σ H p⟩
theorem Bc{lo:Int}{n:Nat}{g:TG}{tb:TS}{D:Ends}{σ:St}{H:Hp}(Pv:Nat->St->Hp->Prop)(h0:Pv 0 σ H)
  (hs: ∀i σ H,i<n->Pv i σ H->g (.int (lo+i)) σ H λσ2 H2=>tb { D with nx:=Pv (i+1),ct:=Pv (i+1),bk:=D.nx } σ2 H2) (hd: ∀σ H,Pv n σ H->D.nx σ H):
  ∃W:Nat->Nat->St->Hp->Prop,(∃m,W 0 m σ H) /\ ∀i m σ H,W i m σ H ->
   ((Itr lo n).stop i H/\D.nx σ H)\/((Itr lo n).go i H /\ ∃N:St->Hp->Prop,(∀σ' H',N σ' H' -> ∃m',m'<m/\W (i+1) m' σ' H') /\ ∀x H',(Itr lo n).yld i H x H'->g x σ H' λσ2 H2=>tb { D with nx:=N,ct:=N,bk:=D.nx } σ2 H2):=by
 refine⟨λi m σ H=>m=n - i/\i<=n/\Pv i σ H,⟨n,by simp,cn _,h0⟩,?_⟩
 rintro i m σ H ⟨rfl,hi,p⟩
 by_cases hlt:i<n
 ·refine .inr ⟨hlt,Pv (i+1),λσ' H' p'=>⟨n - (i+1),by omega,rfl,hlt,p'⟩,λx H' y =>?_⟩
  obtain⟨e,y⟩:=y
  subst e y
  exact hs i σ _ hlt p
 ·have e:i=n:=by omega
  subst e
  exact .inl ⟨ah _,hd σ H p⟩
end _L
namespace _L
open PySem PySem.Spec PyProof.Rows
abbrev R2:=V->V->Hp->VK->Prop
noncomputable def OpR(X:Cx)(f:Value->Value->Sem Value)(r:R2):Prop:=
 ∀(pins:List (Addr×Obj)) (s:Shared) (σ:St) (H:Hp) (x y:V) (v u:Value) (Q:VK),Inv X pins σ H s->RelV x v->RelV y u->r x y H Q ->
  aH (model X.prog X.w) X.A (f v u) (EP X pins σ Q) X.xe s
noncomputable def UnR(X:Cx)(f:Value->Sem Value)(r:V->Hp->VK->Prop):Prop:=
 ∀(pins:List (Addr×Obj)) (s:Shared) (σ:St) (H:Hp) (x:V) (v:Value) (Q:VK),Inv X pins σ H s->RelV x v->r x H Q ->
  aH (model X.prog X.w) X.A (f v) (EP X pins σ Q) X.xe s
noncomputable def gS(X:Cx)(f:Value)(r:List V->Hp->VK->Prop):Prop:=
 ∀(pins:List (Addr×Obj)) (s:Shared) (σ:St) (H:Hp) (xs:List V) (us:List Value) (Q:VK),Inv X pins σ H s->bW xs us->r xs H Q ->
  aH (model X.prog X.w) X.A (call f us) (EP X pins σ Q) X.xe s
noncomputable def tOp(r:R2)(ta tb:TE):TE:=λσ H Q=>ta σ H λx H1=>tb σ H1 λy H2=>r x y H2 Q
noncomputable def tUn(r:V->Hp->VK->Prop)(ta:TE):TE:=λσ H Q=>ta σ H λx H1=>r x H1 Q
noncomputable def rI(C:Int->Int->Prop)(g:Int->Int->V):R2:=λx y H Q =>∃i j,x = .int i/\y = .int j/\C i j/\Q (g i j) H
noncomputable def rI0(g:Int->Int->V):R2:=λx y H Q =>∃i j,x = .int i/\y = .int j/\Q (g i j) H
noncomputable def rU(g:Int->V):V->Hp->VK->Prop:=λx H Q =>∃i,x = .int i/\Q (g i) H
section
variable {X:Cx}{a b c:Expr}{ta tb tc:TE}{pos:Pos}
theorem KG(ha:PE X a ta)(hb:PE X b tb){pins:List (Addr×Obj)}{s:Shared}{σ:St}{H:Hp}{R:V->V->Hp->Prop}(I:Inv X pins σ H s)
  (h:ta σ H λx H1=>tb σ H1 λy H2=>R x y H2) {Q:Value->Shared->Prop}{f:Value->Value->Sem Value}
  (hf: ∀v u s2 x y H2,Inv X pins σ H2 s2->RelV x v->RelV y u->R x y H2->aH (model X.prog X.w) X.A (f v u) Q X.xe s2):
  aH (model X.prog X.w) X.A (eval a X.env) (λv s₁=>aH (model X.prog X.w) X.A (eval b X.env) (λu s₂=>aH (model X.prog X.w) X.A (f v u) Q X.xe s₂) X.xe s₁) X.xe s:=by
 refine thn (ha pins s σ H _ I h) λv s1 ⟨x,H1,I1,r1,q1⟩ =>?_
 refine thn (hb pins s1 σ H1 _ I1 q1) λu s2 ⟨y,H2,I2,r2,q2⟩ =>?_
 exact hf v u s2 x y H2 I2 r1 r2 q2
theorem ur{op:Operator}{r:R2}(ho:OpR X (binaryOp op) r)(ha:PE X a ta)(hb:PE X b tb):PE X (.BinOp a op b pos) (tOp r ta tb):=by
 intro pins s σ H Q I h
 exact wpAny_BinOp (KG ha hb I h λv u s2 x y H2 I2 rx ry q=>ho pins s2 σ H2 x y v u Q I2 rx ry q)
theorem Ii{op:UnaryOp}{r:V->Hp->VK->Prop}(ho:UnR X (unaryOp op) r)(ha:PE X a ta):PE X (.UnaryOp op a pos) (tUn r ta):=by
 intro pins s σ H Q I h
 exact UnaryOp_ (thn (ha pins s σ H _ I h) λv s1 ⟨x,H1,I1,r1,q1⟩=>ho pins s1 σ H1 x v Q I1 r1 q1)
theorem opI{f:Value->Value->Sem Value}{C:Int->Int->Prop}{g:Int->Int->Int}
  (rule: ∀(i j:Int) (t u:Tok) (s:Shared) (Q:Value->Shared->Prop) (E:Value->Shared->Prop),C i j->Q (.int (g i j) s.toks) { s with toks:=s.toks+1 }->aH (model X.prog X.w) X.A (f (.int i t) (.int j u)) Q E s):
  OpR X f (rI C λi j => .int (g i j)):=by
 intro pins s σ H x y v u Q I rx ry h
 obtain⟨i,j,rfl,rfl,hc,q⟩:=h
 obtain⟨t,rfl⟩:=rx
 obtain⟨t',rfl⟩:=ry
 exact rule i j t t' s _ _ hc ⟨.int (g i j),H,I.tok _,⟨_,rfl⟩,q⟩
theorem L4{f:Value->Value->Sem Value}{g:Int->Int->Int}
  (rule: ∀(i j:Int) (t u:Tok) (s:Shared) (Q:Value->Shared->Prop) (E:Value->Shared->Prop),Q (.int (g i j) s.toks) { s with toks:=s.toks+1 }->aH (model X.prog X.w) X.A (f (.int i t) (.int j u)) Q E s):
  OpR X f (rI0 λi j => .int (g i j)):=by
 intro pins s σ H x y v u Q I rx ry h
 obtain⟨i,j,rfl,rfl,q⟩:=h
 obtain⟨t,rfl⟩:=rx
 obtain⟨t',rfl⟩:=ry
 exact rule i j t t' s _ _ ⟨.int (g i j),H,I.tok _,⟨_,rfl⟩,q⟩
theorem G7{f:Value->Value->Sem Value}{g:Int->Int->Bool}
  (rule: ∀(i j:Int) (t u:Tok) (s:Shared) (Q:Value->Shared->Prop) (E:Value->Shared->Prop),Q (.bool (g i j)) s->aH (model X.prog X.w) X.A (f (.int i t) (.int j u)) Q E s):
  OpR X f (rI0 λi j => .bl (g i j)):=by
 intro pins s σ H x y v u Q I rx ry h
 obtain⟨i,j,rfl,rfl,q⟩:=h
 obtain⟨t,rfl⟩:=rx
 obtain⟨t',rfl⟩:=ry
 exact rule i j t t' s _ _ ⟨.bl (g i j),H,I,rfl,q⟩
noncomputable def Nn(i j:Int):Prop:=0<j/\j<1073741824
noncomputable def Nl(i j:Int):Prop:=0<=j/\j<=1000000/\i.natAbs<2 ^ 64
noncomputable def GP(i j:Int):Prop:=(-(2 ^ 64)<i/\i<2 ^ 64)\/(-(2 ^ 64)<j/\j<2 ^ 64)
theorem GP.ok{i j:Int}(h:GP i j):IntMulOk i j:=by
 rcases h with⟨h1,h2⟩ | ⟨h1,h2⟩
 ·exact .of_left (intBits_le_64 h1 h2)
 ·exact .of_right (intBits_le_64 h1 h2)
theorem IV:OpR X (binaryOp .Add) (rI0 λi j => .int (i+j)):=L4 λ_ _ _ _ _ _ _ q=>add_int q
theorem K9:OpR X (binaryOp .Sub) (rI0 λi j => .int (i - j)):=L4 λ_ _ _ _ _ _ _ q=>sub_int q
theorem J4:OpR X (binaryOp .Mult) (rI GP λi j => .int (i*j)):=opI λ_ _ _ _ _ _ _ hc q=>mul_int q hc.ok
theorem FB:OpR X (binaryOp .FloorDiv) (rI Nn λi j => .int (i / j)):=opI λi j _ _ _ _ _ hc q=>by
 have h1:(0:Int)<j:=hc.1
 have h2:j<1073741824:=hc.2
 exact floordiv_int (by omega) (by rw[Int.fdiv_eq_ediv_of_nonneg i (by omega)];exact q) (.inl (PyProof.noPylong_small (by omega)))
theorem Kb:OpR X (binaryOp .Mod) (rI (λ_ j=>0<j) λi j => .int (i % j)):=opI λi j _ _ _ _ _ hc q=>by
 have h1:(0:Int)<j:=hc
 exact mod_int' (by omega) (by rw[Int.fmod_eq_emod_of_nonneg i (by omega)];exact q)
theorem Kz:OpR X (binaryOp .Pow) (rI Nl λi j => .int (i ^ j.toNat)):=opI λ_ _ _ _ _ _ _ hc q=>pow_int_small hc.1 hc.2.1 hc.2.2 q
theorem unI{f:Value->Sem Value}{g:Int->Int}
  (rule: ∀(i:Int) (t:Tok) (s:Shared) (Q:Value->Shared->Prop) (E:Value->Shared->Prop),Q (.int (g i) s.toks) { s with toks:=s.toks+1 }->aH (model X.prog X.w) X.A (f (.int i t)) Q E s):
  UnR X f (rU λi => .int (g i)):=by
 intro pins s σ H x v Q I rx h
 obtain⟨i,rfl,q⟩:=h
 obtain⟨t,rfl⟩:=rx
 exact rule i t s _ _ ⟨.int (g i),H,I.tok _,⟨_,rfl⟩,q⟩
theorem El:UnR X (unaryOp .USub) (rU λi => .int (-i)):=unI λ_ _ _ _ _ q=>neg_int q
end
section
variable {X:Cx}{a b c:Expr}{ta tb tc:TE}{pos:Pos}
theorem NL:OpR X (compareOp .Lt) (rI0 λi j => .bl (decide (i<j))):=G7 λ_ _ _ _ _ _ _ q=>lt_int q
theorem Nk:OpR X (compareOp .LtE) (rI0 λi j => .bl (decide (i<=j))):=G7 λ_ _ _ _ _ _ _ q=>le_int q
theorem Li:OpR X (compareOp .Gt) (rI0 λi j => .bl (decide (j<i))):=G7 λ_ _ _ _ _ _ _ q=>gt_int q
theorem Mf:OpR X (compareOp .GtE) (rI0 λi j => .bl (decide (j<=i))):=G7 λ_ _ _ _ _ _ _ q=>ge_int q
theorem OpR.or{f:Value->Value->Sem Value}{r r':R2}(h:OpR X f r)(h':OpR X f r'):OpR X f (λx y H Q=>r x y H Q\/r' x y H Q):=by
 intro pins s σ H x y v u Q I rx ry q
 rcases q with q |q
 ·exact h pins s σ H x y v u Q I rx ry q
 ·exact h' pins s σ H x y v u Q I rx ry q
theorem Gq{op:CmpOp}{r:R2}(ho:OpR X (compareOp op) r)(ha:PE X a ta)(hb:PE X b tb)(hm:behindInMarks op b=false):PE X (.Compare a [op] [b] pos) (tOp r ta tb):=by
 intro pins s σ H Q I h
 exact wpAny_Compare1 (KG ha hb I h λv u s2 x y H2 I2 rx ry q=>ho pins s2 σ H2 x y v u Q I2 rx ry q) hm
noncomputable def H9(t:TE):TT:=λσ H Q=>t σ H λx H' =>∃k,x = .bl k/\Q k H'
theorem FK{op:CmpOp}{r:R2}(ho:OpR X (compareOp op) r)(ha:PE X a ta)(hb:PE X b tb)(hm:behindInMarks op b=false):PT X (.Compare a [op] [b] pos) (H9 (tOp r ta tb)):=by
 intro pins s σ H Q I h
 refine wpAny_isTrue_Compare1 (thn (ha pins s σ H _ I h) λv s1 ⟨x,H1,I1,r1,q1⟩=>thn (hb pins s1 σ H1 _ I1 q1) λu s2 ⟨y,H2,I2,r2,q2⟩=>
  thn (ho pins s2 σ H2 x y v u _ I2 r1 r2 q2) λc s3 ⟨z,H3,I3,r3,k,e,q3⟩ =>?_) hm
 subst e
 cases r3
 exact gG ⟨H3,I3,q3⟩
theorem rT:(sizeLine:Nat)<2 ^ 63:=by rw[sizeLine_eq];decide
theorem vals1{x:V}{us:List Value}(r:bW [x] us): ∃u,us = [u]/\RelV x u:=by
 cases r with
 | cons r1 r2=>cases r2;exact⟨_,rfl,r1⟩
theorem vals2{x y:V}{us:List Value}(r:bW [x,y] us): ∃u w',us = [u,w']/\RelV x u/\RelV y w':=by
 cases r with
 | cons r1 r2=>
   cases r2 with
   | cons r3 r4=>cases r4;exact⟨_,_,rfl,r1,r3⟩
theorem A0 (hc:X.calm=true):gS X (.builtin "max") (fun xs H Q => ∃ i j,xs = [.int i,.int j]/\Q (.int (if j > i then j else i)) H):=by
 intro pins s σ H xs us Q I r h
 obtain⟨i,j,rfl,q⟩:=h
 obtain⟨u,w',rfl,⟨t,rfl⟩,⟨t',rfl⟩⟩:=vals2 r
 refine max_two_ints (I.ok.hd hc) λh' tk k=>⟨_,H,I.kept k,?_,q⟩
 by_cases hj:j > i
 ·rw[if_pos hj,if_pos hj];exact⟨_,rfl⟩
 ·rw[if_neg hj,if_neg hj];exact⟨_,rfl⟩
theorem Bo (hc:X.calm=true):gS X (.builtin "min") (fun xs H Q => ∃ i j,xs = [.int i,.int j]/\Q (.int (if j < i then j else i)) H):=by
 intro pins s σ H xs us Q I r h
 obtain⟨i,j,rfl,q⟩:=h
 obtain⟨u,w',rfl,⟨t,rfl⟩,⟨t',rfl⟩⟩:=vals2 r
 refine min_two_ints (I.ok.hd hc) λh' tk k=>⟨_,H,I.kept k,?_,q⟩
 by_cases hj:j<i
 ·rw[if_pos hj,if_pos hj];exact⟨_,rfl⟩
 ·rw[if_neg hj,if_neg hj];exact⟨_,rfl⟩
end
end _L
namespace _L
open PySem PySem.Spec PyProof.Rows
structure KA(h:Heap)(x dx C:Addr)(mA:Str->Option Value):Prop where
 obj:h.get? x=some (tL C dx)
 ns:h.Ns1 dx mA
 ne:dx≠x
theorem Bk{h:Heap}{dx:Addr}{mA:Str->Option Value}(n:h.Ns1 dx mA): ∃od,h.get? dx=some od /\ ∀name,vV name od=some (mA name):=by
 obtain⟨o,es,ep,ho,hd,hk,_,hm⟩:=n
 refine⟨o,ho,λname =>?_⟩
 have e:=hm name
 unfold nsFind findBy at e
 rw[<- Array.find?_toList]at e
 unfold vV
 rw[hd]
 dsimp only
 split
 ·rename_i y q
  rw[q]at e
  exact congrArg some e
 ·rename_i q
  rw[q]at e
  have a:es.toList.any (·.refKey)=false:=by
   rw[List.any_eq_false]
   intro y hy
   obtain⟨z,t,hkey⟩:=hk y (Array.mem_toList_iff.mp hy)
   simp[DictEntry.refKey,hkey]
  have a': ¬es.toList.any (·.refKey)=true:=by rw[a];exact bM
  rw[if_neg a']
  exact congrArg some e
theorem KA.look{h:Heap}{x dx C:Addr}{mA:Str->Option Value}(I:KA h x dx C mA): ∃od,PySem.W.InstAt h x (tL C dx) C (some od) /\ ∀name,vV name od=some (mA name):=
 let ⟨od,ho,hl⟩:=Bk I.ns
 ⟨od,⟨I.obj,rfl,rfl,ho⟩,hl⟩
section
variable {prog:Program}{w:World}{A:Around}{E:Value->Shared->Prop}{s:Shared}{K:aj}{x dx C f:Addr}{mA:Str->Option Value}{name:Str}{v:Value}
end
theorem rO.some_of{v:V}{o:Option Value}(r:rO (some v) o): ∃u,o=some u/\RelV v u:=by
 cases o with
 | none=>exact(show False from r).elim
 | some u=>exact⟨u,rfl,r⟩
section
variable {P:Program}{w:World}{H H':Hp}{h h':Heap}{a C dx:Addr}{fs fs':List (Str×V)}
theorem Gx(hok:HOk P w H h)(e:H a=some (.ins C dx fs)): ∃mA,KA h a dx C mA/\(∀f,rO (fs.lookup f) (mA f))/\PySem.Within mA (fs.map (·.1))/\fs.length<=1000/\H dx=some (.own a):=by
 obtain⟨d,z,ne,ob,mA,n,r,q⟩:=(show d9 P w H h a (.ins C dx fs) from hok a _ e)
 exact⟨mA,⟨ob,n,ne⟩,r,q,z,d⟩
end
structure Cls(K:aj)(C:Addr):Prop where
 pg:PySem.W.plainGet K C Str.empty=true
 hd:PySem.W.hasDictIn K C=true
 po:PySem.W.plainOver K C=true
 sa:jJ K (.ref C) "__setattr__"=some (some (.builtin "object.__setattr__"))
theorem Cls.get{K:aj}{C:Addr}(c:Cls K C)(f:Str):PySem.W.plainGet K C f=true:=c.pg
structure Con(K:aj)(C:Addr)(f:Str)(v:V)(u:Value):Prop where
 at_:jJ K (.ref C) f=some (some u)
 rel:RelV v u
 get:E6 K u "__get__"=some none
 cp:PySem.W.copiedNames.contains f=false
structure OY(K:aj)(C:Addr)(m:Str)(f:Addr):Prop where
 at_:jJ K (.ref C) m=some (some (.ref f))
 fn:PySem.W.isFn K (.ref f)=true
 kp:cm K (.ref f)=true
section
variable {X:Cx}{pins:List (Addr×Obj)}{σ:St}{H:Hp}{s:Shared}{a C dx:Addr}{fs:List (Str×V)}{f:Str}{v:V}{A:Around}{E:Value->Shared->Prop}
end
section
variable {X:Cx}{o e value:Expr}{f:Str}{pos pos' tpos:Pos}{ta tv:TE}
end
section
variable {X:Cx}{pins:List (Addr×Obj)}{σ:St}{H:Hp}{s:Shared}{A:Around}{E:Value->Shared->Prop}{Q:Value->Shared->Prop}{c:Value}{b:Bool}
inductive mP(K:aj)(H:Hp):V->Value->Prop where
 | non:mP K H .non (.type "NoneType")
 | bl (x:Bool):mP K H (.bl x) (.type "bool")
 | int (i:Int):mP K H (.int i) (.type "int")
 | str (x:Str):mP K H (.str x) (.type "str")
 | flt (x:UInt64):mP K H (.flt x) (.type "float")
 | lst {a:Addr}{xs:List V} (e:H a=some (.lst xs)):mP K H (.ref a) (.type "list")
 | frz {a:Addr}{o:Obj}{xs:List V} (e:H a=some (.frz o (.lst xs))):mP K H (.ref a) (.type "list")
 | tup {a:Addr}{xs:List V} (e:H a=some (.tup xs)):mP K H (.ref a) (.type "tuple")
 | dK {a:Addr}{kvs:List (Key×V)} (e:H a=some (.dK kvs)):mP K H (.ref a) (.type "dict")
 | dT {a:Addr}{kvs:List (List Key×V)} (e:H a=some (.dT kvs)):mP K H (.ref a) (.type "dict")
 | ins {a C dx:Addr}{fs:List (Str×V)} (e:H a=some (.ins C dx fs)) (cl:Cls K C) (ha:jJ K (.ref C) "__class__"=some (some (.builtin "object.__class__")))
   (hn:E6 K (.builtin "object.__class__") "__get__"=some (some (.builtin "getset_descriptor.__get__"))) (htk:PySem.W.takesIn K (.builtin "object.__class__")=some true)
   (hm:PySem.W.mroIn K C (.type "object")=some true):mP K H (.ref a) (.ref C)
theorem BJ{x:V}{u t:Value}(I:Inv X pins σ H s)(rx:RelV x u)(ty:mP X.K H x t)(e:PySem.W.kitOne X.K t c=some b)(h: ∀tk,Q (.bool b) { s with toks:=tk }):
  aH (model X.prog X.w) A (call (.builtin "isinstance") [u,c]) Q E s:=by
 cases ty with
 | non=>cases (show u=dh from rx);exact dy PySem.W.kitx_none I.kIn fv e (λz=>nomatch z) h
 | bl y=>cases (show u=xU y from rx);exact dy PySem.W.kitx_bool I.kIn fv e (λz=>nomatch z) h
 | int i=>obtain⟨t,q⟩:=(show ∃t,u=oz i t from rx);cases q;exact dy PySem.W.kitx_int I.kIn fv e (λz=>nomatch z) h
 | str y=>obtain⟨t,q⟩:=(show ∃t,u=tK y t from rx);cases q;exact dy PySem.W.kitx_str I.kIn fv e (λz=>nomatch z) h
 | flt y=>obtain⟨t,q⟩:=(show ∃t,u=Value.float y t from rx);cases q;exact dy PySem.W.kitx_float I.kIn fv e (λz=>nomatch z) h
 | @lst a xs ea=>
   cases (show u=bj a from rx)
   obtain⟨_,_,n,_,h1⟩:=(show d9 X.prog X.w H s.heap a (.lst xs) from I.hok a _ ea)
   exact dy E7 I.kIn ⟨_,h1,rfl⟩ e (λz=>nomatch z) h
 | @frz a ob xs ea=>
   cases (show u=bj a from rx)
   obtain⟨_,_,_,n,_,h1⟩:=(show d9 X.prog X.w H s.heap a (.frz ob (.lst xs)) from I.hok a _ ea)
   exact dy E7 I.kIn ⟨_,h1,rfl⟩ e (λz=>nomatch z) h
 | @tup a xs ea=>
   cases (show u=bj a from rx)
   obtain⟨_,_,_,p⟩:=(show d9 X.prog X.w H s.heap a (.tup xs) from I.hok a _ ea)
   obtain⟨o,h1,h2,_⟩:=p.1
   exact dy PySem.W.kitx_tuple I.kIn ⟨o,h1,h2⟩ e (λz=>nomatch z) h
 | @dK a kvs ea=>
   cases (show u=bj a from rx)
   obtain⟨_,_,vs,_,p⟩:=(show d9 X.prog X.w H s.heap a (.dK kvs) from I.hok a _ ea)
   obtain⟨o,es,ep,h1,h2,_⟩:=p
   exact dy E8 I.kIn ⟨o,h1,h2.1⟩ e (λz=>nomatch z) h
 | @dT a kvs ea=>
   cases (show u=bj a from rx)
   obtain⟨_,_,xs,_,o,es,ep,h1,h2,_⟩:=(show d9 X.prog X.w H s.heap a (.dT kvs) from I.hok a _ ea)
   exact dy E8 I.kIn ⟨o,h1,h2.1⟩ e (λz=>nomatch z) h
 | @ins a C dx fs ea cl ha hn htk hm=>
   cases (show u=bj a from rx)
   obtain⟨mA,O,_⟩:=Gx I.hok ea
   obtain⟨od,J,_⟩:=O.look
   exact dy (PySem.W.kitx_own (cl.get _) cl.hd ha hn htk hm) I.kIn J e (λz=>nomatch z) h
end
end _L
namespace _L
open PySem PySem.Spec PyProof.Rows
structure jO(k:Nat)(A:Around):Prop where
 hd:A.handled=none
 dp:A.depth+3*k+5<recursionLimit
 un:A.units+16*k+200<cLine
 gu:A.guards=some []
theorem jO.mono{j k:Nat}{A:Around}(r:jO k A)(h:j<=k):jO j A:=⟨r.hd,by have:=r.dp;omega,by have:=r.un;omega,r.gu⟩
theorem jO.deeper{k:Nat}{A:Around}(r:jO (k+1) A)(env:Env):jO k (A.deeper env):=
 ⟨r.hd,by have:=r.dp;show A.depth+1+3*k+5<_;omega,by have:=r.un;show A.units+3+16*k+200<_;omega,r.gu⟩
theorem jO.depth{k:Nat}{A:Around}(r:jO k A):A.depth<recursionLimit:=by have:=r.dp;omega
theorem jO.units{k:Nat}{A:Around}(r:jO k A):A.units+64<cLine:=by have:=r.un;omega
noncomputable def AF:TA:=λ_ H Q=>Q [] H
noncomputable def uz(ta:TE)(tr:TA):TA:=λσ H Q=>ta σ H λx H1=>tr σ H1 λxs H2=>Q (x::xs) H2
section
variable {X:Cx}{e:Expr}{es:List Expr}{te:TE}{t:TA}{pos:Pos}
theorem vP:PA X [] AF:=λ_ _ _ _ H Q I h=>Calls.spliced_nil ⟨[],H,I,.nil,h⟩
theorem ot(ha:PE X e te)(hr:PA X es t)(hs:autoParam (starEach (e::es) X.env=(false,eval e X.env)::starEach es X.env) au1._auto_1):PA X (e::es) (uz te t):=by
 intro pos pins s σ H Q I h
 rw[hs]
 show aH _ _ (spliced ((false,eval e X.env)::backTo pos (starEach es X.env))) _ _ s
 refine pY (thn (ha pins s σ H _ I h) λu s1 ⟨x,H1,I1,r1,q1⟩ =>?_)
 exact thn (hr pos pins s1 σ H1 _ I1 q1) λus s2 ⟨xs,H2,I2,r2,q2⟩=>⟨x::xs,H2,I2,.cons r1 r2,q2⟩
noncomputable def LY(t:TA):TE:=λσ H Q=>t σ H λxs H1=>xs.length<=sizeLine /\ ∀p,H1 p=none->Q (.ref p) (upd H1 p (.tup xs))
noncomputable def MD(t:TA):TE:=λσ H Q=>t σ H λxs H1=>xs.length<=sizeLine /\ ∀p,H1 p=none->Q (.ref p) (upd H1 p (.lst xs))
theorem Ji{x1}(h:PA X es t):PE X (.Tuple es x1 pos) (LY t):=by
 intro pins s σ H Q I hq
 refine wpAny_Tuple_spliced (thn (h pos pins s σ H _ I hq) λus s1 ⟨xs,H1,I1,r,z,q⟩=>⟨by rw[<- r.length];exact z,?_⟩)
 have hf:H1 s1.heap.objs.size=none:=I1.hok.fresh (ah _)
 refine⟨.ref s1.heap.objs.size,upd H1 s1.heap.objs.size (.tup xs),I1.laid (t':=s1.toks) (λb u e=>af _ e) (ah _) ?_,rfl,q _ hf⟩
 exact⟨z,us,r,⟨_,aw _ rfl,rfl,_,rfl⟩,_,aw _ rfl,rfl⟩
theorem J1(h:PA X es t):PE X (.List es pos) (MD t):=by
 intro pins s σ H Q I hq
 refine wpAny_List_spliced (thn (h pos pins s σ H _ I hq) λus s1 ⟨xs,H1,I1,r,z,q⟩=>⟨by rw[<- r.length];exact z,?_⟩)
 have hf:H1 s1.heap.objs.size=none:=I1.hok.fresh (ah _)
 refine⟨.ref s1.heap.objs.size,upd H1 s1.heap.objs.size (.lst xs),I1.laid (t':=s1.toks) (λb u e=>af _ e) (ah _) ?_,rfl,q _ hf⟩
 exact⟨z,us,0,r,aw _ rfl⟩
end
abbrev Sp:=List V->Hp->VK->XK->Prop
abbrev CXT:=List Env->Hp->Shared->XK->Value->Shared->Prop
structure A5(P:Program)(w:World)(K:aj)(mg:Str->Option Value)(base:Heap)(A:Around)(outer:List Env)(s:Shared)(H:Hp):Prop where
 frames:A.frames=some outer
 mod:Mod K mg base
 bs: ∀b o,base.get? b=some o->s.heap.get? b=some o/\H b=none
 bsz:base.objs.size<=s.heap.objs.size
 funs:s.heap.FunFrames base outer
 frf: ∀b∈frs outer,H b=none
 hok:HOk P w H s.heap
 bare:AllBare s.gens
noncomputable def CE(outer:List Env)(P:Program)(w:World)(H:Hp)(s:Shared)(Q:VK)(u:Value)(s':Shared):Prop:=
 ∃v H',s'.os=s.os/\AllBare s'.gens/\Un (frs outer) [] H H' s.heap s'.heap/\HOk P w H' s'.heap/\RelV v u/\Q v H'
noncomputable def CR(CX:CXT)(outer:List Env)(P:Program)(w:World)(H:Hp)(s:Shared)(Q:VK)(E:XK)(r:Result)(s':Shared):Prop:=
 match r with
 | .ok (.ret u)=>CE outer P w H s Q u s'
 | .ok _=>False
 | .error e=>CX outer H s E e s'
structure jW(P:Program)(w:World)(K:aj)(mg:Str->Option Value)(base:Heap)(CX:CXT)(k:Nat)(f:Addr)(fd:FuncData)(ps:List Str)(sp:Sp):Prop where
 len: ∀vs H Q E,sp vs H Q E->vs.length=ps.length
 run: ∀(A:Around) (outer:List Env) (s:Shared) (H:Hp) (args:Args) (us:List Value) (vs:List V) (Q:VK) (E:XK),jO k A->A5 P w K mg base A outer s H->BindsTo s fd args (ps.zip us)->bW vs us->sp vs H Q E ->
  sv (model P w) A (.call (.ref f) args) (CR CX outer P w H s Q E) s
section
variable {X:Cx}{pins:List (Addr×Obj)}{σ:St}{H:Hp}{s s':Shared}
theorem Inv.env0(I:Inv X pins σ H s):A5 X.prog X.w X.K X.mg X.base X.A X.stack s H:=
 ⟨I.ok.frames,I.ok.mod,I.bs,aM I.ok.bsz I.sz,I.stack,I.stkFree,I.hok,I.bare⟩
theorem Inv.after{Q:VK}{u:Value}(I:Inv X pins σ H s)(h:CE X.stack X.prog X.w H s Q u s'):EP X pins σ Q u s':=by
 obtain⟨v,H',os,bare,un,hok,r,q⟩:=h
 obtain⟨hh,g,d,t,os'⟩:=s'
 obtain rfl:os'=s.os:=os
 exact⟨v,H',I.call (h':=hh) (g':=g) (d':=d) (t':=t) (ch:= []) un hok bare (λb z=>absurd z (by simp)),r,q⟩
end
noncomputable def zx(sp:Sp)(dvs:List V)(E:XK)(t:TA):TE:=λσ H Q=>t σ H λvs H1=>sp (vs++dvs) H1 Q E
noncomputable def Binds(K:aj)(fd:FuncData)(ps:List Str)(ds:List Value):Prop:=
 ∀(s:Shared) (us:List Value),K.In s.heap->(us++ds).length=ps.length->BindsTo s fd ⟨us,[]⟩ (ps.zip (us++ds))
theorem Binds.all{K:aj}{fd:FuncData}{ps:List Str}(h: ∀us:List Value,us.length=ps.length->bindArgs fd ⟨us,[]⟩=pure (ps.zip us)):Binds K fd ps []:=λs us _ hl=>by
 rw[hZ]at hl ⊢
 exact .of_eq (h us hl)
noncomputable def vw(CX:CXT)(X:Cx)(E:XK):Prop:= ∀(pins:List (Addr×Obj)) (σ:St) (H:Hp) (s:Shared) (e:Value) (s':Shared),Inv X pins σ H s->CX X.stack H s E e s'->X.xe e s'
section
variable {X:Cx}{CX:CXT}{k:Nat}{f C:Addr}{fd:FuncData}{ps:List Str}{sp:Sp}{dvs:List V}{ds:List Value}{E:XK}{x m:Str}{p pos apos:Pos}{e o:Expr}{es:List Expr}{ta:TE}{t:TA}
theorem vS{pins:List (Addr×Obj)}{σ:St}{H:Hp}{s:Shared}{Q:VK}{us:List Value}{vs:List V}(F:jW X.prog X.w X.K X.mg X.base CX k f fd ps sp)(hr:jO k X.A)(hb:Binds X.K fd ps ds)(hd:bW dvs ds)(hx:vw CX X E)
  (I:Inv X pins σ H s) (r:bW vs us) (h:sp (vs++dvs) H Q E):aH (model X.prog X.w) X.A (call (.ref f) us) (EP X pins σ Q) X.xe s:=by
 have r2:bW (vs++dvs) (us++ds):=r.append hd
 have hl:(us++ds).length=ps.length:=by rw[<- r2.length];exact F.len _ _ _ _ h
 refine wpAny_call (kD (F.run X.A X.stack s H ⟨us,[]⟩ (us++ds) (vs++dvs) Q E hr I.env0 (hb s us I.kIn hl) r2 h) λr s' hq =>?_)
 cases r with
 | error e=>exact hx pins σ H s e s' I hq
 | ok fl=>
   cases fl with
   | ret u=>exact I.after hq
   | next=>exact di hq
   | brk=>exact di hq
   | cont=>exact di hq
theorem Hy(F:jW X.prog X.w X.K X.mg X.base CX k f fd ps sp)(hr:jO k X.A)(hg:Gl X x)(hm:X.mg x=some (.ref f))(hk:cm X.K (.ref f)=true)(hb:Binds X.K fd ps ds)(hd:bW dvs ds)(hx:vw CX X E)
  (ha:PA X (e::es) t) (hdb:autoParam ((x == ("__debug__":Str))=false) au2._auto_1) (he:autoParam (starEach (e::es) X.env=(false,eval e X.env)::starEach es X.env) au1._auto_1) (hpl:autoParam ((backTo pos (starEach es X.env)).any (·.1)=false) au1._auto_1) :
  PE X (.Call (.Name x p) (e::es) [] pos) (zx sp dvs E t):=by
 intro pins s σ H Q I h
 refine fY (qr I hg hm ?_ hdb)
 refine pA (h₀:=X.base) I.ok.mod.kin hk (thn (ha pos pins s σ H _ I h) λus s1 ⟨vs,H1,I1,r,q⟩=>⟨I1.kIn,?_⟩) he hpl
 exact vS F hr hb hd hx I1 r q
theorem DZ(F:jW X.prog X.w X.K X.mg X.base CX k f fd ps sp)(hr:jO k X.A)(hg:Gl X x)(hm:X.mg x=some (.ref f))(hk:cm X.K (.ref f)=true)(hb:Binds X.K fd ps ds)(hd:bW dvs ds)(hx:vw CX X E)
  (hdb:autoParam ((x == ("__debug__":Str))=false) au2._auto_1):PE X (.Call (.Name x p) [] [] pos) (zx sp dvs E AF):=by
 intro pins s σ H Q I h
 refine fY (qr I hg hm ?_ hdb)
 exact PySem.W.callWith_K0 I.kIn hk (vS (us:= []) F hr hb hd hx I .nil h)
structure Mk(K:aj)(C f:Addr):Prop where
 makes:PySem.W.makesIn K C=true
 init:jJ K (.ref C) "__init__"=some (some (.ref f))
 fn:PySem.W.isFn K (.ref f)=true
 kp:cm K (.ref C)=true
end
section
variable {X:Cx}{CX:CXT}{k:Nat}{f C:Addr}{fd:FuncData}{ps ks:List Str}{sp:Sp}{E:XK}{x m:Str}{p pos apos kpos:Pos}{e o:Expr}{es:List Expr}{kws:List Keyword}{te ta:TE}{t tk:TA}{nm:Option Str}
structure OI(K:aj)(fd:FuncData)(ps ks:List Str)(g:List Value->List Value->List Value)(gV:List V->List V->List V):Prop where
 to: ∀(s:Shared) (us ws:List Value),K.In s.heap->(g us ws).length=ps.length->BindsTo s fd ⟨us,ks.zip ws⟩ (ps.zip (g us ws))
 rel: ∀{vs:List V}{us:List Value}{zs:List V}{ws:List Value},bW vs us->bW zs ws->bW (gV vs zs) (g us ws)
variable {g:List Value->List Value->List Value}{gV:List V->List V->List V}
end
structure bL(N P:List Str)(sc:Scope):Prop where
 kind:sc.kind = .function
 co:sc.isCoroutine=false
 gen:sc.isGenerator=false
 nd:N.Nodup
 pre:N.take P.length=P
 par: ∀x∈P,sc.names.lookup x=some .local\/sc.names.lookup x=some .cell
 nofree: ∀y∈sc.names,y.2≠.free
theorem uw{kindOf:Str->Option NameKind}{x:Str}: ∀{binds:List (Str×Value)}{m:Str->Option Value},(∀v,(x,v)∉binds)->bindL kindOf binds m x=m x
 | [],_,_=>rfl
 | (n,v)::r,m,h=>by
   unfold bindL
   rw[uw λw hw=>h w (aC _ hw)]
   split
   ·have:x≠n:=by rintro rfl;exact h v aZ
    simp[this]
   ·rfl
theorem uD{kindOf:Str->Option NameKind}{x:Str}: ∀{binds:List (Str×Value)}{m:Str->Option Value},(∀v,(x,v)∉binds)->bindC kindOf binds m x=m x
 | [],_,_=>rfl
 | (n,v)::r,m,h=>by
   unfold bindC
   rw[uD λw hw=>h w (aC _ hw)]
   split
   ·rfl
   ·have:x≠n:=by rintro rfl;exact h v aZ
    simp[this]
theorem pk{kindOf:Str->Option NameKind}{x:Str}{v:Value}: ∀{P:List Str}{vs:List Value}{i:Nat}{m:Str->Option Value},P.Nodup->P[i]? = some x->vs[i]? = some v->kindOf x=some .local ->
  bindL kindOf (P.zip vs) m x=some v
 | [],_,_,_,_,h,_,_=>by simp at h
 | _::_,[],_,_,_,_,h,_=>by simp at h
 | p::P,w::vs,0,m,nd,h1,h2,hk=>by
   simp at h1 h2;subst h1;subst h2
   show bindL kindOf ((p,w)::P.zip vs) m p=_
   unfold bindL
   rw[uw λv hv=>(dj.mp nd).1 (nc hv).1,if_pos hk]
   simp
 | p::P,w::vs,i+1,m,nd,h1,h2,hk=>by
   show bindL kindOf ((p,w)::P.zip vs) m x=_
   unfold bindL
   exact pk (i:=i) (dj.mp nd).2 (by simpa using h1) (by simpa using h2) hk
theorem oU{kindOf:Str->Option NameKind}{x:Str}{v:Value}: ∀{P:List Str}{vs:List Value}{i:Nat}{m:Str->Option Value},P.Nodup->P[i]? = some x->vs[i]? = some v->kindOf x≠some .local ->
  bindC kindOf (P.zip vs) m x=some v
 | [],_,_,_,_,h,_,_=>by simp at h
 | _::_,[],_,_,_,_,h,_=>by simp at h
 | p::P,w::vs,0,m,nd,h1,h2,hk=>by
   simp at h1 h2;subst h1;subst h2
   show bindC kindOf ((p,w)::P.zip vs) m p=_
   unfold bindC
   rw[uD λv hv=>(dj.mp nd).1 (nc hv).1,if_neg hk]
   simp
 | p::P,w::vs,i+1,m,nd,h1,h2,hk=>by
   show bindC kindOf ((p,w)::P.zip vs) m x=_
   unfold bindC
   exact oU (i:=i) (dj.mp nd).2 (by simpa using h1) (by simpa using h2) hk
noncomputable def start(N:List Str)(vs:List V):St:=vs.map some++aR (N.length - vs.length) none
noncomputable def yS(CX:CXT)(P:Program)(w:World)(K:aj)(mg:Str->Option Value)(base:Heap)(N:List Str)(qual:Str)(scope:Scope)(f:Addr)(cd:Value)(A:Around)(outer:List Env)(s:Shared)(H:Hp)(E:XK):Cx where
 prog:=P
 w:=w
 K:=K
 mg:=mg
 base:=base
 A:=A.deeper (envOfC qual scope s.heap.objs.size f cd)
 N:=N
 s₀:=s
 H₀:=H
 env:=envOfC qual scope s.heap.objs.size f cd
 outer:=outer
 stack:=envOfC qual scope s.heap.objs.size f cd::outer
 ex:= []
 calm:=true
 fn:=λ_=>true
 pn:= []
 xe:=λe s'=>aH (model P w) (A.deeper (envOfC qual scope s.heap.objs.size f cd)) (leaving (envOfC qual scope s.heap.objs.size f cd) e) (λ_ s''=>CX outer H s E e s'') (λe' s''=>CX outer H s E e' s'') s'
theorem jf{sc:Scope}{n:Nat}{x:Str}(h:sc.names.lookup x=some .cell): ∃c,(cellsFrom n sc.names []).lookup x=some c:=by
 have q:=iu sc.names n [] (.inl h)
 exact gQ.mp q
theorem A8{CX:CXT}{P:Program}{w:World}{K:aj}{mg:Str->Option Value}{base:Heap}{N ps:List Str}{qual:Str}{scope:Scope}{f:Addr}{cd:Value}{A:Around}{outer:List Env}{s s1:Shared}{H:Hp}{E:XK}{us:List Value}{vs:List V}
  (S:bL N ps scope) (hd:A.handled=none) (e0:A5 P w K mg base A outer s H) (hl:vs.length=ps.length) (r:bW vs us)
  (x:InCallC s s.heap.objs.size (bindL (envOfC qual scope s.heap.objs.size f cd).kindOf (ps.zip us) λ_=>none) (cellsFrom (s.heap.objs.size+1) scope.names []) (bindC (envOfC qual scope s.heap.objs.size f cd).kindOf (ps.zip us) λ_=>none) s1):
  Inv (yS CX P w K mg base N qual scope f cd A outer s H E) [] (start N vs) H s1:=by
 have hpl:ps.length<=N.length:=by have:=congrArg kE S.pre;rw[gH]at this;omega
 obtain⟨h1,tk,rfl,hk⟩:=x.done
 have noA: ∀b:Addr,b∉(yS CX P w K mg base N qual scope f cd A outer s H E).ex:=λb z=>absurd (show b∈([]:List Addr) from z) (by simp)
 refine⟨⟨e0.mod,S.kind,rfl,rfl,ah _,λy z c h1 h2 =>?_,λy hy =>?_,λy c _ h =>?_,λ_=>hd,BU e0.frames,.inr ⟨rfl,rfl⟩,λb z=>absurd z (noA b),e0.bs,e0.bsz,λb _ _=>noA b,λb z=>absurd z (noA b),e0.funs,e0.frf⟩,
  rfl,e0.bare,Un.kept hk,⟨_,x.toInCall.ns,λi y v h1 h2 h3 =>?_⟩,λy c h=>⟨_,x.cell y c h⟩,e0.hok.fresh (ah _),λy c h =>?_,λp hp=>absurd (show p∈([]:List (Addr×Obj)) from hp) (by simp),e0.hok.kept hk,?_⟩
 ·exact name_of_addr x.apart (bY h1) (bY h2)
 ·have hy:scope.names.lookup y=some .cell\/scope.names.lookup y=some .free:=hy
  rcases hy with hy |hy
  ·exact jf hy
  ·exact absurd rfl (S.nofree _ (bY hy))
 ·exact aU (x.above y c (bY h))
 ·have hi:i<vs.length:=by
   unfold start at h2
   by_cases hi:i<vs.length
   ·exact hi
   ·rw[av (by simpa using hi)]at h2
    rw[iw]at h2
    split at h2 <;> cases h2
  have ha:vs[i]? = some v:=by
   unfold start at h2
   rw[aP (by simpa using hi),bG]at h2
   cases e:vs[i]? with
   | none=>rw[e]at h2;cases h2
   | some a=>rw[e]at h2;cases h2;rfl
  obtain⟨u,hu,rv⟩:=r.get ha
  have hp:ps[i]? = some y:=by
   rw[<- S.pre,List.getElem?_take_of_lt (by omega)];exact h1
  have ndP:ps.Nodup:=by rw[<- S.pre];exact S.nd.sublist (List.take_sublist _ _)
  refine⟨u,rv,?_⟩
  rcases S.par y (bZ hp) with k |k
  ·exact .inl ⟨k,pk ndP hp hu k⟩
  ·obtain⟨c,e⟩:=jf (n:=s.heap.objs.size+1) k
   refine .inr ⟨.inl k,c,e,?_⟩
   have q:=x.cell y c e
   rw[oU ndP hp hu (by show scope.names.lookup y≠_;rw[k];decide)]at q
   exact q
 ·exact e0.hok.fresh (aU (x.above y c (bY h)))
 ·unfold start
  show _=N.length
  rw[aV,aq,jb]
  omega
theorem Ac{CX:CXT}{P:Program}{w:World}{K:aj}{mg:Str->Option Value}{base:Heap}{k:Nat}{f:Addr}{name qual:Str}{params:Arguments}{body:List Stmt}{scope:Scope}{dV kV doc pm cdv ct oc:Value}{an od:Option Addr}
  {osl:Array (Option Value)}{N ps:List Str}{sp:Sp} (lk:K.lookup f=some ⟨oc,od,.func (cU name qual params body scope dV kV doc pm an cdv ct),osl⟩) (hcd:fZ K cdv qual=true) (S:bL N ps scope)
  (len: ∀vs H Q E,sp vs H Q E->vs.length=ps.length)
  (hbody: ∀(A:Around) (outer:List Env) (s:Shared) (H:Hp) (vs:List V) (Q:VK) (E:XK),jO k (A.deeper (envOfC qual scope s.heap.objs.size f cdv))->sp vs H Q E ->
   ∃t,PSs (yS CX P w K mg base N qual scope f cdv A outer s H E) body t/\t { nx:=λ_ H'=>Q .non H',rt:=Q } (start N vs) H):
  jW P w K mg base CX (k+1) f (cU name qual params body scope dV kV doc pm an cdv ct) ps sp:=by
 refine⟨len,λA outer s H args us vs Q E hr e0 hb r hsp =>?_⟩
 have hl:=len _ _ _ _ hsp
 have KX:K.In s.heap:=e0.mod.kin.keeps λb o e=>(e0.bs b o e).1
 have lim:s.heap.NoLimit:=e0.mod.nolimit.keeps λb o e=>(e0.bs b o e).1
 have hkind: ∀y∈ps.zip us,scope.names.lookup y.1=some .local\/(scope.names.lookup y.1=some .cell/\((cellsFrom (s.heap.objs.size+1) scope.names []).lookup y.1).isSome=true):=fun⟨n,v⟩ hy=>by
  rcases S.par n (nc hy).1 with q |q
  ·exact .inl q
  ·exact .inr ⟨q,iu _ _ _ (.inl q)⟩
 refine codeAny_call_function hr.depth (KX _ _ lk) rfl S.co S.gen rfl (PySem.W.codeRec_of KX hcd) (hb _ _ _ _ ?_)
 refine wpAny_newFunctionEnv_cells S.kind hkind λenv he s1 x =>?_
 subst he
 refine⟨lim.keeps x.toInCall.keep,codeAny_func ?_⟩
 obtain⟨t,ht,hq⟩:=hbody A outer s H vs Q E (hr.deeper _) hsp
 have I:Inv (yS CX P w K mg base N qual scope f cdv A outer s H E) [] (start N vs) H s1:=A8 S hr.hd e0 hl r x
 refine dc (ht [] s1 (start N vs) H _ I hq) (λfl s' hs =>?_) λe s' hs=>hs
 have fin: ∀{σ':St}{H':Hp}{v:V}{u:Value},Inv (yS CX P w K mg base N qual scope f cdv A outer s H E) [] σ' H' s'->RelV v u->Q v H'->CE outer P w H s Q u s':=
  λ{σ' H' v u} J rv q=>⟨v,H',J.os,J.bare,J.base,J.hok,rv,q⟩
 cases fl with
 | ret u=>
   obtain⟨v,σ',H',J,rv,q⟩:=hs
   exact fin J rv q
 | next=>
   obtain⟨σ',H',J,q⟩:=hs
   exact fin (v:=V.non) (u:=dh) J rfl q
 | brk=>
   obtain⟨_,_,_,q⟩:=hs
   exact di q
 | cont=>
   obtain⟨_,_,_,q⟩:=hs
   exact di q
end _L
namespace _L
open PySem PySem.Spec PyProof.Rows
section
variable {X:Cx}{x:Str}{p pos:Pos}{e:Expr}{es:List Expr}{t:TA}{id T:String}{r:List V->Hp->VK->Prop}
noncomputable def tCB(r:List V->Hp->VK->Prop)(t:TA):TE:=λσ H Q=>t σ H λvs H1=>r vs H1 Q
theorem jk (hc:gS X (.builtin id) r) (hg:Gl X x) (hm:X.mg x=none) (hv:bootBuiltins x=some (.builtin id)) (ha:PA X (e::es) t) (hn:autoParam (x≠"__name__") au2._auto_1) (hdb:autoParam ((x == ("__debug__":Str))=false) au2._auto_1)
  (he:autoParam (starEach (e::es) X.env=(false,eval e X.env)::starEach es X.env) au1._auto_1) (hpl:autoParam ((backTo pos (starEach es X.env)).any (·.1)=false) au1._auto_1):PE X (.Call (.Name x p) (e::es) [] pos) (tCB r t):=by
 intro pins s σ H Q I h
 refine fY (kn I hg hm hv ?_ hn hdb)
 exact PyProof.Rows.callWith_builtin1 (thn (ha pos pins s σ H _ I h) λus s1 ⟨vs,H1,I1,r1,q1⟩=>hc pins s1 σ H1 vs us Q I1 r1 q1) he hpl
theorem o6 (hc:gS X (.type T) r) (hg:Gl X x) (hm:X.mg x=none) (hv:bootBuiltins x=some (.type T)) (ha:PA X (e::es) t) (hn:autoParam (x≠"__name__") au2._auto_1) (hdb:autoParam ((x == ("__debug__":Str))=false) au2._auto_1)
  (he:autoParam (starEach (e::es) X.env=(false,eval e X.env)::starEach es X.env) au1._auto_1) (hpl:autoParam ((backTo pos (starEach es X.env)).any (·.1)=false) au1._auto_1):PE X (.Call (.Name x p) (e::es) [] pos) (tCB r t):=by
 intro pins s σ H Q I h
 refine fY (kn I hg hm hv ?_ hn hdb)
 exact cK (thn (ha pos pins s σ H _ I h) λus s1 ⟨vs,H1,I1,r1,q1⟩=>hc pins s1 σ H1 vs us Q I1 r1 q1) he hpl
end
end _L
namespace HT
open PySem PyProof.Rows
noncomputable def lexLt:List Int->List Int->Bool
 | [],[]=>false
 | [],_::_=>true
 | _::_,[]=>false
 | x::xs,y::ys=>if x=y then lexLt xs ys else decide (x<y)
theorem lexLt_cons(x y:Int)(xs ys:List Int):lexLt (x::xs) (y::ys)=if x=y then lexLt xs ys else decide (x<y):=rfl
section
open PySem.SeqAt
open PySem.AutoSeq1 (wpAny_loadPart')
open PySem.MeetsSeq PySem.MeetsSeq2 PySem.MeetsSeq3
end
section
variable {prog:Program}{w:World}{A:Around}{E:Value->Shared->Prop}{s:Shared}
theorem cat_tup{t b:Addr}{vs ws:List Value}{Q:Value->Shared->Prop}(ht:IsTup s.heap t vs.toArray)(hb:IsTup s.heap b ws.toArray)(hv:vs≠[])
  (h1:ws = []->Q (.ref t) s) (h2:ws ≠ []->Q (.ref s.heap.objs.size) { s with heap:=s.heap.push { cls := .type "tuple",data := .seq (vs++ws).toArray } })
  (hsz:vs.length+ws.length<=sizeLine):aH (model prog w) A (binaryOp .Add (.ref t) (.ref b)) Q E s:=by
 obtain⟨⟨cls,dd,data,sl⟩,ho,hc,n,hd⟩:=id ht
 obtain⟨⟨cls2,dd2,data2,sl2⟩,ho2,hc2,n2,hd2⟩:=id hb
 simp only at hc hd hc2 hd2
 subst hc hd hc2 hd2
 have e:vs.toArray++ws.toArray=(vs++ws).toArray:=by simp
 by_cases hw:ws = []
 ·exact concat_meets ⟨_,ho,rfl⟩ ⟨_,ho2,rfl⟩ noFill_tuple_add seq_tuple_add lH kG (ko _ _)
   (tuple_addW1 t b vs.toArray ws.toArray n n2 dd dd2 sl sl2 (by simpa using hv) (by simp[hw])) ⟨ho,ho2,h1 hw⟩
 ·refine concat_meets ⟨_,ho,rfl⟩ ⟨_,ho2,rfl⟩ noFill_tuple_add seq_tuple_add lH kG (ko _ _)
   (tuple_addW2 t b vs.toArray ws.toArray n n2 dd dd2 sl sl2 (by simpa using hv) (by simpa using hw) (by rw[aA,aA];exact hsz)) ⟨ho,ho2,?_⟩
  rw[e]
  exact h2 hw
noncomputable def sIx(n d:Nat):Option Int->Nat
 | none=>d
 | some v=>if v<0 then(v+(n:Int)).toNat else min v.toNat n
theorem sIx_nat(n d k:Nat):sIx n d (some (k:Int))=min k n:=by
 show(if (k:Int)<0 then((k:Int)+(n:Int)).toNat else min (k:Int).toNat n)=min k n
 rw[if_neg (by omega),kI]
theorem Je(n d:Nat)(hd:d<=n)(o:Option Int):sIx n d o<=n:=by
 cases o with
 | none=>exact hd
 | some v=>
   show(if v<0 then(v+(n:Int)).toNat else min v.toNat n)<=n
   by_cases hv:v<0
   ·rw[if_pos hv];omega
   ·rw[if_neg hv];exact Nat.min_le_right _ _
theorem z8(v:Int)(n d:Nat):(if v<0 then max (v+(n:Int)) 0 else min v (n:Int))=((sIx n d (some v):Nat):Int):=by
 show(if v<0 then max (v+(n:Int)) 0 else min v (n:Int))=(((if v<0 then(v+(n:Int)).toNat else min v.toNat n):Nat):Int)
 by_cases hv:v<0
 ·simp only[if_pos hv];omega
 ·simp only[if_neg hv];omega
theorem yE(lo hi:Option Int)(n:Nat):en lo hi 1 (n:Int)=(((sIx n 0 lo:Nat):Int),((sIx n n hi:Nat):Int)):=by
 have h1: ¬((1:Int)<0):=by omega
 unfold en
 simp only[h1,if_false]
 refine Prod.ext ?_ ?_
 ·cases lo with
  | none=>rfl
  | some v=>exact z8 v n 0
 ·cases hi with
  | none=>rfl
  | some v=>exact z8 v n n
theorem yJ(i j:Nat):cq (i:Int) (j:Int) 1=j - i:=by
 unfold cq
 have h1:(1:Int) > 0:=by omega
 simp only[h1,if_true,Int.ediv_one]
 split <;> omega
theorem slicePart_{v:Value}{o:Option Int}{Q:Option Int->Shared->Prop}(p:IsPart v o)(h:Q o s):aH (model prog w) A (Builtin.Slice.slicePartIndex v) Q E s:=by
 cases p with
 | none=>exact slicePart_none h
 | int i t=>exact slicePart_int h
theorem jR{sl:Addr}{vl vu:Value}{lo hi:Option Int}{n:Nat}{Q:Int×Int×Nat->Shared->Prop}(hs:s.heap.IsSliceOf sl vl vu .none)(pl:IsPart vl lo)(pu:IsPart vu hi)
  (h:Q (((sIx n 0 lo:Nat):Int),1,sIx n n hi - sIx n 0 lo) s):aH (model prog w) A (ft (.ref sl) (pure (n:Int))) Q E s:=by
 obtain⟨os,hos,hcs,hds⟩:=id hs
 unfold ft qA
 refine ab (ab (bS hos hds (x:=vl) rfl (ab (bS hos hds (x:=vu) rfl (ab (bS hos hds (x:= .none) rfl (ar ?_)))))))
 refine ab (slicePart_none ?_)
 show aH _ _ (if ((1:Int)==0)=true then _ else _) _ _ s
 rw[if_neg (by decide)]
 refine ab (slicePart_ pl (ab (slicePart_ pu (ab (ar ?_)))))
 show aH _ _ (match en lo hi 1 (n:Int) with | (lo,hi)=>pure (lo,(1:Int),cq lo hi 1)) _ _ s
 rw[yE lo hi n]
 show aH _ _ (pure (((sIx n 0 lo:Nat):Int),(1:Int),cq ((sIx n 0 lo:Nat):Int) ((sIx n n hi:Nat):Int) 1)) _ _ s
 rw[yJ]
 exact ar h
theorem Ed(xs:Array Value)(i k:Nat):((aB k).filterMap λ(m:Nat)=>xs[((i:Int)+(m:Int)*1).toNat]?).toArray=((xs.toList.drop i).take k).toArray:=by
 have e:(λ(m:Nat)=>xs[((i:Int)+(m:Int)*1).toNat]?)=λm=>xs[i+m]? := by
  funext m
  have:((i:Int)+(m:Int)*1).toNat=i+m:=by omega
  rw[this]
 rw[e]
 have:=pick_run xs i k
 rw[List.filterMap_map]at this
 have e2:((λx=>xs[x]?)∘λx=>i+x)=λm=>xs[i+m]? := rfl
 rw[e2]at this
 rw[this]
theorem getItem_tuple_cut{t sl:Addr}{items:Array Value}{vl vu:Value}{lo hi:Option Int}{Q:Value->Shared->Prop}(ht:IsTup s.heap t items)(hs:s.heap.IsSliceOf sl vl vu .none)(pl:IsPart vl lo)(pu:IsPart vu hi)
  (hw: ¬(sIx items.size 0 lo=0/\sIx items.size items.size hi=items.size))
  (h:Q (.ref s.heap.objs.size) { s with heap:=s.heap.push { cls := .type "tuple",data := .seq ((items.toList.drop (sIx items.size 0 lo)).take (sIx items.size items.size hi - sIx items.size 0 lo)).toArray } })
  (hsz:items.size<=sizeLine):aH (model prog w) A (getItem (.ref t) (.ref sl)) Q E s:=by
 have htake:sizeOk (.seq ((items.toList.drop (sIx items.size 0 lo)).take (sIx items.size items.size hi - sIx items.size 0 lo)).toArray):=by
  show((items.toList.drop (sIx items.size 0 lo)).take (sIx items.size items.size hi - sIx items.size 0 lo)).toArray.size<=sizeLine
  rw[aA,gH,List.length_drop,ej]
  omega
 have hj:sIx items.size items.size hi<=items.size:=Je _ _ (ah _) hi
 obtain⟨os,hos,hcs,hds⟩:=id hs
 have hTs:s.TypeIs (.ref sl) "slice":=⟨os,hos,hcs⟩
 unfold getItem
 try with_reducible refine eh ?_
 first |refine ab (ar ?_) |skip
 refine ab (xX ht.typeIs (by decide) ?_)
 refine ab (cz (name:=fH "__getitem__") ht.typeIs cW
  (cY cW ht.typeIs entry_tuple_getitem ?_ (args_tuple_getitem _ _)))
 show aH _ _ (jc (.ref t) >>= _) _ _ s
 refine ab (tupleItemsOf_ ht ?_)
 refine ab (jq hTs ?_)
 rw[if_pos (by decide)]
 refine ab (jR hs pl pu ?_)
 have hno: ¬((((sIx items.size 0 lo:Nat):Int)==0&&(1:Int)==1&&(sIx items.size items.size hi - sIx items.size 0 lo)==items.size)=true):=by
  intro q
  rw[ay,ay]at q
  have q1:((sIx items.size 0 lo:Nat):Int)=0:=eq_of_beq q.1.1
  have q2:sIx items.size items.size hi - sIx items.size 0 lo=items.size:=eq_of_beq q.2
  exact hw ⟨by omega,by omega⟩
 show aH _ _ (if (((sIx items.size 0 lo:Nat):Int)==0&&(1:Int)==1&&(sIx items.size items.size hi - sIx items.size 0 lo)==items.size)=true then _ else _) _ _ s
 rw[if_neg hno,Ed]
 first
  | exact ab (m:=bO _) (bP (ar ⟨_,rfl,ar h⟩) htake)
  | exact ab (m:=bO _) (bP (ab (ar (ar ⟨_,rfl,ar h⟩))) htake)
  | exact ab (ab (m:=bO _) (bP (ar (ar ⟨_,rfl,ar h⟩)) htake))
  | exact ab (ab (m:=bO _) (bP (ar ⟨_,rfl,ar h⟩) htake))
end
end HT
namespace _L
open PySem PySem.Spec PyProof.Rows
abbrev TO:=St->Hp->(Option Int->Hp->Prop)->Prop
noncomputable def PO(X:Cx)(e:Option Expr)(t:TO):Prop:=
 ∀(pins:List (Addr×Obj)) (s:Shared) (σ:St) (H:Hp) (Q:Option Int->Hp->Prop),Inv X pins σ H s->t σ H Q ->
  aH (model X.prog X.w) X.A (evalPart e X.env) (λu s' =>∃o H',Inv X pins σ H' s'/\IsPart u o/\Q o H') X.xe s
noncomputable def Af:TO:=λ_ H Q=>Q none H
noncomputable def Iu(t:TE):TO:=λσ H Q=>t σ H λx H1 =>∃i,x = .int i/\Q (some i) H1
section
variable {X:Cx}{e:Expr}{te:TE}{lo hi:Option Expr}{tl th:TO}{pos p2:Pos}
theorem FX:PO X none Af:=by
 intro pins s σ H Q I h
 rw[evalPart_none]
 exact ar ⟨none,H,I,.none,h⟩
theorem HE(h:PE X e te):PO X (some e) (Iu te):=by
 intro pins s σ H Q I hw
 rw[evalPart_some]
 refine thn (h pins s σ H _ I hw) λu s1 ⟨x,H1,I1,r1,q1⟩ =>?_
 obtain⟨i,rfl,q⟩:=q1
 obtain⟨t,rfl⟩:=r1
 exact⟨some i,H1,I1,.int i t,q⟩
noncomputable def SlR(X:Cx)(r:V->Option Int->Option Int->Hp->VK->Prop):Prop:=
 ∀(pins:List (Addr×Obj)) (s:Shared) (σ:St) (H:Hp) (x:V) (v vl vu:Value) (lo hi:Option Int) (sl:Addr) (Q:VK),Inv X pins σ H s->RelV x v->s.heap.IsSliceOf sl vl vu .none->IsPart vl lo->IsPart vu hi->r x lo hi H Q ->
  ∃ T id,typeLookup (.type T) "__getitem__"=pure (some (.builtin id))/\s.TypeIs v T/\aH (model X.prog X.w) X.A (getItem v (.ref sl)) (EP X pins σ Q) X.xe s
theorem SlR.or{r r':V->Option Int->Option Int->Hp->VK->Prop}(h:SlR X r)(h':SlR X r'):SlR X (λx lo hi H Q=>r x lo hi H Q\/r' x lo hi H Q):=by
 intro pins s σ H x v vl vu lo hi sl Q I rx hs pl pu q
 rcases q with q |q
 ·exact h pins s σ H x v vl vu lo hi sl Q I rx hs pl pu q
 ·exact h' pins s σ H x v vl vu lo hi sl Q I rx hs pl pu q
noncomputable def tSl(r:V->Option Int->Option Int->Hp->VK->Prop)(te:TE)(tl th:TO):TE:=λσ H Q=>te σ H λx H1=>tl σ H1 λl H2=>th σ H2 λu H3=>r x l u H3 Q
theorem Cw{r:V->Option Int->Option Int->Hp->VK->Prop}(hr:SlR X r)(he:PE X e te)(hl:PO X lo tl)(hu:PO X hi th):PE X (.Subscript e (.Slice lo hi none p2) pos) (tSl r te tl th):=by
 intro pins s σ H Q I h
 refine Subscript_ (thn (he pins s σ H _ I h) λv s1 ⟨x,H1,I1,r1,q1⟩ =>?_)
 refine wpAny_Slice (thn (hl pins s1 σ H1 _ I1 q1) λvl s2 ⟨l,H2,I2,pl,q2⟩=>thn (hu pins s2 σ H2 _ I2 q2) λvu s3 ⟨u,H3,I3,pu,q3⟩ =>?_)
 rw[evalPart_none]
 refine ar ?_
 have I4:Inv X pins σ H3 { s3 with heap:=s3.heap.push { cls := .type "slice",data := .fields #[vl,vu,.none] } }:=I3.kept (t':=s3.toks) fun b ob q=>af _ q
 obtain⟨T,id,hT,ht,hg⟩:=hr pins { s3 with heap:=s3.heap.push { cls := .type "slice",data := .fields #[vl,vu,.none] } } σ H3 x v vl vu l u s3.heap.objs.size Q I4 r1 (lS ..) pl pu q3
 show aH (model X.prog X.w) X.A (subscriptTail e (.Slice lo hi none p2) v (.ref s3.heap.objs.size)) (EP X pins σ Q) X.xe { s3 with heap:=s3.heap.push { cls := .type "slice",data := .fields #[vl,vu,.none] } }
 exact tail_any (ops:= [.ref s3.heap.objs.size,v]) ht hT hg (by with_unfolding_all rfl)
noncomputable def wO(xs:List V)(lo hi:Option Int):List V:=(xs.drop (HT.sIx xs.length 0 lo)).take (HT.sIx xs.length xs.length hi - HT.sIx xs.length 0 lo)
theorem pL(xs:List V)(lo hi:Option Int):(wO xs lo hi).length<=xs.length:=by
 unfold wO
 rw[gH,List.length_drop]
 omega
noncomputable def LL(K:aj):V->Option Int->Option Int->Hp->VK->Prop:=λx lo hi H Q =>∃a xs,x = .ref a/\SqT K H a xs /\
 ¬(HT.sIx xs.length 0 lo=0/\HT.sIx xs.length xs.length hi=xs.length) /\ ∀p,H p=none->Q (.ref p) (upd H p (.tup (wO xs lo hi)))
theorem Kf:SlR X (LL X.K):=by
 intro pins s σ H x v vl vu lo hi sl Q I rx hs pl pu h
 obtain⟨a,xs,rfl,hx,hw,q⟩:=h
 cases rx
 obtain⟨its,r,ht,hz⟩:=I.tuple hx
 have hlen:its.toArray.size=xs.length:=by rw[aA];exact r.length.symm
 refine⟨"tuple",_,PyProof.Rows.slot_tuple_getitem.lookup,ht.typeIs,?_⟩
 refine HT.getItem_tuple_cut ht hs pl pu (by rw[hlen];exact hw) ?_ (by rw[hlen];exact hz)
 rw[hlen]
 refine⟨.ref s.heap.objs.size,_,I.laid (t':=s.toks) (o:= .tup (wO xs lo hi)) (λb ob q=>af _ q) (ah _) ?_,rfl,q _ (I.hok.fresh (ah _))⟩
 exact⟨aM (pL xs lo hi) hz,_,(r.drop (HT.sIx xs.length 0 lo)).take (HT.sIx xs.length xs.length hi - HT.sIx xs.length 0 lo),lI _ _,_,aw _ rfl,rfl⟩
noncomputable def II(K:aj):R2:=λx y H Q =>∃a b xs ys,x = .ref a/\y = .ref b/\SqT K H a xs/\SqT K H b ys/\xs≠[]/\xs.length+ys.length<=sizeLine /\
 (ys = []->Q (.ref a) H)/\(ys≠[] -> ∀p,H p=none->Q (.ref p) (upd H p (.tup (xs++ys))))
theorem bW.nil_iff{xs:List V}{us:List Value}(r:bW xs us):us = []↔xs = []:=by
 cases r with
 | nil=>simp
 | cons _ _=>simp
theorem FW:OpR X (binaryOp .Add) (II X.K):=by
 intro pins s σ H x y v u Q I rx ry h
 obtain⟨a,b,xs,ys,rfl,rfl,ha,hb,hx,hz,q1,q2⟩:=h
 cases rx
 cases ry
 obtain⟨its,r1,p1,_⟩:=I.tuple ha
 obtain⟨its2,r2,p2,_⟩:=I.tuple hb
 refine HT.cat_tup p1 p2 (λz=>hx (r1.nil_iff.mp z)) (λz=>⟨.ref a,H,I,rfl,q1 (r2.nil_iff.mp z)⟩) (λz =>?_) (by rw[<- r1.length,<- r2.length];exact hz)
 refine⟨.ref s.heap.objs.size,_,I.laid (t':=s.toks) (o:= .tup (xs++ys)) (λb ob q=>af _ q) (ah _) ?_,rfl,q2 (λw=>z (r2.nil_iff.mpr w)) _ (I.hok.fresh (ah _))⟩
 exact⟨by rw[aV];exact hz,_,r1.append r2,lI _ _,_,aw _ rfl,rfl⟩
end
end _L
namespace _L
open PySem PySem.Spec PyProof.Rows
noncomputable def ixN(n:Nat)(i:Int):Option Nat:=if 0<=i then(if i<n then some i.toNat else none) else if -(n:Int)<=i then some (i+n).toNat else none
noncomputable def atI{α:Type}(xs:List α)(i:Int):Option α:=(ixN xs.length i).bind λj=>xs[j]?
theorem Aa{n:Nat}{i:Int}{j:Nat}(h:ixN n i=some j):seqIndex? i n=some j/\j<n /\ -(n:Int)<=i/\i<n:=by
 unfold ixN at h
 by_cases h0:0<=i
 ·rw[if_pos h0]at h
  by_cases h1:i<n
  ·rw[if_pos h1]at h
   have e:i.toNat=j:=bR h
   exact⟨by rw[seqIndex_of h0 h1,e],by omega,by omega,h1⟩
  ·rw[if_neg h1]at h;cases h
 ·rw[if_neg h0]at h
  by_cases h1: -(n:Int)<=i
  ·rw[if_pos h1]at h
   have e:(i+n).toNat=j:=bR h
   exact⟨by rw[seqIndex_neg (by omega) h1,e],by omega,h1,by omega⟩
  ·rw[if_neg h1]at h;cases h
theorem uY{α:Type}{xs:List α}{i:Int}{v:α}(h:atI xs i=some v): ∃j,seqIndex? i xs.length=some j/\xs[j]? = some v/\j<xs.length /\ -(xs.length:Int)<=i/\i<xs.length:=by
 unfold atI at h
 cases e:ixN xs.length i with
 | none=>rw[e]at h;cases h
 | some j=>
   rw[e]at h
   obtain⟨h1,h2,h3,h4⟩:=Aa e
   exact⟨j,h1,h,h2,h3,h4⟩
noncomputable def vt(b:Expr):Prop:= ∀o i,subscripted b false o i=operate [o,i] (getItem o i)
noncomputable def IxR(X:Cx)(r:R2):Prop:=
 ∀(value slice:Expr) (pins:List (Addr×Obj)) (s:Shared) (σ:St) (H:Hp) (x y:V) (v u:Value) (Q:VK),Inv X pins σ H s->RelV x v->RelV y u->r x y H Q ->
  subscripted slice false v u=operate [v,u] (getItem v u)->aH (model X.prog X.w) X.A (subscriptTail value slice v u) (EP X pins σ Q) X.xe s
noncomputable def MtR(X:Cx)(id:String)(r:V->List V->Hp->VK->Prop):Prop:=
 ∀(pins:List (Addr×Obj)) (s:Shared) (σ:St) (H:Hp) (x:V) (xs:List V) (v:Value) (us:List Value) (Q:VK),Inv X pins σ H s->RelV x v->bW xs us->r x xs H Q ->
  aH (model X.prog X.w) X.A (call (.builtin id) (v::us)) (EP X pins σ Q) X.xe s
section
variable {X:Cx}{a b:Expr}{ta tb:TE}{pos:Pos}
theorem IxR.or{r r':R2}(h:IxR X r)(h':IxR X r'):IxR X (λx y H Q=>r x y H Q\/r' x y H Q):=by
 intro value slice pins s σ H x y v u Q I rx ry q hs
 rcases q with q |q
 ·exact h value slice pins s σ H x y v u Q I rx ry q hs
 ·exact h' value slice pins s σ H x y v u Q I rx ry q hs
theorem NV{r:R2}(hr:IxR X r)(ha:PE X a ta)(hb:PE X b tb)(hs:vt b):PE X (.Subscript a b pos) (tOp r ta tb):=by
 intro pins s σ H Q I h
 exact Subscript_ (KG ha hb I h λv u s2 x y H2 I2 rx ry q=>hr a b pins s2 σ H2 x y v u Q I2 rx ry q (hs _ _))
noncomputable def MM(K:aj):R2:=λx y H Q =>∃p xs i v,x = .ref p/\y = .int i/\SqL K H p xs/\atI xs i=some v/\Q v H
noncomputable def Nv(K:aj):R2:=λx y H Q =>∃p xs i v,x = .ref p/\y = .int i/\SqT K H p xs/\atI xs i=some v/\Q v H
noncomputable def MW:R2:=λx y H Q =>∃z i c,x = .str z/\y = .int i/\z.length<=sizeLine/\atI z.cps.toList i=some c/\Q (.str ⟨#[c]⟩) H
theorem Fi:IxR X (MM X.K):=by
 intro value slice pins s σ H x y v u Q I rx ry h hs
 obtain⟨p,xs,i,z,rfl,rfl,hq,he,q⟩:=h
 cases rx
 obtain⟨t,rfl⟩:=ry
 obtain⟨its,r,pl,hz⟩:=I.list hq
 obtain⟨j,h1,h2,h3,h4,h5⟩:=uY he
 obtain⟨w,ew,rw'⟩:=r.get h2
 have hl:=r.length
 have hn:=rT
 have fin:EP X pins σ Q w s:=⟨z,H,I,rw',q⟩
 by_cases h0:0<=i
 ·have hj:i.toNat=j:=by
   rw[seqIndex_of h0 h5]at h1
   exact bR h1
  exact item_listR pl.isList h0 (by omega) (by rw[hj];simpa using ew) fin hs
 ·have hj:(i+(its.toArray.size:Int)).toNat=j:=by
   rw[seqIndex_neg (by omega) h4]at h1
   rw[aA,<- hl]
   exact bR h1
  exact subscriptTail_builtinR (x:=w) pl.isList.typeIs slot_list_getitem.lookup
   (wpAny_getItem_list_neg (Q:=λr s'=>r=w/\EP X pins σ Q r s') pl.isList (by omega) (by rw[aA] <;> omega) (by omega) (by rw[hj];simpa using ew) ⟨rfl,fin⟩) hs
theorem JR:IxR X (Nv X.K):=by
 intro value slice pins s σ H x y v u Q I rx ry h hs
 obtain⟨p,xs,i,z,rfl,rfl,hq,he,q⟩:=h
 cases rx
 obtain⟨t,rfl⟩:=ry
 obtain⟨its,r,pl,hz⟩:=I.tuple hq
 obtain⟨j,h1,h2,h3,h4,h5⟩:=uY he
 obtain⟨w,ew,rw'⟩:=r.get h2
 have hl:=r.length
 have hn:=rT
 have fin:EP X pins σ Q w s:=⟨z,H,I,rw',q⟩
 exact subscriptTail_builtinR (x:=w) pl.typeIs slot_tuple_getitem.lookup
  (getItem_tuple (j:=j) (Q:=λr s'=>r=w/\EP X pins σ Q r s') pl (by omega) (by omega) (by rw[aA,<- hl];exact h1) (by simpa using ew) ⟨rfl,fin⟩) hs
theorem Ke:IxR X MW:=by
 intro value slice pins s σ H x y v u Q I rx ry h hs
 obtain⟨z,i,c,rfl,rfl,hz,he,q⟩:=h
 obtain⟨t,rfl⟩:=rx
 obtain⟨t',rfl⟩:=ry
 obtain⟨j,h1,h2,h3,h4,h5⟩:=uY he
 have hl:z.cps.toList.length=z.length:=by simp[Str.length]
 rw[hl]at h1 h4 h5
 have hn:=rT
 exact tail_any (typeIs_str s z t) slot_str_getitem.lookup (getItem_str (c:=c) (by
  have e1:decide (i < -(2 ^ 63:Int))=false:=decide_eq_false (by omega)
  have e2:decide (i >= 2 ^ 63)=false:=decide_eq_false (by omega)
  rw[e1,e2,Bool.or_false]) (by rw[h1];simpa using h2) ⟨.str ⟨#[c]⟩,H,I.tok _,⟨_,rfl⟩,q⟩) hs
noncomputable def rIx(K:aj):R2:=λx y H Q=>MM K x y H Q\/Nv K x y H Q\/MW x y H Q
theorem JG:IxR X (rIx X.K):=Fi.or (JR.or Ke)
theorem yu (its:List Value) (n j:Nat) (u:Value):cg (·.setIfInBounds j u) { cls := .type "list",data := .seq its.toArray n }={ cls := .type "list",data := .seq (its.set j u).toArray n }:=by
 simp[cg]
theorem Inv.lst{pins:List (Addr×Obj)}{σ:St}{H:Hp}{s:Shared}{p:Addr}{xs:List V}(I:Inv X pins σ H s)(h:H p=some (.lst xs)):
  ∃ (its:List Value) (n:Nat),bW xs its/\s.heap.get? p=some { cls := .type "list",data := .seq its.toArray n }/\xs.length<=sizeLine:=by
 obtain⟨z,its,n,r,e⟩:=I.hok p _ h
 exact⟨its,n,r,e,z⟩
theorem Inv.lstUpd{pins:List (Addr×Obj)}{σ:St}{H:Hp}{s:Shared}{p:Addr}{xs ys:List V}{its its':List Value}{n n':Nat}{f:Obj->Obj}(I:Inv X pins σ H s)(h:H p=some (.lst xs))
  (ho:s.heap.get? p=some { cls := .type "list",data := .seq its.toArray n }) (hf:f { cls := .type "list",data := .seq its.toArray n }={ cls := .type "list",data := .seq its'.toArray n' }) (r:bW ys its') (hz:ys.length<=sizeLine) (t:Nat) :
  Inv X pins σ (upd H p (.lst ys)) { s with heap:=s.heap.update p f,toks:=t }:=by
 have e:(s.heap.update p f).get? p=some { cls := .type "list",data := .seq its'.toArray n' }:=by
  rw[fU f ho (by rw[hf] <;> rfl),hf]
 refine I.write (x:=p) (e:=p) (by rw[h];trivial) (.inl rfl) (λb u hb q=>(dr _ _ (cZ hb)).trans q) ⟨_,e⟩ ?_
 exact⟨hz,its',n',r,e⟩
noncomputable def Ia:V->V->V->Hp->(Hp->Prop)->Prop:=λo i v H Q =>∃p xs k j,o = .ref p/\i = .int k/\H p=some (.lst xs)/\ixN xs.length k=some j/\Q (upd H p (.lst (xs.set j v)))
theorem set_list:Lb X Ia:=by
 intro pins s σ H o i v ov iv u Q I ro ri rv h
 obtain⟨p,xs,k,j,rfl,rfl,hp,hj,q⟩:=h
 cases ro
 obtain⟨t,rfl⟩:=ri
 obtain⟨its,n,r,ho,hz⟩:=I.lst hp
 obtain⟨h1,h2,h3,h4⟩:=Aa hj
 have hl:=r.length
 have hn:=rT
 have I':Inv X pins σ (upd H p (.lst (xs.set j v))) { s with heap:=s.heap.update p (cg (·.setIfInBounds j u)) }:=
  I.lstUpd hp ho (yu its n j u) (r.set rv j) (by rw[fM];exact hz) s.toks
 by_cases h0:0<=k
 ·have hk:k.toNat=j:=by
   rw[seqIndex_of h0 h4]at h1
   exact bR h1
  exact PySem.W.ki_setAt ho h0 (by omega) (by rw[aA,<- hl];exact h4) (by rw[hk];exact⟨_,I',q⟩)
 ·have hk:(k+(its.toArray.size:Int)).toNat=j:=by
   rw[seqIndex_neg (by omega) h3]at h1
   rw[aA,<- hl]
   exact bR h1
  exact PySem.W.ki_setBack ho (by omega) (by rw[aA,<- hl];exact h3) (by omega) (by rw[hk];exact⟨_,I',q⟩)
theorem vB(lo hi:Option Int)(n:Nat):(sliceBounds lo hi none n).1=((HT.sIx n 0 lo:Nat):Int)/\(sliceBounds lo hi none n).2.1=((HT.sIx n n hi:Nat):Int)/\(sliceBounds lo hi none n).2.2=1:=by
 refine⟨?_,?_,rfl⟩
 ·cases lo with
  | none=>simp[sliceBounds,HT.sIx]
  | some i=>
    simp only[sliceBounds,HT.sIx,Option.getD_none,show(1:Int) > 0 by decide,if_true]
    by_cases h:i<0
    ·simp only[h,if_true] <;> omega
    ·simp only[h,if_false] <;> omega
 ·cases hi with
  | none=>simp[sliceBounds,HT.sIx]
  | some i=>
    simp only[sliceBounds,HT.sIx,Option.getD_none,show(1:Int) > 0 by decide,if_true]
    by_cases h:i<0
    ·simp only[h,if_true] <;> omega
    ·simp only[h,if_false] <;> omega
theorem tq(its:List Value)(lo hi:Option Int):slicePick its.toArray lo hi none=((its.drop (HT.sIx its.length 0 lo)).take (HT.sIx its.length its.length hi - HT.sIx its.length 0 lo)).toArray:=by
 obtain⟨h1,h2,h3⟩:=vB lo hi its.toArray.size
 unfold slicePick
 rw[h1,h2,h3]
 simp only[sliceRange_one,pick_run,aA] <;> rfl
noncomputable def NP(K:aj):V->Option Int->Option Int->Hp->VK->Prop:=λx lo hi H Q =>∃a xs,x = .ref a/\SqL K H a xs /\ ∀p,H p=none->Q (.ref p) (upd H p (.lst (wO xs lo hi)))
theorem F3:SlR X (NP X.K):=by
 intro pins s σ H x v vl vu lo hi sl Q I rx hs pl pu h
 obtain⟨a,xs,rfl,hx,q⟩:=h
 cases rx
 obtain⟨its,r,ht,hz⟩:=I.list hx
 have hlen:=r.length
 refine⟨"list",_,slot_list_getitem.lookup,ht.isList.typeIs,?_⟩
 refine wpAny_getItem_list_slice ht.isList hs pl pu .none (by simp) ?_ (by rw[aA] <;> omega)
 rw[tq,<- hlen]
 refine⟨.ref s.heap.objs.size,_,I.laid (t':=s.toks) (o:= .lst (wO xs lo hi)) (λb ob q=>af _ q) (ah _) ?_,rfl,q _ (I.hok.fresh (ah _))⟩
 exact⟨aM (pL xs lo hi) hz,_,0,(r.drop (HT.sIx xs.length 0 lo)).take (HT.sIx xs.length xs.length hi - HT.sIx xs.length 0 lo),aw _ rfl⟩
noncomputable def mB:V->Bool
 | .non=>true
 | .bl _=>true
 | .int _=>true
 | .str _=>true
 | _=>false
noncomputable def eqV:V->V->Bool
 | .non,.non=>true
 | .bl a,.bl b=>a==b
 | .bl a,.int b=>(if a then 1 else 0)==b
 | .int a,.bl b=>a==(if b then 1 else 0)
 | .int a,.int b=>a==b
 | .str a,.str b=>a==b
 | _,_=>false
theorem Lf{A:Around}{s:Shared}{y x:V}{u v:Value}(ry:RelV y u)(rx:RelV x v)(fy:mB y=true)(fx:mB x=true):SeqAt.EqAt A s u v (eqV y x):=by
 cases y with
 | non=>
   cases ry
   cases x with
   | non=>cases rx;exact SeqAt.EqAt.same _
   | bl b=>cases rx;exact SeqAt.EqAt.none_bool b
   | int b=>obtain⟨t,rfl⟩:=rx;exact SeqAt.EqAt.none_int b t
   | str b=>obtain⟨t,rfl⟩:=rx;exact SeqAt.EqAt.none_str b t
   | _=>exact absurd (show false=true from fx) bM
 | bl a=>
   cases ry
   cases x with
   | non=>cases rx;exact SeqAt.EqAt.bool_none a
   | bl b=>cases rx;exact SeqAt.EqAt.bool_bool a b
   | int b=>obtain⟨t,rfl⟩:=rx;exact SeqAt.EqAt.bool_int a b t
   | str b=>obtain⟨t,rfl⟩:=rx;exact SeqAt.EqAt.bool_str a b t
   | _=>exact absurd (show false=true from fx) bM
 | int a=>
   obtain⟨t',rfl⟩:=ry
   cases x with
   | non=>cases rx;exact SeqAt.EqAt.int_none a t'
   | bl b=>cases rx;exact SeqAt.EqAt.int_bool a t' b
   | int b=>obtain⟨t,rfl⟩:=rx;exact SeqAt.EqAt.int_int a t' b t
   | str b=>obtain⟨t,rfl⟩:=rx;exact Ak a t' b t
   | _=>exact absurd (show false=true from fx) bM
 | str a=>
   obtain⟨t',rfl⟩:=ry
   cases x with
   | non=>cases rx;exact SeqAt.EqAt.str_none a t'
   | bl b=>cases rx;exact SeqAt.EqAt.str_bool a t' b
   | int b=>obtain⟨t,rfl⟩:=rx;exact Al a t' b t
   | str b=>obtain⟨t,rfl⟩:=rx;exact SeqAt.EqAt.str_str a t' b t
   | _=>exact absurd (show false=true from fx) bM
 | _=>exact absurd (show false=true from fy) bM
noncomputable def eqU(x:V)(u:Value):Bool:=match u with
 | .none=>eqV .non x
 | .bool b=>eqV (.bl b) x
 | .int i _=>eqV (.int i) x
 | .str z _=>eqV (.str z) x
 | _=>false
theorem Et{x y:V}{u:Value}(r:RelV y u)(f:mB y=true):eqU x u=eqV y x:=by
 cases y with
 | non=>cases r;rfl
 | bl b=>cases r;rfl
 | int i=>obtain⟨t,rfl⟩:=r;rfl
 | str z=>obtain⟨t,rfl⟩:=r;rfl
 | _=>exact absurd (show false=true from f) bM
theorem uN{x:V}: ∀{xs:List V}{us:List Value},bW xs us->xs.all mB=true->us.any (eqU x)=xs.any λy=>eqV y x
 | _,_,.nil,_=>rfl
 | y::xs,u::us,.cons r t,f=>by
   rw[cf,ay]at f
   rw[fS,fS,Et r f.1,uN t f.2]
theorem se{A:Around}{s:Shared}{x:V}{v:Value}(rx:RelV x v)(fx:mB x=true): ∀{xs:List V}{us:List Value},bW xs us->xs.all mB=true -> ∀u∈us,SeqAt.EqAt A s u v (eqU x u)
 | _,_,.nil,_=>λu hu=>by cases hu
 | y::xs,u::us,.cons r t,f=>λu' hu=>by
   rw[cf,ay]at f
   rcases aG.mp hu with rfl |hu
   ·rw[Et r f.1];exact Lf r rx f.1 fx
   ·exact se rx fx t f.2 u' hu
noncomputable def inV(x:V)(xs:List V):Bool:=xs.any λy=>eqV y x
noncomputable def rIn(K:aj)(neg:Bool):R2:=λx y H Q =>∃p xs,y = .ref p/\(SqL K H p xs\/SqT K H p xs)/\mB x=true/\xs.all mB=true/\Q (.bl (if neg then !inV x xs else inV x xs)) H
theorem vF:OpR X (compareOp .NotIn) (rIn X.K true):=by
 intro pins s σ H x y v u Q I rx ry h
 obtain⟨p,xs,rfl,hq,fx,fs,q⟩:=h
 cases ry
 rcases hq with hq |hq
 ·obtain⟨its,r,pl,hz⟩:=I.list hq
  refine SeqAt.notIn_listAt (eqU x) pl.isList (λw hw=>se rx fx r fs w (by simpa using hw)) ⟨.bl _,H,I,rfl,?_⟩
  rw[show its.toArray.any (eqU x)=its.any (eqU x) by simp,uN r fs]
  exact q
 ·obtain⟨its,r,pl,hz⟩:=I.tuple hq
  refine SeqAt.notIn_tupleAt (eqU x) pl (λw hw=>se rx fx r fs w (by simpa using hw)) ⟨.bl _,H,I,rfl,?_⟩
  rw[show its.toArray.any (eqU x)=its.any (eqU x) by simp,uN r fs]
  exact q
theorem ve:gS X (.builtin "len") (fun xs H Q => ∃ p ys,xs = [.ref p]/\(SqL X.K H p ys\/SqT X.K H p ys)/\Q (.int ys.length) H):=by
 intro pins s σ H xs us Q I r h
 obtain⟨p,ys,rfl,hq,q⟩:=h
 obtain⟨u,rfl,rx⟩:=vals1 r
 cases rx
 have hn:=rT
 rcases hq with hq |hq
 ·obtain⟨its,r',pl,hz⟩:=I.list hq
  have hlen:=r'.length
  exact Calls.call_len_list pl.isList (by simp only[aA] <;> omega) ⟨.int ys.length,H,I.tok _,⟨s.toks+1,by rw[aA,hlen]⟩,q⟩
 ·obtain⟨its,r',pl,hz⟩:=I.tuple hq
  have hlen:=r'.length
  exact len_tuple pl (by simp only[aA] <;> omega) ⟨.int ys.length,H,I.tok _,⟨s.toks+1,by rw[aA,hlen]⟩,q⟩
theorem gS.or{f:Value}{r r':List V->Hp->VK->Prop}(h:gS X f r)(h':gS X f r'):gS X f (λxs H Q=>r xs H Q\/r' xs H Q):=by
 intro pins s σ H xs us Q I rs q
 rcases q with q |q
 ·exact h pins s σ H xs us Q I rs q
 ·exact h' pins s σ H xs us Q I rs q
theorem sZ:gS X (.type "tuple") (fun xs H Q => ∃ p ys,xs = [.ref p]/\((SqL X.K H p ys /\ ∀ l,H l=none->Q (.ref l) (upd H l (.tup ys)))\/(SqT X.K H p ys/\Q (.ref p) H))):=by
 intro pins s σ H xs us Q I r h
 obtain⟨p,ys,rfl,h⟩:=h
 obtain⟨u,rfl,rx⟩:=vals1 r
 cases rx
 rcases h with⟨hq,q⟩ | ⟨hq,q⟩
 ·obtain⟨its,r',pl,hz⟩:=I.list hq
  have hlen:=r'.length
  refine call_tuple_list pl.isList (λh' kp =>?_) (by simp only[aA] <;> omega)
  have I1:Inv X pins σ H { s with heap:=h' }:=I.kept (t':=s.toks) kp
  have I2:Inv X pins σ (upd H h'.objs.size (.tup ys)) { s with heap:=h'.push { cls := .type "tuple",data := .seq its.toArray } }:=
   I1.laid (t':=s.toks) (λb o e=>af _ e) (ah _) (show d9 X.prog X.w _ _ _ (.tup ys) from⟨hz,its,r',lI _ _,_,aw _ rfl,rfl⟩)
  exact⟨.ref h'.objs.size,_,I2,rfl,q _ (I1.hok.fresh (ah _))⟩
 ·obtain⟨its,r',pl,hz⟩:=I.tuple hq
  exact call_tuple_same pl ⟨.ref p,H,I,rfl,q⟩
noncomputable def tyV(K:aj)(T:String)(x:V)(H:Hp):Prop:=match x with
 | .str _=>T="str"
 | .int _=>T="int"
 | .ref p=>(T="list" /\ ∃ xs,SqL K H p xs)\/(T="tuple" /\ ∃ o,K.lookup p=some o/\o.cls = .type "tuple"/\o.dict=none) \/
   (T="dict"/\((∃ kvs,H p=some (.dK kvs)) \/ ∃ kvs,H p=some (.dT kvs)))\/(T="set" /\ ∃ S n,H p=some (.set S n))
 | _=>False
theorem Cs{pins:List (Addr×Obj)}{σ:St}{H:Hp}{s:Shared}{T:String}{x:V}{v:Value}(I:Inv X pins σ H s)(r:RelV x v)(ty:tyV X.K T x H):
  s.TypeIs v T /\ ∀a,v = .ref a -> ∃ob,s.heap.get? a=some ob/\ob.dict=none:=by
 cases x with
 | str z=>
   obtain⟨t,rfl⟩:=r
   cases (show T="str" from ty)
   exact⟨typeIs_str s z t,λ_ e=>nomatch e⟩
 | int i=>
   obtain⟨t,rfl⟩:=r
   cases (show T="int" from ty)
   exact⟨typeIs_int s i t,λ_ e=>nomatch e⟩
 | ref p=>
   cases r
   rcases ty with⟨rfl,xs,hq⟩ | ⟨rfl,o,hk,hc,hd⟩ | ⟨rfl,hk⟩ | ⟨rfl,S,n,hk⟩
   ·obtain⟨its,_,pl,_⟩:=I.list hq
    refine⟨pl.isList.typeIs,λa e =>?_⟩
    cases e
    obtain⟨o,n,e,c,hd,_⟩:=pl
    exact⟨o,e,hd⟩
   ·refine⟨⟨o,I.kIn p o hk,hc⟩,λa e =>?_⟩
    cases e
    exact⟨o,I.kIn _ o hk,hd⟩
   ·have z: ∃o,s.heap.get? p=some o/\o.ExactDict:=by
     rcases hk with⟨kvs,hk⟩ | ⟨kvs,hk⟩
     ·obtain⟨_,_,_,_,o,_,_,e,ex,_⟩:=I.hok p _ hk
      exact⟨o,e,ex⟩
     ·obtain⟨_,_,_,_,o,_,_,e,ex,_⟩:=I.hok p _ hk
      exact⟨o,e,ex⟩
    obtain⟨o,e,ex⟩:=z
    refine⟨⟨o,e,ex.1⟩,λa e2 =>?_⟩
    cases e2
    exact⟨o,e,ex.2.1⟩
   ·obtain⟨o,_,_,_,e,ex,_⟩:=I.hok p _ hk
    refine⟨⟨o,e,ex.1⟩,λa e2 =>?_⟩
    cases e2
    exact⟨o,e,ex.2.1⟩
 | _=>exact di ty
noncomputable def L9(K:aj)(T:String)(r:V->List V->Hp->VK->Prop)(to:TE):TE:=λσ H Q=>to σ H λx H1=>tyV K T x H1/\r x [] H1 Q
noncomputable def tBM(K:aj)(T:String)(r:V->List V->Hp->VK->Prop)(to:TE)(t:TA):TE:=λσ H Q=>to σ H λx H1=>tyV K T x H1/\t σ H1 λxs H2=>r x xs H2 Q
variable {o e:Expr}{es:List Expr}{to:TE}{t:TA}{name:Str}{apos cpos:Pos}{T id:String}{r:V->List V->Hp->VK->Prop}
theorem Js (pa:PlainAttrs T) (slot:Slot T name id) (hty:typeOf (.builtin id)=pure (.type "method_descriptor")) (hm:MtR X id r) (ho:PE X o to)
  (hbase:autoParam (attributeBase o name X.env (eval o X.env)=eval o X.env) au1._auto_1) (hline:autoParam ((apos.endLine==cpos.line)=true) au1._auto_1):PE X (.Call (.Attribute o name apos) [] [] cpos) (L9 X.K T r to):=by
 intro pins s σ H Q I h
 refine wpAny_Call_method0_late hbase hline (thn (ho pins s σ H _ I h) λv s1 ⟨x,H1,I1,r1,ty,q1⟩ =>?_)
 obtain⟨h1,h2⟩:=Cs I1 r1 ty
 exact⟨T,id,pa,slot,hty,h1,h2,mq rfl (PySem.evalArgs_none (hm pins s1 σ H1 x [] v [] Q I1 r1 .nil q1))⟩
theorem EJ (pa:PlainAttrs T) (slot:Slot T name id) (hty:typeOf (.builtin id)=pure (.type "method_descriptor")) (hm:MtR X id r) (ho:PE X o to) (ha:PA X (e::es) t)
  (hbase:autoParam (attributeBase o name X.env (eval o X.env)=eval o X.env) au1._auto_1)
  (hfew:autoParam (((backTo cpos (starEach (e::es) X.env)).all (λx => !x.1)&&(backToKw cpos (keywordEach [] X.env)).all (λx=>x.1.isSome)
   && decide ((e::es).length+([]:List Keyword).length+(if ([]:List Keyword).isEmpty then 0 else 1)<30))=true) au1._auto_1)
  (hline:autoParam ((apos.endLine==cpos.line)=true) au1._auto_1) (hs:autoParam (starEach (e::es) X.env=(false,eval e X.env)::starEach es X.env) au1._auto_1) (hplain:autoParam ((backTo cpos (starEach es X.env)).any (·.1)=false) au1._auto_1):
  PE X (.Call (.Attribute o name apos) (e::es) [] cpos) (tBM X.K T r to t):=by
 intro pins s σ H Q I h
 refine wpAny_Call_method_late hbase hfew hline rfl (thn (ho pins s σ H _ I h) λv s1 ⟨x,H1,I1,r1,ty,q1⟩ =>?_)
 obtain⟨h1,h2⟩:=Cs I1 r1 ty
 refine⟨T,id,pa,slot,hty,h1,h2,?_⟩
 have hA:=ha cpos pins s1 σ H1 _ I1 q1
 rw[hs]at hA ⊢
 refine mq (by show(false||(backTo cpos (starEach es X.env)).any (·.1))=false;rw[hplain] <;> rfl) (oy ?_)
 exact thn hA λus s2 ⟨vs,H2,I2,r2,q2⟩=>hm pins s2 σ H2 x vs v us Q I2 r1 r2 q2
end
end _L
namespace _L
open PySem PySem.Spec PyProof.Rows
noncomputable def MtM(X:Cx)(id:String)(r:V->List V->Hp->VK->Prop):Prop:=
 ∀(pins:List (Addr×Obj)) (s:Shared) (σ:St) (H:Hp) (x:V) (xs:List V) (v:Value) (us:List Value) (Q:VK),Inv X pins σ H s->RelV x v->bW xs us->r x xs H Q ->
  aH (model X.prog X.w) X.A (call (.builtin id) (v::us)) (EP X pins σ Q) X.xe s
theorem bW.one: ∀{x:V}{us:List Value},bW [x] us -> ∃u,us = [u]/\RelV x u:=by
 intro x us h
 cases h with |cons r t=>cases t;exact⟨_,rfl,r⟩
theorem bW.zero: ∀{us:List Value},bW [] us->us = []
 | _,.nil=>rfl
theorem bW.dropLast{xs:List V}{us:List Value}(h:bW xs us):bW xs.dropLast us.dropLast:=by
 induction h with
 | nil=>exact .nil
 | cons r t ih=>
   cases t with
   | nil=>exact .nil
   | cons q t'=>exact .cons r ih
theorem bW.eraseIdx: ∀{xs:List V}{us:List Value} (i:Nat),bW xs us->bW (xs.eraseIdx i) (us.eraseIdx i)
 | _,_,_,.nil => .nil
 | _,_,0,.cons _ t=>t
 | _,_,i+1,.cons r t => .cons r (bW.eraseIdx i t)
theorem bW.rep{xs:List V}{us:List Value}(h:bW xs us): ∀k:Nat,bW (aR k xs).flatten (aR k us).flatten
 | 0 => .nil
 | k+1=>by
   rw[dw,dw,f9,f9]
   exact bW.append h (bW.rep h k)
theorem yM{α:Type}(l:List α):l.eraseIdx (l.length - 1)=l.dropLast:=by
 induction l with
 | nil=>rfl
 | cons a r ih=>
   cases r with
   | nil=>rfl
   | cons b r=>
     have e:(a::b::r).length - 1=((b::r).length - 1)+1:=by
      have h1:(a::b::r).length=r.length+2:=rfl
      have h2:(b::r).length=r.length+1:=rfl
      omega
     rw[e,BP,ih]
     all_goals rfl
theorem uB{α:Type}: ∀(l:List α) (i:Nat),(l.eraseIdx i).length<=l.length
 | [],_=>ah _
 | _::_,0=>dD _
 | _::r,i+1=>Nat.succ_le_succ (uB r i)
section
variable {X:Cx}{pins:List (Addr×Obj)}{σ:St}{H:Hp}{s:Shared}{l b:Addr}{xs ys zs:List V}
theorem Inv.lset{its its':List Value}{n:Nat}{f:Array Value->Array Value}{t':Nat}(I:Inv X pins σ H s)(hH:H l=some (.lst xs))
  (e:s.heap.get? l=some { cls := .type "list",data := .seq its.toArray n }) (hf:f its.toArray=its'.toArray) (hv:bW ys its') (hz:ys.length<=sizeLine) :
  Inv X pins σ (upd H l (.lst ys)) { s with heap:=s.heap.update l (cg f),toks:=t' }:=by
 have q:=EX e f
 rw[hf]at q
 refine I.write (x:=l) (e:=l) (by rw[hH];exact trivial) (.inl rfl) (λb' u hb hu=>(dr s.heap (cg f) (cZ hb)).trans hu) ⟨_,q⟩ ?_
 exact⟨hz,its',_,hv,q⟩
theorem Inv.lnew{its:List Value}{t':Nat}(I:Inv X pins σ H s)(hv:bW ys its)(hz:ys.length<=sizeLine):
  Inv X pins σ (upd H s.heap.objs.size (.lst ys)) { s with heap:=s.heap.push { cls := .type "list",data := .seq its.toArray },toks:=t' }:=
 I.laid (λ_ _ q=>af _ q) (ah _) ⟨hz,its,0,hv,aw _ rfl⟩
theorem Inv.fresh(I:Inv X pins σ H s):H s.heap.objs.size=none:=I.hok.fresh (ah _)
theorem Inv.lstM (I:Inv X pins σ H s) (hH:H l=some (.lst xs)):xs.length<=sizeLine /\ ∃ (its:List Value) (n:Nat),bW xs its/\xs.length=its.length/\s.heap.get? l=some { cls := .type "list",data := .seq its.toArray n }:=by
 obtain⟨z,its,n,r,e⟩:=I.hok l _ hH
 exact⟨z,its,n,r,r.length,e⟩
theorem B2{n:Nat}(h:n<=sizeLine):jD n=false:=by
 unfold jD
 exact decide_eq_false (by omega)
end
section
variable {X:Cx}
noncomputable def zF:V->List V->Hp->VK->Prop:=λx vs H Q =>∃l xs y,x = .ref l/\vs = [y]/\H l=some (.lst xs)/\xs.length<sizeLine/\Q .non (upd H l (.lst (xs++[y])))
theorem AX:MtM X "list.append" zF:=by
 intro pins s σ H x vs v us Q I rx rv h
 obtain⟨l,xs,y,rfl,rfl,hH,hz,q⟩:=h
 cases rx
 obtain⟨u,rfl,ru⟩:=rv.one
 obtain⟨z,its,n,r,hl,e⟩:=I.lstM hH
 refine call_meets F.slot_list_append ⟨_,e,rfl⟩ F.entry_list_append (F.args_list_append_2 _ _) (PySem.list_append l its.toArray n u (by rw[aA];omega)) ⟨e,?_⟩
 refine⟨.non,_,I.lset (its':=its++[u]) hH e (by simp) (r.append (.cons ru .nil)) ?_,rfl,q⟩
 rw[aV,EY]
 omega
noncomputable def zK:V->List V->Hp->VK->Prop:=λx vs H Q =>∃l b xs zs,x = .ref l/\vs = [.ref b]/\H l=some (.lst xs)/\H b=some (.lst zs)/\xs.length+zs.length<=sizeLine/\Q .non (upd H l (.lst (xs++zs)))
theorem AB:MtM X "list.extend" zK:=by
 intro pins s σ H x vs v us Q I rx rv h
 obtain⟨l,b,xs,zs,rfl,rfl,hH,hB,hz,q⟩:=h
 cases rx
 obtain⟨u,rfl,ru⟩:=rv.one
 cases ru
 obtain⟨z,its,n,r,hl,e⟩:=I.lstM hH
 obtain⟨z2,its2,n2,r2,hl2,e2⟩:=I.lstM hB
 have hsz:its.toArray.size+its2.toArray.size<=sizeLine:=by rw[aA,aA];omega
 have hlong: ¬(!its.toArray.isEmpty&&jD (its.toArray.size+its2.toArray.size))=true:=by
  rw[B2 hsz,Bool.and_false]
  exact bM
 refine call_meets F.slot_list_extend ⟨_,e,rfl⟩ F.entry_list_extend (F.args_list_extend_2 _ _)
  (AutoSeq1.list_extend_list_list_0 l its.toArray n b its2.toArray n2 hlong (by rw[aA];omega) (by omega)) ⟨e,e2,?_⟩
 refine⟨.non,_,I.lset (its':=its++its2) hH e (by simp) (r.append r2) ?_,rfl,q⟩
 rw[aV]
 omega
noncomputable def MZ:V->List V->Hp->VK->Prop:=λx vs H Q =>∃l xs y,x = .ref l/\vs = []/\H l=some (.lst xs)/\xs[xs.length - 1]? = some y/\Q y (upd H l (.lst xs.dropLast))
theorem Ld:MtM X "list.pop" MZ:=by
 intro pins s σ H x vs v us Q I rx rv h
 obtain⟨l,xs,y,rfl,rfl,hH,hy,q⟩:=h
 cases rx
 have hus:=rv.zero
 subst hus
 obtain⟨z,its,n,r,hl,e⟩:=I.lstM hH
 obtain⟨u,hu,ru⟩:=r.get hy
 have hy':its.toArray[its.toArray.size - 1]? = some u:=by
  show its.toArray[its.length - 1]? = some u
  rw[<- BV,<- hl]
  exact hu
 refine call_meets F.slot_list_pop ⟨_,e,rfl⟩ F.entry_list_pop (F.args_list_pop_1 _) (MeetsSeq.list_pop_last l its.toArray n u hy' (by rw[aA];omega)) ⟨e,?_⟩
 refine⟨y,_,I.lset (its':=its.dropLast) hH e ?_ r.dropLast ?_,ru,q⟩
 ·show its.toArray.eraseIdxIfInBounds (its.toArray.size - 1)=its.dropLast.toArray
  rw[aA,tN,yM]
 ·rw[List.length_dropLast]
  omega
noncomputable def CO:V->List V->Hp->VK->Prop:=λx vs H Q =>∃l xs i k y,x = .ref l/\vs = [.int i]/\H l=some (.lst xs) /\ -(2 ^ 63)<=i/\i<2 ^ 63/\seqIndex? i xs.length=some k/\xs[k]? = some y/\Q y (upd H l (.lst (xs.eraseIdx k)))
theorem DH:MtM X "list.pop" CO:=by
 intro pins s σ H x vs v us Q I rx rv h
 obtain⟨l,xs,i,k,y,rfl,rfl,hH,h1,h2,hk,hy,q⟩:=h
 cases rx
 obtain⟨u,rfl,ru⟩:=rv.one
 obtain⟨t,rfl⟩:=ru
 obtain⟨z,its,n,r,hl,e⟩:=I.lstM hH
 obtain⟨w,hw,rw'⟩:=r.get hy
 refine call_meets F.slot_list_pop ⟨_,e,rfl⟩ F.entry_list_pop (F.args_list_pop_2 _ _)
  (MeetsSeq.list_pop_at l its.toArray n i t k w (fitsIndex_both h1 h2) (by rw[aA,<- hl];exact hk) (by rw[<- BV];exact hw) (by rw[aA];omega)) ⟨e,?_⟩
 refine⟨y,_,I.lset (its':=its.eraseIdx k) hH e ?_ (r.eraseIdx k) ?_,rw',q⟩
 ·show its.toArray.eraseIdxIfInBounds k=(its.eraseIdx k).toArray
  rw[tN]
 ·have:=uB xs k
  omega
noncomputable def M4:R2:=λx y H Q =>∃l b xs zs,x = .ref l/\y = .ref b/\H l=some (.lst xs)/\H b=some (.lst zs)/\xs.length+zs.length<=sizeLine /\ ∀p,H p=none->Q (.ref p) (upd H p (.lst (xs++zs)))
theorem JO:OpR X (binaryOp .Add) M4:=by
 intro pins s σ H x y v u Q I rx ry h
 obtain⟨l,b,xs,zs,rfl,rfl,hH,hB,hz,q⟩:=h
 cases rx
 cases ry
 obtain⟨z,its,n,r,hl,e⟩:=I.lstM hH
 obtain⟨z2,its2,n2,r2,hl2,e2⟩:=I.lstM hB
 refine PySem.P.add_list e e2 ?_ (by rw[aA,aA];omega)
 have ea:its.toArray++its2.toArray=(its++its2).toArray:=by simp
 rw[ea]
 exact⟨.ref _,_,I.lnew (t':=s.toks) (r.append r2) (by rw[aV];omega),rfl,q _ I.fresh⟩
theorem len_rep{α:Type}(xs:List α)(k:Nat):(aR k xs).flatten.length=k*xs.length:=by
 induction k with
 | zero=>simp
 | succ k ih=>rw[dw,f9,aV,ih,ng,tP]
end
section
variable {prog:Program}{w:World}{A:Around}{E:Value->Shared->Prop}{s:Shared}
end
section
variable {X:Cx}
end
end _L
namespace Att
open PySem PySem.W PySem.Calls PyProof.Rows
theorem pT{P:Params}{h:Heap}: ∀(ns:List Int) (vs:List Value),WellAll P h vs (ns.map WData.int)->IntsAre vs ns:=by
 intro ns
 induction ns with
 | nil=>
   intro vs w
   rw[iQ]at w
   cases w
   exact .nil
 | cons n ns ih=>
   intro vs w
   rw[bg]at w
   cases w with
   | cons a b=>
     cases a
     exact .cons _ _ (ih _ b)
theorem AK{l:OpenLaw}{n:Nat}(hn:l.most=some n){P:Params}{h:Heap}{args:List WData}{vals:List Value}
  (hpre:l.row.toRowW.claim.pre args=true) (hwl:WellAll P h vals args):
  ∃ a vs ns,vals = [bj a]/\args = [WData.list (ns.map WData.int)]/\h.get? a=some { cls := .type "list",data := .seq vs.toArray }/\IntsAre vs ns/\ns.length<=n:=by
 have hsh:WShape.hasAll [] args [.list .int]=true:=(pre_splitW hpre).1
 have hc:l.pre.holds [] { args:=args }=true:=(pre_splitW hpre).2
 obtain⟨d,r,rfl,h1,h2⟩:=hasAllW_cons hsh
 obtain rfl:=hasAllW_nil h2
 obtain⟨xs,rfl,h3⟩:=hasW_list h1
 obtain⟨ns,rfl⟩:=items_int h3
 have hlen:ns.length<=n:=by
  unfold OpenLaw.pre at hc
  have h4:(WTm.not (.lt (.lit (.int (n:Int))) (.len (.arg 0)))).holds [] { args:= [.list (ns.map .int)] }=true:=by
   have h4:=(holds_andW hc).1
   rw[hn]at h4
   exact h4
  have h5:=condW_of h4 (w_not (w_lt w_lit (w_len_list (w_arg rfl))))
  rw[aq]at h5
  refine bC λq =>?_
  have q':(n:Int)<((ns.length:Nat):Int):=by omega
  first
   | (rw[decide_eq_true q']at h5;exact absurd h5 (by decide))
   | (simp at h5;omega)
 cases hwl with
 | cons w1 w2=>
   cases w2
   cases w1 with
   | list ho hall=>exact⟨_,_,ns,rfl,rfl,ho,pT ns _ hall,hlen⟩
theorem Bx(l:OpenLaw)(args:List WData):l.row.toRowW.claim.post args (.bool true) args=true:=
 postW_of (r:=l.row.toRowW) (X:=(true==true))
  (show WShape.has [] (.bool true) .bool=true by first |rfl |decide |simp[WShape.has,WShape.arms,WShape.armsAll])
  (show(WTm.eq .res (.lit (.bool true))).value [] { args:=args,res:=some (.bool true),after:=args }=some (.bool (true==true)) from w_eq_bool (w_res rfl) w_lit) rfl
theorem attach_call{l:OpenLaw}{n:Nat}{q:Program}{loose:List Str}{XP:(Str->Option Value)->Heap->Prop}{YP:World->Heap->Prop}{d:DefRec}
  (hn:l.most=some n) (hdf:d.params.defaults = [])
  (call: ∀(w:World) (s₀ s₁:Shared) (mg mb:Str->Option Value) (fa:Addr) (o:Obj) (pm cd doc:Value) (a:Addr) (vs:List Value) (ns:List Int),
   Ground q loose [] XP w s₀ mg mb s₁.heap->YP w s₁.heap ->
   s₁.heap.get? fa=some o->o.data = .func (docDef d.name d.params d.body d.scope pm cd doc)->s₁.heap.CodeRec cd d.name->mg d.name=some (.ref fa) ->
   s₁.heap.get? a=some { cls := .type "list",data := .seq vs.toArray }->IntsAre vs ns->ns.length<=n->s₁.gens = #[] ->
   sv (model l.prog w) callerA (.call (.ref fa) ⟨[.ref a],[]⟩) (λr s'=>r = .ok (.ret (.bool true))/\OldK s₁.heap s'.heap/\s'.os=s₁.os/\AllBare s'.gens) s₁):
  WalkO q loose XP YP l.row.toRowW d [] (λf vs=>PySem.call f vs):=by
 intro w s₀ s₁ mg mb G Y fa o pm cd doc dV kV ho hd hcd hD hmg hg args vals as hpre hlay hrd hwl hlo
 obtain rfl:dV = .none:=Dflts.none hD hdf
 obtain rfl:kV = .none:=Dflts.noKw hD
 obtain⟨a,vs,ns,rfl,rfl,hobj,hints,hlen⟩:=AK hn hpre hwl
 refine enter_call (kD (call w s₀ s₁ mg mb fa o pm cd doc a vs ns G Y ho (fd_plain hd) hcd hmg hobj hints hlen hg) λr s' hq =>?_)
 obtain⟨rfl,h2,h3,h4⟩:=hq
 exact⟨.inl ⟨.bool true,.bool true,[],rfl,λ_=>rfl,.bool true,Bx l _,λ_=>⟨gJ,λ_ hm=>(nomatch hm)⟩⟩,h2,h3,h4⟩
section
variable {prog:Program}{w:World}{A:Around}{E:Value->Shared->Prop}{s:Shared}{K:Frag}
end
end Att
namespace _L
open PySem PySem.Spec PyProof.Rows
end _L
namespace _L
open PySem PySem.Spec PyProof.Rows
abbrev KOf{K:aj}{h:Heap}(_:K.In h):aj:=K
end _L
namespace _L
open PySem PySem.Spec PyProof.Rows
noncomputable def fk(s:Stmt):Arguments:=match s with
 | .FunctionDef _ a _ _ _ _ _ _ _ _=>a
 | _=>{ posonlyargs:= [],args:= [],vararg:=none,kwonlyargs:= [],kw_defaults:= [],kwarg:=none,defaults:= [] }
noncomputable def bq(s:Stmt):List Stmt:=match s with
 | .FunctionDef _ _ b _ _ _ _ _ _ _=>b
 | _ =>[]
noncomputable def aE(s:Stmt):Scope:=match s with
 | .FunctionDef _ _ _ _ _ _ sc _ _ _=>sc
 | _=>{ kind:= .function,names:= [],isGenerator:=false,isCoroutine:=false }
abbrev CX0:CXT:=λ_ _ _ _ _ _=>False
abbrev E0:XK:=λ_ _ _=>False
theorem zA{X:Cx}:vw CX0 X E0:=λ_ _ _ _ _ _ _ h=>h.elim
structure Fun(K:aj)(x qual:Str)(st:Stmt)(f:Addr)(fd:FuncData):Prop where
 ex: ∃(oc:Value) (od:Option Addr) (kV doc pm:Value) (an:Option Addr) (cdv ct:Value) (osl:Array (Option Value)),
  fd=cU x qual (fk st) (bq st) (aE st) .none kV doc pm an cdv ct/\K.lookup f=some ⟨oc,od,.func fd,osl⟩/\fZ K cdv qual=true
 kp:cm K (.ref f)=true
section
variable {P:Program}{w:World}{K:aj}{mg:Str->Option Value}{base:Heap}
theorem Fun.ok{x qual:Str}{st:Stmt}{f:Addr}{fd:FuncData}{N ps:List Str}{k:Nat}{sp:Sp}(F:Fun K x qual st f fd)(S:bL N ps (aE st))(len: ∀vs H Q E,sp vs H Q E->vs.length=ps.length)
  (hbody: ∀(cdv:Value) (A:Around) (outer:List Env) (s:Shared) (H:Hp) (vs:List V) (Q:VK) (E:XK),jO k (A.deeper (envOfC qual (aE st) s.heap.objs.size f cdv))->sp vs H Q E ->
   ∃t,PSs (yS CX0 P w K mg base N qual (aE st) f cdv A outer s H E).nox (bq st) t/\t { nx:=λ_ H'=>Q .non H',rt:=Q } (start N vs) H):jW P w K mg base CX0 (k+1) f fd ps sp:=by
 obtain⟨oc,od,kV,doc,pm,an,cdv,ct,osl,rfl,lk,hcd⟩:=F.ex
 refine Ac lk hcd S len λA outer s H vs Q E hr hsp =>?_
 obtain⟨t,h,q⟩:=hbody cdv A outer s H vs Q E hr hsp
 exact⟨t,h.nox,q⟩
theorem Fun.binds{x qual:Str}{st:Stmt}{f:Addr}{fd:FuncData}{ps:List Str}(F:Fun K x qual st f fd)
  (h: ∀(kV doc pm:Value) (an:Option Addr) (cdv ct:Value) (us:List Value),us.length=ps.length->bindArgs (cU x qual (fk st) (bq st) (aE st) .none kV doc pm an cdv ct) ⟨us,[]⟩=pure (ps.zip us)):Binds K fd ps []:=by
 obtain⟨oc,od,kV,doc,pm,an,cdv,ct,osl,rfl,lk,hcd⟩:=F.ex
 exact .all (h kV doc pm an cdv ct)
theorem IT{x qual:Str}{st:Stmt}{f:Addr}{oc:Value}{od an:Option Addr}{osl:Array (Option Value)}{kV doc pm cdv ct:Value}(l:K.lookup f=some ⟨oc,od,.func (cU x qual (fk st) (bq st) (aE st) .none kV doc pm an cdv ct),osl⟩)
  (c:fZ K cdv qual=true) (k:cm K (.ref f)=true):Fun K x qual st f (cU x qual (fk st) (bq st) (aE st) .none kV doc pm an cdv ct):=⟨⟨oc,od,kV,doc,pm,an,cdv,ct,osl,rfl,l,c⟩,k⟩
end
section
variable {X:Cx}
end
end _L
end
section
namespace GQ
open PySem PySem.W PyProof.Rows
noncomputable def Rn(n:Nat)(lt:Nat->Nat->Bool){α:Type}:KasT α->(α->Prop)->Prop
 | .ret a,Q=>Q a
 | .ask i j k,Q=>i<n/\j<n/\Rn n lt (k (lt i j)) Q
section
variable {n:Nat}{lt:Nat->Nat->Bool}
theorem Rn.mono{α:Type}{Q Q':α->Prop}(h: ∀a,Q a->Q' a): ∀{t:KasT α},Rn n lt t Q->Rn n lt t Q'
 | .ret a,q=>h a q
 | .ask i j k,⟨a,b,q⟩=>⟨a,b,Rn.mono h q⟩
theorem Rn.bind{α β:Type}{f:α->KasT β}{Q:β->Prop}: ∀{t:KasT α},Rn n lt t (λa=>Rn n lt (f a) Q)->Rn n lt (t.bind f) Q
 | .ret a,q=>q
 | .ask i j k,⟨a,b,q⟩=>⟨a,b,Rn.bind q⟩
theorem Rn.wp{α:Type}{cmp:Nat->Nat->(Bool->Shared->Prop)->Shared->Prop}{s:Shared}(h: ∀i j C,i<n->j<n->C (lt i j) s->cmp i j C s){Q:α->Prop}{Q':α->Shared->Prop}(hq: ∀a,Q a->Q' a s): ∀{t:KasT α},Rn n lt t Q->t.kasWp cmp Q' s
 | .ret a,q=>hq a q
 | .ask i j k,⟨a,b,q⟩=>h i j _ a b (Rn.wp h hq q)
structure Od(n:Nat)(lt:Nat->Nat->Bool):Prop where
 tr: ∀i j k,lt i j=true->lt j k=true->lt i k=true
 tot: ∀i j,i<n->j<n->i≠j->lt i j=false->lt j i=true
abbrev at_(p:Array Nat)(i:Nat):Nat:=p.getD i 0
structure Gd(n:Nat)(p:Array Nat):Prop where
 perm:p.Perm (aB n).toArray
 size:p.size=n
 lt: ∀i,i<n->at_ p i<n
 inj: ∀i j,i<n->j<n->i≠j->at_ p i≠at_ p j
theorem Gd.of{p:Array Nat}(h:p.Perm (aB n).toArray):Gd n p:=by
 have hs:p.size=n:=by rw[h.size_eq];simp
 have hl:p.toList.Perm (aB n):=h.toList
 have e: ∀i,i<n->at_ p i=p.toList[i]! := λi hi=>by simp[at_,hs,hi]
 have g: ∀i (hi:i<n),at_ p i=p.toList[i]'(by simp[hs,hi]):=λi hi=>by simp[at_,hs,hi]
 refine⟨h,hs,λi hi =>?_,λi j hi hj hne =>?_⟩
 ·rw[g i hi]
  exact aN.mp (hl.mem_iff.mp (bT _))
 ·rw[g i hi,g j hj]
  have nd:p.toList.Nodup:=hl.nodup_iff.mpr uE
  have nd:=gK.mp nd
  rcases Nat.lt_or_gt_of_ne hne with hl |hl
  ·exact nd i j _ _ hl
  ·exact λq=>nd j i _ _ hl q.symm
noncomputable def So(lt:Nat->Nat->Bool)(p:Array Nat)(k:Nat):Prop:= ∀i j,i<j->j<k->lt (at_ p i) (at_ p j)=true
noncomputable def Ds(lt:Nat->Nat->Bool)(p:Array Nat)(k:Nat):Prop:= ∀i j,i<j->j<k->lt (at_ p j) (at_ p i)=true
variable (o:Od n lt)
include o
theorem So.more{p:Array Nat}{k:Nat}(h:So lt p k)(h1:1<=k)(hk:lt (at_ p (k - 1)) (at_ p k)=true):So lt p (k+1):=λi j hi hj=>by
 rcases eY.mp hj with hj |rfl
 ·exact h i j hi hj
 ·by_cases e:i=j - 1
  ·rw[e];exact hk
  ·exact o.tr _ _ _ (h i (j - 1) (by omega) (by omega)) hk
theorem Ds.more{p:Array Nat}{k:Nat}(h:Ds lt p k)(h1:1<=k)(hk:lt (at_ p k) (at_ p (k - 1))=true):Ds lt p (k+1):=λi j hi hj=>by
 rcases eY.mp hj with hj |rfl
 ·exact h i j hi hj
 ·by_cases e:i=j - 1
  ·rw[e];exact hk
  ·exact o.tr _ _ _ hk (h i (j - 1) (by omega) (by omega))
theorem Gd.tot{p:Array Nat}(g:Gd n p){i j:Nat}(hi:i<n)(hj:j<n)(hne:i≠j)(h:lt (at_ p i) (at_ p j)=false):lt (at_ p j) (at_ p i)=true:=o.tot _ _ (g.lt i hi) (g.lt j hj) (g.inj i j hi hj hne) h
theorem CV{p:Array Nat}(g:Gd n p): ∀(f m:Nat),1<=m->m+f<=n->So lt p m->Rn n lt (kas_asc p f m) λr=>m<=r/\r<=m+f/\So lt p r/\(r<m+f->lt (at_ p r) (at_ p (r - 1))=true):=by
 intro f
 induction f with
 | zero=>intro m h1 hm hs;exact⟨ah _,ah _,hs,λz=>absurd z (bF _)⟩
 | succ f ih=>
   intro m h1 hm hs
   refine⟨g.lt m (by omega),g.lt (m - 1) (by omega),?_⟩
   cases hc:lt (at_ p m) (at_ p (m - 1)) with
   | true=>exact⟨ah _,by omega,hs,λ_=>hc⟩
   | false=>
     have h2:=ih (m+1) (by omega) (by omega) (So.more o hs h1 (g.tot o (by omega) (by omega) (by omega) hc))
     exact h2.mono λr ⟨a,b,c,d⟩=>⟨by omega,by omega,c,λz=>d (by omega)⟩
theorem G3{p:Array Nat}(g:Gd n p): ∀(f m:Nat),1<=m->m+f<=n->Ds lt p m->Rn n lt (kas_desc f p m 0) λr=>r.1=p/\r.2.2=0/\m<=r.2.1/\r.2.1<=m+f/\Ds lt p r.2.1:=by
 intro f
 induction f with
 | zero=>intro m h1 hm hs;exact⟨rfl,rfl,ah _,ah _,hs⟩
 | succ f ih=>
   intro m h1 hm hs
   refine⟨g.lt m (by omega),g.lt (m - 1) (by omega),?_⟩
   cases hc:lt (at_ p m) (at_ p (m - 1)) with
   | true=>
     have h2:=ih (m+1) (by omega) (by omega) (Ds.more o hs h1 hc)
     exact h2.mono λr ⟨a,b,c,d,e⟩=>⟨a,b,by omega,by omega,e⟩
   | false=>
     have hd:=g.tot o (by omega) (by omega) (by omega) hc
     refine⟨g.lt (m - 1) (by omega),g.lt m (by omega),?_⟩
     rw[show lt (p.getD (m - 1) 0) (p.getD m 0)=true from hd]
     exact⟨rfl,rfl,ah _,dX _ _,hs⟩
omit o
theorem DK{p:Array Nat}{m k:Nat}(hm:m<=p.size):at_ (kas_rev p 0 m) k=if k<m then at_ p (m - 1 - k) else at_ p k:=by
 have e:=getElem?_mirror_all (xs:=p) (i:=0) (j:=m) hm k
 have q: ∀(a:Array Nat) (i:Nat),at_ a i=(a[i]?).getD 0:=λa i=>by simp[at_]
 unfold kas_rev
 rw[q,e]
 by_cases hk:k<m
 ·rw[if_pos ⟨cn _,hk⟩,if_pos hk,q];congr 2;omega
 ·rw[if_neg (λz=>hk z.2),if_neg hk,q]
theorem Gd.rev{p:Array Nat}(g:Gd n p)(m:Nat):Gd n (kas_rev p 0 m):=Gd.of ((mirror_perm _ _ _ _).trans g.perm)
include o
theorem GI{p:Array Nat}(g:Gd n p){m:Nat}(h1:1<=m)(hm:m<=n)(hd:Ds lt p m):Rn n lt (kas_tail3 m n p) λr=>Gd n r.2/\1<=r.1/\r.1<=n/\So lt r.2 r.1:=by
 have g':=g.rev m
 have hs:So lt (kas_rev p 0 m) m:=λi j hi hj=>by
  rw[DK (by rw[g.size];exact hm),DK (by rw[g.size];exact hm),if_pos (by omega),if_pos hj]
  exact hd _ _ (by omega) (by omega)
 unfold kas_tail3
 exact((CV o g' (n - m) m h1 (by omega) hs).mono λr ⟨a,b,c,_⟩=>(⟨g',by omega,by omega,c⟩:Gd n (kas_rev p 0 m)/\1<=r/\r<=n/\So lt (kas_rev p 0 m) r)).bind
theorem EN{p:Array Nat}(g:Gd n p)(h2:2<=n):Rn n lt (kas_count n p) λr=>Gd n r.2/\1<=r.1/\r.1<=n/\So lt r.2 r.1:=by
 unfold kas_count
 refine Rn.bind ((CV o g (n - 1) 1 (ah _) (by omega) λi j hi hj=>by omega).mono λm ⟨a,b,c,d⟩ =>?_)
 by_cases e:m=n
 ·rw[if_pos (by simp[e])]
  exact⟨g,a,by omega,c⟩
 ·rw[if_neg (by simp[e])]
  by_cases hm:m > 1
  ·rw[if_pos hm]
   refine⟨g.lt 0 (by omega),g.lt (m - 1) (by omega),?_⟩
   rw[show lt (p.getD 0 0) (p.getD (m - 1) 0)=true from c 0 (m - 1) (by omega) (by omega)]
   exact⟨g,a,by omega,c⟩
  ·rw[if_neg hm]
   have e1:m=1:=by omega
   subst e1
   have hd:Ds lt p 2:=λi j hi hj=>by
    have:i=0/\j=1:=by omega
    obtain⟨rfl,rfl⟩:=this
    exact d (by omega)
   unfold kas_descPart
   refine Rn.bind ((G3 o g (n - (1+1)) 2 (by omega) (by omega) hd).mono λr ⟨a,b,c,d,e⟩ =>?_)
   rw[b,if_neg (by omega),a]
   exact GI o g (by omega) (by omega) e
theorem CY{p:Array Nat}(g:Gd n p){k:Nat}(hk:k<n)(hs:So lt p k): ∀(f l r:Nat),l<=r->r<=k->r - l<=f->(∀i,i<l->lt (at_ p i) (at_ p k)=true)->(∀i,r<=i->i<k->lt (at_ p k) (at_ p i)=true) ->
  Rn n lt (kas_place p k f l r) λx=>x<=k/\(∀i,i<x->lt (at_ p i) (at_ p k)=true) /\ ∀i,x<=i->i<k->lt (at_ p k) (at_ p i)=true:=by
 intro f
 induction f with
 | zero=>
   intro l r hl hr hf h1 h2
   have e:l=r:=by omega
   subst e;exact⟨hr,h1,h2⟩
 | succ f ih=>
   intro l r hl hr hf h1 h2
   unfold kas_place
   by_cases hlr:l >= r
   ·rw[if_pos hlr]
    have e:l=r:=by omega
    subst e;exact⟨hr,h1,h2⟩
   ·rw[if_neg hlr]
    refine⟨g.lt k hk,g.lt ((l+r) / 2) (by omega),?_⟩
    cases hc:lt (at_ p k) (at_ p ((l+r) / 2)) with
    | true=>
      refine ih l ((l+r) / 2) (by omega) (by omega) (by omega) h1 λi hi hik =>?_
      by_cases e:i=(l+r) / 2
      ·rw[e];exact hc
      ·exact o.tr _ _ _ hc (hs _ _ (by omega) hik)
    | false=>
      have hd:=g.tot o hk (by omega) (by omega) hc
      refine ih ((l+r) / 2+1) r (by omega) hr (by omega) (λi hi =>?_) h2
      by_cases e:i=(l+r) / 2
      ·rw[e];exact hd
      ·exact o.tr _ _ _ (hs _ _ (by omega) (by omega)) hd
theorem yT: ∀(f k:Nat) {p:Array Nat},Gd n p->1<=k->k+f=n->So lt p k->Rn n lt (kas_bin f p k) λq=>Gd n q/\So lt q n:=by
 intro f
 induction f with
 | zero=>
   intro k p g h1 hk hs
   have e:k=n:=by omega
   subst e;exact⟨g,hs⟩
 | succ f ih=>
   intro k p g h1 hk hs
   unfold kas_bin
   refine Rn.bind ((CY o g (by omega) hs k 0 k (cn _) (ah _) (by omega) (λi hi=>by omega) λi hi hik=>by omega).mono λl ⟨a,b,c⟩ =>?_)
   have at': ∀i,at_ (bubble p k (k - l)) i=if i=l then at_ p k else if l<i/\i<=k then at_ p (i - 1) else at_ p i:=λi=>by
    have e:=getElem?_bubble (xs:=p) (src:=k) (by rw[g.size];omega) (k - l) (by omega) i
    have q: ∀(a:Array Nat) (i:Nat),at_ a i=(a[i]?).getD 0:=λa i=>by simp[at_]
    rw[q,e,show k - (k - l)=l by omega]
    by_cases h1:i=l
    ·rw[if_pos h1,if_pos h1,q]
    ·rw[if_neg h1,if_neg h1]
     by_cases h2:l<i/\i<=k
     ·rw[if_pos h2,if_pos h2,q]
     ·rw[if_neg h2,if_neg h2,q]
   refine ih (k+1) (Gd.of ((bubble_perm _ _ _).trans g.perm)) (by omega) (by omega) λi j hi hj =>?_
   rw[at' i,at' j]
   by_cases i1:i=l
   ·rw[if_pos i1,if_neg (by omega),if_pos (by omega)]
    exact c _ (by omega) (by omega)
   ·rw[if_neg i1]
    by_cases i2:l<i/\i<=k
    ·rw[if_pos i2,if_neg (by omega),if_pos (by omega)]
     exact hs _ _ (by omega) (by omega)
    ·rw[if_neg i2]
     by_cases j1:j=l
     ·rw[if_pos j1];exact b i (by omega)
     ·rw[if_neg j1]
      by_cases j2:l<j/\j<=k
      ·rw[if_pos j2]
       exact hs _ _ (by omega) (by omega)
      ·rw[if_neg j2];exact hs _ _ hi (by omega)
theorem F9(h2:2<=n):Rn n lt (kas_sort n) λq=>Gd n q/\So lt q n:=by
 unfold kas_sort
 refine Rn.bind ((EN o (Gd.of (EZ _)) h2).mono λr ⟨a,b,c,d⟩ =>?_)
 by_cases h:r.1<n
 ·rw[if_pos h,xY b]
  exact yT o _ _ a b (by omega) d
 ·rw[if_neg h]
  have e:r.1=n:=by omega
  rw[e]at d
  exact⟨a,d⟩
end
end GQ
end
section
namespace GQ
open PySem PySem.W PyProof.Rows
open HT (lexLt lexLt_cons)
theorem rX: ∀{a b c:List Int},lexLt a b=true->lexLt b c=true->lexLt a c=true:=by
 intro a
 induction a with
 | nil=>
   intro b c h1 h2
   cases c with
   | cons z c=>rfl
   | nil=>
     cases b with
     | nil=>cases h2
     | cons y b=>cases h2
 | cons x a ih=>
   intro b c h1 h2
   cases b with
   | nil=>cases h1
   | cons y b=>
     cases c with
     | nil=>cases h2
     | cons z c=>
       rw[lexLt_cons]at h1 h2 ⊢
       by_cases e1:x=y
       ·subst e1
        rw[if_pos rfl]at h1
        by_cases e2:x=z
        ·rw[if_pos e2]at h2 ⊢;exact ih h1 h2
        ·rw[if_neg e2]at h2 ⊢;exact h2
       ·rw[if_neg e1,decide_eq_true_eq]at h1
        by_cases e2:y=z
        ·subst e2
         rw[if_neg e1];exact decide_eq_true h1
        ·rw[if_neg e2,decide_eq_true_eq]at h2
         rw[if_neg (by omega)];exact decide_eq_true (by omega)
theorem zt: ∀{a b:List Int},a≠b->lexLt a b=false->lexLt b a=true:=by
 intro a
 induction a with
 | nil=>
   intro b h1 h2
   cases b with
   | nil=>exact absurd rfl h1
   | cons y b=>cases h2
 | cons x a ih=>
   intro b h1 h2
   cases b with
   | nil=>rfl
   | cons y b=>
     rw[lexLt_cons]at h2 ⊢
     by_cases e:x=y
     ·subst e
      rw[if_pos rfl]at h2 ⊢
      exact ih (λz=>h1 (by rw[z])) h2
     ·rw[if_neg e,decide_eq_false_iff_not]at h2
      rw[if_neg (cZ e)];exact decide_eq_true (by omega)
section
variable {prog:Program}{w:World}{A:Around}{E:Value->Shared->Prop}{s:Shared}{Q:Bool->Shared->Prop}
theorem Ot{fin:Bool}: ∀{xs ys:List Value}{as bs:List Int},IntsAre xs as->IntsAre ys bs -> ∀i,fin=decide (xs.length<ys.length)->Q (lexLt as bs) s->KatLex prog w A true fin Q (xs.zip ys) i s:=by
 intro xs ys as bs hx
 induction hx generalizing ys bs with
 | nil=>
   intro hy i hf hq
   cases hy with
   | nil=>rw[hf];exact hq
   | cons b u r=>rw[hf];exact hq
 | cons a t r ih=>
   intro hy i hf hq
   cases hy with
   | nil=>rw[hf];exact hq
   | cons b u r2=>
     refine kat_cons (wpAny_eqBool_int (kat_go (λe=>kat_yes ?_) λe=>kat_no ?_))
     ·refine ih r2 (i+1) (by rw[hf];simp) ?_
      rw[lexLt_cons,if_pos (eq_of_beq e)]at hq
      exact hq
     ·rw[lexLt_cons,if_neg (by simpa using e)]at hq
      cases i with
      | zero=>exact oneLt_int hq
      | succ i=>exact kat_one _ _ (PyProof.Rows.lt_int hq)
noncomputable def yC (h:Heap) (v:Value) (ns:List Int):Prop := ∃ a o xs n,v = .ref a/\h.get? a=some o/\o.cls = .type "tuple"/\o.data = .seq xs n/\IntsAre xs.toList ns
theorem yC.keep {h h':Heap}{v:Value}{ns:List Int} (x:yC h v ns) (k : ∀ b o,o.cls = .type "tuple"->h.get? b=some o->h'.get? b=some o):yC h' v ns:=
 let ⟨a,o,xs,n,e,ho,hc,r⟩:=x;⟨a,o,xs,n,e,k _ _ hc ho,hc,r⟩
theorem ltI{x y:Value}{as bs:List Int}(hx:yC s.heap x as)(hy:yC s.heap y bs)(h:Q (lexLt as bs) s):aH (model prog w) A (keyLt' (tuples' true) x y) Q E s:=by
 obtain⟨a,o,xs,n,rfl,ho,hc,hd,hi⟩:=hx
 obtain⟨b,o2,ys,n2,rfl,ho2,hc2,hd2,hi2⟩:=hy
 exact kat_lt ho hd ho2 hd2 (Ot hi hi2 0 (by simp) h)
inductive Tps(h:Heap):List Value->List (List Int)->Prop where
 | nil:Tps h [] []
 | cons {v:Value}{ns:List Int}{vs:List Value}{L:List (List Int)} (x:yC h v ns) (r:Tps h vs L):Tps h (v::vs) (ns::L)
theorem Tps.len{h:Heap}{vs:List Value}{L:List (List Int)}(t:Tps h vs L):vs.length=L.length:=by
 induction t with
 | nil=>rfl
 | cons x r ih=>rw[bB,bB,ih]
theorem Tps.keep {h h':Heap}{vs:List Value}{L:List (List Int)} (t:Tps h vs L) (k : ∀ b o,o.cls = .type "tuple"->h.get? b=some o->h'.get? b=some o):Tps h' vs L:=by
 induction t with
 | nil=>exact .nil
 | cons x r ih=>exact .cons (x.keep k) ih
theorem Tps.get{h:Heap}{vs:List Value}{L:List (List Int)}(t:Tps h vs L): ∀i,i<L.length->yC h (vs.getD i .none) (L.getD i []):=by
 induction t with
 | nil=>intro i hi;cases hi
 | cons x r ih=>
   intro i hi
   cases i with
   | zero=>exact x
   | succ i=>exact ih i (i0 hi)
theorem Tps.firsts{h:Heap}{vs:List Value}{L:List (List Int)}(t:Tps h vs L)(hn: ∀l∈L,l≠[]): ∃fs,KatTups h vs fs/\fs.length=vs.length /\ ∀v∈fs,∃i u,v=oz i u:=by
 induction t with
 | nil=>exact⟨[],KatTups.nil,rfl,by simp⟩
 | @cons v ns vs L x r ih=>
   obtain⟨fs,h1,h2,h3⟩:=ih λl hl=>hn l (aC _ hl)
   obtain⟨a,o,xs,n,rfl,ho,hc,hd,hi⟩:=x
   have hne:=hn ns (aZ ..)
   obtain⟨xl⟩:=xs
   have hi:IntsAre xl ns:=hi
   cases hi with
   | nil=>exact absurd rfl hne
   | cons i u r'=>exact⟨.int i u::fs,KatTups.cons ho hc hd rfl h1,by rw[bB,bB,h2],λv hv=>by
     rcases aG.mp hv with rfl |hv
     ·exact⟨_,_,rfl⟩
     ·exact h3 v hv⟩
noncomputable def ltL(L:List (List Int))(i j:Nat):Bool:=lexLt (L.getD i []) (L.getD j [])
theorem MV{L:List (List Int)}(hd:L.Nodup):Od L.length (ltL L):=⟨λi j k h1 h2=>rX h1 h2,λi j hi hj hne h=>zt (λq=>by
 have nd:=gK.mp hd
 have e1:L.getD i []=L[i]:=by simp[hi]
 have e2:L.getD j []=L[j]:=by simp[hj]
 rw[e1,e2]at q
 rcases Nat.lt_or_gt_of_ne hne with hl |hl
 ·exact nd i j hi hj hl q
 ·exact nd j i hj hi hl q.symm) h⟩
theorem N1 {a:Addr}{vs:List Value}{L:List (List Int)}{n:Nat}{P:PySem.Fin->Shared->Prop} (ho:s.heap.get? a=some (seqObj "list" vs.toArray n)) (t:Tps s.heap vs L) (hn : ∀ l∈L,l ≠ []) (hd:L.Nodup) (h64:vs.length < 64)
  (h: ∀p:Array Nat,p.Perm (aB L.length).toArray->(∀i j,i<j->j<L.length->ltL L (at_ p i) (at_ p j)=true)->P (.done (.ret .none)) { s with heap:=sortedHeap s.heap a vs (sx (p.toList.map λi=>vs.getD i dh)) }):
  aH (model prog w) A (Builtin.«list.sort» ⟨[.ref a],[]⟩) P E s:=by
 rw[list_sort_plain]
 have ha:a<s.heap.objs.size:=ax ho
 have tl:=t.len
 refine ab (listItems_at ho rfl ?_);refine ab (listUpdate_at ho rfl ?_)
 obtain⟨e1,ho1⟩ : ∃ e1,(s.heap.update a (cg fun _ => #[])).get? a=some (seqObj "list" #[] e1):=⟨_,get?_update_seq ho (fun _ => #[])⟩
 refine ab (seqEpoch_at ho1 rfl ?_);refine ab (E1 ?_);refine ab (uF ?_);refine eh ?_
 have kp : ∀ b o,b≠a->s.heap.get? b=some o->(((s.heap.update a (cg fun _ => #[])).push (seqObj "tuple" vs.toArray 0)).push (seqObj "list" #[] 0)).get? b=some o:=fun b o hb e=>af _ (af _ ((dr _ _ (cZ hb)).trans e))
 have ho6:(((s.heap.update a (cg fun _ => #[])).push (seqObj "tuple" vs.toArray 0)).push (seqObj "list" #[] 0)).get? a=some (seqObj "list" #[] e1):=af _ (af _ ho1)
 have t6:=t.keep (h':=((s.heap.update a (cg fun _ => #[])).push (seqObj "tuple" vs.toArray 0)).push (seqObj "list" #[] 0)) fun b o hc e=>kp b o (fun z=>by
  rw[z,ho]at e;cases e
  have q:hX "list"=hX "tuple":=hc
  injection q with q
  exact absurd q (by decide)) e
 show aH (model prog w) A _ P E { s with heap:=((s.heap.update a (cg fun _ => #[])).push (seqObj "tuple" vs.toArray 0)).push (seqObj "list" #[] 0) }
 dsimp only
 have hsz:vs.toArray.size=vs.length:=by simp
 by_cases h2:vs.toArray.size<2
 ·rw[if_pos h2,if_pos h2]
  refine ab (ar ?_);rw[StateT.run_pure];refine ab (ar ?_);dsimp only;refine ab (seqEpoch_at ho6 rfl ?_)
  refine ab (listUpdate_at ho6 rfl ?_ (hsz2:=by rw[Array.size_map];show(pairsOf vs).size<=_;rw[pairsOf_size,sizeLine_eq];omega))
  simp only[bne_self_eq_false,fw,if_false]
  have q:=h (aB L.length).toArray (EZ _) λi j hi hj=>by omega
  have e:(arrOf (SortSt.mk' general' (vs.toArray.zip vs.toArray) #[] 7 none)).map (·.2)=sx ((aB L.length).toArray.toList.map λi=>vs.getD i dh):=by
   have e1:(vs.toArray.zip vs.toArray).map (·.2)=vs.toArray:=by
    apply Array.toList_inj.mp
    rw[Array.toList_map,Array.toList_zip]
    exact List.map_snd_zip (ah _)
   show(vs.toArray.zip vs.toArray).map (·.2)=_
   rw[e1]
   congr 1
   refine lT (by simp[tl]) λi h1 h2 =>?_
   simp[h1]
  rw[e]
  exact ar q
 ·rw[if_neg h2,if_neg h2]
  obtain⟨fs,f1,f2,f3⟩:=t6.firsts hn
  refine ab (kat_kind (T := .type "int") f1 (by omega) (fun v hv => ?_) rfl ?_)
  ·obtain⟨i,u,rfl⟩:=f3 v hv
   exact Looks.now
  ·have run:=(F9 (MV hd) (by omega)).wp (s:={ s with heap:=((s.heap.update a (cg fun _ => #[])).push (seqObj "tuple" vs.toArray 0)).push (seqObj "list" #[] 0) }) (cmp:=kas_ask prog w A (tuples' true) vs) (fun i j C hi hj hC=>ltI (t6.get i hi) (t6.get j hj) hC) (Q':=fun p s'=>s'={ s with heap:=((s.heap.update a (cg fun _ => #[])).push (seqObj "tuple" vs.toArray 0)).push (seqObj "list" #[] 0) }/\Gd L.length p/\So (ltL L) p L.length) (fun p hp=>⟨rfl,hp⟩)
   rw[<- tl]at run
   rw [show (hX "int" != hX "tuple")=true by decide]
   refine ab (dc (kat_run (Q:=fun st' s' => ∃ p:Array Nat,arrOf st'=p.map (kas_item (vs.toArray.zip vs.toArray))/\p.size=vs.length/\failedOf st'=none/\s'={ s with heap:=((s.heap.update a (cg fun _ => #[])).push (seqObj "tuple" vs.toArray 0)).push (seqObj "list" #[] 0) }/\Gd vs.length p/\So (ltL L) p vs.length) rfl (by omega) h64 (fun p' st' s' a1 a2 a3 a4=>⟨p',a2,a1,a3,a4⟩) run) ?_ fun _ _ e=>e)
   rintro ⟨⟨⟩,st'⟩ s' ⟨p,har,hp,hf,rfl,g,so⟩
   dsimp only
   have hout:=kat_snds (vs:=vs) rfl har
   rw[hout]
   refine ab (seqEpoch_at ho6 rfl ?_)
   refine ab (listUpdate_at ho6 rfl ?_ (hsz2:=by rw[aA,aq,ej,hp,sizeLine_eq];omega))
   rw[hf]
   simp only[bne_self_eq_false,fw,if_false]
   rw[tl]at g so
   exact ar (h p g.perm so)
end
end GQ
end
section
namespace PySem
namespace GR
noncomputable def yx (h:Heap) (a t:Addr) (i:Int):Prop := ∃ o,h.get? a=some o/\o.cls = .type "reversed"/\o.data = .fields #[.ref t,rawInt i]
theorem yx.at{h h':Heap}{a t:Addr}{i:Int}(x:yx h a t i)(e: ∀o,h.get? a=some o->h'.get? a=some o):yx h' a t i:=let ⟨o,ho,r⟩:=x;⟨o,e _ ho,r⟩
open PyProof.Rows in
section
variable {prog:Program}{w:World}{A:Around}{E:Value->Shared->Prop}{s:Shared}
open PyProof.Rows
end
end GR
end PySem
namespace _L
open PySem PySem.Spec PyProof.Rows
section
variable {X:Cx}{tg:Expr}
end
end _L
end
section
namespace PySem
namespace GE
open AutoSeq1 (wpAny_loadPart')
theorem yj (l:Addr) (items:Array Value) (n:Nat) (dct:Option Addr) (sl:Array (Option Value)):Meets (Builtin.«enumerate.__new__» ⟨[.type "enumerate",.ref l],[]⟩) (fun _ R s=>s.heap.get? l=some { cls := .type "tuple",dict:=dct,data := .seq items n,slots:=sl } /\
   R (.ok (.ret (.ref (s.heap.push { cls := .type "tuple_iterator",data := .fields #[.ref l,.int 0 0] }).objs.size))) { s with heap:=(s.heap.push { cls := .type "tuple_iterator",data := .fields #[.ref l,.int 0 0] }).push { cls := .type "enumerate",data := .fields #[.none,.bool false,.ref s.heap.objs.size,rawInt 0,.none,.none] } }):=
 .of_wp λprog w A R s h=>by
  obtain⟨hp,g,d,tk,os⟩:=s;obtain⟨hl,h⟩:=h;have hsub:=sub_enumerate;have hT:Heap.IsTuple (BW ⟨hp,g,d,tk,os⟩) l items:=⟨_,hl,rfl,n,rfl⟩
  wp_walk using dR hl
  refine wpAny_stack_any λst=>ar ?_;split
  ·rename_i c _ _ _ _ _
   cases (c == hX "enumerate") <;> (wp_walk using dR hl,lG hT;exact⟨_,rfl,h⟩)
  ·wp_walk using dR hl,lG hT;exact⟨_,rfl,h⟩
section
variable {prog:Program}{w:World}{A:Around}{E:Value->Shared->Prop}{s:Shared}
theorem yw{l:Addr}{items:Array Value}{Q:Value->Shared->Prop}(hT:s.heap.IsTuple l items)
  (h : ∀ h',IsEnum h' (s.heap.objs.size+1) s.heap.objs.size 0 .none->h'.IsTupleIter s.heap.objs.size l 0->h'.objs.size=s.heap.objs.size+2->(∀ b o,s.heap.get? b=some o->h'.get? b=some o)->Q (.ref (s.heap.objs.size+1)) { s with heap:=h' }):aH (model prog w) A (call (.type "enumerate") [.ref l]) Q E s:=by
 obtain⟨⟨c,dct,dt,sl⟩,hl,hc,n,hd⟩:=hT;replace hc:c = .type "tuple":=hc;replace hd:dt = .seq items n:=hd;subst hc hd
 refine callType_new F.called_enumerate (by decide) (F.typeCall_enumerate_1 _) (F.newCall_enumerate_1 _) (λobj=>F.args_object_init_2 obj _) F.entry_enumerate_new (yj l items n dct sl) ⟨hl,?_⟩
 have hz:(s.heap.push { cls := .type "tuple_iterator",data := .fields #[.ref l,.int 0 0] }).objs.size=s.heap.objs.size+1:=ba ..;show _/\_;rw [hz]
 have he:IsEnum ((s.heap.push { cls := .type "tuple_iterator",data := .fields #[.ref l,.int 0 0] }).push { cls := .type "enumerate",data := .fields #[.none,.bool false,.ref s.heap.objs.size,rawInt 0,.none,.none] }) (s.heap.objs.size+1) s.heap.objs.size 0 .none:=by
  have:=aw (s.heap.push { cls := .type "tuple_iterator",data := .fields #[.ref l,.int 0 0] }) (o:={ cls := .type "enumerate",data := .fields #[.none,.bool false,.ref s.heap.objs.size,rawInt 0,.none,.none] }) rfl;rw [hz] at this;exact this
 refine⟨⟨_,he,rfl⟩,h _ he ⟨_,af _ (aw _ rfl),rfl,rfl⟩ (by rw[ba,hz]) λb o x=>af _ (af _ x)⟩
theorem pK{it t:Addr}{i:Nat}{items:Array Value}{x:Value}{Q:Value->Shared->Prop}(hit:s.heap.IsTupleIter it t i)(ht:s.heap.IsTuple t items)(hx:items[i]? = some x)
  (hQ: ∀h',h'.IsTupleIter it t (i+1)->eR it s.heap h'->Q x { s with heap:=h' }):aH (model prog w) A (cj (.ref it)) Q E s:=by
 obtain⟨o,ho,hc,hd⟩:=id hit;obtain⟨ol,hol,_,nl,hdl⟩:=ht;unfold cj
 refine ab (cz (name:=fH "__next__") hit.typeIs gL (cY gL hit.typeIs Am ?_ (zf _)))
 show aH _ _ (field (.ref it) 0 >>= _) _ _ s;refine ab (bS ho hd (x:= .ref t) rfl ?_);show aH _ _ (if (bj t==dh)=true then _ else _) _ _ s;rw[if_neg (show ¬((bj t==dh)=true) from bM)]
 show aH _ _ (field (.ref it) 1 >>= _) _ _ s;refine ab (bS ho hd (x:= .int i 0) rfl ?_);show aH _ _ (seqItems? (.ref t) >>= _) _ _ s;refine ab (fI hol hdl ?_);simp only[kI,hx]
 refine ab (wpAny_setField ho hd (by simp) (ar ⟨x,rfl,ar (hQ _ ?_ (xZ ..))⟩));exact⟨_,fU _ ho (Obj.isFreed_of_fields (Obj.data_mapFields hd _)),(Obj.cls_mapFields ..).trans hc,by rw[Obj.data_mapFields hd];simp[rawInt]⟩
theorem rD{it t:Addr}{i:Nat}{items:Array Value}{Q:Value->Shared->Prop}(hh:A.handled=none)(hit:s.heap.IsTupleIter it t i)(ht:s.heap.IsTuple t items)(hx:items[i]? = none)
  (hE : ∀ h' e,E9 it s.heap h'->(∃ o,h'.get? e=some o/\o.cls = .type "StopIteration")->E (.ref e) { s with heap:=h' }):aH (model prog w) A (cj (.ref it)) Q E s:=by
 obtain⟨o,ho,hc,hd⟩:=id hit;obtain⟨ol,hol,_,nl,hdl⟩:=ht;unfold cj
 refine ab (cz (name:=fH "__next__") hit.typeIs gL (cY gL hit.typeIs Am ?_ (zf _)))
 show aH _ _ (field (.ref it) 0 >>= _) _ _ s;refine ab (bS ho hd (x:= .ref t) rfl ?_);show aH _ _ (if (bj t==dh)=true then _ else _) _ _ s;rw[if_neg (show ¬((bj t==dh)=true) from bM)]
 show aH _ _ (field (.ref it) 1 >>= _) _ _ s;refine ab (bS ho hd (x:= .int i 0) rfl ?_);show aH _ _ (seqItems? (.ref t) >>= _) _ _ s;refine ab (fI hol hdl ?_);simp only[kI,hx]
 refine ab (pB (ab (wpAny_setField ho hd (by simp) ?_)));show aH _ _ (newExc (.type "StopIteration") [] >>= _) _ _ _;refine ab ?_;simp only [newExc,newTuple];refine ab (bP ?_ (by size_fits))
 refine ab (m:=firstArgMember _ _) (wpAny_of_eq (a:=dh) (by first |rfl | (simp only[firstArgMember];rfl)) ?_);refine bP ?_ (by size_fits);simp only[raiseNew];refine ab (wpAny_handled ?_)
 (first |rw[show A.in1.handled=none from hh] |rw[hh]);refine ab (ar (wpAny_throw ?_));exact hE _ _ (((xZ ..).extBut.push _).push _) ⟨_,aw _ rfl,rfl⟩
theorem y4{e it l:Addr}{i:Nat}{items:Array Value}{x old:Value}{Q:Value->Shared->Prop}(he:IsEnum s.heap e it i old)(hit:s.heap.IsTupleIter it l i)(hl:s.heap.IsTuple l items)(hx:items[i]? = some x)(hne:e≠it)
  (hQ : ∀ h',IsEnumOut h' e it ((i:Int)+1) x s.heap.objs.size->h'.IsTupleIter it l (i+1)->h'.get? s.heap.objs.size=some { cls := .type "tuple",data := .seq #[.int i s.toks,x] }->h'.objs.size=s.heap.objs.size+1 ->
   (∀b o,b≠e->b≠it->s.heap.get? b=some o->h'.get? b=some o)->Q (.ref s.heap.objs.size) { s with heap:=h',toks:=s.toks+1 }):aH (model prog w) A (Builtin.«enumerate.__next__» ⟨[.ref e],[]⟩) (λfin s' =>∃v,fin = .done (.ret v)/\Q v s') E s:=by
 obtain⟨hp,g,d,tk,os⟩:=s;show aH _ _ (field (.ref e) 2 >>= _) _ _ _;refine ab (bS he rfl (x:= .ref it) rfl ?_);refine ab (pK hit hl hx λh₁ hit₁ hs₁ =>?_)
 replace hs₁:eR it hp h₁:=hs₁;have he₁:IsEnum h₁ e it i old:=(hs₁.2 e hne).trans he;show aH _ _ (field (.ref e) 3 >>= _) _ _ ⟨h₁,g,d,tk,os⟩;refine ab (bS he₁ rfl (x:=rawInt i) rfl ?_)
 show aH _ _ (field (.ref e) 4 >>= _) _ _ ⟨h₁,g,d,tk,os⟩;refine ab (bS he₁ rfl (x:= .none) rfl ?_);show aH _ _ (mkInt i >>= _) _ _ ⟨h₁,g,d,tk,os⟩;refine ab (wpAny_mkInt ?_)
 show aH _ _ (setField (.ref e) 3 (rawInt ((i:Int)+1)) >>= _) _ _ ⟨h₁,g,d,tk+1,os⟩;refine ab (cQ he₁ (by simp) λh₂ he₂ hs₂ =>?_);replace hs₂:eR e h₁ h₂:=hs₂;replace he₂:IsEnum h₂ e it ((i:Int)+1) old:=he₂
 show aH _ _ (setField (.ref e) 4 .none >>= _) _ _ ⟨h₂,g,d,tk+1,os⟩;refine ab (cQ he₂ (by simp) λh₃ he₃ hs₃ =>?_);replace hs₃:eR e h₂ h₃:=hs₃;replace he₃:IsEnum h₃ e it ((i:Int)+1) old:=he₃
 show aH _ _ (newTuple [.int i tk,x] >>= _) _ _ ⟨h₃,g,d,tk+1,os⟩;refine ab (E1 ?_);have he₄:IsEnum (h₃.push { cls := .type "tuple",data := .seq #[.int i tk,x] }) e it ((i:Int)+1) old:=af _ he₃
 generalize hh₄:h₃.push { cls := .type "tuple",data := .seq #[.int i tk,x] }=h₄ at he₄;have hsz:h₃.objs.size=hp.objs.size:=by rw [hs₃.1,hs₂.1,hs₁.1]
 have hel:e < hp.objs.size:=ax he;have ht₄:h₄.get? hp.objs.size=some { cls := .type "tuple",data := .seq #[.int i tk,x] }:=by rw [<- hh₄,<- hsz];exact aw _ rfl
 have hz₄:h₄.objs.size=hp.objs.size+1:=by rw[<- hh₄,ba,hsz]
 have hk₄: ∀b o,b≠e->b≠it->hp.get? b=some o->h₄.get? b=some o:=λb o hbe hbi hb=>by rw[<- hh₄];exact af _ (hs₃.extBut b o hbe (hs₂.extBut b o hbe (hs₁.extBut b o hbi hb)))
 have hit₄:h₄.IsTupleIter it l (i+1):=by rw[<- hh₄];obtain⟨o,ho,r⟩:=(hit₁.extBut hs₂.extBut (cZ hne)).extBut hs₃.extBut (cZ hne);exact⟨o,af _ ho,r⟩
 show aH _ _ (b9 (.ref e) >>= _) _ _ ⟨h₄,g,d,tk+1,os⟩;rw[hsz];clear hh₄ he₃ hs₃ he₂ hs₂ he₁ hs₁ hit₁ hsz h₃ h₂ h₁
 refine ab ?_;unfold b9;refine ab (bS he₄ rfl (x:= .none) rfl (ar ?_));simp only[if_true];refine ab (pB ?_);refine ab (bS he₄ rfl (x:=old) rfl ?_)
 refine ab (cQ he₄ (by simp) λh₅ he₅ hs₅ =>?_);replace hs₅:eR e h₄ h₅:=hs₅;replace he₅:IsEnum h₅ e it ((i:Int)+1) x:=he₅;show aH _ _ (dO (.ref e) (.ref hp.objs.size) >>= _) _ _ ⟨h₅,g,d,tk+1,os⟩
 refine ab ?_;unfold dO;refine ab (cQ he₅ (by simp) λh₆ he₆ hs₆ =>?_);replace hs₆:eR e h₅ h₆:=hs₆;replace he₆:IsEnumOut h₆ e it ((i:Int)+1) x hp.objs.size:=he₆
 refine cQ he₆ (by simp) λh₇ he₇ hs₇ =>?_;replace hs₇:eR e h₆ h₇:=hs₇;replace he₇:IsEnumOut h₇ e it ((i:Int)+1) x hp.objs.size:=he₇;refine ab (An (ar ⟨_,rfl,hQ h₇ he₇ ?_ ?_ ?_ ?_⟩))
 ·exact((hit₄.extBut hs₅.extBut (cZ hne)).extBut hs₆.extBut (cZ hne)).extBut hs₇.extBut (cZ hne)
 ·exact hs₇.extBut _ _ (b0 hel) (hs₆.extBut _ _ (b0 hel) (hs₅.extBut _ _ (b0 hel) ht₄))
 ·rw[hs₇.1,hs₆.1,hs₅.1,hz₄]
 ·exact λb o hbe hbi hb=>hs₇.extBut b o hbe (hs₆.extBut b o hbe (hs₅.extBut b o hbe (hk₄ b o hbe hbi hb)))
theorem next_item{e it l:Addr}{i:Nat}{items:Array Value}{x old:Value}{Q:Option Value->Shared->Prop}(he:IsEnum s.heap e it i old)(hit:s.heap.IsTupleIter it l i)(hl:s.heap.IsTuple l items)(hx:items[i]? = some x)(hne:e≠it)
  (hQ : ∀ h',IsEnumOut h' e it ((i:Int)+1) x s.heap.objs.size->h'.IsTupleIter it l (i+1)->h'.get? s.heap.objs.size=some { cls := .type "tuple",data := .seq #[.int i s.toks,x] }->h'.objs.size=s.heap.objs.size+1 ->
   (∀b o,b≠e->b≠it->s.heap.get? b=some o->h'.get? b=some o)->Q (some (.ref s.heap.objs.size)) { s with heap:=h',toks:=s.toks+1 }):aH (model prog w) A (pyNext (.ref e)) Q E s:=by
 have hT:s.TypeIs (.ref e) "enumerate":=⟨_,he,rfl⟩;unfold pyNext
 exact ab (uG (cz (name:=fH "__next__") hT jr (cY jr hT F.entry_enumerate_next (y4 he hit hl hx hne fun h' a b c d k=>ar (hQ h' a b c d k)) (Fb _))))
theorem next_end{e it l:Addr}{i:Nat}{items:Array Value}{old:Value}{Q:Option Value->Shared->Prop}(hh:A.handled=none)(he:IsEnum s.heap e it i old)(hit:s.heap.IsTupleIter it l i)(hl:s.heap.IsTuple l items)(hx:items[i]? = none)
  (hQ: ∀h',E9 it s.heap h'->Q none { s with heap:=h' }):aH (model prog w) A (pyNext (.ref e)) Q E s:=by
 have hT:s.TypeIs (.ref e) "enumerate":=⟨_,he,rfl⟩;unfold pyNext
 refine ab (uG (cz (name:=fH "__next__") hT jr (cY jr hT F.entry_enumerate_next ?_ (Fb _))))
 show aH _ _ (field (.ref e) 2 >>= _) _ _ _;refine ab (bS he rfl (x:= .ref it) rfl ?_);refine ab (rD hh hit hl hx λh' x he' hx' =>?_);obtain⟨o,ho,hc⟩:=hx'
 refine ab (zg (T:="StopIteration") (b:=true) ⟨o,ho,hc⟩ isSubtype_stop ?_);exact ar (hQ _ he')
end
end GE
end PySem
namespace _L
open PySem PySem.Spec PyProof.Rows
theorem Inv.turnNew{X:Cx}{pins:List (Addr×Obj)}{σ:St}{H:Hp}{s:Shared}{h':Heap}{t':Nat}{fp:List Addr}{T:Addr}{o:HO}(I:Inv X pins σ H s)(hf: ∀b∈fp,qX X pins H b)(k: ∀b u,b∉fp->s.heap.get? b=some u->h'.get? b=some u)
  (hT:s.heap.objs.size<=T) (new:d9 X.prog X.w (upd H T o) h' T o):Inv X pins σ (upd H T o) { s with heap:=h',toks:=t' }:=by
 have hn:H T=none:=I.hok.fresh hT
 have neT: ∀b u,s.heap.get? b=some u->b≠T:=λb u e z=>absurd (ao (ax e) (by rw[z];exact hT)) (bF _)
 have nfp: ∀b u,H b=some u->b∉fp:=λb u e z=>by rw[(hf b z).1]at e;cases e
 refine I.step (g':=s.gens) (d':=s.drawn) (ch:=fp) (λb hb=>⟨(hf b hb).2.2.2.1,(hf b hb).2.1,(hf b hb).2.2.2.2.1,(hf b hb).2.2.2.2.2⟩) (λb o _ _ hc e _=>k b o hc e) (λb o _ _ hc e _=>⟨o.slots,k b o hc e⟩)
  (λb o _ e n=>by rw[bw (neT b o e)];exact n) (λb o hc e=>⟨o,k b o hc e⟩) (λb xs e=>by rw[bw (bx e hn)];exact e) (λb o u e=>by rw[bw (bx e hn)];exact e) (λb ps e=>⟨#[],by rw[bw (bx e hn),e];simp⟩) (λm hm =>?_) (λb u e =>?_) I.bare
 ·obtain⟨o,es,ep,ho,r⟩:=hm
  exact⟨o,es,ep,k _ o (λz=>(hf _ z).2.1 rfl) ho,r⟩
 ·by_cases hb:b=T
  ·subst hb;rw[cw]at e;cases e;exact new
  ·rw[bw hb]at e
   refine(I.hok b u e).stay (λc v hc q=>k c v ?_ q) (λc q=>by rw[bw (bx q hn)];exact q) λc xs q=>by rw[bw (bx q hn)];exact q
   rcases hc with z |z
   ·rw[z];exact nfp b u e
   ·exact nfp c _ z
noncomputable def Ite(K:aj)(a:Addr):It:=
 ⟨λi H =>∃xs x,SqT K H a xs/\xs[i]? = some x,λi H x H' =>∃T u,(∀xs,SqT K H a xs->xs[i]? = some u)/\H T=none/\x = .ref T/\H'=upd H T (.tup [.int i,u]),λi H =>∃xs,SqT K H a xs/\xs.length<=i⟩
theorem AL{P:Program}{w:World}{K:aj}{ts:List Expr}{kt:Nat}{pt:Pos}(a e it:Addr)(hne:e≠it):Turn P w K (.Tuple ts kt pt) (Ite K a) [e,it] e (λi h=>(∃old,IsEnum h e it (i:Nat) old)/\h.IsTupleIter it a i) where
 mem:=by simp
 obj:=λi h st b hb=>by
  obtain⟨⟨old,he⟩,o,ho,c,d⟩:=st
  rcases aG.mp hb with z |z
  ·subst z;exact⟨_,he,λv y=>by have y':vU _=pz v:=y;cases y'⟩
  ·have z:b=it:=by simpa using z
   subst z;exact⟨o,ho,λv y=>by rw[d]at y;cases y⟩
 keep:=λi h h' st k=>by
  obtain⟨⟨old,he⟩,o,ho,r⟩:=st
  exact⟨⟨old,k e (by simp) _ he⟩,o,k it (by simp) _ ho,r⟩
 item:=by
  intro X hP hw hK hc i pins s σ H E I hf st hg
  subst hP hw hK
  obtain⟨xs,x,hq,hx⟩:=hg
  obtain⟨its,rv,p,hz⟩:=I.tuple hq
  obtain⟨u,hu,ru⟩:=rv.get hx
  obtain⟨⟨old,he⟩,hit⟩:=st
  have hel:=ax he
  have hil:it<s.heap.objs.size:=by obtain⟨o,ho,_⟩:=hit;exact ax ho
  refine GE.next_item he hit (show s.heap.IsTuple a its.toArray from p) (x:=u) (by simpa using hu) hne λh' ho hit' hT hsz hk =>?_
  refine⟨_,rfl,E2 (s:={ s with heap:=h',toks:=s.toks+1 }) ho λh2 he2 hs2 =>?_⟩
  have hT2:h2.get? s.heap.objs.size=some { cls := .type "tuple",data := .seq #[.int i s.toks,u] }:=(hs2.2 _ (b0 hel)).trans hT
  have k: ∀b o,b ∉ [e,it]->s.heap.get? b=some o->h2.get? b=some o:=λb o hb eo=>by
   have hb1:b≠e:=λz=>hb (by simp[z])
   have hb2:b≠it:=λz=>hb (by simp[z])
   exact(hs2.2 b hb1).trans (hk b o hb1 hb2 eo)
  have new:d9 X.prog X.w (upd H s.heap.objs.size (.tup [.int i,x])) h2 s.heap.objs.size (.tup [.int i,x]):=⟨by rw[sizeLine_eq];show 2<=16777216;decide,[.int i s.toks,u],.cons ⟨s.toks,rfl⟩ (.cons ru .nil),⟨_,hT2,rfl,_,rfl⟩,_,hT2,rfl⟩
  have it2:h2.IsTupleIter it a (i+1):=hit'.extBut hs2.extBut (cZ hne)
  exact⟨.ref s.heap.objs.size,_,I.turnNew (t':=s.toks+1) hf k (ah _) new,rfl,⟨_,x,λys hy=>by rw[I.tuple_inj hy hq];exact hx,I.hok.fresh (ah _),rfl,rfl⟩,⟨⟨u,by simpa using he2⟩,it2⟩,λb hb=>by
   have hb0:=(hf b hb).1
   rw[bw (λz =>?_)]
   ·exact hb0
   ·rcases aG.mp hb with y |y
    ·exact absurd (y.symm.trans z) (aQ hel)
    ·have y:b=it:=by simpa using y
     exact absurd (y.symm.trans z) (aQ hil)⟩
 done:=by
  intro X hP hw hK hc i pins s σ H E I hf st hg
  subst hP hw hK
  obtain⟨xs,hq,hx⟩:=hg
  obtain⟨its,rv,p,hz⟩:=I.tuple hq
  obtain⟨⟨old,he⟩,hit⟩:=st
  obtain⟨f0,f1,f2,f3,f4,f5⟩:=hf it (by simp)
  have hl:=rv.length
  exact GE.next_end (I.ok.hd hc) he hit (show s.heap.IsTuple a its.toArray from p) (by simp;omega) λh' eb=>⟨rfl,I.turned (t':=s.toks) (λb o hb e=>eb b o hb e) f0 f1 f3 f4 f5⟩
 self:=λ_ _ _ _ _ st h=>by
  obtain⟨⟨old,he⟩,_⟩:=st
  exact mI he h
noncomputable def GD(K:aj)(a:Addr):It:=
 ⟨λi H =>∃xs x,SqL K H a xs/\xs[i]? = some x,λi H x H' =>∃T u,(∀xs,SqL K H a xs->xs[i]? = some u)/\H T=none/\x = .ref T/\H'=upd H T (.tup [.int i,u]),λi H =>∃xs,SqL K H a xs/\xs.length<=i⟩
theorem yZ{P:Program}{w:World}{K:aj}{ts:List Expr}{kt:Nat}{pt:Pos}(a e it:Addr)(hne:e≠it):Turn P w K (.Tuple ts kt pt) (GD K a) [e,it] e (λi h=>(∃old,IsEnum h e it (i:Nat) old)/\h.IsListIter it a i) where
 mem:=by simp
 obj:=λi h st b hb=>by
  obtain⟨⟨old,he⟩,o,ho,c,d⟩:=st
  rcases aG.mp hb with z |z
  ·subst z;exact⟨_,he,λv y=>by have y':vU _=pz v:=y;cases y'⟩
  ·have z:b=it:=by simpa using z
   subst z;exact⟨o,ho,λv y=>by rw[d]at y;cases y⟩
 keep:=λi h h' st k=>by
  obtain⟨⟨old,he⟩,o,ho,r⟩:=st
  exact⟨⟨old,k e (by simp) _ he⟩,o,k it (by simp) _ ho,r⟩
 item:=by
  intro X hP hw hK hc i pins s σ H E I hf st hg
  subst hP hw hK
  obtain⟨xs,x,hq,hx⟩:=hg
  obtain⟨its,rv,p,hz⟩:=I.list hq
  obtain⟨u,hu,ru⟩:=rv.get hx
  obtain⟨⟨old,he⟩,hit⟩:=st
  have hel:=ax he
  have hil:it<s.heap.objs.size:=by obtain⟨o,ho,_⟩:=hit;exact ax ho
  refine wpAny_pyNext_enum_item he hit p.isList (x:=u) (by simpa using hu) hne λh' ho hit' hT hsz hk =>?_
  refine⟨_,rfl,E2 (s:={ s with heap:=h',toks:=s.toks+1 }) ho λh2 he2 hs2 =>?_⟩
  have hT2:h2.get? s.heap.objs.size=some { cls := .type "tuple",data := .seq #[.int i s.toks,u] }:=(hs2.2 _ (b0 hel)).trans hT
  have k: ∀b o,b ∉ [e,it]->s.heap.get? b=some o->h2.get? b=some o:=λb o hb eo=>by
   have hb1:b≠e:=λz=>hb (by simp[z])
   have hb2:b≠it:=λz=>hb (by simp[z])
   exact(hs2.2 b hb1).trans (hk b o hb1 hb2 eo)
  have new:d9 X.prog X.w (upd H s.heap.objs.size (.tup [.int i,x])) h2 s.heap.objs.size (.tup [.int i,x]):=⟨by rw[sizeLine_eq];show 2<=16777216;decide,[.int i s.toks,u],.cons ⟨s.toks,rfl⟩ (.cons ru .nil),⟨_,hT2,rfl,_,rfl⟩,_,hT2,rfl⟩
  have it2:h2.IsListIter it a (i+1):=hit'.extBut hs2.extBut (cZ hne)
  exact⟨.ref s.heap.objs.size,_,I.turnNew (t':=s.toks+1) hf k (ah _) new,rfl,⟨_,x,λys hy=>by rw[I.list_inj hy hq];exact hx,I.hok.fresh (ah _),rfl,rfl⟩,⟨⟨u,by simpa using he2⟩,it2⟩,λb hb=>by
   have hb0:=(hf b hb).1
   rw[bw (λz =>?_)]
   ·exact hb0
   ·rcases aG.mp hb with y |y
    ·exact absurd (y.symm.trans z) (aQ hel)
    ·have y:b=it:=by simpa using y
     exact absurd (y.symm.trans z) (aQ hil)⟩
 done:=by
  intro X hP hw hK hc i pins s σ H E I hf st hg
  subst hP hw hK
  obtain⟨xs,hq,hx⟩:=hg
  obtain⟨its,rv,p,hz⟩:=I.list hq
  obtain⟨⟨old,he⟩,hit⟩:=st
  obtain⟨f0,f1,f2,f3,f4,f5⟩:=hf it (by simp)
  have hl:=rv.length
  exact wpAny_pyNext_enum_end (I.ok.hd hc) he hit p.isList (by simp;omega) λh' eb=>⟨rfl,I.turned (t':=s.toks) (λb o hb e=>eb b o hb e) f0 f1 f3 f4 f5⟩
 self:=λ_ _ _ _ _ st h=>by
  obtain⟨⟨old,he⟩,_⟩:=st
  exact mI he h
section
variable {X:Cx}
noncomputable def vf(K:aj)(ta:TA):TI:=λσ H R=>ta σ H λvs H1=>(∃a xs,vs = [.ref a]/\SqT K H1 a xs/\R (Ite K a) H1) \/ ∃a xs,vs = [.ref a]/\SqL K H1 a xs/\R (GD K a) H1
theorem Gg {a:Expr}{ta:TA}{p pos:Pos}{ts:List Expr}{kt:Nat}{pt:Pos} (hg:Gl X "enumerate") (hm:X.mg "enumerate"=none) (ha:PA X [a] ta) (hs:autoParam (starEach [a] X.env = [(false,eval a X.env)]) au1._auto_1):PI X (.Tuple ts kt pt) (.Call (.Name "enumerate" p) [a] [] pos) (vf X.K ta):=by
 intro pins s σ H R I h
 refine Call_ (kn I hg hm boot_enumerate (cK (thn (ha pos pins s σ H _ I h) λus s1 ⟨vs,H1,I1,r1,q1⟩ =>?_) hs rfl))
 rcases q1 with q1 |q1
 ·obtain⟨b,xs,e,hq,q⟩:=q1
  subst e
  cases r1 with
  | cons r rr=>
    cases rr
    cases r
    obtain⟨its,rv,pt,hz⟩:=I1.tuple hq
    refine GE.yw (show s1.heap.IsTuple b its.toArray from pt) λh' he hit hsz hk =>?_
    have I2:Inv X pins σ H1 { s1 with heap:=h',toks:=s1.toks }:=I1.kept hk
    refine mI (s:={ s1 with heap:=h' }) he ?_
    refine⟨s1.heap.objs.size+1,[s1.heap.objs.size+1,s1.heap.objs.size],_,_,H1,rfl,I2,AL b _ _ (Nat.succ_ne_self _),⟨⟨_,he⟩,hit⟩,λc hc =>?_,q⟩
    rcases aG.mp hc with z |z
    ·subst z;exact I1.fpOk (dD _) (I1.hok.fresh (dD _))
    ·have z:c=s1.heap.objs.size:=by simpa using z
     subst z;exact I1.fpOk (ah _) (I1.hok.fresh (ah _))
 ·obtain⟨b,xs,e,hq,q⟩:=q1
  subst e
  cases r1 with
  | cons r rr=>
    cases rr
    cases r
    obtain⟨its,rv,pt,hz⟩:=I1.list hq
    refine call_enumerate_list pt.isList λh' he hit hsz hk =>?_
    have I2:Inv X pins σ H1 { s1 with heap:=h',toks:=s1.toks }:=I1.kept hk
    refine mI (s:={ s1 with heap:=h' }) he ?_
    refine⟨s1.heap.objs.size+1,[s1.heap.objs.size+1,s1.heap.objs.size],_,_,H1,rfl,I2,yZ b _ _ (Nat.succ_ne_self _),⟨⟨_,he⟩,hit⟩,λc hc =>?_,q⟩
    rcases aG.mp hc with z |z
    ·subst z;exact I1.fpOk (dD _) (I1.hok.fresh (dD _))
    ·have z:c=s1.heap.objs.size:=by simpa using z
     subst z;exact I1.fpOk (ah _) (I1.hok.fresh (ah _))
end
end _L
end
section
namespace PySem
namespace GE
section
variable {prog:Program}{w:World}{A:Around}{E:Value->Shared->Prop}{s:Shared}
theorem Lc{z TI TO i1 i2 l1 l2:Addr}{k1 k2:Nat}{xs ys:Array Value}{x y a b:Value}{Q:Value->Shared->Prop}(D:ZipApart z TI TO i1 i2 l1 l2)(hz:IsZip s.heap z TI TO .none)(hTI:IsPair s.heap TI (.ref i1) (.ref i2))(hTO:IsPair s.heap TO a b)(h1:s.heap.IsListIter i1 l1 k1)(h2:s.heap.IsTupleIter i2 l2 k2)(hl1:s.heap.IsList l1 xs)(hl2:s.heap.IsTuple l2 ys)(hx:xs[k1]? = some x)(hy:ys[k2]? = some y)(hQ: ∀h',IsZip h' z TI TO (rawInt s.heap.objs.size)->IsPair h' TO x y->h'.IsListIter i1 l1 (k1+1)->h'.IsTupleIter i2 l2 (k2+1)->IsPair h' s.heap.objs.size x y->h'.objs.size=s.heap.objs.size+1->(∀c o,c≠z->c≠TO->c≠i1->c≠i2->s.heap.get? c=some o->h'.get? c=some o)->Q (.ref s.heap.objs.size) { s with heap:=h' }):aH (model prog w) A (Builtin.«zip.__next__» ⟨[.ref z],[]⟩) (λfin s' =>∃v,fin = .done (.ret v)/\Q v s') E s:=by
 show aH _ _ (field (.ref z) 2 >>= _) _ _ _;refine ab (bS hz rfl (x:= .bool false) rfl ?_);show aH _ _ (field (.ref z) 3 >>= _) _ _ _;refine ab (bS hz rfl (x:= .ref TI) rfl ?_);refine ab (fI hTI rfl ?_);show aH _ _ (b9 (.ref z) >>= _) _ _ _;refine ab ?_;unfold b9;refine ab (bS hz rfl (x:= .none) rfl (ar ?_));simp only[if_true];refine ab (pB ?_);refine ab (bS hz rfl (x:= .ref TO) rfl ?_);refine ab (cQ hz (by simp) λh₁ hz₁ hs₁ =>?_);replace hz₁:IsZip h₁ z TI TO .ellipsis:=hz₁
 refine ab ?_;simp only[List.zipIdx_cons,List.zipIdx_nil,fN,oA];refine ab (ab (uH ?_));show aH _ _ (cj (.ref i1) >>= _) _ _ _;refine ab (wpAny_nextOf_list_item (h1.extBut hs₁.extBut D.i1z) (hl1.extBut hs₁.extBut D.l1z) hx λh₂ h1₂ hs₂=>ar ?_);have hTO₂:IsPair h₂ TO a b:=hs₂.extBut _ _ D.TOi1 (hs₁.extBut _ _ D.TOz hTO);refine ab (fI hTO₂ rfl ?_);refine ab (si hTO₂ λh₃ hTO₃ hs₃ =>?_);replace hTO₃:IsPair h₃ TO x b:=hTO₃;refine ab (An (ar ?_));refine ab (ab (uH ?_));show aH _ _ (cj (.ref i2) >>= _) _ _ _
 refine ab (pK (((h2.extBut hs₁.extBut D.i2z).extBut hs₂.extBut D.i12.symm).extBut hs₃.extBut D.TOi2.symm) (((hl2.extBut hs₁.extBut D.l2z).extBut hs₂.extBut D.l2i1).extBut hs₃.extBut D.l2TO) hy λh₄ h2₄ hs₄=>ar ?_);have hTO₄:IsPair h₄ TO x b:=hs₄.extBut _ _ D.TOi2 hTO₃;refine ab (fI hTO₄ rfl ?_);refine ab (si hTO₄ λh₅ hTO₅ hs₅ =>?_);replace hTO₅:IsPair h₅ TO x y:=hTO₅;refine ab (An (ar (ar ?_)));refine ab (fI hTO₅ rfl ?_);refine ab (E1 ?_);have hsz:h₅.objs.size=s.heap.objs.size:=by rw[hs₅.1,hs₄.1,hs₃.1,hs₂.1,hs₁.1]
 have hz₅:IsZip h₅ z TI TO .ellipsis:=hs₅.extBut _ _ D.TOz.symm (hs₄.extBut _ _ D.i2z.symm (hs₃.extBut _ _ D.TOz.symm (hs₂.extBut _ _ D.i1z.symm hz₁)));have hk₅: ∀c o,c≠z->c≠TO->c≠i1->c≠i2->s.heap.get? c=some o->h₅.get? c=some o:=λc o c1 c2 c3 c4 e=>hs₅.extBut _ _ c2 (hs₄.extBut _ _ c4 (hs₃.extBut _ _ c2 (hs₂.extBut _ _ c3 (hs₁.extBut _ _ c1 e))));have h1₅:h₅.IsListIter i1 l1 (k1+1):=((h1₂.extBut hs₃.extBut D.TOi1.symm).extBut hs₄.extBut D.i12).extBut hs₅.extBut D.TOi1.symm;have h2₅:h₅.IsTupleIter i2 l2 (k2+1):=h2₄.extBut hs₅.extBut D.TOi2.symm;have hzlt:z<h₅.objs.size:=ax hz₅;have hTOlt:TO<h₅.objs.size:=ax hTO₅
 have hi1lt:i1<h₅.objs.size:=by obtain⟨_,e,_⟩:=h1₅;exact ax e
 have hi2lt:i2<h₅.objs.size:=by obtain⟨_,e,_⟩:=h2₅;exact ax e
 show aH _ _ (dO (.ref z) (.ref h₅.objs.size) >>= _) _ _ _;refine ab ?_;unfold dO;have hz₆:IsZip (h₅.push { cls := .type "tuple",data := .seq #[x,y] }) z TI TO .ellipsis:=af _ hz₅;refine ab (cQ hz₆ (by simp) fun h₇ hz₇ hs₇ => ?_);replace hz₇:IsZip h₇ z TI TO (rawInt h₅.objs.size):=hz₇;refine cQ hz₇ (by simp) fun h₈ hz₈ hs₈ => ?_;replace hz₈:IsZip h₈ z TI TO (rawInt h₅.objs.size):=hz₈;have up : ∀ c o,c≠z->h₅.get? c=some o->h₈.get? c=some o:=fun c o c1 e=>hs₈.extBut _ _ c1 (hs₇.extBut _ _ c1 (af _ e));have hT₈:IsPair h₈ h₅.objs.size x y:=hs₈.extBut _ _ (b0 hzlt) (hs₇.extBut _ _ (b0 hzlt) (aw _ rfl))
 have hz8:h₈.objs.size=h₅.objs.size+1:=by rw[hs₈.1,hs₇.1,ba]
 rw[hsz]at hz₈ hT₈ hz8;refine ar ⟨_,rfl,?_⟩;show Q (.ref h₅.objs.size) _;rw[hsz];exact hQ h₈ hz₈ (up _ _ D.TOz hTO₅) (h1₅.at λo e=>up _ o D.i1z e) (h2₅.at λo e=>up _ o D.i2z e) hT₈ hz8 λc o c1 c2 c3 c4 e=>up c o c1 (hk₅ c o c1 c2 c3 c4 e)
theorem JQ {z TI TO i1 i2 l1 l2:Addr}{k1 k2:Nat}{xs ys:Array Value}{a b:Value}{Q:Fin->Shared->Prop} (hh:A.handled=none) (D:ZipApart z TI TO i1 i2 l1 l2) (hz:IsZip s.heap z TI TO .none) (hTI:IsPair s.heap TI (.ref i1) (.ref i2)) (hTO:IsPair s.heap TO a b) (h1:s.heap.IsListIter i1 l1 k1) (h2:s.heap.IsTupleIter i2 l2 k2) (hl1:s.heap.IsList l1 xs) (hl2:s.heap.IsTuple l2 ys) (hend:xs[k1]? = none\/ys[k2]? = none) (hE : ∀ h' e,(∀ c o,c≠z->c≠TO->c≠i1->c≠i2->s.heap.get? c=some o->h'.get? c=some o)->(∃ o,h'.get? e=some o/\o.cls = .type "StopIteration")->E (.ref e) { s with heap:=h' }):aH (model prog w) A (Builtin.«zip.__next__» ⟨[.ref z],[]⟩) Q E s:=by
 show aH _ _ (field (.ref z) 2 >>= _) _ _ _;refine ab (bS hz rfl (x:= .bool false) rfl ?_);show aH _ _ (field (.ref z) 3 >>= _) _ _ _;refine ab (bS hz rfl (x:= .ref TI) rfl ?_);refine ab (fI hTI rfl ?_);show aH _ _ (b9 (.ref z) >>= _) _ _ _;refine ab ?_;unfold b9;refine ab (bS hz rfl (x:= .none) rfl (ar ?_));simp only[if_true];refine ab (pB ?_);refine ab (bS hz rfl (x:= .ref TO) rfl ?_);refine ab (cQ hz (by simp) λh₁ hz₁ hs₁ =>?_);replace hz₁:IsZip h₁ z TI TO .ellipsis:=hz₁
 refine ab ?_;simp only[List.zipIdx_cons,List.zipIdx_nil,fN,oA];refine ab (ab (uH ?_));show aH _ _ (cj (.ref i1) >>= _) _ _ _
 cases hx:xs[k1]? with
 | none=>
   refine ab (wpAny_nextOf_list_end hh (h1.extBut hs₁.extBut D.i1z) (hl1.extBut hs₁.extBut D.l1z) hx λh₂ e hs₂ he =>?_);obtain⟨oe,hoe,hce⟩:=he;have hz₂:IsZip h₂ z TI TO .ellipsis:=hs₂ _ _ D.i1z.symm hz₁;have hez:e≠z:=λx=>by subst x;rw[hz₂]at hoe;cases hoe;simp at hce
   refine cQ hz₂ (by simp) λh₃ _ hs₃=>hE h₃ e (λc o c1 _ c3 _ x=>hs₃.extBut _ _ c1 (hs₂ _ _ c3 (hs₁.extBut _ _ c1 x))) ⟨oe,hs₃.extBut _ _ hez hoe,hce⟩
 | some x=>
   have hy:ys[k2]? = none:=by rcases hend with h |h;rw[hx]at h;cases h;exact h
   refine ab (wpAny_nextOf_list_item (h1.extBut hs₁.extBut D.i1z) (hl1.extBut hs₁.extBut D.l1z) hx λh₂ h1₂ hs₂=>ar ?_);have hTO₂:IsPair h₂ TO a b:=hs₂.extBut _ _ D.TOi1 (hs₁.extBut _ _ D.TOz hTO);refine ab (fI hTO₂ rfl ?_);refine ab (si hTO₂ λh₃ hTO₃ hs₃ =>?_);refine ab (An (ar ?_));refine ab (ab (uH ?_));show aH _ _ (cj (.ref i2) >>= _) _ _ _;refine ab (rD hh (((h2.extBut hs₁.extBut D.i2z).extBut hs₂.extBut D.i12.symm).extBut hs₃.extBut D.TOi2.symm) (((hl2.extBut hs₁.extBut D.l2z).extBut hs₂.extBut D.l2i1).extBut hs₃.extBut D.l2TO) hy λh₄ e hs₄ he =>?_)
   obtain⟨oe,hoe,hce⟩:=he;have hz₄:IsZip h₄ z TI TO .ellipsis:=hs₄ _ _ D.i2z.symm (hs₃.extBut _ _ D.TOz.symm (hs₂.extBut _ _ D.i1z.symm hz₁));have hez:e≠z:=λx=>by subst x;rw[hz₄]at hoe;cases hoe;simp at hce
   refine cQ hz₄ (by simp) λh₅ _ hs₅=>hE h₅ e (λc o c1 c2 c3 c4 x=>hs₅.extBut _ _ c1 (hs₄ _ _ c4 (hs₃.extBut _ _ c2 (hs₂.extBut _ _ c3 (hs₁.extBut _ _ c1 x))))) ⟨oe,hs₅.extBut _ _ hez hoe,hce⟩
theorem AA{z TI TO i1 i2 l1 l2:Addr}{k1 k2:Nat}{xs ys:Array Value}{x y a b:Value}{Q:Option Value->Shared->Prop}(D:ZipApart z TI TO i1 i2 l1 l2)(hz:IsZip s.heap z TI TO .none)(hTI:IsPair s.heap TI (.ref i1) (.ref i2))(hTO:IsPair s.heap TO a b)(h1:s.heap.IsListIter i1 l1 k1)(h2:s.heap.IsTupleIter i2 l2 k2)(hl1:s.heap.IsList l1 xs)(hl2:s.heap.IsTuple l2 ys)(hx:xs[k1]? = some x)(hy:ys[k2]? = some y)(hQ: ∀h',IsZip h' z TI TO (rawInt s.heap.objs.size)->IsPair h' TO x y->h'.IsListIter i1 l1 (k1+1)->h'.IsTupleIter i2 l2 (k2+1)->IsPair h' s.heap.objs.size x y->h'.objs.size=s.heap.objs.size+1->(∀c o,c≠z->c≠TO->c≠i1->c≠i2->s.heap.get? c=some o->h'.get? c=some o)->Q (some (.ref s.heap.objs.size)) { s with heap:=h' }):aH (model prog w) A (pyNext (.ref z)) Q E s:=by
 have hT:s.TypeIs (.ref z) "zip":=⟨_,hz,rfl⟩;unfold pyNext;exact ab (uG (cz (name:=fH "__next__") hT oB (cY oB hT F.entry_zip_next (Lc D hz hTI hTO h1 h2 hl1 hl2 hx hy fun h' a1 a2 a3 a4 a5 a6 a7=>ar (hQ h' a1 a2 a3 a4 a5 a6 a7)) (F.args_zip_next_1 _))))
theorem AR{z TI TO i1 i2 l1 l2:Addr}{k1 k2:Nat}{xs ys:Array Value}{a b:Value}{Q:Option Value->Shared->Prop}(hh:A.handled=none)(D:ZipApart z TI TO i1 i2 l1 l2)(hz:IsZip s.heap z TI TO .none)(hTI:IsPair s.heap TI (.ref i1) (.ref i2))(hTO:IsPair s.heap TO a b)(h1:s.heap.IsListIter i1 l1 k1)(h2:s.heap.IsTupleIter i2 l2 k2)(hl1:s.heap.IsList l1 xs)(hl2:s.heap.IsTuple l2 ys)(hend:xs[k1]? = none\/ys[k2]? = none)(hQ: ∀h',(∀c o,c≠z->c≠TO->c≠i1->c≠i2->s.heap.get? c=some o->h'.get? c=some o)->Q none { s with heap:=h' }):aH (model prog w) A (pyNext (.ref z)) Q E s:=by
 have hT:s.TypeIs (.ref z) "zip":=⟨_,hz,rfl⟩;unfold pyNext;refine ab (uG (cz (name:=fH "__next__") hT oB (cY oB hT F.entry_zip_next (JQ hh D hz hTI hTO h1 h2 hl1 hl2 hend fun h' e hk he => ?_) (F.args_zip_next_1 _))));obtain⟨o,ho,hc⟩:=he;refine ab (zg (T:="StopIteration") (b:=true) ⟨o,ho,hc⟩ isSubtype_stop ?_);exact ar (hQ _ hk)
end
abbrev zH1 (h:Heap) (l1:Addr):Heap:=h.push { cls := .type "list_iterator",data := .fields #[.ref l1,.int 0 0] }
abbrev zH2 (h:Heap) (a b:Addr):Heap:=(zH1 h a).push { cls := .type "tuple_iterator",data := .fields #[.ref b,.int 0 0] }
abbrev zH3 (h:Heap) (a b:Addr):Heap:=(zH2 h a b).push { cls := .type "tuple",data := .seq #[.ref h.objs.size,.ref (zH1 h a).objs.size] }
abbrev zH4 (h:Heap) (a b:Addr):Heap:=(zH3 h a b).push { cls := .type "tuple",data := .seq #[.none,.none] }
abbrev zH5 (h:Heap) (a b:Addr):Heap:=(zH4 h a b).push { cls := .type "zip",data := .fields #[.none,.bool false,.bool false,.ref (zH2 h a b).objs.size,.ref (zH3 h a b).objs.size] }
theorem BB (a b:Addr) (xs ys:Array Value):Meets (Builtin.«zip.__new__» ⟨[.type "zip",.ref a,.ref b],[]⟩) (fun _ R s=>s.heap.IsList a xs/\s.heap.IsTuple b ys/\R (.ok (.ret (.ref (zH4 s.heap a b).objs.size))) { s with heap:=zH5 s.heap a b }):=
 .of_wp λprog w A R s h=>by
  obtain⟨hp,g,d,tk,os⟩:=s;obtain⟨hl1,hl2,h⟩:=h;have hsub:=sub_zip;have hL1:Heap.IsList (BW ⟨hp,g,d,tk,os⟩) a xs:=hl1
  have hL2:Heap.IsTuple (BW ⟨hp.push { cls := .type "list_iterator",data := .fields #[.ref a,.int 0 0] },g,d,tk,os⟩) b ys:=by
   obtain⟨o,ho,r⟩:=hl2
   exact⟨o,af _ ho,r⟩
  wp_walk using xW hL1,lG hL2
  exact⟨_,rfl,h⟩
section
variable {prog:Program}{w:World}{A:Around}{E:Value->Shared->Prop}{s:Shared}
theorem DQ{a b:Addr}{xs ys:Array Value}{Q:Value->Shared->Prop}(hl1:s.heap.IsList a xs)(hl2:s.heap.IsTuple b ys)
  (h : ∀ h',IsZip h' (s.heap.objs.size+4) (s.heap.objs.size+2) (s.heap.objs.size+3) .none->IsPair h' (s.heap.objs.size+2) (.ref s.heap.objs.size) (.ref (s.heap.objs.size+1))->IsPair h' (s.heap.objs.size+3) .none .none->h'.IsListIter s.heap.objs.size a 0->h'.IsTupleIter (s.heap.objs.size+1) b 0->h'.objs.size=s.heap.objs.size+5->(∀ c o,s.heap.get? c=some o->h'.get? c=some o)->Q (.ref (s.heap.objs.size+4)) { s with heap:=h' }):aH (model prog w) A (call (.type "zip") [.ref a,.ref b]) Q E s:=by
 refine callType_new F.called_zip (by decide) (F.typeCall_zip_2 _ _) (F.newCall_zip_2 _ _) (λobj=>F.args_object_init_3 obj _ _) F.entry_zip_new (BB a b xs ys) ⟨hl1,hl2,?_⟩
 have z1:(zH1 s.heap a).objs.size=s.heap.objs.size+1:=ba ..
 have z2:(zH2 s.heap a b).objs.size=s.heap.objs.size+2:=by rw[ba,z1]
 have z3:(zH3 s.heap a b).objs.size=s.heap.objs.size+3:=by rw[ba,z2]
 have z4:(zH4 s.heap a b).objs.size=s.heap.objs.size+4:=by rw[ba,z3]
 have z5:(zH5 s.heap a b).objs.size=s.heap.objs.size+5:=by rw[ba,z4]
 have g5:(zH5 s.heap a b).get? (zH4 s.heap a b).objs.size=some _:=aw _ rfl
 have g4:(zH5 s.heap a b).get? (zH3 s.heap a b).objs.size=some _:=af _ (aw _ rfl)
 have g3:(zH5 s.heap a b).get? (zH2 s.heap a b).objs.size=some _:=af _ (af _ (aw _ rfl))
 have g2:(zH5 s.heap a b).get? (zH1 s.heap a).objs.size=some _:=af _ (af _ (af _ (aw _ rfl)))
 have g1:(zH5 s.heap a b).get? s.heap.objs.size=some _:=af _ (af _ (af _ (af _ (aw _ rfl))))
 show _/\_;rw[z2,z3,z4]at g5;rw[z1,z2]at g3;rw[z3]at g4;rw[z1]at g2;rw[z4]
 exact⟨⟨_,g5,rfl⟩,h _ g5 g3 g4 ⟨_,g1,rfl,rfl⟩ ⟨_,g2,rfl,rfl⟩ z5 λc o x=>af _ (af _ (af _ (af _ (af _ x))))⟩
end
end GE
end PySem
namespace _L
open PySem PySem.Spec PyProof.Rows
theorem Inv.turnFp{X:Cx}{pins:List (Addr×Obj)}{σ:St}{H:Hp}{s:Shared}{h':Heap}{t':Nat}{fp:List Addr}(I:Inv X pins σ H s)(hf: ∀b∈fp,qX X pins H b)(k: ∀b u,b∉fp->s.heap.get? b=some u->h'.get? b=some u):Inv X pins σ H { s with heap:=h',toks:=t' }:=by
 have nfp: ∀b u,H b=some u->b∉fp:=λb u e z=>by rw[(hf b z).1]at e;cases e
 refine I.step (g':=s.gens) (d':=s.drawn) (ch:=fp) (λb hb=>⟨(hf b hb).2.2.2.1,(hf b hb).2.1,(hf b hb).2.2.2.2.1,(hf b hb).2.2.2.2.2⟩) (λb o _ _ hc e _=>k b o hc e) (λb o _ _ hc e _=>⟨o.slots,k b o hc e⟩)
  (λ_ _ _ _ n=>n) (λb o hc e=>⟨o,k b o hc e⟩) (λ_ _ e=>e) (λ_ _ _ e=>e) (λb ps e=>⟨#[],by rw[e];simp⟩) (λm hm =>?_) (λb u e =>?_) I.bare
 ·obtain⟨o,es,ep,ho,r⟩:=hm
  exact⟨o,es,ep,k _ o (λz=>(hf _ z).2.1 rfl) ho,r⟩
 ·refine(I.hok b u e).stay (λc v hc q=>k c v ?_ q) (λ_ q=>q) λ_ _ q=>q
  rcases hc with z |z
  ·rw[z];exact nfp b u e
  ·exact nfp c _ z
noncomputable def Itz(K:aj)(a b:Addr):It:=
 ⟨λi H =>∃xs x ys y,SqL K H a xs/\xs[i]? = some x/\SqT K H b ys/\ys[i]? = some y,λi H x H' =>∃T u v,(∀xs,SqL K H a xs->xs[i]? = some u)/\(∀ys,SqT K H b ys->ys[i]? = some v)/\H T=none/\x = .ref T/\H'=upd H T (.tup [u,v]),
  λi H =>∃xs ys,SqL K H a xs/\SqT K H b ys/\(xs.length<=i\/ys.length<=i)⟩
theorem DE{P:Program}{w:World}{K:aj}{ts:List Expr}{kt:Nat}{pt:Pos}{l1 l2 z TI TO i1 i2:Addr}(D:ZipApart z TI TO i1 i2 l1 l2):Turn P w K (.Tuple ts kt pt) (Itz K l1 l2) [z,TI,TO,i1,i2] z
  (λi h=>IsZip h z TI TO .none/\IsPair h TI (.ref i1) (.ref i2)/\(∃p q,IsPair h TO p q)/\h.IsListIter i1 l1 i/\h.IsTupleIter i2 l2 i) where
 mem:=by simp
 obj:=λi h st b hb=>by
  obtain⟨hz,hTI,⟨p,q,hTO⟩,⟨o1,ho1,c1,d1⟩,o2,ho2,c2,d2⟩:=st
  simp only[aG,dC,or_false]at hb
  rcases hb with rfl |rfl |rfl |rfl |rfl
  ·exact⟨_,hz,λv y=>by have y':vU _=pz v:=y;cases y'⟩
  ·exact⟨_,hTI,λv y=>by have y':sy _ _=pz v:=y;cases y'⟩
  ·exact⟨_,hTO,λv y=>by have y':sy _ _=pz v:=y;cases y'⟩
  ·exact⟨o1,ho1,λv y=>by rw[d1]at y;cases y⟩
  ·exact⟨o2,ho2,λv y=>by rw[d2]at y;cases y⟩
 keep:=λi h h' st k=>by
  obtain⟨hz,hTI,⟨p,q,hTO⟩,h1,o2,ho2,r2⟩:=st
  exact⟨k z (by simp) _ hz,k TI (by simp) _ hTI,⟨p,q,k TO (by simp) _ hTO⟩,h1.at λo e=>k i1 (by simp) o e,o2,k i2 (by simp) _ ho2,r2⟩
 item:=by
  intro X hP hw hK hc i pins s σ H E I hf st hg
  subst hP hw hK
  obtain⟨xs,x,ys,y,hq1,hx,hq2,hy⟩:=hg
  obtain⟨its1,rv1,p1,hz1⟩:=I.list hq1
  obtain⟨its2,rv2,p2,hz2⟩:=I.tuple hq2
  obtain⟨u,hu,ru⟩:=rv1.get hx
  obtain⟨v,hv,rv⟩:=rv2.get hy
  obtain⟨hz,hTI,⟨p,q,hTO⟩,h1,h2⟩:=st
  have hzl:=ax hz
  have lts: ∀b∈[z,TI,TO,i1,i2],b<s.heap.objs.size:=λb hb=>by
   simp only[aG,dC,or_false]at hb
   rcases hb with rfl |rfl |rfl |rfl |rfl
   ·exact hzl
   ·exact ax hTI
   ·exact ax hTO
   ·obtain⟨o,ho,_⟩:=h1;exact ax ho
   ·obtain⟨o,ho,_⟩:=h2;exact ax ho
  refine GE.AA D hz hTI hTO h1 h2 p1.isList (show s.heap.IsTuple l2 its2.toArray from p2) (x:=u) (y:=v) (by simpa using hu) (by simpa using hv) λh' hz' hTO' h1' h2' hT hsz hk =>?_
  refine⟨_,rfl,wpAny_letOwnedTupleGo_zip (s:={ s with heap:=h' }) hz' λh2h he2 hs2 =>?_⟩
  have hT2:h2h.get? s.heap.objs.size=some { cls := .type "tuple",data := .seq #[u,v] }:=(hs2.2 _ (b0 hzl)).trans hT
  have k: ∀b o,b ∉ [z,TI,TO,i1,i2]->s.heap.get? b=some o->h2h.get? b=some o:=λb o hb eo=>by
   simp only[aG,dC,or_false,not_or]at hb
   exact(hs2.2 b hb.1).trans (hk b o hb.1 hb.2.2.1 hb.2.2.2.1 hb.2.2.2.2 eo)
  have new:d9 X.prog X.w (upd H s.heap.objs.size (.tup [x,y])) h2h s.heap.objs.size (.tup [x,y]):=⟨by rw[sizeLine_eq];show 2<=16777216;decide,[u,v],.cons ru (.cons rv .nil),⟨_,hT2,rfl,_,rfl⟩,_,hT2,rfl⟩
  have t1:h2h.IsListIter i1 l1 (i+1):=h1'.extBut hs2.extBut D.i1z
  have t2:h2h.IsTupleIter i2 l2 (i+1):=h2'.extBut hs2.extBut D.i2z
  exact⟨.ref s.heap.objs.size,_,I.turnNew (t':=s.toks) hf k (ah _) new,rfl,⟨_,x,y,λzs hy=>by rw[I.list_inj hy hq1];exact hx,λzs hy'=>by rw[I.tuple_inj hy' hq2];exact hy,I.hok.fresh (ah _),rfl,rfl⟩,⟨he2,hs2.extBut _ _ D.TIz (hk _ _ D.TIz D.TITO D.TIi1 D.TIi2 hTI),⟨u,v,hs2.extBut _ _ D.TOz hTO'⟩,t1,t2⟩,λb hb=>by
   rw[bw (λe=>absurd (lts b hb) (by rw[e];exact bF _))]
   exact(hf b hb).1⟩
 done:=by
  intro X hP hw hK hc i pins s σ H E I hf st hg
  subst hP hw hK
  obtain⟨xs,ys,hq1,hq2,hx⟩:=hg
  obtain⟨its1,rv1,p1,hz1⟩:=I.list hq1
  obtain⟨its2,rv2,p2,hz2⟩:=I.tuple hq2
  obtain⟨hz,hTI,⟨p,q,hTO⟩,h1,h2⟩:=st
  have e1:=rv1.length
  have e2:=rv2.length
  refine GE.AR (I.ok.hd hc) D hz hTI hTO h1 h2 p1.isList (show s.heap.IsTuple l2 its2.toArray from p2) ?_ λh' hk=>⟨rfl,I.turnFp (t':=s.toks) hf λb o hb e =>?_⟩
  ·rcases hx with hx |hx
   ·exact .inl (by simp;omega)
   ·exact .inr (by simp;omega)
  ·simp only[aG,dC,or_false,not_or]at hb
   exact hk b o hb.1 hb.2.2.1 hb.2.2.2.1 hb.2.2.2.2 e
 self:=λ_ _ _ _ _ st h=>wpAny_pyIter_zip st.1 h
section
variable {X:Cx}
noncomputable def zm(K:aj)(ta:TA):TI:=λσ H R=>ta σ H λvs H1 =>∃a b xs ys,vs = [.ref a,.ref b]/\SqL K H1 a xs/\SqT K H1 b ys/\R (Itz K a b) H1
theorem boot_zip:bootBuiltins "zip"=some (.type "zip"):=by decide +kernel
theorem Kx {a b:Expr}{ta:TA}{p pos:Pos}{ts:List Expr}{kt:Nat}{pt:Pos} (hg:Gl X "zip") (hm:X.mg "zip"=none) (ha:PA X [a,b] ta) (hs:starEach [a,b] X.env=(false,eval a X.env)::starEach [b] X.env) (hs2:starEach [b] X.env = [(false,eval b X.env)]):PI X (.Tuple ts kt pt) (.Call (.Name "zip" p) [a,b] [] pos) (zm X.K ta):=by
 intro pins s σ H R I h
 refine Call_ (kn I hg hm boot_zip (cK (thn (ha pos pins s σ H _ I h) λus s1 ⟨vs,H1,I1,r1,q1⟩ =>?_) (by rw[hs,hs2]) (by rw[hs2];rfl)))
 obtain⟨l1,l2,xs,ys,e,hq1,hq2,q⟩:=q1
 subst e
 cases r1 with
 | cons r rr=>
   cases rr with
   | cons r2 rr=>
     cases rr
     cases r
     cases r2
     obtain⟨its1,rv1,p1,hz1⟩:=I1.list hq1
     obtain⟨its2,rv2,p2,hz2⟩:=I1.tuple hq2
     refine GE.DQ p1.isList (show s1.heap.IsTuple l2 its2.toArray from p2) λh' he hTI hTO hi1 hi2 hsz hk =>?_
     have I2:Inv X pins σ H1 { s1 with heap:=h',toks:=s1.toks }:=I1.kept hk
     refine wpAny_pyIter_zip (s:={ s1 with heap:=h' }) he ?_
     have la: @LT.lt Nat _ l1 s1.heap.objs.size:=by obtain⟨o,ho,_⟩:=p1.isList;exact ax ho
     have lb: @LT.lt Nat _ l2 s1.heap.objs.size:=by obtain⟨o,ho,_⟩:=(show s1.heap.IsTuple l2 its2.toArray from p2);exact ax ho
     have D:ZipApart (s1.heap.objs.size+4) (s1.heap.objs.size+2) (s1.heap.objs.size+3) s1.heap.objs.size (s1.heap.objs.size+1) l1 l2:=by
      constructor <;> (show ¬(@Eq Nat _ _)) <;> omega
     refine⟨s1.heap.objs.size+4,[s1.heap.objs.size+4,s1.heap.objs.size+2,s1.heap.objs.size+3,s1.heap.objs.size,s1.heap.objs.size+1],_,_,H1,rfl,I2,DE D,⟨he,hTI,⟨_,_,hTO⟩,hi1,hi2⟩,λc hc =>?_,q⟩
     have hle:s1.heap.objs.size<=c:=by
      simp only[aG,dC,or_false]at hc
      rcases hc with rfl |rfl |rfl |rfl |rfl <;> omega
     exact I1.fpOk hle (I1.hok.fresh hle)
end
end _L
end
section
namespace _L
open PySem PySem.Spec PyProof.Rows
section
variable {κ:Type} [DecidableEq κ]
noncomputable def kY(kvs:List (κ×V))(k:κ):Option V:=(kvs.find? λkv=>decide (kv.1=k)).map (·.2)
noncomputable def putK(kvs:List (κ×V))(k:κ)(v:V):List (κ×V):=
 if (kvs.any λkv=>decide (kv.1=k))=true then kvs.map (λkv=>if kv.1=k then(kv.1,v) else kv) else kvs++[(k,v)]
theorem kU{p:κ×V}{r:List (κ×V)}{k:κ}(e:p.1=k):kY (p::r) k=some p.2:=by simp[kY,bN,e]
theorem kO{p:κ×V}{r:List (κ×V)}{k:κ}(e: ¬p.1=k):kY (p::r) k=kY r k:=by simp[kY,bN,e]
theorem wQ(k:κ): ∀kvs:List (κ×V),(kvs.any λkv=>decide (kv.1=k))=(kY kvs k).isSome
 | []=>rfl
 | p::r=>by
   rw[fS]
   by_cases e:p.1=k
   ·simp only[kU e,decide_eq_true e,Bool.true_or,Fc]
   ·rw[kO e,decide_eq_false e,Bool.false_or];exact wQ k r
theorem kN(kvs:List (κ×V))(k:κ)(v:V):(putK kvs k v).length<=kvs.length+1:=by
 unfold putK
 split
 ·rw[aq];omega
 ·rw[aV,bB,eQ];omega
theorem rO.isSome_eq{o:Option V}{u:Option Value}(r:rO o u):o.isSome=u.isSome:=by
 cases o with
 | none=>cases u with
   | none=>rfl
   | some _=>exact(show False from r).elim
 | some _=>cases u with
   | none=>exact(show False from r).elim
   | some _=>rfl
theorem KV.val{kvs:List (κ×V)}{vs:List (κ×Value)}(r:KV kvs vs)(k:κ):rO (kY kvs k) (valueAt vs k):=by
 unfold KV at r
 induction r with
 | nil=>exact fv
 | @cons p q ps qs h t ih=>
   obtain⟨h1,h2⟩:=h
   by_cases e:p.1=k
   ·have e':q.1=k:=h1.symm.trans e
    have b:valueAt (q::qs) k=some q.2:=by simp[valueAt,bN,e']
    rw[kU e,b];exact h2
   ·have e': ¬q.1=k:=λz=>e (h1.trans z)
    have b:valueAt (q::qs) k=valueAt qs k:=by simp[valueAt,bN,e']
    rw[kO e,b];exact ih
theorem KV.any{kvs:List (κ×V)}{vs:List (κ×Value)}(r:KV kvs vs)(k:κ):(kvs.any λkv=>decide (kv.1=k))=vs.any λkv=>decide (kv.1=k):=by
 unfold KV at r
 induction r with
 | nil=>rfl
 | cons h t ih=>rw[fS,fS,ih,h.1]
theorem KV.repl{kvs:List (κ×V)}{vs:List (κ×Value)}(r:KV kvs vs)(k:κ){y:V}{u:Value}(ry:RelV y u):
  KV (kvs.map λkv=>if kv.1=k then(kv.1,y) else kv) (vs.map λkv=>if kv.1=k then(kv.1,u) else kv):=by
 unfold KV at r ⊢
 induction r with
 | nil=>exact .nil
 | @cons p q ps qs h t ih=>
   rw[bg,bg]
   refine .cons ?_ ih
   obtain⟨h1,h2⟩:=h
   by_cases e:p.1=k
   ·rw[if_pos e,if_pos (h1.symm.trans e)];exact⟨h1,ry⟩
   ·rw[if_neg e,if_neg (λz=>e (h1.trans z))];exact⟨h1,h2⟩
theorem KV.put{kvs:List (κ×V)}{vs:List (κ×Value)}(r:KV kvs vs)(k:κ){y:V}{u:Value}(ry:RelV y u):KV (putK kvs k y) (stored vs k u):=by
 unfold putK stored
 rw[r.any k]
 by_cases e:(vs.any λkv=>decide (kv.1=k))=true
 ·rw[if_pos e,if_pos e];exact r.repl k ry
 ·rw[if_neg e,if_neg e];exact Paired.snoc r ⟨rfl,ry⟩
theorem KV.length{kvs:List (κ×V)}{vs:List (κ×Value)}(r:KV kvs vs):kvs.length=vs.length:=ye r
end
theorem xQ{P:Program}{w:World}{k:Key}{u:Value}(r:RelV (kV k) u):(dQ P w).is k u=true:=by
 cases k with
 | inl i=>obtain⟨t,e⟩:=(show ∃t,u=oz i t from r);subst e;exact wI P w i t
 | inr x=>obtain⟨t,e⟩:=(show ∃t,u=tK x t from r);subst e;exact xP P w x t
theorem uy{P:Program}{w:World}: ∀{ks:List Key}{us:List Value},bW (ks.map kV) us->ItemsAre (dQ P w) ks us
 | [],_,r=>by rw[iQ]at r;cases r;exact .nil
 | k::ks,_,r=>by
   rw[bg]at r
   cases r with
   | cons h t=>exact .cons (xQ h) (uy t)
abbrev KT(H:Hp):List (List Key×V)->List (List Key×Addr×Value)->Prop:=Paired λp q=>p.1=q.1/\H q.2.1=some (.tup (p.1.map kV))/\RelV p.2 q.2.2
theorem KT.val{H:Hp}{kvs:List (List Key×V)}{xs:List (List Key×Addr×Value)}(r:KT H kvs xs)(k:List Key):rO (kY kvs k) ((atKey xs k).map (·.2)):=by
 induction r with
 | nil=>exact fv
 | @cons p q ps qs h t ih=>
   obtain⟨h1,_,h2⟩:=h
   by_cases e:p.1=k
   ·have e':q.1=k:=h1.symm.trans e
    have b:atKey (q::qs) k=some q.2:=by simp[atKey,bN,e']
    rw[kU e,b];exact h2
   ·have e': ¬q.1=k:=λz=>e (h1.trans z)
    have b:atKey (q::qs) k=atKey qs k:=by simp[atKey,bN,e']
    rw[kO e,b];exact ih
theorem KT.repl{H:Hp}{kvs:List (List Key×V)}{xs:List (List Key×Addr×Value)}(r:KT H kvs xs)(k:List Key){y:V}{u:Value}(ry:RelV y u):
  KT H (kvs.map λkv=>if kv.1=k then(kv.1,y) else kv) (xs.map (putAt k u)):=by
 induction r with
 | nil=>exact .nil
 | @cons p q ps qs h t ih=>
   rw[bg,bg]
   refine .cons ?_ ih
   obtain⟨h1,h2,h3⟩:=h
   unfold putAt
   by_cases e:p.1=k
   ·rw[if_pos e,if_pos (h1.symm.trans e)];exact⟨h1,h2,ry⟩
   ·rw[if_neg e,if_neg (λz=>e (h1.trans z))];exact⟨h1,h2,h3⟩
theorem KT.put{H:Hp}{kvs:List (List Key×V)}{xs:List (List Key×Addr×Value)}(r:KT H kvs xs)(k:List Key){b:Addr}{y:V}{u:Value}(hb:H b=some (.tup (k.map kV)))(ry:RelV y u):
  KT H (putK kvs k y) (storedH xs k b u):=by
 have e:(kvs.any λkv=>decide (kv.1=k))=(atKey xs k).isSome:=by
  rw[wQ,(r.val k).isSome_eq,qB]
 unfold putK storedH
 rw[e]
 by_cases q:(atKey xs k).isSome=true
 ·rw[if_pos q,if_pos q];exact r.repl k ry
 ·rw[if_neg q,if_neg q];exact Paired.snoc r ⟨rfl,hb,ry⟩
theorem KT.keeps{H H':Hp}{kvs:List (List Key×V)}{xs:List (List Key×Addr×Value)}(r:KT H kvs xs)(ht: ∀b ys,H b=some (.tup ys)->H' b=some (.tup ys)):KT H' kvs xs:=
 Paired.mapP r λ_ _ z=>⟨z.1,ht _ _ z.2.1,z.2.2⟩
section
variable {P:Program}{w:World}{H:Hp}{h:Heap}{a:Addr}
theorem Ie{u:HO}(ok:HOk P w H h)(e:Rd H a u):d9 P w H h a u:=e.ok ok
theorem xq{kvs:List (Key×V)}(ok:HOk P w H h)(e:Rd H a (.dK kvs)):kvs.length<=sizeLine/\(a==sysModules)=false /\ ∃vs,KV kvs vs/\h.DictOf (dQ P w) a vs:=
 show d9 P w H h a (.dK kvs) from Ie ok e
theorem Ir{kvs:List (Key×V)}(ok:HOk P w H h)(e:H a=some (.dK kvs)):kvs.length<=sizeLine/\(a==sysModules)=false /\ ∃vs,KV kvs vs/\h.DictOf (dQ P w) a vs:=xq ok (.inl e)
theorem u9{ks:List Key}(ok:HOk P w H h)(e:H a=some (.tup (ks.map kV))):(tupleKind (dQ P w)).is h ks a:=by
 obtain⟨_,its,r,⟨o,h1,h2,n,h3⟩,_⟩:=(show d9 P w H h a (.tup (ks.map kV)) from ok a _ e)
 exact⟨o,its.toArray,n,h1,h2,h3,by simpa using uy r⟩
theorem zr{kvs:List (List Key×V)}(ok:HOk P w H h)(e:Rd H a (.dT kvs)):kvs.length<=sizeLine/\(a==sysModules)=false /\
  ∃xs,KT H kvs xs/\h.DictOfH (tupleKind (dQ P w)) a xs:=by
 obtain⟨z,y,xs,r,o,es,ep,h1,h2,h3,h4,h5⟩:=(show d9 P w H h a (.dT kvs) from Ie ok e)
 refine⟨z,y,xs,r,o,es,ep,h1,h2,h3,h4,λx hx =>?_,h5⟩
 have all: ∀{l:List (List Key×V)}{m:List (List Key×Addr×Value)},KT H l m -> ∀x∈m,(tupleKind (dQ P w)).is h x.1 x.2.1:=by
  intro l m q
  induction q with
  | nil=>intro x hx;exact nomatch hx
  | @cons p q ps qs hq t ih=>
    intro x hx
    rcases aG.mp hx with e |hx
    ·subst e
     exact u9 ok (by rw[<- hq.1];exact hq.2.1)
    ·exact ih x hx
 exact all r x hx
theorem Nj{kvs:List (List Key×V)}(ok:HOk P w H h)(e:H a=some (.dT kvs)):kvs.length<=sizeLine/\(a==sysModules)=false /\
  ∃xs,KT H kvs xs/\h.DictOfH (tupleKind (dQ P w)) a xs:=zr ok (.inl e)
end
noncomputable def uR(H:Hp)(a:Addr)(y:V)(r:Option V):Prop:=
 (∃kvs k,Rd H a (.dK kvs)/\y=kV k/\r=kY kvs k) \/ ∃kvs k b,Rd H a (.dT kvs)/\y = .ref b/\H b=some (.tup (k.map kV))/\r=kY kvs k
noncomputable def Bm(H:Hp)(a:Addr)(y v:V)(H':Hp):Prop:=
 (∃kvs k,H a=some (.dK kvs)/\y=kV k/\kvs.length<sizeLine/\H'=upd H a (.dK (putK kvs k v))) \/
 ∃kvs k b,H a=some (.dT kvs)/\y = .ref b/\H b=some (.tup (k.map kV))/\kvs.length<sizeLine/\H'=upd H a (.dT (putK kvs k v))
theorem uR.k{H:Hp}{a:Addr}{kvs:List (Key×V)}{k:Key}(e:H a=some (.dK kvs)):uR H a (kV k) (kY kvs k):= .inl ⟨kvs,k,.inl e,rfl,rfl⟩
theorem uR.t{H:Hp}{a b:Addr}{kvs:List (List Key×V)}{k:List Key}(e:H a=some (.dT kvs))(eb:H b=some (.tup (k.map kV))):uR H a (.ref b) (kY kvs k):= .inr ⟨kvs,k,b,.inl e,rfl,eb,rfl⟩
theorem Bm.k{H:Hp}{a:Addr}{kvs:List (Key×V)}{k:Key}{v:V}(e:H a=some (.dK kvs))(hl:kvs.length<sizeLine):Bm H a (kV k) v (upd H a (.dK (putK kvs k v))):= .inl ⟨kvs,k,e,rfl,hl,rfl⟩
theorem Bm.t{H:Hp}{a b:Addr}{kvs:List (List Key×V)}{k:List Key}{v:V}(e:H a=some (.dT kvs))(eb:H b=some (.tup (k.map kV)))(hl:kvs.length<sizeLine):
  Bm H a (.ref b) v (upd H a (.dT (putK kvs k v))):= .inr ⟨kvs,k,b,e,rfl,eb,hl,rfl⟩
section
variable {X:Cx}{pins:List (Addr×Obj)}{σ:St}{H:Hp}{s:Shared}{a:Addr}{y v:V}{u r:Value}{o:Option V}{A:Around}{E:Value->Shared->Prop}
theorem Inv.big(I:Inv X pins σ H s):sysModules<s.heap.objs.size:=by
 have h:mainGlobals<s.heap.objs.size:=(I.mod.glob.keeps I.bk).lt
 exact dI (by decide) h
theorem Ay{Q:Value->Shared->Prop}(hu:A.units+1<cLine)(I:Inv X pins σ H s)(g:uR H a y (some v))(ry:RelV y u)(h: ∀w' s',Inv X pins σ H s'->RelV v w'->Q w' s'):
  aH (model X.prog X.w) A (getItem (.ref a) u) Q E s:=by
 rcases g with⟨kvs,k,e,ey,l⟩ | ⟨kvs,k,b,e,ey,eb,l⟩
 ·subst ey
  obtain⟨z,hd,vs,rel,dd⟩:=xq I.hok e
  obtain⟨w',hw,rw'⟩:=rO.some_of (v:=v) (o:=valueAt vs k) (by rw[l];exact rel.val k)
  exact wpAny_getItem_of (xQ ry) dd.mapOf hw (h w' _ (I.tok _) rw')
 ·subst ey
  cases (show u=bj b from ry)
  obtain⟨z,hd,xs,rel,dd⟩:=zr I.hok e
  obtain⟨w',hw,rw'⟩:=rO.some_of (v:=v) (o:=(atKey xs k).map (·.2)) (by rw[l];exact rel.val k)
  obtain⟨p,hp,hp2⟩:=Ao.mp hw
  refine wpAny_getItem_heap (tupleKind_room_in1 hu) (u9 I.hok eb) dd hp ?_
  rw[hp2]
  exact h w' _ (I.tok _) rw'
theorem HL{Q:Value->Shared->Prop}(hu:A.units+1<cLine)(I:Inv X pins σ H s)(g:uR H a y o)(ry:RelV y u)(h: ∀s',Inv X pins σ H s'->Q (.bool (!o.isSome)) s'):
  aH (model X.prog X.w) A (compareOp .NotIn u (.ref a)) Q E s:=by
 rcases g with⟨kvs,k,e,ey,l⟩ | ⟨kvs,k,b,e,ey,eb,l⟩
 ·subst ey
  obtain⟨z,hd,vs,rel,dd⟩:=xq I.hok e
  refine wpAny_notIn_of (xQ ry) hd dd.mapOf ?_
  rw[<- (rel.val k).isSome_eq,<- l]
  exact h _ (I.tok _)
 ·subst ey
  cases (show u=bj b from ry)
  obtain⟨z,hd,xs,rel,dd⟩:=zr I.hok e
  refine wpAny_notIn_heap (tupleKind_room_in1 hu) (u9 I.hok eb) hd dd ?_
  have q:=(rel.val k).isSome_eq
  rw[qB]at q
  rw[<- q,<- l]
  exact h _ (I.tok _)
theorem vh{h':Heap}{t':Nat}{ob:HO}(I:Inv X pins σ H s)(mu:Mut (H a))(hs:eR a s.heap h')(he: ∃q,h'.get? a=some q)(new:d9 X.prog X.w (upd H a ob) h' a ob):
  Inv X pins σ (upd H a ob) { s with heap:=h',toks:=t' }:=
 I.write (x:=a) (e:=a) mu (.inl rfl) (λb q hb z=>(hs.2 b hb).trans z) he new
theorem Do{P:Program}{w:World}{H':Hp}{h':Heap}{kvs:List (Key×V)}{vs:List (Key×Value)}(z:kvs.length<=sizeLine)(hd:(a==sysModules)=false)(rel:KV kvs vs)(dd:h'.DictOf (dQ P w) a vs):
  d9 P w H' h' a (.dK kvs):=⟨z,hd,vs,rel,dd⟩
theorem AW{H':Hp}{Q:Unit->Shared->Prop}(hu:A.units+1<cLine)(I:Inv X pins σ H s)(g:Bm H a y v H')(ry:RelV y u)(rv:RelV v r)(h: ∀s',Inv X pins σ H' s'->Q () s'):
  aH (model X.prog X.w) A (setItem (.ref a) u r) Q E s:=by
 rcases g with⟨kvs,k,e,ey,l,eH⟩ | ⟨kvs,k,b,e,ey,eb,l,eH⟩
 ·subst ey eH
  obtain⟨z,hd,vs,rel,dd⟩:=Ir I.hok e
  have hz:vs.length<=sizeLine:=by rw[<- rel.length];exact z
  have hl:(putK kvs k v).length<=sizeLine:=by have:=kN kvs k v;omega
  refine wpAny_setItem_pairs (hsz:=hz) (xQ ry) dd λh' dd' hs=>h _ ?_
  have he: ∃q,h'.get? a=some q:=let ⟨q,_,_,hq,_⟩:=dd';⟨q,hq⟩
  exact vh I (by rw[e];exact fv) hs he (Do hl hd (rel.put k rv) dd')
 ·subst ey eH
  cases (show u=bj b from ry)
  obtain⟨z,hd,xs,rel,dd⟩:=Nj I.hok e
  have hz:xs.length<=sizeLine:=by rw[<- ye rel];exact z
  have hl:(putK kvs k v).length<=sizeLine:=by have:=kN kvs k v;omega
  refine wpAny_setItem_heap (hsz:=hz) (tupleKind_room_in1 hu) (u9 I.hok eb) dd λh' dd' hs=>h _ ?_
  obtain⟨q,es,ep,hq,h2,h3,h4,_,h5⟩:=dd'
  refine vh I (by rw[e];exact fv) hs ⟨q,hq⟩ ⟨hl,hd,_,(rel.put k eb rv).keeps λc ys ec =>?_,q,es,ep,hq,h2,h3,h4,h5⟩
  rw[bw (rh ec e (λz=>nomatch z))]
  exact ec
end
section
variable {X:Cx}{pins:List (Addr×Obj)}{σ:St}{H:Hp}{s:Shared}{a:Addr}{kvs:List (Key×V)}{k:Key}{u:Value}{A:Around}{E:Value->Shared->Prop}
theorem EE {Q:Value->Shared->Prop} (I:Inv X pins σ H s) (e:Rd H a (.dK kvs)) (h : ∀ t s',Inv X pins σ H s'->Q (.int kvs.length t) s'):aH (model X.prog X.w) A (call (.builtin "len") [.ref a]) Q E s:=by
 obtain⟨z,hd,vs,rel,dd⟩:=xq I.hok e
 refine call_len_dict hd dd (by rw[<- rel.length];rw[sizeLine_eq]at z;omega) ?_
 rw[<- rel.length]
 exact h _ _ (I.tok _)
end
theorem we {X:Cx}{pins:List (Addr×Obj)}{σ:St}{H:Hp}{s:Shared}{a:Addr}{y:V}{o:Option V} (I:Inv X pins σ H s) (g:uR H a y o):s.TypeIs (.ref a) "dict":=by
 rcases g with⟨kvs,k,e,_,_⟩ | ⟨kvs,k,b,e,_,_,_⟩
 ·obtain⟨_,_,vs,_,dd⟩:=xq I.hok e
  exact dd.typeIs
 ·obtain⟨_,_,xs,_,dd⟩:=zr I.hok e
  exact dd.typeIs
section
variable {X:Cx}{o i e value:Expr}{pos pos' tpos:Pos}{td ty tv:TE}
end
theorem xf {P:Program}{w:World}{H:Hp} (h:Heap) (hb:sysModules < h.objs.size):d9 P w H (h.push { cls := .type "dict",data := .dict #[] }) h.objs.size (.dK []):=
 ⟨cn _,beq_eq_false_iff_ne.mpr (cZ (aQ hb)),[],.nil,Heap.DictOf.new h⟩
noncomputable def Dq:TE:=λ_ H Q =>∀p,H p=none->Q (.ref p) (upd H p (.dK []))
section
variable {X:Cx}{pos:Pos}
theorem B8:PE X (.Dict [] [] pos) Dq:=λpins s σ H Q I h=>
 wpAny_Dict_empty ⟨.ref s.heap.objs.size,_,I.laid (a:=s.heap.objs.size) (o:= .dK []) (t':=s.toks) (λ_ _ q=>af _ q) (ah _) (xf s.heap I.big),rfl,h _ (I.hok.fresh (ah _))⟩
end
noncomputable def ze:List (TE×TE)->St->Hp->(List (V×V)->Hp->Prop)->Prop
 | [],_,H,Q=>Q [] H
 | (tk,tv)::r,σ,H,Q=>tk σ H λx H1=>tv σ H1 λy H2=>ze r σ H2 λps H3=>Q ((x,y)::ps) H3
abbrev VV:List (V×V)->List (Value×Value)->Prop:=Paired λp q=>RelV p.1 q.1/\RelV p.2 q.2
noncomputable def PPs(X:Cx)(pos:Pos)(keys:List (Option Expr))(values:List Expr)(trs:List (TE×TE)):Prop:=
 ∀(pins:List (Addr×Obj)) (s:Shared) (σ:St) (H:Hp) (Q:List (V×V)->Hp->Prop),Inv X pins σ H s->ze trs σ H Q ->
  aH (model X.prog X.w) X.A (evalPairs (pairTrees keys values X.env pos)) (λvs s' =>∃ps H',Inv X pins σ H' s'/\VV ps vs/\Q ps H') X.xe s
theorem Gi{X:Cx}{pos:Pos}:PPs X pos [] [] []:=λpins s σ H Q I h=>pairTrees_nil_walk ⟨[],H,I,.nil,h⟩
theorem EG{X:Cx}{pos:Pos}{k v:Expr}{ks:List (Option Expr)}{vs:List Expr}{tk tv:TE}{trs:List (TE×TE)}(hk:PE X k tk)(hv:PE X v tv)(hr:PPs X pos ks vs trs):
  PPs X pos (some k::ks) (v::vs) ((tk,tv)::trs):=λpins s σ H Q I h=>
 pairTrees_cons_walk (thn (hk pins s σ H _ I h) λu s1 ⟨x,H1,I1,rx,q1⟩=>thn (hv pins s1 σ H1 _ I1 q1) λw2 s2 ⟨y,H2,I2,ry,q2⟩=>
  thn (hr pins s2 σ H2 _ I2 q2) λws s3 ⟨ps,H3,I3,rel,q3⟩=>⟨(x,y)::ps,H3,I3,.cons ⟨rx,ry⟩ rel,q3⟩)
noncomputable def oZ(kvs more:List (Key×V)):List (Key×V):=more.foldl (λacc kv=>putK acc kv.1 kv.2) kvs
theorem KV.merge: ∀{more:List (Key×V)}{rs:List (Key×Value)}{kvs:List (Key×V)}{vs:List (Key×Value)},KV more rs->KV kvs vs->KV (oZ kvs more) (merged vs rs):=by
 intro more rs kvs vs r
 unfold KV at r
 induction r generalizing kvs vs with
 | nil=>intro q;exact q
 | @cons p q ps qs h t ih=>
   intro r0
   have e:KV (putK kvs p.1 p.2) (stored vs q.1 q.2):=by
    have:=r0.put p.1 h.2
    rw[<- h.1];exact this
   exact ih e
theorem mz: ∀(more kvs:List (Key×V)),(oZ kvs more).length<=kvs.length+more.length
 | [],kvs=>by show kvs.length<=kvs.length+0;omega
 | p::r,kvs=>by
   have h1:=mz r (putK kvs p.1 p.2)
   have h2:=kN kvs p.1 p.2
   show(oZ (putK kvs p.1 p.2) r).length<=_
   rw[bB];omega
theorem qO{P:Program}{w:World}: ∀{kvs:List (Key×V)}{ws:List (Value×Value)},VV (kvs.map λkv=>(kV kv.1,kv.2)) ws -> ∃rs,Carries (dQ P w) ws rs/\KV kvs rs
 | [],_,r=>by rw[iQ]at r;cases r;exact⟨[],fv,.nil⟩
 | p::kvs,_,r=>by
   rw[bg]at r
   cases r with
   | @cons a b as bs h t=>
     obtain⟨rs,c,q⟩:=qO (P:=P) (w:=w) t
     obtain⟨b1,b2⟩:=b
     exact⟨(p.1,b2)::rs,⟨xQ h.1,rfl,c⟩,.cons ⟨rfl,h.2⟩ q⟩
noncomputable def Ih(trs:List (TE×TE)):TE:=λσ H Q =>∀p,H p=none->ze trs σ (upd H p (.dK [])) λps H2=>H2 p=some (.dK []) /\ ∃kvs:List (Key×V),ps=kvs.map (λkv=>(kV kv.1,kv.2))/\kvs.length<=15/\Q (.ref p) (upd H2 p (.dK (oZ [] kvs)))
theorem GB{X:Cx}{pos:Pos}{keys:List (Option Expr)}{values:List Expr}{trs:List (TE×TE)}(h:PPs X pos keys values trs)(hall:keys.all (·.isSome)=true)(hl:keys.length=values.length)(h0:keys≠[])
  (h15:keys.length<=15):PE X (.Dict keys values pos) (Ih trs):=by
 intro pins s σ H Q I q
 have hn:=I.hok.fresh (ah s.heap.objs.size)
 have I1:=I.laid (a:=s.heap.objs.size) (o := .dK []) (h':=s.heap.push { cls := .type "dict",data := .dict #[] }) (t':=s.toks) (fun _ _ q=>af _ q) (ah _) (xf s.heap I.big)
 refine wpAny_Dict_walk (knd:=dQ X.prog X.w) hall hl h0 h15 (thn (h pins _ σ _ _ I1 (q _ hn)) λws s2 ⟨ps,H2,I2,rel,e,kvs,ep,lk,q2⟩ =>?_)
 subst ep
 obtain⟨rs,c,rk⟩:=qO (P:=X.prog) (w:=X.w) rel
 obtain⟨z,hd,vs0,r0,dd⟩:=Ir I2.hok e
 cases r0
 refine⟨rs,c,dd,λh' dd' hs=>⟨.ref s.heap.objs.size,_,?_,rfl,q2⟩⟩
 have hz:(oZ [] kvs).length<=sizeLine:=by
  have h1:=mz kvs []
  rw[eQ]at h1
  rw[sizeLine_eq];omega
 have he: ∃q,h'.get? s.heap.objs.size=some q:=let ⟨q,_,_,hq,_⟩:=dd';⟨q,hq⟩
 exact vh I2 (by rw[e];exact fv) hs he (Do hz hd (rk.merge .nil) dd')
structure M1(X:Cx)(o:Expr)(m:Str)(apos:Pos)(e:Expr)(cpos:Pos):Prop where
 base:attributeBase o m X.env (eval o X.env)=eval o X.env
 few:((backTo cpos (starEach [e] X.env)).all (λx => !x.1)&&(backToKw cpos (keywordEach [] X.env)).all (λx=>x.1.isSome)
  && decide (([e]:List Expr).length+([]:List Keyword).length+(if ([]:List Keyword).isEmpty then 0 else 1)<30))=true
 line:(apos.endLine==cpos.line)=true
 trees:backTo cpos (starEach [e] X.env) = [(false,eval e X.env)]
structure M2(X:Cx)(o:Expr)(m:Str)(apos:Pos)(e f:Expr)(cpos:Pos):Prop where
 base:attributeBase o m X.env (eval o X.env)=eval o X.env
 few:((backTo cpos (starEach [e,f] X.env)).all (λx => !x.1)&&(backToKw cpos (keywordEach [] X.env)).all (λx=>x.1.isSome)
  && decide (([e,f]:List Expr).length+([]:List Keyword).length+(if ([]:List Keyword).isEmpty then 0 else 1)<30))=true
 line:(apos.endLine==cpos.line)=true
 trees:backTo cpos (starEach [e,f] X.env) = [(false,eval e X.env),(false,eval f X.env)]
section
variable {X:Cx}{pins:List (Addr×Obj)}{σ:St}{H:Hp}{s:Shared}{a:Addr}{y d:V}{u r:Value}{o:Option V}{A:Around}{E:Value->Shared->Prop}
end
section
variable {X:Cx}{o e f:Expr}{apos cpos:Pos}{td ty tx:TE}
end
section
variable {X:Cx}{pins:List (Addr×Obj)}{σ:St}{H:Hp}{s:Shared}{a:Addr}{kvs:List (Key×V)}{A:Around}{E:Value->Shared->Prop}
end
section
variable {X:Cx}{pins:List (Addr×Obj)}{σ:St}{H:Hp}{s:Shared}{a:Addr}{y:V}{u:Value}{A:Around}{E:Value->Shared->Prop}
end
end _L
namespace _L
open PySem PySem.Spec PyProof.Rows
section
variable {X:Cx}
theorem Aw:gS X (.builtin "len") (fun xs H Q => ∃ a kvs,xs = [V.ref a]/\H a=some (.dK kvs)/\Q (.int kvs.length) H):=by
 intro pins s σ H xs us Q I r h
 obtain⟨a,kvs,rfl,ha,q⟩:=h
 obtain⟨u,rfl,ru⟩:=vals1 r
 cases ru
 exact EE I (.inl ha) λt s' I'=>⟨.int kvs.length,H,I',⟨t,rfl⟩,q⟩
end
section
variable {κ:Type} [DecidableEq κ]
end
end _L
end
section
namespace PySem
open Sem (wp)
noncomputable def jo(env:Env):List (Str×NameKind)->List (Str×Addr)->List (Str×Addr)
 | [],acc=>acc
 | (n,k)::r,acc=>if k==.free then jo env r ((n,(env.cells.lookup n).getD 0)::acc) else jo env r acc
theorem iY{scope:Scope}{env:Env}(h: ∀y∈scope.names,y.2 = .free -> ∃c,env.cells.lookup y.1=some c):closureFor scope env=pure (jo env scope.names []):=by
 simp only[closureFor]
 have go: ∀(names:List (Str×NameKind)) (acc:List (Str×Addr)),(∀y∈names,y.2 = .free -> ∃c,env.cells.lookup y.1=some c) ->
   (forIn (m:=Sem) names acc λx r=>if (x.2==aX)=true then cellOf env x.1 >>= λa=>pure (dF ((x.1,a)::r)) else pure (dF r))=pure (jo env names acc):=by
  intro names
  induction names with
  | nil=>intro acc _;rfl
  | cons y r ih=>
    intro acc hy
    obtain⟨n,k⟩:=y
    rw[fN]
    by_cases hk:k = .free
    ·subst hk
     obtain⟨c,hc⟩:=hy (n,.free) aZ rfl
     have e1:cellOf env n=pure c:=by unfold cellOf;rw[hc]
     have e2:jo env ((n,aX)::r) acc=jo env r ((n,c)::acc):=by
      show(if (aX==aX)=true then _ else _)=_
      rw[if_pos (by decide),hc];rfl
     rw[e2,<- ih _ λz hz=>hy z (aC _ hz)]
     simp only[beq_self_eq_true,if_true,e1]
     rfl
    ·have hb:(k==aX)=false:=by simpa using hk
     have e2:jo env ((n,k)::r) acc=jo env r acc:=by
      show(if (k==aX)=true then _ else _)=_
      rw[if_neg (by rw[hb];decide)]
     rw[e2,<- ih _ λz hz=>hy z (aC _ hz)]
     simp only[hb,fw,if_false]
     rfl
 exact(congrArg (λz=>z >>= pure) (go scope.names [] h)).trans rfl
theorem nS{env:Env}: ∀(names:List (Str×NameKind)) (acc:List (Str×Addr)),(∀y∈names,y.2 = .free -> ∃c,env.cells.lookup y.1=some c) -> ∀x c,(jo env names acc).lookup x=some c->env.cells.lookup x=some c\/acc.lookup x=some c
 | [],_,_,_,_,h => .inr h
 | (n,k)::r,acc,hy,x,c,h=>by
   unfold jo at h
   split at h
   ·rename_i hk
    have hk':k = .free:=by simpa using hk
    subst hk'
    obtain⟨d,hd⟩:=hy (n,.free) aZ rfl
    rcases nS r _ (λz hz=>hy z (aC _ hz)) x c h with e |e
    ·exact .inl e
    ·rw[aW]at e
     cases hb:x==n with
     | true=>
       rw[hb]at e
       rw[beq_iff_eq.mp hb,hd]
       rw[hd]at e
       exact .inl e
     | false=>rw[hb]at e;exact .inr e
   ·exact nS r acc (λz hz=>hy z (aC _ hz)) x c h
theorem ox{env:Env}{x:Str}: ∀(names:List (Str×NameKind)) (acc:List (Str×Addr)),(names.lookup x=some .free\/(acc.lookup x).isSome=true)->((jo env names acc).lookup x).isSome=true
 | [],_,h=>h.elim (λe=>by cases e) id
 | (y,k)::r,acc,h=>by
   unfold jo
   by_cases hk:(k==.free)=true
   ·rw[if_pos hk]
    refine ox r ((y,(env.cells.lookup y).getD 0)::acc) ?_
    by_cases hy:(x==y)=true
    ·exact .inr (by rw[aW,hy];rfl)
    ·refine h.imp (λe =>?_) λe =>?_
     ·rw[aW]at e;simpa only [hy]using e
     ·rw[aW];simpa only [hy]using e
   ·rw[if_neg hk]
    refine ox r acc ?_
    refine h.imp (λe =>?_) id
    rw[aW]at e
    cases hb:x==y with
    | true=>rw[hb]at e;cases e;exact absurd rfl hk
    | false=>rw[hb]at e;exact e
theorem ff: ∀(names:List (Str×NameKind)) (n:Nat) (acc:List (Str×Addr)),cellsFrom n names acc=cellsFrom n names []++acc
 | [],_,_=>rfl
 | (y,k)::r,n,acc=>by
   unfold cellsFrom
   split
   ·rw[ff r (n+1) ((y,n)::acc),ff r (n+1) [(y,n)],bz];rfl
   ·exact ff r n acc
theorem jF{x:Str}: ∀(names:List (Str×NameKind)) (n:Nat) (acc:List (Str×Addr)) (c:Addr),(cellsFrom n names acc).lookup x=some c->(∃k∈names,k.1=x/\k.2 = .cell)\/acc.lookup x=some c
 | [],_,_,_,h => .inr h
 | (y,k)::r,n,acc,c,h=>by
   unfold cellsFrom at h
   split at h
   ·rename_i hk
    rcases jF r _ _ c h with⟨z,hz,e⟩ |e
    ·exact .inl ⟨z,aC _ hz,e⟩
    ·rw[aW]at e
     cases hb:x==y with
     | true=>exact .inl ⟨(y,k),aZ,(beq_iff_eq.mp hb).symm,by simpa using hk⟩
     | false=>rw[hb]at e;exact .inr e
   ·rcases jF r _ _ c h with⟨z,hz,e⟩ |e
    ·exact .inl ⟨z,aC _ hz,e⟩
    ·exact .inr e
section
variable {M:Model}{A:Around}{E:Value->Shared->Prop}{s:Shared}
theorem nG{scope:Scope}{globals:Addr}{cl:List (Str×Addr)}{qual:Str}{env:Env}{Q:Env->Shared->Prop}
  (hQ:Q { scope:=scope,locals:=s.heap.objs.size,globals:=globals,cells:=cellsFrom (s.heap.objs.size+1) scope.names cl,qual:=qual,func:=none,code:=env.code,frame:=env.frame,builtins:=env.builtins }
   { s with heap:=pushCells (s.heap.push { cls := .type "dict",data := .dict #[] }) scope.names }) :
  aH M A (newFunctionEnv scope globals cl [] qual none .none (some env)) Q E s:=by
 simp only[newFunctionEnv,Fc,if_true]
 refine ab (wpAny_alloc ?_)
 refine ab (wpAny_layCells _ (λname kind cells=>by cases hkc:kind==cM <;> simp[hkc]) _ _ _ _ ?_)
 rw [show ({ s with heap:=s.heap.push { cls := .type "dict",data := .dict #[] } }:Shared).heap.objs.size=s.heap.objs.size+1 from ba ..]
 exact ar hQ
end
section
variable {prog:Program}{w:World}{A:Around}{R:Result->Shared->Prop}{s:Shared}
theorem lA{elt target iter:Expr}{ifs:List Expr}{scope:Scope}{pos:Pos}{it acc:Value}{env:Env}(I:Nat->Shared->Prop)
  (turn: ∀n s,I n s->aH (model prog w) A (pyNext it) (λr s₁=>match r with
   | none=>R (.ok .next) s₁
   | some v=>aH (model prog w) A (letOwnedTupleGo target it v) (λ_ s₁=>aH (model prog w) A (assign target env v) (λ_ s₂=>
     aH (model prog w) A (forIn ifs true λc r=>if r=true then do let ok <- isTrue c env (eval c env);pure (dF ok) else pure (dF r)) (λok s₃=>
      if ok=true then aH (model prog w) A (eval elt env) (λx s₄=>
       aH (model prog w) A (call (.builtin "list.append") [acc,x]) (fun _ s₅ => ∃ m,m < n/\I m s₅) (fun _ _=>False) s₄) (fun _ _=>False) s₃
      else ∃m,m<n/\I m s₃) (λ_ _=>False) s₂) (λ_ _=>False) s₁) (λ_ _=>False) s₁) (λ_ _=>False) s)
  (n:Nat) (h:I n s):
  sv (model prog w) A (.compLoop (.ListComp elt [⟨target,iter,ifs,0⟩] scope pos) 0 it acc env) R s:=by
 refine codeAny_loop rfl I (λn s hI =>?_) n h
 show aH _ A ((compTurn (.ListComp elt [⟨target,iter,ifs,0⟩] scope pos) 0 it acc env).onRaise (λx=>do noteFrame x env;theTreesLotGoes x)) _ _ s
 refine wpAny_noted ?_
 rw[compTurn_list]
 refine ab (wpAny_standAt (ab (dc (turn n s hI) (λr s₁ h₁ =>?_) λ_ _ h'=>h'.elim)))
 cases r with
 | none=>exact ar h₁
 | some v=>
   refine ab (dc h₁ (λ_ s₁ h₁ =>?_) λ_ _ h'=>h'.elim)
   refine ab (dc h₁ (λ_ s₂ h₂=>ab (dc h₂ (λok s₃ h₃ =>?_) λ_ _ h'=>h'.elim)) λ_ _ h'=>h'.elim)
   cases ok with
   | false=>exact ar ⟨rfl,h₃⟩
   | true=>
     exact ab (ab (dc h₃ (λx s₄ h₄=>ab (dc h₄ (λ_ s₅ h₅=>ar (ar ⟨rfl,h₅⟩)) λ_ _ h'=>h'.elim)) λ_ _ h'=>h'.elim))
end
end PySem
end
section
namespace _G
open PySem
section
inductive U where
 | non |bl (b:Bool) |int (i:Int) |str (x:Str) |tup (us:List U) |ref (n:Nat) |obj (a:Addr)
 deriving Inhabited
inductive Cell where
 | lst (us:List U)
 | frz (us:List U)
 | dic (kvs:List (_L.Key×U))
 deriving Inhabited
abbrev Sto:=List Cell
abbrev Rho:=List (Option U)
abbrev Res(α:Type):=Option (α×Sto)
abbrev ME:=Rho->Sto->Res U
abbrev MT:=Rho->Sto->Res Bool
abbrev MA:=Rho->Sto->Res (List U)
abbrev MF:=List U->Sto->Res U
noncomputable def bnd{α β:Type}(r:Option (α×Sto))(k:α->Sto->Option β):Option β:=match r with
 | none=>none
 | some p=>k p.1 p.2
theorem aF{α β:Type}{a:α}{S:Sto}{k:α->Sto->Option β}:bnd (some (a,S)) k=k a S:=rfl
theorem bc{α β:Type}{r:Option (α×Sto)}{k:α->Sto->Option β}{b:β}(h:bnd r k=some b): ∃a S,r=some (a,S)/\k a S=some b:=by
 cases r with
 | none=>cases h
 | some p=>exact⟨p.1,p.2,rfl,h⟩
noncomputable def big:Nat:=16777216
noncomputable def getL(S:Sto)(n:Nat):Option (List U):=match S[n]? with
 | some (.lst us)=>some us
 | some (.frz us)=>some us
 | some (.dic _)=>none
 | none=>none
noncomputable def cut{α:Type}(xs:List α)(lo hi:Option Int):List α:=(xs.drop (HT.sIx xs.length 0 lo)).take (HT.sIx xs.length xs.length hi - HT.sIx xs.length 0 lo)
abbrev F2:=U->U->Sto->Res U
noncomputable def cP:F2:=λx y S=>match x,y with
 | .int i,.int j=>some (.int (i+j),S)
 | .tup xs,.tup ys=>if xs.length+ys.length<=big then some (.tup (xs++ys),S) else none
 | .ref n,.ref m=>match S[n]?,S[m]? with
   | some (.lst xs),some (.lst ys)=>if xs.length+ys.length<=big then some (.ref S.length,S++[.lst (xs++ys)]) else none
   | _,_=>none
 | _,_=>none
noncomputable def mR:F2:=λx y S=>match x,y with
 | .int i,.int j=>some (.int (i - j),S)
 | _,_=>none
noncomputable def jx(i j:Int):Prop:=(-(2 ^ 64)<i/\i<2 ^ 64)\/(-(2 ^ 64)<j/\j<2 ^ 64)
noncomputable instance(i j:Int):Decidable (jx i j):=bV _
noncomputable def Cg(n:Nat)(k:Int):Prop:=0<=k/\k<1000/\0<n/\n<1000
noncomputable instance(n:Nat)(k:Int):Decidable (Cg n k):=bV _
noncomputable def gI:F2:=λx y S=>match x,y with
 | .int i,.int j=>if jx i j then some (.int (i*j),S) else none
 | .tup xs,.int k=>if Cg xs.length k then some (.tup (aR k.toNat xs).flatten,S) else none
 | _,_=>none
noncomputable def rf(j:Int):Prop:=0<j/\j<1073741824
noncomputable instance(j:Int):Decidable (rf j):=bV _
noncomputable def oDiv:F2:=λx y S=>match x,y with
 | .int i,.int j=>if rf j then some (.int (i / j),S) else none
 | _,_=>none
noncomputable def oMod:F2:=λx y S=>match x,y with
 | .int i,.int j=>if 0<j then some (.int (i % j),S) else none
 | _,_=>none
noncomputable def IJ(i j:Int):Prop:=0<=j/\j<=1000000/\i.natAbs<2 ^ 64
noncomputable instance(i j:Int):Decidable (IJ i j):=bV _
noncomputable def nQ:F2:=λx y S=>match x,y with
 | .int i,.int j=>if IJ i j then some (.int (i ^ j.toNat),S) else none
 | _,_=>none
noncomputable def AC(p:Int->Int->Bool):F2:=λx y S=>match x,y with
 | .int i,.int j=>some (.bl (p i j),S)
 | _,_=>none
abbrev oLt:F2:=AC λi j=>decide (i<j)
abbrev oLe:F2:=AC λi j=>decide (i<=j)
abbrev oGt:F2:=AC λi j=>decide (j<i)
abbrev oGe:F2:=AC λi j=>decide (j<=i)
noncomputable def eP(S:Sto):U->Option (List U)
 | .tup us=>some us
 | .ref n=>getL S n
 | _=>none
noncomputable def dq{α β:Type}(f:α->Option β):List α->Option (List β)
 | []=>some []
 | x::xs=>(f x).bind λy=>(dq f xs).map λys=>y::ys
noncomputable def toD(S:Sto):Nat->U->Option PyData
 | 0,_=>none
 | _+1,.non=>some .none
 | _+1,.bl b=>some (.bool b)
 | _+1,.int i=>some (.int i)
 | _+1,.str x=>if iD (.str x)=true then some (.str x) else none
 | f+1,.tup us=>(dq (toD S f) us).map .tuple
 | f+1,.ref n=>(getL S n).bind λus=>(dq (toD S f) us).map .list
 | _+1,.obj _=>none
noncomputable def eqU(S:Sto)(x y:U):Option Bool:=(toD S 40 x).bind λa=>(toD S 40 y).map λb=>jK a b
noncomputable def oEq:F2:=λx y S=>(eqU S x y).map λb=>(.bl b,S)
noncomputable def oNe:F2:=λx y S=>(eqU S x y).map λb=>(.bl (!b),S)
noncomputable def keyOf:U->Option _L.Key
 | .int i=>some (.inl i)
 | .str x=>some (.inr x)
 | _=>none
noncomputable def i7(kvs:List (_L.Key×U))(k:_L.Key):Option U:=(kvs.find? λkv=>decide (kv.1=k)).map (·.2)
noncomputable def jN(kvs:List (_L.Key×U))(k:_L.Key)(u:U):List (_L.Key×U):=
 if (kvs.any λkv=>decide (kv.1=k))=true then kvs.map (λkv=>if kv.1=k then(kv.1,u) else kv) else kvs++[(k,u)]
noncomputable def gf(S:Sto):U->Option (List (_L.Key×U))
 | .ref n=>match S[n]? with
   | some (.dic kvs)=>some kvs
   | _=>none
 | _=>none
noncomputable def oIx:F2:=λx y S=>match gf S x with
 | some kvs=>(keyOf y).bind λk=>(i7 kvs k).map λu=>(u,S)
 | none=>match y with
   | .int i=>((eP S x).bind λus=>_L.atI us i).map λu=>(u,S)
   | _=>none
noncomputable def ae(i:Nat):ME:=λρ S=>match ρ[i]? with
 | some (some u)=>some (u,S)
 | _=>none
noncomputable def mC(u:U):ME:=λ_ S=>some (u,S)
noncomputable def m1(f:U->Sto->Res U)(a:ME):ME:=λρ S=>bnd (a ρ S) λx S1=>f x S1
noncomputable def m2(f:F2)(a b:ME):ME:=λρ S=>bnd (a ρ S) λx S1=>bnd (b ρ S1) λy S2=>f x y S2
noncomputable def ak:MA:=λ_ S=>some ([],S)
noncomputable def aa(a:ME)(r:MA):MA:=λρ S=>bnd (a ρ S) λx S1=>bnd (r ρ S1) λxs S2=>some (x::xs,S2)
noncomputable def cX(a:MA):ME:=λρ S=>bnd (a ρ S) λxs S1=>if xs.length<=big then some (.tup xs,S1) else none
noncomputable def dn(a:MA):ME:=λρ S=>bnd (a ρ S) λxs S1=>if xs.length<=big then some (.ref S1.length,S1++[.lst xs]) else none
noncomputable def mFn(f:MF)(a:MA):ME:=λρ S=>bnd (a ρ S) λxs S1=>f xs S1
noncomputable def pR:U->Sto->Res U:=λx S=>match x with
 | .int i=>some (.int (-i),S)
 | _=>none
noncomputable def wm(c:MT)(a b:ME):ME:=λρ S=>bnd (c ρ S) λk S1=>if k then a ρ S1 else b ρ S1
noncomputable def zW:Option ME->Rho->Sto->Res (Option Int)
 | none=>λ_ S=>some (none,S)
 | some a=>λρ S=>bnd (a ρ S) λx S1=>match x with
   | .int i=>some (some i,S1)
   | _=>none
noncomputable def mSl(a:ME)(lo hi:Option ME):ME:=λρ S=>bnd (a ρ S) λx S1=>bnd (zW lo ρ S1) λl S2=>bnd (zW hi ρ S2) λh S3=>match x with
 | .tup us=>some (.tup (cut us l h),S3)
 | .ref n=>(getL S3 n).map λus=>(.ref S3.length,S3++[.lst (cut us l h)])
 | _=>none
noncomputable def cOf(a:ME):MT:=λρ S=>bnd (a ρ S) λx S1=>match x with
 | .bl b=>some (b,S1)
 | _=>none
noncomputable def tH(a b:MT):MT:=λρ S=>bnd (a ρ S) λk S1=>if k then b ρ S1 else some (false,S1)
noncomputable def cOr(a b:MT):MT:=λρ S=>bnd (a ρ S) λk S1=>if k then some (true,S1) else b ρ S1
noncomputable def vg(a:MT):MT:=λρ S=>bnd (a ρ S) λk S1=>some (!k,S1)
noncomputable def cTT:MT:=λ_ S=>some (true,S)
inductive Src where
 | imm (us:List U)
 | mut (n:Nat)
 | enl (n:Nat)
 | zlt (n:Nat) (us:List U)
abbrev MI:=Rho->Sto->Option (Src×Sto)
noncomputable def okR(i:Int):Prop:= -(2 ^ 62)<=i/\i<2 ^ 62
noncomputable instance(i:Int):Decidable (okR i):=bV _
noncomputable def bK(i:Int)(n:Nat):List U:=(aB n).map λ(k:Nat) => .int (i+k)
noncomputable def iR1(a:MA):MI:=λρ S=>bnd (a ρ S) λxs S1=>match xs with
 | [.int j]=>if okR j then some (.imm (bK 0 j.toNat),S1) else none
 | _=>none
noncomputable def iR2(a:MA):MI:=λρ S=>bnd (a ρ S) λxs S1=>match xs with
 | [.int i,.int j]=>if okR i/\okR j then some (.imm (bK i (j - i).toNat),S1) else none
 | _=>none
noncomputable def cu(a:ME):MI:=λρ S=>bnd (a ρ S) λx S1=>match x with
 | .tup us=>some (.imm us,S1)
 | .ref n=>(getL S1 n).map λ_=>(.mut n,S1)
 | _=>none
noncomputable def ID(us:List U):List U:=us.mapIdx λi u => .tup [.int i,u]
noncomputable def CU(a:MA):MI:=λρ S=>bnd (a ρ S) λxs S1=>match xs with
 | [.tup us]=>some (.imm (ID us),S1)
 | [.ref n]=>(getL S1 n).map λ_=>(.enl n,S1)
 | _=>none
noncomputable def xS(a:MA):MI:=λρ S=>bnd (a ρ S) λxs S1=>match xs with
 | [.ref n,.tup us]=>(getL S1 n).map λ_=>(.zlt n us,S1)
 | _=>none
noncomputable def hG(t:MT)(e:ME)(ρ:Rho):List U->List U->Sto->Res (List U)
 | [],acc,S=>some (acc,S)
 | x::xs,acc,S=>bnd (t (ρ++[some x]) S) λk S1=>if k then bnd (e (ρ++[some x]) S1) λy S2=>hG t e ρ xs (acc++[y]) S2 else hG t e ρ xs acc S1
noncomputable def ib(t:MT)(e:ME)(ρ:Rho)(n:Nat):Nat->Nat->List U->Sto->Res (List U)
 | 0,_,_,_=>none
 | f+1,i,acc,S=>(getL S n).bind λus=>match us[i]? with
   | none=>some (acc,S)
   | some x=>bnd (t (ρ++[some x]) S) λk S1=>if k then bnd (e (ρ++[some x]) S1) λy S2=>ib t e ρ n f (i+1) (acc++[y]) S2 else ib t e ρ n f (i+1) acc S1
noncomputable def fuel:Nat:=100000
noncomputable def xh(t:MT)(e:ME)(ρ:Rho):Src->Sto->Res (List U)
 | .imm us,S=>hG t e ρ us [] S
 | .mut n,S=>ib t e ρ n fuel 0 [] S
 | _,_=>none
noncomputable def ck(it:MI)(t:MT)(e:ME):ME:=λρ S=>bnd (it ρ S) λsrc S1=>bnd (xh t e ρ src S1) λys S2=>if ys.length<big then some (.ref S2.length,S2++[.lst ys]) else none
inductive Fl where
 | nx |rt (u:U) |bk |ct
abbrev MS:=Rho->Sto->Option (Fl×Rho×Sto)
noncomputable def eC:MS:=λρ S=>some (.nx,ρ,S)
noncomputable def br(a b:MS):MS:=λρ S=>match a ρ S with
 | some (.nx,ρ1,S1)=>b ρ1 S1
 | r=>r
noncomputable def bJ(i:Nat)(e:ME):MS:=λρ S=>bnd (e ρ S) λx S1=>some (.nx,ρ.set i (some x),S1)
noncomputable def eA(o i e:ME):MS:=λρ S=>bnd (e ρ S) λx S1=>bnd (o ρ S1) λp S2=>bnd (i ρ S2) λj S3=>match p with
 | .ref n=>match S3[n]? with
   | some (.lst us)=>(match j with
     | .int k=>(_L.ixN us.length k).map λm=>(.nx,ρ,S3.set n (.lst (us.set m x)))
     | _=>none)
   | some (.dic kvs)=>(keyOf j).bind λk=>if kvs.length<big then some (.nx,ρ,S3.set n (.dic (jN kvs k x))) else none
   | _=>none
 | _=>none
noncomputable def dN(e:ME):MS:=λρ S=>bnd (e ρ S) λ_ S1=>some (.nx,ρ,S1)
noncomputable def eg(e:ME):MS:=λρ S=>bnd (e ρ S) λx S1=>some (.rt x,ρ,S1)
noncomputable def sIf(c:MT)(a b:MS):MS:=λρ S=>bnd (c ρ S) λk S1=>if k then a ρ S1 else b ρ S1
noncomputable def aft(r:Option (Fl×Rho×Sto))(k:MS):Option (Fl×Rho×Sto):=match r with
 | some (.nx,ρ1,S1)=>k ρ1 S1
 | some (.ct,ρ1,S1)=>k ρ1 S1
 | some (.bk,ρ1,S1)=>some (.nx,ρ1,S1)
 | r=>r
noncomputable def vJ(i:Nat)(b:MS):List U->MS
 | [],ρ,S=>some (.nx,ρ,S)
 | x::xs,ρ,S=>aft (b (ρ.set i (some x)) S) (vJ i b xs)
noncomputable def forL(i:Nat)(b:MS)(n:Nat):Nat->Nat->MS
 | 0,_,_,_=>none
 | f+1,k,ρ,S=>(getL S n).bind λus=>match us[k]? with
   | none=>some (.nx,ρ,S)
   | some x=>aft (b (ρ.set i (some x)) S) (forL i b n f (k+1))
noncomputable def OH(i:Nat)(b:MS):Src->MS
 | .imm us=>vJ i b us
 | .mut n=>forL i b n fuel 0
 | _=>λ_ _=>none
noncomputable def eX(i:Nat)(it:MI)(b:MS):MS:=λρ S=>bnd (it ρ S) λsrc S1=>OH i b src ρ S1
noncomputable def whl(c:MT)(b:MS):Nat->MS
 | 0,_,_=>none
 | f+1,ρ,S=>bnd (c ρ S) λk S1=>if k then aft (b ρ S1) (whl c b f) else some (.nx,ρ,S1)
noncomputable def jl(c:MT)(b:MS):MS:=whl c b fuel
noncomputable def run(k n:Nat)(b:MS):MF:=λus S=>if us.length=k then match b (us.map some++aR (n - k) none) S with
  | some (.rt u,_,S1)=>some (u,S1)
  | some (.nx,_,S1)=>some (.non,S1)
  | _=>none
 else none
noncomputable def cN:MF:=λus S=>match us with
 | [x]=>(match gf S x with
   | some kvs=>some (.int kvs.length,S)
   | none=>(eP S x).map λxs=>(.int xs.length,S))
 | _=>none
noncomputable def cy:MF:=λus S=>match us with
 | [x]=>(eP S x).map λxs=>(.tup xs,S)
 | _=>none
noncomputable def sR:MF:=λus S=>match us with
 | [.int i,.int j]=>some (.int (if j > i then j else i),S)
 | _=>none
noncomputable def vj:U->Option Int
 | .int i=>some i
 | _=>none
noncomputable def mG:U->Option (List Int)
 | .tup us=>dq vj us
 | _=>none
noncomputable def sW:MF:=λus S=>match us with
 | [.int i,.int j]=>some (.int (if j<i then j else i),S)
 | _=>none
noncomputable def kh(it:MI):ME:=λρ S=>bnd (it ρ S) λsrc S1=>match src with
 | .imm us=>if us.length<=big then some (.ref S1.length,S1++[.lst us]) else none
 | _=>none
noncomputable def rq(it:MI):ME:=λρ S=>bnd (it ρ S) λsrc S1=>match src with
 | .imm us=>if us.length<=big then some (.tup us,S1) else none
 | _=>none
noncomputable def tyU(S:Sto):U->Option String
 | .non=>some "NoneType"
 | .bl _=>some "bool"
 | .int _=>some "int"
 | .str _=>some "str"
 | .tup _=>some "tuple"
 | .ref n=>match S[n]? with
   | some (.lst _)=>some "list"
   | some (.dic _)=>some "dict"
   | _=>none
 | .obj _=>none
noncomputable def Ka(d:PyData):Prop:=d.showable=true/\d.shown.length<=sizeLine
noncomputable instance(d:PyData):Decidable (Ka d):=bV _
noncomputable def Ft (t T:String):Bool:=t == T||(t == "bool"&&T == "int")
noncomputable def mX(T:String):U->Sto->Res U:=λx S=>(tyU S x).map λt=>(.bl (Ft t T),S)
noncomputable def mML(f:Nat->List U->Sto->Res U)(o:ME)(a:MA):ME:=λρ S=>bnd (o ρ S) λp S1=>match p with
 | .ref n=>(getL S1 n).bind λ_=>bnd (a ρ S1) λxs S2=>f n xs S2
 | _=>none
noncomputable def du:Nat->List U->Sto->Res U:=λn xs S=>match xs with
 | [x]=>match S[n]? with
   | some (.lst us)=>if us.length<big then some (.non,S.set n (.lst (us++[x]))) else none
   | _=>none
 | _=>none
noncomputable def ke:Nat->List U->Sto->Res U:=λn xs S=>match xs with
 | [.int i]=>match S[n]? with
   | some (.lst us)=>if okR i then(_L.ixN us.length i).bind λj=>us[j]?.map λy=>(y,S.set n (.lst (us.eraseIdx j))) else none
   | _=>none
 | _=>none
noncomputable def ow:Nat->List U->Sto->Res U:=λn xs S=>match xs with
 | []=>match S[n]? with
   | some (.lst us)=>us[us.length - 1]?.map λy=>(y,S.set n (.lst us.dropLast))
   | _=>none
 | _=>none
noncomputable def mMT(f:List U->List U->Sto->Res U)(o:ME)(a:MA):ME:=λρ S=>bnd (o ρ S) λp S1=>match p with
 | .tup us=>bnd (a ρ S1) λxs S2=>f us xs S2
 | _=>none
end
end _G
end
section
namespace _L
open PySem PySem.Spec PyProof.Rows
noncomputable def blk(X:Cx)(N':List Str)(scope:Scope)(s₂:Shared)(H₂:Hp)(fp:List Addr):Cx:=
 { X with
  N:=N'
  s₀:=s₂
  H₀:=H₂
  env:={ scope:=relabel scope X.env,locals:=s₂.heap.objs.size+1,globals:=X.env.globals,cells:=cellsFrom (s₂.heap.objs.size+2) scope.names (jo X.env scope.names []),qual:=X.env.qual,func:=none,code:=X.env.code,frame:=X.env.frame,builtins:=X.env.builtins }
  outer:=X.stack
  ex:=fp
  fn:=λx=>scope.names.lookup x==some .cell
  pn:= []
  xe:=λ_ _=>False }
structure g8(X:Cx)(N':List Str)(scope:Scope)(xs:List Str):Prop where
 kind:scope.kind = .function
 nd:(scope.names.map (·.1)).Nodup
 free: ∀y∈scope.names,y.2 = .free->X.env.kindOf y.1=some .cell\/X.env.kindOf y.1=some .free
 own: ∀x∈xs,scope.names.lookup x=some .local\/scope.names.lookup x=some .cell
 ndN:N'.Nodup
 len:N'.length=X.N.length+xs.length
 last: ∀(j:Nat) (x:Str),xs[j]? = some x->N'[X.N.length+j]? = some x
 vis: ∀(i:Nat) (y:Str),i<X.N.length->N'[i]? = some y->(scope.names.lookup y=some .local\/scope.names.lookup y=some .cell\/scope.names.lookup y=some .free)->X.N[i]? = some y/\scope.names.lookup y=some .free
theorem gU{env:Env}: ∀{names:List (Str×NameKind)}{x:Str}{k:NameKind},
  (names.map λ(n,k)=>if (k==aX&&env.scope.kind==.function&&env.kindOf n==some .cell) then(n,cM) else(n,k)).lookup x=some k ->
  names.lookup x=some k\/(names.lookup x=some .free/\k = .cell)
 | [],_,_,h=>by simp at h
 | (n,k')::r,x,k,h=>by
   have ih:= @gU env r x k
   have h':oC x ((if (k'==aX&&env.scope.kind==.function&&env.kindOf n==some .cell)=true then(n,cM) else(n,k'))::(r.map λ(n,k)=>if (k==aX&&env.scope.kind==.function&&env.kindOf n==some .cell) then(n,cM) else(n,k)))=some k:=h
   by_cases hc:(k'==aX&&env.scope.kind==.function&&env.kindOf n==some .cell)=true
   ·rw[if_pos hc]at h'
    rw[aW]at h' ⊢
    cases hx:x==n with
    | true=>
      rw[hx]at h'
      have hk:k' = .free:=by
       rw[ay,ay]at hc
       simpa using hc.1.1
      subst hk
      exact .inr ⟨rfl,(bR h').symm⟩
    | false=>rw[hx]at h';exact ih h'
   ·rw[if_neg hc]at h'
    rw[aW]at h' ⊢
    cases hx:x==n with
    | true=>rw[hx]at h';exact .inl h'
    | false=>rw[hx]at h';exact ih h'
theorem ja{env:Env}: ∀{names:List (Str×NameKind)}{x:Str},names.lookup x=some .cell ->
  (names.map λ(n,k)=>if (k==aX&&env.scope.kind==.function&&env.kindOf n==some .cell) then(n,cM) else(n,k)).lookup x=some .cell
 | [],_,h=>by simp at h
 | (n,k')::r,x,h=>by
   have ih:= @ja env r x
   show oC x ((if (k'==aX&&env.scope.kind==.function&&env.kindOf n==some .cell)=true then(n,cM) else(n,k'))::_)=_
   rw[aW]at h
   cases hx:x==n with
   | true=>
     rw[hx]at h
     cases h
     simp[aW,hx]
   | false=>
     rw[hx]at h
     by_cases hc:(k'==aX&&env.scope.kind==.function&&env.kindOf n==some .cell)=true
     ·rw[if_pos hc];simp only[aW,hx];exact ih h
     ·rw[if_neg hc];simp only[aW,hx];exact ih h
theorem j8{env:Env}: ∀{names:List (Str×NameKind)}{x:Str},names.lookup x=some .free ->
  (names.map λ(n,k)=>if (k==aX&&env.scope.kind==.function&&env.kindOf n==some .cell) then(n,cM) else(n,k)).lookup x=some .cell \/
  (names.map λ(n,k)=>if (k==aX&&env.scope.kind==.function&&env.kindOf n==some .cell) then(n,cM) else(n,k)).lookup x=some .free
 | [],_,h=>by simp at h
 | (n,k')::r,x,h=>by
   have ih:= @j8 env r x
   show oC x ((if (k'==aX&&env.scope.kind==.function&&env.kindOf n==some .cell)=true then(n,cM) else(n,k'))::_)=_\/oC x ((if (k'==aX&&env.scope.kind==.function&&env.kindOf n==some .cell)=true then(n,cM) else(n,k'))::_)=_
   rw[aW]at h
   by_cases hc:(k'==aX&&env.scope.kind==.function&&env.kindOf n==some .cell)=true
   ·rw[if_pos hc]
    cases hx:x==n with
    | true=>exact .inl (by simp[aW,hx])
    | false=>
      rw[hx]at h
      simp only[aW,hx];exact ih h
   ·rw[if_neg hc]
    cases hx:x==n with
    | true=>rw[hx]at h;cases h;exact .inr (by simp[aW,hx])
    | false=>
      rw[hx]at h
      simp only[aW,hx];exact ih h
theorem nX{env:Env}: ∀{names:List (Str×NameKind)}{x:Str},names.lookup x=some .globalImplicit ->
  (names.map λ(n,k)=>if (k==aX&&env.scope.kind==.function&&env.kindOf n==some .cell) then(n,cM) else(n,k)).lookup x=some .globalImplicit
 | [],_,h=>by simp at h
 | (n,k')::r,x,h=>by
   have ih:= @nX env r x
   show oC x ((if (k'==aX&&env.scope.kind==.function&&env.kindOf n==some .cell)=true then(n,cM) else(n,k'))::_)=_
   rw[aW]at h
   cases hx:x==n with
   | true=>
     rw[hx]at h
     cases h
     simp[aW,hx]
   | false=>
     rw[hx]at h
     by_cases hc:(k'==aX&&env.scope.kind==.function&&env.kindOf n==some .cell)=true
     ·rw[if_pos hc];simp only[aW,hx];exact ih h
     ·rw[if_neg hc];simp only[aW,hx];exact ih h
theorem jZ: ∀{names:List (Str×NameKind)}{x:Str}{k:NameKind},(names.map (·.1)).Nodup->(x,k)∈names->names.lookup x=some k
 | [],_,_,_,h=>by simp at h
 | (n,k')::r,x,k,nd,h=>by
   rw[bg,dj]at nd
   rw[aW]
   rcases aG.mp h with e |h2
   ·cases e;simp
   ·have hne:x≠n:=by
     intro e
     subst e
     exact nd.1 (aI.mpr ⟨(x,k),h2,rfl⟩)
    have hb:(x==n)=false:=beq_eq_false_iff_ne.mpr hne
    rw[hb]
    exact jZ nd.2 h2
theorem jQ{X:Cx}{scope:Scope}{n:Nat}(hf: ∀y∈scope.names,y.2 = .free -> ∃c,X.env.cells.lookup y.1=some c){x:Str}{c:Addr}
  (h:(cellsFrom n scope.names (jo X.env scope.names [])).lookup x=some c):(cellsFrom n scope.names []).lookup x=some c\/X.env.cells.lookup x=some c:=by
 rw[ff,ic]at h
 cases q:(cellsFrom n scope.names []).lookup x with
 | some d=>rw[q]at h;exact .inl h
 | none=>
   rw[q]at h
   have h':(jo X.env scope.names []).lookup x=some c:=h
   rcases nS scope.names [] hf x c h' with e |e
   ·exact .inr e
   ·cases e
section
variable {X:Cx}{pins:List (Addr×Obj)}{σ:St}{H₂:Hp}{s₂:Shared}{N':List Str}{scope:Scope}{xs:List Str}{fp:List Addr}
theorem g8.frees(C:g8 X N' scope xs)(ok:X.Ok): ∀y∈scope.names,y.2 = .free -> ∃c,X.env.cells.lookup y.1=some c:=λy hy e=>ok.has y.1 (C.free y hy e)
theorem Hm(C:g8 X N' scope xs){y:Str}{n:Nat}(h:scope.names.lookup y=some .cell\/scope.names.lookup y=some .free): ∃c,(cellsFrom n scope.names (jo X.env scope.names [])).lookup y=some c:=by
 refine gQ.mp (iu scope.names n _ ?_)
 rcases h with h |h
 ·exact .inl h
 ·exact .inr (ox scope.names [] (.inl h))
theorem Kd(I:Inv X pins σ H₂ s₂)(C:g8 X N' scope xs)(hfp: ∀b∈fp,qX X pins H₂ b)(hlt: ∀b∈fp,b<s₂.heap.objs.size):(blk X N' scope s₂ H₂ fp).Ok:=by
 have own: ∀y c,(cellsFrom (s₂.heap.objs.size+2) scope.names []).lookup y=some c->s₂.heap.objs.size+2<=c:=λy c h=>by
  have ok:=cellsFrom_ok scope.names ((s₂.heap.push default).push default) (s₂.heap.objs.size+2) [] ⟨λ_ _ hm=>(nomatch hm),gJ⟩ (by rw[ba,ba];exact ah _)
  rw[ba,ba]at ok
  exact(ok.empty y c (bY h)).2
 have apart:(cellsFrom (s₂.heap.objs.size+2) scope.names []).Pairwise λx y=>x.2≠y.2:=by
  have ok:=cellsFrom_ok scope.names ((s₂.heap.push default).push default) (s₂.heap.objs.size+2) [] ⟨λ_ _ hm=>(nomatch hm),gJ⟩ (by rw[ba,ba];exact ah _)
  rw[ba,ba]at ok
  exact ok.apart
 have old: ∀y c,X.env.cells.lookup y=some c->c<s₂.heap.objs.size:=λy c h=>by obtain⟨v,z⟩:=I.cell y c h;exact z.lt
 refine⟨I.ok.mod,C.kind,I.ok.glob,I.ok.blt,dD _,λy z c h1 h2 =>?_,λy hy =>?_,λy c hy h =>?_,I.ok.hd,I.ok.frames,.inl rfl,λb hb=>⟨?_,λy c h z =>?_⟩,I.bs,aM I.ok.bsz I.sz,λb o e hb =>?_,λb hb z =>?_,I.stack,I.stkFree⟩
 ·rcases jQ (C.frees I.ok) h1 with a |a <;> rcases jQ (C.frees I.ok) h2 with b |b
  ·exact name_of_addr apart (bY a) (bY b)
  ·exact absurd (ao (old z c b) (aM (dX _ 2) (own y c a))) (bF _)
  ·exact absurd (ao (old y c a) (aM (dX _ 2) (own z c b))) (bF _)
  ·exact I.ok.inj y z c a b
 ·have hy:(relabel scope X.env).names.lookup y=some .cell\/(relabel scope X.env).names.lookup y=some .free:=hy
  refine Hm C ?_
  rcases hy with hy |hy
  ·rcases gU hy with e | ⟨e,_⟩
   ·exact .inl e
   ·exact .inr e
  ·rcases gU hy with e | ⟨e,_⟩
   ·exact .inr e
   ·exact .inr e
 ·have hy':scope.names.lookup y=some .cell:=by simpa [blk]using hy
  have h':(cellsFrom (s₂.heap.objs.size+2) scope.names (jo X.env scope.names [])).lookup y=some c:=h
  rw[ff,ic]at h'
  have q:=gQ.mp (iu scope.names (s₂.heap.objs.size+2) [] (.inl hy'))
  obtain⟨d,hd⟩:=q
  rw[hd]at h'
  have e:d=c:=bR h'
  subst e
  have:=own y d hd
  show s₂.heap.objs.size<=d
  omega
 ·have:=hlt b hb
  exact aQ (dJ this)
 ·have:=hlt b hb
  rcases jQ (C.frees I.ok) h with a |a
  ·exact absurd (ao this (aM (dX _ 2) (z▸own y c a))) (bF _)
  ·exact(hfp b hb).2.2.2.2.1 y c a z
 ·have z:=(hfp b hb).2.2.2.1
  rcases z with z |z
  ·exact I.ok.noex b o e z
  ·exact absurd (ao (ax e) (aM I.ok.bsz z)) (bF _)
 ·rcases aG.mp (I.stkSub b z) with e |e
  ·exact(hfp b hb).2.1 e
  ·exact(hfp b hb).2.2.1 e
theorem By(I:Inv X pins σ H₂ s₂)(C:g8 X N' scope xs)(hfp: ∀b∈fp,qX X pins H₂ b)(hlt: ∀b∈fp,b<s₂.heap.objs.size){lo do':Obj}(hdo:do'.data = .dict #[])(hdo2:do'.isFreed=false)(hlo:lo.isFreed=false):
  Inv (blk X N' scope s₂ H₂ fp) [] (σ++aR xs.length none) H₂ { s₂ with heap:=pushCells ((s₂.heap.push lo).push do') scope.names }:=by
 have sz:((s₂.heap.push lo).push do').objs.size=s₂.heap.objs.size+2:=by rw[ba,ba]
 have okc:=cellsFrom_ok scope.names ((s₂.heap.push lo).push do') (s₂.heap.objs.size+2) [] ⟨λ_ _ hm=>(nomatch hm),gJ⟩ (by rw[sz];exact ah _)
 rw[sz]at okc
 have kp: ∀b o,s₂.heap.get? b=some o->(pushCells ((s₂.heap.push lo).push do') scope.names).get? b=some o:=λb o e=>pushCells_keeps _ _ b o (af _ (af _ e))
 have hL:(pushCells ((s₂.heap.push lo).push do') scope.names).get? (s₂.heap.objs.size+1)=some do':=pushCells_keeps _ _ _ _ (by
  have e:s₂.heap.objs.size+1=(s₂.heap.push lo).objs.size:=by rw[ba]
  rw[e];exact aw _ hdo2)
 refine⟨Kd I C hfp hlt,rfl,I.bare,Un.kept kp,⟨λ_=>none,⟨do',#[],_,hL,hdo,λe he=>by simp at he,λ_=>rfl⟩,λi y v h1 h2 h3 =>?_⟩,λy c h =>?_,I.hok.fresh (dD _),λy c h =>?_,λp hp=>absurd (show p∈([]:List (Addr×Obj)) from hp) (by simp),I.hok.kept kp,?_⟩
 ·have hi:i<X.N.length:=by
   by_cases hi:i<X.N.length
   ·exact hi
   ·rw[av (by rw[I.len];exact bC (by assumption)),iw]at h2
    split at h2 <;> simp at h2
  rw[aP (by rw[I.len];exact hi)]at h2
  have hv:scope.names.lookup y=some .local\/scope.names.lookup y=some .cell\/scope.names.lookup y=some .free:=by
   rcases h3 with h3 |h3 |h3 <;> rcases gU h3 with e | ⟨e,e'⟩
   ·exact .inl e
   ·cases e'
   ·exact .inr (.inl e)
   ·exact .inr (.inr e)
   ·exact .inr (.inr e)
   ·cases e'
  obtain⟨hN,hfr⟩:=C.vis i y hi h1 hv
  have hmem:(y,aX)∈scope.names:=bY hfr
  have hk:=C.free _ hmem rfl
  have vis:Vis X.env.scope y:= .inr hk
  obtain⟨m,hn,hl⟩:=I.loc
  obtain⟨u,r,l⟩:=hl i y v hN h2 vis
  refine⟨u,r,.inr ⟨j8 hfr,?_⟩⟩
  rcases l with⟨hk',_⟩ | ⟨_,c,hc,hcell⟩
  ·rcases hk with hk |hk
   ·rw[hk]at hk';cases hk'
   ·rw[hk]at hk';cases hk'
  ·have nown:(cellsFrom (s₂.heap.objs.size+2) scope.names []).lookup y=none:=by
    cases q:(cellsFrom (s₂.heap.objs.size+2) scope.names []).lookup y with
    | none=>rfl
    | some d=>
      rcases jF scope.names _ _ d q with⟨z,hz,e1,e2⟩ |e
      ·obtain⟨z1,z2⟩:=z
       simp only at e1 e2
       subst e1;subst e2
       exact absurd (jZ C.nd hz) (by rw[hfr];simp)
      ·cases e
   obtain⟨d,hd⟩:=gQ.mp (ox (env:=X.env) (x:=y) scope.names [] (.inl hfr))
   have hd':X.env.cells.lookup y=some d:=by
    rcases nS scope.names [] (C.frees I.ok) y d hd with e |e
    ·exact e
    ·cases e
   rw[hc]at hd';cases hd'
   refine⟨c,?_,hcell.keeps kp⟩
   show(cellsFrom (s₂.heap.objs.size+2) scope.names (jo X.env scope.names [])).lookup y=some c
   rw[ff,ic,nown]
   exact hd
 ·rcases jQ (C.frees I.ok) h with a |a
  ·exact⟨none,(okc.empty y c (bY a)).1⟩
  ·obtain⟨v,z⟩:=I.cell y c a
   exact⟨v,z.keeps kp⟩
 ·rcases jQ (C.frees I.ok) h with a |a
  ·exact I.hok.fresh (aM (dX _ 2) (okc.empty y c (bY a)).2)
  ·exact I.freeC y c a
 ·show(σ++aR xs.length none).length=N'.length
  rw[aV,jb,I.len,C.len]
end
noncomputable def PTs(X:Cx)(ifs:List Expr)(t:TT):Prop:=
 ∀(pins:List (Addr×Obj)) (s:Shared) (σ:St) (H:Hp) (Q:Bool->Hp->Prop),Inv X pins σ H s->t σ H Q ->
  aH (model X.prog X.w) X.A (forIn ifs true λc r=>if r=true then do let ok <- isTrue c X.env (eval c X.env);pure (dF ok) else pure (dF r)) (TP X pins σ Q) X.xe s
theorem Hv{X:Cx}:PTs X [] (λ_ H Q=>Q true H):=λpins s σ H Q I h=>by
 rw[oA]
 exact ar ⟨H,I,h⟩
theorem Gm{X:Cx}{c:Expr}{t:TT}(h:PT X c t):PTs X [c] t:=λpins s σ H Q I q=>by
 rw[fN]
 simp only[if_true]
 refine ab (ab (thn (h pins s σ H Q I q) λb s1 e=>ar ?_))
 show aH _ _ (forIn [] b _) _ _ _
 rw[oA]
 exact ar e
noncomputable def pG(wi:TI)(tt:TT)(te:TE):TE:=λσ H Q=>wi σ H λJ H1 =>∃W:Nat->Nat->List V->Hp->Prop,(∃m,W 0 m [] H1) /\ ∀i m ys H,W i m ys H->ys.length<sizeLine /\
 ((J.stop i H /\ ∀D,H D=none->Q (.ref D) (upd H D (.lst ys))) \/
  (J.go i H /\ ∀x H',J.yld i H x H'->tt (σ++[some x]) H' λb H3=>if b=true then te (σ++[some x]) H3 λy H4 =>∃m',m'<m/\W (i+1) m' (ys++[y]) H4 else ∃m',m'<m/\W (i+1) m' ys H3))
theorem HOk.track{P:Program}{w:World}{H:Hp}{h:Heap}{a:Addr}{o:HO}(x:HOk P w H h)(hn:H a=none)(new:d9 P w (upd H a o) h a o):HOk P w (upd H a o) h:=λb u e=>by
 by_cases hb:b=a
 ·subst hb;rw[cw]at e;cases e;exact new
 ·rw[bw hb]at e
  exact(x b u e).stay (λc v _ q=>q) (λc q=>by rw[bw (bx q hn)];exact q) λc xs q=>by rw[bw (bx q hn)];exact q
theorem HOk.but{P:Program}{w:World}{H:Hp}{h h':Heap}{a:Addr}(x:HOk P w H h)(hn:H a=none)(k: ∀b o,b≠a->h.get? b=some o->h'.get? b=some o):HOk P w H h':=λb u e=>by
 refine(x b u e).stay (λc v hc q=>k c v ?_ q) (λ_ q=>q) λ_ _ q=>q
 rcases hc with rfl |hc
 ·exact bx e hn
 ·exact bx hc hn
noncomputable def oQ(gT:V->Hp->(St->Hp->Prop)->Prop)(wi:TI)(tt:TT)(te:TE):TE:=λσ H Q=>wi σ H λJ H1 =>∃W:Nat->Nat->List V->Hp->Prop,(∃m,W 0 m [] H1) /\ ∀i m ys H,W i m ys H->ys.length<sizeLine /\
 ((J.stop i H /\ ∀D,H D=none->Q (.ref D) (upd H D (.lst ys))) \/
  (J.go i H /\ ∀x H',J.yld i H x H'->gT x H' λτ H2=>tt (σ++τ) H2 λb H3=>if b=true then te (σ++τ) H3 λy H4 =>∃m',m'<m/\W (i+1) m' (ys++[y]) H4 else ∃m',m'<m/\W (i+1) m' ys H3))
noncomputable def gT1:V->Hp->(St->Hp->Prop)->Prop:=λv H Q=>Q [some v] H
section
variable {X:Cx}{N':List Str}{scope:Scope}{x:Str}{xs:List Str}{tg:Expr}{gT:V->Hp->(St->Hp->Prop)->Prop}{px pos:Pos}{elt iter:Expr}{ifs:List Expr}{wi:TI}{tt:TT}{te:TE}
theorem oY{use:Option (Value->Sem Unit)}{Qf:Value->Shared->Prop}(hc:X.calm=true)(C:g8 X N' scope xs)(hi:PI X tg iter wi)
  (ht: ∀s₂ H₂ fp,PTs (blk X N' scope s₂ H₂ fp) ifs tt) (he: ∀s₂ H₂ fp,PE (blk X N' scope s₂ H₂ fp) elt te) {pins:List (Addr×Obj)}{s:Shared}{σ:St}{H:Hp}{Q:VK} (I:Inv X pins σ H s) (h:oQ gT wi tt te σ H Q)
  (htg: ∀(s₂:Shared) (H₂:Hp) (fp:List Addr) (pl:List (Addr×Obj)) (s:Shared) (H:Hp) (v:V) (u:Value) (Q:St->Hp->Prop),Inv (blk X N' scope s₂ H₂ fp) pl (σ++aR xs.length none) H s->RelV v u->gT v H Q ->
   aH (model X.prog X.w) X.A (assign tg (blk X N' scope s₂ H₂ fp).env u) (λ_ s' =>∃τ H',τ.length=xs.length/\Inv (blk X N' scope s₂ H₂ fp) pl (σ++τ) H' s'/\Q τ H') (λ_ _=>False) s)
  (hfin: ∀(s':Shared) (L D:Addr) (H':Hp) (ml:Str->Option Value),s'.heap.Ns L ml->Inv X pins σ H' s'->H' L=none->L≠X.env.locals->X.s₀.heap.objs.size<=L->(∀y c,X.env.cells.lookup y=some c->c≠L)->(∀p∈X.pn++pins,p.1≠L) ->
   Q (.ref D) H'->compPost (model X.prog X.w) X.A X.xe use Qf (.ref D) L (.ok .next) s'):
  aH (model X.prog X.w) X.A (eval iter X.env) (λxv s₁=>aH (model X.prog X.w) X.A (pyIter xv) (λit s₂=>aH (model X.prog X.w) X.A (newList []) (λacc s₃=>
   aH (model X.prog X.w) X.A (newFunctionEnv scope X.env.globals (jo X.env scope.names []) [] X.env.qual none .none (some X.env)) (λcenv s₄=>
    sv (model X.prog X.w) X.A (.compStart (.ListComp elt [⟨tg,iter,ifs,0⟩] scope pos) 0 it acc { cenv with scope:=relabel scope X.env }) (compPost (model X.prog X.w) X.A X.xe use Qf acc cenv.locals) s₄) X.xe s₃) X.xe s₂) X.xe s₁) X.xe s:=by
 refine thn (hi pins s σ H _ I h) λv s1 h1=>thn h1 λitv s2 h2 =>?_
 obtain⟨it,fp,tn,J,H2,e,I2,T,st2,f2,W,⟨m0,w0⟩,turn⟩:=h2
 subst e
 have hlt: ∀b∈fp,b<s2.heap.objs.size:=λb hb=>by obtain⟨o,ho,_⟩:=T.obj _ _ st2 b hb;exact ax ho
 refine bP (nG ?_)
 dsimp only
 have I4:Inv (blk X N' scope s2 H2 fp) [] (σ++aR xs.length none) H2 { s2 with heap:=pushCells ((s2.heap.push { cls := .type "list",dict:=none,data := .seq ([]:List Value).toArray }).push { cls := .type "dict",data := .dict #[] }) scope.names }:=
  By I2 C f2 hlt rfl rfl rfl
 generalize hXb:blk X N' scope s2 H2 fp=Xb at I4
 have hD4:(pushCells ((s2.heap.push { cls := .type "list",dict:=none,data := .seq ([]:List Value).toArray }).push { cls := .type "dict",data := .dict #[] }) scope.names).get? s2.heap.objs.size=some { cls := .type "list",data := .seq ([]:List Value).toArray }:=
  pushCells_keeps _ _ _ _ (af _ (aw _ rfl))
 have st4:tn 0 (pushCells ((s2.heap.push { cls := .type "list",dict:=none,data := .seq ([]:List Value).toArray }).push { cls := .type "dict",data := .dict #[] }) scope.names):=
  T.keep _ _ _ st2 λb hb o e=>pushCells_keeps _ _ b o (af _ (af _ e))
 have henv:({ scope:=relabel scope X.env,locals:=(s2.heap.push { cls := .type "list",dict:=none,data := .seq ([]:List Value).toArray }).objs.size,globals:=X.env.globals,cells:=cellsFrom ((s2.heap.push { cls := .type "list",dict:=none,data := .seq ([]:List Value).toArray }).objs.size+1) scope.names (jo X.env scope.names []),qual:=X.env.qual,func:=none,code:=X.env.code,frame:=X.env.frame,builtins:=X.env.builtins }:Env)=Xb.env:=by
  rw[<- hXb,ba];rfl
 generalize hs4:({ s2 with heap:=pushCells ((s2.heap.push { cls := .type "list",dict:=none,data := .seq ([]:List Value).toArray }).push { cls := .type "dict",data := .dict #[] }) scope.names }:Shared)=s4 at I4
 have hD4':s4.heap.get? s2.heap.objs.size=some { cls := .type "list",data := .seq ([]:List Value).toArray }:=by rw [<- hs4];exact hD4
 have st4':tn 0 s4.heap:=by rw[<- hs4];exact st4
 have hL:Xb.env.locals=s2.heap.objs.size+1:=by rw[<- hXb];rfl
 have hex:Xb.ex=fp:=by rw[<- hXb];rfl
 have hs0:Xb.s₀=s2:=by rw[<- hXb];rfl
 have hH0:Xb.H₀=H2:=by rw[<- hXb];rfl
 have hfs:Xb.fs=frs X.stack:=by rw[<- hXb];rfl
 have hpn:Xb.pn = []:=by rw[<- hXb];rfl
 have hK:Xb.K=X.K:=by rw[<- hXb];rfl
 have hP:Xb.prog=X.prog:=by rw[<- hXb];rfl
 have hw:Xb.w=X.w:=by rw[<- hXb];rfl
 have hA:Xb.A=X.A:=by rw[<- hXb];rfl
 have hxe:Xb.xe=λ_ _=>False:=by rw[<- hXb];rfl
 have hcb:Xb.calm=true:=by rw[<- hXb];exact hc
 have hNb:Xb.N=N':=by rw[<- hXb];rfl
 have hfn: ∀y,scope.names.lookup y=some .cell->Xb.fn y=true:=λy hy=>by rw[<- hXb];show(scope.names.lookup y==some .cell)=true;rw[hy];rfl
 have htb:PTs Xb ifs tt:=by rw[<- hXb];exact ht _ _ _
 have heb:PE Xb elt te:=by rw[<- hXb];exact he _ _ _
 have hgb: ∀(pl:List (Addr×Obj)) (s:Shared) (H:Hp) (v:V) (u:Value) (Q:St->Hp->Prop),Inv Xb pl (σ++aR xs.length none) H s->RelV v u->gT v H Q ->
   aH (model X.prog X.w) X.A (assign tg Xb.env u) (λ_ s' =>∃τ H',τ.length=xs.length/\Inv Xb pl (σ++τ) H' s'/\Q τ H') (λ_ _=>False) s:=by
  rw[<- hXb];exact htg _ _ _
 have cellne: ∀y c,Xb.env.cells.lookup y=some c->c≠s2.heap.objs.size:=λy c e z=>by
  obtain⟨v,o,ho,hd⟩:=I4.cell y c e
  rw[z,hD4']at ho
  cases ho
  cases hd
 have stat: ∀{H':Hp}{pl:List (Addr×Obj)},(∀b∈fp,H' b=none)->(∀p∈pl,p.1=s2.heap.objs.size) -> ∀b∈fp,qX Xb pl H' b:=λ{H' pl} hn hpl b hb=>by
  refine⟨hn b hb,?_,?_,.inl (by rw[hex];exact hb),λy c e z =>?_,λp hp z =>?_⟩
  ·rw[hL];exact aQ (dJ (hlt b hb))
  ·exact I4.ok.exfs b (by rw[hex];exact hb)
  ·exact(I4.ok.exf b (by rw[hex];exact hb)).2 y c e z
  ·rw[hpn]at hp
   have h1:=hpl p (by simpa using hp)
   have h2:=hlt b hb
   exact absurd h2 (by rw[<- z,h1];exact bF _)
 have Dfs:s2.heap.objs.size∉Xb.fs:=by
  rw[hfs]
  intro z
  rcases aG.mp (I2.stkSub _ z) with e |e
  ·exact absurd I2.lt (by rw[<- e];exact bF _)
  ·exact I2.nofs (ah _) e
 have fin : ∀ (s':Shared) (i m:Nat) (ys:List V) (its:List Value) (n:Nat) (H':Hp) (σ':St),Inv Xb [] σ' H' s'->H' s2.heap.objs.size=none->s'.heap.get? s2.heap.objs.size=some { cls := .type "list",data := .seq its.toArray n }->bW ys its->ys.length < sizeLine ->
   (∀D,H' D=none->Q (.ref D) (upd H' D (.lst ys)))->compPost (model X.prog X.w) X.A X.xe use Qf (.ref s2.heap.objs.size) Xb.env.locals (.ok .next) s':=by
  intro s' i m ys its n H' σ' I' hDn hDo rv hz q
  obtain⟨ml,hml,_⟩:=I'.loc
  have kb: ∀b o,b≠Xb.env.locals->s'.heap.get? b=some o->s'.heap.get? b=some o:=λb o _ e=>e
  have hDL:s2.heap.objs.size≠Xb.env.locals:=by rw[hL];exact aQ (bD _)
  have hok1:HOk X.prog X.w H' s'.heap:=by
   have:=I'.hok.but I'.free kb
   rw[hP,hw]at this;exact this
  have hok2:HOk X.prog X.w (upd H' s2.heap.objs.size (.lst ys)) s'.heap:=hok1.track hDn ⟨aU hz,its,n,rv,kb _ _ hDL hDo⟩
  have base:=I'.base
  rw[hs0,hH0,hex,hfs]at base
  have un:Un (frs X.stack) fp H2 (upd H' s2.heap.objs.size (.lst ys)) s2.heap s'.heap:=by
   have ltL: ∀b o,s2.heap.get? b=some o->b≠Xb.env.locals:=λb o e=>by rw[hL];exact aQ (dJ (ax e))
   have ltD: ∀b o,s2.heap.get? b=some o->b≠s2.heap.objs.size:=λb o e=>aQ (ax e)
   refine⟨λb o e n hb hx=>kb b o (ltL b o e) (base.keep b o e n hb hx),λb o e n hb hx =>?_,λb o e n hx =>?_,λb o e hx =>?_,λb xs e =>?_,λb o u e =>?_,λb ps e =>?_⟩
   ·obtain⟨sl,q⟩:=base.slot b o e n hb hx
    exact⟨sl,kb b _ (ltL b o e) q⟩
   ·rw[bw (ltD b o e)];exact base.free b o e n hx
   ·obtain⟨o',q⟩:=base.there b o e hx
    exact⟨o',kb b _ (ltL b o e) q⟩
   ·have q:=base.tups b xs e
    rw[bw (bx q hDn)];exact q
   ·have q:=base.frzs b o u e
    rw[bw (bx q hDn)];exact q
   ·obtain⟨more,q⟩:=base.tbls b ps e
    exact⟨more,by rw[bw (bx q hDn)];exact q⟩
  have os:s'.os=s2.os:=by rw[I'.os,hs0]
  have If:=I2.call' (s':=s') os un hok2 I'.bare λb hb=>⟨(f2 b hb).2.2.2.1,(f2 b hb).2.1,(f2 b hb).2.2.2.2.1,(f2 b hb).2.2.2.2.2⟩
  refine hfin s' _ _ _ ml hml If ?_ ?_ ?_ ?_ ?_ (q _ hDn)
  ·rw[bw (cZ hDL)];exact I'.free
  ·rw[hL];exact b0 (dJ I2.lt)
  ·rw[hL];exact eS I2.sz
  ·intro y c e z
   obtain⟨v,o,ho,_⟩:=I2.cell y c e
   have:=ax ho
   rw[z,hL]at this;exact absurd (Nat.lt_of_succ_lt this) (bF _)
  ·intro p hp z
   have:=ax (I2.pin p hp).1
   rw[z,hL]at this;exact absurd (Nat.lt_of_succ_lt this) (bF _)
 have loop: ∀it':Addr,it'=it->sv (model X.prog X.w) X.A (.compLoop (.ListComp elt [⟨tg,iter,ifs,0⟩] scope pos) 0 (.ref it') (.ref s2.heap.objs.size) Xb.env) (compPost (model X.prog X.w) X.A X.xe use Qf (.ref s2.heap.objs.size) Xb.env.locals) s4:=by
  rintro it' rfl
  refine lA (λn s' =>∃(i:Nat) (ys:List V) (its:List Value) (nn:Nat) (H':Hp),Inv Xb [] (σ++aR xs.length none) H' s'/\tn i s'.heap/\(∀b∈fp,H' b=none)/\H' s2.heap.objs.size=none /\
   s'.heap.get? s2.heap.objs.size=some { cls := .type "list",data := .seq its.toArray nn }/\bW ys its/\W i n ys H') ?_ m0 ⟨0,[],[],_,H2,I4,st4',fun b hb=>(f2 b hb).1,I2.hok.fresh (ah _),hD4',.nil,w0⟩
  rintro n s3 ⟨i,ys,its,nn,H3,I3,st3,fr3,hD3,hDo3,rv3,w3⟩
  obtain⟨hz,turn⟩:=turn i n ys H3 w3
  have pinD: ∀{s':Shared}{H':Hp}{σ':St}{oD:Obj},Inv Xb [] σ' H' s'->H' s2.heap.objs.size=none->s'.heap.get? s2.heap.objs.size=some oD->(∀v,oD.data≠.cell v)->Inv Xb [(s2.heap.objs.size,oD)] σ' H' s':=λ{s' H' σ' oD} I' hn ho hd=>
   I'.pins_of λp hp=>by
    have e:p=(s2.heap.objs.size,oD):=by simpa using hp
    subst e
    exact⟨ho,hn,by rw[hL];show s2.heap.objs.size≠_;exact aQ (bD _),Dfs,hd⟩
  have I3p:=pinD I3 hD3 hDo3 (λv z=>by cases z)
  have hpl : ∀ p ∈ [(s2.heap.objs.size,({ cls := .type "list",data := .seq its.toArray nn }:Obj))],p.1=s2.heap.objs.size:=fun p hp=>by
   have e:=cJ.mp hp
   rw[e]
  rcases turn with⟨stop,qn⟩ | ⟨go,step⟩
  ·have q:=T.done Xb hP hw hK hcb i _ s3 _ H3 (λ_ _=>False) I3p (stat fr3 hpl) st3 stop
   rw[hA]at q
   refine dc q (λr s5 ⟨hr,I5⟩ =>?_) λ_ _ z=>di z
   subst hr
   exact fin s5 i n ys its nn H3 _ (I5.pins_of λp hp=>absurd hp (by simp)) hD3 (I5.pin _ (bb _ (cJ.mpr rfl))).1 rv3 hz qn
  ·have q:=T.item Xb hP hw hK hcb i _ s3 _ H3 (λ_ _=>False) I3p (stat fr3 hpl) st3 go
   rw[hA]at q
   refine dc q (λr s45 ⟨u,hr,h5⟩ =>?_) λ_ _ z=>di z
   subst hr
   refine dc h5 (λ_ s5 ⟨y5,H5,I5,r5,yl5,st5,fr5⟩ =>?_) λ_ _ z=>di z
   have hD5:=(I5.pin _ (bb _ (cJ.mpr rfl)))
   have I5':=I5.pinned (stat fr5 hpl) (T.obj _ _ st5)
   refine dc (hgb _ s5 H5 y5 _ _ I5' r5 (step y5 H5 yl5)) (λ_ s6 ⟨τ,H6,hτ,I6,q6⟩ =>?_) λ_ _ z=>di z
   have qt:=htb _ s6 _ H6 _ I6 q6
   rw[hP,hw,hA,hxe]at qt
   refine dc qt (λb s7 ⟨H7,I7,q7⟩ =>?_) λ_ _ z=>di z
   have again : ∀ {s8:Shared}{H8:Hp}{σ8:St},Inv Xb ([(s2.heap.objs.size,({ cls := .type "list",data := .seq its.toArray nn }:Obj))]++rm fp s5.heap) σ8 H8 s8->tn (i+1) s8.heap/\(∀ b∈fp,H8 b=none)/\H8 s2.heap.objs.size=none/\s8.heap.get? s2.heap.objs.size=some { cls := .type "list",data := .seq its.toArray nn }:=fun {s8 H8 σ8} I8=>by
    refine⟨T.keep _ _ _ st5 λb hb o e=>(I8.pin (b,o) (bb _ (bb _ (km hb e)))).1,λb hb =>?_,?_,?_⟩
    ·obtain⟨o,e,d⟩:=T.obj _ _ st5 b hb
     exact(I8.pin (b,o) (bb _ (bb _ (km hb e)))).2.1
    ·exact(I8.pin _ (bb _ (bA _ (cJ.mpr rfl)))).2.1
    ·exact(I8.pin _ (bb _ (bA _ (cJ.mpr rfl)))).1
   have forget: ∀{s8:Shared}{H8:Hp}{pl:List (Addr×Obj)},Inv Xb pl (σ++τ) H8 s8->Inv Xb [] (σ++aR xs.length none) H8 s8:=λ{s8 H8 pl} I8=>
    (I8.pins_of (pins':= []) λp hp=>absurd hp (by simp)).weak (by simp[hτ]) λj v hj=>by
     by_cases hjs:j<σ.length
     ·rw[aP hjs]at hj ⊢;exact hj
     ·rw[av (by exact bC (by assumption)),iw]at hj
      split at hj <;> simp at hj
   cases b with
   | false=>
     have q7': ∃m',m'<n/\W (i+1) m' ys H7:=q7
     obtain⟨m',hm,w7⟩:=q7'
     obtain⟨a1,a2,a3,a4⟩:=again I7
     exact⟨m',hm,i+1,ys,its,nn,H7,forget I7,a1,a2,a3,a4,rv3,w7⟩
   | true=>
     have q7':te (σ++τ) H7 λy H4 =>∃m',m'<n/\W (i+1) m' (ys++[y]) H4:=q7
     have qe:=heb _ s7 _ H7 _ I7 q7'
     rw[hP,hw,hA,hxe]at qe
     refine dc qe (λuv s8 ⟨y8,H8,I8,r8,m',hm,w8⟩ =>?_) λ_ _ z=>di z
     obtain⟨a1,a2,a3,a4⟩:=again I8
     have I9:=forget I8
     have hl3:=rv3.length
     refine call_meets F.slot_list_append ⟨_,a4,rfl⟩ F.entry_list_append (F.args_list_append_2 _ _) (PySem.list_append s2.heap.objs.size its.toArray nn uv (by rw[aA];omega)) ⟨a4,?_⟩
     have hup:=EX a4 (·.push uv)
     have e1:(its.toArray.push uv)=(its++[uv]).toArray:=by simp
     rw[e1]at hup
     have I10:Inv Xb [] (σ++aR xs.length none) H8 { s8 with heap:=s8.heap.update s2.heap.objs.size (cg (·.push uv)) }:=
      I9.turned (t':=s8.toks) (λb' u hb hu=>(dr s8.heap (cg (·.push uv)) (cZ hb)).trans hu) a3 (by rw[hL];exact aQ (bD _)) (.inr (by rw[hs0];exact ah _)) cellne (λp hp=>by rw[hpn]at hp;exact absurd hp (by simp))
     refine⟨m',hm,i+1,ys++[y8],its++[uv],_,H8,I10,T.keep _ _ _ a1 λb hb o e =>?_,a2,a3,hup,rv3.append (.cons r8 .nil),w8⟩
     exact(dr s8.heap (cg (·.push uv)) (by first |exact b0 (hlt b hb) |exact aQ (hlt b hb))).trans e
 have start:=codeAny_compStart_list (loop it rfl) (T.self X.A 0 s4 _ _ st4' (loop it rfl))
 rw[henv]
 have eL:(s2.heap.push { cls := .type "list",dict:=none,data := .seq ([]:List Value).toArray }).objs.size=Xb.env.locals:=by rw [ba,hL]
 rw[eL]
 exact start
theorem zw(C:g8 X N' scope [x]){σ:St}(s₂:Shared)(H₂:Hp)(fp:List Addr)(pl:List (Addr×Obj))(s:Shared)(H:Hp)(v:V)(u:Value)(Q:St->Hp->Prop)(I:Inv (blk X N' scope s₂ H₂ fp) pl (σ++aR [x].length none) H s)(r:RelV v u)(q:gT1 v H Q):
  aH (model X.prog X.w) X.A (assign (.Name x px) (blk X N' scope s₂ H₂ fp).env u) (λ_ s' =>∃τ H',τ.length = [x].length/\Inv (blk X N' scope s₂ H₂ fp) pl (σ++τ) H' s'/\Q τ H') (λ_ _=>False) s:=by
 have hl:σ.length=X.N.length:=by
  have:=I.len
  rw[show(blk X N' scope s₂ H₂ fp).N=N' from rfl,C.len,aV,jb]at this
  omega
 have hlocx:Loc (blk X N' scope s₂ H₂ fp).env.scope x:=by
  rcases C.own x (by simp) with e |e
  ·exact .inl (lookup_relabel_local e)
  ·exact .inr (ja e)
 have hfx:(blk X N' scope s₂ H₂ fp).fn x=true\/(blk X N' scope s₂ H₂ fp).env.scope.names.lookup x=some .local:=by
  rcases C.own x (by simp) with e |e
  ·right;exact lookup_relabel_local e
  ·left;show(scope.names.lookup x==some .cell)=true;rw[e];rfl
 refine mH (nB I C.ndN (i:=X.N.length) (C.last 0 x rfl) hlocx r (λs6 I6 =>?_) hfx)
 have hset:(σ++aR [x].length none).set X.N.length (some v)=σ++[some v]:=by
  rw[<- hl,eE _ _ (ah _)];simp
 rw[hset]at I6
 exact⟨[some v],H,rfl,I6,q⟩
theorem Fj(hc:X.calm=true)(C:g8 X N' scope [x])(hi:PI X (.Name x px) iter wi)
  (ht: ∀s₂ H₂ fp,PTs (blk X N' scope s₂ H₂ fp) ifs tt) (he: ∀s₂ H₂ fp,PE (blk X N' scope s₂ H₂ fp) elt te)
  (hs:autoParam (∀x,foldedSetIterable iter X.env x=pure x) au3._auto_1):
  PE X (.ListComp elt [⟨.Name x px,iter,ifs,0⟩] scope pos) (pG wi tt te):=by
 intro pins s σ H Q I h
 rw[eval_ListComp]
 refine nh (use:=none) (cl:=jo X.env scope.names []) rfl hs (iY (C.frees I.ok)) C.kind (λy hy e=>jZ C.nd (by rw[<- e];exact hy)) ?_
 refine oY (gT:=gT1) hc C hi ht he I h (zw C) λs' L D H' ml hml I' hn h1 h2 h3 h4 q =>?_
 exact⟨ml,hml,λh' hsb=>⟨.ref D,H',I'.turned (t':=s'.toks) (λb o hb e=>(hsb.2 b hb).trans e) hn h1 (.inr h2) h3 h4,rfl,q⟩⟩
theorem Fz{i:Nat}{y:Str}{py spos:Pos}(hN:X.N.Nodup)(hi':X.N[i]? = some y)(hy:Loc X.env.scope y)(hc:X.calm=true)(C:g8 X N' scope [x])(hi:PI X (.Name x px) iter wi)
  (ht: ∀s₂ H₂ fp,PTs (blk X N' scope s₂ H₂ fp) ifs tt) (he: ∀s₂ H₂ fp,PE (blk X N' scope s₂ H₂ fp) elt te)
  (hsw:swapsWith (.ListComp elt [⟨.Name x px,iter,ifs,0⟩] scope pos) (some (.Name y py)) spos.line X.env=pure true)
  (hs:autoParam (∀x,foldedSetIterable iter X.env x=pure x) au3._auto_1) (hf:autoParam (X.fn y=true\/X.env.scope.names.lookup y=some .local) au4._auto_1):
  PS X (.Assign [.Name y py] (.ListComp elt [⟨.Name x px,iter,ifs,0⟩] scope pos) spos) (AO (pG wi tt te) (ju i)):=by
 intro pins s σ H D I h
 rw[exec_Assign_Name_used _ _ _ _ hsw]
 refine ab (wpAny_standAt (ab ?_))
 show aH _ X.A (do let _ <- comprehension (.ListComp elt [⟨.Name x px,iter,ifs,0⟩] scope pos) scope X.env _ (newList []) false (eval iter X.env) (some (assign (.Name y py) X.env))) _ _ s
 refine ab (dc (nh (use:=some (assign (.Name y py) X.env)) (Q:=λ_ s'=>SP X pins D .next s') (cl:=jo X.env scope.names []) rfl hs (iY (C.frees I.ok)) C.kind (λy hy e=>jZ C.nd (by rw[<- e];exact hy))
  (oY (gT:=gT1) (Q:=λv H1=>ju i v σ H1 D.nx) hc C hi ht he I h (zw C) λs' L D' H' ml hml I' hn h1 h2 h3 h4 q =>?_)) (λ_ s' hq=>ar (ar hq)) λ_ _ e=>e)
 show aH _ X.A (assign (.Name y py) X.env (.ref D')) _ _ _
 refine mH (ua (v:= .ref D') I' hN hi' hy rfl (λs6 I6 hsb =>?_) hf)
 obtain⟨a,hsb,ha⟩:=hsb
 have haL:L≠a:=by
  rcases ha with e |e
  ·rw[e];exact h1
  ·exact cZ (h3 _ _ e)
 refine⟨ml,hml.sameBut hsb haL,λh' hsb' =>?_⟩
 exact⟨_,H',I6.turned (t':=s6.toks) (λb o hb e=>(hsb'.2 b hb).trans e) hn h1 (.inr h2) h3 h4,q⟩
inductive fB:List Expr->List Str->Prop
 | nil:fB [] []
 | cons (x:Str) (p:Pos) {es xs}:fB es xs->fB (.Name x p::es) (x::xs)
noncomputable def gTt(K:aj)(n:Nat):V->Hp->(St->Hp->Prop)->Prop:=λv H Q =>∃a vs,v = .ref a/\SqT K H a vs/\vs.length=n/\Q (vs.map some) H
theorem fB.each{env:Env}: ∀{es:List Expr}{xs:List Str},fB es xs->(assignEach es env).length=xs.length/\(assignEach es env).findIdx? (·.1)=none
 | _,_,.nil=>⟨rfl,rfl⟩
 | _,_,.cons x p r=>by
   obtain⟨a,b⟩:=fB.each (env:=env) r
   exact⟨by show(assignEach _ env).length+1=_;rw[a];rfl,by
    show(((false,_):Bool×(Value->Sem Unit))::assignEach _ env).findIdx? (·.1)=none
    rw[qC];simp[b]⟩
theorem Ej{Xb:Cx}{pl:List (Addr×Obj)}{H:Hp}{E:Shared->Prop}(nd:Xb.N.Nodup)(own: ∀x∈xs,Loc Xb.env.scope x/\(Xb.fn x=true\/Xb.env.scope.names.lookup x=some .local)):
  ∀{es:List Expr}{ys:List Str},fB es ys->(∀y∈ys,y∈xs) -> ∀(vs:List V) (us:List Value) (τ:St) (s:Shared),(∀(j:Nat) (y:Str),ys[j]? = some y->Xb.N[τ.length+j]? = some y)->vs.length=ys.length->bW vs us ->
   Inv Xb pl (τ++aR ys.length none) H s->(∀s',Inv Xb pl (τ++vs.map some) H s'->E s')->aH (model X.prog X.w) X.A (assignInOrder ((assignEach es Xb.env).map (·.2)) us) (λ_ s'=>E s') (λ_ _=>False) s:=by
 intro es ys n
 induction n with
 | nil=>
   intro _ vs us τ s hN hl r I k
   have e:vs = []:=lU.mp hl
   subst e
   cases r
   exact assignInOrder_nil (k s I)
 | @cons x p es ys n ih=>
   intro hm vs us τ s hN hl r I k
   cases r with
   | nil=>cases hl
   | @cons v u vs us ra rb=>
     obtain⟨ho,hf⟩:=own x (hm x (by simp))
     show aH _ _ (assignInOrder (assign (.Name x p) Xb.env::(assignEach es Xb.env).map (·.2)) (u::us)) _ _ s
     refine assignInOrder_cons (mH (nB I nd (i:=τ.length) (hN 0 x rfl) ho ra (λs6 I6 =>?_) hf))
     have hset:(τ++aR (x::ys).length none).set τ.length (some v)=(τ++[some v])++aR ys.length none:=by
      rw[eE _ _ (ah _)]
      simp[dw]
     rw[hset]at I6
     refine ih (λy hy=>hm y (by simp[hy])) vs us (τ++[some v]) s6 (λj y hj =>?_) (by simpa using hl) rb I6 λs' I'=>k s' (by simpa using I')
     have:=hN (j+1) y (by simpa using hj)
     rw[aV,EY,show τ.length+1+j=τ.length+(j+1) by omega]
     exact this
theorem Kw{es:List Expr}{kt:Nat}{pt:Pos}(hc:X.calm=true)(C:g8 X N' scope xs)(n:fB es xs){σ:St}(s₂:Shared)(H₂:Hp)(fp:List Addr)(pl:List (Addr×Obj))(s:Shared)(H:Hp)(v:V)(u:Value)(Q:St->Hp->Prop)(I:Inv (blk X N' scope s₂ H₂ fp) pl (σ++aR xs.length none) H s)(r:RelV v u)(q:gTt X.K xs.length v H Q):
  aH (model X.prog X.w) X.A (assign (.Tuple es kt pt) (blk X N' scope s₂ H₂ fp).env u) (λ_ s' =>∃τ H',τ.length=xs.length/\Inv (blk X N' scope s₂ H₂ fp) pl (σ++τ) H' s'/\Q τ H') (λ_ _=>False) s:=by
 have hl:σ.length=X.N.length:=by
  have:=I.len
  rw[show(blk X N' scope s₂ H₂ fp).N=N' from rfl,C.len,aV,jb]at this
  omega
 obtain⟨a,vs,rfl,hq,hv,q⟩:=q
 cases r
 obtain⟨its,rv,ht,hz⟩:=I.tuple hq
 obtain⟨h1,h2⟩:=n.each (env:=(blk X N' scope s₂ H₂ fp).env)
 refine assign_Tuple_tuple (I.ok.hd hc) ht (by simp[h1,<- hv,rv.length]) h2 λh' hx =>?_
 have I1:Inv (blk X N' scope s₂ H₂ fp) pl (σ++aR xs.length none) H { s with heap:=h' }:=I.kept (t':=s.toks) λb o e=>hx b o (aQ (ax e)) e
 refine Ej (X:=X) (xs:=xs) (Xb:=blk X N' scope s₂ H₂ fp) C.ndN (λx hx=>⟨?_,?_⟩) n (λy hy=>hy) vs _ σ _ (λj y hj =>?_) hv (by simpa using rv) I1 λs' I'=>⟨vs.map some,H,by simpa using hv,I',q⟩
 ·rcases C.own x hx with e |e
  ·exact .inl (lookup_relabel_local e)
  ·exact .inr (ja e)
 ·rcases C.own x hx with e |e
  ·right;exact lookup_relabel_local e
  ·left;show(scope.names.lookup x==some .cell)=true;rw[e];rfl
 ·rw[hl];exact C.last j y hj
theorem Ew{es:List Expr}{kt:Nat}{pt:Pos}(hc:X.calm=true)(C:g8 X N' scope xs)(n:fB es xs)(hi:PI X (.Tuple es kt pt) iter wi)
  (ht: ∀s₂ H₂ fp,PTs (blk X N' scope s₂ H₂ fp) ifs tt) (he: ∀s₂ H₂ fp,PE (blk X N' scope s₂ H₂ fp) elt te)
  (hs:autoParam (∀x,foldedSetIterable iter X.env x=pure x) au3._auto_1):
  PE X (.ListComp elt [⟨.Tuple es kt pt,iter,ifs,0⟩] scope pos) (oQ (gTt X.K xs.length) wi tt te):=by
 intro pins s σ H Q I h
 rw[eval_ListComp]
 refine nh (use:=none) (cl:=jo X.env scope.names []) rfl hs (iY (C.frees I.ok)) C.kind (λy hy e=>jZ C.nd (by rw[<- e];exact hy)) ?_
 refine oY hc C hi ht he I h (Kw hc C n) λs' L D H' ml hml I' hn h1 h2 h3 h4 q =>?_
 exact⟨ml,hml,λh' hsb=>⟨.ref D,H',I'.turned (t':=s'.toks) (λb o hb e=>(hsb.2 b hb).trans e) hn h1 (.inr h2) h3 h4,rfl,q⟩⟩
end
end _L
end
section
namespace HT
open PySem PyProof.Rows
open PySem.SeqAt
open PySem.AutoSeq1 (wpAny_loadPart')
open PySem.MeetsSeq PySem.MeetsSeq2 PySem.MeetsSeq3
section
variable {prog:Program}{w:World}{A:Around}{E:Value->Shared->Prop}{s:Shared}
theorem getItem_tuple_whole{t sl:Addr}{items:Array Value}{vl vu:Value}{lo hi:Option Int}{Q:Value->Shared->Prop}(ht:IsTup s.heap t items)(hs:s.heap.IsSliceOf sl vl vu .none)(pl:IsPart vl lo)(pu:IsPart vu hi)
  (hw:sIx items.size 0 lo=0/\sIx items.size items.size hi=items.size)
  (h:Q (.ref t) s):aH (model prog w) A (getItem (.ref t) (.ref sl)) Q E s:=by
 obtain⟨os,hos,hcs,hds⟩:=id hs
 have hTs:s.TypeIs (.ref sl) "slice":=⟨os,hos,hcs⟩
 unfold getItem
 try with_reducible refine eh ?_
 first |refine ab (ar ?_) |skip
 refine ab (xX ht.typeIs (by decide) ?_)
 refine ab (cz (name:=fH "__getitem__") ht.typeIs cW
  (cY cW ht.typeIs entry_tuple_getitem ?_ (args_tuple_getitem _ _)))
 show aH _ _ (jc (.ref t) >>= _) _ _ s
 refine ab (tupleItemsOf_ ht ?_)
 refine ab (jq hTs ?_)
 rw[if_pos (by decide)]
 refine ab (jR hs pl pu ?_)
 rw[hw.1,hw.2]
 show aH _ _ (if (((0:Nat):Int)==0&&(1:Int)==1&&(items.size - 0)==items.size)=true then _ else _) _ _ s
 rw[if_pos (by simp)]
 obtain⟨o,ho,hc,n,hd⟩:=id ht
 refine ab (m:=pZ _) ?_
 unfold pZ
 refine ab (jq ⟨o,ho,hc⟩ (ar ?_))
 rw[if_pos (by decide)]
 refine ab (pB ?_)
 first
  | exact ar ⟨_,rfl,ar h⟩
  | exact ab (ar (ar ⟨_,rfl,ar h⟩))
theorem cat_tup0{t b:Addr}{ws:List Value}{Q:Value->Shared->Prop}(ht:IsTup s.heap t ([]:List Value).toArray)(hb:IsTup s.heap b ws.toArray)(h:Q (.ref b) s):aH (model prog w) A (binaryOp .Add (.ref t) (.ref b)) Q E s:=by
 obtain⟨⟨cls,dd,data,sl⟩,ho,hc,n,hd⟩:=id ht
 obtain⟨⟨cls2,dd2,data2,sl2⟩,ho2,hc2,n2,hd2⟩:=id hb
 simp only at hc hd hc2 hd2
 subst hc hd hc2 hd2
 exact concat_meets ⟨_,ho,rfl⟩ ⟨_,ho2,rfl⟩ noFill_tuple_add seq_tuple_add lH kG (ko _ _)
   (tuple_addW0 t b #[] ws.toArray n n2 dd dd2 sl sl2 (by simp)) ⟨ho,ho2,h⟩
end
end HT
end
section
namespace _G
open PySem PySem.SeqAt
open PySem.AutoSeq1 (wpAny_loadPart')
open PySem.MeetsSeq PySem.MeetsSeq2 PySem.MeetsSeq3
theorem tE(l:Addr)(items:Array Value)(n:Nat)(dd:Option Addr)(sl:Array (Option Value))(x:Value)(e:Value->Bool)(j:Nat)(hj:j<items.size)
  (hit:e items[j]=true) (hno: ∀m (hm:m<items.size),m<j->e items[m]=false):
  Meets (Builtin.«tuple.index» ⟨[.ref l,x],[]⟩)
   (fun A R s=>s.heap.get? l=some { cls := .type "tuple",dict:=dd,data := .seq items n,slots:=sl }/\(∀ y,y∈items->EqAt A.in1 s y x (e y))/\R (.ok (.ret (.int j s.toks))) { s with toks:=s.toks+1 }):=
 .of_wp λprog w A R s h=>by
  obtain⟨hp,g,d,tk,os⟩:=s;obtain⟨hl,he,h⟩:=h
  simp only[Builtin.«tuple.index»,Std.Legacy.Range.forIn_eq_forIn_range']
  wp_walk using dR hl,wpAny_forIn_list _ (λrest b s'=>b.1=none/\s'=⟨hp,g,d,tk,os⟩ /\ ∃i,i<=j/\rest=aO i (items.size - i)) _
  case turn=>
   rintro y rest b s' ⟨hb,rfl,i,hij,hrest⟩
   have hlt:i<items.size:=by
    rcases Nat.lt_or_ge i items.size with q |q
    ·exact q
    ·exact aL (by assumption) (by assumption)
   obtain⟨k,hk⟩ : ∃k,items.size - i=k+1:=⟨items.size - i - 1,by omega⟩
   rw[hk,lV]at hrest
   injection hrest with h1 h2
   subst h1
   have hg:items[y]? = some items[y]:=by simp[hlt]
   rw[hg]
   refine ab (he _ (Array.getElem_mem hlt) prog w _ _ ?_)
   by_cases hyj:y=j
   ·subst hyj
    rw[hit]
    wp_walk
    exact⟨_,rfl,h⟩
   ·rw[hno y hlt (by exact fJ (by assumption) (by assumption))]
    wp_walk
    exact⟨rfl,rfl,y+1,by exact fJ (by assumption) (by assumption),by rw[h2];congr 1;omega⟩
  case fin=>
   rintro ⟨b1,b2⟩ s' ⟨hb,rfl,i,hij,hrest⟩
   exfalso
   have h3:=congrArg kE hrest
   simp at h3
   omega
  case h=>
   exact⟨rfl,rfl,0,cn _,by simp⟩
end _G
end
section
namespace _G
open PySem PySem.SeqAt
open PySem.AutoSeq1 (wpAny_loadPart')
open PySem.MeetsSeq PySem.MeetsSeq2 PySem.MeetsSeq3
theorem oV:fillsNumberSlot (.type "tuple") "mul"=pure false:=
 fillsNumberSlot_seq (id:="tuple.__mul__") (r:=some (.builtin "tuple.__rmul__")) F.slot_tuple_mul.lookup (by decide +kernel) F.slot_tuple_rmul.lookup (by decide +kernel)
theorem uP:seqRepeat? (.type "tuple")=pure (some (.builtin "tuple.__mul__")):=by
 unfold seqRepeat?
 rw [seqSlot_of (T:="tuple") (name:="__mul__") (id:="tuple.__mul__") F.slot_tuple_mul.lookup (by decide +kernel),seqSlot_of (T:="tuple") (name:="__rmul__") (id:="tuple.__rmul__") F.slot_tuple_rmul.lookup (by decide +kernel)]
 rfl
theorem rB(a:Int)(t:Tok)(l:Addr)(items:Array Value)(n:Nat)(dd:Option Addr)(sl:Array (Option Value)):
  Meets (Builtin.«int.__rmul__» ⟨[.int a t,.ref l],[]⟩) (fun _ R s=>s.heap.get? l=some { cls := .type "tuple",dict:=dd,data := .seq items n,slots:=sl }/\R (.ok (.ret Value.notImplemented)) s):=
 .of_wp λprog w A R s h=>by obtain⟨hp,g,d,tk,os⟩:=s;obtain⟨hl,h⟩:=h;wp_walk;exact⟨_,rfl,h⟩
theorem tI(l:Addr)(items:Array Value)(n:Nat)(dd:Option Addr)(sl:Array (Option Value))(t:Tok):
  Meets (Builtin.«tuple.__mul__» ⟨[.ref l,.int 1 t],[]⟩) (fun _ R s=>s.heap.get? l=some { cls := .type "tuple",dict:=dd,data := .seq items n,slots:=sl }/\R (.ok (.ret (bj l))) { s with toks:=s.toks }):=
 .of_wp λprog w A R s h=>by
  obtain⟨hp,g,d,tk,os⟩:=s;obtain⟨hl,h⟩:=h
  have f1:=qD
  have hno: ¬((decide ((1:Int) < -2 ^ 63)||decide ((1:Int) >= 2 ^ 63))=true):=by decide
  have hyes:(items.isEmpty||(1:Int)==1)=true:=by simp
  wp_walk using dR hl
  exact⟨_,rfl,h⟩
theorem y7(l:Addr)(items:Array Value)(n:Nat)(dd:Option Addr)(sl:Array (Option Value))(t:Tok)(he:items.isEmpty=false):
  Meets (Builtin.«tuple.__mul__» ⟨[.ref l,.int 0 t],[]⟩) (fun _ R s=>s.heap.get? l=some { cls := .type "tuple",dict:=dd,data := .seq items n,slots:=sl }/\R (.ok (.ret (bj s.heap.objs.size))) { s with heap:=s.heap.push { cls:=hX "tuple",data:=sy #[] },toks:=s.toks }):=
 .of_wp λprog w A R s h=>by
  obtain⟨hp,g,d,tk,os⟩:=s;obtain⟨hl,h⟩:=h
  have f1:=qD
  have hno: ¬((decide ((0:Int) < -2 ^ 63)||decide ((0:Int) >= 2 ^ 63))=true):=by decide
  have hno1: ¬((items.isEmpty||(0:Int)==1)=true):=by rw[he];decide
  have hyes:(decide ((0:Int)<=0)||items.isEmpty)=true:=by simp
  wp_walk using dR hl
  exact⟨_,rfl,h⟩
theorem yk(l:Addr)(items:Array Value)(n:Nat)(dd:Option Addr)(sl:Array (Option Value))(k:Int)(t:Tok)(h1: ¬(items.isEmpty||k==1)=true)(h0:0<k)(hk:k<1000)(hz:items.size<1000):
  Meets (Builtin.«tuple.__mul__» ⟨[.ref l,.int k t],[]⟩) (fun _ R s=>s.heap.get? l=some { cls := .type "tuple",dict:=dd,data := .seq items n,slots:=sl } /\
   R (.ok (.ret (bj s.heap.objs.size))) { s with heap:=s.heap.push { cls:=hX "tuple",data:=sy ((aR k.toNat items).foldl (· ++ ·) #[]) },toks:=s.toks }):=
 .of_wp λprog w A R s h=>by
  obtain⟨hp,g,d,tk,os⟩:=s;obtain⟨hl,h⟩:=h
  have f1:=qD
  have hno: ¬((decide (k < -2 ^ 63)||decide (k >= 2 ^ 63))=true):=by
   rw[ni,decide_eq_true_eq,decide_eq_true_eq];omega
  have he:items.isEmpty=false:=by
   cases q:items.isEmpty with
   | false=>rfl
   | true=>rw[q]at h1;simp at h1
  have hno2: ¬((decide (k<=0)||items.isEmpty)=true):=by
   rw[he,Bool.or_false,decide_eq_true_eq];omega
  have hp1:(items.size:Int)*k<=1000000:=by
   have a1:(items.size:Int)*k<=1000*k:=Int.mul_le_mul_of_nonneg_right (by omega) (by omega)
   omega
  have hm1: ¬((items.size:Int)*k > (2 ^ 63 - 1) / 8):=by omega
  have hm2: ¬(p5 ((items.size:Int)*k)=true):=by
   unfold p5
   simp only[sizeLine_eq,decide_eq_true_eq,gt_iff_lt]
   omega
  have hsz:(List.foldl (λx1 x2=>x1++x2) #[] (aR k.toNat items)).size<=sizeLine:=by
   have e: ∀(m:Nat) (a:Array Value),(List.foldl (λx1 x2=>x1++x2) a (aR m items)).size=a.size+m*items.size:=by
    intro m
    induction m with
    | zero=>intro a;simp
    | succ m ih=>intro a;rw[dw,nj,ih];simp;rw[ng];omega
   rw[e]
   have a2:k.toNat*items.size<=1000*items.size:=dE _ (by omega)
   rw[sizeLine_eq]
   simp;omega
  wp_walk using dR hl
  rw[if_neg hno]
  wp_walk using dR hl
  rw[if_neg h1]
  wp_walk using dR hl
  rw[if_neg hm1]
  wp_walk using dR hl
  all_goals first |exact⟨_,rfl,h⟩ |skip
end _G
end
section
namespace _G
open PySem PySem.Spec _L
open PyProof.Rows hiding St
mutual
noncomputable def RU(H:Hp)(μ:List Addr):U->V->Prop
 | .non,v=>v = .non
 | .bl b,v=>v = .bl b
 | .int i,v=>v = .int i
 | .str x,v=>v = .str x
 | .tup us,v =>∃a vs,v = .ref a/\H a=some (.tup vs)/\RUs H μ us vs
 | .ref n,v =>∃a,v = .ref a/\μ[n]? = some a
 | .obj a,v=>v = .ref a
noncomputable def RUs(H:Hp)(μ:List Addr):List U->List V->Prop
 | [],vs=>vs = []
 | u::us,vs =>∃v r,vs=v::r/\RU H μ u v/\RUs H μ us r
end
noncomputable def bh(H H':Hp):Prop:= ∀a vs,H a=some (.tup vs)->H' a=some (.tup vs)
noncomputable def Pre(μ μ':List Addr):Prop:= ∃t,μ'=μ++t
theorem bh.refl(H:Hp):bh H H:=λ_ _ h=>h
theorem bh.trans{H H1 H2:Hp}(a:bh H H1)(b:bh H1 H2):bh H H2:=λc vs h=>b c vs (a c vs h)
theorem Pre.refl(μ:List Addr):Pre μ μ:=⟨[],by simp⟩
theorem Pre.trans{μ μ1 μ2:List Addr}(a:Pre μ μ1)(b:Pre μ1 μ2):Pre μ μ2:=by
 obtain⟨t,rfl⟩:=a
 obtain⟨u,rfl⟩:=b
 exact⟨t++u,by simp⟩
theorem Pre.get{μ μ':List Addr}(p:Pre μ μ'){n:Nat}{a:Addr}(h:μ[n]? = some a):μ'[n]? = some a:=by
 obtain⟨t,rfl⟩:=p
 have hn:n<μ.length:=(ai.mp h).1
 rw[aP hn];exact h
theorem bh.new{H:Hp}{p:Addr}{o:HO}(h:H p=none):bh H (upd H p o):=λa vs e=>by rw[bw (bx e h)];exact e
theorem bh.wr{H:Hp}{p:Addr}{xs ys:List V}(h:H p=some (.lst xs)):bh H (upd H p (.lst ys)):=λa vs e=>by
 rw[bw (rh e h (by intro z;cases z))];exact e
mutual
theorem RU.mono{H H':Hp}{μ μ':List Addr}(k:bh H H')(p:Pre μ μ'): ∀(u:U) (v:V),RU H μ u v->RU H' μ' u v
 | .non,_,h=>by simpa [RU]using h
 | .bl _,_,h=>by simpa [RU]using h
 | .int _,_,h=>by simpa [RU]using h
 | .str _,_,h=>by simpa [RU]using h
 | .obj _,_,h=>by simpa [RU]using h
 | .ref n,v,h=>by
   simp only[RU]at h ⊢
   obtain⟨a,e,q⟩:=h
   exact⟨a,e,p.get q⟩
 | .tup us,v,h=>by
   simp only[RU]at h ⊢
   obtain⟨a,vs,e,q,r⟩:=h
   exact⟨a,vs,e,k a vs q,RUs.mono k p us vs r⟩
theorem RUs.mono{H H':Hp}{μ μ':List Addr}(k:bh H H')(p:Pre μ μ'): ∀(us:List U) (vs:List V),RUs H μ us vs->RUs H' μ' us vs
 | [],_,h=>by simpa [RUs]using h
 | u::us,vs,h=>by
   simp only[RUs]at h ⊢
   obtain⟨v,r,e,a,b⟩:=h
   exact⟨v,r,e,RU.mono k p u v a,RUs.mono k p us r b⟩
end
section
variable {H:Hp}{μ:List Addr}
theorem RUs.nil:RUs H μ [] []:=by simp[RUs]
theorem RUs.cons{u:U}{us:List U}{v:V}{vs:List V}(a:RU H μ u v)(b:RUs H μ us vs):RUs H μ (u::us) (v::vs):=by
 simp only[RUs];exact⟨v,vs,rfl,a,b⟩
theorem RUs.inv{u:U}{us:List U}{vs:List V}(h:RUs H μ (u::us) vs): ∃v r,vs=v::r/\RU H μ u v/\RUs H μ us r:=by simpa only [RUs]using h
theorem RUs.nil_inv{vs:List V}(h:RUs H μ [] vs):vs = []:=by simpa only [RUs]using h
theorem RUs.len: ∀{us:List U}{vs:List V},RUs H μ us vs->us.length=vs.length
 | [],vs,h=>by rw[h.nil_inv];rfl
 | u::us,vs,h=>by
   obtain⟨v,r,rfl,_,b⟩:=h.inv
   simp[b.len]
theorem RUs.get: ∀{us:List U}{vs:List V}{i:Nat}{u:U},RUs H μ us vs->us[i]? = some u -> ∃v,vs[i]? = some v/\RU H μ u v
 | [],vs,i,u,h,e=>by simp at e
 | x::us,vs,0,u,h,e=>by
   obtain⟨v,r,rfl,a,b⟩:=h.inv
   simp at e;subst e
   exact⟨v,rfl,a⟩
 | x::us,vs,i+1,u,h,e=>by
   obtain⟨v,r,rfl,a,b⟩:=h.inv
   obtain⟨w,h1,h2⟩:=RUs.get (i:=i) b (by simpa using e)
   exact⟨w,by simpa using h1,h2⟩
theorem RUs.append: ∀{us ws:List U}{vs xs:List V},RUs H μ us vs->RUs H μ ws xs->RUs H μ (us++ws) (vs++xs)
 | [],ws,vs,xs,h,g=>by rw[h.nil_inv];exact g
 | u::us,ws,vs,xs,h,g=>by
   obtain⟨v,r,rfl,a,b⟩:=h.inv
   exact .cons a (b.append g)
theorem RUs.set{u:U}{v:V}(q:RU H μ u v): ∀{us:List U}{vs:List V} (i:Nat),RUs H μ us vs->RUs H μ (us.set i u) (vs.set i v)
 | [],vs,i,h=>by rw[h.nil_inv];simpa using RUs.nil
 | x::us,vs,0,h=>by
   obtain⟨w,r,rfl,a,b⟩:=h.inv
   exact .cons q b
 | x::us,vs,i+1,h=>by
   obtain⟨w,r,rfl,a,b⟩:=h.inv
   exact .cons a (RUs.set q i b)
theorem RUs.eraseIdx: ∀{us:List U}{vs:List V} (i:Nat),RUs H μ us vs->RUs H μ (us.eraseIdx i) (vs.eraseIdx i)
 | [],vs,i,h=>by rw[h.nil_inv];simpa using RUs.nil
 | x::us,vs,0,h=>by
   obtain⟨w,r,rfl,a,b⟩:=h.inv
   exact b
 | x::us,vs,i+1,h=>by
   obtain⟨w,r,rfl,a,b⟩:=h.inv
   exact .cons a (RUs.eraseIdx i b)
theorem RUs.drop: ∀{us:List U}{vs:List V} (i:Nat),RUs H μ us vs->RUs H μ (us.drop i) (vs.drop i)
 | us,vs,0,h=>h
 | [],vs,i+1,h=>by rw[h.nil_inv];simpa using RUs.nil
 | x::us,vs,i+1,h=>by
   obtain⟨w,r,rfl,a,b⟩:=h.inv
   exact RUs.drop i b
theorem RUs.take: ∀{us:List U}{vs:List V} (i:Nat),RUs H μ us vs->RUs H μ (us.take i) (vs.take i)
 | us,vs,0,h=>by simpa using RUs.nil
 | [],vs,i+1,h=>by rw[h.nil_inv];simpa using RUs.nil
 | x::us,vs,i+1,h=>by
   obtain⟨w,r,rfl,a,b⟩:=h.inv
   exact .cons a (RUs.take i b)
theorem RUs.dropLast{us:List U}{vs:List V}(h:RUs H μ us vs):RUs H μ us.dropLast vs.dropLast:=by
 rw[E3,E3,h.len];exact h.take _
theorem RUs.ints: ∀(ns:List Int),RUs H μ (ns.map U.int) (ns.map V.int)
 | [] => .nil
 | n::ns => .cons (by simp[RU]) (RUs.ints ns)
end
structure KX where
 K:aj
 caps:List U
 capv:List V
 cds:List (Addr×Obj)
 tabs:List (Addr×Str)
noncomputable instance:Coe KX aj:=⟨KX.K⟩
noncomputable def fz:HO:= .ext λ_=>True
noncomputable def yN(H:Hp)(P:Addr)(q:Str):Prop:= ∃ps:Array Value,H P=some (.tbl ps)/\TriplesOk ps.toList /\
 ∀pos cv,codeAmong pos ps.toList=some cv -> ∃c oc vs t,cv = .ref c/\H c=some (.frz oc fz)/\oc.data = .fields vs/\vs[1]? = some (.str q t)
structure HX(K:KX)(μ:List Addr)(H:Hp):Prop where
 cap:RUs H μ K.caps K.capv
 cds: ∀q∈K.cds,H q.1=some (.frz q.2 fz)
 tab: ∀q∈K.tabs,yN H q.1 q.2
theorem HX.upd{K:KX}{μ μ':List Addr}{H:Hp}{p:Addr}{o':HO}(h:HX K μ H)(kp:bh H (upd H p o'))(pre:Pre μ μ')(nf: ∀o,H p=some o->(∀o' u,o≠.frz o' u) /\ ∀ps,o≠.tbl ps):HX K μ' (upd H p o'):=by
 have f: ∀a o u,H a=some (.frz o u)->_L.upd H p o' a=some (.frz o u):=λa o u e=>by
  rw[bw]
  ·exact e
  ·rintro rfl
   exact(nf _ e).1 o u rfl
 refine⟨RUs.mono kp pre _ _ h.cap,λq hq=>f _ _ _ (h.cds q hq),λq hq =>?_⟩
 obtain⟨ps,e,tr,al⟩:=h.tab q hq
 refine⟨ps,?_,tr,λpos cv hc =>?_⟩
 ·rw[bw]
  ·exact e
  ·intro z
   rw[z]at e
   exact(nf _ e).2 ps rfl
 ·obtain⟨c,oc,vs,t,e1,e2,e3,e4⟩:=al pos cv hc
  exact⟨c,oc,vs,t,e1,f _ _ _ e2,e3,e4⟩
noncomputable def dV(kvs:List (Key×U))(vs:List V):List (Key×V):=(kvs.map (·.1)).zip vs
noncomputable def mF(K:KX)(H:Hp)(μ:List Addr)(a:Addr):Cell->Prop
 | .lst us =>∃vs,H a=some (.lst vs)/\RUs H μ us vs
 | .frz us =>∃vs,((∃o,H a=some (.frz o (.lst vs)))\/SqL K (λ_=>none) a vs)/\RUs H μ us vs
 | .dic kvs =>∃vs,H a=some (.dK (dV kvs vs))/\RUs H μ (kvs.map (·.2)) vs
noncomputable def Cell.own:Cell->Bool
 | .frz _=>false
 | _=>true
structure HR(K:KX)(μ:List Addr)(S:Sto)(H:Hp):Prop where
 len:μ.length=S.length
 inj: ∀(n m:Nat) (c d:Cell),S[n]? = some c->S[m]? = some d->c.own=true->d.own=true->μ[n]? = μ[m]? -> n=m
 cell: ∀(n:Nat) (c:Cell) (a:Addr),S[n]? = some c->μ[n]? = some a->mF K H μ a c
 ext:HX K μ H
structure ER(H:Hp)(μ:List Addr)(ρ:Rho)(σ:St):Prop where
 len:ρ.length=σ.length
 get: ∀(i:Nat) (u:U),ρ[i]? = some (some u) -> ∃v,σ[i]? = some (some v)/\RU H μ u v
theorem ER.mono{H H':Hp}{μ μ':List Addr}{ρ:Rho}{σ:St}(e:ER H μ ρ σ)(k:bh H H')(p:Pre μ μ'):ER H' μ' ρ σ:=
 ⟨e.len,λi u h=>let ⟨v,a,b⟩:=e.get i u h;⟨v,a,RU.mono k p u v b⟩⟩
theorem ER.set{H:Hp}{μ:List Addr}{ρ:Rho}{σ:St}(e:ER H μ ρ σ){u:U}{v:V}(r:RU H μ u v)(i:Nat):ER H μ (ρ.set i (some u)) (σ.set i (some v)):=by
 refine⟨by simpa using e.len,λj w h =>?_⟩
 by_cases hj:i=j
 ·subst hj
  rw[List.getElem?_set]at h
  simp only[if_true]at h
  split at h
  ·rename_i hl
   cases h
   refine⟨v,?_,r⟩
   rw[aY (by rw[<- e.len];exact hl)]
  ·cases h
 ·rw[aK hj]at h
  obtain⟨x,a,b⟩:=e.get j w h
  exact⟨x,by rw[aK hj];exact a,b⟩
theorem ER.push{H:Hp}{μ:List Addr}{ρ:Rho}{σ:St}(e:ER H μ ρ σ){u:U}{v:V}(r:RU H μ u v):ER H μ (ρ++[some u]) (σ++[some v]):=by
 refine⟨by simp[e.len],λj w h =>?_⟩
 by_cases hj:j<ρ.length
 ·rw[aP hj]at h
  obtain⟨x,a,b⟩:=e.get j w h
  exact⟨x,by rw[aP (by rw[<- e.len];exact hj)];exact a,b⟩
 ·have hj':j=ρ.length:=by
   have:=(ai.mp h).1
   simp at this;omega
  subst hj'
  rw[av (ah _)]at h
  simp at h;subst h
  refine⟨v,?_,r⟩
  rw[e.len,av (ah _)];simp
section
variable {K:KX}{H:Hp}{μ:List Addr}{S:Sto}
theorem mF.mono{H':Hp}{μ':List Addr}{a:Addr}{c:Cell}(h:mF K H μ a c)(k:bh H H')(p:Pre μ μ')(l:c.own=true->H' a=H a)(f: ∀o u,H a=some (.frz o u)->H' a=some (.frz o u)):mF K H' μ' a c:=by
 cases c with
 | lst us=>
   obtain⟨vs,e,r⟩:=h
   exact⟨vs,(l rfl).trans e,RUs.mono k p us vs r⟩
 | dic kvs=>
   obtain⟨vs,e,r⟩:=h
   exact⟨vs,(l rfl).trans e,RUs.mono k p _ vs r⟩
 | frz us=>
   obtain⟨vs,e,r⟩:=h
   refine⟨vs,?_,RUs.mono k p us vs r⟩
   rcases e with⟨o,e⟩ |e
   ·exact .inl ⟨o,f o _ e⟩
   ·exact .inr e
theorem mF.has{a:Addr}{c:Cell}(h:mF K H μ a c)(ho:c.own=true): ∃o,H a=some o/\(∀vs,o≠.tup vs)/\(∀o' u,o≠.frz o' u) /\ ∀ps,o≠.tbl ps:=by
 cases c with
 | lst us=>obtain⟨vs,e,r⟩:=h;exact⟨_,e,λ_ z=>(by cases z),λ_ _ z=>(by cases z),λ_ z=>(by cases z)⟩
 | dic kvs=>obtain⟨vs,e,r⟩:=h;exact⟨_,e,λ_ z=>(by cases z),λ_ _ z=>(by cases z),λ_ z=>(by cases z)⟩
 | frz us=>cases ho
theorem bh.wrG{H:Hp}{p:Addr}{o o':HO}(h:H p=some o)(ht: ∀vs,o≠.tup vs):bh H (upd H p o'):=λa vs e=>by
 rw[bw (rh e h (cZ (ht vs)))];exact e
theorem HR.get(h:HR K μ S H){n:Nat}{c:Cell}(e:S[n]? = some c): ∃a,μ[n]? = some a/\mF K H μ a c:=by
 have hn:n<μ.length:=by rw[h.len];exact(ai.mp e).1
 exact⟨μ[n],by simp[hn],h.cell n c _ e (by simp[hn])⟩
theorem HR.wrC(h:HR K μ S H){n:Nat}{c d:Cell}{a:Addr}{o':HO}(e:S[n]? = some c)(ea:μ[n]? = some a)(hc:c.own=true)(hd:d.own=true)(r:mF K (upd H a o') μ a d):HR K μ (S.set n d) (upd H a o'):=by
 obtain⟨o,e0,nt,nf,nb⟩:=(h.cell n _ a e ea).has hc
 have kp:bh H (upd H a o'):=bh.wrG e0 nt
 have hn:n<S.length:=(ai.mp e).1
 have pick: ∀(m:Nat) (c':Cell),(S.set n d)[m]? = some c'->c'.own=true -> ∃c'',S[m]? = some c''/\c''.own=true:=λm c' q hq=>by
  by_cases hm:n=m
  ·subst hm;exact⟨c,e,hc⟩
  ·rw[aK hm]at q;exact⟨c',q,hq⟩
 refine⟨by rw[fM];exact h.len,λi j u1 u2 q1 q2 o1 o2 q3 =>?_,λm c' b q1 q2 =>?_,h.ext.upd kp (Pre.refl _) λo1 q=>by rw[e0]at q;cases q;exact⟨nf,nb⟩⟩
 ·obtain⟨w1,z1,y1⟩:=pick i u1 q1 o1
  obtain⟨w2,z2,y2⟩:=pick j u2 q2 o2
  exact h.inj i j w1 w2 z1 z2 y1 y2 q3
 ·by_cases hm:n=m
  ·subst hm
   rw[aY hn]at q1
   cases q1
   rw[ea]at q2;cases q2
   exact r
  ·rw[aK hm]at q1
   refine(h.cell m c' b q1 q2).mono kp (Pre.refl _) (λhc' =>?_) λo u hf =>?_
   ·refine bw ?_
    rintro rfl
    exact hm (h.inj n m c c' e q1 hc hc' (ea.trans q2.symm))
   ·rw[bw (rh hf e0 (cZ (nf o u)))];exact hf
theorem HR.wr(h:HR K μ S H){n:Nat}{us ws:List U}{vs:List V}{a:Addr}(e:S[n]? = some (.lst us))(ea:μ[n]? = some a)(r:RUs H μ ws vs):HR K μ (S.set n (.lst ws)) (upd H a (.lst vs)):=by
 obtain⟨vs0,e0,r0⟩:=h.cell n _ a e ea
 exact h.wrC e ea rfl rfl ⟨vs,cw,RUs.mono (bh.wr e0) (Pre.refl _) ws vs r⟩
theorem HR.newC(h:HR K μ S H){d:Cell}{p:Addr}{o':HO}(hp:H p=none)(hd:d.own=true)(r:mF K (upd H p o') (μ++[p]) p d):HR K (μ++[p]) (S++[d]) (upd H p o'):=by
 have kp:bh H (upd H p o'):=bh.new hp
 have pre:Pre μ (μ++[p]):=⟨[p],rfl⟩
 have old: ∀(n:Nat) (c:Cell),n<S.length->(S++[d])[n]? = some c->S[n]? = some c:=λn c hn q=>by rwa[aP hn]at q
 have last: ∀(n:Nat) (c:Cell),¬n<S.length->(S++[d])[n]? = some c->n=S.length:=λn c hn q=>by
  have:=(ai.mp q).1
  simp at this;omega
 have fresh: ∀(n:Nat) (c:Cell),S[n]? = some c->c.own=true -> ∀a,μ[n]? = some a->a≠p:=λn c q hc a qa=>by
  obtain⟨o,e,_⟩:=(h.cell n _ a q qa).has hc
  exact bx e hp
 have mulast:(μ++[p])[S.length]? = some p:=by rw[<- h.len,av (ah _)];simp
 have muold: ∀(n:Nat),n<S.length->(μ++[p])[n]? = μ[n]? := λn hn=>aP (by rw[h.len];exact hn)
 refine⟨by simp[h.len],λi j u1 u2 q1 q2 o1 o2 q3 =>?_,λm c b q1 q2 =>?_,h.ext.upd kp pre λo1 q=>by rw[hp]at q;cases q⟩
 ·by_cases hi:i<S.length
  ·by_cases hj:j<S.length
   ·rw[muold i hi,muold j hj]at q3
    exact h.inj i j u1 u2 (old i _ hi q1) (old j _ hj q2) o1 o2 q3
   ·have e:=last j _ hj q2
    subst e
    obtain⟨a,ha,_⟩:=h.get (old i _ hi q1)
    rw[muold i hi,mulast,ha]at q3
    exact absurd (bR q3) (fresh i u1 (old i _ hi q1) o1 a ha)
  ·have e:=last i _ hi q1
   subst e
   by_cases hj:j<S.length
   ·obtain⟨a,ha,_⟩:=h.get (old j _ hj q2)
    rw[muold j hj,mulast,ha]at q3
    exact absurd (bR q3).symm (fresh j u2 (old j _ hj q2) o2 a ha)
   ·exact(last j _ hj q2).symm
 ·by_cases hm:m<S.length
  ·rw[muold m hm]at q2
   refine(h.cell m c b (old m c hm q1) q2).mono kp pre (λhc =>?_) λo u hf =>?_
   ·exact bw (fresh m c (old m _ hm q1) hc b q2)
   ·rw[bw (bx hf hp)];exact hf
  ·have e:=last m c hm q1
   subst e
   rw[mulast]at q2;cases q2
   rw[av (ah _)]at q1
   simp at q1;subst q1
   exact r
theorem HR.new(h:HR K μ S H){us:List U}{vs:List V}{p:Addr}(hp:H p=none)(r:RUs H μ us vs):HR K (μ++[p]) (S++[.lst us]) (upd H p (.lst vs)):=
 h.newC hp rfl ⟨vs,cw,RUs.mono (bh.new hp) ⟨[p],rfl⟩ us vs r⟩
theorem HR.tup(h:HR K μ S H){vs:List V}{p:Addr}(hp:H p=none):HR K μ S (upd H p (.tup vs)):=by
 have kp:bh H (upd H p (.tup vs)):=bh.new hp
 refine⟨h.len,h.inj,λm c b q1 q2=>(h.cell m c b q1 q2).mono kp (Pre.refl _) (λhc =>?_) λo u hf =>?_,h.ext.upd kp (Pre.refl _) λo1 q=>by rw[hp]at q;cases q⟩
 ·obtain⟨o,e,_⟩:=(h.cell m _ b q1 q2).has hc
  exact bw (bx e hp)
 ·rw[bw (bx hf hp)];exact hf
theorem HR.sq(h:HR K μ S H){n:Nat}{us:List U}(e:getL S n=some us): ∃a vs,μ[n]? = some a/\SqL K H a vs/\RUs H μ us vs:=by
 unfold getL at e
 split at e
 ·rename_i ws q
  cases e
  obtain⟨a,ha,vs,e1,r⟩:=h.get q
  exact⟨a,vs,ha,SqL.of e1,r⟩
 ·rename_i ws q
  cases e
  obtain⟨a,ha,vs,e1,r⟩:=h.get q
  refine⟨a,vs,ha,?_,r⟩
  rcases e1 with⟨o,e1⟩ |e1
  ·exact .inl (.inr ⟨o,e1⟩)
  ·rcases e1 with (e1 | ⟨o,e1⟩) |e1
   ·cases e1
   ·cases e1
   ·exact .inr e1
 ·cases e
 ·cases e
end
noncomputable def Aft(K:KX)(μ:List Addr)(H:Hp)(u:U)(S':Sto)(Q:VK):Prop:= ∀μ' v H',Pre μ μ'->bh H H'->HR K μ' S' H'->RU H' μ' u v->Q v H'
noncomputable def tM(K:KX)(m:ME):TE:=λσ H Q =>∃μ S ρ u S',HR K μ S H/\ER H μ ρ σ/\m ρ S=some (u,S')/\Aft K μ H u S' Q
noncomputable def tMT(K:KX)(m:MT):TT:=λσ H Q =>∃μ S ρ b S',HR K μ S H/\ER H μ ρ σ/\m ρ S=some (b,S') /\ ∀μ' H',Pre μ μ'->bh H H'->HR K μ' S' H'->Q b H'
noncomputable def tMA(K:KX)(m:MA):TA:=λσ H Q =>∃μ S ρ us S',HR K μ S H/\ER H μ ρ σ/\m ρ S=some (us,S') /\ ∀μ' vs H',Pre μ μ'->bh H H'->HR K μ' S' H'->RUs H' μ' us vs->Q vs H'
noncomputable def FlP(K:KX)(μ:List Addr)(H:Hp)(D:Ends):Fl×Rho×Sto->Prop
 | (.nx,ρ',S') =>∀μ' σ' H',Pre μ μ'->bh H H'->HR K μ' S' H'->ER H' μ' ρ' σ'->D.nx σ' H'
 | (.bk,ρ',S') =>∀μ' σ' H',Pre μ μ'->bh H H'->HR K μ' S' H'->ER H' μ' ρ' σ'->D.bk σ' H'
 | (.ct,ρ',S') =>∀μ' σ' H',Pre μ μ'->bh H H'->HR K μ' S' H'->ER H' μ' ρ' σ'->D.ct σ' H'
 | (.rt u,_,S')=>Aft K μ H u S' D.rt
noncomputable def tMS(K:KX)(m:MS):TS:=λD σ H =>∃μ S ρ r,HR K μ S H/\ER H μ ρ σ/\m ρ S=some r/\FlP K μ H D r
theorem Aft.mono{K:KX}{μ μ1:List Addr}{H H1:Hp}{u:U}{S':Sto}{Q:VK}(a:Aft K μ H u S' Q)(p:Pre μ μ1)(k:bh H H1):Aft K μ1 H1 u S' Q:=
 λμ' v H' p' k'=>a μ' v H' (p.trans p') (k.trans k')
theorem FlP.mono{K:KX}{μ μ1:List Addr}{H H1:Hp}{D:Ends}{r:Fl×Rho×Sto}(a:FlP K μ H D r)(p:Pre μ μ1)(k:bh H H1):FlP K μ1 H1 D r:=by
 obtain⟨f,ρ',S'⟩:=r
 cases f with
 | nx=>exact λμ' σ' H' p' k'=>a μ' σ' H' (p.trans p') (k.trans k')
 | bk=>exact λμ' σ' H' p' k'=>a μ' σ' H' (p.trans p') (k.trans k')
 | ct=>exact λμ' σ' H' p' k'=>a μ' σ' H' (p.trans p') (k.trans k')
 | rt u=>exact Aft.mono a p k
end _G
end
section
namespace _G
open PySem PySem.Spec _L
open PyProof.Rows hiding St
section
variable {K:KX}{σ:St}{H:Hp}{Q:VK}
theorem nY{A B:Prop}(h:A):if true=true then A else B:=by rw[if_pos rfl];exact h
theorem nA{A B:Prop}(h:B):if false=true then A else B:=by rw[if_neg bM];exact h
theorem Lg{i:Nat}(h:tM K (ae i) σ H Q):Lz i σ H Q:=by
 obtain⟨μ,S,ρ,u,S',hr,er,e,k⟩:=h
 unfold ae at e
 split at e
 ·rename_i w q
  cases e
  obtain⟨v,hv,ru⟩:=er.get i _ q
  exact⟨v,hv,k μ v H (Pre.refl _) (bh.refl _) hr ru⟩
 ·cases e
theorem r_c{u:U}{v:V}(hv: ∀H μ,RU H μ u v)(h:tM K (mC u) σ H Q):tC v σ H Q:=by
 obtain⟨μ,S,ρ,u',S',hr,er,e,k⟩:=h
 cases e
 exact k μ v H (Pre.refl _) (bh.refl _) hr (hv _ _)
noncomputable def OpU(K:KX)(r:R2)(f:F2):Prop:= ∀(μ:List Addr) (S:Sto) (H:Hp) (x y:U) (vx vy:V) (u:U) (S':Sto) (Q:VK),HR K μ S H->RU H μ x vx->RU H μ y vy->f x y S=some (u,S')->Aft K μ H u S' Q->r vx vy H Q
theorem uM{r:R2}{f:F2}{a b:ME}(o:OpU K r f)(h:tM K (m2 f a b) σ H Q):tOp r (tM K a) (tM K b) σ H Q:=by
 obtain⟨μ,S,ρ,u,S',hr,er,e,k⟩:=h
 obtain⟨x,S1,e1,e⟩:=bc e
 obtain⟨y,S2,e2,e⟩:=bc e
 refine⟨μ,S,ρ,x,S1,hr,er,e1,λμ1 vx H1 p1 k1 hr1 rx =>?_⟩
 refine⟨μ1,S1,ρ,y,S2,hr1,er.mono k1 p1,e2,λμ2 vy H2 p2 k2 hr2 ry =>?_⟩
 exact o μ2 S2 H2 x y vx vy u S' Q hr2 (RU.mono k2 p2 x vx rx) ry e (k.mono (p1.trans p2) (k1.trans k2))
noncomputable def UnU(K:KX)(r:V->Hp->VK->Prop)(f:U->Sto->Res U):Prop:= ∀(μ:List Addr) (S:Sto) (H:Hp) (x:U) (vx:V) (u:U) (S':Sto) (Q:VK),HR K μ S H->RU H μ x vx->f x S=some (u,S')->Aft K μ H u S' Q->r vx H Q
theorem OF{r:V->Hp->VK->Prop}{f:U->Sto->Res U}{a:ME}(o:UnU K r f)(h:tM K (m1 f a) σ H Q):tUn r (tM K a) σ H Q:=by
 obtain⟨μ,S,ρ,u,S',hr,er,e,k⟩:=h
 obtain⟨x,S1,e1,e⟩:=bc e
 refine⟨μ,S,ρ,x,S1,hr,er,e1,λμ1 vx H1 p1 k1 hr1 rx =>?_⟩
 exact o μ1 S1 H1 x vx u S' Q hr1 rx e (k.mono p1 k1)
theorem Aft.now{μ:List Addr}{S:Sto}{u:U}{v:V}(k:Aft K μ H u S Q)(hr:HR K μ S H)(r:RU H μ u v):Q v H:=k μ v H (Pre.refl _) (bh.refl _) hr r
theorem eV{μ:List Addr}{i:Int}:RU H μ (.int i) (.int i):=by simp[RU]
theorem ky{μ:List Addr}{b:Bool}:RU H μ (.bl b) (.bl b):=by simp[RU]
theorem o4{μ:List Addr}:RU H μ .non .non:=by simp[RU]
theorem g9{μ:List Addr}{us:List U}{vs:List V}{a:Addr}(e:H a=some (.tup vs))(r:RUs H μ us vs):RU H μ (.tup us) (.ref a):=by
 simp only[RU];exact⟨a,vs,rfl,e,r⟩
theorem qZ{μ:List Addr}{n:Nat}{a:Addr}(e:μ[n]? = some a):RU H μ (.ref n) (.ref a):=by
 simp only[RU];exact⟨a,rfl,e⟩
theorem dA{μ:List Addr}{i:Int}{v:V}(h:RU H μ (.int i) v):v = .int i:=by simpa only [RU]using h
theorem jY{μ:List Addr}{b:Bool}{v:V}(h:RU H μ (.bl b) v):v = .bl b:=by simpa only [RU]using h
theorem fE{μ:List Addr}{us:List U}{v:V}(h:RU H μ (.tup us) v): ∃a vs,v = .ref a/\H a=some (.tup vs)/\RUs H μ us vs:=by simpa only [RU]using h
theorem eD{μ:List Addr}{n:Nat}{v:V}(h:RU H μ (.ref n) v): ∃a,v = .ref a/\μ[n]? = some a:=by simpa only [RU]using h
theorem Ai{g:Int->Int->V}{f:F2}{k:Int->Int->U}(hf: ∀x y S u S',f x y S=some (u,S') -> ∃i j,x = .int i/\y = .int j/\u=k i j/\S'=S)(hg: ∀H μ i j,RU H μ (k i j) (g i j)):OpU K (rI0 g) f:=by
 intro μ S H x y vx vy u S' Q hr rx ry e a
 obtain⟨i,j,rfl,rfl,rfl,rfl⟩:=hf x y S u S' e
 exact⟨i,j,dA rx,dA ry,a.now hr (hg _ _ _ _)⟩
theorem yt{C:Int->Int->Prop}{g:Int->Int->V}{f:F2}{k:Int->Int->U}(hf: ∀x y S u S',f x y S=some (u,S') -> ∃i j,x = .int i/\y = .int j/\C i j/\u=k i j/\S'=S)(hg: ∀H μ i j,RU H μ (k i j) (g i j)):OpU K (rI C g) f:=by
 intro μ S H x y vx vy u S' Q hr rx ry e a
 obtain⟨i,j,rfl,rfl,c,rfl,rfl⟩:=hf x y S u S' e
 exact⟨i,j,dA rx,dA ry,c,a.now hr (hg _ _ _ _)⟩
theorem Jy:OpU K (rI0 λi j => .int (i - j)) mR:=Ai (k:=λi j => .int (i - j)) (λx y S u S' h=>by
 unfold mR at h;split at h <;> simp at h;obtain⟨rfl,rfl⟩:=h;exact⟨_,_,rfl,rfl,rfl,rfl⟩) λ_ _ _ _=>eV
noncomputable def Ib(K:aj):R2:=λx y H Q =>∃l k xs,x = .ref l/\y = .int k/\H l=some (.tup xs)/\Cg xs.length k/\(k=1->Q (.ref l) H)/\(k≠1 -> ∀p,H p=none->Q (.ref p) (upd H p (.tup (aR k.toNat xs).flatten)))
theorem rQ(its:List Value): ∀(m:Nat) (a:List Value),List.foldl (λx1 x2=>x1++x2) a.toArray (aR m its.toArray)=(a++(aR m its).flatten).toArray
 | 0,a=>by simp
 | m+1,a=>by
   rw[dw,nj,List.append_toArray,rQ its m (a++its),dw,f9,bz]
theorem RUs.rep{H:Hp}{μ:List Addr}{us:List U}{vs:List V}(r:RUs H μ us vs): ∀(m:Nat),RUs H μ (aR m us).flatten (aR m vs).flatten
 | 0=>by simpa using RUs.nil
 | m+1=>by
   rw[dw,f9,dw,f9]
   exact r.append (RUs.rep r m)
theorem GZ{X:Cx}:OpR X (binaryOp .Mult) (Ib X.K):=by
 intro pins s σ H x y v u Q I rx ry h
 obtain⟨l,k,xs,rfl,rfl,hH,⟨h1,h2,h3,h4⟩,q1,q2⟩:=h
 cases (show v=bj l from rx)
 obtain⟨t,rfl⟩:=ry
 obtain⟨z,its,r,⟨⟨cls,dd,data,sl⟩,e,c,n,d⟩,_⟩:=I.hok l _ hH
 simp only at c d
 subst c d
 have hl:its.length=xs.length:=r.length.symm
 refine wpAny_binaryOp_repeat_ref (T:="tuple") (U:="int") (by decide) ⟨_,e,rfl⟩ (fun s'=>typeIs_int s' k t) oV F.fills_int_mul F.slot_int_rmul uP F.slot_int_index.lookup
  (call_meets F.slot_int_rmul (typeIs_int s k t) F.entry_int_rmul (F.args_int_rmul_2 _ _) (rB k t l its.toArray n dd sl) ⟨e,rfl,⟨_,e,rfl⟩,?_⟩)
 by_cases hk:k=1
 ·subst hk
  exact call_meets x8 ⟨_,e,rfl⟩ vW (tQ _ _) (tI l its.toArray n dd sl t) ⟨e,⟨.ref l,H,I,rfl,q1 rfl⟩⟩
 ·by_cases hk0:k=0
  ·subst hk0
   refine call_meets x8 ⟨_,e,rfl⟩ vW (tQ _ _) (y7 l its.toArray n dd sl t ?_) ⟨e,?_⟩
   ·cases its with
    | nil=>simp at hl;omega
    | cons a b=>rfl
   ·exact⟨.ref s.heap.objs.size,_,I.laid (t':=s.toks) (o:= .tup []) (λb ob q=>af _ q) (ah _) ⟨cn _,[],.nil,lI _ _,_,aw _ rfl,rfl⟩,rfl,by simpa using q2 hk _ (I.hok.fresh (ah _))⟩
  refine call_meets x8 ⟨_,e,rfl⟩ vW (tQ _ _) (yk l its.toArray n dd sl k t ?_ (by omega) h2 (by rw[aA];omega)) ⟨e,?_⟩
  ·intro w
   rw[ni]at w
   rcases w with w |w
   ·have:its = []:=by simpa using w
    rw[this]at hl;simp at hl;omega
   ·exact hk (by simpa using w)
  ·rw[show(#[]:Array Value)=([]:List Value).toArray from rfl,rQ its k.toNat [],dk]
   refine⟨.ref s.heap.objs.size,_,I.laid (t':=s.toks) (o:= .tup (aR k.toNat xs).flatten) (λb ob q=>af _ q) (ah _) ?_,rfl,q2 hk _ (I.hok.fresh (ah _))⟩
   refine⟨?_,_,r.rep k.toNat,lI _ _,_,aw _ rfl,rfl⟩
   rw[len_rep,sizeLine_eq]
   have:k.toNat*xs.length<=1000*xs.length:=dE _ (by omega)
   omega
theorem K3:OpU K (λx y H Q=>rI GP (λi j => .int (i*j)) x y H Q\/Ib K x y H Q) gI:=by
 intro μ S H x y vx vy u S' Q hr rx ry e a
 unfold gI at e
 split at e
 ·split at e
  ·rename_i hc
   simp at e;obtain⟨rfl,rfl⟩:=e
   exact .inl ⟨_,_,dA rx,dA ry,hc,a.now hr eV⟩
  ·cases e
 ·rename_i xs k
  split at e
  ·rename_i hc
   simp at e;obtain⟨rfl,rfl⟩:=e
   obtain⟨p,vs,rfl,hp,r1⟩:=fE rx
   refine .inr ⟨p,k,vs,rfl,dA ry,hp,by rw[<- r1.len];exact hc,λhk =>?_,λhk t ht =>?_⟩
   ·subst hk
    have e1:(aR (1:Int).toNat xs).flatten=xs:=by simp
    rw[e1]at a
    exact a.now hr (g9 hp r1)
   ·exact a μ _ _ (Pre.refl _) (bh.new ht) (hr.tup ht) (g9 cw (RUs.mono (bh.new ht) (Pre.refl _) _ _ (r1.rep _)))
  ·cases e
 ·cases e
theorem KM:OpU K (rI Nn λi j => .int (i / j)) oDiv:=yt (k:=λi j => .int (i / j)) (λx y S u S' h=>by
 unfold oDiv at h;split at h
 ·split at h
  ·rename_i hc;simp at h;obtain⟨rfl,rfl⟩:=h;exact⟨_,_,rfl,rfl,hc,rfl,rfl⟩
  ·cases h
 ·cases h) λ_ _ _ _=>eV
theorem KQ:OpU K (rI (λ_ j=>0<j) λi j => .int (i % j)) oMod:=yt (k:=λi j => .int (i % j)) (λx y S u S' h=>by
 unfold oMod at h;split at h
 ·split at h
  ·rename_i hc;simp at h;obtain⟨rfl,rfl⟩:=h;exact⟨_,_,rfl,rfl,hc,rfl,rfl⟩
  ·cases h
 ·cases h) λ_ _ _ _=>eV
theorem Kq:OpU K (rI Nl λi j => .int (i ^ j.toNat)) nQ:=yt (k:=λi j => .int (i ^ j.toNat)) (λx y S u S' h=>by
 unfold nQ at h;split at h
 ·split at h
  ·rename_i hc;simp at h;obtain⟨rfl,rfl⟩:=h;exact⟨_,_,rfl,rfl,hc,rfl,rfl⟩
  ·cases h
 ·cases h) λ_ _ _ _=>eV
theorem vT{p:Int->Int->Bool}:OpU K (rI0 λi j => .bl (p i j)) (AC p):=Ai (k:=λi j => .bl (p i j)) (λx y S u S' h=>by
 unfold AC at h;split at h <;> simp at h;obtain⟨rfl,rfl⟩:=h;exact⟨_,_,rfl,rfl,rfl,rfl⟩) λ_ _ _ _=>ky
noncomputable def HW(K:aj):R2:=λx y H Q =>∃a b ys,x = .ref a/\y = .ref b/\SqT K H a []/\SqT K H b ys/\Q (.ref b) H
theorem FS{X:Cx}:OpR X (binaryOp .Add) (HW X.K):=by
 intro pins s σ H x y v u Q I rx ry h
 obtain⟨a,b,ys,rfl,rfl,h1,h2,q⟩:=h
 cases (show v=bj a from rx)
 cases (show u=bj b from ry)
 obtain⟨its,r1,p1,_⟩:=I.tuple h1
 obtain⟨its2,r2,p2,_⟩:=I.tuple h2
 cases r1
 exact HT.cat_tup0 p1 p2 ⟨.ref b,H,I,rfl,q⟩
theorem IP:OpU K (λx y H Q=>rI0 (λi j => .int (i+j)) x y H Q\/II K x y H Q\/HW K x y H Q\/M4 x y H Q) cP:=by
 intro μ S H x y vx vy u S' Q hr rx ry e a
 unfold cP at e
 split at e
 ·simp at e;obtain⟨rfl,rfl⟩:=e
  exact .inl ⟨_,_,dA rx,dA ry,a.now hr eV⟩
 ·rename_i xs ys
  split at e
  ·rename_i hc
   simp at e;obtain⟨rfl,rfl⟩:=e
   obtain⟨p,vs,rfl,hp,r1⟩:=fE rx
   obtain⟨q,ws,rfl,hq,r2⟩:=fE ry
   by_cases hx:xs = []
   ·subst hx
    have hv:vs = []:=by have:=r1.len;exact cD (by simpa using this.symm)
    subst hv
    exact .inr (.inr (.inl ⟨p,q,ws,rfl,rfl,.inl (.inl hp),.inl (.inl hq),a.now hr (g9 hq r2)⟩))
   refine .inr (.inl ⟨p,q,vs,ws,rfl,rfl,.inl (.inl hp),.inl (.inl hq),?_,?_,λz =>?_,λz t ht =>?_⟩)
   ·intro z;subst z;have:=r1.len;exact hx (cD (by simpa using this))
   ·have h1:=r1.len;have h2:=r2.len;unfold big at hc;rw[sizeLine_eq];omega
   ·subst z
    have:ys = []:=by have:=r2.len;exact cD (by simpa using this)
    subst this
    rw[hZ]at a
    exact a.now hr (g9 hp r1)
   ·refine a μ _ _ (Pre.refl _) (bh.new ht) (hr.tup ht) ?_
    have kp:bh H (upd H t (.tup (vs++ws))):=bh.new ht
    exact g9 cw ((RUs.mono kp (Pre.refl _) _ _ r1).append (RUs.mono kp (Pre.refl _) _ _ r2))
  ·cases e
 ·rename_i n m
  split at e
  ·rename_i xs ys q1 q2
   split at e
   ·rename_i hc
    simp at e;obtain⟨rfl,rfl⟩:=e
    obtain⟨p,rfl,hp⟩:=eD rx
    obtain⟨q,rfl,hq⟩:=eD ry
    obtain⟨vs,e1,r1⟩:=hr.cell n _ p q1 hp
    obtain⟨ws,e2,r2⟩:=hr.cell m _ q q2 hq
    refine .inr (.inr (.inr ⟨p,q,vs,ws,rfl,rfl,e1,e2,?_,λt ht =>?_⟩))
    ·have h1:=r1.len;have h2:=r2.len;unfold big at hc;rw[sizeLine_eq];omega
    ·refine a (μ++[t]) _ _ ⟨[t],rfl⟩ (bh.new ht) (hr.new ht (r1.append r2)) (qZ ?_)
     rw[<- hr.len,av (ah _)];simp
   ·cases e
  ·cases e
 ·cases e
theorem HR.seq{μ:List Addr}{S:Sto}{x:U}{v:V}{us:List U}(hr:HR K μ S H)(r:RU H μ x v)(e:eP S x=some us): ∃a vs,v = .ref a/\(SqL K H a vs\/SqT K H a vs)/\RUs H μ us vs:=by
 unfold eP at e
 split at e
 ·cases e
  obtain⟨a,vs,rfl,h,q⟩:=fE r
  exact⟨a,vs,rfl,.inr (.inl (.inl h)),q⟩
 ·obtain⟨a,rfl,ha⟩:=eD r
  obtain⟨a',vs,ha',hs,q⟩:=hr.sq e
  rw[ha]at ha';cases ha'
  exact⟨a,vs,rfl,.inl hs,q⟩
 ·cases e
theorem F5{μ:List Addr}{us:List U}{vs:List V}{i:Int}{u:U}(r:RUs H μ us vs)(e:atI us i=some u): ∃v,atI vs i=some v/\RU H μ u v:=by
 unfold atI at e ⊢
 rw[<- r.len]
 cases q:ixN us.length i with
 | none=>rw[q]at e;cases e
 | some j=>
   rw[q]at e
   exact r.get e
theorem qu{μ:List Addr}{y:U}{v:V}{k:Key}(r:RU H μ y v)(e:keyOf y=some k):v=kV k:=by
 cases y <;> simp only[keyOf,dS,reduceCtorEq]at e <;> subst e <;> (simp only[RU]at r;exact r)
theorem z9{μ:List Addr}{k:Key}{u:U}: ∀{kvs:List (Key×U)}{vs:List V},RUs H μ (kvs.map (·.2)) vs->i7 kvs k=some u -> ∃v,kY (dV kvs vs) k=some v/\RU H μ u v
 | [],vs,r,e=>by cases e
 | (j,x)::kvs,vs,r,e=>by
   obtain⟨v,r',rfl,a,b⟩:=r.inv
   show ∃w,kY ((j,v)::dV kvs r') k=some w/\_
   by_cases h:j=k
   ·rw[kU h]
    simp[i7,bN,h]at e
    subst e
    exact⟨v,rfl,a⟩
   ·rw[kO h]
    refine z9 b ?_
    simpa [i7,bN,h]using e
theorem wK{k:Key}: ∀{kvs:List (Key×U)}{vs:List V},kvs.length=vs.length->(kY (dV kvs vs) k).isSome=(i7 kvs k).isSome
 | [],vs,_=>by simp[dV,kY,i7]
 | (j,x)::kvs,[],h=>by simp at h
 | (j,x)::kvs,v::vs,h=>by
   show(kY ((j,v)::dV kvs vs) k).isSome=_
   by_cases hj:j=k
   ·rw[kU hj];simp[i7,bN,hj]
   ·rw[kO hj,wK (by simpa using h)];simp[i7,bN,hj]
theorem EK{k:Key}: ∀{kvs:List (Key×U)}{vs:List V},kvs.length=vs.length->((dV kvs vs).any λkv=>decide (kv.1=k))=kvs.any λkv=>decide (kv.1=k)
 | [],vs,_=>by simp[dV]
 | (j,x)::kvs,[],h=>by simp at h
 | (j,x)::kvs,v::vs,h=>by
   show(((j,v)::dV kvs vs).any λkv=>decide (kv.1=k))=_
   rw[fS,fS,EK (by simpa using h)]
theorem CM{kvs:List (Key×U)}{vs:List V}(h:kvs.length=vs.length):(dV kvs vs).length=kvs.length:=by
 simp[dV,h]
theorem zy{μ:List Addr}{k:Key}{u:U}{v:V}(ru:RU H μ u v): ∀{kvs:List (Key×U)}{vs:List V},RUs H μ (kvs.map (·.2)) vs ->
  ∃ws,dV (kvs.map λkv=>if kv.1=k then(kv.1,u) else kv) ws=(dV kvs vs).map (λkv=>if kv.1=k then(kv.1,v) else kv)/\RUs H μ ((kvs.map λkv=>if kv.1=k then(kv.1,u) else kv).map (·.2)) ws
 | [],vs,r=>⟨[],by simp[dV],.nil⟩
 | (j,x)::kvs,vs,r=>by
   obtain⟨w,r',rfl,a,b⟩:=r.inv
   obtain⟨ws,e,q⟩:=zy ru b
   show ∃ws',dV ((if j=k then(j,u) else(j,x))::kvs.map λkv=>if kv.1=k then(kv.1,u) else kv) ws'=(if j=k then(j,v) else(j,w))::(dV kvs r').map (λkv=>if kv.1=k then(kv.1,v) else kv)/\RUs H μ (((if j=k then(j,u) else(j,x))::kvs.map λkv=>if kv.1=k then(kv.1,u) else kv).map (·.2)) ws'
   by_cases h:j=k
   ·rw[if_pos h,if_pos h]
    exact⟨v::ws,by rw[<- e];rfl,.cons ru q⟩
   ·rw[if_neg h,if_neg h]
    exact⟨w::ws,by rw[<- e];rfl,.cons a q⟩
theorem G9{μ:List Addr}{k:Key}{u:U}{v:V}{kvs:List (Key×U)}{vs:List V}(ru:RU H μ u v)(r:RUs H μ (kvs.map (·.2)) vs): ∃ws,dV (jN kvs k u) ws=putK (dV kvs vs) k v/\RUs H μ ((jN kvs k u).map (·.2)) ws:=by
 have hl:kvs.length=vs.length:=by have:=r.len;rwa[aq]at this
 unfold jN putK
 rw[EK hl]
 split
 ·exact zy ru r
 ·refine⟨vs++[v],?_,by rw[dB];exact r.append (.cons ru .nil)⟩
  unfold dV
  rw[dB,List.zip_append (by simpa using hl)]
  rfl
theorem HR.dic{μ:List Addr}{S:Sto}{x:U}{v:V}{kvs:List (Key×U)}(hr:HR K μ S H)(r:RU H μ x v)(e:gf S x=some kvs): ∃a vs,v = .ref a/\H a=some (.dK (dV kvs vs))/\RUs H μ (kvs.map (·.2)) vs:=by
 unfold gf at e
 split at e
 ·split at e
  ·rename_i q
   cases e
   obtain⟨a,rfl,ha⟩:=eD r
   obtain⟨vs,e1,r1⟩:=hr.cell _ _ a q ha
   exact⟨a,vs,rfl,e1,r1⟩
  ·cases e
 ·cases e
noncomputable def ML:R2:=λx y H Q =>∃a v,x = .ref a/\uR H a y (some v)/\Q v H
noncomputable def Ow(K:aj):R2:=λx y H Q=>rIx K x y H Q\/ML x y H Q
theorem J8{X:Cx}(hu:X.A.units+1<cLine):IxR X ML:=by
 intro value slice pins s σ H x y v u Q I rx ry h hs
 obtain⟨a,w,rfl,g,q⟩:=h
 obtain rfl:v=bj a:=rx
 exact tail_any (we I g) PySem.F.slot_dict_getitem.lookup (Ay hu I g ry λw' s3 I3 rw'=>⟨w,H,I3,rw',q⟩) hs
theorem LQ:OpU K (Ow K) oIx:=by
 intro μ S H x y vx vy u S' Q hr rx ry e a
 unfold oIx at e
 split at e
 ·rename_i kvs qd
  cases qk:keyOf y with
  | none=>rw[qk]at e;cases e
  | some kk=>
    rw[qk]at e
    simp only[ag]at e
    cases qv:i7 kvs kk with
    | none=>rw[qv]at e;cases e
    | some w=>
      rw[qv]at e
      simp at e;obtain⟨rfl,rfl⟩:=e
      obtain⟨p,vs,rfl,hp,r⟩:=hr.dic rx qd
      obtain⟨v,hv,rv⟩:=z9 r qv
      rw[qu ry qk]
      exact .inr ⟨p,v,rfl,.inl ⟨_,kk,.inl hp,rfl,hv.symm⟩,a.now hr rv⟩
 split at e
 ·rename_i i
  refine .inl ?_
  cases q:eP S x with
  | none=>rw[q]at e;cases e
  | some us=>
    rw[q]at e
    simp only[ag]at e
    cases z:atI us i with
    | none=>rw[z]at e;cases e
    | some w=>
      rw[z]at e
      simp at e;obtain⟨rfl,rfl⟩:=e
      obtain⟨p,vs,rfl,hs,r⟩:=hr.seq rx q
      obtain⟨v,hv,rv⟩:=F5 r z
      rcases hs with hs |hs
      ·exact .inl ⟨p,vs,i,v,rfl,dA ry,hs,hv,a.now hr rv⟩
      ·exact .inr (.inl ⟨p,vs,i,v,rfl,dA ry,hs,hv,a.now hr rv⟩)
 ·cases e
theorem Kg:UnU K (rU λi => .int (-i)) pR:=by
 intro μ S H x vx u S' Q hr rx e a
 unfold pR at e
 split at e
 ·cases e
  exact⟨_,dA rx,a.now hr eV⟩
 ·cases e
theorem M5{Q:List V->Hp->Prop}(h:tMA K ak σ H Q):AF σ H Q:=by
 obtain⟨μ,S,ρ,us,S',hr,er,e,k⟩:=h
 cases e
 exact k μ [] H (Pre.refl _) (bh.refl _) hr .nil
theorem K2{a:ME}{r:MA}{Q:List V->Hp->Prop}(h:tMA K (aa a r) σ H Q):uz (tM K a) (tMA K r) σ H Q:=by
 obtain⟨μ,S,ρ,us,S',hr,er,e,k⟩:=h
 obtain⟨x,S1,e1,e⟩:=bc e
 obtain⟨xs,S2,e2,e⟩:=bc e
 cases e
 refine⟨μ,S,ρ,x,S1,hr,er,e1,λμ1 vx H1 p1 k1 hr1 rx =>?_⟩
 refine⟨μ1,S1,ρ,xs,_,hr1,er.mono k1 p1,e2,λμ2 vs H2 p2 k2 hr2 rs =>?_⟩
 exact k μ2 _ H2 (p1.trans p2) (k1.trans k2) hr2 (.cons (RU.mono k2 p2 x vx rx) rs)
theorem NF{a:MA}(h:tM K (cX a) σ H Q):LY (tMA K a) σ H Q:=by
 obtain⟨μ,S,ρ,u,S',hr,er,e,k⟩:=h
 obtain⟨xs,S1,e1,e⟩:=bc e
 split at e
 ·rename_i hc
  cases e
  refine⟨μ,S,ρ,xs,_,hr,er,e1,λμ1 vs H1 p1 k1 hr1 rs=>⟨?_,λp hp =>?_⟩⟩
  ·have:=rs.len;unfold big at hc;rw[sizeLine_eq];omega
  ·exact k μ1 _ _ p1 (k1.trans (bh.new hp)) (hr1.tup hp) (g9 cw (RUs.mono (bh.new hp) (Pre.refl _) _ _ rs))
 ·cases e
theorem gZ{μ:List Addr}{S:Sto}{us:List U}{vs:List V}{p:Addr}(k:Aft K μ H (.ref S.length) (S++[.lst us]) Q)(hr:HR K μ S H)(rs:RUs H μ us vs)(hp:H p=none):Q (.ref p) (upd H p (.lst vs)):=by
 refine k (μ++[p]) _ _ ⟨[p],rfl⟩ (bh.new hp) (hr.new hp rs) (qZ ?_)
 rw[<- hr.len,av (ah _)];simp
theorem NT{a:MA}(h:tM K (dn a) σ H Q):MD (tMA K a) σ H Q:=by
 obtain⟨μ,S,ρ,u,S',hr,er,e,k⟩:=h
 obtain⟨xs,S1,e1,e⟩:=bc e
 split at e
 ·rename_i hc
  cases e
  refine⟨μ,S,ρ,xs,S1,hr,er,e1,λμ1 vs H1 p1 k1 hr1 rs=>⟨?_,λp hp =>?_⟩⟩
  ·have:=rs.len;unfold big at hc;rw[sizeLine_eq];omega
  ·exact gZ (k.mono p1 k1) hr1 rs hp
 ·cases e
noncomputable def pN(K:KX)(r:List V->Hp->VK->Prop)(f:MF):Prop:= ∀(μ:List Addr) (S:Sto) (H:Hp) (us:List U) (vs:List V) (u:U) (S':Sto) (Q:VK),HR K μ S H->RUs H μ us vs->f us S=some (u,S')->Aft K μ H u S' Q->r vs H Q
theorem yy{r:List V->Hp->VK->Prop}{f:MF}{a:MA}(o:pN K r f)(h:tM K (mFn f a) σ H Q):tCB r (tMA K a) σ H Q:=by
 obtain⟨μ,S,ρ,u,S',hr,er,e,k⟩:=h
 obtain⟨xs,S1,e1,e⟩:=bc e
 refine⟨μ,S,ρ,xs,S1,hr,er,e1,λμ1 vs H1 p1 k1 hr1 rs =>?_⟩
 exact o μ1 S1 H1 xs vs u S' Q hr1 rs e (k.mono p1 k1)
noncomputable def spM(K:KX)(m:MF):Sp:=λvs H Q _ =>∃μ S us u S',HR K μ S H/\RUs H μ us vs/\m us S=some (u,S')/\Aft K μ H u S' Q
theorem CN{f:MF}{a:MA}{E:XK}(h:tM K (mFn f a) σ H Q):zx (spM K f) [] E (tMA K a) σ H Q:=by
 obtain⟨μ,S,ρ,u,S',hr,er,e,k⟩:=h
 obtain⟨xs,S1,e1,e⟩:=bc e
 refine⟨μ,S,ρ,xs,S1,hr,er,e1,λμ1 vs H1 p1 k1 hr1 rs =>?_⟩
 show spM K f (vs++[]) H1 Q E
 rw[hZ]
 exact⟨μ1,S1,xs,u,S',hr1,rs,e,k.mono p1 k1⟩
theorem I0:pN K (λxs H Q=>(∃p ys,xs = [.ref p]/\(SqL K H p ys\/SqT K H p ys)/\Q (.int ys.length) H) \/ ∃a kvs,xs = [V.ref a]/\H a=some (.dK kvs)/\Q (.int kvs.length) H) cN:=by
 intro μ S H us vs u S' Q hr rs e a
 unfold cN at e
 split at e
 ·rename_i x
  obtain⟨v,r,rfl,rx,rn⟩:=rs.inv
  rw[rn.nil_inv]
  split at e
  ·rename_i kvs qd
   cases e
   obtain⟨p,ws,rfl,hp,r'⟩:=hr.dic rx qd
   refine .inr ⟨p,_,rfl,hp,?_⟩
   have hl:kvs.length=ws.length:=by have:=r'.len;rwa[aq]at this
   rw[CM hl]
   exact a.now hr eV
  cases q:eP S x with
  | none=>rw[q]at e;cases e
  | some ws=>
    rw[q]at e;cases e
    obtain⟨p,ys,rfl,hs,r'⟩:=hr.seq rx q
    refine .inl ⟨p,ys,rfl,hs,?_⟩
    rw[<- r'.len]
    exact a.now hr eV
 ·cases e
theorem Dm:pN K (λxs H Q =>∃p ys,xs = [.ref p]/\((SqL K H p ys /\ ∀l,H l=none->Q (.ref l) (upd H l (.tup ys)))\/(SqT K H p ys/\Q (.ref p) H))) cy:=by
 intro μ S H us vs u S' Q hr rs e a
 unfold cy at e
 split at e
 ·rename_i x
  obtain⟨v,r,rfl,rx,rn⟩:=rs.inv
  rw[rn.nil_inv]
  unfold eP at e
  split at e
  ·cases e
   obtain⟨p,ys,rfl,hp,r'⟩:=fE rx
   exact⟨p,ys,rfl,.inr ⟨.inl (.inl hp),a.now hr (g9 hp r')⟩⟩
  ·rename_i n
   cases q:getL S n with
   | none=>rw[q]at e;cases e
   | some ws=>
     rw[q]at e;cases e
     obtain⟨p,rfl,hp⟩:=eD rx
     obtain⟨p',ys,hp',hs,r'⟩:=hr.sq q
     rw[hp]at hp';cases hp'
     refine⟨p,ys,rfl,.inl ⟨hs,λl hl =>?_⟩⟩
     exact a μ _ _ (Pre.refl _) (bh.new hl) (hr.tup hl) (g9 cw (RUs.mono (bh.new hl) (Pre.refl _) _ _ r'))
  ·cases e
 ·cases e
theorem KW:pN K (λxs H Q =>∃i j,xs = [.int i,.int j]/\Q (.int (if j > i then j else i)) H) sR:=by
 intro μ S H us vs u S' Q hr rs e a
 unfold sR at e
 split at e
 ·cases e
  obtain⟨v,r,rfl,rx,rs⟩:=rs.inv
  obtain⟨w,r,rfl,ry,rn⟩:=rs.inv
  rw[rn.nil_inv,dA rx,dA ry]
  exact⟨_,_,rfl,a.now hr eV⟩
 ·cases e
noncomputable def Ln(K:aj):List V->Hp->VK->Prop:=λxs H Q=>((∃i j,xs = [.int i,.int j]/\Q (.int (if j<i then j else i)) H))
theorem Bt {X:Cx} (hc:X.calm=true) (hu:X.A.units+64 < cLine):gS X (.builtin "min") (Ln X.K):=by
 intro pins s σ H xs us Q I rs h
 exact Bo hc pins s σ H xs us Q I rs h
theorem IY:pN K (Ln K) sW:=by
 intro μ S H us vs u S' Q hr rs e a
 unfold sW at e
 split at e
 ·cases e
  obtain⟨v,r,rfl,rx,rs⟩:=rs.inv
  obtain⟨w,r,rfl,ry,rn⟩:=rs.inv
  rw[rn.nil_inv,dA rx,dA ry]
  exact⟨_,_,rfl,a.now hr eV⟩
 ·cases e
noncomputable def MtU(K:KX)(r:V->List V->Hp->VK->Prop)(f:Nat->List U->Sto->Res U):Prop:= ∀(μ:List Addr) (S:Sto) (H:Hp) (n:Nat) (p:Addr) (us:List U) (vs:List V) (u:U) (S':Sto) (Q:VK),HR K μ S H->μ[n]? = some p->RUs H μ us vs->f n us S=some (u,S')->Aft K μ H u S' Q->r (.ref p) vs H Q
theorem Kr {r:V->List V->Hp->VK->Prop}{f:Nat->List U->Sto->Res U}{o:ME}{a:MA} (m:MtU K r f) (h:tM K (mML f o a) σ H Q):tBM K "list" r (tM K o) (tMA K a) σ H Q:=by
 obtain⟨μ,S,ρ,u,S',hr,er,e,k⟩:=h
 obtain⟨x,S1,e1,e⟩:=bc e
 split at e
 ·rename_i n
  cases q:getL S1 n with
  | none=>rw[q]at e;cases e
  | some ws=>
    rw[q]at e
    obtain⟨xs,S2,e2,e⟩:=bc e
    refine⟨μ,S,ρ,_,S1,hr,er,e1,λμ1 vx H1 p1 k1 hr1 rx =>?_⟩
    obtain⟨p,rfl,hp⟩:=eD rx
    obtain⟨p',ys,hp',hs,r'⟩:=hr1.sq q
    rw[hp]at hp';cases hp'
    refine⟨.inl ⟨rfl,ys,hs⟩,μ1,S1,ρ,xs,S2,hr1,er.mono k1 p1,e2,λμ2 vs H2 p2 k2 hr2 rs =>?_⟩
    exact m μ2 S2 H2 n p xs vs u S' Q hr2 (p2.get hp) rs e (k.mono (p1.trans p2) (k1.trans k2))
 ·cases e
theorem LA {r:V->List V->Hp->VK->Prop}{f:Nat->List U->Sto->Res U}{o:ME} (m:MtU K r f) (h:tM K (mML f o ak) σ H Q):L9 K "list" r (tM K o) σ H Q:=by
 obtain⟨μ,S,ρ,u,S',hr,er,e,k⟩:=h
 obtain⟨x,S1,e1,e⟩:=bc e
 split at e
 ·rename_i n
  cases q:getL S1 n with
  | none=>rw[q]at e;cases e
  | some ws=>
    rw[q]at e
    refine⟨μ,S,ρ,_,S1,hr,er,e1,λμ1 vx H1 p1 k1 hr1 rx =>?_⟩
    obtain⟨p,rfl,hp⟩:=eD rx
    obtain⟨p',ys,hp',hs,r'⟩:=hr1.sq q
    rw[hp]at hp';cases hp'
    exact⟨.inl ⟨rfl,ys,hs⟩,m μ1 S1 H1 n p [] [] u S' Q hr1 hp .nil e (k.mono p1 k1)⟩
 ·cases e
theorem vA{μ:List Addr}{S:Sto}{n:Nat}{us ws:List U}{vs:List V}{p:Addr}{u:U}{v:V}(k:Aft K μ H u (S.set n (.lst ws)) Q)(hr:HR K μ S H)(e:S[n]? = some (.lst us))(hp:μ[n]? = some p)(rs:RUs H μ ws vs)(ru:RU H μ u v):
  Q v (upd H p (.lst vs)):=by
 obtain⟨vs0,e0,_⟩:=hr.cell n _ p e hp
 exact k μ _ _ (Pre.refl _) (bh.wr e0) (hr.wr e hp rs) (RU.mono (bh.wr e0) (Pre.refl _) _ _ ru)
theorem Bh:MtU K zF du:=by
 intro μ S H n p us vs u S' Q hr hp rs e a
 unfold du at e
 split at e
 ·split at e
  ·rename_i ws q
   split at e
   ·rename_i hc
    cases e
    obtain⟨v,r,rfl,rx,rn⟩:=rs.inv
    rw[rn.nil_inv]
    obtain⟨xs,e0,r0⟩:=hr.cell n _ p q hp
    refine⟨p,xs,v,rfl,rfl,e0,?_,vA a hr q hp (r0.append (.cons rx .nil)) o4⟩
    have:=r0.len;unfold big at hc;rw[sizeLine_eq];omega
   ·cases e
  ·cases e
 ·cases e
theorem La{n:Nat}{i:Int}{j:Nat}(h:ixN n i=some j):j<n /\ -(n:Int)<=i/\i<n:=by
 unfold ixN at h
 split at h
 ·split at h
  ·cases h;omega
  ·cases h
 ·split at h
  ·cases h;omega
  ·cases h
theorem FR{n:Nat}{i:Int}{j:Nat}(h:ixN n i=some j):seqIndex? i n=some j:=by
 unfold ixN at h
 unfold seqIndex?
 split at h
 ·split at h
  ·cases h
   rename_i h0 h1
   simp only[show ¬i<0 by omega,if_false]
   first
    | (rw[if_pos (by omega)])
    | (simp;omega)
  ·cases h
 ·split at h
  ·cases h
   rename_i h0 h1
   simp only[show i<0 by omega,if_true]
   first
    | (rw[if_pos (by omega)])
    | (simp;omega)
  ·cases h
theorem JL:MtU K MZ ow:=by
 intro μ S H n p us vs u S' Q hr hp rs e a
 unfold ow at e
 split at e
 ·split at e
  ·rename_i ws q
   cases z:ws[ws.length - 1]? with
   | none=>rw[z]at e;cases e
   | some y=>
     rw[z]at e;cases e
     rw[rs.nil_inv]
     obtain⟨xs,e0,r0⟩:=hr.cell n _ p q hp
     obtain⟨v,hv,rv⟩:=r0.get z
     exact⟨p,xs,v,rfl,rfl,e0,by rw[<- r0.len];exact hv,vA a hr q hp r0.dropLast rv⟩
  ·cases e
 ·cases e
theorem DP:MtU K CO ke:=by
 intro μ S H n p us vs u S' Q hr hp rs e a
 unfold ke at e
 split at e
 ·rename_i i
  split at e
  ·rename_i ws q
   split at e
   rotate_left
   ·cases e
   rename_i hR
   cases z:ixN ws.length i with
   | none=>rw[z]at e;cases e
   | some j=>
     rw[z]at e
     simp only[ag]at e
     cases z2:ws[j]? with
     | none=>rw[z2]at e;cases e
     | some y=>
       rw[z2]at e;cases e
       obtain⟨v,r,rfl,rx,rn⟩:=rs.inv
       rw[rn.nil_inv,dA rx]
       obtain⟨xs,e0,r0⟩:=hr.cell n _ p q hp
       obtain⟨w,hw,rw'⟩:=r0.get z2
       have hl:=La z
       have hlen:=r0.len
       refine⟨p,xs,i,j,w,rfl,rfl,e0,?_,?_,?_,hw,vA a hr q hp (r0.eraseIdx j) rw'⟩
       ·have:=hR.1;omega
       ·have:=hR.2;omega
       ·rw[<- hlen];exact FR z
  ·cases e
 ·cases e
theorem Cz{t:TE}{m:ME}{Q:Bool->Hp->Prop}(ht: ∀Q,tM K m σ H Q->t σ H Q)(h:tMT K (cOf m) σ H Q):H9 t σ H Q:=by
 obtain⟨μ,S,ρ,b,S',hr,er,e,k⟩:=h
 obtain⟨x,S1,e1,e⟩:=bc e
 split at e
 ·cases e
  refine ht _ ⟨μ,S,ρ,_,_,hr,er,e1,λμ1 vx H1 p1 k1 hr1 rx =>?_⟩
  exact⟨_,jY rx,k μ1 H1 p1 k1 hr1⟩
 ·cases e
theorem OM{t:TE}{m:ME}{Q:Bool->Hp->Prop}(ht: ∀Q,tM K m σ H Q->t σ H Q)(h:tMT K (cOf m) σ H Q):tB t σ H Q:=Cz ht h
theorem Lr{a b:MT}{Q:Bool->Hp->Prop}(h:tMT K (tH a b) σ H Q):_L.NC (tMT K a) (tMT K b) σ H Q:=by
 obtain⟨μ,S,ρ,c,S',hr,er,e,k⟩:=h
 obtain⟨x,S1,e1,e⟩:=bc e
 refine⟨μ,S,ρ,x,S1,hr,er,e1,λμ1 H1 p1 k1 hr1 =>?_⟩
 cases x with
 | true=>exact nY ⟨μ1,S1,ρ,c,S',hr1,er.mono k1 p1,e,λμ2 H2 p2 k2=>k μ2 H2 (p1.trans p2) (k1.trans k2)⟩
 | false=>
   have e':some (false,S1)=some (c,S'):=e
   cases e'
   exact nA (k μ1 H1 p1 k1 hr1)
theorem OV{a b:MT}{Q:Bool->Hp->Prop}(h:tMT K (cOr a b) σ H Q):_L.tOr (tMT K a) (tMT K b) σ H Q:=by
 obtain⟨μ,S,ρ,c,S',hr,er,e,k⟩:=h
 obtain⟨x,S1,e1,e⟩:=bc e
 refine⟨μ,S,ρ,x,S1,hr,er,e1,λμ1 H1 p1 k1 hr1 =>?_⟩
 cases x with
 | true=>
   have e':some (true,S1)=some (c,S'):=e
   cases e'
   exact nY (k μ1 H1 p1 k1 hr1)
 | false=>exact nA ⟨μ1,S1,ρ,c,S',hr1,er.mono k1 p1,e,λμ2 H2 p2 k2=>k μ2 H2 (p1.trans p2) (k1.trans k2)⟩
theorem Nx{a:MT}{Q:Bool->Hp->Prop}(h:tMT K (vg a) σ H Q):_L.LU (tMT K a) σ H Q:=by
 obtain⟨μ,S,ρ,c,S',hr,er,e,k⟩:=h
 obtain⟨x,S1,e1,e⟩:=bc e
 cases e
 exact⟨μ,S,ρ,x,_,hr,er,e1,λμ1 H1 p1 k1 hr1=>k μ1 H1 p1 k1 hr1⟩
theorem Mr{c:MT}{a b:ME}(h:tM K (wm c a b) σ H Q):tIf (tMT K c) (tM K a) (tM K b) σ H Q:=by
 obtain⟨μ,S,ρ,u,S',hr,er,e,k⟩:=h
 obtain⟨x,S1,e1,e⟩:=bc e
 refine⟨μ,S,ρ,x,S1,hr,er,e1,λμ1 H1 p1 k1 hr1 =>?_⟩
 cases x with
 | true=>exact nY ⟨μ1,S1,ρ,u,S',hr1,er.mono k1 p1,e,k.mono p1 k1⟩
 | false=>exact nA ⟨μ1,S1,ρ,u,S',hr1,er.mono k1 p1,e,k.mono p1 k1⟩
section
variable {D:Ends}
theorem ED(h:tMS K eC D σ H):DG D σ H:=by
 obtain⟨μ,S,ρ,r,hr,er,e,k⟩:=h
 cases e
 exact k μ σ H (Pre.refl _) (bh.refl _) hr er
theorem NX{a b:MS}(h:tMS K (br a b) D σ H):LP (tMS K a) (tMS K b) D σ H:=by
 obtain⟨μ,S,ρ,r,hr,er,e,k⟩:=h
 unfold br at e
 split at e
 ·rename_i ρ1 S1 q
  refine⟨μ,S,ρ,_,hr,er,q,λμ1 σ1 H1 p1 k1 hr1 er1 =>?_⟩
  exact⟨μ1,S1,ρ1,r,hr1,er1,e,k.mono p1 k1⟩
 ·rename_i q
  refine⟨μ,S,ρ,r,hr,er,e,?_⟩
  obtain⟨f,ρ',S'⟩:=r
  cases f with
  | nx=>exact absurd e (q ρ' S')
  | bk=>exact k
  | ct=>exact k
  | rt u=>exact k
theorem Iv{i:Nat}{m:ME}(h:tMS K (bJ i m) D σ H):AO (tM K m) (ju i) D σ H:=by
 obtain⟨μ,S,ρ,r,hr,er,e,k⟩:=h
 obtain⟨x,S1,e1,e⟩:=bc e
 cases e
 exact⟨μ,S,ρ,x,S1,hr,er,e1,λμ1 vx H1 p1 k1 hr1 rx=>k μ1 _ H1 p1 k1 hr1 ((er.mono k1 p1).set rx i)⟩
noncomputable def Ml:CD:=λo i v H Q =>∃a H',o = .ref a/\Bm H a i v H'/\Q H'
noncomputable def IC:CD:=λo i v H Q=>Ia o i v H Q\/Ml o i v H Q
theorem Gf{X:Cx}(hu:X.A.units+1<cLine):Lb X IC:=by
 intro pins s σ H o i v ov iv u Q I ro ri rv h
 rcases h with h | ⟨a,H',rfl,g,q⟩
 ·exact set_list pins s σ H o i v ov iv u Q I ro ri rv h
 ·obtain rfl:ov=bj a:=ro
  exact AW hu I g ri rv λs4 I4=>⟨H',I4,q⟩
theorem GV{o i m:ME}(h:tMS K (eA o i m) D σ H):AO (tM K m) (Nb (tM K o) (tM K i) IC) D σ H:=by
 obtain⟨μ,S,ρ,r,hr,er,e,k⟩:=h
 obtain⟨x,S1,e1,e⟩:=bc e
 obtain⟨p,S2,e2,e⟩:=bc e
 obtain⟨j,S3,e3,e⟩:=bc e
 cases p with
 | ref n=>
   simp only at e
   split at e
   ·rename_i us q
    split at e
    rotate_left
    ·cases e
    rename_i kk
    cases z:ixN us.length kk with
    | none=>rw[z]at e;cases e
    | some m'=>
      rw[z]at e;cases e
      refine⟨μ,S,ρ,x,S1,hr,er,e1,λμ1 vx H1 p1 k1 hr1 rx =>?_⟩
      refine⟨μ1,S1,ρ,_,S2,hr1,er.mono k1 p1,e2,λμ2 vo H2 p2 k2 hr2 ro =>?_⟩
      refine⟨μ2,S2,ρ,_,S3,hr2,er.mono (k1.trans k2) (p1.trans p2),e3,λμ3 vi H3 p3 k3 hr3 ri =>?_⟩
      obtain⟨a,rfl,ha⟩:=eD ro
      have ha3:=p3.get ha
      obtain⟨vs,e0,r0⟩:=hr3.cell n _ a q ha3
      have rx3:RU H3 μ3 x vx:=RU.mono (k2.trans k3) (p2.trans p3) _ _ rx
      refine .inl ⟨a,vs,kk,m',rfl,dA ri,e0,by rw[<- r0.len];exact z,?_⟩
      have kw:bh H3 (upd H3 a (.lst (vs.set m' vx))):=bh.wr e0
      exact k μ3 _ _ (p1.trans (p2.trans p3)) (k1.trans (k2.trans (k3.trans kw))) (hr3.wr q ha3 (r0.set rx3 m')) (er.mono (k1.trans (k2.trans (k3.trans kw))) (p1.trans (p2.trans p3)))
   ·rename_i kvs q
    cases qk:keyOf j with
    | none=>rw[qk]at e;cases e
    | some kk=>
      rw[qk]at e
      simp only[ag]at e
      split at e
      ·rename_i hz
       cases e
       refine⟨μ,S,ρ,x,S1,hr,er,e1,λμ1 vx H1 p1 k1 hr1 rx =>?_⟩
       refine⟨μ1,S1,ρ,_,S2,hr1,er.mono k1 p1,e2,λμ2 vo H2 p2 k2 hr2 ro =>?_⟩
       refine⟨μ2,S2,ρ,_,S3,hr2,er.mono (k1.trans k2) (p1.trans p2),e3,λμ3 vi H3 p3 k3 hr3 ri =>?_⟩
       obtain⟨a,rfl,ha⟩:=eD ro
       have ha3:=p3.get ha
       obtain⟨vs,e0,r0⟩:=hr3.cell n _ a q ha3
       have rx3:RU H3 μ3 x vx:=RU.mono (k2.trans k3) (p2.trans p3) _ _ rx
       have hl:kvs.length=vs.length:=by have:=r0.len;rwa[aq]at this
       obtain⟨ws,ew,rw'⟩:=G9 (k:=kk) rx3 r0
       have kw:bh H3 (upd H3 a (.dK (putK (dV kvs vs) kk vx))):=bh.wrG e0 λ_ z=>by cases z
       refine .inr ⟨a,_,rfl,.inl ⟨_,kk,e0,qu ri qk,by rw[CM hl,sizeLine_eq];exact hz,rfl⟩,?_⟩
       exact k μ3 _ _ (p1.trans (p2.trans p3)) (k1.trans (k2.trans (k3.trans kw))) (hr3.wrC q ha3 rfl rfl ⟨ws,by rw[ew];exact cw,RUs.mono kw (Pre.refl _) _ _ rw'⟩) (er.mono (k1.trans (k2.trans (k3.trans kw))) (p1.trans (p2.trans p3)))
      ·cases e
   ·cases e
 | _=>cases e
theorem Ko{m:ME}(h:tMS K (dN m) D σ H):HP (tM K m) D σ H:=by
 obtain⟨μ,S,ρ,r,hr,er,e,k⟩:=h
 obtain⟨x,S1,e1,e⟩:=bc e
 cases e
 exact⟨μ,S,ρ,x,S1,hr,er,e1,λμ1 vx H1 p1 k1 hr1 rx=>k μ1 σ H1 p1 k1 hr1 (er.mono k1 p1)⟩
theorem NQ{m:ME}(h:tMS K (eg m) D σ H):MY (tM K m) D σ H:=by
 obtain⟨μ,S,ρ,r,hr,er,e,k⟩:=h
 obtain⟨x,S1,e1,e⟩:=bc e
 cases e
 exact⟨μ,S,ρ,x,S1,hr,er,e1,k⟩
theorem OA{c:MT}{a b:MS}(h:tMS K (sIf c a b) D σ H):Ni (tMT K c) (tMS K a) (tMS K b) D σ H:=by
 obtain⟨μ,S,ρ,r,hr,er,e,k⟩:=h
 obtain⟨x,S1,e1,e⟩:=bc e
 refine⟨μ,S,ρ,x,S1,hr,er,e1,λμ1 H1 p1 k1 hr1 =>?_⟩
 cases x with
 | true=>exact nY ⟨μ1,S1,ρ,r,hr1,er.mono k1 p1,e,k.mono p1 k1⟩
 | false=>exact nA ⟨μ1,S1,ρ,r,hr1,er.mono k1 p1,e,k.mono p1 k1⟩
theorem nL{b:MS}{ρ:Rho}{S:Sto}{μ μ0:List Addr}{H0:Hp}{k:MS}{r:Fl×Rho×Sto}{N:St->Hp->Prop}(hr:HR K μ S H)(er:ER H μ ρ σ)(e:aft (b ρ S) k=some r)(p:Pre μ0 μ)(kp:bh H0 H)(fl:FlP K μ0 H0 D r)
  (hN: ∀μ1 σ1 H1 ρ1 S1,Pre μ0 μ1->bh H0 H1->HR K μ1 S1 H1->ER H1 μ1 ρ1 σ1->k ρ1 S1=some r->N σ1 H1):tMS K b { D with nx:=N,ct:=N,bk:=D.nx } σ H:=by
 unfold aft at e
 split at e
 ·rename_i ρ1 S1 q
  exact⟨μ,S,ρ,_,hr,er,q,λμ1 σ1 H1 p1 k1 hr1 er1=>hN μ1 σ1 H1 ρ1 S1 (p.trans p1) (kp.trans k1) hr1 er1 e⟩
 ·rename_i ρ1 S1 q
  exact⟨μ,S,ρ,_,hr,er,q,λμ1 σ1 H1 p1 k1 hr1 er1=>hN μ1 σ1 H1 ρ1 S1 (p.trans p1) (kp.trans k1) hr1 er1 e⟩
 ·rename_i ρ1 S1 q
  cases e
  exact⟨μ,S,ρ,_,hr,er,q,λμ1 σ1 H1 p1 k1 hr1 er1=>fl μ1 σ1 H1 (p.trans p1) (kp.trans k1) hr1 er1⟩
 ·rename_i q1 q2 q3
  refine⟨μ,S,ρ,r,hr,er,e,?_⟩
  obtain⟨f,ρ',S'⟩:=r
  cases f with
  | nx=>exact absurd e (q1 ρ' S')
  | ct=>exact absurd e (q2 ρ' S')
  | bk=>exact absurd e (q3 ρ' S')
  | rt u=>exact Aft.mono fl p kp
theorem drop_cons{α:Type}{l:List α}{i:Nat}{x:α}(h:l[i]? = some x):l.drop i=x::l.drop (i+1):=by
 obtain⟨hi,e⟩:=ai.mp h
 rw[eM hi,e]
theorem Jt{i:Nat}{b:MS}{us:List U}{vs:List V}{ρ:Rho}{S:Sto}{μ:List Addr}{a:Addr}{r:Fl×Rho×Sto}(hr:HR K μ S H)(er:ER H μ ρ σ)(e:vJ i b us ρ S=some r)(fl:FlP K μ H D r)(ha:H a=some (.tup vs))(ru:RUs H μ us vs):
  ∃W:Nat->Nat->St->Hp->Prop,(∃m,W 0 m σ H) /\ ∀k m σ H,W k m σ H ->
   ((Itt K a).stop k H/\D.nx σ H)\/((Itt K a).go k H /\ ∃N:St->Hp->Prop,(∀σ' H',N σ' H' -> ∃m',m'<m/\W (k+1) m' σ' H') /\ ∀x H',(Itt K a).yld k H x H'->ju i x σ H' λσ2 H2=>tMS K b { D with nx:=N,ct:=N,bk:=D.nx } σ2 H2):=by
 refine Hf (xs:=vs) (λk σ1 H1 =>∃μ1 S1 ρ1,Pre μ μ1/\bh H H1/\HR K μ1 S1 H1/\ER H1 μ1 ρ1 σ1/\vJ i b (us.drop k) ρ1 S1=some r) ⟨μ,S,ρ,Pre.refl _,bh.refl _,hr,er,e⟩ ?_ ?_ ?_
 ·rintro k σ1 H1 _ ⟨μ1,S1,ρ1,p1,k1,_⟩
  exact .inl (.inl (k1 a vs ha))
 ·rintro k x σ1 H1 hx ⟨μ1,S1,ρ1,p1,k1,hr1,er1,e1⟩
  have hk:k<us.length:=by rw[ru.len];exact(ai.mp hx).1
  have hu:us[k]? = some us[k]:=by simp[hk]
  obtain⟨v,hv,rv⟩:=ru.get hu
  rw[hx]at hv;cases hv
  rw[drop_cons hu]at e1
  have rv1:RU H1 μ1 us[k] x:=RU.mono k1 p1 _ _ rv
  exact nL hr1 (er1.set rv1 i) e1 p1 k1 fl λμ2 σ2 H2 ρ2 S2 p2 k2 hr2 er2 e2=>⟨μ2,S2,ρ2,p2,k2,hr2,er2,e2⟩
 ·rintro σ1 H1 ⟨μ1,S1,ρ1,p1,k1,hr1,er1,e1⟩
  rw[<- ru.len,uI]at e1
  cases e1
  exact fl μ1 σ1 H1 p1 k1 hr1 er1
theorem B9{i:Nat}{b:MS}{lo:Int}{n:Nat}{ρ:Rho}{S:Sto}{μ:List Addr}{r:Fl×Rho×Sto}(hr:HR K μ S H)(er:ER H μ ρ σ)(e:vJ i b (bK lo n) ρ S=some r)(fl:FlP K μ H D r):
  ∃W:Nat->Nat->St->Hp->Prop,(∃m,W 0 m σ H) /\ ∀k m σ H,W k m σ H ->
   ((Itr lo n).stop k H/\D.nx σ H)\/((Itr lo n).go k H /\ ∃N:St->Hp->Prop,(∀σ' H',N σ' H' -> ∃m',m'<m/\W (k+1) m' σ' H') /\ ∀x H',(Itr lo n).yld k H x H'->ju i x σ H' λσ2 H2=>tMS K b { D with nx:=N,ct:=N,bk:=D.nx } σ2 H2):=by
 refine Bc (λk σ1 H1 =>∃μ1 S1 ρ1,Pre μ μ1/\bh H H1/\HR K μ1 S1 H1/\ER H1 μ1 ρ1 σ1/\vJ i b ((bK lo n).drop k) ρ1 S1=some r) ⟨μ,S,ρ,Pre.refl _,bh.refl _,hr,er,e⟩ ?_ ?_
 ·rintro k σ1 H1 hk ⟨μ1,S1,ρ1,p1,k1,hr1,er1,e1⟩
  have hu:(bK lo n)[k]? = some (.int (lo+k)):=by simp[bK,hk]
  rw[drop_cons hu]at e1
  exact nL hr1 (er1.set eV i) e1 p1 k1 fl λμ2 σ2 H2 ρ2 S2 p2 k2 hr2 er2 e2=>⟨μ2,S2,ρ2,p2,k2,hr2,er2,e2⟩
 ·rintro σ1 H1 ⟨μ1,S1,ρ1,p1,k1,hr1,er1,e1⟩
  have hl:(bK lo n).length=n:=by simp[bK]
  rw[List.drop_eq_nil_of_le (by exact nk (by assumption))]at e1
  cases e1
  exact fl μ1 σ1 H1 p1 k1 hr1 er1
theorem Kh{i:Nat}{b:MS}{n f:Nat}{ρ:Rho}{S:Sto}{μ:List Addr}{a:Addr}{r:Fl×Rho×Sto}(hr:HR K μ S H)(er:ER H μ ρ σ)(e:forL i b n f 0 ρ S=some r)(fl:FlP K μ H D r)(ha:μ[n]? = some a):
  ∃W:Nat->Nat->St->Hp->Prop,(∃m,W 0 m σ H) /\ ∀k m σ H,W k m σ H ->
   ((Itl K a).stop k H/\D.nx σ H)\/((Itl K a).go k H /\ ∃N:St->Hp->Prop,(∀σ' H',N σ' H' -> ∃m',m'<m/\W (k+1) m' σ' H') /\ ∀x H',(Itl K a).yld k H x H'->ju i x σ H' λσ2 H2=>tMS K b { D with nx:=N,ct:=N,bk:=D.nx } σ2 H2):=by
 refine⟨λk m σ1 H1 =>∃μ1 S1 ρ1,Pre μ μ1/\bh H H1/\HR K μ1 S1 H1/\ER H1 μ1 ρ1 σ1/\forL i b n m k ρ1 S1=some r,⟨f,μ,S,ρ,Pre.refl _,bh.refl _,hr,er,e⟩,?_⟩
 rintro k m σ1 H1 ⟨μ1,S1,ρ1,p1,k1,hr1,er1,e1⟩
 cases m with
 | zero=>cases e1
 | succ m=>
   unfold forL at e1
   cases q:getL S1 n with
   | none=>rw[q]at e1;cases e1
   | some us=>
     rw[q]at e1
     simp only[ag]at e1
     obtain⟨a',vs,ha',hs,rs⟩:=hr1.sq q
     rw[p1.get ha]at ha';cases ha'
     cases z:us[k]? with
     | none=>
       rw[z]at e1
       cases e1
       refine .inl ⟨⟨vs,hs,?_⟩,fl μ1 σ1 H1 p1 k1 hr1 er1⟩
       rw[<- rs.len];exact cH.mp z
     | some u=>
       rw[z]at e1
       obtain⟨v,hv,rv⟩:=rs.get z
       refine .inr ⟨⟨vs,v,hs,hv⟩,λσ2 H2 =>∃μ2 S2 ρ2,Pre μ μ2/\bh H H2/\HR K μ2 S2 H2/\ER H2 μ2 ρ2 σ2/\forL i b n m (k+1) ρ2 S2=some r,λσ' H' w=>⟨m,bD _,w⟩,λx H' y =>?_⟩
       obtain⟨e',y⟩:=y
       subst e'
       have hx:=y vs hs
       rw[hv]at hx;cases hx
       exact nL hr1 (er1.set rv i) e1 p1 k1 fl λμ2 σ2 H2 ρ2 S2 p2 k2 hr2 er2 e2=>⟨μ2,S2,ρ2,p2,k2,hr2,er2,e2⟩
theorem Ga{c:MT}{b:MS}(h:tMS K (jl c b) D σ H):EH (tMT K c) (tMS K b) D σ H:=by
 obtain⟨μ,S,ρ,r,hr,er,e,fl⟩:=h
 refine⟨λm σ1 H1 =>∃μ1 S1 ρ1,Pre μ μ1/\bh H H1/\HR K μ1 S1 H1/\ER H1 μ1 ρ1 σ1/\whl c b m ρ1 S1=some r,⟨fuel,μ,S,ρ,Pre.refl _,bh.refl _,hr,er,e⟩,?_⟩
 rintro m σ1 H1 ⟨μ1,S1,ρ1,p1,k1,hr1,er1,e1⟩
 cases m with
 | zero=>cases e1
 | succ m=>
   unfold whl at e1
   obtain⟨x,S2,e2,e1⟩:=bc e1
   refine⟨μ1,S1,ρ1,x,S2,hr1,er1,e2,λμ2 H2 p2 k2 hr2 =>?_⟩
   cases x with
   | true=>
     refine nY ⟨λσ3 H3 =>∃μ3 S3 ρ3,Pre μ μ3/\bh H H3/\HR K μ3 S3 H3/\ER H3 μ3 ρ3 σ3/\whl c b m ρ3 S3=some r,λσ' H' w=>⟨m,bD _,w⟩,?_⟩
     exact nL hr2 (er1.mono k2 p2) e1 (p1.trans p2) (k1.trans k2) fl λμ3 σ3 H3 ρ3 S3 p3 k3 hr3 er3 e3=>⟨μ3,S3,ρ3,p3,k3,hr3,er3,e3⟩
   | false=>
     have e':some (Fl.nx,ρ1,S2)=some r:=e1
     cases e'
     exact nA (fl μ2 σ1 H2 (p1.trans p2) (k1.trans k2) hr2 (er1.mono k2 p2))
end
end
end _G
end
section
namespace _G
open PySem PySem.Spec _L
open PyProof.Rows hiding St
section
variable {K:KX}{σ:St}{H:Hp}{Q:VK}{D:Ends}
theorem Ig{a:MA}{R:It->Hp->Prop}{μ:List Addr}{S S1:Sto}{ρ:Rho}{src:Src}(hr:HR K μ S H)(er:ER H μ ρ σ)(e:iR1 a ρ S=some (src,S1))
  (hR: ∀μ1 H1 n,Pre μ μ1->bh H H1->HR K μ1 S1 H1->src = .imm (bK 0 n)->R (Itr 0 n) H1):wx (tMA K a) σ H R:=by
 obtain⟨xs,S2,e1,e⟩:=bc e
 split at e
 ·rename_i j
  split at e
  ·rename_i hj
   cases e
   refine⟨μ,S,ρ,_,_,hr,er,e1,λμ1 vs H1 p1 k1 hr1 rs =>?_⟩
   obtain⟨v,r,rfl,rx,rn⟩:=rs.inv
   rw[rn.nil_inv,dA rx]
   exact⟨j,rfl,hj.1,hj.2,hR μ1 H1 _ p1 k1 hr1 rfl⟩
  ·cases e
 ·cases e
theorem IA{a:MA}{R:It->Hp->Prop}{μ:List Addr}{S S1:Sto}{ρ:Rho}{src:Src}(hr:HR K μ S H)(er:ER H μ ρ σ)(e:iR2 a ρ S=some (src,S1))
  (hR: ∀μ1 H1 lo n,Pre μ μ1->bh H H1->HR K μ1 S1 H1->src = .imm (bK lo n)->R (Itr lo n) H1):xC (tMA K a) σ H R:=by
 obtain⟨xs,S2,e1,e⟩:=bc e
 split at e
 ·rename_i i j
  split at e
  ·rename_i hj
   cases e
   refine⟨μ,S,ρ,_,_,hr,er,e1,λμ1 vs H1 p1 k1 hr1 rs =>?_⟩
   obtain⟨v,r,rfl,rx,rs⟩:=rs.inv
   obtain⟨w,r,rfl,ry,rn⟩:=rs.inv
   rw[rn.nil_inv,dA rx,dA ry]
   exact⟨i,j,rfl,⟨hj.1.1,hj.1.2,hj.2.1,hj.2.2⟩,hR μ1 H1 _ _ p1 k1 hr1 rfl⟩
  ·cases e
 ·cases e
theorem u0{a:ME}{R:It->Hp->Prop}{μ:List Addr}{S S1:Sto}{ρ:Rho}{src:Src}(hr:HR K μ S H)(er:ER H μ ρ σ)(e:cu a ρ S=some (src,S1))
  (hT: ∀μ1 H1 us p vs,Pre μ μ1->bh H H1->HR K μ1 S1 H1->src = .imm us->H1 p=some (.tup vs)->RUs H1 μ1 us vs->R (Itt K p) H1)
  (hL: ∀μ1 H1 n p,Pre μ μ1->bh H H1->HR K μ1 S1 H1->src = .mut n->μ1[n]? = some p->R (Itl K p) H1):qI K (tM K a) σ H R\/yR K (tM K a) σ H R:=by
 obtain⟨x,S2,e1,e⟩:=bc e
 split at e
 ·cases e
  refine .inr ⟨μ,S,ρ,_,_,hr,er,e1,λμ1 vx H1 p1 k1 hr1 rx =>?_⟩
  obtain⟨p,vs,rfl,hp,r⟩:=fE rx
  exact⟨p,rfl,⟨vs,.inl (.inl hp)⟩,hT μ1 H1 _ p vs p1 k1 hr1 rfl hp r⟩
 ·rename_i n
  cases q:getL S2 n with
  | none=>rw[q]at e;cases e
  | some ws=>
    rw[q]at e;cases e
    refine .inl ⟨μ,S,ρ,_,_,hr,er,e1,λμ1 vx H1 p1 k1 hr1 rx =>?_⟩
    obtain⟨p,rfl,hp⟩:=eD rx
    obtain⟨p',ys,hp',hs,r'⟩:=hr1.sq q
    rw[hp]at hp';cases hp'
    exact⟨p,rfl,⟨ys,hs⟩,hL μ1 H1 n p p1 k1 hr1 rfl hp⟩
 ·cases e
theorem Ny{i:Nat}{a:MA}{b:MS}(h:tMS K (eX i (iR1 a) b) D σ H):sX (wx (tMA K a)) (ju i) (tMS K b) D σ H:=by
 obtain⟨μ,S,ρ,r,hr,er,e,fl⟩:=h
 obtain⟨src,S1,e1,e⟩:=bc e
 refine Ig hr er e1 λμ1 H1 n p1 k1 hr1 hs =>?_
 subst hs
 exact B9 hr1 (er.mono k1 p1) e (fl.mono p1 k1)
theorem Ls{i:Nat}{a:MA}{b:MS}(h:tMS K (eX i (iR2 a) b) D σ H):sX (xC (tMA K a)) (ju i) (tMS K b) D σ H:=by
 obtain⟨μ,S,ρ,r,hr,er,e,fl⟩:=h
 obtain⟨src,S1,e1,e⟩:=bc e
 refine IA hr er e1 λμ1 H1 lo n p1 k1 hr1 hs =>?_
 subst hs
 exact B9 hr1 (er.mono k1 p1) e (fl.mono p1 k1)
theorem OJ{i:Nat}{a:ME}{b:MS}(h:tMS K (eX i (cu a) b) D σ H):sX (λσ H R=>qI K (tM K a) σ H R\/yR K (tM K a) σ H R) (ju i) (tMS K b) D σ H:=by
 obtain⟨μ,S,ρ,r,hr,er,e,fl⟩:=h
 obtain⟨src,S1,e1,e⟩:=bc e
 refine u0 hr er e1 (λμ1 H1 us p vs p1 k1 hr1 hs hp rs =>?_) λμ1 H1 n p p1 k1 hr1 hs hp =>?_
 ·subst hs
  exact Jt hr1 (er.mono k1 p1) e (fl.mono p1 k1) hp rs
 ·subst hs
  exact Kh hr1 (er.mono k1 p1) e (fl.mono p1 k1) hp
theorem pb{t:MT}{e:ME}{ρ:Rho}: ∀{us acc ys:List U}{S S':Sto},hG t e ρ us acc S=some (ys,S')->acc.length<=ys.length
 | [],acc,ys,S,S',h=>by cases h;exact ah _
 | x::us,acc,ys,S,S',h=>by
   obtain⟨k,S1,e1,h⟩:=bc h
   cases k with
   | true=>
     obtain⟨y,S2,e2,h⟩:=bc (show bnd (e (ρ++[some x]) S1) (λy S2=>hG t e ρ us (acc++[y]) S2)=some (ys,S') from h)
     have:=pb h
     simp at this;exact aU (by assumption)
   | false=>exact pb (show hG t e ρ us acc S1=some (ys,S') from h)
theorem o9{t:MT}{e:ME}{ρ:Rho}{n:Nat}: ∀{f i:Nat}{acc ys:List U}{S S':Sto},ib t e ρ n f i acc S=some (ys,S')->acc.length<=ys.length
 | 0,i,acc,ys,S,S',h=>by cases h
 | f+1,i,acc,ys,S,S',h=>by
   unfold ib at h
   cases q:getL S n with
   | none=>rw[q]at h;cases h
   | some us=>
     rw[q]at h
     simp only[ag]at h
     cases z:us[i]? with
     | none=>rw[z]at h;cases h;exact ah _
     | some x=>
       rw[z]at h
       obtain⟨k,S1,e1,h⟩:=bc h
       cases k with
       | true=>
         obtain⟨y,S2,e2,h⟩:=bc (show bnd (e (ρ++[some x]) S1) (λy S2=>ib t e ρ n f (i+1) (acc++[y]) S2)=some (ys,S') from h)
         have:=o9 h
         simp at this;exact aU (by assumption)
       | false=>exact o9 (show ib t e ρ n f (i+1) acc S1=some (ys,S') from h)
noncomputable def z7(J:It)(σ:St)(tt:TT)(te:TE)(H1:Hp)(Q:VK):Prop:= ∃W:Nat->Nat->List V->Hp->Prop,(∃m,W 0 m [] H1) /\ ∀i m ys H,W i m ys H->ys.length<sizeLine /\
 ((J.stop i H /\ ∀D,H D=none->Q (.ref D) (upd H D (.lst ys))) \/
  (J.go i H /\ ∀x H',J.yld i H x H'->tt (σ++[some x]) H' λb H3=>if b=true then te (σ++[some x]) H3 λy H4 =>∃m',m'<m/\W (i+1) m' (ys++[y]) H4 else ∃m',m'<m/\W (i+1) m' ys H3))
theorem pv{t:MT}{e:ME}{ρ':Rho}{σ':St}{H1:Hp}{μ1:List Addr}{S1 S':Sto}{au ys:List U}{acc:List V}{next:List U->Sto->Res (List U)}(W:List V->Hp->Prop)(hr1:HR K μ1 S1 H1)(er1:ER H1 μ1 ρ' σ')(ra:RUs H1 μ1 au acc)
  (e1:bnd (t ρ' S1) (λk S2=>if k then bnd (e ρ' S2) λy S3=>next (au++[y]) S3 else next au S2)=some (ys,S'))
  (hW: ∀μ2 S2 au2 acc2 H2,Pre μ1 μ2->bh H1 H2->HR K μ2 S2 H2->RUs H2 μ2 au2 acc2->next au2 S2=some (ys,S')->W acc2 H2):
  tMT K t σ' H1 λb H3=>if b=true then tM K e σ' H3 λy H4=>W (acc++[y]) H4 else W acc H3:=by
 obtain⟨b,S2,e2,e1⟩:=bc e1
 refine⟨μ1,S1,_,b,S2,hr1,er1,e2,λμ2 H2 p2 k2 hr2 =>?_⟩
 have ra2:=RUs.mono k2 p2 _ _ ra
 cases b with
 | true=>
   obtain⟨y',S3,e3,e1⟩:=bc (show bnd (e ρ' S2) (λy S2=>next (au++[y]) S2)=some (ys,S') from e1)
   exact nY ⟨μ2,S2,_,y',S3,hr2,er1.mono k2 p2,e3,λμ3 v3 H3 p3 k3 hr3 rv3=>hW μ3 S3 _ _ H3 (p2.trans p3) (k2.trans k3) hr3 ((RUs.mono k3 p3 _ _ ra2).append (.cons rv3 .nil)) e1⟩
 | false=>exact nA (hW μ2 S2 _ _ H2 p2 k2 hr2 ra2 e1)
theorem xx{J:It}{t:MT}{e:ME}{ρ:Rho}{us ys:List U}{μ:List Addr}{S S':Sto}(hr:HR K μ S H)(er:ER H μ ρ σ)(h:hG t e ρ us [] S=some (ys,S'))(hz:ys.length<big)(k:Aft K μ H (.ref S'.length) (S'++[.lst ys]) Q)
  (hstop: ∀H',bh H H'->J.stop us.length H') (hgo: ∀(i:Nat) H',i<us.length->bh H H'->J.go i H')
  (hy: ∀(i:Nat) H' x H'' (u:U),us[i]? = some u->bh H H'->J.yld i H' x H''->H''=H'/\RU H μ u x):z7 J σ (tMT K t) (tM K e) H Q:=by
 have hz':ys.length<sizeLine:=by unfold big at hz;rw[sizeLine_eq];exact hz
 refine⟨λi m acc H1=>m=us.length - i/\i<=us.length /\ ∃μ1 S1 au,Pre μ μ1/\bh H H1/\HR K μ1 S1 H1/\RUs H1 μ1 au acc/\hG t e ρ (us.drop i) au S1=some (ys,S'),⟨_,rfl,cn _,μ,S,[],Pre.refl _,bh.refl _,hr,.nil,h⟩,?_⟩
 rintro i m acc H1 ⟨rfl,hi,μ1,S1,au,p1,k1,hr1,ra,e1⟩
 have hl:=pb e1
 have hl2:=ra.len
 refine⟨by omega,?_⟩
 by_cases hlt:i<us.length
 ·have hu:us[i]? = some us[i]:=by simp[hlt]
  rw[drop_cons hu]at e1
  refine .inr ⟨hgo i H1 hlt k1,λx H' y =>?_⟩
  obtain⟨rfl,rx⟩:=hy i H1 x H' us[i] hu k1 y
  have er1:ER H' μ1 (ρ++[some us[i]]) (σ++[some x]):=(er.mono k1 p1).push (RU.mono k1 p1 _ _ rx)
  exact pv (next:=hG t e ρ (us.drop (i+1))) (λacc H1 =>∃m',m'<us.length - i/\m'=us.length - (i+1)/\i+1<=us.length /\ ∃μ1 S1 au,Pre μ μ1/\bh H H1/\HR K μ1 S1 H1/\RUs H1 μ1 au acc/\hG t e ρ (us.drop (i+1)) au S1=some (ys,S')) hr1 er1 ra e1 λμ2 S2 au2 acc2 H2 p2 k2 hr2 ra2 q=>⟨us.length - (i+1),by omega,rfl,hlt,μ2,S2,au2,p1.trans p2,k1.trans k2,hr2,ra2,q⟩
 ·have e:i=us.length:=by omega
  subst e
  rw[uI]at e1
  cases e1
  exact .inl ⟨hstop H1 k1,λD hD=>gZ (k.mono p1 k1) hr1 ra hD⟩
theorem Df{t:MT}{e:ME}{ρ:Rho}{n f:Nat}{ys:List U}{μ:List Addr}{S S':Sto}{p:Addr}(hr:HR K μ S H)(er:ER H μ ρ σ)(h:ib t e ρ n f 0 [] S=some (ys,S'))(hz:ys.length<big)(k:Aft K μ H (.ref S'.length) (S'++[.lst ys]) Q)
  (hp:μ[n]? = some p):z7 (Itl K p) σ (tMT K t) (tM K e) H Q:=by
 have hz':ys.length<sizeLine:=by unfold big at hz;rw[sizeLine_eq];exact hz
 refine⟨λi m acc H1 =>∃μ1 S1 au,Pre μ μ1/\bh H H1/\HR K μ1 S1 H1/\RUs H1 μ1 au acc/\ib t e ρ n m i au S1=some (ys,S'),⟨f,μ,S,[],Pre.refl _,bh.refl _,hr,.nil,h⟩,?_⟩
 rintro i m acc H1 ⟨μ1,S1,au,p1,k1,hr1,ra,e1⟩
 have hl:=o9 e1
 have hl2:=ra.len
 refine⟨by omega,?_⟩
 cases m with
 | zero=>cases e1
 | succ m=>
   unfold ib at e1
   cases q:getL S1 n with
   | none=>rw[q]at e1;cases e1
   | some us=>
     rw[q]at e1
     simp only[ag]at e1
     obtain⟨a',vs,ha',hs,rs⟩:=hr1.sq q
     rw[p1.get hp]at ha';cases ha'
     cases z:us[i]? with
     | none=>
       rw[z]at e1
       cases e1
       exact .inl ⟨⟨vs,hs,by rw[<- rs.len];exact cH.mp z⟩,λD hD=>gZ (k.mono p1 k1) hr1 ra hD⟩
     | some u=>
       rw[z]at e1
       obtain⟨v,hv,rv⟩:=rs.get z
       refine .inr ⟨⟨vs,v,hs,hv⟩,λx H' y =>?_⟩
       obtain⟨e',y⟩:=y
       subst e'
       have hx:=y vs hs
       rw[hv]at hx;cases hx
       exact pv (next:=ib t e ρ n m (i+1)) (λacc H1 =>∃m',m'<m+1 /\ ∃μ1 S1 au,Pre μ μ1/\bh H H1/\HR K μ1 S1 H1/\RUs H1 μ1 au acc/\ib t e ρ n m' (i+1) au S1=some (ys,S')) hr1 ((er.mono k1 p1).push rv) ra e1 λμ2 S2 au2 acc2 H2 p2 k2 hr2 ra2 q=>⟨m,bD _,μ2,S2,au2,p1.trans p2,k1.trans k2,hr2,ra2,q⟩
theorem wz{lo:Int}{n:Nat}{t:MT}{e:ME}{ρ:Rho}{ys:List U}{μ:List Addr}{S S':Sto}(hr:HR K μ S H)(er:ER H μ ρ σ)(h:hG t e ρ (bK lo n) [] S=some (ys,S'))(hz:ys.length<big)(k:Aft K μ H (.ref S'.length) (S'++[.lst ys]) Q):
  z7 (Itr lo n) σ (tMT K t) (tM K e) H Q:=by
 have hl:(bK lo n).length=n:=by simp[bK]
 refine xx hr er h hz k (λH' _=>by rw[hl];exact ah _) (λi H' hi _=>by rw[hl]at hi;exact hi) λi H' x H'' u hu _ y =>?_
 obtain⟨rfl,rfl⟩:=y
 have hi:i<n:=by rw[<- hl];exact(ai.mp hu).1
 have e2:(bK lo n)[i]? = some (.int (lo+i)):=by simp[bK,hi]
 rw[e2]at hu;cases hu
 exact⟨rfl,eV⟩
theorem DL{us:List U}{vs:List V}{p:Addr}{t:MT}{e:ME}{ρ:Rho}{ys:List U}{μ:List Addr}{S S':Sto}(hr:HR K μ S H)(er:ER H μ ρ σ)(h:hG t e ρ us [] S=some (ys,S'))(hz:ys.length<big)(k:Aft K μ H (.ref S'.length) (S'++[.lst ys]) Q)
  (hp:H p=some (.tup vs)) (rs:RUs H μ us vs):z7 (Itt K p) σ (tMT K t) (tM K e) H Q:=by
 refine xx hr er h hz k (λH' kp=>⟨vs,.inl (.inl (kp p vs hp)),by rw[rs.len];exact ah _⟩) (λi H' hi kp =>?_) λi H' x H'' u hu kp y =>?_
 ·have hi':i<vs.length:=by rw[<- rs.len];exact hi
  exact⟨vs,vs[i],.inl (.inl (kp p vs hp)),by simp[hi']⟩
 ·obtain⟨rfl,y⟩:=y
  obtain⟨v,hv,rv⟩:=rs.get hu
  have:=y vs (.inl (.inl (kp p vs hp)))
  rw[hv]at this;cases this
  exact⟨rfl,rv⟩
theorem LO{a:MA}{t:MT}{e:ME}(h:tM K (ck (iR1 a) t e) σ H Q):pG (wx (tMA K a)) (tMT K t) (tM K e) σ H Q:=by
 obtain⟨μ,S,ρ,u,S',hr,er,e0,k⟩:=h
 obtain⟨src,S1,e1,e0⟩:=bc e0
 obtain⟨ys,S2,e2,e0⟩:=bc e0
 split at e0
 ·rename_i hz
  cases e0
  refine Ig hr er e1 λμ1 H1 n p1 k1 hr1 hs =>?_
  subst hs
  exact wz hr1 (er.mono k1 p1) e2 hz (k.mono p1 k1)
 ·cases e0
theorem Nt{a:MA}{t:MT}{e:ME}(h:tM K (ck (iR2 a) t e) σ H Q):pG (xC (tMA K a)) (tMT K t) (tM K e) σ H Q:=by
 obtain⟨μ,S,ρ,u,S',hr,er,e0,k⟩:=h
 obtain⟨src,S1,e1,e0⟩:=bc e0
 obtain⟨ys,S2,e2,e0⟩:=bc e0
 split at e0
 ·rename_i hz
  cases e0
  refine IA hr er e1 λμ1 H1 lo n p1 k1 hr1 hs =>?_
  subst hs
  exact wz hr1 (er.mono k1 p1) e2 hz (k.mono p1 k1)
 ·cases e0
theorem Oq{a:ME}{t:MT}{e:ME}(h:tM K (ck (cu a) t e) σ H Q):pG (λσ H R=>qI K (tM K a) σ H R\/yR K (tM K a) σ H R) (tMT K t) (tM K e) σ H Q:=by
 obtain⟨μ,S,ρ,u,S',hr,er,e0,k⟩:=h
 obtain⟨src,S1,e1,e0⟩:=bc e0
 obtain⟨ys,S2,e2,e0⟩:=bc e0
 split at e0
 ·rename_i hz
  cases e0
  refine u0 hr er e1 (λμ1 H1 us p vs p1 k1 hr1 hs hp rs =>?_) λμ1 H1 n p p1 k1 hr1 hs hp =>?_
  ·subst hs
   exact DL hr1 (er.mono k1 p1) e2 hz (k.mono p1 k1) hp rs
  ·subst hs
   exact Df hr1 (er.mono k1 p1) e2 hz (k.mono p1 k1) hp
 ·cases e0
end
end _G
end
section
namespace _G
open PySem PySem.Spec _L
open PyProof.Rows hiding St
section
variable {K:KX}{σ:St}{H:Hp}{Q:VK}{D:Ends}
end
end _G
end
section
namespace _G
open PySem PySem.Spec _L
open PyProof.Rows hiding St
theorem PE.con{X:Cx}{e:Expr}{t t':TE}(h:PE X e t)(hm: ∀σ H Q,t' σ H Q->t σ H Q):PE X e t':=λpins s σ H Q I q=>h pins s σ H Q I (hm σ H Q q)
theorem PT.con{X:Cx}{e:Expr}{t t':TT}(h:PT X e t)(hm: ∀σ H Q,t' σ H Q->t σ H Q):PT X e t':=λpins s σ H Q I q=>h pins s σ H Q I (hm σ H Q q)
theorem PW.con{X:Cx}{e:Expr}{t t':TT}(h:PW X e t)(hm: ∀σ H Q,t' σ H Q->t σ H Q):PW X e t':=λwh pins s σ H Q I q=>h wh pins s σ H Q I (hm σ H Q q)
theorem PA.con{X:Cx}{e:List Expr}{t t':TA}(h:PA X e t)(hm: ∀σ H Q,t' σ H Q->t σ H Q):PA X e t':=λpos pins s σ H Q I q=>h pos pins s σ H Q I (hm σ H Q q)
theorem PS.con{X:Cx}{e:Stmt}{t t':TS}(h:PS X e t)(hm: ∀D σ H,t' D σ H->t D σ H):PS X e t':=λpins s σ H D I q=>h pins s σ H D I (hm D σ H q)
theorem PSs.con{X:Cx}{e:List Stmt}{t t':TS}(h:PSs X e t)(hm: ∀D σ H,t' D σ H->t D σ H):PSs X e t':=λpins s σ H D I q=>h pins s σ H D I (hm D σ H q)
theorem PTs.con{X:Cx}{e:List Expr}{t t':TT}(h:PTs X e t)(hm: ∀σ H Q,t' σ H Q->t σ H Q):PTs X e t':=λpins s σ H Q I q=>h pins s σ H Q I (hm σ H Q q)
theorem PI.or{X:Cx}{tg it:Expr}{w1 w2:TI}(h1:PI X tg it w1)(h2:PI X tg it w2):PI X tg it (λσ H R=>w1 σ H R\/w2 σ H R):=λpins s σ H R I q=>by
 rcases q with q |q
 ·exact h1 pins s σ H R I q
 ·exact h2 pins s σ H R I q
structure Mo where
 P:Program
 w:World
 K:KX
 mg:Str->Option Value
 base:Heap
 mkr:Option (Addr×Str)
noncomputable def tm(ns:List (Str×NameKind))(x:Str):Bool:=match ns.lookup x with
 | some .local=>true
 | some .cell=>true
 | some .free=>true
 | _=>false
noncomputable def rG(ns:List (Str×NameKind))(x:Str):Bool:=match ns.lookup x with
 | some .local=>true
 | some .cell=>true
 | _=>false
noncomputable def fh(ns:List (Str×NameKind))(x:Str):Bool:=match ns.lookup x with
 | some .globalImplicit=>true
 | _=>false
structure Sc(M:Mo)(X:Cx)(k:Nat)(N:List Str)(ns:List (Str×NameKind)):Prop where
 hP:X.prog=M.P
 hw:X.w=M.w
 hK:X.K=M.K
 hm:X.mg=M.mg
 hb:X.base=M.base
 hN:X.N=N
 nd:N.Nodup
 calm:X.calm=true
 loc: ∀y,ns.lookup y=some .local->X.env.scope.names.lookup y=some .local
 cel: ∀y,ns.lookup y=some .cell->X.env.scope.names.lookup y=some .cell/\X.fn y=true
 fre: ∀y,ns.lookup y=some .free->X.env.scope.names.lookup y=some .cell\/X.env.scope.names.lookup y=some .free
 glo: ∀y,ns.lookup y=some .globalImplicit->X.env.scope.names.lookup y=some .globalImplicit
 room:jO k X.A
 own:PassesOwn (model X.prog X.w) X.A X.env X.xe
 cod: ∀c q,M.mkr=some (c,q)->X.env.code = .ref c/\X.env.qual=q
section
variable {M:Mo}{X:Cx}{k:Nat}{N:List Str}{ns:List (Str×NameKind)}
theorem Sc.vis(S:Sc M X k N ns){x:Str}(h:tm ns x=true):Vis X.env.scope x:=by
 unfold tm at h
 split at h
 ·rename_i e;exact .inl (S.loc x e)
 ·rename_i e;exact .inr (.inl (S.cel x e).1)
 ·rename_i e;exact .inr (S.fre x e)
 ·cases h
theorem Sc.lo(S:Sc M X k N ns){x:Str}(h:rG ns x=true):Loc X.env.scope x/\(X.fn x=true\/X.env.scope.names.lookup x=some .local):=by
 unfold rG at h
 split at h
 ·rename_i e;exact⟨.inl (S.loc x e),.inr (S.loc x e)⟩
 ·rename_i e;exact⟨.inr (S.cel x e).1,.inl (S.cel x e).2⟩
 ·cases h
theorem Sc.gl(S:Sc M X k N ns){x:Str}(h:fh ns x=true):Gl X x:=by
 unfold fh at h
 split at h
 ·rename_i e;exact S.glo x e
 ·cases h
variable {a b c e:Expr}{es:List Expr}{ma mb mc:ME}{mt:MT}{mas:MA}{pos p1 p2:Pos}{x:Str}
theorem Nc (S:Sc M X k N ns) (i:Nat) (hi:N[i]? = some x) (hv:tm ns x=true) (hd:(x == ("__debug__":Str))=false) (hcd:(x == ("__classdict__":Str))=false):PE X (.Name x pos) (tM M.K (ae i)):=
 PE.con (Dx (by rw[S.hN];exact hi) (S.vis hv) hd hcd) λ_ _ _ h=>Lg h
theorem L5{i:Int}{j}:PE X (.Constant (.int i) j pos) (tM M.K (mC (.int i))):=PE.con Cc λ_ _ _ h=>r_c (λ_ _=>eV) h
theorem OO{i:Bool}{j}:PE X (.Constant (.bool i) j pos) (tM M.K (mC (.bl i))):=PE.con Lk λ_ _ _ h=>r_c (λ_ _=>ky) h
theorem Lp{j}:PE X (.Constant .none j pos) (tM M.K (mC .non)):=PE.con JP λ_ _ _ h=>r_c (λ_ _=>o4) h
theorem JA {u:U}{v:V}{g:Value} (S:Sc M X k N ns) (hg:fh ns x=true) (hm:M.mg x=some g) (r:RelV v g) (hv : ∀ H μ,RU H μ u v) (hd:(x == ("__debug__":Str))=false):PE X (.Name x pos) (tM M.K (mC u)):=
 PE.con (Hd (S.gl hg) (by rw[S.hm];exact hm) r hd) λ_ _ _ h=>r_c hv h
theorem Mb(S:Sc M X k N ns)(ha:PE X a (tM M.K ma))(hb:PE X b (tM M.K mb)):PE X (.BinOp a .Add b pos) (tM M.K (m2 cP ma mb)):=
 PE.con (ur (IV.or (OpR.or (S.hK▸FW) (OpR.or (S.hK▸FS) JO))) ha hb) λ_ _ _ h=>uM IP h
theorem Ng(ha:PE X a (tM M.K ma))(hb:PE X b (tM M.K mb)):PE X (.BinOp a .Sub b pos) (tM M.K (m2 mR ma mb)):=PE.con (ur K9 ha hb) λ_ _ _ h=>uM Jy h
theorem Me(S:Sc M X k N ns)(ha:PE X a (tM M.K ma))(hb:PE X b (tM M.K mb)):PE X (.BinOp a .Mult b pos) (tM M.K (m2 gI ma mb)):=PE.con (ur (J4.or (S.hK▸GZ)) ha hb) λ_ _ _ h=>uM K3 h
theorem Nm(ha:PE X a (tM M.K ma))(hb:PE X b (tM M.K mb)):PE X (.BinOp a .FloorDiv b pos) (tM M.K (m2 oDiv ma mb)):=PE.con (ur FB ha hb) λ_ _ _ h=>uM KM h
theorem N6(ha:PE X a (tM M.K ma))(hb:PE X b (tM M.K mb)):PE X (.BinOp a .Mod b pos) (tM M.K (m2 oMod ma mb)):=PE.con (ur Kb ha hb) λ_ _ _ h=>uM KQ h
theorem NI(ha:PE X a (tM M.K ma))(hb:PE X b (tM M.K mb)):PE X (.BinOp a .Pow b pos) (tM M.K (m2 nQ ma mb)):=PE.con (ur Kz ha hb) λ_ _ _ h=>uM Kq h
theorem Na(ha:PE X a (tM M.K ma)):PE X (.UnaryOp .USub a pos) (tM M.K (m1 pR ma)):=PE.con (Ii El ha) λ_ _ _ h=>OF Kg h
theorem Oj(S:Sc M X k N ns)(ha:PE X a (tM M.K ma))(hb:PE X b (tM M.K mb))(hs:vt b):PE X (.Subscript a b pos) (tM M.K (m2 oIx ma mb)):=
 PE.con (NV (IxR.or (S.hK▸JG) (J8 (by have:=S.room.units;omega))) ha hb hs) λ_ _ _ h=>uM LQ h
theorem Nu(hc:PT X c (tMT M.K mt))(ha:PE X a (tM M.K ma))(hb:PE X b (tM M.K mb)):PE X (.IfExp c a b pos) (tM M.K (wm mt ma mb)):=PE.con (DW hc ha hb) λ_ _ _ h=>Mr h
theorem L1:PA X [] (tMA M.K ak):=PA.con vP λ_ _ _ h=>M5 h
theorem Ki(ha:PE X a (tM M.K ma))(hr:PA X es (tMA M.K mas))(hs:autoParam (starEach (a::es) X.env=(false,eval a X.env)::starEach es X.env) au1._auto_1):PA X (a::es) (tMA M.K (aa ma mas)):=
 PA.con (ot ha hr hs) λ_ _ _ h=>K2 h
theorem MR{x1}(h:PA X es (tMA M.K mas)):PE X (.Tuple es x1 pos) (tM M.K (cX mas)):=PE.con (Ji h) λ_ _ _ h=>NF h
theorem Lh(h:PA X es (tMA M.K mas)):PE X (.List es pos) (tM M.K (dn mas)):=PE.con (J1 h) λ_ _ _ h=>NT h
theorem Mp(ha:PT X a (tMT M.K mt)){mt':MT}(hb:PW X (.BoolOp .And (b::es) pos) (tMT M.K mt')):PW X (.BoolOp .And (a::b::es) pos) (tMT M.K (tH mt mt')):=PW.con (Kv ha hb) λ_ _ _ h=>Lr h
theorem Ox(ha:PT X a (tMT M.K mt)){mt':MT}(hb:PW X (.BoolOp .Or (b::es) pos) (tMT M.K mt')):PW X (.BoolOp .Or (a::b::es) pos) (tMT M.K (cOr mt mt')):=PW.con (NA ha hb) λ_ _ _ h=>OV h
theorem IW(ha:PT X a (tMT M.K mt)):PW X (.BoolOp .And [a] pos) (tMT M.K mt):=He ha
theorem M9(ha:PT X a (tMT M.K mt)):PW X (.BoolOp .Or [a] pos) (tMT M.K mt):=K6 ha
theorem NU(ha:PT X a (tMT M.K mt)):PT X (.UnaryOp .Not a pos) (tMT M.K (vg mt)):=PT.con (KF ha) λ_ _ _ h=>Nx h
theorem N8(ha:PE X a (tM M.K ma))(he:autoParam (∀whole,isTrue a X.env whole=(do let v <- whole;standAt a.pos;holding [v] (truthy v))) au3._auto_1):PT X a (tMT M.K (cOf ma)):=PT.con (KN ha he) λ_ _ _ h=>OM (λ_ q=>q) h
theorem EE (S:Sc M X k N ns) (hg:fh ns "len"=true) (hm:M.mg "len"=none) (ha:PA X (e::es) (tMA M.K mas)) (he:autoParam (starEach (e::es) X.env=(false,eval e X.env)::starEach es X.env) au1._auto_1) (hpl:autoParam ((backTo pos (starEach es X.env)).any (·.1)=false) au1._auto_1) :
  PE X (.Call (.Name "len" p1) (e::es) [] pos) (tM M.K (mFn cN mas)):=
 PE.con (jk (gS.or (S.hK▸ve) Aw) (S.gl hg) (by rw[S.hm];exact hm) PySem.boot_len ha (by decide) (by decide) he hpl) λ_ _ _ h=>yy I0 h
theorem Fq (S:Sc M X k N ns) (hg:fh ns "tuple"=true) (hm:M.mg "tuple"=none) (ha:PA X (e::es) (tMA M.K mas)) (he:autoParam (starEach (e::es) X.env=(false,eval e X.env)::starEach es X.env) au1._auto_1) (hpl:autoParam ((backTo pos (starEach es X.env)).any (·.1)=false) au1._auto_1) :
  PE X (.Call (.Name "tuple" p1) (e::es) [] pos) (tM M.K (mFn cy mas)):=
 PE.con (o6 (S.hK▸sZ) (S.gl hg) (by rw[S.hm];exact hm) tR ha (by decide) (by decide) he hpl) λ_ _ _ h=>yy Dm h
theorem Mg (S:Sc M X k N ns) (hg:fh ns "max"=true) (hm:M.mg "max"=none) (ha:PA X (e::es) (tMA M.K mas)) (he:autoParam (starEach (e::es) X.env=(false,eval e X.env)::starEach es X.env) au1._auto_1) (hpl:autoParam ((backTo pos (starEach es X.env)).any (·.1)=false) au1._auto_1) :
  PE X (.Call (.Name "max" p1) (e::es) [] pos) (tM M.K (mFn sR mas)):=
 PE.con (jk (A0 S.calm) (S.gl hg) (by rw[S.hm];exact hm) PyProof.Rows.boot_max ha (by decide) (by decide) he hpl) λ_ _ _ h=>yy KW h
theorem Oa (S:Sc M X k N ns) (hg:fh ns "min"=true) (hm:M.mg "min"=none) (ha:PA X (e::es) (tMA M.K mas)) (he:autoParam (starEach (e::es) X.env=(false,eval e X.env)::starEach es X.env) au1._auto_1) (hpl:autoParam ((backTo pos (starEach es X.env)).any (·.1)=false) au1._auto_1) :
  PE X (.Call (.Name "min" p1) (e::es) [] pos) (tM M.K (mFn sW mas)):=
 PE.con (jk (S.hK▸Bt S.calm (by have:=S.room.units;assumption)) (S.gl hg) (by rw[S.hm];exact hm) PyProof.Rows.boot_min ha (by decide) (by decide) he hpl) λ_ _ _ h=>yy IY h
structure Fn(M:Mo)(x:Str)(k:Nat)(ps:List Str)(m:MF):Prop where
 ex: ∃(f:Addr) (fd:FuncData),M.mg x=some (.ref f)/\cm M.K (.ref f)=true/\Binds M.K fd ps []/\jW M.P M.w M.K M.mg M.base CX0 k f fd ps (spM M.K m)
theorem Le {mf:MF}{ps:List Str}{k':Nat} (S:Sc M X k N ns) (F:Fn M x k' ps mf) (hk:k'<=k) (hg:fh ns x=true) (ha:PA X (e::es) (tMA M.K mas)) (hd:(x == ("__debug__":Str))=false) (he:autoParam (starEach (e::es) X.env=(false,eval e X.env)::starEach es X.env) au1._auto_1) (hpl:autoParam ((backTo pos (starEach es X.env)).any (·.1)=false) au1._auto_1) :
  PE X (.Call (.Name x p1) (e::es) [] pos) (tM M.K (mFn mf mas)):=by
 obtain⟨f,fd,hm,hkp,hb,F⟩:=F.ex
 rw[<- S.hP,<- S.hw,<- S.hK,<- S.hm,<- S.hb]at F
 rw[<- S.hm]at hm
 rw[<- S.hK]at hkp hb
 exact PE.con (Hy F (S.room.mono hk) (S.gl hg) hm hkp hb .nil zA ha hd he hpl) λ_ _ _ h=>CN h
theorem FE {mf:MF}{ps:List Str}{k':Nat} (S:Sc M X k N ns) (F:Fn M x k' ps mf) (hk:k'<=k) (hg:fh ns x=true) (hd:(x == ("__debug__":Str))=false) :
  PE X (.Call (.Name x p1) [] [] pos) (tM M.K (mFn mf ak)):=by
 obtain⟨f,fd,hm,hkp,hb,F⟩:=F.ex
 rw[<- S.hP,<- S.hw,<- S.hK,<- S.hm,<- S.hb]at F
 rw[<- S.hm]at hm
 rw[<- S.hK]at hkp hb
 refine PE.con (DZ F (S.room.mono hk) (S.gl hg) hm hkp hb .nil zA hd) λσ H Q h =>?_
 obtain⟨μ,S,ρ,u,S',hr,er,e,kk⟩:=h
 exact⟨μ,S,[],u,S',hr,.nil,e,kk⟩
theorem En (S:Sc M X k N ns) (ho:PE X a (tM M.K ma)) (ha:PA X (e::es) (tMA M.K mas)) (hbase:autoParam (attributeBase a "append" X.env (eval a X.env)=eval a X.env) au1._auto_1)
  (hfew:autoParam (((backTo pos (starEach (e::es) X.env)).all (λx => !x.1)&&(backToKw pos (keywordEach [] X.env)).all (λx=>x.1.isSome)
   && decide ((e::es).length+([]:List Keyword).length+(if ([]:List Keyword).isEmpty then 0 else 1)<30))=true) au1._auto_1)
  (hline:autoParam ((p1.endLine==pos.line)=true) au1._auto_1) (hs:autoParam (starEach (e::es) X.env=(false,eval e X.env)::starEach es X.env) au1._auto_1) (hpl:autoParam ((backTo pos (starEach es X.env)).any (·.1)=false) au1._auto_1):
  PE X (.Call (.Attribute a "append" p1) (e::es) [] pos) (tM M.K (mML du ma mas)):=by
 exact PE.con (EJ hU PySem.F.slot_list_append PySem.F.type_list_append AX ho ha hbase hfew hline hs hpl) λ_ _ _ h=>S.hK▸Kr Bh h
theorem HD (S:Sc M X k N ns) (ho:PE X a (tM M.K ma)) (ha:PA X (e::es) (tMA M.K mas)) (hbase:autoParam (attributeBase a "pop" X.env (eval a X.env)=eval a X.env) au1._auto_1)
  (hfew:autoParam (((backTo pos (starEach (e::es) X.env)).all (λx => !x.1)&&(backToKw pos (keywordEach [] X.env)).all (λx=>x.1.isSome)
   && decide ((e::es).length+([]:List Keyword).length+(if ([]:List Keyword).isEmpty then 0 else 1)<30))=true) au1._auto_1)
  (hline:autoParam ((p1.endLine==pos.line)=true) au1._auto_1) (hs:autoParam (starEach (e::es) X.env=(false,eval e X.env)::starEach es X.env) au1._auto_1) (hpl:autoParam ((backTo pos (starEach es X.env)).any (·.1)=false) au1._auto_1):
  PE X (.Call (.Attribute a "pop" p1) (e::es) [] pos) (tM M.K (mML ke ma mas)):=by
 exact PE.con (EJ hU Ap Aq DH ho ha hbase hfew hline hs hpl) λ_ _ _ h=>S.hK▸Kr DP h
theorem NJ {tg:Expr} (S:Sc M X k N ns) (hg:fh ns "range"=true) (hm:M.mg "range"=none) (ha:PA X [a] (tMA M.K mas)) (hs:autoParam (starEach [a] X.env = [(false,eval a X.env)]) au1._auto_1):PI X tg (.Call (.Name "range" p1) [a] [] pos) (wx (tMA M.K mas)):=
 Au (S.gl hg) (by rw[S.hm];exact hm) ha hs
theorem Lx {tg:Expr} (S:Sc M X k N ns) (hg:fh ns "range"=true) (hm:M.mg "range"=none) (ha:PA X [a,b] (tMA M.K mas)) (hs:autoParam (starEach [a,b] X.env = [(false,eval a X.env),(false,eval b X.env)]) au1._auto_1) (hs2:autoParam (starEach [b] X.env = [(false,eval b X.env)]) au1._auto_1):PI X tg (.Call (.Name "range" p1) [a,b] [] pos) (xC (tMA M.K mas)):=
 AS (S.gl hg) (by rw[S.hm];exact hm) ha hs hs2
theorem GW{tg:Expr}(S:Sc M X k N ns)(ha:PE X a (tM M.K ma)):PI X tg a (λσ H R=>qI M.K (tM M.K ma) σ H R\/yR M.K (tM M.K ma) σ H R):=by
 have h:=PI.or (Gz (tg:=tg) ha) (Ks ha)
 rw[S.hK]at h
 exact h
noncomputable def nF(N N':List Str)(ns names:List (Str×NameKind))(xs:List Str):Bool:=
 decide ((names.map (·.1)).Nodup)&&names.all (λy=>if y.2==.free then(match ns.lookup y.1 with |some .cell=>true |some .free=>true |_=>false) else true)&&xs.all (rG names)&&decide N'.Nodup &&
 (N'.length==N.length+xs.length)&&((aB xs.length).all λj=>N'[N.length+j]? == xs[j]?)&&(aB N.length).all λi=>match N'[i]? with
  | none=>true
  | some y=>if tm names y then N[i]? == some y&&names.lookup y==some .free else true
noncomputable def lQ(N N':List Str)(ns names:List (Str×NameKind))(x:Str):Bool:=nF N N' ns names [x]
theorem qY{N':List Str}{scope:Scope}{xs:List Str}(S:Sc M X k N ns)(hk:scope.kind = .function)(h:nF N N' ns scope.names xs=true):g8 X N' scope xs:=by
 unfold nF at h
 simp only[ay]at h
 obtain⟨⟨⟨⟨⟨⟨h1,h2⟩,h3⟩,h4⟩,h5⟩,h6⟩,h7⟩:=h
 refine⟨hk,of_decide_eq_true h1,λy hy e =>?_,λx hx =>?_,of_decide_eq_true h4,?_,λj x hj =>?_,λi y hi e hv =>?_⟩
 ·have:=cR.mp h2 y hy
  rw[if_pos (by rw[e];rfl)]at this
  split at this
  ·rename_i q;exact .inl (S.cel y.1 q).1
  ·rename_i q;exact S.fre y.1 q
  ·cases this
 ·have h3:=cR.mp h3 x hx
  unfold rG at h3
  split at h3
  ·rename_i q;exact .inl q
  ·rename_i q;exact .inr q
  ·cases h3
 ·rw[S.hN];exact eq_of_beq h5
 ·have hl:=(ai.mp hj).1
  have:=cR.mp h6 j (aN.mpr hl)
  rw[S.hN,eq_of_beq this];exact hj
 ·rw[S.hN]at hi ⊢
  have:=cR.mp h7 i (aN.mpr hi)
  rw[e]at this
  simp only at this
  have hvb:tm scope.names y=true:=by
   unfold tm
   rcases hv with q |q |q <;> rw[q]
  rw[if_pos hvb,ay]at this
  exact⟨eq_of_beq this.1,eq_of_beq this.2⟩
theorem tX{N':List Str}{scope:Scope}(S:Sc M X k N ns)(hk:scope.kind = .function)(h:lQ N N' ns scope.names x=true):g8 X N' scope [x]:=qY S hk h
theorem oI{N':List Str}{scope:Scope}{xs:List Str}(S:Sc M X k N ns)(C:g8 X N' scope xs)(s₂:Shared)(H₂:Hp)(fp:List Addr):Sc M (blk X N' scope s₂ H₂ fp) k N' scope.names where
 hP:=S.hP
 hw:=S.hw
 hK:=S.hK
 hm:=S.hm
 hb:=S.hb
 hN:=rfl
 nd:=C.ndN
 calm:=S.calm
 loc:=λy h=>lookup_relabel_local h
 cel:=λy h=>⟨ja h,by show(scope.names.lookup y==some .cell)=true;rw[h];rfl⟩
 fre:=λy h=>j8 h
 glo:=λy h=>nX h
 room:=S.room
 own:=sj
 cod:=S.cod
theorem CQ{N':List Str}{scope:Scope}{px:Pos}{iter elt:Expr}{ifs:List Expr}{wi:TI}{mi:MI}(S:Sc M X k N ns)(hk:scope.kind = .function)(ok:lQ N N' ns scope.names x=true)(hi:PI X (.Name x px) iter wi)
  (ht: ∀X',Sc M X' k N' scope.names->PTs X' ifs (tMT M.K mt)) (he: ∀X',Sc M X' k N' scope.names->PE X' elt (tM M.K mc)) (hr: ∀σ H Q,tM M.K (ck mi mt mc) σ H Q->pG wi (tMT M.K mt) (tM M.K mc) σ H Q)
  (hs:autoParam (∀x,foldedSetIterable iter X.env x=pure x) au3._auto_1):PE X (.ListComp elt [⟨.Name x px,iter,ifs,0⟩] scope pos) (tM M.K (ck mi mt mc)):=by
 have C:=tX S hk ok
 exact PE.con (Fj S.calm C hi (λs₂ H₂ fp=>ht _ (oI S C s₂ H₂ fp)) (λs₂ H₂ fp=>he _ (oI S C s₂ H₂ fp)) hs) hr
theorem JF:PTs X [] (tMT M.K cTT):=PTs.con Hv λσ H Q h=>by
 obtain⟨μ,S,ρ,b,S',hr,er,e,kk⟩:=h
 cases e
 exact kk μ H (Pre.refl _) (bh.refl _) hr
theorem LV(h:PT X c (tMT M.K mt)):PTs X [c] (tMT M.K mt):=Gm h
variable {st:Stmt}{sts:List Stmt}{ms ms':MS}
theorem LC:PSs X [] (tMS M.K eC):=PSs.con GF λ_ _ _ h=>ED h
theorem LK(h1:PS X st (tMS M.K ms))(h2:PSs X sts (tMS M.K ms')):PSs X (st::sts) (tMS M.K (br ms ms')):=PSs.con (Eg h1 h2) λ_ _ _ h=>NX h
theorem LW(h1:PS X st (tMS M.K ms)):PSs X [st] (tMS M.K ms):=FH h1
theorem HV(S:Sc M X k N ns)(i:Nat)(hi:N[i]? = some x)(ho:rG ns x=true)(he:PE X e (tM M.K ma))(hs:autoParam (swapsWith e (some (.Name x p1)) pos.line X.env=pure false) au1._auto_1):PS X (.Assign [.Name x p1] e pos) (tMS M.K (bJ i ma)):=
 PS.con (K4 (by rw[S.hN];exact S.nd) (by rw[S.hN];exact hi) (S.lo ho).1 he hs (S.lo ho).2) λ_ _ _ h=>Iv h
theorem FL(S:Sc M X k N ns)(ho:PE X a (tM M.K ma))(hi:PE X b (tM M.K mb))(he:PE X e (tM M.K mc))(hs:autoParam (swapsWithSole [.Subscript a b p1] e pos.line X.env=pure false) au1._auto_1)(hw:autoParam (swappedStores [.Subscript a b p1] e X.env=pure none) au1._auto_1)
  (h1:autoParam ((assignEach [.Subscript a b p1] X.env).map (·.2) = [assign (.Subscript a b p1) X.env]) au1._auto_1)
  (hasn:autoParam (∀v,assign (.Subscript a b p1) X.env v=(do
   let ov <- holding [v] (eval a X.env)
   let iv <- holding [v,ov] (eval b X.env)
   standAt p1
   holding [v,ov,iv] (setItem ov iv v)
   release [v,ov,iv] [])) au3._auto_1):PS X (.Assign [.Subscript a b p1] e pos) (tMS M.K (eA ma mb mc)):=
 PS.con (DR he (Jc ho hi (Gf (by have:=S.room.units;omega)) hasn) hs hw h1) λ_ _ _ h=>GV h
theorem Kn(he:PE X e (tM M.K ma))(hs:autoParam (swapsWith e none pos.line X.env=pure false) au1._auto_1):PS X (.Expr e pos) (tMS M.K (dN ma)):=PS.con (HG he hs) λ_ _ _ h=>Ko h
theorem Mj(he:PE X e (tM M.K ma)):PS X (.Return (some e) pos) (tMS M.K (eg ma)):=PS.con (Jk he) λ_ _ _ h=>NQ h
theorem Oi{sts':List Stmt}(hc:PT X c (tMT M.K mt))(ha:PSs X sts (tMS M.K ms))(hb:PSs X sts' (tMS M.K ms')):PS X (.If c sts sts' pos) (tMS M.K (sIf mt ms ms')):=PS.con (Mh hc ha hb) λ_ _ _ h=>OA h
theorem Mv{iter:Expr}{wi:TI}{mi:MI}(S:Sc M X k N ns)(i:Nat)(hi:N[i]? = some x)(ho:rG ns x=true)(hit:PI X (.Name x p1) iter wi)(hb:PSs X sts (tMS M.K ms))(hr: ∀D σ H,tMS M.K (eX i mi ms) D σ H->sX wi (ju i) (tMS M.K ms) D σ H)
  (hs:autoParam (∀x,foldedSetIterable iter X.env x=pure x) au3._auto_1):PS X (.For (.Name x p1) iter sts [] pos) (tMS M.K (eX i mi ms)):=
 PS.con (EU S.own S.calm hit (Ag (by rw[S.hN];exact S.nd) (by rw[S.hN];exact hi) (S.lo ho).1 (S.lo ho).2) hb hs) hr
theorem Fy(S:Sc M X k N ns)(hc:PT X c (tMT M.K mt))(hb:PSs X sts (tMS M.K ms)):PS X (.While c sts [] pos) (tMS M.K (jl mt ms)):=PS.con (EM S.own hc hb) λ_ _ _ h=>Ga h
end
theorem Sc.def {M:Mo}{N ps:List Str}{qual:Str}{scope:Scope}{f:Addr}{cdv:Value}{A:Around}{outer:List Env}{s:Shared}{H:Hp}{E:XK}{k:Nat} (S:bL N ps scope) (hr:jO k (A.deeper (envOfC qual scope s.heap.objs.size f cdv))) (h0 : ∀ c q,M.mkr=some (c,q)->cdv = .ref c/\qual++".<locals>."=q) :
  Sc M (yS CX0 M.P M.w M.K M.mg M.base N qual scope f cdv A outer s H E).nox k N scope.names:=
 ⟨rfl,rfl,rfl,rfl,rfl,rfl,S.nd,rfl,λ_ h=>h,λ_ h=>⟨h,rfl⟩,λ_ h => .inr h,λ_ h=>h,hr,sj,h0⟩
theorem uf{H:Hp}{μ:List Addr}{N:List Str}{us:List U}{vs:List V}(r:RUs H μ us vs):ER H μ (us.map some++aR (N.length - us.length) none) (_L.start N vs):=by
 unfold _L.start
 refine⟨by simp[r.len],λi u h =>?_⟩
 by_cases hi:i<us.length
 ·rw[aP (by simpa using hi),bG]at h
  cases e:us[i]? with
  | none=>rw[e]at h;cases h
  | some w=>
    rw[e]at h;cases h
    obtain⟨v,hv,rv⟩:=r.get e
    refine⟨v,?_,rv⟩
    rw[aP (by simpa [<- r.len]using hi),bG,hv];rfl
 ·rw[av (by simpa using hi)]at h
  rw[iw]at h
  split at h <;> cases h
theorem Du{M:Mo}(h0:M.mkr=none){x qual:Str}{st:Stmt}{f:Addr}{fd:FuncData}{N ps:List Str}{k:Nat}{ms:MS}(F:Fun M.K x qual st f fd)(S:bL N ps (aE st))
  (hb: ∀X,Sc M X k N (aE st).names->PSs X (bq st) (tMS M.K ms)):jW M.P M.w M.K M.mg M.base CX0 (k+1) f fd ps (spM M.K (run ps.length N.length ms)):=by
 refine F.ok S (λvs H Q E h =>?_) λcdv A outer s H vs Q E hr h=>⟨tMS M.K ms,hb _ (Sc.def S hr λc q h=>by rw[h0]at h;cases h),?_⟩
 ·obtain⟨μ,S',us,u,S'',hr,rs,e,_⟩:=h
  unfold run at e
  split at e
  ·rename_i hl;rw[<- rs.len];exact hl
  ·cases e
 ·obtain⟨μ,S1,us,u,S2,hr,rs,e,ka⟩:=h
  unfold run at e
  split at e
  ·rename_i hl
   have er:=uf (N:=N) rs
   rw[hl]at er
   split at e
   ·rename_i w ρ' S3 q
    cases e
    exact⟨μ,S1,_,_,hr,er,q,ka⟩
   ·rename_i ρ' S3 q
    cases e
    exact⟨μ,S1,_,_,hr,er,q,λμ' σ' H' p' k' hr' er'=>ka μ' _ H' p' k' hr' o4⟩
   ·cases e
  ·cases e
end _G
end
section
namespace _G
open PySem PySem.Spec _L
open PyProof.Rows hiding St
mutual
inductive pe(K:aj)(H:Hp):V->PyData->Prop where
 | non:pe K H .non .none
 | bl (b:Bool):pe K H (.bl b) (.bool b)
 | int (i:Int):pe K H (.int i) (.int i)
 | str (x:Str):pe K H (.str x) (.str x)
 | tup {a:Addr}{vs:List V}{ds:List PyData}:SqT K H a vs->kz K H vs ds->pe K H (.ref a) (.tuple ds)
 | lst {a:Addr}{vs:List V}{ds:List PyData}:SqL K H a vs->kz K H vs ds->pe K H (.ref a) (.list ds)
inductive kz(K:aj)(H:Hp):List V->List PyData->Prop where
 | nil:kz K H [] []
 | cons {v:V}{vs:List V}{d:PyData}{ds:List PyData}:pe K H v d->kz K H vs ds->kz K H (v::vs) (d::ds)
end
section
variable {X:Cx}{pins:List (Addr×Obj)}{σ:St}{H:Hp}{s:Shared}
mutual
theorem pe.reads(I:Inv X pins σ H s): ∀{v:V}{d:PyData}{w:Value},pe X.K H v d->RelV v w -> ∃as,Reads s.heap w d as
 | _,_,_,.non,r=>⟨[],by cases (show _=dh from r);exact .none⟩
 | _,_,_,.bl b,r=>⟨[],by cases (show _=xU b from r);exact .bool b⟩
 | _,_,_,.int i,r=>by
   obtain⟨t,e⟩:=(show ∃t,_=oz i t from r)
   subst e;exact⟨[],.int i t⟩
 | _,_,_,.str x,r=>by
   obtain⟨t,e⟩:=(show ∃t,_=tK x t from r)
   subst e;exact⟨[],.str x t⟩
 | _,_,_,.tup (a:=a) h rs,r=>by
   cases (show _=bj a from r)
   obtain⟨its,rv,⟨o,e,c,n,dt⟩,_⟩:=I.tuple h
   obtain⟨as,q⟩:=kz.reads I rs rv
   exact⟨as,.tuple e c dt q⟩
 | _,_,_,.lst (a:=a) h rs,r=>by
   cases (show _=bj a from r)
   obtain⟨its,rv,⟨o,n,e,c,dd,dt⟩,_⟩:=I.list h
   obtain⟨as,q⟩:=kz.reads I rs rv
   exact⟨a::as,.list e c dt q⟩
theorem kz.reads(I:Inv X pins σ H s): ∀{vs:List V}{ds:List PyData}{ws:List Value},kz X.K H vs ds->bW vs ws -> ∃as,ReadsAll s.heap ws ds as
 | _,_,_,.nil,r=>by cases r;exact⟨[],.nil⟩
 | _,_,_,.cons h rs,r=>by
   cases r with
   | cons r1 r2=>
     obtain⟨as,q⟩:=pe.reads I h r1
     obtain⟨bs,q'⟩:=kz.reads I rs r2
     exact⟨as++bs,.cons q q'⟩
end
end
theorem oj{α β:Type}{f:α->Option β}{P:α->β->Prop}(hf: ∀x y,f x=some y->P x y): ∀{xs:List α}{ys:List β},dq f xs=some ys->Paired P xs ys
 | [],ys,h=>by cases h;exact .nil
 | x::xs,ys,h=>by
   unfold dq at h
   cases e:f x with
   | none=>rw[e]at h;cases h
   | some y=>
     rw[e]at h
     simp only[ag]at h
     cases e2:dq f xs with
     | none=>rw[e2]at h;cases h
     | some zs=>
       rw[e2]at h;cases h
       exact .cons (hf x y e) (oj hf e2)
theorem qi{f:Nat}: ∀{us:List U}{ds:List PyData},Paired (λ(_:U) (d:PyData)=>d.canLay0=true/\d.depth<=f) us ds->kq ds=true/\jt ds<=f
 | _,_,.nil=>⟨by simp[kq],by simp[jt]⟩
 | _,_,.cons h t=>by
   obtain⟨a,b⟩:=qi t
   exact⟨by simp[kq,h.1,a],by simp only[jt];exact Nat.max_le.mpr ⟨h.2,b⟩⟩
section
variable {K:KX}{H:Hp}{μ:List Addr}{S:Sto}
theorem qb{f:Nat}(hr:HR K μ S H)(ih: ∀(u:U) (d:PyData),toD S f u=some d -> ∀v,RU H μ u v->pe K H v d): ∀{us:List U}{ds:List PyData},dq (toD S f) us=some ds -> ∀{vs:List V},RUs H μ us vs->kz K H vs ds
 | [],ds,h,vs,r=>by cases h;rw[r.nil_inv];exact .nil
 | u::us,ds,h,vs,r=>by
   unfold dq at h
   cases e:toD S f u with
   | none=>rw[e]at h;cases h
   | some y=>
     rw[e]at h
     simp only[ag]at h
     cases e2:dq (toD S f) us with
     | none=>rw[e2]at h;cases h
     | some zs=>
       rw[e2]at h;cases h
       obtain⟨v,r',rfl,a,b⟩:=r.inv
       exact .cons (ih u y e v a) (qb hr ih e2 b)
theorem qq(hr:HR K μ S H): ∀(f:Nat) (u:U) (d:PyData),toD S f u=some d -> ∀v,RU H μ u v->pe K H v d
 | 0,u,d,h,v,r=>by cases u <;> cases h
 | f+1,.non,d,h,v,r=>by cases h;rw[show v = .non by simpa only [RU]using r];exact .non
 | f+1,.bl b,d,h,v,r=>by cases h;rw[jY r];exact .bl b
 | f+1,.int i,d,h,v,r=>by cases h;rw[dA r];exact .int i
 | f+1,.str x,d,h,v,r=>by
   unfold toD at h
   split at h
   ·cases h;rw[show v = .str x by simpa only [RU]using r];exact .str x
   ·cases h
 | f+1,.tup us,d,h,v,r=>by
   unfold toD at h
   cases e:dq (toD S f) us with
   | none=>rw[e]at h;cases h
   | some ds=>
     rw[e]at h;cases h
     obtain⟨a,vs,rfl,ha,rs⟩:=fE r
     exact .tup (.inl (.inl ha)) (qb hr (qq hr f) e rs)
 | f+1,.ref n,d,h,v,r=>by
   unfold toD at h
   cases e0:getL S n with
   | none=>rw[e0]at h;cases h
   | some us=>
     rw[e0]at h
     simp only[ag]at h
     cases e:dq (toD S f) us with
     | none=>rw[e]at h;cases h
     | some ds=>
       rw[e]at h;cases h
       obtain⟨a,rfl,ha⟩:=eD r
       obtain⟨a',vs,ha',hs,rs⟩:=hr.sq e0
       rw[ha]at ha';cases ha'
       exact .lst hs (qb hr (qq hr f) e rs)
 | f+1,.obj a,d,h,v,r=>by cases h
end
theorem qj(S:Sto): ∀(f:Nat) (u:U) (d:PyData),toD S f u=some d->d.canLay0=true/\d.depth<=f
 | 0,u,d,h=>by cases u <;> cases h
 | f+1,.non,d,h=>by cases h;exact⟨by simp[iD],by simp[jE]⟩
 | f+1,.bl b,d,h=>by cases h;exact⟨by simp[iD],by simp[jE]⟩
 | f+1,.int i,d,h=>by cases h;exact⟨by simp[iD],by simp[jE]⟩
 | f+1,.str x,d,h=>by
   unfold toD at h
   split at h
   ·rename_i q;cases h;exact⟨q,by simp[jE]⟩
   ·cases h
 | f+1,.tup us,d,h=>by
   unfold toD at h
   cases e:dq (toD S f) us with
   | none=>rw[e]at h;cases h
   | some ds=>
     rw[e]at h;cases h
     obtain⟨a,b⟩:=qi (oj (λx y q=>qj S f x y q) e)
     exact⟨by simpa [iD]using a,by simp only[jE];exact Nat.lt_succ_of_le (by assumption)⟩
 | f+1,.ref n,d,h=>by
   unfold toD at h
   cases e0:getL S n with
   | none=>rw[e0]at h;cases h
   | some us=>
     rw[e0]at h
     simp only[ag]at h
     cases e:dq (toD S f) us with
     | none=>rw[e]at h;cases h
     | some ds=>
       rw[e]at h;cases h
       obtain⟨a,b⟩:=qi (oj (λx y q=>qj S f x y q) e)
       exact⟨by simpa [iD]using a,by simp only[jE];exact Nat.lt_succ_of_le (by assumption)⟩
 | f+1,.obj a,d,h=>by cases h
noncomputable def rF(K:aj)(H:Hp)(v:V)(d:PyData):Prop:=pe K H v d/\d.canLay0=true/\d.depth<=40
noncomputable def Nh(K:aj):R2:=λx y H Q =>∃a b,rF K H x a/\rF K H y b/\Q (.bl (jK a b)) H
noncomputable def LI(K:aj):R2:=λx y H Q =>∃a b,rF K H x a/\rF K H y b/\Q (.bl (!jK a b)) H
theorem lM{K:aj}{H:Hp}{v:V}{d:PyData}(h:rF K H v d):SeqAt.shaped d=true:=by
 unfold SeqAt.shaped
 rw[h.2.1,decide_eq_true (aM h.2.2 (by decide))];rfl
section
variable {X:Cx}
theorem JV(hu:X.A.units+64<cLine):OpR X (compareOp .Eq) (Nh X.K):=by
 intro pins s σ H x y v u Q I rx ry h
 obtain⟨a,b,ha,hb,q⟩:=h
 obtain⟨as,r1⟩:=ha.1.reads I rx
 obtain⟨bs,r2⟩:=hb.1.reads I ry
 exact SeqAt.compareEq_shaped r1 r2 (lM ha) (lM hb) hu ⟨.bl _,H,I,rfl,q⟩
theorem Jx(hu:X.A.units+64<cLine):OpR X (compareOp .NotEq) (LI X.K):=by
 intro pins s σ H x y v u Q I rx ry h
 obtain⟨a,b,ha,hb,q⟩:=h
 obtain⟨as,r1⟩:=ha.1.reads I rx
 obtain⟨bs,r2⟩:=hb.1.reads I ry
 exact SeqAt.compareNe_shaped r1 r2 (lM ha) (lM hb) hu ⟨.bl _,H,I,rfl,q⟩
end
section
variable {K:KX}{μ:List Addr}{S:Sto}{H:Hp}
theorem wH{u:U}{v:V}{d:PyData}(hr:HR K μ S H)(r:RU H μ u v)(h:toD S 40 u=some d):rF K H v d:=⟨qq hr 40 u d h v r,qj S 40 u d h⟩
theorem zz{x y:U}{b:Bool}(h:eqU S x y=some b): ∃a c,toD S 40 x=some a/\toD S 40 y=some c/\b=jK a c:=by
 unfold eqU at h
 cases e1:toD S 40 x with
 | none=>rw[e1]at h;cases h
 | some a=>
   rw[e1]at h
   simp only[ag]at h
   cases e2:toD S 40 y with
   | none=>rw[e2]at h;cases h
   | some c=>rw[e2]at h;cases h;exact⟨a,c,rfl,rfl,rfl⟩
theorem Mc:OpU K (Nh K) oEq:=by
 intro μ S H x y vx vy u S' Q hr rx ry e a
 unfold oEq at e
 cases q:eqU S x y with
 | none=>rw[q]at e;cases e
 | some b=>
   rw[q]at e;cases e
   obtain⟨d1,d2,e1,e2,rfl⟩:=zz q
   exact⟨d1,d2,wH hr rx e1,wH hr ry e2,a.now hr ky⟩
theorem Oe:OpU K (LI K) oNe:=by
 intro μ S H x y vx vy u S' Q hr rx ry e a
 unfold oNe at e
 cases q:eqU S x y with
 | none=>rw[q]at e;cases e
 | some b=>
   rw[q]at e;cases e
   obtain⟨d1,d2,e1,e2,rfl⟩:=zz q
   exact⟨d1,d2,wH hr rx e1,wH hr ry e2,a.now hr ky⟩
end
end _G
end
section
namespace _G
open PySem PySem.Spec _L
open PyProof.Rows hiding St
section
noncomputable def My(K:aj):V->Option Int->Option Int->Hp->VK->Prop:=λx lo hi H Q =>∃a xs,x = .ref a/\SqT K H a xs /\
 (HT.sIx xs.length 0 lo=0/\HT.sIx xs.length xs.length hi=xs.length)/\Q (.ref a) H
theorem Eb{X:Cx}:SlR X (My X.K):=by
 intro pins s σ H x v vl vu lo hi sl Q I rx hs pl pu h
 obtain⟨a,xs,rfl,hx,hw,q⟩:=h
 cases rx
 obtain⟨its,r,ht,hz⟩:=I.tuple hx
 have hlen:its.toArray.size=xs.length:=by rw[aA];exact r.length.symm
 refine⟨"tuple",_,PyProof.Rows.slot_tuple_getitem.lookup,ht.typeIs,?_⟩
 exact HT.getItem_tuple_whole ht hs pl pu (by rw[hlen];exact hw) ⟨.ref a,H,I,rfl,q⟩
noncomputable def rSl(K:aj):V->Option Int->Option Int->Hp->VK->Prop:=λx lo hi H Q=>LL K x lo hi H Q\/(My K x lo hi H Q\/NP K x lo hi H Q)
theorem K0{X:Cx}:SlR X (rSl X.K):=SlR.or Kf (SlR.or Eb F3)
noncomputable def tO(K:KX):Option ME->TO
 | none=>Af
 | some m=>Iu (tM K m)
theorem zo{H:Hp}{μ:List Addr}{us:List U}{vs:List V}(r:RUs H μ us vs)(lo hi:Option Int):RUs H μ (cut us lo hi) (wO vs lo hi):=by
 unfold cut wO
 rw[r.len]
 exact(r.drop _).take _
section
variable {K:KX}{σ:St}{H:Hp}{Q:VK}
theorem Ef{a:Option ME}{μ:List Addr}{S S1:Sto}{ρ:Rho}{o:Option Int}{Q:Option Int->Hp->Prop}(hr:HR K μ S H)(er:ER H μ ρ σ)(e:zW a ρ S=some (o,S1))
  (k: ∀μ1 H1,Pre μ μ1->bh H H1->HR K μ1 S1 H1->Q o H1):tO K a σ H Q:=by
 cases a with
 | none=>cases e;exact k μ H (Pre.refl _) (bh.refl _) hr
 | some m=>
   obtain⟨x,S2,e1,e⟩:=bc (show bnd (m ρ S) (λx S1=>match x with
    | .int i=>some (some i,S1)
    | _=>none)=some (o,S1) from e)
   split at e
   ·cases e
    exact⟨μ,S,ρ,_,_,hr,er,e1,λμ1 v H1 p1 k1 hr1 rx=>⟨_,dA rx,k μ1 H1 p1 k1 hr1⟩⟩
   ·cases e
theorem F4{a:ME}{lo hi:Option ME}(h:tM K (mSl a lo hi) σ H Q):tSl (rSl K) (tM K a) (tO K lo) (tO K hi) σ H Q:=by
 obtain⟨μ,S,ρ,u,S',hr,er,e,k⟩:=h
 obtain⟨x,S1,e1,e⟩:=bc e
 obtain⟨l,S2,e2,e⟩:=bc e
 obtain⟨r,S3,e3,e⟩:=bc e
 refine⟨μ,S,ρ,x,S1,hr,er,e1,λμ1 vx H1 p1 k1 hr1 rx =>?_⟩
 refine Ef hr1 (er.mono k1 p1) e2 λμ2 H2 p2 k2 hr2 =>?_
 refine Ef hr2 (er.mono (k1.trans k2) (p1.trans p2)) e3 λμ3 H3 p3 k3 hr3 =>?_
 have k':=k.mono (p1.trans (p2.trans p3)) (k1.trans (k2.trans k3))
 have rx3:=RU.mono (k2.trans k3) (p2.trans p3) _ _ rx
 cases x with
 | tup us=>
   cases e
   obtain⟨p,vs,rfl,hp,rs⟩:=fE rx3
   by_cases hw:HT.sIx vs.length 0 l=0/\HT.sIx vs.length vs.length r=vs.length
   ·refine .inr (.inl ⟨p,vs,rfl,.inl (.inl hp),hw,k'.now hr3 ?_⟩)
    have e4:cut us l r=us:=by
     unfold cut
     rw[rs.len,hw.1,hw.2]
     simp[<- rs.len]
    rw[e4]
    exact g9 hp rs
   ·refine .inl ⟨p,vs,rfl,.inl (.inl hp),hw,λt ht =>?_⟩
    refine k' μ3 _ _ (Pre.refl _) (bh.new ht) (hr3.tup ht) (g9 cw (RUs.mono (bh.new ht) (Pre.refl _) _ _ (zo rs l r)))
 | ref n=>
   simp only at e
   cases q:getL S3 n with
   | none=>rw[q]at e;cases e
   | some us=>
     rw[q]at e;cases e
     obtain⟨p,rfl,hp⟩:=eD rx3
     obtain⟨p',vs,hp',hs,rs⟩:=hr3.sq q
     rw[hp]at hp';cases hp'
     exact .inr (.inr ⟨p,vs,rfl,hs,λt ht=>gZ k' hr3 (zo rs l r) ht⟩)
 | _=>cases e
end
section
variable {M:Mo}{X:Cx}{k:Nat}{N:List Str}{ns:List (Str×NameKind)}{a b c e:Expr}{es:List Expr}{ma mb mc:ME}{mt:MT}{mas:MA}{pos p1 p2:Pos}{x:Str}
inductive lE(M:Mo)(X:Cx):Option Expr->Option ME->Prop where
 | none:lE M X .none .none
 | some {e:Expr}{m:ME}:PE X e (tM M.K m)->lE M X (.some e) (.some m)
theorem lE.po{lo:Option Expr}{m:Option ME}(h:lE M X lo m):PO X lo (tO M.K m):=by
 cases h with
 | none=>exact FX
 | some h=>exact HE h
theorem FZ{lo hi:Option Expr}{ml mh:Option ME}(S:Sc M X k N ns)(ha:PE X a (tM M.K ma))(hl:lE M X lo ml)(hh:lE M X hi mh):PE X (.Subscript a (.Slice lo hi none p2) pos) (tM M.K (mSl ma ml mh)):=
 PE.con (Cw (S.hK▸K0) ha hl.po hh.po) λ_ _ _ h=>F4 h
end
noncomputable def JC(a b:ME):ME:=λρ S=>bnd (a ρ S) λx S1=>match x with
 | .bl true=>b ρ S1
 | .bl false=>some (.bl false,S1)
 | _=>none
noncomputable def mOr(a b:ME):ME:=λρ S=>bnd (a ρ S) λx S1=>match x with
 | .bl true=>some (.bl true,S1)
 | .bl false=>b ρ S1
 | _=>none
noncomputable def GO:U->Sto->Res U:=λx S=>match x with
 | .bl b=>some (.bl (!b),S)
 | _=>none
section
variable {K:KX}{σ:St}{H:Hp}{Q:VK}
theorem JX{a b:ME}(h:tM K (JC a b) σ H Q):IF (tM K a) (tM K b) σ H Q:=by
 obtain⟨μ,S,ρ,u,S',hr,er,e,k⟩:=h
 obtain⟨x,S1,e1,e⟩:=bc e
 refine⟨μ,S,ρ,x,S1,hr,er,e1,λμ1 vx H1 p1 k1 hr1 rx =>?_⟩
 split at e
 ·exact⟨true,jY rx,nY ⟨μ1,S1,ρ,u,S',hr1,er.mono k1 p1,e,k.mono p1 k1⟩⟩
 ·cases e
  exact⟨false,jY rx,nA (k μ1 _ H1 p1 k1 hr1 ky)⟩
 ·cases e
theorem Mx{a b:ME}(h:tM K (mOr a b) σ H Q):Lo (tM K a) (tM K b) σ H Q:=by
 obtain⟨μ,S,ρ,u,S',hr,er,e,k⟩:=h
 obtain⟨x,S1,e1,e⟩:=bc e
 refine⟨μ,S,ρ,x,S1,hr,er,e1,λμ1 vx H1 p1 k1 hr1 rx =>?_⟩
 split at e
 ·cases e
  exact⟨true,jY rx,nY (k μ1 _ H1 p1 k1 hr1 ky)⟩
 ·exact⟨false,jY rx,nA ⟨μ1,S1,ρ,u,S',hr1,er.mono k1 p1,e,k.mono p1 k1⟩⟩
 ·cases e
theorem KO{a:ME}(h:tM K (m1 GO a) σ H Q):HS (tM K a) σ H Q:=by
 obtain⟨μ,S,ρ,u,S',hr,er,e,k⟩:=h
 obtain⟨x,S1,e1,e⟩:=bc e
 refine⟨μ,S,ρ,x,S1,hr,er,e1,λμ1 vx H1 p1 k1 hr1 rx =>?_⟩
 unfold GO at e
 split at e
 ·cases e
  exact⟨_,jY rx,k μ1 _ H1 p1 k1 hr1 ky⟩
 ·cases e
end
section
variable {X:Cx}{a b:Expr}{ta:TA}{p pos:Pos}
noncomputable def IB(ta:TA):TE:=λσ H Q=>ta σ H λvs H1 =>∃j:Int,vs = [.int j] /\ -(2 ^ 62)<=j/\j<2 ^ 62 /\ ∀r,H1 r=none->Q (.ref r) (upd H1 r (.rng 0 j))
noncomputable def Iw(ta:TA):TE:=λσ H Q=>ta σ H λvs H1 =>∃i j:Int,vs = [.int i,.int j]/\(-(2 ^ 62)<=i/\i<2 ^ 62 /\ -(2 ^ 62)<=j/\j<2 ^ 62) /\ ∀r,H1 r=none->Q (.ref r) (upd H1 r (.rng i j))
theorem wb{pins:List (Addr×Obj)}{σ:St}{H:Hp}{s:Shared}{Q:VK}{lo hi:Int}{t u v:Tok}{tk:Nat}(I:Inv X pins σ H s)(q: ∀r,H r=none->Q (.ref r) (upd H r (.rng lo hi))):
  EP X pins σ Q (.ref s.heap.objs.size) { s with heap:=s.heap.push { cls := .type "range",data := .fields #[.int lo t,.int hi u,.int 1 v] },toks:=tk }:=by
 refine⟨.ref s.heap.objs.size,_,I.laid (t':=tk) (o:= .rng lo hi) (λb ob q=>af _ q) (ah _) ?_,rfl,q _ (I.hok.fresh (ah _))⟩
 exact⟨t,u,v,aw _ rfl⟩
theorem Hk (hg:Gl X "range") (hm:X.mg "range"=none) (ha:PA X [a] ta) (hs:autoParam (starEach [a] X.env = [(false,eval a X.env)]) au1._auto_1):PE X (.Call (.Name "range" p) [a] [] pos) (IB ta):=by
 intro pins s σ H Q I h
 refine Call_ (kn I hg hm boot_range (cK (thn (ha pos pins s σ H _ I h) λus s1 ⟨vs,H1,I1,r1,q1⟩ =>?_) (by rw[hs];rfl) rfl))
 obtain⟨j,e,q1,q2,q⟩:=q1
 subst e
 cases r1 with
 | cons r rr=>
   cases rr
   obtain⟨t,rfl⟩:=r
   exact call_range_1 (wb I1 q)
theorem Gj (hg:Gl X "range") (hm:X.mg "range"=none) (ha:PA X [a,b] ta) (hs:autoParam (starEach [a,b] X.env = [(false,eval a X.env),(false,eval b X.env)]) au1._auto_1) (hs2:autoParam (starEach [b] X.env = [(false,eval b X.env)]) au1._auto_1) :
  PE X (.Call (.Name "range" p) [a,b] [] pos) (Iw ta):=by
 intro pins s σ H Q I h
 refine Call_ (kn I hg hm boot_range (cK (thn (ha pos pins s σ H _ I h) λus s1 ⟨vs,H1,I1,r1,q1⟩ =>?_) (by rw[hs,hs2]) (by rw[hs2];rfl)))
 obtain⟨i,j,e,⟨q1,q2,q3,q4⟩,q⟩:=q1
 subst e
 cases r1 with
 | cons r rr=>
   cases rr with
   | cons r' rr=>
     cases rr
     obtain⟨t,rfl⟩:=r
     obtain⟨t',rfl⟩:=r'
     exact call_range_2 (wb I1 q)
theorem uT: ∀{xs:List V}{us:List Value},xs.length=us.length->(∀(i:Nat) (x:V) (u:Value),xs[i]? = some x->us[i]? = some u->RelV x u)->bW xs us
 | [],[],_,_ => .nil
 | [],_::_,h,_=>by simp at h
 | _::_,[],h,_=>by simp at h
 | x::xs,u::us,h,k => .cons (k 0 x u rfl rfl) (uT (by simpa using h) λi y w h1 h2=>k (i+1) y w (by simpa using h1) (by simpa using h2))
noncomputable def kB(i:Int)(n:Nat):List V:=(aB n).map λ(k:Nat) => .int (i+k)
theorem tF (hc:X.calm=true):gS X (.type "list") (fun xs H Q => ∃ r lo hi,xs = [.ref r]/\H r=some (.rng lo hi)/\(-(2 ^ 62)<=lo/\lo < 2 ^ 62 /\ -(2 ^ 62)<=hi/\hi < 2 ^ 62)/\(hi - lo).toNat<=sizeLine /\ ∀ l,H l=none->Q (.ref l) (upd H l (.lst (kB lo (hi - lo).toNat)))):=by
 intro pins s σ H xs us Q I rs h
 obtain⟨r,lo,hi,rfl,hr,⟨h1,h2,h3,h4⟩,hz,q⟩:=h
 cases rs with
 | cons r1 rr=>
   cases rr
   cases (show _=bj r from r1)
   obtain⟨t,u,v,e⟩:=I.hok r _ hr
   have hn:dP lo hi 1=((hi - lo).toNat:Nat):=by rw[rangeSize_one];split <;> omega
   refine call_list_range (n:=(hi - lo).toNat) (I.ok.hd hc) e (small_one h1 h2 h3 h4) hn (by rw[sizeLine_eq]at hz;exact hz) λh' tk acc c' hk hl hacc =>?_
   obtain⟨hsz,hit⟩:=hacc
   refine⟨.ref s.heap.objs.size,_,I.laid (t':=tk) (o:= .lst (kB lo (hi - lo).toNat)) hk (ah _) ?_,rfl,q _ (I.hok.fresh (ah _))⟩
   refine⟨by rw[kB,aq,bp];exact hz,acc.toList,c',?_,by simpa using hl⟩
   refine uT (by rw[kB,aq,bp,ej,hsz]) λi x w h5 h6 =>?_
   have hlt:i<(hi - lo).toNat:=by
    have:=(ai.mp h5).1
    rwa[kB,aq,bp]at this
   have hx:(kB lo (hi - lo).toNat)[i]? = some (.int (lo+i)):=by simp[kB,hlt]
   rw[hx]at h5;cases h5
   obtain⟨t',e'⟩:=hit i w (by simpa using h6)
   exact⟨t',by rw[e'];simp⟩
end
end
end _G
end
section
namespace _G
open PySem PySem.Spec _L
open PyProof.Rows hiding St
section
theorem zX{H:Hp}{μ:List Addr}(i:Int)(n:Nat):RUs H μ (bK i n) (kB i n):=by
 unfold bK kB
 induction n with
 | zero=>simpa using RUs.nil
 | succ n ih=>rw[h9,dB,dB];exact ih.append (.cons eV .nil)
section
variable {K:KX}{σ:St}{H:Hp}{Q:VK}
noncomputable def rLR:List V->Hp->VK->Prop:=λxs H Q =>∃r lo hi,xs = [.ref r]/\H r=some (.rng lo hi)/\(-(2 ^ 62)<=lo/\lo<2 ^ 62 /\ -(2 ^ 62)<=hi/\hi<2 ^ 62)/\(hi - lo).toNat<=sizeLine /\ ∀l,H l=none->Q (.ref l) (upd H l (.lst (kB lo (hi - lo).toNat)))
theorem HR.rng{μ:List Addr}{S:Sto}{p:Addr}{i j:Int}(h:HR K μ S H)(hp:H p=none):HR K μ S (upd H p (.rng i j)):=by
 have kp:bh H (upd H p (.rng i j)):=bh.new hp
 refine⟨h.len,h.inj,λm c b q1 q2=>(h.cell m c b q1 q2).mono kp (Pre.refl _) (λhc =>?_) λo u hf =>?_,h.ext.upd kp (Pre.refl _) λo1 q=>by rw[hp]at q;cases q⟩
 ·obtain⟨o,e,_⟩:=(h.cell m _ b q1 q2).has hc
  exact bw (bx e hp)
 ·rw[bw (bx hf hp)];exact hf
theorem Gp{μ:List Addr}{S1:Sto}{i j:Int}{r:Addr}(hr1:HR K μ S1 H)(ho:okR i/\okR j)(hz:(bK i (j - i).toNat).length<=big)(k:Aft K μ H (.ref S1.length) (S1++[.lst (bK i (j - i).toNat)]) Q)(hrn:H r=none):rLR [.ref r] (upd H r (.rng i j)) Q:=by
 refine⟨r,i,j,rfl,cw,⟨ho.1.1,ho.1.2,ho.2.1,ho.2.2⟩,?_,λl hl =>?_⟩
 ·unfold bK big at hz;rw[aq,bp]at hz;rw[sizeLine_eq];exact hz
 ·exact gZ (k.mono (Pre.refl _) (bh.new hrn)) (hr1.rng hrn) (zX _ _) hl
theorem Ca{a:MA}(h:tM K (kh (iR2 a)) σ H Q):tCB rLR (uz (Iw (tMA K a)) AF) σ H Q:=by
 obtain⟨μ,S,ρ,u,S',hr,er,e,k⟩:=h
 obtain⟨src,S1,e1,e⟩:=bc e
 obtain⟨xs,S2,e2,e1⟩:=bc e1
 refine⟨μ,S,ρ,xs,S2,hr,er,e2,λμ1 vs H1 p1 k1 hr1 rs =>?_⟩
 split at e1
 ·rename_i i j
  split at e1
  ·rename_i hj
   cases e1
   simp only at e
   split at e
   ·rename_i hz
    cases e
    obtain⟨v,r,rfl,rx,rs⟩:=rs.inv
    obtain⟨w,r,rfl,ry,rn⟩:=rs.inv
    rw[rn.nil_inv,dA rx,dA ry]
    exact⟨i,j,rfl,⟨hj.1.1,hj.1.2,hj.2.1,hj.2.2⟩,λr hrn=>Gp hr1 hj hz (k.mono p1 k1) hrn⟩
   ·cases e
  ·cases e1
 ·cases e1
end
noncomputable def nI:List String := ["NoneType","bool","int","str","list","tuple","dict"]
noncomputable def j7:List String := ["bool","int","str","list","tuple","dict"]
theorem Km(K:aj){t T:String}(ht:t∈nI)(hT:T∈j7):PySem.W.kitOne K (.type t) (.type T)=some (Ft t T):=by
 simp only[nI,j7,aG,dC,or_false]at ht hT
 rcases ht with rfl |rfl |rfl |rfl |rfl |rfl |rfl <;> rcases hT with rfl |rfl |rfl |rfl |rfl |rfl <;> first |rfl |kernel_rfl
theorem CT {X:Cx}:gS X (.builtin "isinstance") (fun xs H Q => ∃ x t T,xs = [x,.ty T]/\mP X.K H x (.type t)/\t∈nI/\T∈j7/\Q (.bl (Ft t T)) H):=by
 intro pins s σ H xs us Q I rs h
 obtain⟨x,t,T,rfl,ty,ht,hT,q⟩:=h
 cases rs with
 | cons r1 rr=>
   cases rr with
   | cons r2 rr=>
     cases rr
     cases (show _=hX T from r2)
     exact BJ I r1 ty (Km X.K ht hT) λtk=>⟨.bl _,H,I.tok _,rfl,q⟩
theorem Ly{K:KX}{μ:List Addr}{S:Sto}{H:Hp}{x:U}{v:V}{t:String}(hr:HR K μ S H)(r:RU H μ x v)(e:tyU S x=some t):mP K H v (.type t)/\t∈nI:=by
 unfold tyU at e
 split at e
 ·cases e;rw[show v = .non by simpa only [RU]using r];exact⟨.non,by decide⟩
 ·cases e;rw[jY r];exact⟨.bl _,by decide⟩
 ·cases e;rw[dA r];exact⟨.int _,by decide⟩
 ·cases e;rw[show v = .str _ by simpa only [RU]using r];exact⟨.str _,by decide⟩
 ·cases e;obtain⟨a,vs,rfl,ha,_⟩:=fE r;exact⟨.tup ha,by decide⟩
 ·split at e
  ·rename_i q
   cases e
   obtain⟨a,rfl,ha⟩:=eD r
   obtain⟨vs,e1,_⟩:=hr.cell _ _ a q ha
   exact⟨.lst e1,by decide⟩
  ·rename_i q
   cases e
   obtain⟨a,rfl,ha⟩:=eD r
   obtain⟨vs,e1,_⟩:=hr.cell _ _ a q ha
   exact⟨.dK e1,by decide⟩
  ·cases e
 ·cases e
theorem Nf{K:KX}{σ:St}{H:Hp}{Q:VK}{a:ME}{T:String}(hT:T∈j7)(h:tM K (m1 (mX T) a) σ H Q):
  tCB (λxs H Q =>∃x t T,xs = [x,.ty T]/\mP K H x (.type t)/\t∈nI/\T∈j7/\Q (.bl (Ft t T)) H) (uz (tM K a) (uz (tC (.ty T)) AF)) σ H Q:=by
 obtain⟨μ,S,ρ,u,S',hr,er,e,k⟩:=h
 obtain⟨x,S1,e1,e⟩:=bc e
 refine⟨μ,S,ρ,x,S1,hr,er,e1,λμ1 vx H1 p1 k1 hr1 rx =>?_⟩
 unfold mX at e
 cases q:tyU S1 x with
 | none=>rw[q]at e;cases e
 | some t=>
   rw[q]at e;cases e
   obtain⟨ty,ht⟩:=Ly hr1 rx q
   exact⟨vx,t,T,rfl,ty,ht,hT,k μ1 _ H1 p1 k1 hr1 ky⟩
noncomputable def ES(S:Sto)(x:U)(us:List U):Option Nat:=(dq (toD S 39) us).bind λds=>(toD S 40 x).bind λd=>ds.findIdx? λy=>jK y d
noncomputable def iz:List U->List U->Sto->Res U:=λus xs S=>match xs with
 | [x]=>(ES S x us).map λk=>(.int k,S)
 | _=>none
noncomputable def JT(K:aj)(to:TE)(t:TA):TE:=λσ H Q=>to σ H λx H1=>(∃p ys,x = .ref p/\H1 p=some (.tup ys))/\t σ H1 λxs H2 =>∃p ys v ds d j,x = .ref p/\xs = [v]/\H2 p=some (.tup ys) /\
 kz K H2 ys ds/\kq ds=true/\jt ds<=40/\rF K H2 v d/\ds.findIdx? (λy=>jK y d)=some j/\Q (.int j) H2
theorem Co{X:Cx}{o e:Expr}{es:List Expr}{to:TE}{t:TA}{apos cpos:Pos}(hu:X.A.units+64<cLine)(ho:PE X o to)(ha:PA X (e::es) t)
  (hbase:autoParam (attributeBase o "index" X.env (eval o X.env)=eval o X.env) au1._auto_1)
  (hfew:autoParam (((backTo cpos (starEach (e::es) X.env)).all (λx => !x.1)&&(backToKw cpos (keywordEach [] X.env)).all (λx=>x.1.isSome)
   && decide ((e::es).length+([]:List Keyword).length+(if ([]:List Keyword).isEmpty then 0 else 1)<30))=true) au1._auto_1)
  (hline:autoParam ((apos.endLine==cpos.line)=true) au1._auto_1) (hs:autoParam (starEach (e::es) X.env=(false,eval e X.env)::starEach es X.env) au1._auto_1) (hplain:autoParam ((backTo cpos (starEach es X.env)).any (·.1)=false) au1._auto_1):
  PE X (.Call (.Attribute o "index" apos) (e::es) [] cpos) (JT X.K to t):=by
 intro pins s σ H Q I h
 refine wpAny_Call_method_late hbase hfew hline rfl (thn (ho pins s σ H _ I h) λv s1 ⟨x,H1,I1,r1,⟨p,ys,hx,hp⟩,q1⟩ =>?_)
 subst hx
 cases (show v=bj p from r1)
 obtain⟨_,its,rv,⟨o1,e1,c1,n1,d1⟩,o2,e2,c2⟩:=I1.hok p _ hp
 refine⟨"tuple",_,PySem.F.plainAttrs_tuple,x9,PySem.F.type_tuple_index,⟨o1,e1,c1⟩,fun a ea=>by cases ea;exact⟨o2,e2,c2⟩,?_⟩
 have hA:=ha cpos pins s1 σ H1 _ I1 q1
 rw[hs]at hA ⊢
 refine mq (by show(false||(backTo cpos (starEach es X.env)).any (·.1))=false;rw[hplain] <;> rfl) (oy ?_)
 refine thn hA λus s2 ⟨vs,H2,I2,r2,q2⟩ =>?_
 obtain⟨p',ys',v',ds,d,j,hx,hxs,hp',rd,hl,hdp,hd,hj,q⟩:=q2
 cases hx
 subst hxs
 cases r2 with
 | cons ra rr=>
   cases rr
   obtain⟨_,its2,rv2,⟨⟨cls,dd,data,sl⟩,e3,c3,n3,d3⟩,_⟩:=I2.hok p _ hp'
   simp only at c3 d3
   subst c3 d3
   obtain⟨as,rds⟩:=rd.reads I2 rv2
   obtain⟨bs,rdv⟩:=hd.1.reads I2 ra
   have hlen:its2.length=ds.length:=SeqAt.ReadsAll.length _ _ _ rds
   have hjl:j<ds.length:=by
    obtain⟨h1,_⟩:=eG.mp hj
    exact h1
   have hmap:=SeqAt.readsAll_map ds _ _ hl rds
   have hget: ∀(m:Nat) (h1:m<its2.length) (h2:m<ds.length),SeqAt.readOf s2.heap its2[m]=ds[m]:=λm h1 h2=>by
    have:=congrArg (λl=>l[m]?) hmap
    simp[h1,h2]at this
    exact this
   have heq:=SeqAt.items_eqAt (A:=X.A) (vs:=its2.toArray) (by simpa using rds) rdv hl hd.2.1 (by have:=Nat.min_le_left (jt ds) d.depth;omega)
   obtain⟨h1,h2,h3⟩:=eG.mp hj
   refine call_meets x9 ⟨_,e3,rfl⟩ PySem.F.entry_tuple_index (PySem.F.args_tuple_index_2 _ _)
    (tE p its2.toArray n3 dd sl _ (λy=>jK (SeqAt.readOf s2.heap y) d) j (by rw[aA];omega) ?_ ?_) ⟨e3,heq,?_⟩
   ·have:=hget j (by omega) hjl
    simp only[Fd,this];exact h2
   ·intro m hm hmj
    rw[aA]at hm
    have:=hget m hm (by exact dI (by assumption) (by assumption))
    simp only[Fd,this]
    simpa using h3 m hmj
   ·exact⟨.int j,H2,I2.tok _,⟨_,rfl⟩,q⟩
theorem Hc{K:KX}{σ:St}{H:Hp}{Q:VK}{o:ME}{a:MA}(h:tM K (mMT iz o a) σ H Q):JT K (tM K o) (tMA K a) σ H Q:=by
 obtain⟨μ,S,ρ,u,S',hr,er,e,k⟩:=h
 obtain⟨x,S1,e1,e⟩:=bc e
 refine⟨μ,S,ρ,x,S1,hr,er,e1,λμ1 vx H1 p1 k1 hr1 rx =>?_⟩
 cases x with
 | tup us=>
   obtain⟨xs,S2,e2,e⟩:=bc e
   obtain⟨p,vs,rfl,hp,rs⟩:=fE rx
   refine⟨⟨p,vs,rfl,hp⟩,μ1,S1,ρ,xs,S2,hr1,er.mono k1 p1,e2,λμ2 ws H2 p2 k2 hr2 rws =>?_⟩
   unfold iz at e
   split at e
   ·rename_i x
    obtain⟨v,r,rfl,rx',rn⟩:=rws.inv
    rw[rn.nil_inv]
    cases q:ES S2 x us with
    | none=>rw[q]at e;cases e
    | some j=>
      rw[q]at e;cases e
      unfold ES at q
      cases q1:dq (toD S' 39) us with
      | none=>rw[q1]at q;cases q
      | some ds=>
        rw[q1]at q
        simp only[ag]at q
        cases q2:toD S' 40 x with
        | none=>rw[q2]at q;cases q
        | some d=>
          rw[q2]at q
          simp only[ag]at q
          obtain⟨l1,l2⟩:=qi (oj (λx y z=>qj S' 39 x y z) q1)
          exact⟨p,vs,v,ds,d,j,rfl,rfl,k2 p vs hp,qb hr2 (qq hr2 39) q1 (RUs.mono k2 p2 _ _ rs),l1,by exact aM (by assumption) (by decide),wH hr2 rx' q2,q,k μ2 _ H2 (p1.trans p2) (k1.trans k2) hr2 eV⟩
   ·cases e
 | _=>cases e
end
end _G
end
section
namespace _G
open PySem PySem.Spec _L
open PyProof.Rows hiding St
section
theorem F6{h h':Heap}{o:Obj}(hk: ∀b x,b ∉ [h.objs.size]->(h.push o).get? b=some x->h'.get? b=some x): ∀b x,h.get? b=some x->h'.get? b=some x:=
 λb x e=>hk b x (λhm=>by rw[cJ.mp hm]at e;exact bF _ (ax e)) (af _ e)
theorem y0(bs:List Bool):((aB bs.length).all λi=>(bs[i]?).getD true)=bs.all id:=by
 rw[Bool.eq_iff_iff,cR,cR]
 constructor
 ·intro h b hb
  obtain⟨i,hi,rfl⟩:=List.getElem_of_mem hb
  have:=h i (aN.mpr hi)
  simpa [aD hi]using this
 ·intro h i hi
  have hi':=aN.mp hi
  simp only[aD hi',sD]
  exact h _ (bT hi')
theorem Bi{bs:List Bool}: ∀{us:List Value}{i:Nat}{v:Value},bW (bs.map V.bl) us->us[i]? = some v -> ∃b,bs[i]? = some b/\v = .bool b:=λ{us i v} r h=>by
 have hl:=r.length
 rw[aq]at hl
 have hi:i<bs.length:=by rw[hl];exact(ai.mp h).1
 obtain⟨u,hu,ru⟩:=r.get (i:=i) (x:= .bl bs[i]) (by simp[hi])
 rw[h]at hu;cases hu
 exact⟨bs[i],by simp[hi],ru⟩
section
variable {X:Cx}
theorem AH (hc:X.calm=true):gS X (.builtin "all") (fun xs H Q => ∃ (p:Addr) (bs:List Bool),xs = [.ref p]/\SqL X.K H p (bs.map V.bl)/\Q (.bl (bs.all id)) H):=by
 intro pins s σ H xs us Q I rs h
 obtain⟨p,bs,rfl,hS,q⟩:=h
 cases rs with
 | cons r1 rr=>
   cases rr
   cases (show _=bj p from r1)
   obtain⟨its,rv,pl,_⟩:=I.list hS
   have hl:=pl.isList
   have hlt:p<s.heap.objs.size:=by obtain⟨_,e,_⟩:=hl;exact ax e
   refine call_all_walk (xW hl ?_)
   refine⟨s.heap.objs.size,[s.heap.objs.size,p],[s.heap.objs.size],its.toArray.size,_,_,λi=>(bs[i]?).getD true,rfl,Walks.list (A:=X.A.in1) (I.ok.hd hc) _ p (aQ hlt) its.toArray,
    ⟨⟨_,aw _ rfl,rfl,rfl⟩,hl.push _⟩,λi v s' Q' E' hP hQ =>?_,λh' tk hk =>?_⟩
   ·obtain⟨b,e,rfl⟩:=Bi rv (by simpa using hP)
    simp only[e,sD]at hQ
    exact gG hQ
   ·have e:((aB its.toArray.size).all λi=>(bs[i]?).getD true)=bs.all id:=by
     rw[aA,<- rv.length,aq];exact y0 bs
    rw[e]
    exact⟨.bl _,H,I.kept (F6 hk),rfl,q⟩
end
noncomputable def lx:U->Option Bool
 | .bl b=>some b
 | _=>none
noncomputable def uX:MF:=λus S=>match us with
 | [.ref n]=>(getL S n).bind λxs=>(dq lx xs).map λbs=>(.bl (bs.all id),S)
 | _=>none
theorem xA{H:Hp}{μ:List Addr}: ∀{us:List U}{vs:List V}{bs:List Bool},RUs H μ us vs->dq lx us=some bs->vs=bs.map V.bl
 | [],vs,bs,r,e=>by cases e;rw[r.nil_inv];rfl
 | u::us,vs,bs,r,e=>by
   obtain⟨v,r',rfl,a,b⟩:=r.inv
   unfold dq at e
   cases u with
   | bl x=>
     simp only[lx,ag]at e
     cases q:dq lx us with
     | none=>rw[q]at e;cases e
     | some cs=>
       rw[q]at e;cases e
       rw[jY a,xA b q];rfl
   | _=>cases e
section
variable {K:KX}
theorem Jn:pN K (λxs H Q =>∃(p:Addr) (bs:List Bool),xs = [.ref p]/\SqL K H p (bs.map V.bl)/\Q (.bl (bs.all id)) H) uX:=by
 intro μ S H us vs u S' Q hr rs e a
 unfold uX at e
 split at e
 ·rename_i n
  obtain⟨v,r,rfl,rx,rn⟩:=rs.inv
  rw[rn.nil_inv]
  cases q:getL S n with
  | none=>rw[q]at e;cases e
  | some xs=>
    rw[q]at e
    simp only[ag]at e
    cases q2:dq lx xs with
    | none=>rw[q2]at e;cases e
    | some bs=>
      rw[q2]at e;cases e
      obtain⟨p,rfl,hp⟩:=eD rx
      obtain⟨p',ys,hp',hs,r'⟩:=hr.sq q
      rw[hp]at hp';cases hp'
      rw[xA r' q2]at hs
      exact⟨p,bs,rfl,hs,a.now hr ky⟩
 ·cases e
end
end
end _G
end
section
namespace _G
open PySem PySem.Spec _L
open PyProof.Rows hiding St
section
noncomputable def ie:U->Option V
 | .non=>some .non
 | .bl b=>some (.bl b)
 | .int i=>some (.int i)
 | .str x=>some (.str x)
 | _=>none
noncomputable def gy:F2:=λx y S=>match gf S y with
 | some kvs=>(keyOf x).map λk=>(.bl (!(i7 kvs k).isSome),S)
 | none=>(ie x).bind λvx=>(eP S y).bind λys=>(dq ie ys).map λvs=>(.bl (!inV vx vs),S)
theorem zi{H:Hp}{μ:List Addr}{u:U}{v w:V}(e:ie u=some v)(r:RU H μ u w):w=v/\mB v=true:=by
 cases u <;> simp only[ie,dS,reduceCtorEq]at e <;> subst e <;> exact⟨by simpa only [RU]using r,rfl⟩
theorem wj{H:Hp}{μ:List Addr}: ∀{us:List U}{vs ws:List V},dq ie us=some vs->RUs H μ us ws->ws=vs/\vs.all mB=true
 | [],vs,ws,e,r=>by cases e;rw[r.nil_inv];exact⟨rfl,rfl⟩
 | u::us,vs,ws,e,r=>by
   obtain⟨v,r',rfl,a,b⟩:=r.inv
   unfold dq at e
   cases q1:ie u with
   | none=>rw[q1]at e;cases e
   | some x=>
     cases q2:dq ie us with
     | none=>rw[q1,q2]at e;cases e
     | some xs=>
       rw[q1,q2]at e;cases e
       obtain⟨e1,f1⟩:=zi q1 a
       obtain⟨e2,f2⟩:=wj q2 b
       exact⟨by rw[e1,e2],by rw[cf,f1,f2];rfl⟩
section
variable {K:KX}
noncomputable def LH(K:aj)(neg:Bool):R2:=λy x H Q=>rIn K neg y x H Q \/ ∃a o,x = .ref a/\uR H a y o/\Q (.bl (if neg then !o.isSome else o.isSome)) H
theorem Bn{X:Cx}(hu:X.A.units+1<cLine):OpR X (compareOp .NotIn) (LH X.K true):=by
 intro pins s σ H x y v u Q I rx ry h
 rcases h with h | ⟨a,o,rfl,g,q⟩
 ·exact vF pins s σ H x y v u Q I rx ry h
 ·obtain rfl:u=bj a:=ry
  exact HL hu I g rx λs3 I3=>⟨.bl (!o.isSome),H,I3,rfl,q⟩
theorem Dz:OpU K (LH K true) gy:=by
 intro μ S H x y vx vy u S' Q hr rx ry e a
 unfold gy at e
 split at e
 ·rename_i kvs qd
  cases qk:keyOf x with
  | none=>rw[qk]at e;cases e
  | some kk=>
    rw[qk]at e;cases e
    obtain⟨p,vs,rfl,hp,r⟩:=hr.dic ry qd
    have hl:kvs.length=vs.length:=by have:=r.len;rwa[aq]at this
    refine .inr ⟨p,_,rfl,.inl ⟨_,kk,.inl hp,qu rx qk,rfl⟩,?_⟩
    simp only[if_true]
    rw[wK hl]
    exact a.now hr ky
 refine .inl ?_
 cases q1:ie x with
 | none=>rw[q1]at e;cases e
 | some fx=>
   cases q2:eP S y with
   | none=>rw[q1,q2]at e;cases e
   | some ys=>
     cases q3:dq ie ys with
     | none=>rw[q1,q2]at e;simp only[ag,q3]at e;cases e
     | some vs=>
       rw[q1,q2]at e;simp only[ag,q3]at e;cases e
       obtain⟨rfl,f1⟩:=zi q1 rx
       obtain⟨p,zs,rfl,hs,r'⟩:=hr.seq ry q2
       obtain⟨rfl,f2⟩:=wj q3 r'
       exact⟨p,zs,rfl,hs,f1,f2,a.now hr ky⟩
noncomputable def isU(x:U):U->Option Bool
 | .non=>(match x with
   | .non=>some true
   | .bl _=>some false
   | .tup _=>some false
   | .ref _=>some false
   | .int _=>some false
   | _=>none)
 | .bl j=>(match x with
   | .bl i=>some (i==j)
   | .non=>some false
   | _=>none)
 | _=>none
noncomputable def mZ:F2:=λx y S=>(isU x y).map λb=>(.bl (!b),S)
noncomputable def rIs(neg:Bool):R2:=λx y H Q=>(∃i j,x = .bl i/\y = .bl j/\Q (.bl (if neg then i != j else i==j)) H)\/(∃i,x = .bl i/\y = .non/\Q (.bl neg) H) \/
 (∃j,x = .non/\y = .bl j/\Q (.bl neg) H)\/(x = .non/\y = .non/\Q (.bl (!neg)) H) \/
 (∃p,x = .ref p/\y = .non/\Q (.bl neg) H)\/(∃i,x = .int i/\y = .non/\Q (.bl neg) H)
theorem AZ{X:Cx}:OpR X (compareOp .IsNot) (rIs true):=by
 intro pins s σ H x y v u Q I rx ry h
 rcases h with⟨i,j,rfl,rfl,q⟩ | ⟨i,rfl,rfl,q⟩ | ⟨j,rfl,rfl,q⟩ | ⟨rfl,rfl,q⟩ | ⟨p,rfl,rfl,q⟩ | ⟨i,rfl,rfl,q⟩
 ·cases rx;cases ry
  exact isnot_bool ⟨.bl _,H,I,rfl,q⟩
 ·cases rx;cases ry
  exact isnot_bool_none ⟨.bl _,H,I,rfl,q⟩
 ·cases rx;cases ry
  exact ar ⟨.bl _,H,I,rfl,q⟩
 ·cases rx;cases ry
  exact isnot_none_none ⟨.bl _,H,I,rfl,q⟩
 ·cases rx;cases ry
  exact ar ⟨.bl _,H,I,rfl,q⟩
 ·obtain⟨t,rfl⟩:=rx;cases ry
  exact ar ⟨.bl _,H,I,rfl,q⟩
theorem yL{H:Hp}{μ:List Addr}{v:V}(h:RU H μ .non v):v = .non:=by simpa only [RU]using h
theorem Jj{neg:Bool}{μ:List Addr}{H:Hp}{x y:U}{vx vy:V}{b:Bool}{Q:VK}(rx:RU H μ x vx)(ry:RU H μ y vy)(e:isU x y=some b)(a:Q (.bl (if neg then !b else b)) H):rIs neg vx vy H Q:=by
 have hf:(if neg then !false else false)=neg:=by cases neg <;> rfl
 have ht:(if neg then !true else true) = !neg:=by cases neg <;> rfl
 cases y with
 | non=>
   have hy:=yL ry
   subst hy
   cases x with
   | non=>cases e;rw[ht]at a;exact .inr (.inr (.inr (.inl ⟨yL rx,rfl,a⟩)))
   | bl i=>cases e;rw[hf]at a;exact .inr (.inl ⟨_,jY rx,rfl,a⟩)
   | tup us=>cases e;rw[hf]at a;obtain⟨p,_,rfl,_⟩:=fE rx;exact .inr (.inr (.inr (.inr (.inl ⟨_,rfl,rfl,a⟩))))
   | ref n=>cases e;rw[hf]at a;obtain⟨p,rfl,_⟩:=eD rx;exact .inr (.inr (.inr (.inr (.inl ⟨_,rfl,rfl,a⟩))))
   | int i=>cases e;rw[hf]at a;exact .inr (.inr (.inr (.inr (.inr ⟨_,dA rx,rfl,a⟩))))
   | _=>cases e
 | bl j=>
   have hy:=jY ry
   subst hy
   cases x with
   | bl i=>cases e;exact .inl ⟨_,_,jY rx,rfl,a⟩
   | non=>cases e;rw[hf]at a;exact .inr (.inr (.inl ⟨_,yL rx,rfl,a⟩))
   | _=>cases e
 | _=>cases e
theorem Cb:OpU K (rIs true) mZ:=by
 intro μ S H x y vx vy u S' Q hr rx ry e a
 unfold mZ at e
 cases q:isU x y with
 | none=>rw[q]at e;cases e
 | some b=>rw[q]at e;cases e;exact Jj rx ry q (a.now hr ky)
noncomputable def eJ:Nat->List U->Sto->Res U:=λn xs S=>match xs with
 | [.ref m]=>match S[n]?,S[m]? with
   | some (.lst us),some (.lst ws)=>if us.length+ws.length<=big then some (.non,S.set n (.lst (us++ws))) else none
   | _,_=>none
 | _=>none
theorem Bg:MtU K zK eJ:=by
 intro μ S H n p us vs u S' Q hr hp rs e a
 unfold eJ at e
 split at e
 ·rename_i m
  split at e
  ·rename_i xs ws q q2
   split at e
   ·rename_i hc
    cases e
    obtain⟨v,r,rfl,rx,rn⟩:=rs.inv
    rw[rn.nil_inv]
    obtain⟨b,rfl,hb⟩:=eD rx
    obtain⟨ys,e0,r0⟩:=hr.cell n _ p q hp
    obtain⟨zs,e1,r1⟩:=hr.cell m _ b q2 hb
    refine⟨p,b,ys,zs,rfl,rfl,e0,e1,?_,vA a hr q hp (r0.append r1) o4⟩
    have:=r0.len;have:=r1.len;unfold big at hc;rw[sizeLine_eq];omega
   ·cases e
  ·cases e
 ·cases e
end
noncomputable def pH(ns:List Int):List Int:=ns.mergeSort λi j=>decide (i<=j)
noncomputable def rH:U->Option Int
 | .int i=>some i
 | _=>none
noncomputable def ym(n:Nat):Prop:=n<64
noncomputable instance(n:Nat):Decidable (ym n):=bV _
noncomputable def mV:_L.Key×U->Option Int
 | (.inl i,_)=>some i
 | _=>none
noncomputable def t8(S:Sto)(x:U):Option (List Int):=match gf S x with
 | some kvs=>dq mV kvs
 | none=>(eP S x).bind λxs=>dq rH xs
noncomputable def fP:MF:=λus S=>match us with
 | [x]=>(t8 S x).bind λns=>if ym ns.length then some (.ref S.length,S++[.lst ((pH ns).map U.int)]) else none
 | _=>none
theorem jj(ns:List Int):(pH ns).Perm ns:=List.mergeSort_perm _ _
theorem xI(ns:List Int):(pH ns).Pairwise (· <= ·):=by
 have h:=BQ (le:=λ(i j:Int)=>decide (i<=j)) (λa b c h1 h2=>by simp at *;omega) (λa b=>by simp;omega) ns
 exact h.imp λh=>by simpa using h
theorem pJ: ∀{as bs:List Int},as.Perm bs->as.Pairwise (· <= ·)->bs.Pairwise (· <= ·)->as=bs
 | [],bs,p,_,_=>by rw[List.nil_perm.mp p]
 | a::as,[],p,_,_=>by cases List.perm_nil.mp p
 | a::as,b::bs,p,h1,h2=>by
   rw[List.pairwise_cons]at h1 h2
   have e:a=b:=by
    have m1:a∈b::bs:=p.subset (by simp)
    have m2:b∈a::as:=p.symm.subset (by simp)
    rcases aG.mp m1 with e |m1
    ·exact e
    ·rcases aG.mp m2 with e |m2
     ·exact e.symm
     ·have:=h1.1 b m2;have:=h2.1 a m1;omega
   subst e
   rw[pJ (List.perm_cons _ |>.mp p) h1.2 h2.2]
theorem xo{ns ms:List Int}(p:ms.Perm ns)(h:ms.Pairwise (· <= ·)):ms=pH ns:=pJ (p.trans (jj ns).symm) h (xI ns)
theorem zD{H:Hp}{μ:List Addr}: ∀{us:List U}{vs:List V}{ns:List Int},RUs H μ us vs->dq rH us=some ns->vs=ns.map V.int
 | [],vs,ns,r,e=>by cases e;rw[r.nil_inv];rfl
 | u::us,vs,ns,r,e=>by
   obtain⟨v,r',rfl,a,b⟩:=r.inv
   unfold dq at e
   cases u with
   | int x=>
     simp only[rH,ag]at e
     cases q:dq rH us with
     | none=>rw[q]at e;cases e
     | some cs=>
       rw[q]at e;cases e
       rw[dA a,zD b q];rfl
   | _=>cases e
theorem intsAre_of: ∀{ns:List Int}{us:List Value},bW (ns.map V.int) us->IntsAre us ns
 | [],us,r=>by cases r;exact .nil
 | n::ns,us,r=>by
   cases r with
   | cons a b=>
     obtain⟨t,rfl⟩:=a
     exact .cons n t (intsAre_of b)
theorem oR: ∀{ns:List Int}{us:List Value},IntsAre us ns->bW (ns.map V.int) us
 | _,_,.nil => .nil
 | _,_,.cons n t r => .cons ⟨t,rfl⟩ (oR r)
theorem jy: ∀{ns:List Int}{us:List Value},IntsAre us ns->us.length=ns.length
 | _,_,.nil=>rfl
 | _,_,.cons n t r=>by simp[jy r]
theorem sg {prog:Program}{w:World}{A:Around}{E:Value->Shared->Prop}{s:Shared}{Q:List Value->Shared->Prop} (it:Addr) {T:String}{o:Obj}{items:Array Value}{n:Nat} (hT:T="list"\/T="tuple")
  (ho:s.heap.get? it=some o) (hc:o.cls = .type T) (hd:o.data = .seq items n) (hsz:items.size<=sizeLine)
  (hQ: ∀h',(∀b o',s.heap.get? b=some o'->h'.get? b=some o')->s.heap.objs.size<=h'.objs.size->Q items.toList { s with heap:=h' }):
  aH (model prog w) A (collect (.ref it)) Q E s:=by
 unfold collect
 refine ab (E4 (gp pC ?_))
 rw[dY pD _]
 show aH _ A.in1 (newList [] >>= fun l=>again (.builtin "list.__iadd__" ⟨[l,.ref it],[]⟩)) _ _ s
 refine ab (bP (ar ⟨plainId_quiet gw _,gp vX ?_⟩))
 rw[dY gw _]
 have hS:(s.heap.push { cls := .type "list",data := .seq ([]:List Value).toArray }).get? s.heap.objs.size=some { cls := .type "list",data := .seq #[] 0 }:=aw _ rfl
 have hS₂:=fU (cg (· ++ items)) hS rfl
 refine dc (wpAny_extend_seq (hsz:=hsz) (A:=A) (R:=fun r s'=>r = .ok (.ret (.ref s.heap.objs.size))/\s'={ s with heap:=(s.heap.push { cls := .type "list",data := .seq ([]:List Value).toArray }).update s.heap.objs.size (cg (· ++ items)) })
  (s:={ s with heap:=s.heap.push { cls := .type "list",data := .seq ([]:List Value).toArray } }) _ it _ 0 hT hS (af _ ho) hc hd ⟨rfl,rfl⟩) (fun fin s' h => ?_) (fun e s' h=>absurd h.1 (by simp))
 have fin':aH (model prog w) A (match bj s.heap.objs.size with
   | bj a=>do
     match (<- load a).data with
      | sy xs _=>pure xs.toList
      | _=>unsupported "internal:collect"
   | _=>unsupported "internal:collect") Q E { s with heap:=(s.heap.push { cls := .type "list",data := .seq ([]:List Value).toArray }).update s.heap.objs.size (cg (· ++ items)) }:=by
  show aH _ A (load s.heap.objs.size >>= _) _ _ _
  refine ab (EW hS₂ (ar ?_))
  show Q ((#[]:Array Value)++items).toList _
  rw[show((#[]:Array Value)++items).toList=items.toList by simp]
  exact hQ _ (λb o' hb=>(dr _ _ (b0 (ax hb))).trans (af _ hb)) (by rw[Heap.size_update,size_push'];exact dD _)
 cases fin with
 | done f=>
   obtain⟨e,rfl⟩:=h
   cases e
   exact fin'
 | again c'=>exact⟨h.1,kD h.2 λr s'' hr=>by obtain⟨rfl,rfl⟩:=hr;exact fin'⟩
theorem rP {prog:Program}{w:World}{A:Around}{E:Value->Shared->Prop}{s:Shared}{l:Addr}{T:String}{o:Obj}{n:Nat}{vs:List Value}{ns:List Int}{Q:Value->Shared->Prop} (hT:T="list"\/T="tuple")
  (ho:s.heap.get? l=some o) (hc:o.cls = .type T) (hd:o.data = .seq vs.toArray n) (hI:IntsAre vs ns) (h64:vs.length<64)
  (h: ∀(out:Array Value) (ns':List Int) (a:Addr) (e:Nat) (h':Heap),IntsAre out.toList ns'->ns'.Perm ns->ns'.Pairwise (· <= ·)->s.heap.objs.size<=a->(∀b o',s.heap.get? b=some o'->h'.get? b=some o') ->
   h'.get? a=some (seqObj "list" out e)->Q (.ref a) { s with heap:=h' }) :
  aH (model prog w) A (call (.builtin "sorted") [.ref l]) Q E s:=by
 refine kr kind_sorted plain_sorted entry_sorted (args_sorted1 _) ?_
 unfold Builtin.«sorted»
 refine ab (m:=checkCount "sorted" 1 1 _) (ar ?_)
 refine ab (sg l hT ho hc hd (by rw[aA,sizeLine_eq];omega) λh1 hk hle =>?_)
 refine ab (uF ?_)
 have hoL:(h1.push (seqObj "list" vs.toArray 0)).get? h1.objs.size=some (seqObj "list" vs.toArray 0):=aw _ rfl
 show aH _ _ _ _ _ { s with heap:=h1.push (seqObj "list" vs.toArray 0) }
 refine ab (eh (cY slot_list_sort ⟨_,hoL,rfl⟩ entry_list_sort (list_sort_tree hoL hI h64 λout ns' a1 a2 a3=>⟨_,rfl,?_⟩) (args_list_sort _)))
 obtain⟨e,he⟩:=sortedHeap_at (out:=out) hoL
 exact ar ⟨_,rfl,h out ns' _ e _ a1 a2 a3 hle (λb o' hb=>by
  have hb1:=hk b o' hb
  have hlt:=ax hb1
  rw[sortedHeap_old (aQ hlt) (by rw[size_push'];exact dJ hlt),sH _ _ _ (aQ hlt)]
  exact hb1) he⟩
theorem vk{prog:Program}{w:World}{A:Around}{E:Value->Shared->Prop}{s:Shared}{Q:List Value->Shared->Prop}{d:Addr}{vs:List (Key×Value)}{ep:Nat}(hh:A.handled=none)(hS:(d==sysModules)=false)(hm:s.heap.DictAt (dQ prog w) d vs ep)(hn:vs.length<=sizeLine)
  (hQ: ∀s' acc,(∀b o,s.heap.get? b=some o->s'.heap.get? b=some o)->s'.gens=s.gens->s'.drawn=s.drawn->s'.os=s.os->ItemsOf (λi v =>∃k x,vs[i]? = some (k,x)/\(dQ prog w).is k v=true) acc vs.length->s.heap.objs.size<=s'.heap.objs.size->Q acc.toList s'):aH (model prog w) A (collect (.ref d)) Q E s:=by
 have hdl:d<s.heap.objs.size:=hm.lt_size
 let lo:Obj:={ cls := .type "list",data := .seq ([]:List Value).toArray }
 let io:Obj:={ cls := .type "dict_keyiterator",data := .fields #[.ref d,.int 0 0,.int vs.length 0,.int ep 0] }
 have hm1:(s.heap.push lo).DictAt (dQ prog w) d vs ep:=hm.push lo
 have hT1:Shared.TypeIs { s with heap:=s.heap.push lo } (.ref d) "dict":=hm1.dictOf.typeIs
 unfold collect
 refine ab (E4 (gp pC ?_))
 rw[dY pD _]
 show aH _ A.in1 (newList [] >>= fun l=>again (.builtin "list.__iadd__" ⟨[l,.ref d],[]⟩)) _ _ s
 refine ab (bP (ar ⟨plainId_quiet gw _,gp vX ?_⟩))
 rw[dY gw _]
 show aH _ A.in1 (p6 (.ref s.heap.objs.size) (.ref d) (.ref s.heap.objs.size)) _ _ _
 unfold p6
 refine ab (jq hT1 ?_)
 have hne:sJ (.ref s.heap.objs.size) (.ref d)=false:=by simp[sJ];exact b0 hdl
 rw[if_neg (by rw[hne];decide)]
 refine ab (wpAny_pyIter_dict hS hm1 ?_)
 refine ab (eh ?_)
 unfold Builtin.List.listLengthHint
 have hT2:Shared.TypeIs { s with heap:=(s.heap.push lo).push io } (.ref d) "dict":=(hm1.push io).dictOf.typeIs
 refine ab (wpAny_specialOf hT2 PySem.F.slot_dict_len.lookup ?_)
 generalize hid:("dict.__len__":String)=id0
 wp_delta
 rw [show splitId id0=some ("dict","__len__") from by subst hid;decide +kernel]
 subst hid
 refine ab (zg (b:=true) hT2 (by rw[isSubtype_type];kernel_rfl) ?_)
 simp only[Bool.not_true,fw,if_false]
 rw[if_pos (by decide +kernel)]
 refine ab (jq hT2 (ar ?_))
 rw[if_pos (by decide +kernel)]
 refine ab (pB (ab ?_))
 have hne2:s.heap.objs.size≠(s.heap.push lo).objs.size:=by rw[ba];exact aQ (bD _)
 have hL1:((s.heap.push lo).push io).get? s.heap.objs.size=some lo:=af _ (aw _ rfl)
 show aH _ A.in1 (updateSeq s.heap.objs.size (·.push .none) >>= λ_=>updateSeq s.heap.objs.size (·.pop)) _ _ _
 refine ab (wpAny_updateSeq hL1 rfl ?_)
 have hL2:=fU (cg (·.push dh)) hL1 rfl
 refine wpAny_updateSeq hL2 rfl ?_
 have hL3:=fU (cg (·.pop)) hL2 rfl
 have oth: ∀b o,b≠s.heap.objs.size->((s.heap.push lo).push io).get? b=some o->((((s.heap.push lo).push io).update s.heap.objs.size (cg (·.push dh))).update s.heap.objs.size (cg (·.pop))).get? b=some o:=
  λb o hb e=>(dr _ _ (cZ hb)).trans ((dr _ _ (cZ hb)).trans e)
 have hI:(s.heap.push lo).objs.size=s.heap.objs.size+1:=ba ..
 have hdI:d≠(s.heap.push lo).objs.size:=by rw[hI];exact aQ (dJ hdl)
 have W:=(Walks.dictKeys (prog:=prog) (w:=w) (A:=A.in1) (knd:=dQ prog w) hh (s.heap.push lo).objs.size d hdI vs ep).toS
 have hSf:s.heap.objs.size ∉ [(s.heap.push lo).objs.size,d]:=by
  rw[hI]
  intro z
  rcases aG.mp z with z |z
  ·omega
  ·rw[cJ]at z;exact absurd z (b0 hdl)
 have it0:((s.heap.push lo).push io).IsKeyIter (s.heap.push lo).objs.size d 0 vs.length ep:=⟨io,aw _ rfl,rfl,rfl⟩
 refine ar ⟨plainId_quiet F.plain_extend_loop _,codeAny_extend_loopS W hn s.heap.objs.size hSf _ vs.length 0 _ _ _ rfl (cn _) ?_ hL3 (ItemsOf.nil _) λs' acc' c' hmv hS' hacc =>?_⟩
 ·exact⟨it0.at λo e=>oth _ o (cZ hne2) e,(hm1.push io).at' λo e=>oth _ o (aQ hdl) e⟩
 ·show aH _ A (load s.heap.objs.size >>= _) _ _ s'
  refine ab (EW hS' (ar (hQ s' acc' (λb o e =>?_) hmv.gens hmv.drawn hmv.os hacc (aU (ax hS')))))
  have hb:b<s.heap.objs.size:=ax e
  refine hmv.heap b o ?_ (oth b o (aQ hb) (af _ (af _ e)))
  rw[hI]
  intro z
  rcases aG.mp z with z |z
  ·exact absurd z (aQ hb)
  ·rw[cJ]at z;exact absurd z (aQ (dJ hb))
theorem uu: ∀{l:List Value}{ns:List Int},l.length=ns.length->(∀(j:Nat) (v:Value),l[j]? = some v -> ∃i t,ns[j]? = some i/\v = .int i t)->IntsAre l ns
 | [],[],_,_ => .nil
 | [],_::_,h,_=>by simp at h
 | _::_,[],h,_=>by simp at h
 | v::l,n::ns,h,k=>by
   obtain⟨i,t,e,rfl⟩:=k 0 v rfl
   simp at e;subst e
   exact .cons n t (uu (by simpa using h) λj w hj=>by simpa using k (j+1) w (by simpa using hj))
theorem xO{prog:Program}{w:World}{A:Around}{E:Value->Shared->Prop}{s:Shared}{d:Addr}{vs:List (Key×Value)}{ns:List Int}{Q:Value->Shared->Prop}(hh:A.handled=none)(hS:(d==sysModules)=false)(hm:s.heap.DictOf (dQ prog w) d vs)(hk:vs.map (·.1)=ns.map eF)(h64:ns.length<64)
  (h: ∀(out:Array Value) (ns':List Int) (a:Addr) (e:Nat) (h':Heap) (tk:Nat),IntsAre out.toList ns'->ns'.Perm ns->ns'.Pairwise (· <= ·)->s.heap.objs.size<=a->(∀b o',s.heap.get? b=some o'->h'.get? b=some o') ->
   h'.get? a=some (seqObj "list" out e)->Q (.ref a) { s with heap:=h',toks:=tk }) :
  aH (model prog w) A (call (.builtin "sorted") [.ref d]) Q E s:=by
 obtain⟨ep,hm⟩:=hm.dictAt
 have hlen:vs.length=ns.length:=by have:=congrArg kE hk;simpa using this
 refine kr kind_sorted plain_sorted entry_sorted (args_sorted1 _) ?_
 unfold Builtin.«sorted»
 refine ab (m:=checkCount "sorted" 1 1 _) (ar (ab (vk hh hS hm (by rw [hlen,sizeLine_eq];omega) fun s1 acc hk1 hg hdr hos hacc hle => ?_)))
 have hI:IntsAre acc.toList ns:=uu (by rw[<- hlen,<- hacc.1];simp) λj v hj=>by
  obtain⟨k,x,e,ik⟩:=hacc.2 j v (by simpa using hj)
  have e2:(vs.map (·.1))[j]? = some k:=by rw[bG,e];rfl
  rw[hk,bG]at e2
  cases q:ns[j]? with
  | none=>rw[q]at e2;cases e2
  | some i=>
    rw[q]at e2
    have e3:eF i=k:=bR e2
    subst e3
    rcases d8 (show rK (eF i) v=true from ik) with⟨i',t,e4,e5⟩ | ⟨y,t,e4,_⟩
    ·cases e4;exact⟨_,t,rfl,e5⟩
    ·cases e4
 have hal:acc.toList.length<64:=by rw[jy hI];exact h64
 refine ab (uF ?_)
 have hoL:(s1.heap.push (seqObj "list" acc 0)).get? s1.heap.objs.size=some (seqObj "list" acc.toList.toArray 0):=aw _ rfl
 show aH _ _ _ _ _ { s1 with heap:=s1.heap.push (seqObj "list" acc 0) }
 refine ab (eh (cY slot_list_sort ⟨_,hoL,rfl⟩ entry_list_sort (list_sort_tree hoL hI hal λout ns' a1 a2 a3=>⟨_,rfl,?_⟩) (args_list_sort _)))
 obtain⟨e,he⟩:=sortedHeap_at (out:=out) hoL
 have hq:=h out ns' _ e _ s1.toks a1 a2 a3 hle (λb o' hb=>by
  have hb1:=hk1 b o' hb
  have hlt:=ax hb1
  rw[sortedHeap_old (aQ hlt) (by rw[size_push'];exact dJ hlt),sH _ _ _ (aQ hlt)]
  exact hb1) he
 rw[<- hg,<- hdr,<- hos]at hq
 exact ar ⟨_,rfl,hq⟩
section
variable {X:Cx}
noncomputable def zE(K:aj):List V->Hp->VK->Prop:=λxs H Q =>∃(p:Addr) (ns:List Int),xs = [.ref p]/\((SqL K H p (ns.map V.int)\/SqT K H p (ns.map V.int)) \/ ∃kvs,H p=some (.dK kvs)/\kvs.map (·.1)=ns.map eF)/\ns.length<64 /\ ∀l,H l=none->Q (.ref l) (upd H l (.lst ((pH ns).map V.int)))
theorem Fk{kvs:List (Key×V)}{vs:List (Key×Value)}(h:KV kvs vs):vs.map (·.1)=kvs.map (·.1):=by
 induction h with
 | nil=>rfl
 | cons a _ ih=>rw[bg,bg,ih,a.1]
theorem xc (hc:X.calm=true):gS X (.builtin "sorted") (zE X.K):=by
 intro pins s σ H xs us Q I rs h
 obtain⟨p,ns,rfl,hS,h64,q⟩:=h
 cases rs with
 | cons r1 rr=>
   cases rr
   cases (show _=bj p from r1)
   have fin: ∀(out:Array Value) (ns':List Int) (a:Addr) (e:Nat) (h':Heap) (tk:Nat),IntsAre out.toList ns'->ns'.Perm ns->ns'.Pairwise (· <= ·)->s.heap.objs.size<=a->(∀b o',s.heap.get? b=some o'->h'.get? b=some o') ->
    h'.get? a=some (seqObj "list" out e)->EP X pins σ Q (.ref a) { s with heap:=h',toks:=tk }:=by
    intro out ns' a e h' tk a1 a2 a3 hle hk he
    have e':=xo a2 a3
    subst e'
    refine⟨.ref a,_,I.laid (t':=tk) (o:= .lst ((pH ns).map V.int)) hk hle ?_,rfl,q _ (I.hok.fresh hle)⟩
    refine⟨by rw[aq,(jj ns).length_eq,sizeLine_eq];omega,out.toList,e,oR a1,?_⟩
    rw[he]
   rcases hS with (hS |hS) | ⟨kvs,hp,hks⟩
   ·obtain⟨its,rv,pl,_⟩:=I.list hS
    have hl:=pl.isList
    obtain⟨o,ho,hc,n,hd⟩:=hl
    have hI:=intsAre_of rv
    exact rP (.inl rfl) ho hc hd hI (by rw[jy hI];exact h64) λout ns' a e h'=>fin out ns' a e h' s.toks
   ·obtain⟨its,rv,pl,_⟩:=I.tuple hS
    obtain⟨o,ho,hc,n,hd⟩:=pl
    have hI:=intsAre_of rv
    exact rP (.inr rfl) ho hc hd hI (by rw[jy hI];exact h64) λout ns' a e h'=>fin out ns' a e h' s.toks
   ·obtain⟨_,hsm,vs,rel,dd⟩:=(show d9 X.prog X.w H s.heap p (.dK kvs) from I.hok p _ hp)
    exact xO (I.ok.hd hc) hsm dd (by rw[Fk rel];exact hks) h64 fin
end
section
variable {K:KX}
theorem og{H:Hp}{μ:List Addr}: ∀ns:List Int,RUs H μ (ns.map U.int) (ns.map V.int)
 | [] => .nil
 | n::ns => .cons eV (og ns)
theorem zG: ∀{kvs:List (Key×U)}{vs:List V},kvs.length=vs.length->(dV kvs vs).map (·.1)=kvs.map (·.1)
 | [],_,_=>rfl
 | _::_,[],h=>by simp at h
 | kv::kvs,v::vs,h=>by
   show kv.1::(dV kvs vs).map (·.1)=kv.1::kvs.map (·.1)
   rw[zG (by simpa using h)]
theorem tY: ∀{kvs:List (Key×U)}{ns:List Int},dq mV kvs=some ns->kvs.map (·.1)=ns.map eF
 | [],ns,h=>by cases h;rfl
 | (k,u)::kvs,ns,h=>by
   unfold dq at h
   cases k with
   | inr x=>cases h
   | inl i=>
     simp only[mV,ag]at h
     cases q:dq mV kvs with
     | none=>rw[q]at h;cases h
     | some ms=>
       rw[q]at h;cases h
       rw[bg,tY q];rfl
theorem A1:pN K (zE K) fP:=by
 intro μ S H us vs u S' Q hr rs e a
 unfold fP at e
 split at e
 ·rename_i x
  obtain⟨v,r,rfl,rx,rn⟩:=rs.inv
  rw[rn.nil_inv]
  cases q:t8 S x with
  | none=>rw[q]at e;cases e
  | some ns=>
    rw[q]at e;simp only[ag]at e
    split at e
    rotate_left
    ·cases e
    rename_i hc
    cases e
    unfold t8 at q
    split at q
    ·rename_i kvs qd
     obtain⟨p,ws,rfl,hp,r'⟩:=hr.dic rx qd
     have hl:kvs.length=ws.length:=by have:=r'.len;rwa[aq]at this
     exact⟨p,ns,rfl,.inr ⟨_,hp,by rw[zG hl];exact tY q⟩,hc,λl hl=>gZ a hr (og _) hl⟩
    ·cases q1:eP S x with
     | none=>rw[q1]at q;cases q
     | some ws=>
       rw[q1]at q
       obtain⟨p,ys,rfl,hs,r'⟩:=hr.seq rx q1
       rw[zD r' q]at hs
       exact⟨p,ns,rfl,.inl hs,hc,λl hl=>gZ a hr (og _) hl⟩
 ·cases e
end
section
variable {X:Cx}
end
section
variable {K:KX}
end
end
end _G
end
section
namespace _G
open PySem PySem.Spec _L GQ
open PyProof.Rows hiding St
section
noncomputable def okT(L:List (List Int)):Prop:=L.length<64/\L.Nodup /\ ∀l∈L,l≠[]
noncomputable instance(L:List (List Int)):Decidable (okT L):=bV _
noncomputable def nE(L:List (List Int)):List (List Int):=L.mergeSort λa b => !HT.lexLt b a
noncomputable def tupI(l:List Int):U:= .tup (l.map U.int)
noncomputable def mN:MF:=λus S=>match us with
 | [.ref n]=>(getL S n).bind λxs=>(dq mG xs).bind λL=>if okT L then some (.ref S.length,S++[.lst ((nE L).map tupI)]) else none
 | _=>none
end
theorem oo: ∀(a:List Int),HT.lexLt a a=false
 | []=>rfl
 | x::a=>by rw[HT.lexLt_cons,if_pos rfl];exact oo a
theorem yB{a b:List Int}(hne:a≠b)(h:(!HT.lexLt b a)=true):HT.lexLt a b=true:=by
 rw[Bool.not_eq_true']at h
 exact zt (cZ hne) h
theorem m9(L:List (List Int)):(nE L).Perm L:=List.mergeSort_perm _ _
theorem CL(L:List (List Int)):(nE L).Pairwise λa b=>(!HT.lexLt b a)=true:=by
 refine BQ (le:=λa b => !HT.lexLt b a) (λa b c h1 h2 =>?_) (λa b =>?_) L
 ·by_cases e1:a=b
  ·subst e1;exact h2
  ·by_cases e2:b=c
   ·subst e2;exact h1
   ·have h3:=rX (yB e1 h1) (yB e2 h2)
    cases q:HT.lexLt c a with
    | false=>rfl
    | true=>have:=rX h3 q;rw[oo]at this;cases this
 ·cases q:HT.lexLt b a with
  | false=>rfl
  | true=>
    cases q2:HT.lexLt a b with
    | false=>rfl
    | true=>have:=rX q q2;rw[oo]at this;cases this
theorem De{L:List (List Int)}(nd:L.Nodup):(nE L).Pairwise λa b=>HT.lexLt a b=true:=by
 have h2:(nE L).Nodup:=(m9 L).nodup_iff.mpr nd
 exact((CL L).and h2).imp λh=>yB h.2 h.1
theorem wM: ∀{as bs:List (List Int)},as.Perm bs->(as.Pairwise λa b=>HT.lexLt a b=true)->(bs.Pairwise λa b=>HT.lexLt a b=true)->as=bs
 | [],bs,p,_,_=>by rw[List.nil_perm.mp p]
 | a::as,[],p,_,_=>by cases List.perm_nil.mp p
 | a::as,b::bs,p,h1,h2=>by
   rw[List.pairwise_cons]at h1 h2
   have e:a=b:=by
    rcases aG.mp (p.subset (aZ ..)) with e |m1
    ·exact e
    ·rcases aG.mp (p.symm.subset (aZ ..)) with e |m2
     ·exact e.symm
     ·have:=rX (h1.1 b m2) (h2.1 a m1)
      rw[oo]at this;cases this
   subst e
   rw[wM (List.perm_cons _ |>.mp p) h1.2 h2.2]
theorem xT{L M:List (List Int)}(nd:L.Nodup)(p:M.Perm L)(h:M.Pairwise λa b=>HT.lexLt a b=true):M=nE L:=wM (p.trans (m9 L).symm) h (De nd)
theorem zc {prog:Program}{w:World}{A:Around}{E:Value->Shared->Prop}{s:Shared}{l:Addr}{T:String}{o:Obj}{n:Nat}{vs:List Value}{L:List (List Int)}{Q:Value->Shared->Prop} (hT:T="list"\/T="tuple")
  (ho:s.heap.get? l=some o) (hc:o.cls = .type T) (hd:o.data = .seq vs.toArray n) (t:Tps s.heap vs L) (hn: ∀l∈L,l≠[]) (nd:L.Nodup) (h64:vs.length<64)
  (h: ∀(p:Array Nat) (a:Addr) (e:Nat) (h':Heap),p.Perm (aB L.length).toArray->(∀i j,i<j->j<L.length->ltL L (at_ p i) (at_ p j)=true)->s.heap.objs.size<=a->(∀b o',s.heap.get? b=some o'->h'.get? b=some o') ->
   h'.get? a=some (seqObj "list" (sx (p.toList.map fun i=>vs.getD i dh)) e)->Q (.ref a) { s with heap:=h' }) :
  aH (model prog w) A (call (.builtin "sorted") [.ref l]) Q E s:=by
 refine kr kind_sorted plain_sorted entry_sorted (args_sorted1 _) ?_
 unfold Builtin.«sorted»
 refine ab (m:=checkCount "sorted" 1 1 _) (ar ?_)
 refine ab (sg l hT ho hc hd (by rw[aA,sizeLine_eq];omega) λh1 hk hle =>?_)
 refine ab (uF ?_)
 have hoL:(h1.push (seqObj "list" vs.toArray 0)).get? h1.objs.size=some (seqObj "list" vs.toArray 0):=aw _ rfl
 show aH _ _ _ _ _ { s with heap:=h1.push (seqObj "list" vs.toArray 0) }
 have t1:Tps (h1.push (seqObj "list" vs.toArray 0)) vs L:=t.keep fun b o' _ e=>af _ (hk b o' e)
 refine ab (eh (cY slot_list_sort ⟨_,hoL,rfl⟩ entry_list_sort (N1 (s:={ s with heap:=h1.push (seqObj "list" vs.toArray 0) }) hoL t1 hn nd h64 fun p a1 a2=>⟨_,rfl,?_⟩) (args_list_sort _)))
 obtain⟨e,he⟩:=sortedHeap_at (out:=sx (p.toList.map λi=>vs.getD i dh)) hoL
 exact ar ⟨_,rfl,h p _ e _ a1 a2 hle (λb o' hb=>by
  have hb1:=hk b o' hb
  have hlt:=ax hb1
  rw[sortedHeap_old (aQ hlt) (by rw[size_push'];exact dJ hlt),sH _ _ _ (aQ hlt)]
  exact hb1) he⟩
inductive TV(H:Hp):List V->List (List Int)->Prop where
 | nil:TV H [] []
 | cons {a:Addr}{ns:List Int}{vs:List V}{L:List (List Int)} (h:H a=some (.tup (ns.map V.int))) (r:TV H vs L):TV H (.ref a::vs) (ns::L)
theorem TV.len{H:Hp}{vs:List V}{L:List (List Int)}(t:TV H vs L):vs.length=L.length:=by
 induction t with
 | nil=>rfl
 | cons h r ih=>rw[bB,bB,ih]
theorem TV.get{H:Hp}{vs:List V}{L:List (List Int)}(t:TV H vs L): ∀i,i<L.length -> ∃a,vs.getD i .non = .ref a/\H a=some (.tup ((L.getD i []).map V.int)):=by
 induction t with
 | nil=>intro i hi;cases hi
 | @cons a ns vs L h r ih=>
   intro i hi
   cases i with
   | zero=>exact⟨a,rfl,h⟩
   | succ i=>exact ih i (i0 hi)
theorem TV.perm{H:Hp}{vs:List V}{L:List (List Int)}(t:TV H vs L): ∀(is:List Nat),(∀i∈is,i<L.length)->TV H (is.map λi=>vs.getD i .non) (is.map λi=>L.getD i [])
 | [],_ => .nil
 | i::is,h=>by
   obtain⟨a,e,ha⟩:=t.get i (h i (aZ ..))
   show TV H (vs.getD i .non::_) (L.getD i []::_)
   rw[e]
   exact .cons ha (t.perm is λj hj=>h j (aC _ hj))
theorem ui{vs:List V}{us:List Value}(r:bW vs us): ∀(is:List Nat),(∀i∈is,i<vs.length)->bW (is.map λi=>vs.getD i .non) (is.map λi=>us.getD i dh)
 | [],_ => .nil
 | i::is,h=>by
   have hi:=h i (aZ ..)
   obtain⟨u,hu,ru⟩:=r.get (aD hi)
   have e1:vs.getD i .non=vs[i]:=by simp[hi]
   have e2:us.getD i dh=u:=by simp[hu]
   refine .cons ?_ (ui r is λj hj=>h j (aC _ hj))
   show RelV (vs.getD i .non) (us.getD i dh)
   rw[e1,e2];exact ru
section
variable {X:Cx}{pins:List (Addr×Obj)}{σ:St}{H:Hp}{s:Shared}
theorem Jr(I:Inv X pins σ H s){vs:List V}{L:List (List Int)}(t:TV H vs L): ∀{us:List Value},bW vs us->Tps s.heap us L:=by
 induction t with
 | nil=>intro us r;cases r;exact .nil
 | @cons a ns vs L h r ih=>
   intro us rv
   cases rv with
   | cons r1 r2=>
     cases (show _=bj a from r1)
     obtain⟨its,rt,pl,_⟩:=I.tuple (SqT.of (K:=X.K) h)
     obtain⟨o,ho,hc,n,hd⟩:=pl
     exact .cons ⟨a,o,its.toArray,n,rfl,ho,hc,hd,intsAre_of rt⟩ (ih r2)
noncomputable def Cj(K:aj):List V->Hp->VK->Prop:=λxs H Q =>∃(p:Addr) (vs:List V) (L:List (List Int)),xs = [.ref p]/\SqL K H p vs/\TV H vs L/\okT L /\ ∀D ws,H D=none->TV H ws (nE L)->Q (.ref D) (upd H D (.lst ws))
theorem yA:gS X (.builtin "sorted") (Cj X.K):=by
 intro pins s σ H xs us Q I rs h
 obtain⟨p,vs,L,rfl,hS,tv,⟨h64,nd,hne⟩,q⟩:=h
 cases rs with
 | cons r1 rr=>
   cases rr
   cases (show _=bj p from r1)
   obtain⟨its,rv,pl,hz⟩:=I.list hS
   obtain⟨o,ho,hc,n,hd⟩:=pl.isList
   have tp:=Jr I tv rv
   refine zc (.inl rfl) ho hc hd tp hne nd (by rw[tp.len];exact h64) λp a e h' hp so hle hk he =>?_
   have hpl:p.toList.Perm (aB L.length):=hp.toList
   have hlt: ∀i∈p.toList,i<L.length:=λi hi=>aN.mp (hpl.mem_iff.mp hi)
   have el:p.toList.map (λi=>L.getD i [])=nE L:=by
    refine xT nd ((hpl.map _).trans ?_) ?_
    ·rw[show(aB L.length).map (λi=>L.getD i [])=L from lT (by simp) λi h1 h2=>by simp[h2]]
    ·rw[cx,gK]
     intro i j hi hj hij
     have hs:p.toList.length=L.length:=by rw[hpl.length_eq,bp]
     have:=so i j hij (by omega)
     have hi':i<p.size:=by simpa using hi
     have hj':j<p.size:=by simpa using hj
     have e1:at_ p i=p.toList[i]:=by simp[at_,hi']
     have e2:at_ p j=p.toList[j]:=by simp[at_,hj']
     rw[e1,e2]at this
     exact this
   have tw:=tv.perm p.toList hlt
   rw[el]at tw
   refine⟨.ref a,_,I.laid (t':=s.toks) (o:= .lst (p.toList.map λi=>vs.getD i .non)) hk hle ?_,rfl,q _ _ (I.hok.fresh hle) tw⟩
   refine⟨?_,p.toList.map λi=>its.getD i dh,e,ui rv p.toList (λi hi=>by rw[tv.len];exact hlt i hi),?_⟩
   ·rw[aq,hpl.length_eq,bp,sizeLine_eq];omega
   ·rw[he]
end
section
variable {K:KX}
theorem Az{x:U}{ns:List Int}(h:mG x=some ns): ∃us,x = .tup us/\dq vj us=some ns:=by
 cases x with
 | tup us=>exact⟨us,rfl,h⟩
 | _=>cases h
theorem ud{H:Hp}{μ:List Addr}: ∀{us:List U}{vs:List V}{ns:List Int},RUs H μ us vs->dq vj us=some ns->vs=ns.map V.int
 | [],vs,ns,r,e=>by cases e;rw[r.nil_inv];rfl
 | u::us,vs,ns,r,e=>by
   obtain⟨v,r',rfl,a,b⟩:=r.inv
   unfold dq at e
   cases u with
   | int x=>
     simp only[vj,ag]at e
     cases q:dq vj us with
     | none=>rw[q]at e;cases e
     | some cs=>
       rw[q]at e;cases e
       rw[dA a,ud b q];rfl
   | _=>cases e
theorem Iq{H:Hp}{μ:List Addr}: ∀{us:List U}{vs:List V}{L:List (List Int)},RUs H μ us vs->dq mG us=some L->TV H vs L
 | [],vs,L,r,e=>by cases e;rw[r.nil_inv];exact .nil
 | u::us,vs,L,r,e=>by
   obtain⟨v,r',rfl,a,b⟩:=r.inv
   unfold dq at e
   cases q1:mG u with
   | none=>rw[q1]at e;cases e
   | some ns=>
     rw[q1]at e
     simp only[ag]at e
     cases q:dq mG us with
     | none=>rw[q]at e;cases e
     | some cs=>
       rw[q]at e;cases e
       obtain⟨ws,rfl,q2⟩:=Az q1
       obtain⟨p,ys,rfl,hp,r2⟩:=fE a
       rw[ud r2 q2]at hp
       exact .cons hp (Iq b q)
theorem IR{H:Hp}{μ:List Addr}{ws:List V}{L:List (List Int)}(t:TV H ws L):RUs H μ (L.map tupI) ws:=by
 induction t with
 | nil=>exact .nil
 | cons h r ih=>exact .cons (g9 h (og _)) ih
theorem EI:pN K (Cj K) mN:=by
 intro μ S H us vs u S' Q hr rs e a
 unfold mN at e
 split at e
 ·rename_i n
  obtain⟨v,r,rfl,rx,rn⟩:=rs.inv
  rw[rn.nil_inv]
  cases q:getL S n with
  | none=>rw[q]at e;cases e
  | some xs=>
    rw[q]at e
    simp only[ag]at e
    cases q2:dq mG xs with
    | none=>rw[q2]at e;cases e
    | some L=>
      rw[q2]at e
      simp only[ag]at e
      split at e
      ·rename_i hok
       cases e
       obtain⟨p,rfl,hp⟩:=eD rx
       obtain⟨p',ys,hp',hs,r'⟩:=hr.sq q
       rw[hp]at hp';cases hp'
       exact⟨p,ys,L,rfl,hs,Iq r' q2,hok,λD ws hD tw=>gZ a hr (IR tw) hD⟩
      ·cases e
 ·cases e
end
end _G
end
section
namespace _G
open PySem PySem.Spec _L
open PyProof.Rows hiding St
section
section
variable {prog:Program}{w:World}{A:Around}{E:Value->Shared->Prop}{s:Shared}
theorem Cp(xs:Array Value)(n:Nat)(hn:xs.size=n):((aB n).filterMap λ(k:Nat)=>xs[(((n:Int) - 1)+(k:Int)*(-1)).toNat]?).toArray=xs.toList.reverse.toArray:=by
 subst hn
 have e:(λ(k:Nat)=>xs[(((xs.size:Int) - 1)+(k:Int)*(-1)).toNat]?)=(λi=>xs[i]?)∘λk=>xs.size - 1 - k:=by
  funext k
  have e1:(((xs.size:Int) - 1)+(k:Int)*(-1)).toNat=xs.size - 1 - k:=by omega
  rw[e1];rfl
 rw[e,<- List.filterMap_map,PySem.W.krv_range,List.filterMap_reverse,PySem.W.krv_all]
theorem oP{sl:Addr}{n:Nat}{t:Tok}{Q:Int×Int×Nat->Shared->Prop}(hs:s.heap.IsSliceOf sl .none .none (.int (-1) t))
  (h:Q ((n:Int) - 1,-1,n) s):aH (model prog w) A (ft (.ref sl) (pure (n:Int))) Q E s:=by
 obtain⟨os,hos,hcs,hds⟩:=id hs
 unfold ft qA
 refine ab (ab (bS hos hds (x:= .none) rfl (ab (bS hos hds (x:= .none) rfl (ab (bS hos hds (x:= .int (-1) t) rfl (ar ?_)))))))
 refine ab (HT.slicePart_ (.int (-1) t) ?_)
 show aH _ _ (if ((-1:Int)==0)=true then _ else _) _ _ s
 rw[if_neg (by decide)]
 refine ab (HT.slicePart_ .none (ab (HT.slicePart_ .none (ab (ar ?_)))))
 show aH _ _ (match en none none (-1) (n:Int) with | (lo,hi)=>pure (lo,(-1:Int),cq lo hi (-1))) _ _ s
 have e1:en none none (-1) (n:Int)=((n:Int) - 1,-1):=rfl
 have e2:cq ((n:Int) - 1) (-1) (-1)=n:=by
  unfold cq
  rw[if_neg (by decide)]
  split
  ·rw[show(-(-1):Int)=1 by decide,Int.ediv_one];omega
  ·omega
 rw[e1]
 show aH _ _ (pure ((n:Int) - 1,(-1:Int),cq ((n:Int) - 1) (-1) (-1))) _ _ s
 rw[e2]
 exact ar h
theorem oh{t sl:Addr}{items:Array Value}{tk:Tok}{Q:Value->Shared->Prop}(ht:IsTup s.heap t items)(hs:s.heap.IsSliceOf sl .none .none (.int (-1) tk))
  (h:Q (.ref s.heap.objs.size) { s with heap:=s.heap.push { cls := .type "tuple",data := .seq items.toList.reverse.toArray } })
  (hsz:items.size<=sizeLine):aH (model prog w) A (getItem (.ref t) (.ref sl)) Q E s:=by
 have htake:sizeOk (.seq items.toList.reverse.toArray):=by
  show items.toList.reverse.toArray.size<=sizeLine
  rw[aA,fb,ej];exact hsz
 obtain⟨os,hos,hcs,hds⟩:=id hs
 have hTs:s.TypeIs (.ref sl) "slice":=⟨os,hos,hcs⟩
 unfold getItem
 try with_reducible refine eh ?_
 first |refine ab (ar ?_) |skip
 refine ab (xX ht.typeIs (by decide) ?_)
 refine ab (cz (name:=fH "__getitem__") ht.typeIs cW
  (cY cW ht.typeIs entry_tuple_getitem ?_ (args_tuple_getitem _ _)))
 show aH _ _ (jc (.ref t) >>= _) _ _ s
 refine ab (tupleItemsOf_ ht ?_)
 refine ab (jq hTs ?_)
 rw[if_pos (by decide)]
 refine ab (oP hs ?_)
 show aH _ _ (if ((((items.size:Int) - 1)==0&&(-1:Int)==1&&items.size==items.size))=true then _ else _) _ _ s
 rw[if_neg (by simp),Cp items _ rfl]
 first
  | exact ab (m:=bO _) (bP (ar ⟨_,rfl,ar h⟩) htake)
  | exact ab (m:=bO _) (bP (ab (ar (ar ⟨_,rfl,ar h⟩))) htake)
  | exact ab (ab (m:=bO _) (bP (ar (ar ⟨_,rfl,ar h⟩)) htake))
  | exact ab (ab (m:=bO _) (bP (ar ⟨_,rfl,ar h⟩) htake))
end
theorem bW.rev: ∀{xs:List V}{us:List Value},bW xs us->bW xs.reverse us.reverse
 | _,_,.nil => .nil
 | x::xs,u::us,.cons a b=>by
   rw[iR,iR]
   exact(bW.rev b).append (.cons a .nil)
noncomputable def OG(K:aj):V->Hp->VK->Prop:=λx H Q =>∃a xs,x = .ref a/\((SqT K H a xs /\ ∀p,H p=none->Q (.ref p) (upd H p (.tup xs.reverse)))\/(SqL K H a xs /\ ∀p,H p=none->Q (.ref p) (upd H p (.lst xs.reverse))))
noncomputable def Ju(K:aj)(te:TE):TE:=λσ H Q=>te σ H λx H1=>OG K x H1 Q
section
variable {X:Cx}{e:Expr}{te:TE}{pos p2 p3 p4:Pos}{j:Nat}
theorem Jp(he:PE X e te):PE X (.Subscript e (.Slice none none (some (.UnaryOp .USub (.Constant (.int 1) j p3) p4)) p2) pos) (Ju X.K te):=by
 intro pins s σ H Q I h
 refine Subscript_ (thn (he pins s σ H _ I h) λv s1 ⟨x,H1,I1,r1,q1⟩ =>?_)
 refine wpAny_Slice ?_
 rw[evalPart_none,evalPart_some]
 refine ar (ar ?_)
 refine thn (Ii El Cc pins s1 σ H1 (λy H2=>y = .int (-1)/\H2=H1) I1 ⟨1,rfl,rfl,rfl⟩) λu s3 ⟨y,H3,I3,ry,hy,hH⟩ =>?_
 subst hy hH
 obtain⟨t,rfl⟩:=ry
 have I4:Inv X pins σ H3 { s3 with heap:=s3.heap.push { cls := .type "slice",data := .fields #[.none,.none,.int (-1) t] } }:=I3.kept (t':=s3.toks) fun b ob q=>af _ q
 show aH (model X.prog X.w) X.A (subscriptTail e (.Slice none none (some (.UnaryOp .USub (.Constant (.int 1) j p3) p4)) p2) v (.ref s3.heap.objs.size)) (EP X pins σ Q) X.xe { s3 with heap:=s3.heap.push { cls := .type "slice",data := .fields #[.none,.none,.int (-1) t] } }
 obtain⟨a,xs,rfl,q1⟩:=q1
 cases r1
 rcases q1 with⟨hx,q⟩ | ⟨hx,q⟩
 ·obtain⟨its,r,ht,hz⟩:=I4.tuple hx
  have hlen:its.toArray.size=xs.length:=by rw[aA];exact r.length.symm
  refine tail_any (ops:= [.ref a,.ref s3.heap.objs.size]) ht.typeIs PyProof.Rows.slot_tuple_getitem.lookup ?_ (by with_unfolding_all rfl)
  refine oh ht (lS ..) ?_ (by rw[hlen];exact hz)
  refine⟨.ref _,_,I4.laid (t':=s3.toks) (o:= .tup xs.reverse) (λb ob q=>af _ q) (ah _) ?_,rfl,q _ (I4.hok.fresh (ah _))⟩
  exact⟨by rw[fb];exact hz,_,bW.rev r,lI _ _,_,aw _ rfl,rfl⟩
 ·obtain⟨its,r,ht,hz⟩:=I4.list hx
  refine tail_any (ops:= [.ref a,.ref s3.heap.objs.size]) ht.isList.typeIs slot_list_getitem.lookup ?_ (by with_unfolding_all rfl)
  refine wpAny_getItem_list_slice ht.isList (lS ..) .none .none (.int (-1) t) (by decide) ?_ (by rw[aA,<- r.length];exact hz)
  rw[PySem.W.krv_pick]
  refine⟨.ref _,_,I4.laid (t':=s3.toks) (o:= .lst xs.reverse) (λb ob q=>af _ q) (ah _) ?_,rfl,q _ (I4.hok.fresh (ah _))⟩
  exact⟨by rw[fb];exact hz,_,0,bW.rev r,aw _ rfl⟩
end
noncomputable def o7:U->Sto->Res U:=λx S=>match x with
 | .tup us=>some (.tup us.reverse,S)
 | .ref n=>(getL S n).map λus=>(.ref S.length,S++[.lst us.reverse])
 | _=>none
theorem RUs.rev{H:Hp}{μ:List Addr}: ∀{us:List U}{vs:List V},RUs H μ us vs->RUs H μ us.reverse vs.reverse
 | [],vs,r=>by rw[r.nil_inv];exact .nil
 | u::us,vs,r=>by
   obtain⟨v,r',rfl,a,b⟩:=r.inv
   rw[iR,iR]
   exact(RUs.rev b).append (.cons a .nil)
section
variable {K:KX}{σ:St}{H:Hp}{Q:VK}
theorem Oc{a:ME}(h:tM K (m1 o7 a) σ H Q):Ju K (tM K a) σ H Q:=by
 obtain⟨μ,S,ρ,u,S',hr,er,e,k⟩:=h
 obtain⟨x,S1,e1,e⟩:=bc e
 refine⟨μ,S,ρ,x,S1,hr,er,e1,λμ1 vx H1 p1 k1 hr1 rx =>?_⟩
 have k':=k.mono p1 k1
 unfold o7 at e
 split at e
 ·cases e
  obtain⟨p,vs,rfl,hp,rs⟩:=fE rx
  refine⟨p,vs,rfl,.inl ⟨.inl (.inl hp),λl hl =>?_⟩⟩
  exact k' μ1 _ _ (Pre.refl _) (bh.new hl) (hr1.tup hl) (g9 cw (RUs.mono (bh.new hl) (Pre.refl _) _ _ (RUs.rev rs)))
 ·rename_i n
  cases q:getL S1 n with
  | none=>rw[q]at e;cases e
  | some us=>
    rw[q]at e;cases e
    obtain⟨p,rfl,hp⟩:=eD rx
    obtain⟨p',ys,hp',hs,r'⟩:=hr1.sq q
    rw[hp]at hp';cases hp'
    exact⟨p,ys,rfl,.inr ⟨hs,λl hl=>gZ k' hr1 (RUs.rev r') hl⟩⟩
 ·cases e
end
end
end _G
end
section
namespace _G
open PySem PySem.Spec _L
open PyProof.Rows hiding St
section
noncomputable def nW:ME:=λ_ S=>some (.ref S.length,S++[.dic []])
noncomputable def qL(k v:ME):ME:=λρ S=>bnd (k ρ (S++[.dic []])) λx S1=>bnd (v ρ S1) λy S2=>(keyOf x).bind λkk=>match S2[S.length]? with
 | some (.dic [])=>some (.ref S.length,S2.set S.length (.dic [(kk,y)]))
 | _=>none
section
variable {K:KX}{σ:St}{H:Hp}{Q:VK}
theorem zP{μ:List Addr}{S:Sto}{p:Addr}(hr:HR K μ S H)(hp:H p=none):HR K (μ++[p]) (S++[.dic []]) (upd H p (.dK [])):=
 hr.newC hp rfl ⟨[],cw,.nil⟩
theorem zZ{μ:List Addr}{S:Sto}{p:Addr}(hr:HR K μ S H):(μ++[p])[S.length]? = some p:=by
 rw[<- hr.len,av (ah _)];simp
theorem Kk(h:tM K nW σ H Q):Dq σ H Q:=by
 obtain⟨μ,S,ρ,u,S',hr,er,e,k⟩:=h
 cases e
 intro p hp
 exact k (μ++[p]) _ _ ⟨[p],rfl⟩ (bh.new hp) (zP hr hp) (qZ (zZ hr))
theorem J9{a b:ME}(h:tM K (qL a b) σ H Q):Ih [(tM K a,tM K b)] σ H Q:=by
 obtain⟨μ,S,ρ,u,S',hr,er,e,k⟩:=h
 intro p hp
 obtain⟨x,S1,e1,e⟩:=bc e
 obtain⟨y,S2,e2,e⟩:=bc e
 have pre:Pre μ (μ++[p]):=⟨[p],rfl⟩
 refine⟨μ++[p],S++[.dic []],ρ,x,S1,zP hr hp,er.mono (bh.new hp) pre,e1,λμ1 vx H1 p1 k1 hr1 rx =>?_⟩
 refine⟨μ1,S1,ρ,y,S2,hr1,er.mono ((bh.new hp).trans k1) (pre.trans p1),e2,λμ2 vy H2 p2 k2 hr2 ry =>?_⟩
 cases qk:keyOf x with
 | none=>rw[qk]at e;cases e
 | some kk=>
   rw[qk]at e
   simp only[ag]at e
   split at e
   ·rename_i q
    cases e
    have hm:=p2.get (p1.get (zZ hr (p:=p)))
    obtain⟨vs,e0,r0⟩:=hr2.cell _ _ p q hm
    have hv:vs = []:=r0.nil_inv
    subst hv
    have kw:bh H2 (upd H2 p (.dK (oZ [] [(kk,vy)]))):=bh.wrG e0 λ_ z=>by cases z
    refine⟨e0,[(kk,vy)],?_,by simp,?_⟩
    ·rw[qu (RU.mono k2 p2 _ _ rx) qk];rfl
    ·refine k μ2 _ _ (pre.trans (p1.trans p2)) ((bh.new hp).trans (k1.trans (k2.trans kw))) (hr2.wrC q hm rfl rfl ⟨[vy],by rw[cw];rfl,.cons (RU.mono kw (Pre.refl _) _ _ ry) .nil⟩) (qZ hm)
   ·cases e
noncomputable def MC(i:Int):Prop:=i.natAbs.log2<1920
noncomputable instance(i:Int):Decidable (MC i):=bV _
end
end
end _G
end
section
namespace _G
open PySem PySem.Spec _L
open PyProof.Rows hiding St
section
abbrev MG:=U->Rho->Sto->Option (Rho×Sto)
abbrev MGs:=List U->Rho->Sto->Option (Rho×Sto)
noncomputable def gN(i:Nat):MG:=λu ρ S=>some (ρ.set i (some u),S)
noncomputable def kA:MGs:=λus ρ S=>match us with
 | []=>some (ρ,S)
 | _=>none
noncomputable def d6(g:MG)(r:MGs):MGs:=λus ρ S=>match us with
 | []=>none
 | u::us=>(g u ρ S).bind λp=>r us p.1 p.2
noncomputable def gTp(n:Nat)(gs:MGs):MG:=λu ρ S=>match u with
 | .tup us=>if us.length=n then gs us ρ S else none
 | _=>none
noncomputable def sQ(e:ME)(g:MG):MS:=λρ S=>bnd (e ρ S) λx S1=>(g x ρ S1).map λp=>(.nx,p.1,p.2)
noncomputable def tG(K:KX)(g:MG):TG:=λv σ H Q =>∃μ S ρ u r,HR K μ S H/\ER H μ ρ σ/\RU H μ u v/\g u ρ S=some r /\ ∀μ' σ' H',Pre μ μ'->bh H H'->HR K μ' r.2 H'->ER H' μ' r.1 σ'->Q σ' H'
noncomputable def tGs(K:KX)(g:MGs):TGs:=λvs σ H Q =>∃μ S ρ us r,HR K μ S H/\ER H μ ρ σ/\RUs H μ us vs/\g us ρ S=some r /\ ∀μ' σ' H',Pre μ μ'->bh H H'->HR K μ' r.2 H'->ER H' μ' r.1 σ'->Q σ' H'
theorem PG.con{X:Cx}{tg:Expr}{t u:TG}(h:PG X tg t)(k: ∀v σ H Q,u v σ H Q->t v σ H Q):PG X tg u:=λpins s σ H v w Q I r q=>h pins s σ H v w Q I r (k _ _ _ _ q)
theorem PGs.con{X:Cx}{tg:List Expr}{t u:TGs}(h:PGs X tg t)(k: ∀v σ H Q,u v σ H Q->t v σ H Q):PGs X tg u:=λpins s σ H v w Q I r q=>h pins s σ H v w Q I r (k _ _ _ _ q)
section
variable {K:KX}{σ:St}{H:Hp}{Q:St->Hp->Prop}{v:V}{D:Ends}
theorem OS{i:Nat}(h:tG K (gN i) v σ H Q):ju i v σ H Q:=by
 obtain⟨μ,S,ρ,u,r,hr,er,ru,e,k⟩:=h
 cases e
 exact k μ _ H (Pre.refl _) (bh.refl _) hr (er.set ru i)
theorem JK{vs:List V}(h:tGs K kA vs σ H Q):LG vs σ H Q:=by
 obtain⟨μ,S,ρ,us,r,hr,er,rs,e,k⟩:=h
 cases us with
 | nil=>cases e;exact⟨rs.nil_inv,k μ _ H (Pre.refl _) (bh.refl _) hr er⟩
 | cons u us=>cases e
theorem HC{g:MG}{gs:MGs}{vs:List V}(h:tGs K (d6 g gs) vs σ H Q):HQ (tG K g) (tGs K gs) vs σ H Q:=by
 obtain⟨μ,S,ρ,us,r,hr,er,rs,e,k⟩:=h
 cases us with
 | nil=>cases e
 | cons u us=>
   obtain⟨v,vr,rfl,ra,rb⟩:=rs.inv
   cases q:g u ρ S with
   | none=>rw[show d6 g gs (u::us) ρ S=(g u ρ S).bind λp=>gs us p.1 p.2 from rfl,q]at e;cases e
   | some p=>
     rw[show d6 g gs (u::us) ρ S=(g u ρ S).bind λp=>gs us p.1 p.2 from rfl,q]at e
     refine⟨v,vr,rfl,μ,S,ρ,u,p,hr,er,ra,q,λμ1 σ1 H1 p1 k1 hr1 er1 =>?_⟩
     exact⟨μ1,p.2,p.1,us,r,hr1,er1,RUs.mono k1 p1 _ _ rb,e,λμ2 σ2 H2 p2 k2=>k μ2 σ2 H2 (p1.trans p2) (k1.trans k2)⟩
theorem Mn{n:Nat}{gs:MGs}(h:tG K (gTp n gs) v σ H Q):MQ K n (tGs K gs) v σ H Q:=by
 obtain⟨μ,S,ρ,u,r,hr,er,ru,e,k⟩:=h
 unfold gTp at e
 split at e
 ·rename_i us
  split at e
  ·rename_i hl
   obtain⟨a,vs,rfl,ha,rs⟩:=fE ru
   exact⟨a,vs,rfl,.inl (.inl ha),by rw[<- rs.len];exact hl,μ,S,ρ,us,r,hr,er,rs,e,k⟩
  ·cases e
 ·cases e
theorem Mz{m:ME}{g:MG}(h:tMS K (sQ m g) D σ H):AO (tM K m) (tG K g) D σ H:=by
 obtain⟨μ,S,ρ,r,hr,er,e,k⟩:=h
 obtain⟨x,S1,e1,e⟩:=bc e
 cases q:g x ρ S1 with
 | none=>rw[q]at e;cases e
 | some p=>
   rw[q]at e;cases e
   exact⟨μ,S,ρ,x,S1,hr,er,e1,λμ1 vx H1 p1 k1 hr1 rx=>⟨μ1,S1,ρ,x,p,hr1,er.mono k1 p1,rx,q,λμ2 σ2 H2 p2 k2 hr2 er2=>k μ2 σ2 H2 (p1.trans p2) (k1.trans k2) hr2 er2⟩⟩
end
theorem wg{a b c d:Expr}{p1 p2 p p3:Pos}{k k2:Nat}{vs:List Expr}{env:Env}:swappedStores [.Tuple [.Subscript a b p1,.Subscript c d p2] k p] (.Tuple vs k2 p3) env=pure none:=by
 unfold swappedStores
 simp only[List.filterMap_cons_none,List.filterMap_nil]
 split
 ·rfl
 ·split
  ·rfl
  ·rfl
end
end _G
end
section
namespace _G
open PySem PySem.Spec _L
open PyProof.Rows hiding St
section
noncomputable def wD(g:MG)(b:MS):List U->MS
 | [],ρ,S=>some (.nx,ρ,S)
 | x::xs,ρ,S=>(g x ρ S).bind λp=>aft (b p.1 p.2) (wD g b xs)
noncomputable def uC(g:MG)(b:MS)(n:Nat):Nat->Nat->MS
 | 0,_,_,_=>none
 | f+1,k,ρ,S=>(getL S n).bind λus=>match us[k]? with
   | none=>some (.nx,ρ,S)
   | some x=>(g x ρ S).bind λp=>aft (b p.1 p.2) (uC g b n f (k+1))
noncomputable def Io(g:MG)(b:MS)(n:Nat):Nat->Nat->MS
 | 0,_,_,_=>none
 | f+1,k,ρ,S=>(getL S n).bind λus=>match us[k]? with
   | none=>some (.nx,ρ,S)
   | some x=>(g (.tup [.int k,x]) ρ S).bind λp=>aft (b p.1 p.2) (Io g b n f (k+1))
noncomputable def pM(g:MG)(b:MS)(n:Nat)(us:List U):Nat->Nat->MS
 | 0,_,_,_=>none
 | f+1,k,ρ,S=>(getL S n).bind λxs=>match xs[k]? with
   | none=>some (.nx,ρ,S)
   | some x=>match us[k]? with
     | none=>some (.nx,ρ,S)
     | some y=>(g (.tup [x,y]) ρ S).bind λp=>aft (b p.1 p.2) (pM g b n us f (k+1))
noncomputable def LR(g:MG)(b:MS):Src->MS
 | .imm us=>wD g b us
 | .mut n=>uC g b n fuel 0
 | .enl n=>Io g b n fuel 0
 | .zlt n us=>pM g b n us fuel 0
noncomputable def nH(g:MG)(it:MI)(b:MS):MS:=λρ S=>bnd (it ρ S) λsrc S1=>LR g b src ρ S1
section
variable {K:KX}{σ:St}{H:Hp}{Q:VK}{D:Ends}
theorem rZ{g:MG}{b:MS}{ρ:Rho}{S:Sto}{x:U}{v:V}{μ μ0:List Addr}{H0:Hp}{k:MS}{r:Fl×Rho×Sto}{N:St->Hp->Prop}(hr:HR K μ S H)(er:ER H μ ρ σ)(rx:RU H μ x v)(e:((g x ρ S).bind λp=>aft (b p.1 p.2) k)=some r)(p:Pre μ0 μ)(kp:bh H0 H)(fl:FlP K μ0 H0 D r)
  (hN: ∀μ1 σ1 H1 ρ1 S1,Pre μ0 μ1->bh H0 H1->HR K μ1 S1 H1->ER H1 μ1 ρ1 σ1->k ρ1 S1=some r->N σ1 H1):tG K g v σ H λσ2 H2=>tMS K b { D with nx:=N,ct:=N,bk:=D.nx } σ2 H2:=by
 cases q:g x ρ S with
 | none=>rw[q]at e;cases e
 | some y=>
   rw[q]at e
   exact⟨μ,S,ρ,x,y,hr,er,rx,q,λμ1 σ1 H1 p1 k1 hr1 er1=>nL hr1 er1 e (p.trans p1) (kp.trans k1) fl hN⟩
theorem GJ{g:MG}{b:MS}{us:List U}{vs:List V}{ρ:Rho}{S:Sto}{μ:List Addr}{a:Addr}{r:Fl×Rho×Sto}(hr:HR K μ S H)(er:ER H μ ρ σ)(e:wD g b us ρ S=some r)(fl:FlP K μ H D r)(ha:H a=some (.tup vs))(ru:RUs H μ us vs):
  ∃W:Nat->Nat->St->Hp->Prop,(∃m,W 0 m σ H) /\ ∀k m σ H,W k m σ H ->
   ((Itt K a).stop k H/\D.nx σ H)\/((Itt K a).go k H /\ ∃N:St->Hp->Prop,(∀σ' H',N σ' H' -> ∃m',m'<m/\W (k+1) m' σ' H') /\ ∀x H',(Itt K a).yld k H x H'->tG K g x σ H' λσ2 H2=>tMS K b { D with nx:=N,ct:=N,bk:=D.nx } σ2 H2):=by
 refine⟨λk m σ1 H1=>m+k=us.length /\ ∃μ1 S1 ρ1,Pre μ μ1/\bh H H1/\HR K μ1 S1 H1/\ER H1 μ1 ρ1 σ1/\wD g b (us.drop k) ρ1 S1=some r,⟨us.length,rfl,μ,S,ρ,Pre.refl _,bh.refl _,hr,er,e⟩,?_⟩
 rintro k m σ1 H1 ⟨hm,μ1,S1,ρ1,p1,k1,hr1,er1,e1⟩
 have hq:SqT K H1 a vs:= .inl (.inl (k1 a vs ha))
 cases m with
 | zero=>
   have hk:k=us.length:=by omega
   subst hk
   rw[uI]at e1
   cases e1
   exact .inl ⟨⟨vs,hq,by rw[ru.len];exact ah _⟩,fl μ1 σ1 H1 p1 k1 hr1 er1⟩
 | succ m=>
   have hk:k<us.length:=by omega
   have hu:us[k]? = some us[k]:=by simp[hk]
   obtain⟨v,hv,rv⟩:=ru.get hu
   rw[drop_cons hu]at e1
   refine .inr ⟨⟨vs,v,hq,hv⟩,λσ2 H2 =>∃μ2 S2 ρ2,Pre μ μ2/\bh H H2/\HR K μ2 S2 H2/\ER H2 μ2 ρ2 σ2/\wD g b (us.drop (k+1)) ρ2 S2=some r,λσ' H' w=>⟨m,bD _,by omega,w⟩,λx H' y =>?_⟩
   obtain⟨e',y⟩:=y
   subst e'
   have hx:=y vs hq
   rw[hv]at hx;cases hx
   exact rZ hr1 er1 (RU.mono k1 p1 _ _ rv) e1 p1 k1 fl λμ2 σ2 H2 ρ2 S2 p2 k2 hr2 er2 e2=>⟨μ2,S2,ρ2,p2,k2,hr2,er2,e2⟩
theorem Gc{g:MG}{b:MS}{n f:Nat}{ρ:Rho}{S:Sto}{μ:List Addr}{a:Addr}{r:Fl×Rho×Sto}(hr:HR K μ S H)(er:ER H μ ρ σ)(e:uC g b n f 0 ρ S=some r)(fl:FlP K μ H D r)(ha:μ[n]? = some a):
  ∃W:Nat->Nat->St->Hp->Prop,(∃m,W 0 m σ H) /\ ∀k m σ H,W k m σ H ->
   ((Itl K a).stop k H/\D.nx σ H)\/((Itl K a).go k H /\ ∃N:St->Hp->Prop,(∀σ' H',N σ' H' -> ∃m',m'<m/\W (k+1) m' σ' H') /\ ∀x H',(Itl K a).yld k H x H'->tG K g x σ H' λσ2 H2=>tMS K b { D with nx:=N,ct:=N,bk:=D.nx } σ2 H2):=by
 refine⟨λk m σ1 H1 =>∃μ1 S1 ρ1,Pre μ μ1/\bh H H1/\HR K μ1 S1 H1/\ER H1 μ1 ρ1 σ1/\uC g b n m k ρ1 S1=some r,⟨f,μ,S,ρ,Pre.refl _,bh.refl _,hr,er,e⟩,?_⟩
 rintro k m σ1 H1 ⟨μ1,S1,ρ1,p1,k1,hr1,er1,e1⟩
 cases m with
 | zero=>cases e1
 | succ m=>
   unfold uC at e1
   cases q:getL S1 n with
   | none=>rw[q]at e1;cases e1
   | some us=>
     rw[q]at e1
     simp only[ag]at e1
     obtain⟨a',vs,ha',hs,rs⟩:=hr1.sq q
     rw[p1.get ha]at ha';cases ha'
     cases z:us[k]? with
     | none=>
       rw[z]at e1
       cases e1
       refine .inl ⟨⟨vs,hs,?_⟩,fl μ1 σ1 H1 p1 k1 hr1 er1⟩
       rw[<- rs.len];exact cH.mp z
     | some u=>
       rw[z]at e1
       obtain⟨v,hv,rv⟩:=rs.get z
       refine .inr ⟨⟨vs,v,hs,hv⟩,λσ2 H2 =>∃μ2 S2 ρ2,Pre μ μ2/\bh H H2/\HR K μ2 S2 H2/\ER H2 μ2 ρ2 σ2/\uC g b n m (k+1) ρ2 S2=some r,λσ' H' w=>⟨m,bD _,w⟩,λx H' y =>?_⟩
       obtain⟨e',y⟩:=y
       subst e'
       have hx:=y vs hs
       rw[hv]at hx;cases hx
       exact rZ hr1 er1 rv e1 p1 k1 fl λμ2 σ2 H2 ρ2 S2 p2 k2 hr2 er2 e2=>⟨μ2,S2,ρ2,p2,k2,hr2,er2,e2⟩
theorem Im{g:MG}{a:ME}{b:MS}(h:tMS K (nH g (cu a) b) D σ H):sX (λσ H R=>qI K (tM K a) σ H R\/yR K (tM K a) σ H R) (tG K g) (tMS K b) D σ H:=by
 obtain⟨μ,S,ρ,r,hr,er,e,fl⟩:=h
 obtain⟨src,S1,e1,e⟩:=bc e
 refine u0 hr er e1 (λμ1 H1 us p vs p1 k1 hr1 hs hp rs =>?_) λμ1 H1 n p p1 k1 hr1 hs hp =>?_
 ·subst hs
  exact GJ hr1 (er.mono k1 p1) e (fl.mono p1 k1) hp rs
 ·subst hs
  exact Gc hr1 (er.mono k1 p1) e (fl.mono p1 k1) hp
theorem Hg{a:MA}{R:It->Hp->Prop}{μ:List Addr}{S S1:Sto}{ρ:Rho}{src:Src}(hr:HR K μ S H)(er:ER H μ ρ σ)(e:CU a ρ S=some (src,S1))
  (hR: ∀μ1 H1 us p vs,Pre μ μ1->bh H H1->HR K μ1 S1 H1->src = .imm (ID us)->H1 p=some (.tup vs)->RUs H1 μ1 us vs->R (Ite K p) H1)
  (hL: ∀μ1 H1 n p,Pre μ μ1->bh H H1->HR K μ1 S1 H1->src = .enl n->μ1[n]? = some p->R (GD K p) H1):vf K (tMA K a) σ H R:=by
 obtain⟨xs,S2,e1,e⟩:=bc e
 split at e
 ·rename_i us
  cases e
  refine⟨μ,S,ρ,_,_,hr,er,e1,λμ1 vs H1 p1 k1 hr1 rs =>?_⟩
  obtain⟨v,r,rfl,rx,rn⟩:=rs.inv
  rw[rn.nil_inv]
  obtain⟨p,vs,rfl,hp,r⟩:=fE rx
  exact .inl ⟨p,vs,rfl,.inl (.inl hp),hR μ1 H1 _ p vs p1 k1 hr1 rfl hp r⟩
 ·rename_i n
  cases q:getL S2 n with
  | none=>rw[q]at e;cases e
  | some us=>
    rw[q]at e
    simp only[aT,dS,ya]at e
    obtain⟨e2,e3⟩:=e
    subst e3
    refine⟨μ,S,ρ,_,_,hr,er,e1,λμ1 vs H1 p1 k1 hr1 rs =>?_⟩
    obtain⟨v,r,rfl,rx,rn⟩:=rs.inv
    rw[rn.nil_inv]
    obtain⟨p,rfl,hp⟩:=eD rx
    obtain⟨a',ws,ha',hs,_⟩:=hr1.sq q
    rw[hp]at ha';cases ha'
    exact .inr ⟨p,ws,rfl,hs,hL μ1 H1 n p p1 k1 hr1 e2.symm hp⟩
 ·cases e
theorem J3{a:MA}{R:It->Hp->Prop}{μ:List Addr}{S S1:Sto}{ρ:Rho}{src:Src}(hr:HR K μ S H)(er:ER H μ ρ σ)(e:xS a ρ S=some (src,S1))
  (hR: ∀μ1 H1 n us p q vs,Pre μ μ1->bh H H1->HR K μ1 S1 H1->src = .zlt n us->μ1[n]? = some p->H1 q=some (.tup vs)->RUs H1 μ1 us vs->R (Itz K p q) H1):zm K (tMA K a) σ H R:=by
 obtain⟨xs,S2,e1,e⟩:=bc e
 split at e
 ·rename_i n us
  cases q:getL S2 n with
  | none=>rw[q]at e;cases e
  | some ws=>
    rw[q]at e
    simp only[aT,dS,ya]at e
    obtain⟨e2,e3⟩:=e
    subst e3
    refine⟨μ,S,ρ,_,_,hr,er,e1,λμ1 vs H1 p1 k1 hr1 rs =>?_⟩
    obtain⟨v,r,rfl,rx,rn⟩:=rs.inv
    obtain⟨v2,r2,rfl,ry,rn2⟩:=rn.inv
    rw[rn2.nil_inv]
    obtain⟨p,rfl,hp⟩:=eD rx
    obtain⟨p2,vs,rfl,hp2,r⟩:=fE ry
    obtain⟨a',zs,ha',hs,_⟩:=hr1.sq q
    rw[hp]at ha';cases ha'
    exact⟨p,p2,zs,vs,rfl,hs,.inl (.inl hp2),hR μ1 H1 n us p p2 vs p1 k1 hr1 e2.symm hp hp2 r⟩
 ·cases e
theorem Hz{g:MG}{b:MS}{n f:Nat}{us:List U}{vs:List V}{ρ:Rho}{S:Sto}{μ:List Addr}{a c:Addr}{r:Fl×Rho×Sto}(hr:HR K μ S H)(er:ER H μ ρ σ)(e:pM g b n us f 0 ρ S=some r)(fl:FlP K μ H D r)(ha:μ[n]? = some a)(hc:H c=some (.tup vs))(ru:RUs H μ us vs):
  ∃W:Nat->Nat->St->Hp->Prop,(∃m,W 0 m σ H) /\ ∀k m σ H,W k m σ H ->
   ((Itz K a c).stop k H/\D.nx σ H)\/((Itz K a c).go k H /\ ∃N:St->Hp->Prop,(∀σ' H',N σ' H' -> ∃m',m'<m/\W (k+1) m' σ' H') /\ ∀x H',(Itz K a c).yld k H x H'->tG K g x σ H' λσ2 H2=>tMS K b { D with nx:=N,ct:=N,bk:=D.nx } σ2 H2):=by
 refine⟨λk m σ1 H1 =>∃μ1 S1 ρ1,Pre μ μ1/\bh H H1/\HR K μ1 S1 H1/\ER H1 μ1 ρ1 σ1/\pM g b n us m k ρ1 S1=some r,⟨f,μ,S,ρ,Pre.refl _,bh.refl _,hr,er,e⟩,?_⟩
 rintro k m σ1 H1 ⟨μ1,S1,ρ1,p1,k1,hr1,er1,e1⟩
 have hq:SqT K H1 c vs:= .inl (.inl (k1 c vs hc))
 cases m with
 | zero=>cases e1
 | succ m=>
   unfold pM at e1
   cases q:getL S1 n with
   | none=>rw[q]at e1;cases e1
   | some xs=>
     rw[q]at e1
     simp only[ag]at e1
     obtain⟨a',ws,ha',hs,rs⟩:=hr1.sq q
     rw[p1.get ha]at ha';cases ha'
     cases z:xs[k]? with
     | none=>
       rw[z]at e1
       cases e1
       refine .inl ⟨⟨ws,vs,hs,hq,.inl ?_⟩,fl μ1 σ1 H1 p1 k1 hr1 er1⟩
       rw[<- rs.len];exact cH.mp z
     | some u=>
       rw[z]at e1
       obtain⟨v,hv,rv⟩:=rs.get z
       cases z2:us[k]? with
       | none=>
         simp only[z2]at e1
         cases e1
         refine .inl ⟨⟨ws,vs,hs,hq,.inr ?_⟩,fl μ1 σ1 H1 p1 k1 hr1 er1⟩
         rw[<- ru.len];exact cH.mp z2
       | some y=>
         simp only[z2]at e1
         obtain⟨v2,hv2,rv2⟩:=ru.get z2
         refine .inr ⟨⟨ws,v,vs,v2,hs,hv,hq,hv2⟩,λσ2 H2 =>∃μ2 S2 ρ2,Pre μ μ2/\bh H H2/\HR K μ2 S2 H2/\ER H2 μ2 ρ2 σ2/\pM g b n us m (k+1) ρ2 S2=some r,λσ' H' w=>⟨m,bD _,w⟩,λx H' yl =>?_⟩
         obtain⟨T,w1,w2,hy1,hy2,hT,rfl,rfl⟩:=yl
         have hyk:=hy1 ws hs
         rw[hv]at hyk;cases hyk
         have hyk2:=hy2 vs hq
         rw[hv2]at hyk2;cases hyk2
         have kp:bh H1 (upd H1 T (.tup [v,v2])):=bh.new hT
         have rx:RU (upd H1 T (.tup [v,v2])) μ1 (.tup [u,y]) (.ref T):=g9 cw (.cons (RU.mono kp (Pre.refl _) _ _ rv) (.cons (RU.mono (k1.trans kp) p1 _ _ rv2) .nil))
         exact rZ (hr1.tup hT) (er1.mono kp (Pre.refl _)) rx e1 p1 (k1.trans kp) fl λμ2 σ2 H2 ρ2 S2 p2 k2 hr2 er2 e2=>⟨μ2,S2,ρ2,p2,k2,hr2,er2,e2⟩
theorem Lj{g:MG}{a:MA}{b:MS}(h:tMS K (nH g (xS a) b) D σ H):sX (zm K (tMA K a)) (tG K g) (tMS K b) D σ H:=by
 obtain⟨μ,S,ρ,r,hr,er,e,fl⟩:=h
 obtain⟨src,S1,e1,e⟩:=bc e
 refine J3 hr er e1 λμ1 H1 n us p q vs p1 k1 hr1 hs hp hq rs =>?_
 subst hs
 exact Hz hr1 (er.mono k1 p1) e (fl.mono p1 k1) hp hq rs
end
end
end _G
end
section
namespace _G
open PySem PySem.Spec _L
open PyProof.Rows hiding St
section
noncomputable def AY(n:Nat):U->Option (List U)
 | .tup us=>if us.length=n then some us else none
 | _=>none
noncomputable def ig(c:Nat)(t:MT)(e:ME)(ρ:Rho)(n:Nat):Nat->Nat->List U->Sto->Res (List U)
 | 0,_,_,_=>none
 | f+1,i,acc,S=>(getL S n).bind λws=>match ws[i]? with
   | none=>some (acc,S)
   | some x=>(AY c x).bind λus=>bnd (t (ρ++us.map some) S) λk S1=>if k then bnd (e (ρ++us.map some) S1) λy S2=>ig c t e ρ n f (i+1) (acc++[y]) S2 else ig c t e ρ n f (i+1) acc S1
noncomputable def ip(t:MT)(e:ME)(ρ:Rho)(n:Nat):Nat->Nat->List U->Sto->Res (List U)
 | 0,_,_,_=>none
 | f+1,i,acc,S=>(getL S n).bind λws=>match ws[i]? with
   | none=>some (acc,S)
   | some x=>bnd (t (ρ++[some (.int i),some x]) S) λk S1=>if k then bnd (e (ρ++[some (.int i),some x]) S1) λy S2=>ip t e ρ n f (i+1) (acc++[y]) S2 else ip t e ρ n f (i+1) acc S1
noncomputable def Cn(c:Nat)(t:MT)(e:ME)(ρ:Rho):Src->Sto->Res (List U)
 | .mut n,S=>ig c t e ρ n fuel 0 [] S
 | .enl n,S=>if c=2 then ip t e ρ n fuel 0 [] S else none
 | _,_=>none
noncomputable def iZ(c:Nat)(it:MI)(t:MT)(e:ME):ME:=λρ S=>bnd (it ρ S) λsrc S1=>bnd (Cn c t e ρ src S1) λys S2=>if ys.length<big then some (.ref S2.length,S2++[.lst ys]) else none
theorem mT{c:Nat}{t:MT}{e:ME}{ρ:Rho}{n:Nat}: ∀{f i:Nat}{acc ys:List U}{S S':Sto},ig c t e ρ n f i acc S=some (ys,S')->acc.length<=ys.length
 | 0,i,acc,ys,S,S',h=>by cases h
 | f+1,i,acc,ys,S,S',h=>by
   unfold ig at h
   cases q0:getL S n with
   | none=>rw[q0]at h;cases h
   | some vs=>
     rw[q0]at h
     simp only[ag]at h
     cases z:vs[i]? with
     | none=>rw[z]at h;cases h;exact ah _
     | some x=>
       rw[z]at h
       simp only at h
       cases q:AY c x with
       | none=>rw[q]at h;cases h
       | some ws=>
         rw[q]at h
         simp only[ag]at h
         obtain⟨k,S1,e1,h⟩:=bc h
         cases k with
         | true=>
           obtain⟨y,S2,e2,h⟩:=bc (show bnd (e (ρ++ws.map some) S1) (λy S2=>ig c t e ρ n f (i+1) (acc++[y]) S2)=some (ys,S') from h)
           have:=mT h
           simp at this;omega
         | false=>exact mT (show ig c t e ρ n f (i+1) acc S1=some (ys,S') from h)
theorem mU{t:MT}{e:ME}{ρ:Rho}{n:Nat}: ∀{f i:Nat}{acc ys:List U}{S S':Sto},ip t e ρ n f i acc S=some (ys,S')->acc.length<=ys.length
 | 0,i,acc,ys,S,S',h=>by cases h
 | f+1,i,acc,ys,S,S',h=>by
   unfold ip at h
   cases q0:getL S n with
   | none=>rw[q0]at h;cases h
   | some vs=>
     rw[q0]at h
     simp only[ag]at h
     cases z:vs[i]? with
     | none=>rw[z]at h;cases h;exact ah _
     | some x=>
       rw[z]at h
       simp only at h
       obtain⟨k,S1,e1,h⟩:=bc h
       cases k with
       | true=>
         obtain⟨y,S2,e2,h⟩:=bc (show bnd (e (ρ++[some (.int i),some x]) S1) (λy S2=>ip t e ρ n f (i+1) (acc++[y]) S2)=some (ys,S') from h)
         have:=mU h
         rw[aV]at this
         exact aM (dX _ _) this
       | false=>exact mU (show ip t e ρ n f (i+1) acc S1=some (ys,S') from h)
section
variable {K:KX}{σ:St}{H:Hp}{Q:VK}
theorem ER.pushs{μ:List Addr}: ∀{us:List U}{vs:List V}{ρ:Rho}{σ:St},ER H μ ρ σ->RUs H μ us vs->ER H μ (ρ++us.map some) (σ++vs.map some)
 | [],vs,ρ,σ,er,r=>by rw[r.nil_inv];simpa using er
 | u::us,vs,ρ,σ,er,r=>by
   obtain⟨v,r',rfl,a,b⟩:=r.inv
   have:=ER.pushs (er.push a) b
   simpa using this
theorem CG{μ:List Addr}{c:Nat}{x:U}{v:V}{us:List U}(r:RU H μ x v)(e:AY c x=some us): ∃a vs,v = .ref a/\SqT K H a vs/\vs.length=c/\RUs H μ us vs:=by
 unfold AY at e
 split at e
 ·split at e
  ·rename_i hl
   cases e
   obtain⟨a,vs,rfl,ha,rs⟩:=fE r
   exact⟨a,vs,rfl,.inl (.inl ha),by rw[<- rs.len];exact hl,rs⟩
  ·cases e
 ·cases e
noncomputable def Dv(c:Nat)(K:aj)(J:It)(σ:St)(tt:TT)(te:TE)(H1:Hp)(Q:VK):Prop:= ∃W:Nat->Nat->List V->Hp->Prop,(∃m,W 0 m [] H1) /\ ∀i m ys H,W i m ys H->ys.length<sizeLine /\
 ((J.stop i H /\ ∀D,H D=none->Q (.ref D) (upd H D (.lst ys))) \/
  (J.go i H /\ ∀x H',J.yld i H x H'->gTt K c x H' λτ H2=>tt (σ++τ) H2 λb H3=>if b=true then te (σ++τ) H3 λy H4 =>∃m',m'<m/\W (i+1) m' (ys++[y]) H4 else ∃m',m'<m/\W (i+1) m' ys H3))
theorem BE{c:Nat}{t:MT}{e:ME}{ρ:Rho}{n f:Nat}{ys:List U}{μ:List Addr}{S S':Sto}{p:Addr}(hr:HR K μ S H)(er:ER H μ ρ σ)(h:ig c t e ρ n f 0 [] S=some (ys,S'))(hz:ys.length<big)(k:Aft K μ H (.ref S'.length) (S'++[.lst ys]) Q)
  (hp:μ[n]? = some p):Dv c K (Itl K p) σ (tMT K t) (tM K e) H Q:=by
 have hz':ys.length<sizeLine:=by unfold big at hz;rw[sizeLine_eq];exact hz
 refine⟨λi m acc H1 =>∃μ1 S1 au,Pre μ μ1/\bh H H1/\HR K μ1 S1 H1/\RUs H1 μ1 au acc/\ig c t e ρ n m i au S1=some (ys,S'),⟨f,μ,S,[],Pre.refl _,bh.refl _,hr,.nil,h⟩,?_⟩
 rintro i m acc H1 ⟨μ1,S1,au,p1,k1,hr1,ra,e1⟩
 have hl:=mT e1
 have hl2:=ra.len
 refine⟨by omega,?_⟩
 cases m with
 | zero=>cases e1
 | succ m=>
   unfold ig at e1
   cases q0:getL S1 n with
   | none=>rw[q0]at e1;cases e1
   | some us=>
     rw[q0]at e1
     simp only[ag]at e1
     obtain⟨a',vs,ha',hs,rs⟩:=hr1.sq q0
     rw[p1.get hp]at ha';cases ha'
     cases z:us[i]? with
     | none=>
       rw[z]at e1
       cases e1
       exact .inl ⟨⟨vs,hs,by rw[<- rs.len];exact cH.mp z⟩,λD hD=>gZ (k.mono p1 k1) hr1 ra hD⟩
     | some u=>
       rw[z]at e1
       obtain⟨v,hv,rv⟩:=rs.get z
       simp only at e1
       cases q:AY c u with
       | none=>rw[q]at e1;cases e1
       | some ws=>
         rw[q]at e1
         simp only[ag]at e1
         obtain⟨b,S2,e2,e1⟩:=bc e1
         refine .inr ⟨⟨vs,v,hs,hv⟩,λx H' y =>?_⟩
         obtain⟨e',y⟩:=y
         subst e'
         have hx:=y vs hs
         rw[hv]at hx;cases hx
         obtain⟨a,xs,rfl,hsx,hc,rw'⟩:=CG (K:=K) rv q
         refine⟨a,xs,rfl,hsx,hc,?_⟩
         have er1:ER _ μ1 (ρ++ws.map some) (σ++xs.map some):=ER.pushs (er.mono k1 p1) rw'
         refine⟨μ1,S1,_,b,S2,hr1,er1,e2,λμ2 H2 p2 k2 hr2 =>?_⟩
         have ra2:=RUs.mono k2 p2 _ _ ra
         cases b with
         | true=>
           obtain⟨y',S3,e3,e1⟩:=bc (show bnd (e (ρ++ws.map some) S2) (λy S2=>ig c t e ρ n m (i+1) (au++[y]) S2)=some (ys,S') from e1)
           refine nY ⟨μ2,S2,_,y',S3,hr2,er1.mono k2 p2,e3,λμ3 v3 H3 p3 k3 hr3 rv3 =>?_⟩
           exact⟨m,bD _,μ3,S3,au++[y'],p1.trans (p2.trans p3),k1.trans (k2.trans k3),hr3,(RUs.mono k3 p3 _ _ ra2).append (.cons rv3 .nil),e1⟩
         | false=>
           exact nA ⟨m,bD _,μ2,S2,au,p1.trans p2,k1.trans k2,hr2,ra2,e1⟩
theorem BK{t:MT}{e:ME}{ρ:Rho}{n f:Nat}{ys:List U}{μ:List Addr}{S S':Sto}{p:Addr}(hr:HR K μ S H)(er:ER H μ ρ σ)(h:ip t e ρ n f 0 [] S=some (ys,S'))(hz:ys.length<big)(k:Aft K μ H (.ref S'.length) (S'++[.lst ys]) Q)
  (hp:μ[n]? = some p):Dv 2 K (GD K p) σ (tMT K t) (tM K e) H Q:=by
 have hz':ys.length<sizeLine:=by unfold big at hz;rw[sizeLine_eq];exact hz
 refine⟨λi m acc H1 =>∃μ1 S1 au,Pre μ μ1/\bh H H1/\HR K μ1 S1 H1/\RUs H1 μ1 au acc/\ip t e ρ n m i au S1=some (ys,S'),⟨f,μ,S,[],Pre.refl _,bh.refl _,hr,.nil,h⟩,?_⟩
 rintro i m acc H1 ⟨μ1,S1,au,p1,k1,hr1,ra,e1⟩
 refine⟨by rw[<- ra.len];exact aL (mU e1) hz',?_⟩
 cases m with
 | zero=>cases e1
 | succ m=>
   unfold ip at e1
   cases q0:getL S1 n with
   | none=>rw[q0]at e1;cases e1
   | some us=>
     rw[q0]at e1
     simp only[ag]at e1
     obtain⟨a',vs,ha',hs,rs⟩:=hr1.sq q0
     rw[p1.get hp]at ha';cases ha'
     cases z:us[i]? with
     | none=>
       rw[z]at e1
       cases e1
       exact .inl ⟨⟨vs,hs,by rw[<- rs.len];exact cH.mp z⟩,λD hD=>gZ (k.mono p1 k1) hr1 ra hD⟩
     | some u=>
       rw[z]at e1
       obtain⟨v,hv,rv⟩:=rs.get z
       simp only at e1
       refine .inr ⟨⟨vs,v,hs,hv⟩,λx H' y =>?_⟩
       obtain⟨T,w,hy,hT,rfl,rfl⟩:=y
       have hyk:=hy vs hs
       rw[hv]at hyk;cases hyk
       have kp:bh H1 (upd H1 T (.tup [.int i,v])):=bh.new hT
       have rw':RUs (upd H1 T (.tup [.int i,v])) μ1 [.int i,u] [.int i,v]:= .cons eV (.cons (RU.mono kp (Pre.refl _) _ _ rv) .nil)
       refine⟨T,[.int i,v],rfl,.inl (.inl cw),rfl,?_⟩
       exact pv (next:=ip t e ρ n m (i+1)) (λacc H1 =>∃m',m'<m+1 /\ ∃μ1 S1 au,Pre μ μ1/\bh H H1/\HR K μ1 S1 H1/\RUs H1 μ1 au acc/\ip t e ρ n m' (i+1) au S1=some (ys,S')) (hr1.tup hT) (ER.pushs ((er.mono k1 p1).mono kp (Pre.refl _)) rw') (RUs.mono kp (Pre.refl _) _ _ ra) e1 λμ2 S2 au2 acc2 H2 p2 k2 hr2 ra2 q=>⟨m,bD _,μ2,S2,au2,p1.trans p2,(k1.trans kp).trans k2,hr2,ra2,q⟩
theorem MP{c:Nat}{a:MA}{t:MT}{e:ME}(h:tM K (iZ c (CU a) t e) σ H Q):oQ (gTt K c) (vf K (tMA K a)) (tMT K t) (tM K e) σ H Q:=by
 obtain⟨μ,S,ρ,u,S',hr,er,e0,k⟩:=h
 obtain⟨src,S1,e1,e0⟩:=bc e0
 obtain⟨ys,S2,e2,e0⟩:=bc e0
 split at e0
 ·rename_i hz
  cases e0
  refine Hg hr er e1 (λμ1 H1 us p vs p1 k1 hr1 hs hp rs =>?_) λμ1 H1 n p p1 k1 hr1 hs hp =>?_
  ·subst hs
   cases (show none=some (ys,S2) from e2)
  ·subst hs
   have e2:(if c=2 then ip t e ρ n fuel 0 [] S1 else none)=some (ys,S2):=e2
   split at e2
   ·rename_i hc
    subst hc
    exact BK hr1 (er.mono k1 p1) e2 hz (k.mono p1 k1) hp
   ·cases e2
 ·cases e0
theorem MJ{c:Nat}{a:ME}{t:MT}{e:ME}(h:tM K (iZ c (cu a) t e) σ H Q):oQ (gTt K c) (λσ H R=>qI K (tM K a) σ H R\/yR K (tM K a) σ H R) (tMT K t) (tM K e) σ H Q:=by
 obtain⟨μ,S,ρ,u,S',hr,er,e0,k⟩:=h
 obtain⟨src,S1,e1,e0⟩:=bc e0
 obtain⟨ys,S2,e2,e0⟩:=bc e0
 split at e0
 ·rename_i hz
  cases e0
  refine u0 hr er e1 (λμ1 H1 us p vs p1 k1 hr1 hs hp rs =>?_) λμ1 H1 n p p1 k1 hr1 hs hp =>?_
  ·subst hs
   cases (show none=some (ys,S2) from e2)
  ·subst hs
   exact BE hr1 (er.mono k1 p1) e2 hz (k.mono p1 k1) hp
 ·cases e0
end
end
end _G
end
section
namespace _G
open PySem PySem.Spec _L
open PyProof.Rows hiding St
section
section
variable {prog:Program}{w:World}{A:Around}{E:Value->Shared->Prop}{s:Shared}
theorem tu{Q:List Value->Shared->Prop}{r:Addr}{a b c:Int}{t u v:Tok}{n:Nat}(hh:A.handled=none)(hr:IsRange s.heap r a b c t u v)(hsmall:lJ a b c=true)
  (hn:dP a b c=n) (hlen:n<=2 ^ 24)
  (hQ: ∀(h':Heap) (tk:Nat) (acc:Array Value),(∀b o,s.heap.get? b=some o->h'.get? b=some o)->s.heap.objs.size<=h'.objs.size->ItemsOf (λi v =>∃t,v = .int (a+i*c) t) acc n->Q acc.toList { s with heap:=h',toks:=tk }):
  aH (model prog w) A (collect (.ref r)) Q E s:=by
 unfold collect
 refine ab (E4 (gp pC ?_))
 rw[dY pD _]
 show aH _ A.in1 (newList [] >>= fun l=>again (.builtin "list.__iadd__" ⟨[l,.ref r],[]⟩)) _ _ s
 refine ab (bP (ar ⟨plainId_quiet gw _,gp vX ?_⟩))
 rw[dY gw _]
 have hS:(s.heap.push { cls := .type "list",data := .seq ([]:List Value).toArray }).get? s.heap.objs.size=some { cls := .type "list",data := .seq #[] 0 }:=aw _ rfl
 have lt: ∀b o,s.heap.get? b=some o->b≠s.heap.objs.size:=λb o e=>aQ (ax e)
 refine dc (wpAny_extend_range (A:=A) (R:=λx s' =>∃h' tk acc c',x = .ok (.ret (.ref s.heap.objs.size))/\s'={ s with heap:=h',toks:=tk }/\(∀b o,s.heap.get? b=some o->h'.get? b=some o) /\
   h'.get? s.heap.objs.size=some { cls := .type "list",dict:=none,data := .seq acc c',slots := #[] }/\ItemsOf (fun i v => ∃ t,v = .int (a+i*c) t) acc n)
  (s:={ s with heap:=s.heap.push { cls := .type "list",data := .seq ([]:List Value).toArray } }) hh (af _ hr) hsmall hn hlen s.heap.objs.size (.ref s.heap.objs.size) 0 hS
  λh' tk acc c' hk hS' hacc=>⟨h',tk,acc,c',rfl,rfl,λb o e=>hk b o (lt b o e) (af _ e),hS',hacc⟩) (λfin s' h =>?_) (λe s' h=>by obtain⟨_,_,_,_,h,_⟩:=h;cases h)
 have fin': ∀x s',(∃h' tk acc c',x=(.ok (.ret (.ref s.heap.objs.size)):Result)/\s'={ s with heap:=h',toks:=tk }/\(∀b o,s.heap.get? b=some o->h'.get? b=some o) /\
   h'.get? s.heap.objs.size=some { cls := .type "list",dict:=none,data := .seq acc c',slots := #[] }/\ItemsOf (fun i v => ∃ t,v = .int (a+i*c) t) acc n)->x = .ok (.ret (.ref s.heap.objs.size))/\aH (model prog w) A (match bj s.heap.objs.size with
   | bj a=>do
     match (<- load a).data with
      | sy xs _=>pure xs.toList
      | _=>unsupported "internal:collect"
   | _=>unsupported "internal:collect") Q E s':=by
  rintro x s' ⟨h',tk,acc,c',rfl,rfl,hk,hS',hacc⟩
  refine⟨rfl,?_⟩
  show aH _ A (load s.heap.objs.size >>= _) _ _ _
  refine ab (EW hS' (ar ?_))
  exact hQ h' tk acc hk (aU (ax hS')) hacc
 cases fin with
 | done f=>
   obtain⟨e,q⟩:=fin' _ _ h
   cases e
   exact q
 | again c'=>exact⟨h.1,kD h.2 λr s'' hr=>by
   obtain⟨e,q⟩:=fin' _ _ hr
   subst e
   exact q⟩
theorem lq{Q₁:Value->Shared->Prop}{r:Addr}{a b c:Int}{t u v:Tok}{n:Nat}(hh:A.handled=none)(hr:IsRange s.heap r a b c t u v)(hsmall:lJ a b c=true)
  (hn:dP a b c=n) (hlen:n<=2 ^ 24)
  (h : ∀ (h':Heap) (tk:Nat) (acc:Array Value),(∀ b o,s.heap.get? b=some o->h'.get? b=some o)->s.heap.objs.size<=h'.objs.size->ItemsOf (fun i v => ∃ t,v = .int (a+i*c) t) acc n->Q₁ (.ref h'.objs.size) { s with heap:=h'.push { cls := .type "tuple",data := .seq acc },toks:=tk }) :
  sv (model prog w) A (.call (.builtin "tuple.__new__") ⟨[.type "tuple",.ref r],[]⟩) (wants Q₁ E) s:=by
 refine codeAny_of_tree ?_
 show aH _ A.in1 (do checkBuiltinCall "tuple.__new__" ⟨[.type "tuple",.ref r],[]⟩;again (.builtin "tuple.__new__" ⟨[.type "tuple",.ref r],[]⟩)) _ _ s
 refine ab (wpAny_of_eq (F.newCall_tuple_1 _) (ar ⟨plainId_quiet F.plain_tuple_new _,gp F.entry_tuple_new ?_⟩))
 rw[dY F.plain_tuple_new _]
 have hsub:=sub_tuple_self
 have hinit:=init_tuple_lookup
 have hmh:=madeHere_tuple
 have hTI:s.TypeIs (.ref r) "range":=⟨_,hr,rfl⟩
 have hh1:A.in1.handled=none:=hh
 wp_walk using jq hTI,tu hh1 hr hsmall hn hlen
 intro h' tk acc hk hle hacc
 show aH _ _ (bO acc.toList.toArray >>= λv=>ret v) _ _ _
 unfold bO
 refine ab (bP ?_ (by show acc.toList.toArray.size<=sizeLine;simp only[Array.toArray_toList];rw[hacc.1,sizeLine_eq];exact hlen))
 refine ar ?_
 have e:acc.toList.toArray=acc:=by simp
 rw[e]
 exact h h' tk acc hk hle hacc
theorem o8{Q:Value->Shared->Prop}{r:Addr}{a b c:Int}{t u v:Tok}{n:Nat}(hh:A.handled=none)(hr:IsRange s.heap r a b c t u v)(hsmall:lJ a b c=true)
  (hn:dP a b c=n) (hlen:n<=2 ^ 24)
  (h : ∀ (h':Heap) (tk:Nat) (acc:Array Value),(∀ b o,s.heap.get? b=some o->h'.get? b=some o)->s.heap.objs.size<=h'.objs.size->ItemsOf (fun i v => ∃ t,v = .int (a+i*c) t) acc n->Q (.ref h'.objs.size) { s with heap:=h'.push { cls := .type "tuple",data := .seq acc },toks:=tk }) :
  aH (model prog w) A (call (.type "tuple") [.ref r]) Q E s:=by
 refine callType_codes (Q₁:=fun obj s₁=>s₁.TypeIs obj "tuple"/\Q obj s₁) F.called_tuple (F.typeCall_tuple_1 _) F.entry_object_init
  (lq hh hr hsmall hn hlen λh' tk acc hk hle hacc=>⟨⟨_,aw _ rfl,rfl⟩,h h' tk acc hk hle hacc⟩) λobj s₁ h₁ =>?_
 exact⟨h₁.1,F.args_object_init_2 obj _,object_init_meets F.called_tuple.init.lookup F.called_tuple.made (by decide) prog w A.in1 _ s₁ ⟨h₁.1,rfl,h₁.2⟩⟩
end
theorem rY {X:Cx} (hc:X.calm=true):gS X (.type "tuple") (fun xs H Q => ∃ r lo hi,xs = [.ref r]/\H r=some (.rng lo hi)/\(-(2 ^ 62)<=lo/\lo < 2 ^ 62 /\ -(2 ^ 62)<=hi/\hi < 2 ^ 62)/\(hi - lo).toNat<=sizeLine /\ ∀ l,H l=none->Q (.ref l) (upd H l (.tup (kB lo (hi - lo).toNat)))):=by
 intro pins s σ H xs us Q I rs h
 obtain⟨r,lo,hi,rfl,hr,⟨h1,h2,h3,h4⟩,hz,q⟩:=h
 cases rs with
 | cons r1 rr=>
   cases rr
   cases (show _=bj r from r1)
   obtain⟨t,u,v,e⟩:=I.hok r _ hr
   have hn:dP lo hi 1=((hi - lo).toNat:Nat):=by rw[rangeSize_one];split <;> omega
   refine o8 (n:=(hi - lo).toNat) (I.ok.hd hc) e (small_one h1 h2 h3 h4) hn (by rw[sizeLine_eq]at hz;exact hz) λh' tk acc hk hle hacc =>?_
   obtain⟨hsz,hit⟩:=hacc
   refine⟨.ref h'.objs.size,_,I.laid (t':=tk) (o:= .tup (kB lo (hi - lo).toNat)) (λb o e=>af _ (hk b o e)) hle ?_,rfl,q _ (I.hok.fresh hle)⟩
   refine⟨by rw[kB,aq,bp];exact hz,acc.toList,?_,lI _ _,_,aw _ rfl,rfl⟩
   refine uT (by rw[kB,aq,bp,ej,hsz]) λi x w h5 h6 =>?_
   have hlt:i<(hi - lo).toNat:=by
    have:=(ai.mp h5).1
    rwa[kB,aq,bp]at this
   have hx:(kB lo (hi - lo).toNat)[i]? = some (.int (lo+i)):=by simp[kB,hlt]
   rw[hx]at h5;cases h5
   obtain⟨t',e'⟩:=hit i w (by simpa using h6)
   exact⟨t',by rw[e'];simp⟩
section
variable {K:KX}{σ:St}{H:Hp}{Q:VK}
noncomputable def rTR:List V->Hp->VK->Prop:=λxs H Q =>∃r lo hi,xs = [.ref r]/\H r=some (.rng lo hi)/\(-(2 ^ 62)<=lo/\lo<2 ^ 62 /\ -(2 ^ 62)<=hi/\hi<2 ^ 62)/\(hi - lo).toNat<=sizeLine /\ ∀l,H l=none->Q (.ref l) (upd H l (.tup (kB lo (hi - lo).toNat)))
theorem DU{μ:List Addr}{S1:Sto}{i j:Int}{r:Addr}(hr1:HR K μ S1 H)(ho:okR i/\okR j)(hz:(bK i (j - i).toNat).length<=big)(k:Aft K μ H (.tup (bK i (j - i).toNat)) S1 Q)(hrn:H r=none):rTR [.ref r] (upd H r (.rng i j)) Q:=by
 refine⟨r,i,j,rfl,cw,⟨ho.1.1,ho.1.2,ho.2.1,ho.2.2⟩,?_,λl hl =>?_⟩
 ·unfold bK big at hz;rw[aq,bp]at hz;rw[sizeLine_eq];exact hz
 ·have k2:=k.mono (Pre.refl _) (bh.new hrn (o:= .rng i j))
  exact k2 μ _ _ (Pre.refl _) (bh.new hl) ((hr1.rng hrn).tup hl) (g9 cw (RUs.mono (bh.new hl) (Pre.refl _) _ _ (zX _ _)))
theorem FA{a:MA}(h:tM K (rq (iR1 a)) σ H Q):tCB rTR (uz (IB (tMA K a)) AF) σ H Q:=by
 obtain⟨μ,S,ρ,u,S',hr,er,e,k⟩:=h
 obtain⟨src,S1,e1,e⟩:=bc e
 obtain⟨xs,S2,e2,e1⟩:=bc e1
 refine⟨μ,S,ρ,xs,S2,hr,er,e2,λμ1 vs H1 p1 k1 hr1 rs =>?_⟩
 split at e1
 ·rename_i j
  split at e1
  ·rename_i hj
   cases e1
   simp only at e
   split at e
   ·rename_i hz
    cases e
    obtain⟨v,r,rfl,rx,rn⟩:=rs.inv
    rw[rn.nil_inv,dA rx]
    refine⟨j,rfl,hj.1,hj.2,λr hrn =>?_⟩
    have ez:(j - 0).toNat=j.toNat:=by simp
    exact DU (i:=0) hr1 ⟨⟨by decide,by decide⟩,hj⟩ (by rw[ez];exact hz) (by rw[ez];exact k.mono p1 k1) hrn
   ·cases e
  ·cases e1
 ·cases e1
end
end
end _G
end
section
namespace _G
open PySem PySem.Spec _L
open PyProof.Rows hiding St
section
noncomputable def A2(i:Nat)(f:Addr)(φ:MF)(a:MA):ME:=λρ S=>match ρ[i]? with
 | some (some (.obj g))=>if g=f then mFn φ a ρ S else none
 | _=>none
noncomputable def mL(is:List Nat)(ρ:Rho):Option (List U):=dq (λi=>(ρ[i]?).bind id) is
noncomputable def rN(np:Nat)(ml:ME)(cs:List U):MF:=λus S=>if us.length=np then ml (us.map some++cs.map some) S else none
noncomputable def mM(F:Addr->MF->MF)(np:Nat)(is:List Nat)(ml:ME)(ma:ME):ME:=λρ S=>bnd (ma ρ S) λx S1=>(mL is ρ).bind λcs=>
 open Classical in
 if h: ∃r,∀f,F f (rN np ml cs) [x,.obj f] S1=some r then some h.choose else none
theorem CJ{F:Addr->MF->MF}{np:Nat}{is:List Nat}{ml ma:ME}{ρ:Rho}{S S1:Sto}{x:U}{cs:List U}{r:U×Sto}(ha:ma ρ S=some (x,S1))(hc:mL is ρ=some cs)(h: ∀f,F f (rN np ml cs) [x,.obj f] S1=some r):
  mM F np is ml ma ρ S=some r:=by
 have hx: ∃r,∀f,F f (rN np ml cs) [x,.obj f] S1=some r:=⟨r,h⟩
 unfold mM
 rw[ha]
 simp only[aF,hc,ag]
 rw[dif_pos hx]
 have e:=(hx.choose_spec 0).symm.trans (h 0)
 exact e
end
structure Lam(M:Mo)(f:Addr)(k:Nat)(ps:List Str)(φ:MF):Prop where
 ex: ∃fd:FuncData,((∃(oc:Value) (od:Option Addr) (sl:Array (Option Value)),M.base.get? f=some ⟨oc,od,.func fd,sl⟩)\/cm M.K (.ref f)=true)/\Binds M.K fd ps []/\jW M.P M.w M.K M.mg M.base CX0 k f fd ps (spM M.K φ)
section
variable {M:Mo}{X:Cx}{k:Nat}{N:List Str}{ns:List (Str×NameKind)}{e:Expr}{es:List Expr}{mas:MA}{x:Str}{p1 pos:Pos}
theorem HM{f:Addr}{φ:MF}{ps:List Str}{k':Nat}(S:Sc M X k N ns)(F:Lam M f k' ps φ)(hk:k'<=k)(i:Nat)(hi:N[i]? = some x)(hv:tm ns x=true)(ha:PA X (e::es) (tMA M.K mas))
  (hd:(x == ("__debug__":Str))=false) (hcd:(x == ("__classdict__":Str))=false)
  (he:starEach (e::es) X.env=(false,eval e X.env)::starEach es X.env) (hpl:(backTo pos (starEach es X.env)).any (·.1)=false):
  PE X (.Call (.Name x p1) (e::es) [] pos) (tM M.K (A2 i f φ mas)):=by
 obtain⟨fd,hf,hb,F⟩:=F.ex
 rw[<- S.hP,<- S.hw,<- S.hK,<- S.hm,<- S.hb]at F
 rw[<- S.hb,<- S.hK]at hf
 rw[<- S.hK]at hb
 intro pins s σ H Q I h
 obtain⟨μ,S0,ρ,u,S',hr,er,q,aft⟩:=h
 unfold A2 at q
 split at q
 rotate_left
 ·cases q
 rename_i g hg
 split at q
 rotate_left
 ·cases q
 rename_i hgf
 subst hgf
 obtain⟨v,hσ,rv⟩:=er.get i _ hg
 have hv':v = .ref g:=by simpa only [RU]using rv
 subst hv'
 refine fY (thn (Dx (X:=X) (by rw[S.hN];exact hi) (S.vis hv) hd hcd pins s σ H (λv H1=>v = .ref g/\H1=H) I ⟨_,hσ,rfl,rfl⟩) λw s1 ⟨v,H1,I1,r1,e1,e2⟩ =>?_)
 subst e1;subst e2
 obtain rfl:w=bj g:=r1
 have hc:zx (spM M.K φ) [] E0 (tMA M.K mas) σ H1 Q:=CN ⟨μ,S0,ρ,u,S',hr,er,q,aft⟩
 have hA:=ha pos pins s1 σ H1 _ I1 hc
 rcases hf with⟨oc,od,sl,hf⟩ |hf
 rotate_left
 ·exact pA (h₀:=X.base) I1.ok.mod.kin hf (thn hA λus s2 ⟨vs,H2,I2,r2,q2⟩=>⟨I2.kIn,vS F (S.room.mono hk) hb .nil zA I2 r2 q2⟩) he hpl
 rw[he]
 refine PySem.W.callWith_of (P:=λh=>h.get? g=some ⟨oc,od,.func fd,sl⟩) (by show((false||(backTo pos (starEach es X.env)).any (·.1))||false)=false;rw[hpl];rfl)
  (λh q=>⟨.frame,.inl rfl,(PySem.W.Looks.ld (part:=none) q).andThen .now⟩) (oy ?_)
 rw[he]at hA
 refine thn hA λus s2 ⟨vs,H2,I2,r2,q2⟩=>⟨I2.bk g _ hf,?_⟩
 exact vS F (S.room.mono hk) hb .nil zA I2 r2 q2
end
end _G
end
section
namespace _G
open PySem PySem.Spec _L
open PySem.W (envX kla_fn kla_obj CodeHd tabObj)
open PyProof.Rows hiding St
structure lg(ps fs:List Str)(scope:Scope):Prop where
 kind:scope.kind = .function
 co:scope.isCoroutine=false
 gen:scope.isGenerator=false
 nd:(ps++fs).Nodup
 par: ∀p∈ps,scope.names.lookup p=some .local\/scope.names.lookup p=some .cell
 cel: ∀x∈scope.names,x.2 = .cell->scope.names.lookup x.1=some .cell
 fre: ∀y∈scope.names,y.2 = .free->y.1∈fs
 free: ∀y∈fs,scope.names.lookup y=some .free
theorem mW: ∀(names:List (Str×NameKind)) (n:Nat) (a b:List (Str×Addr)),cellsFrom n names (a++b)=cellsFrom n names a++b
 | [],_,_,_=>rfl
 | (x,k)::r,n,a,b=>by
   unfold cellsFrom
   cases k==cM with
   | true=>exact mW r (n+1) ((x,n)::a) b
   | false=>exact mW r n a b
theorem AJ(names:List (Str×NameKind))(n:Nat)(b:List (Str×Addr)):cellsFrom n names b=cellsFrom n names []++b:=mW names n [] b
theorem oN: ∀(names:List (Str×NameKind)) (n:Nat) (a:List (Str×Addr)) {x:Str}{c:Addr},(x,c)∈cellsFrom n names a->(x,cM)∈names\/(x,c)∈a
 | [],_,_,_,_,h => .inr h
 | (y,k)::r,n,a,x,c,h=>by
   unfold cellsFrom at h
   split at h
   ·rename_i hk
    rcases oN r (n+1) _ h with h |h
    ·exact .inl (aC _ h)
    ·rcases aG.mp h with e |h
     ·cases e;rw[eq_of_beq hk];exact .inl aZ
     ·exact .inr h
   ·exact(oN r n a h).imp (aC _) id
theorem gv{α:Type}{x:Str}{c:α}: ∀{a b:List (Str×α)},a.lookup x=some c->(a++b).lookup x=some c
 | a,b,h=>by rw[ic,h];rfl
theorem iX{α:Type}{x:Str}: ∀{a b:List (Str×α)},a.lookup x=none->(a++b).lookup x=b.lookup x
 | a,b,h=>by rw[ic,h];rfl
theorem ir{α:Type}{x:Str}{c:α}{a b:List (Str×α)}(h:(a++b).lookup x=some c):a.lookup x=some c\/(a.lookup x=none/\b.lookup x=some c):=by
 cases q:a.lookup x with
 | some d=>rw[gv q]at h;exact .inl h
 | none=>rw[iX q]at h;exact .inr ⟨rfl,h⟩
theorem qG{f g:Str×Value->PUnit->Sem (ForInStep PUnit)}: ∀{l:List (Str×Value)},(∀x∈l,∀u,f x u=g x u)->forIn l p7 f=forIn l p7 g
 | [],_=>rfl
 | x::l,h=>by
   rw[fN,fN,h x aZ]
   have ih:=qG (l:=l) λy hy=>h y (aC _ hy)
   congr 1
   funext r
   cases r with
   | done u=>rfl
   | yield u=>exact ih
theorem yU{env:Env}{cs:List (Str×Addr)}{x:Str}{v:Value}(h:env.kindOf x=some .local\/env.cells.lookup x=cs.lookup x):storeName env x v=storeName { env with cells:=cs } x v:=by
 rcases h with h |h
 ·have h':Env.kindOf { env with cells:=cs } x=some .local:=h
  unfold storeName
  rw[h,h']
  rfl
 ·have e:cellOf env x=cellOf { env with cells:=cs } x:=by unfold cellOf;rw[h]
  unfold storeName
  rw[e]
  rfl
theorem Hh{M:Model}{A:Around}{E:Value->Shared->Prop}{s:Shared}{scope:Scope}{g:Addr}{cl:List (Str×Addr)}{binds:List (Str×Value)}{qual:Str}{func:Option Addr}{code:Value}{bt:Addr}{Q:Env->Shared->Prop}(hk:scope.kind = .function)
  (hb: ∀x∈binds,scope.names.lookup x.1=some .local\/scope.names.lookup x.1=some .cell)
  (hQ: ∀s',InCallC s s.heap.objs.size (bindL (λx=>scope.names.lookup x) binds λ_=>none) (cellsFrom (s.heap.objs.size+1) scope.names []) (bindC (λx=>scope.names.lookup x) binds λ_=>none) s' ->
   Q (newEnv scope s.heap.objs.size g (cellsFrom (s.heap.objs.size+1) scope.names []++cl) qual func code none bt) s'):
  aH M A (newFunctionEnv scope g cl binds qual func code none bt) Q E s:=by
 have ok:CellsOk (pushCells (s.heap.push { cls := .type "frame",data := .dict #[] }) scope.names) (s.heap.objs.size+1) (cellsFrom (s.heap.push { cls := .type "frame",data := .dict #[] }).objs.size scope.names []):=
  cellsFrom_ok scope.names _ _ [] ⟨λ_ _ z=>(nomatch z),gJ⟩ (by rw[ba];exact ah _)
 rw[ba]at ok
 have inC:InCallC s s.heap.objs.size (fun _=>none) (cellsFrom (s.heap.objs.size+1) scope.names []) (fun _=>none) { s with heap:=pushCells (s.heap.push { cls := .type "frame",data := .dict #[] }) scope.names }:=
  ⟨⟨⟨_,s.toks,rfl⟩,(Heap.Ns.new s.heap (.type "frame")).keeps fun b o e=>pushCells_keeps _ _ b o e,fun b o e=>pushCells_keeps _ _ b o (af _ e),ah _⟩,
   λn c hc=>(ok.empty n c (mem_of_lookup hc)).1,ok.apart,λn c hm=>Nat.lt_of_succ_le (ok.empty n c hm).2⟩
 simp only[newFunctionEnv,Option.isSome_none,fw,if_false]
 refine ab (wpAny_alloc (ab (wpAny_layCells _ (λnm kd cs=>by cases q:kd==cM <;> simp[q]) _ _ _ _ ?_)))
 rw [show ({ s with heap:=s.heap.push { cls := .type "frame",data := .dict #[] } }:Shared).heap.objs.size=s.heap.objs.size+1 from ba ..,AJ]
 refine ab ?_
 have same: ∀x∈binds,∀v:Value,storeName (newEnv scope s.heap.objs.size g (cellsFrom (s.heap.objs.size+1) scope.names []++cl) qual func code none bt) x.1 v=storeName (newEnv scope s.heap.objs.size g (cellsFrom (s.heap.objs.size+1) scope.names []) qual func code none bt) x.1 v:=λx hx v=>by
  refine yU (env:=newEnv scope s.heap.objs.size g (cellsFrom (s.heap.objs.size+1) scope.names []++cl) qual func code none bt) ?_
  rcases hb x hx with h |h
  ·exact .inl h
  ·obtain⟨c,hc⟩:=jf (n:=s.heap.objs.size+1) h
   exact .inr (by rw[hc];exact gv hc)
 show aH M A (forIn binds p7 λx _=>(do storeName (newEnv scope s.heap.objs.size g (cellsFrom (s.heap.objs.size+1) scope.names []++cl) qual func code none bt) x.1 x.2;pure (dF p7))) _ E _
 rw[qG (g:=λx _=>(do storeName (newEnv scope s.heap.objs.size g (cellsFrom (s.heap.objs.size+1) scope.names []) qual func code none bt) x.1 x.2;pure (dF p7))) λx hx u=>by rw[same x hx]]
 refine wpAny_bindParams (s₀:=s) (env:=newEnv scope s.heap.objs.size g (cellsFrom (s.heap.objs.size+1) scope.names []) qual func code none bt) _ (λ_ _ _=>rfl) hk binds _ _ _ _ inC (λx hx =>?_) λs' x=>ar (hQ s' x)
 rcases hb x hx with h |h
 ·exact .inl h
 ·obtain⟨c,hc⟩:=jf (n:=s.heap.objs.size+1) h
  exact .inr ⟨h,by show((cellsFrom (s.heap.objs.size+1) scope.names []).lookup x.1).isSome=true;rw[hc];rfl⟩
noncomputable def mD(base:Heap)(cl:List (Str×Addr)):List Str->List V->Prop
 | [],[]=>True
 | y::fs,v::vs=>(∃c o u,cl.lookup y=some c/\base.get? c=some o/\o.data = .cell (some u)/\RelV v u)/\mD base cl fs vs
 | _,_=>False
theorem mD.len{base:Heap}{cl:List (Str×Addr)}: ∀{fs:List Str}{vs:List V},mD base cl fs vs->fs.length=vs.length
 | [],[],_=>rfl
 | _::_,_::_,h=>by simp[mD.len h.2]
 | [],_::_,h=>h.elim
 | _::_,[],h=>h.elim
theorem mD.get{base:Heap}{cl:List (Str×Addr)}: ∀{fs:List Str}{vs:List V}{i:Nat}{y:Str}{v:V},mD base cl fs vs->fs[i]? = some y->vs[i]? = some v -> ∃c o u,cl.lookup y=some c/\base.get? c=some o/\o.data = .cell (some u)/\RelV v u
 | [],_,i,y,v,_,h1,_=>by simp at h1
 | _::_,[],i,y,v,h,_,_=>h.elim
 | _::_,_::_,0,y,v,h,h1,h2=>by
   simp at h1 h2;subst h1;subst h2
   exact h.1
 | _::_,_::_,i+1,y,v,h,h1,h2=>mD.get (i:=i) h.2 (by simpa using h1) (by simpa using h2)
noncomputable def uS(qual:Str)(scope:Scope)(L f:Addr)(cd:Value)(cl:List (Str×Addr)):Env:=envX qual scope L f cd (cellsFrom (L+1) scope.names []++cl)
noncomputable def DX(P:Program)(w:World)(K:aj)(mg:Str->Option Value)(base:Heap)(N:List Str)(qual:Str)(scope:Scope)(f:Addr)(cd:Value)(cl:List (Str×Addr))(A:Around)(outer:List Env)(s:Shared)(H:Hp):Cx where
 prog:=P
 w:=w
 K:=K
 mg:=mg
 base:=base
 A:=A.deeper (uS qual scope s.heap.objs.size f cd cl)
 N:=N
 s₀:=s
 H₀:=H
 env:=uS qual scope s.heap.objs.size f cd cl
 outer:=outer
 stack:=uS qual scope s.heap.objs.size f cd cl::outer
 ex:= []
 calm:=true
 fn:=λx=>scope.names.lookup x==some .cell
 pn:= []
 xe:=λ_ _=>False
theorem G0{P:Program}{w:World}{K:aj}{mg:Str->Option Value}{base:Heap}{ps fs:List Str}{qual:Str}{scope:Scope}{f:Addr}{cd:Value}{cl:List (Str×Addr)}{A:Around}{outer:List Env}{s s1:Shared}{H:Hp}{us:List Value}{vs cv:List V}
  (S:lg ps fs scope) (hd:A.handled=none) (e0:A5 P w K mg base A outer s H) (hl:vs.length=ps.length) (r:bW vs us) (C:mD base cl fs cv)
  (hcl: ∀y c,cl.lookup y=some c -> ∃o v,base.get? c=some o/\o.data = .cell v) (inj: ∀x y c,cl.lookup x=some c->cl.lookup y=some c->x=y)
  (x:InCallC s s.heap.objs.size (bindL (λy=>scope.names.lookup y) (ps.zip us) λ_=>none) (cellsFrom (s.heap.objs.size+1) scope.names []) (bindC (λy=>scope.names.lookup y) (ps.zip us) λ_=>none) s1):
  Inv (DX P w K mg base (ps++fs) qual scope f cd cl A outer s H) [] (vs.map some++cv.map some) H s1:=by
 obtain⟨h1,tk,rfl,hk⟩:=x.done
 have ndP:ps.Nodup:=(iS.mp S.nd).1
 have newc: ∀y c,(cellsFrom (s.heap.objs.size+1) scope.names []).lookup y=some c->scope.names.lookup y=some .cell/\s.heap.objs.size<c:=λy c e=>by
  have m:=mem_of_lookup e
  rcases oN _ _ _ m with z |z
  ·exact⟨S.cel _ z rfl,x.above y c m⟩
  ·simp at z
 have oldc: ∀y c,cl.lookup y=some c->c<s.heap.objs.size/\(∃v,h1.IsCell c v)/\H c=none:=λy c e=>by
  obtain⟨o,v,e1,e2⟩:=hcl y c e
  exact⟨ax (e0.bs c o e1).1,⟨v,o,hk _ _ (e0.bs c o e1).1,e2⟩,(e0.bs c o e1).2⟩
 have frc: ∀y∈fs,(cellsFrom (s.heap.objs.size+1) scope.names []).lookup y=none:=λy hy=>by
  cases q:(cellsFrom (s.heap.objs.size+1) scope.names []).lookup y with
  | none=>rfl
  | some c=>
    have:=(newc y c q).1
    rw[S.free y hy]at this;cases this
 have noA: ∀b:Addr,b∉(DX P w K mg base (ps++fs) qual scope f cd cl A outer s H).ex:=λb z=>absurd (show b∈([]:List Addr) from z) (by simp)
 refine⟨⟨e0.mod,S.kind,rfl,rfl,ah _,λy z c e1 e2 =>?_,λy hy =>?_,λy c hy e =>?_,λ_=>hd,BU e0.frames,.inr ⟨rfl,rfl⟩,λb z=>absurd z (noA b),e0.bs,e0.bsz,λb _ _=>noA b,λb z=>absurd z (noA b),e0.funs,e0.frf⟩,
  rfl,e0.bare,Un.kept hk,⟨_,x.toInCall.ns,λi y v h2 h3 h4 =>?_⟩,λy c h =>?_,e0.hok.fresh (ah _),λy c h =>?_,λp hp=>absurd (show p∈([]:List (Addr×Obj)) from hp) (by simp),e0.hok.kept hk,?_⟩
 ·rcases ir e1 with e1 | ⟨_,e1⟩
  ·rcases ir e2 with e2 | ⟨_,e2⟩
   ·exact name_of_addr x.apart (mem_of_lookup e1) (mem_of_lookup e2)
   ·exact absurd (dI (newc y c e1).2 (oldc z c e2).1) (bF _)
  ·rcases ir e2 with e2 | ⟨_,e2⟩
   ·exact absurd (dI (newc z c e2).2 (oldc y c e1).1) (bF _)
   ·exact inj y z c e1 e2
 ·have hy:scope.names.lookup y=some .cell\/scope.names.lookup y=some .free:=hy
  rcases hy with hy |hy
  ·obtain⟨c,hc⟩:=jf (n:=s.heap.objs.size+1) hy
   exact⟨c,gv hc⟩
  ·have hf:=S.fre _ (mem_of_lookup hy) rfl
   obtain⟨i,hi⟩:=List.getElem?_of_mem hf
   have hi2:i<cv.length:=by rw[<- C.len];exact(ai.mp hi).1
   obtain⟨c,o,u,e,_⟩:=C.get hi (aD hi2)
   exact⟨c,(iX (frc y hf)).trans e⟩
 ·rcases ir e with e | ⟨_,e⟩
  ·exact aU (newc y c e).2
  ·have hy':scope.names.lookup y=some .cell:=eq_of_beq hy
   obtain⟨c',hc'⟩:=jf (n:=s.heap.objs.size+1) hy'
   rename_i z
   rw[hc']at z;cases z
 ·have hN:(ps++fs)[i]? = some y:=h2
  by_cases hi:i<ps.length
  ·rw[aP hi]at hN
   rw[aP (by simpa [hl]using hi),bG]at h3
   cases e:vs[i]? with
   | none=>rw[e]at h3;cases h3
   | some a=>
     rw[e]at h3;cases h3
     obtain⟨u,hu,rv⟩:=r.get e
     refine⟨u,rv,?_⟩
     rcases S.par y (bZ hN) with kd |kd
     ·exact .inl ⟨kd,pk ndP hN hu kd⟩
     ·obtain⟨c,hc⟩:=jf (n:=s.heap.objs.size+1) kd
      refine .inr ⟨.inl kd,c,gv hc,?_⟩
      have z:=x.cell y c hc
      rw[oU ndP hN hu (by show scope.names.lookup y≠_;rw[kd];decide)]at z
      exact z
  ·rw[av (by exact bC (by assumption))]at hN
   rw[av (by simp;omega),bG]at h3
   simp only[aq,hl]at h3
   cases e:cv[i - ps.length]? with
   | none=>rw[e]at h3;cases h3
   | some a=>
     rw[e]at h3;cases h3
     have hf:=bZ hN
     obtain⟨c,o,u,e1,e2,e3,e4⟩:=C.get hN e
     exact⟨u,e4,.inr ⟨.inr (S.free y hf),c,(iX (frc y hf)).trans e1,o,hk _ _ (e0.bs c o e2).1,e3⟩⟩
 ·rcases ir h with e | ⟨_,e⟩
  ·exact⟨_,x.cell y c e⟩
  ·exact(oldc y c e).2.1
 ·rcases ir h with e | ⟨_,e⟩
  ·exact e0.hok.fresh (aU (newc y c e).2)
  ·exact(oldc y c e).2.2
 ·show(vs.map some++cv.map some).length=(ps++fs).length
  simp[hl,C.len]
theorem Kc{M:Mo}(h0:M.mkr=none){name qual:Str}{params:Arguments}{body:Expr}{scope:Scope}{cl:List (Str×Addr)}{pm ctv:Value}{c f:Addr}{oc:Obj}{ws:Array Value}{t:Tok}{ps fs:List Str}{k:Nat}{ml:ME}{od:Option Addr}{fc:Value}{fsl:Array (Option Value)}
  (hf:M.base.get? f=some ⟨fc,od,.func (kla_fn name qual params body scope cl pm (.ref c) ctv),fsl⟩) (hc:(c,oc)∈M.K.cds) (hoc:oc.data = .fields ws) (hq:ws[1]? = some (.str qual t))
  (S:lg ps fs scope) (C:mD M.base cl fs M.K.capv) (hcl: ∀y c,cl.lookup y=some c -> ∃o v,M.base.get? c=some o/\o.data = .cell v) (inj: ∀x y c,cl.lookup x=some c->cl.lookup y=some c->x=y)
  (hb: ∀X,Sc M X k (ps++fs) scope.names->PE X body (tM M.K ml)):
  jW M.P M.w M.K M.mg M.base CX0 (k+1) f (kla_fn name qual params body scope cl pm (.ref c) ctv) ps (spM M.K (rN ps.length ml M.K.caps)):=by
 have len: ∀vs H Q E,spM M.K (rN ps.length ml M.K.caps) vs H Q E->vs.length=ps.length:=λvs H Q E h=>by
  obtain⟨μ,S',us,u,S'',hr,rs,e,_⟩:=h
  unfold rN at e
  split at e
  ·rename_i hl;rw[<- rs.len];exact hl
  ·cases e
 refine⟨len,λA outer s H args us vs Q E hr e0 hbd r hsp =>?_⟩
 have hl:=len _ _ _ _ hsp
 obtain⟨μ,S1,zs,u,S2,hR,rs,e,ka⟩:=hsp
 have hco:s.heap.get? c=some oc:=(e0.hok c _ (hR.ext.cds _ hc)).1
 have lim:s.heap.NoLimit:=e0.mod.nolimit.keeps λb o e=>(e0.bs b o e).1
 refine PySem.W.kla_callFunE hr.depth (e0.bs f _ hf).1 rfl S.co S.gen rfl ⟨c,oc,ws,t,rfl,hco,hoc,hq⟩ (hbd _ _ _ _ ?_)
 refine Hh S.kind (λx hx=>S.par _ (nc hx).1) λs1 x=>⟨lim.keeps x.toInCall.keep,?_⟩
 show sv _ _ (.expr body (uS qual scope s.heap.objs.size f (.ref c) cl)) _ _
 have I:=G0 (qual:=qual) (f:=f) (cd:= .ref c) S hr.hd e0 hl r C hcl inj x
 have SS:Sc M (DX M.P M.w M.K M.mg M.base (ps++fs) qual scope f (.ref c) cl A outer s H) k (ps++fs) scope.names:=
  ⟨rfl,rfl,rfl,rfl,rfl,rfl,S.nd,rfl,λ_ h=>h,λy h=>⟨h,by show(scope.names.lookup y==some .cell)=true;rw[h];rfl⟩,λ_ h => .inr h,λ_ h=>h,hr.deeper _,sj,λc q h=>by rw[h0]at h;cases h⟩
 unfold rN at e
 split at e
 rotate_left
 ·cases e
 have er:ER H μ (zs.map some++M.K.caps.map some) (vs.map some++M.K.capv.map some):=by
  have all:=rs.append hR.ext.cap
  refine⟨by simp[rs.len,hR.ext.cap.len],λi w hw =>?_⟩
  rw[<- dB,bG]at hw
  cases q:(zs++M.K.caps)[i]? with
  | none=>rw[q]at hw;cases hw
  | some w'=>
    rw[q]at hw;cases hw
    obtain⟨v,hv,rv⟩:=all.get q
    exact⟨v,by rw[<- dB,bG,hv];rfl,rv⟩
 refine PySem.W.kla_codeExpr (dc (hb _ SS [] _ _ H Q I ⟨μ,S1,_,u,S2,hR,er,e,ka⟩) (λv s' hs =>?_) λe s' hs=>hs.elim)
 obtain⟨x,H',J,rv,q⟩:=hs
 exact⟨x,H',J.os,J.bare,J.base,J.hok,rv,q⟩
noncomputable def gz(cells:List (Str×Addr)):List (Str×NameKind)->List (Str×Addr)->List (Str×Addr)
 | [],acc=>acc
 | (y,k)::r,acc=>if k==.free then(match cells.lookup y with
   | some c=>gz cells r ((y,c)::acc)
   | none=>gz cells r acc) else gz cells r acc
theorem yQ{env:Env}{scope:Scope}(h: ∀y∈scope.names,y.2 = .free -> ∃c,env.cells.lookup y.1=some c):closureFor scope env=pure (gz env.cells scope.names []):=by
 unfold closureFor
 have key: ∀(l:List (Str×NameKind)) (acc:List (Str×Addr)),(∀y∈l,y.2 = .free -> ∃c,env.cells.lookup y.1=some c) ->
   (forIn l acc λ(x:Str×NameKind) (r:List (Str×Addr))=>if (x.2==aX)=true then(do let a <- cellOf env x.1;pure (dF ((x.1,a)::r))) else pure (dF r):Sem _)=pure (gz env.cells l acc):=by
  intro l
  induction l with
  | nil=>intro acc _;rfl
  | cons y l ih=>
    intro acc hh
    rw[fN]
    unfold gz
    cases q:y.2==aX with
    | true=>
      obtain⟨c,hc⟩:=hh y aZ (eq_of_beq q)
      have e:cellOf env y.1=pure c:=by unfold cellOf;rw[hc]
      simp only[if_true,e,pure_bind,hc]
      exact ih _ λz hz=>hh z (aC _ hz)
    | false=>
      simp only[fw,if_false,pure_bind]
      exact ih _ λz hz=>hh z (aC _ hz)
 have e:=key scope.names [] h
 show(forIn scope.names ([]:List (Str×Addr)) _ >>= λr=>pure r:Sem _)=_
 rw[bind_pure]
 refine Eq.trans ?_ e
 congr 1
theorem lK{cells:List (Str×Addr)}: ∀(l:List (Str×NameKind)) (acc:List (Str×Addr)) {y:Str}{c:Addr},(y,c)∈gz cells l acc->(y,c)∈acc\/(cells.lookup y=some c/\(y,aX)∈l)
 | [],acc,y,c,h => .inl h
 | (z,k)::l,acc,y,c,h=>by
   unfold gz at h
   split at h
   ·rename_i hk
    split at h
    ·rename_i d hd
     rcases lK l _ h with h |h
     ·rcases aG.mp h with e |h
      ·cases e;exact .inr ⟨hd,by rw[eq_of_beq hk];exact aZ⟩
      ·exact .inl h
     ·exact .inr ⟨h.1,aC _ h.2⟩
    ·exact(lK l _ h).imp id λh=>⟨h.1,aC _ h.2⟩
   ·exact(lK l _ h).imp id λh=>⟨h.1,aC _ h.2⟩
theorem lR{cells:List (Str×Addr)}: ∀(l:List (Str×NameKind)) (acc:List (Str×Addr)) {y:Str}{c:Addr},(y,c)∈acc->(y,c)∈gz cells l acc
 | [],acc,y,c,h=>h
 | (z,k)::l,acc,y,c,h=>by
   unfold gz
   split
   ·split
    ·exact lR l _ (aC _ h)
    ·exact lR l _ h
   ·exact lR l _ h
theorem lP{cells:List (Str×Addr)}: ∀(l:List (Str×NameKind)) (acc:List (Str×Addr)) {y:Str}{c:Addr},(y,aX)∈l->cells.lookup y=some c->(y,c)∈gz cells l acc
 | [],acc,y,c,h,_=>by simp at h
 | (z,k)::l,acc,y,c,h,hc=>by
   unfold gz
   rcases aG.mp h with e |h
   ·cases e
    simp only[beq_self_eq_true,if_true,hc]
    exact lR l _ aZ
   ·split
    ·split
     ·exact lP l _ h hc
     ·exact lP l _ h hc
    ·exact lP l _ h hc
theorem lookup_mem{α:Type}: ∀{l:List (Str×α)}{y:Str}{c:α},(y,c)∈l -> ∃d,l.lookup y=some d
 | [],y,c,h=>by simp at h
 | (z,d)::l,y,c,h=>by
   rw[aW]
   cases q:y==z with
   | true=>exact⟨d,rfl⟩
   | false=>
     rcases aG.mp h with e |h
     ·cases e;simp at q
     ·exact lookup_mem h
theorem kj{cells:List (Str×Addr)}{l:List (Str×NameKind)}{y:Str}{c:Addr}(h:(gz cells l []).lookup y=some c):cells.lookup y=some c/\(y,aX)∈l:=by
 rcases lK l [] (bY h) with h |h
 ·simp at h
 ·exact h
theorem AG{cells:List (Str×Addr)}{l:List (Str×NameKind)}{y:Str}{c:Addr}(h:(y,aX)∈l)(hc:cells.lookup y=some c):(gz cells l []).lookup y=some c:=by
 obtain⟨d,hd⟩:=lookup_mem (lP l [] h hc)
 have:=(kj hd).1
 rw[hc]at this;cases this
 exact hd
end _G
end
section
namespace _G
open PySem PySem.Spec _L
open PySem.W (envX kla_fn kla_obj CodeHd tabObj)
open PyProof.Rows hiding St
theorem yp{pos:Pos}{a b:Int}{c cv:Value}(l:List Value)(h:TriplesOk l)(hc:codeAmong pos (l++[rawInt a,rawInt b,c])=some cv):codeAmong pos l=some cv\/cv=c:=by
 fun_induction TriplesOk l with
 | case1=>
   simp only[dk,rawInt,codeAmong]at hc
   split at hc
   ·cases hc;exact .inr rfl
   ·cases hc
 | case2 x t y u z rest ih=>
   simp only[List.cons_append,codeAmong]at hc ⊢
   split at hc
   ·rename_i q;rw[if_pos q];exact .inl hc
   ·rename_i q;rw[if_neg q];exact ih h hc
 | case3 l h1 h2=>exact h.elim
section
variable {K:KX}{H:Hp}{μ:List Addr}{S:Sto}
theorem HR.table{P c:Addr}{ps:Array Value}{oc:Obj}{ws:Array Value}{t:Tok}{a b:Int}{q:Str}(h:HR K μ S H)(hP:H P=some (.tbl ps))(hc:H c=none)(hoc:oc.data = .fields ws)(hq:ws[1]? = some (.str q t))(un: ∀r∈K.tabs,r.1=P->r.2=q):
  bh H (upd (upd H c (.frz oc fz)) P (.tbl (ps ++ #[rawInt a,rawInt b,.ref c])))/\HR K μ S (upd (upd H c (.frz oc fz)) P (.tbl (ps ++ #[rawInt a,rawInt b,.ref c]))):=by
 have stay: ∀x o,H x=some o->(∀ps,o≠.tbl ps)->upd (upd H c (.frz oc fz)) P (.tbl (ps ++ #[rawInt a,rawInt b,.ref c])) x=some o:=λx o e n=>by
  rw[bw (rh e hP (n ps)),bw (bx e hc)];exact e
 have kp:bh H (upd (upd H c (.frz oc fz)) P (.tbl (ps ++ #[rawInt a,rawInt b,.ref c]))):=λx vs e=>stay x _ e λ_ z=>by cases z
 have fr: ∀x o u,H x=some (.frz o u)->upd (upd H c (.frz oc fz)) P (.tbl (ps ++ #[rawInt a,rawInt b,.ref c])) x=some (.frz o u):=λx o u e=>stay x _ e λ_ z=>by cases z
 have hcP:c≠P:=(bx hP hc).symm
 refine⟨kp,h.len,h.inj,λm d x q1 q2=>(h.cell m d x q1 q2).mono kp (Pre.refl _) (λhd =>?_) λo u e=>fr x o u e,RUs.mono kp (Pre.refl _) _ _ h.ext.cap,λr hr=>fr _ _ _ (h.ext.cds r hr),λr hr =>?_⟩
 ·obtain⟨o,e,_,_,nb⟩:=(h.cell m d x q1 q2).has hd
  rw[stay x o e nb,e]
 ·obtain⟨ps',e,tr,al⟩:=h.ext.tab r hr
  by_cases hr':r.1=P
  ·rw[hr',hP]at e
   cases e
   refine⟨ps ++ #[rawInt a,rawInt b,.ref c],by rw[hr',cw],by rw[Fe];exact TriplesOk_snoc _ _ _ _ tr,λpos cv hcv =>?_⟩
   rw[Fe]at hcv
   rcases yp _ tr hcv with z |z
   ·obtain⟨d,od,vs,t',e1,e2,e3,e4⟩:=al pos cv z
    exact⟨d,od,vs,t',e1,fr _ _ _ e2,e3,e4⟩
   ·exact⟨c,oc,ws,t,z,by rw[bw hcP,cw],hoc,by rw[un r hr hr'];exact hq⟩
  ·refine⟨ps',by rw[bw hr',bw (bx e hc)];exact e,tr,λpos cv hcv =>?_⟩
   obtain⟨d,od,vs,t',e1,e2,e3,e4⟩:=al pos cv hcv
   exact⟨d,od,vs,t',e1,fr _ _ _ e2,e3,e4⟩
end
section
variable {X:Cx}{pins:List (Addr×Obj)}{σ:St}{H:Hp}{s:Shared}
theorem AI{P c:Addr}{ps more:Array Value}{oc ob:Obj}{h':Heap}{tk:Nat}(I:Inv X pins σ H s)(hP:H P=some (.tbl ps))(hx:E9 P s.heap h')(hge:s.heap.objs.size<=c)(hc:h'.get? c=some oc)(htb:h'.get? P=some (tabObj (ps++more))):
  Inv X pins σ (upd (upd H c (.frz oc fz)) P (.tbl (ps++more))) { s with heap:=h'.push ob,toks:=tk }:=by
 have hcn:H c=none:=I.hok.fresh hge
 have kp: ∀b o,b≠P->s.heap.get? b=some o->(h'.push ob).get? b=some o:=λb o n e=>af _ (hx b o n e)
 have nP: ∀b,H b=none->b≠P:=λb n z=>by rw[z,hP]at n;cases n
 have stay: ∀x o,H x=some o->(∀ps,o≠.tbl ps)->upd (upd H c (.frz oc fz)) P (.tbl (ps++more)) x=some o:=λx o e n=>by
  rw[bw (rh e hP (n ps)),bw (bx e hcn)];exact e
 refine I.step (g':=s.gens) (d':=s.drawn) (ch:= []) (λ_ z=>nomatch z) (λb o _ _ _ e n=>kp b o (nP b n) e) (λb o _ _ _ e n=>⟨o.slots,kp b o (nP b n) e⟩)
  (λb o _ e n=>by rw[bw (nP b n),bw (aQ (ao (ax e) hge))];exact n) (λb o _ e =>?_) (λb xs e=>stay b _ e λ_ z=>by cases z) (λb o u e=>stay b _ e λ_ z=>by cases z)
  (λb qs e =>?_) (λm hm =>?_) (λb u e =>?_) I.bare
 ·by_cases hb:b=P
  ·exact⟨_,by rw[hb];exact af _ htb⟩
  ·exact⟨o,kp b o hb e⟩
 ·by_cases hb:b=P
  ·rw[hb,hP]at e
   cases e
   exact⟨more,by rw[hb,cw]⟩
  ·exact⟨#[],by rw[bw hb,bw (bx e hcn),e];simp⟩
 ·exact(hm.extBut hx (nP _ I.free)).push _
 ·by_cases hb:b=P
  ·rw[hb,cw]at e
   cases e
   rw[hb]
   exact af _ htb
  ·rw[bw hb]at e
   by_cases hbc:b=c
   ·rw[hbc,cw]at e
    cases e
    rw[hbc]
    exact⟨af _ hc,trivial,⟨_,af _ hc⟩,λ_ _ _ _=>trivial⟩
   ·rw[bw hbc]at e
    refine(I.hok b u e).stay (λd v hd q=>kp d v ?_ q) (λd q=>stay d _ q λ_ z=>by cases z) λd xs q=>stay d _ q λ_ z=>by cases z
    rcases hd with z |z
    ·rw[z];exact hb
    ·exact rh z hP (by intro z;cases z)
noncomputable def baseOf(h:Heap)(H:Hp)(fr:List Addr):Heap:=PySem.W.hideAll (s9 h H) fr
theorem jg{h:Heap}{H:Hp}{fr:List Addr}{b:Addr}{o:Obj}(e:h.get? b=some o)(n:H b=none)(hf:b∉fr):(baseOf h H fr).get? b=some o:=BS _ (oa e n) hf
theorem Bb{h:Heap}{H:Hp}{fr:List Addr}{b:Addr}{o:Obj}(e:(baseOf h H fr).get? b=some o):h.get? b=some o/\H b=none:=Ah (EV fr e)
theorem wB(I:Inv X pins σ H s): ∀b o,X.base.get? b=some o->(baseOf s.heap H (frs X.stack)).get? b=some o:=λb o e=>
 jg (I.bs b o e).1 (I.bs b o e).2 λz=>by
  have:=(I.stack.mem z).1
  rw[e]at this;cases this
theorem AQ(I:Inv X pins σ H s):A5 X.prog X.w X.K X.mg (baseOf s.heap H (frs X.stack)) X.A X.stack s H:=by
 have k:=wB I
 obtain⟨m1,m2,⟨mb,m3,m4⟩,m5⟩:=I.ok.mod
 refine⟨I.ok.frames,⟨m1.keeps k,m2.keeps k,⟨mb,m3.keeps k,m4⟩,m5.keeps k⟩,λb o e=>Bb e,by rw[baseOf,BN,uj];exact ah _,?_,I.stkFree,I.hok,I.bare⟩
 have all: ∀l:List Env,(∀b∈frs l,b∈frs X.stack)->s.heap.FunFrames X.base l->s.heap.FunFrames (baseOf s.heap H (frs X.stack)) l:=by
  intro l
  induction l with
  | nil=>intro _ _;trivial
  | cons env r ih=>
    intro hs hl
    obtain⟨hk,⟨L,o,hf,hn,ho,hd⟩,hr⟩:=hl
    have hL:L∈frs X.stack:=hs L (by unfold frs;rw[gO,hf];exact aZ)
    exact⟨hk,⟨L,o,hf,BO _ hL,ho,hd⟩,ih (λb hb=>hs b (by unfold frs;rw[gO,hf];exact aC _ hb)) hr⟩
 exact all X.stack (λ_ h=>h) I.stack
end
end _G
end
section
namespace _G
open PySem PySem.Spec _L
open PySem.W (envX kla_fn kla_obj CodeHd tabObj)
open PyProof.Rows hiding St
noncomputable def gR (mg:Str->Option Value) (base:Heap):Prop := ∃ bm ob,mg "__builtins__"=some (.ref bm)/\bm≠builtinsNs/\base.get? bm=some ob/\ob.cls = .type "module"/\ob.dict=some builtinsNs/\ob.data = .plain
theorem gR.keeps{mg:Str->Option Value}{b b':Heap}(h:gR mg b)(k: ∀a o,b.get? a=some o->b'.get? a=some o):gR mg b':=
 let ⟨bm,ob,e1,e2,e3,r⟩:=h;⟨bm,ob,e1,e2,k _ _ e3,r⟩
structure Mkr(M:Mo)(c P:Addr)(q:Str):Prop where
 hd: ∀h:Heap,M.K.K.In h->CodeHd h c P
 bl:gR M.mg M.base
 gP:mainGlobals≠P
 mem:(P,q)∈M.K.tabs
 un: ∀r∈M.K.tabs,r.1=P->r.2=q
noncomputable def KX.to(K:KX)(caps:List U)(capv:List V)(cds:List (Addr×Obj)):KX:=⟨K.K,caps,capv,cds,K.tabs⟩
noncomputable def Mo.to(M:Mo)(caps:List U)(capv:List V)(cds:List (Addr×Obj))(base:Heap):Mo:=⟨M.P,M.w,M.K.to caps capv cds,M.mg,base,none⟩
structure FnC(M:Mo)(x:Str)(k:Nat)(ps:List Str)(F:Addr->MF->MF):Prop where
 ex: ∃(f:Addr) (fd:FuncData),M.mg x=some (.ref f)/\cm M.K (.ref f)=true/\Binds M.K fd ps [] /\
  ∀(caps:List U) (capv:List V) (cds:List (Addr×Obj)) (base:Heap) (g:Addr) (j:Nat) (lps:List Str) (φ:MF),gR M.mg base->k<=j->Lam (M.to caps capv cds base) g j lps φ ->
   jW M.P M.w M.K M.mg base CX0 (j+1) f fd ps (spM (M.K.to caps capv cds) (F g φ))
noncomputable def qo:List (List Str) := [["x"],["least"],["walk"],["i","j"],["one","other"],["group","steps"]]
noncomputable def vQ(p:Arguments):Bool:=p.posonlyargs.isEmpty&&(p.vararg.isNone&&(p.kwonlyargs.isEmpty&&(p.kw_defaults.isEmpty&&(p.kwarg.isNone&&p.defaults.isEmpty))))
noncomputable def qU(p:Arguments):Option (List Str):=if vQ p&&qo.contains (p.args.map (·.arg)) then some (p.args.map (·.arg)) else none
theorem y9{p:Arguments}(h:vQ p=true):p=⟨[],p.args,none,[],[],none,[]⟩:=by
 obtain⟨a,b,c,d,e,f,g⟩:=p
 unfold vQ at h
 simp only[ay,List.isEmpty_iff,Option.isNone_iff_eq_none]at h
 obtain⟨rfl,rfl,rfl,rfl,rfl,rfl⟩:=h
 rfl
theorem wy{p:Arguments}{ps:List Str}(h:qU p=some ps): ∃as,p=⟨[],as,none,[],[],none,[]⟩/\as.map (·.arg)=ps/\ps∈qo:=by
 unfold qU at h
 split at h
 ·rename_i q
  cases h
  rw[ay]at q
  exact⟨p.args,y9 q.1,rfl,List.contains_iff_mem.mp q.2⟩
 ·cases h
theorem NN{as:List Arg}{x:Str}(e:as.map (·.arg) = [x]): ∃an ps,as = [⟨x,an,ps⟩]:=by
 obtain⟨a,l,rfl,h1,h2⟩:=Ff.mp e
 rw[List.map_eq_nil_iff.mp h2]
 obtain⟨n,an,ps⟩:=a
 cases h1
 exact⟨an,ps,rfl⟩
theorem Os{as:List Arg}{x y:Str}(e:as.map (·.arg) = [x,y]): ∃an ps an2 ps2,as = [⟨x,an,ps⟩,⟨y,an2,ps2⟩]:=by
 obtain⟨a,l,rfl,h1,h2⟩:=Ff.mp e
 obtain⟨an2,ps2,rfl⟩:=NN h2
 obtain⟨n,an,ps⟩:=a
 cases h1
 exact⟨an,ps,an2,ps2,rfl⟩
theorem LZ{α:Type}{us:List α}(h:us.length=1): ∃a,us = [a]:=BX.mp h
theorem ON{α:Type}{us:List α}(h:us.length=2): ∃a b,us = [a,b]:=by
 cases us with
 | nil=>cases h
 | cons a us=>
   obtain⟨b,rfl⟩:=LZ (yf h)
   exact⟨a,b,rfl⟩
theorem EF{ps:List Str}{as:List Arg}(e:as.map (·.arg)=ps)(hk:ps∈qo){fd:FuncData}(hp:fd.params=⟨[],as,none,[],[],none,[]⟩)(hd:fd.defaults = .none){us:List Value}(hl:us.length=ps.length):bindArgs fd ⟨us,[]⟩=pure (ps.zip us):=by
 obtain⟨c1,c2,pr,c4,c5,df,c7,c8,c9,c10,c11,c12,c13⟩:=fd
 cases hp
 cases hd
 simp only[qo,aG,dC,or_false]at hk
 rcases hk with rfl |rfl |rfl |rfl |rfl |rfl
 all_goals first
  | (obtain⟨an,q,rfl⟩:=NN e;obtain⟨a,rfl⟩:=LZ hl;rfl)
  | (obtain⟨an,q,an2,q2,rfl⟩:=Os e;obtain⟨a,b,rfl⟩:=ON hl;rfl)
theorem AN{p:Arguments}{ps:List Str}(h:qU p=some ps)(nd:ps.Nodup){K:aj}{name qual:Str}{body:Expr}{scope:Scope}{cl:List (Str×Addr)}{pm cdv ct:Value}:Binds K (kla_fn name qual p body scope cl pm cdv ct) ps []:=by
 obtain⟨as,rfl,e,hk⟩:=wy h
 exact .all λus hl=>EF e hk rfl rfl hl
theorem Da{p:Arguments}{ps:List Str}(h:qU p=some ps)(env:Env):defaultsOf p env=([],[]):=by
 obtain⟨as,rfl,_⟩:=wy h
 rfl
section
variable {M:Mo}{X:Cx}{k:Nat}{N:List Str}{ns:List (Str×NameKind)}{pins:List (Addr×Obj)}{σ:St}{H:Hp}{s:Shared}
theorem wZ(S:Sc M X k N ns)(I:Inv X pins σ H s){y:Str}{c:Addr}(hy:ns.lookup y=some .cell)(hc:X.env.cells.lookup y=some c):c∉frs X.stack:=λz=>by
 have fn:=(S.cel y hy).2
 rcases aG.mp (I.stkSub c z) with e |hb
 ·exact I.cne y c hc e
 ·obtain⟨_,o,ho,_⟩:=I.ok.funs.mem hb
  exact absurd (ao (ax ho) (I.ok.cab y c fn hc)) (bF _)
theorem zL(S:Sc M X k N ns)(I:Inv X pins σ H s){μ:List Addr}{ρ:Rho}(er:ER H μ ρ σ){names:List (Str×NameKind)}: ∀{fs:List Str}{is:List Nat}{cs:List U},(∀y∈fs,ns.lookup y=some .cell/\(y,aX)∈names) ->
  dq (λy=>N.findIdx? (· == y)) fs=some is->mL is ρ=some cs -> ∃cv,RUs H μ cs cv/\mD (baseOf s.heap H (frs X.stack)) (gz X.env.cells names []) fs cv
 | [],is,cs,_,h1,h2=>by cases h1;cases h2;exact⟨[],.nil,trivial⟩
 | y::fs,is,cs,hf,h1,h2=>by
   unfold dq at h1
   cases e1:N.findIdx? (· == y) with
   | none=>rw[e1]at h1;cases h1
   | some i=>
     rw[e1]at h1
     simp only[ag]at h1
     cases e2:dq (λy=>N.findIdx? (· == y)) fs with
     | none=>rw[e2]at h1;cases h1
     | some is'=>
       rw[e2]at h1;cases h1
       unfold mL dq at h2
       cases e3:(ρ[i]?).bind id with
       | none=>rw[e3]at h2;cases h2
       | some u=>
         rw[e3]at h2
         simp only[ag]at h2
         cases e4:dq (λi=>(ρ[i]?).bind id) is' with
         | none=>rw[e4]at h2;cases h2
         | some cs'=>
           rw[e4]at h2;cases h2
           obtain⟨cv,r1,r2⟩:=zL S I er (λz hz=>hf z (aC _ hz)) e2 (show mL is' ρ=some cs' from e4)
           have hρ:ρ[i]? = some (some u):=by
            cases q:ρ[i]? with
            | none=>rw[q]at e3;cases e3
            | some o=>rw[q]at e3;cases o with
              | none=>cases e3
              | some w=>cases e3;rfl
           obtain⟨v,hσ,rv⟩:=er.get i u hρ
           obtain⟨hi,hy,_⟩:=eG.mp e1
           have hN:X.N[i]? = some y:=by rw[S.hN,aD hi,eq_of_beq hy]
           obtain⟨m,hn,hl⟩:=I.loc
           have hcl:=(S.cel y (hf y aZ).1).1
           obtain⟨w,rw',l⟩:=hl i y v hN hσ (.inr (.inl hcl))
           rcases l with⟨hk,_⟩ | ⟨_,c,hc,o,ho,hd⟩
           ·have hk':X.env.scope.names.lookup y=some .local:=hk
            rw[hcl]at hk';cases hk'
           ·refine⟨v::cv,.cons rv r1,⟨c,o,w,AG (hf y aZ).2 hc,?_,hd,rw'⟩,r2⟩
            exact jg ho (I.freeC y c hc) (wZ S I (hf y aZ).1 hc)
theorem FI{F:Addr->MF->MF}{f0:Addr}{fd0:FuncData}{gps ps fs:List Str}{is:List Nat}{k' j:Nat}{ml:ME}{params:Arguments}{body:Expr}{scope:Scope}{qual:Str}{pm ctv:Value}{c' f:Addr}{oc:Obj}{ws:Array Value}{t:Tok}
  {μ:List Addr}{S1 S':Sto}{ρ:Rho}{x u:U}{cs:List U}{v1:V}{u1:Value}{Q:VK}
  (S:Sc M X k N ns) (hB:gR M.mg M.base) (hj:k'<=j+1) (hk:j+2<=k) (hbd:Binds M.K fd0 gps [])
  (FF: ∀(caps:List U) (capv:List V) (cds:List (Addr×Obj)) (base:Heap) (g:Addr) (j:Nat) (lps:List Str) (φ:MF),gR M.mg base->k'<=j->Lam (M.to caps capv cds base) g j lps φ->jW M.P M.w M.K M.mg base CX0 (j+1) f0 fd0 gps (spM (M.K.to caps capv cds) (F g φ)))
  (hps:qU params=some ps) (LS:lg ps fs scope) (hfs: ∀y∈fs,ns.lookup y=some .cell/\(y,aX)∈scope.names) (his:dq (λy=>N.findIdx? (· == y)) fs=some is)
  (hb: ∀(caps:List U) (capv:List V) (cds:List (Addr×Obj)) (base:Heap),gR M.mg base -> ∀(X':Cx),Sc (M.to caps capv cds base) X' j (ps++fs) scope.names->PE X' body (tM (M.K.to caps capv cds) ml))
  (I:Inv X pins σ H s) (hr:HR M.K μ S1 H) (er:ER H μ ρ σ) (hcs:mL is ρ=some cs) (spec:F f (rN ps.length ml cs) [x,.obj f] S1=some (u,S')) (rx:RU H μ x v1) (ru:RelV v1 u1) (aft:Aft M.K μ H u S' Q)
  (hf:s.heap.get? f=some (kla_obj "<lambda>" qual params body scope (gz X.env.cells scope.names []) pm c' ctv)) (hfn:H f=none) (hff:f∉frs X.stack) (hc:H c'=some (.frz oc fz)) (hoc:oc.data = .fields ws) (hq:ws[1]? = some (.str qual t)) :
  aH (model X.prog X.w) X.A (call (.ref f0) [u1,.ref f]) (EP X pins σ Q) X.xe s:=by
 obtain⟨cv,rc,C⟩:=zL S I er hfs his hcs
 have hB':gR M.mg (baseOf s.heap H (frs X.stack)):=hB.keeps λa o e=>wB I a o (by rw[S.hb];exact e)
 have lam:Lam (M.to cs cv (M.K.cds++[(c',oc)]) (baseOf s.heap H (frs X.stack))) f (j+1) ps (rN ps.length ml cs):=by
  refine⟨_,.inl ⟨_,_,_,jg hf hfn hff⟩,AN hps (iS.mp LS.nd).1,?_⟩
  refine Kc (M:=M.to cs cv (M.K.cds++[(c',oc)]) (baseOf s.heap H (frs X.stack))) rfl (jg hf hfn hff) (bb _ aZ) hoc hq LS C (λy c e =>?_) (λy z c e1 e2=>I.ok.inj y z c (kj e1).1 (kj e2).1) (hb _ _ _ _ hB')
  obtain⟨e1,e2⟩:=kj e
  obtain⟨v,o,ho,hd⟩:=I.cell y c e1
  exact⟨o,v,jg ho (I.freeC y c e1) (wZ S I (hfs y (LS.fre _ e2 rfl)).1 e1),hd⟩
 have FO:=FF _ _ _ _ f (j+1) ps _ hB' hj lam
 rw[<- S.hP,<- S.hw,<- S.hK,<- S.hm]at FO
 have hr':HR (M.K.to cs cv (M.K.cds++[(c',oc)])) μ S1 H:=⟨hr.len,hr.inj,hr.cell,rc,λq hq=>by
  rcases bu.mp hq with z |z
  ·exact hr.ext.cds q z
  ·have e:q=(c',oc):=by simpa using z
   rw[e];exact hc,hr.ext.tab⟩
 have hsp:spM (M.K.to cs cv (M.K.cds++[(c',oc)])) (F f (rN ps.length ml cs)) [v1,.ref f] H Q E0:=by
  refine⟨μ,S1,[x,.obj f],u,S',hr',.cons rx (.cons (by simp only[RU]) .nil),spec,λμ' v H' p' k' hr2 ru2 =>?_⟩
  refine aft μ' v H' p' k' ⟨hr2.len,hr2.inj,hr2.cell,RUs.mono k' p' _ _ hr.ext.cap,λq hq=>hr2.ext.cds q (bA _ hq),hr2.ext.tab⟩ ru2
 have hl:([u1,bj f]++[]).length=gps.length:=by have:=FO.len _ _ _ _ hsp;simpa using this
 rw[<- S.hK]at hbd
 refine wpAny_call (kD (FO.run X.A X.stack s H ⟨[u1,.ref f],[]⟩ [u1,.ref f] [v1,.ref f] Q E0 (S.room.mono hk) (AQ I) (hbd s _ I.kIn hl) (.cons ru (.cons rfl .nil)) hsp) λr s' hq =>?_)
 cases r with
 | error e=>exact hq.elim
 | ok fl=>
   cases fl with
   | ret u=>exact I.after hq
   | next=>exact di hq
   | brk=>exact di hq
   | cont=>exact di hq
theorem Hl{F:Addr->MF->MF}{gps ps fs:List Str}{is:List Nat}{k' j:Nat}{ml ma:ME}{g q:Str}{c P:Addr}{params:Arguments}{a body:Expr}{scope:Scope}{p1 lp pos:Pos}
  (S:Sc M X k N ns) (FC:FnC M g k' gps F) (hj:k'<=j+1) (hk:j+2<=k) (hmk:M.mkr=some (c,q)) (MK:Mkr M c P (q++"<lambda>"))
  (hg:fh ns g=true) (hgd:(g == ("__debug__":Str))=false) (ha:PE X a (tM M.K ma)) (hs:starEach [a,.Lambda params body scope lp] X.env=(false,eval a X.env)::starEach [.Lambda params body scope lp] X.env)
  (hps:qU params=some ps) (LS:lg ps fs scope) (hfs: ∀y∈fs,ns.lookup y=some .cell/\(y,aX)∈scope.names) (his:dq (λy=>N.findIdx? (· == y)) fs=some is)
  (hb: ∀(caps:List U) (capv:List V) (cds:List (Addr×Obj)) (base:Heap),gR M.mg base -> ∀(X':Cx),Sc (M.to caps capv cds base) X' j (ps++fs) scope.names->PE X' body (tM (M.K.to caps capv cds) ml)):
  PE X (.Call (.Name g p1) [a,.Lambda params body scope lp] [] pos) (tM M.K (mM F ps.length is ml ma)):=by
 intro pins s σ H Q I h
 obtain⟨μ,S0,ρ,u,S',hr,er,qm,aft⟩:=h
 unfold mM at qm
 obtain⟨x,S1,e1,qm⟩:=bc qm
 cases hcs:mL is ρ with
 | none=>rw[hcs]at qm;cases qm
 | some cs=>
 rw[hcs]at qm
 simp only[ag]at qm
 split at qm
 rotate_left
 ·cases qm
 rename_i hx
 have spec: ∀f,F f (rN ps.length ml cs) [x,.obj f] S1=some (u,S'):=λf=>(hx.choose_spec f).trans qm
 obtain⟨f0,fd0,hm,hkp,hbd,FF⟩:=FC.ex
 rw[<- S.hK]at hkp
 refine fY (qr I (S.gl hg) (by rw[S.hm];exact hm) ?_ hgd)
 refine pA (h₀:=X.base) I.ok.mod.kin hkp ?_ hs rfl
 rw[hs]
 show aH _ _ (spliced ((false,eval a X.env)::backTo pos (starEach [.Lambda params body scope lp] X.env))) _ _ s
 refine pY (thn (ha pins s σ H (λv H1 =>∃μ1,Pre μ μ1/\bh H H1/\HR M.K μ1 S1 H1/\RU H1 μ1 x v) I ⟨μ,S0,ρ,x,S1,hr,er,e1,λμ' v H' p k hr' ru=>⟨μ',p,k,hr',ru⟩⟩) λu1 s1 ⟨v1,H1,I1,r1,μ1,pr1,kp1,hr1,rx1⟩ =>?_)
 obtain⟨hcode,hqual⟩:=S.cod c q hmk
 obtain⟨ps0,hP,tr,al⟩:=hr1.ext.tab _ MK.mem
 have hPh:s1.heap.get? P=some (tabObj ps0):=I1.hok P _ hP
 have kin:M.K.K.In s1.heap:=by have:=I1.kIn;rwa[S.hK]at this
 have C:CodeHd s1.heap c P:=MK.hd _ kin
 have hgl:s1.heap.Ns mainGlobals X.mg:=I1.mod.glob.keeps I1.bk
 obtain⟨bm,ob,b1,b2,b5,b6,b7,b8⟩:=MK.bl
 have b5':s1.heap.get? bm=some ob:=I1.bk bm ob (by rw[S.hb];exact b5)
 have b3:bm≠mainGlobals:=λz=>by
  obtain⟨o,es,ep,e,hd,_⟩:=hgl
  rw[<- z,b5']at e;cases e;rw[b8]at hd;cases hd
 have b4:bm≠P:=λz=>by
  rw[z,hPh]at b5';cases b5';cases b8
 have BA:s1.heap.BuiltinsAt X.mg P:=⟨bm,ob,by rw[S.hm];exact b1,b2,b3,b4,b5',b6,b7,b8⟩
 have hclo:closureFor scope X.env=pure (gz X.env.cells scope.names []):=yQ λy hy hyf=>I.ok.has y.1 (.inl (S.cel y.1 (hfs y.1 (LS.fre y hy hyf)).1).1)
 show aH _ _ (spliced [(false,eval (.Lambda params body scope lp) X.env)]) _ _ s1
 refine pY (PySem.W.kla_eval (Da hps _) ?_)
 have fin: ∀(H2:Hp) (s2:Shared) (c' f:Addr) (ctv:Value) (oc:Obj) (ws:Array Value) (t:Tok),Inv X pins σ H2 s2->bh H1 H2->HR M.K μ1 S1 H2 ->
   s2.heap.get? f=some (kla_obj "<lambda>" (X.env.qual++"<lambda>") params body scope (gz X.env.cells scope.names []) ((X.mg "__name__").getD .none) c' ctv)->H2 f=none->s1.heap.objs.size<=f->H2 c'=some (.frz oc fz)->oc.data = .fields ws->ws[1]? = some (.str (q++"<lambda>") t) ->
   aH (model X.prog X.w) X.A (spliced []) (λvs s₂=>X.K.In s₂.heap/\aH (model X.prog X.w) X.A (call (.ref f0) ([]++(u1::bj f::vs))) (EP X pins σ Q) X.xe s₂) X.xe s2:=by
  intro H2 s2 c' f ctv oc ws t I2 kp2 hr2 hf hfn hfs' hc hoc hq
  have hff:f∉frs X.stack:=λz=>by
   obtain⟨_,o,ho,_⟩:=I1.stack.mem z
   exact absurd (ao (ax ho) hfs') (bF _)
  rw[<- hqual]at hq
  exact Calls.spliced_nil ⟨I2.kIn,FI S MK.bl hj hk hbd FF hps LS hfs his hb I2 hr2 (er.mono (kp1.trans kp2) pr1) hcs (spec f) (RU.mono kp2 (Pre.refl _) _ _ rx1) r1 (aft.mono pr1 (kp1.trans kp2)) hf hfn hff hc hoc hq⟩
 cases ham:codeAmong lp ps0.toList with
 | none=>
   refine PySem.W.kla_makeFunction (mg:=X.mg) hclo I1.ok.glob hgl hcode C hPh tr ham MK.gP BA λc' ctv h' tk hx hge hlt hrec htb =>?_
   obtain⟨c2,oc,ws,t,e,hoc,hd,hq'⟩:=hrec
   cases e
   have I2:=AI (ob:=kla_obj "<lambda>" (X.env.qual++"<lambda>") params body scope (gz X.env.cells scope.names []) ((X.mg "__name__").getD .none) c' ctv) (tk:=tk) I1 hP hx hge hoc htb
   rw[hqual]at hq'
   obtain⟨kp2,hr2⟩:=hr1.table (a:=(lp.line:Int)) (b:=(lp.col:Int)) hP (I1.hok.fresh hge) hd hq' MK.un
   have hsz:s1.heap.objs.size<=h'.objs.size:=aM hge (aU hlt)
   refine fin _ _ c' h'.objs.size ctv oc ws t I2 kp2 hr2 (aw _ rfl) ?_ hsz ?_ hd hq'
   ·rw[bw (b0 (ax htb)),bw (b0 hlt)]
    exact I1.hok.fresh hsz
   ·rw[bw (bx hP (I1.hok.fresh hge)).symm,cw]
 | some cv=>
   obtain⟨c',oc,ws,t,rfl,hfr,hd,hq'⟩:=al lp cv ham
   refine PySem.W.kla_makeFunctionHit (mg:=X.mg) hclo I1.ok.glob hgl hcode C hPh tr ham BA λctv h' tk hk hsz =>?_
   have I2:=I1.kept (t':=tk) (h':=h'.push (kla_obj "<lambda>" (X.env.qual++"<lambda>") params body scope (gz X.env.cells scope.names []) ((X.mg "__name__").getD .none) c' ctv)) (fun b o e=>af _ (hk b o e))
   exact fin H1 _ c' h'.objs.size ctv oc ws t I2 (bh.refl _) hr1 (aw _ rfl) (I1.hok.fresh hsz) hsz hfr hd hq'
end
end _G
end
section
namespace _G
open PySem PySem.Spec _L
open PyProof.Rows hiding St
noncomputable def Trc(e T:Addr)(cls:Value)(h:Heap):Prop:= ∃(oe:Obj) (vs:Array Value) (a0:Value) (oT:Obj) (ts:Array Value),h.get? e=some oe/\(oe.cls=cls/\vs[0]? = some a0)/\oe.data = .fields vs/\vs[1]? = some (.ref T)/\T≠e/\h.get? T=some oT/\oT.data = .fields ts/\ts[3]? = some .none
noncomputable def CX1(P:Program)(w:World):CXT:=λouter H s E ev s' =>∃(e T:Addr) (cls:Value) (H':Hp),ev = .ref e/\s'.os=s.os/\AllBare s'.gens/\Un (frs outer) [] H H' s.heap s'.heap/\HOk P w H' s'.heap/\Trc e T cls s'.heap/\s.heap.get? e=none/\s.heap.get? T=none/\H' e=none/\H' T=none/\E cls none H'
structure Left(fs:List Addr)(e T:Addr)(h h':Heap):Prop where
 keep: ∀b o,b∉fs->b≠e->b≠T->h.get? b=some o->h'.get? b=some o
 slot: ∀b o,b∈fs->h.get? b=some o -> ∃sl,h'.get? b=some { o with slots:=sl }
theorem Left.hok{P:Program}{w:World}{fs:List Addr}{e T:Addr}{H:Hp}{h h':Heap}(l:Left fs e T h h')(x:HOk P w H h)(hf: ∀b∈fs,H b=none)(he:H e=none)(hT:H T=none):HOk P w H h':=λa o q=>by
 refine(x a o q).stay (λb u hb e1 =>?_) (λ_ z=>z) λ_ _ z=>z
 have key: ∃o,H b=some o:=by
  rcases hb with rfl |z
  ·exact⟨_,q⟩
  ·exact⟨_,z⟩
 obtain⟨ob,key⟩:=key
 exact l.keep b u (λz=>by rw[hf b z]at key;cases key) (λz=>by rw[z,he]at key;cases key) (λz=>by rw[z,hT]at key;cases key) e1
section
variable {X:Cx}{pins:List (Addr×Obj)}{σ:St}{H H':Hp}{s s':Shared}
structure Lv(X:Cx)(E:XK):Prop where
 stk:X.stack=X.env::X.outer
 fr:X.env.frame=some X.env.locals
 ex:X.ex = []
 xe:X.xe=λe s'=>aH (model X.prog X.w) X.A (leaving X.env e) (λ_ s''=>CX1 X.prog X.w X.outer X.H₀ X.s₀ E e s'') (λe' s''=>CX1 X.prog X.w X.outer X.H₀ X.s₀ E e' s'') s'
end
end _G
end
section
namespace _G
open PySem PySem.Spec _L
open PySem.W (envX kla_fn kla_obj CodeHd tabObj)
open PyProof.Rows hiding St
section
abbrev RF:=List U->Sto->Option (Nat×Sto)
noncomputable def kL(b:Nat->Bool)(is:List Nat):Cell:= .lst (is.map λi => .bl (b i))
noncomputable def NR(b:Nat->Bool):Sto:= [kL b [0,1,2],kL b [3,4,5],kL b [0,1,2,3,4,5,6]]
noncomputable def bQ(q:Nat)(j:Nat):Bool:=decide (q=j)||decide (j=7)
noncomputable def OT(rz:List Nat)(φ:MF)(ψ:RF)(S:Sto):Res U:=match φ [] S with
 | some r=>some (.non,r.2++NR λ_=>false)
 | none=>match ψ [] S with
   | some r=>if r.1∈rz then some (.ref (r.2.length+3),r.2++(NR (bQ r.1)++[.lst [.int r.1]])) else none
   | none=>none
noncomputable def OP(rz:List Nat)(g:Addr)(φ:MF)(ψ:RF):MF:=λus S=>match us with
 | [.obj a]=>if a=g then OT rz φ ψ S else none
 | _=>none
end
noncomputable def OU(cl:Nat->Addr)(K:KX)(μ:List Addr)(H:Hp)(C:Nat)(S':Sto)(E:XK):Prop:= ∀μ' H',Pre μ μ'->bh H H'->HR K μ' S' H'->E (.ref (cl C)) none H'
noncomputable def spX(cl:Nat->Addr)(K:KX)(r:RF):Sp:=λvs H _ E =>∃μ S us C S',HR K μ S H/\RUs H μ us vs/\r us S=some (C,S')/\OU cl K μ H C S' E
structure FnX(M:Mo)(cl:Nat->Addr)(x:Str)(k:Nat)(ps:List Str)(r:RF):Prop where
 ex: ∃(f:Addr) (fd:FuncData),M.mg x=some (.ref f)/\cm M.K (.ref f)=true/\Binds M.K fd ps []/\jW M.P M.w M.K M.mg M.base (CX1 M.P M.w) k f fd ps (spX cl M.K r)
structure Ov(M:Mo)(cl:Nat->Addr)(f:Addr)(k:Nat)(ps:List Str)(r:RF):Prop where
 ex: ∃fd:FuncData,((∃(oc:Value) (od:Option Addr) (sl:Array (Option Value)),M.base.get? f=some ⟨oc,od,.func fd,sl⟩)\/cm M.K (.ref f)=true)/\Binds M.K fd ps []/\jW M.P M.w M.K M.mg M.base (CX1 M.P M.w) k f fd ps (spX cl M.K r)
structure FnR(M:Mo)(cl:Nat->Addr)(x:Str)(k:Nat)(rz:List Nat):Prop where
 ex : ∃ (f:Addr) (fd:FuncData),M.mg x=some (.ref f)/\cm M.K (.ref f)=true/\Binds M.K fd ["call"] [] /\
  ∀(caps:List U) (capv:List V) (cds:List (Addr×Obj)) (base:Heap) (g:Addr) (j:Nat) (φ:MF) (ψ:RF),gR M.mg base->k<=j->Lam (M.to caps capv cds base) g j [] φ->Ov (M.to caps capv cds base) cl g j [] ψ ->
   jW M.P M.w M.K M.mg base CX0 (j+1) f fd ["call"] (spM (M.K.to caps capv cds) (OP rz g φ ψ))
section
variable {M:Mo}{X:Cx}{k:Nat}{N:List Str}{ns:List (Str×NameKind)}{pins:List (Addr×Obj)}{σ:St}{H:Hp}{s:Shared}{cl:Nat->Addr}{rz:List Nat}
end
end _G
end
section
namespace _G
open PySem PySem.Spec _L
open PySem.W (envX fnX fnMade CodeHd tabObj)
open PyProof.Rows hiding St
section
end
section
noncomputable def sml(i:Int):Prop:= -(2 ^ 64)<i/\i<2 ^ 64
noncomputable instance(i:Int):Decidable (sml i):=bV _
end
section
variable {M:Mo}{X:Cx}{k:Nat}{N:List Str}{ns:List (Str×NameKind)}
end
section
variable {M:Mo}{X:Cx}{k:Nat}{N:List Str}{ns:List (Str×NameKind)}{pins:List (Addr×Obj)}{σ:St}{H:Hp}{s:Shared}
end
end _G
end
section
namespace _G
open PySem PySem.Spec _L
open PyProof.Rows hiding St
section
abbrev NS:=List (Str×NameKind)
structure Zt where
 R:List (Str×RF)
 F:List (Str×List Nat)
 cl:Nat->Addr
 nm:Str
noncomputable def z0:Zt:=⟨[],[],fun _=>0,"<lambda>"⟩
noncomputable def Zt.to(z:Zt)(nm:Str):Zt:=⟨z.R,z.F,z.cl,nm⟩
structure Tb where
 D:List (Str×MF)
 C:List (Str×U)
 L:List (Str×Addr×MF)
 H:List (Str×(Addr->MF->MF))
 mkr:Bool
 Z:Zt
noncomputable def Tb.bare(T:Tb):Tb:=⟨T.D,T.C,[],T.H,false,T.Z⟩
noncomputable def frees(sc:Scope):List Str:=(sc.names.filter λy=>y.2==.free).map (·.1)
noncomputable def yr(ps:List Str)(sc:Scope)(ns:NS):Bool:=
 sc.kind==.function && !sc.isCoroutine && !sc.isGenerator&&decide ((ps++frees sc).Nodup)&&ps.all (λp=>sc.names.lookup p==some .local||sc.names.lookup p==some .cell)&&sc.names.all (λy => !(y.2==.cell)||sc.names.lookup y.1==some .cell)&&(frees sc).all λy=>sc.names.lookup y==some .free&&ns.lookup y==some .cell
noncomputable def notStar:Expr->Bool
 | .Starred _ _=>false
 | _=>true
noncomputable def j6:Expr->Bool
 | .ListComp _ _ _ _=>false
 | .SetComp _ _ _ _=>false
 | .DictComp _ _ _ _ _=>false
 | _=>true
noncomputable def jG:Expr->Bool
 | .Set _ _ _=>false
 | _=>true
noncomputable def nz:Expr->Bool
 | .Slice _ _ _ _=>false
 | _=>true
noncomputable def notTuple:Expr->Bool
 | .Tuple _ _ _=>false
 | _=>true
noncomputable def qg:List Expr->Bool
 | [.Subscript _ _ _,.Subscript _ _ _]=>true
 | _=>false
noncomputable def baseOk:Expr->Bool
 | .Call (.Name _ _) [] [] _=>false
 | _=>true
noncomputable def plainT:Expr->Bool
 | .Name _ _=>true
 | .Call _ _ _ _=>true
 | .Subscript _ _ _=>true
 | .Constant _ _ _=>true
 | _=>false
noncomputable def dummy(N:List Str):Str:=⟨#[N.length+1]⟩
noncomputable def yY(N:List Str)(x:Str):List Str:=(N.map λy=>if y==x then dummy N else y)++[x]
noncomputable def Dk(N xs:List Str):List Str:=(N.zipIdx.map λ(y,i)=>if xs.contains y then(⟨#[N.length+1,i]⟩:Str) else y)++xs
noncomputable def namesOf:List Expr->Option (List Str)
 | []=>some []
 | .Name x _::r=>(namesOf r).map λxs=>x::xs
 | _=>none
noncomputable def fR (x:Str):Bool := !(x == ("__debug__":Str)) && !(x == ("__classdict__":Str))
noncomputable def slot(N:List Str)(x:Str):Option Nat:=N.findIdx? (· == x)
noncomputable def KB(g:Str):Option MF:=
 if g == ("len":Str) then some cN else if g == ("tuple":Str) then some cy
 else if g == ("max":Str) then some sR else if g == ("min":Str) then some sW else if g == ("all":Str) then some uX
 else if g == ("sorted":Str) then some fP    else none
noncomputable def jX:List Str := ["len","tuple","list","max","min","range","isinstance","bool","int","str","dict","all","any","sorted","reversed","zip","enumerate","set","sum","repr"]
noncomputable def CP(t:Str):Option String:=
 if t == ("tuple":Str) then some "tuple" else if t == ("list":Str) then some "list" else if t == ("int":Str) then some "int"
 else if t == ("bool":Str) then some "bool" else if t == ("str":Str) then some "str" else if t == ("dict":Str) then some "dict" else none
noncomputable def Jz:Operator->Option F2
 | .Add=>some cP
 | .Sub=>some mR
 | .Mult=>some gI
 | .FloorDiv=>some oDiv
 | .Mod=>some oMod
 | .Pow=>some nQ
 | _=>none
noncomputable def HK:CmpOp->Option F2
 | .Lt=>some oLt
 | .LtE=>some oLe
 | .Gt=>some oGt
 | .GtE=>some oGe
 | .Eq=>some oEq
 | .NotEq=>some oNe
 | .NotIn=>some gy
 | .IsNot=>some mZ
 | _=>none
noncomputable def sNo:MS:=λ_ _=>none
noncomputable def NZ:MS:=λρ S=>some (.bk,ρ,S)
noncomputable def MB:MS:=λρ S=>some (.ct,ρ,S)
noncomputable def Eu(name:Str)(ma:ME)(mas:MA):Option ME:=
 if name == ("append":Str) then some (mML du ma mas) else if name == ("pop":Str) then some (mML ke ma mas)
 else if name == ("index":Str) then some (mMT iz ma mas)
 else if name == ("extend":Str) then some (mML eJ ma mas) else none
set_option genInjectivity false in
structure Rc where
 e:Tb->List Str->NS->Expr->Option ME
 c:Tb->List Str->NS->Str->List Expr->Option ME
 v:Tb->List Str->NS->Str->List Expr->Option ME
 o:Tb->List Str->NS->Option Expr->Option (Option ME)
 t:Tb->List Str->NS->Expr->Option MT
 l:Tb->List Str->NS->Bool->List Expr->Option MT
 f:Tb->List Str->NS->List Expr->Option MT
 a:Tb->List Str->NS->List Expr->Option MA
 i:Tb->List Str->NS->Expr->Option MI
 g:Tb->List Str->NS->Expr->Option MG
 gs:Tb->List Str->NS->List Expr->Option MGs
 s:Tb->List Str->NS->Stmt->Option MS
 b:Tb->List Str->NS->List Stmt->Option MS
section
variable (R:Rc) (T:Tb) (N:List Str) (ns:NS)
noncomputable def N5:Const->Option ME
 | .int i=>some (mC (.int i))
 | .bool b=>some (mC (.bl b))
 | .none=>some (mC .non)
 | .str x=>some (mC (.str x))
 | _=>none
noncomputable def eUn(a:Expr):UnaryOp->Option ME
 | .USub=>(R.e T N ns a).map (m1 pR)
 | .Not=>(R.e T N ns a).map (m1 GO)
 | _=>none
noncomputable def eBo(op:BoolOp)(p:Pos):List Expr->Option ME
 | []=>none
 | [a]=>R.e T N ns a
 | a::b::r=>(R.e T N ns a).bind λma=>match op with
   | .And=>(R.e T N ns (.BoolOp .And (b::r) p)).map (JC ma)
   | .Or=>(R.e T N ns (.BoolOp .Or (b::r) p)).map (mOr ma)
noncomputable def eCm(a:Expr):List CmpOp->List Expr->Option ME
 | [op],[b]=>if jG b then(R.e T N ns a).bind λma=>(R.e T N ns b).bind λmb=>(HK op).map λf=>m2 f ma mb else none
 | _,_=>none
noncomputable def Gw:Expr->Bool
 | .UnaryOp .USub (.Constant (.int i) _ _) _=>i==1
 | _=>false
noncomputable def eSl(a:Expr)(lo hi:Option Expr):Option Expr->Option ME
 | none=>(R.e T N ns a).bind λma=>(R.o T N ns lo).bind λml=>(R.o T N ns hi).map (mSl ma ml)
 | some s=>if lo.isNone&&hi.isNone&&Gw s then(R.e T N ns a).map (m1 o7) else none
noncomputable def eSb(a:Expr):Expr->Option ME
 | .Slice lo hi st _=>eSl R T N ns a lo hi st
 | b=>if nz b then(R.e T N ns a).bind λma=>(R.e T N ns b).map (m2 oIx ma) else none
noncomputable def eDi:List (Option Expr)->List Expr->Option ME
 | [],[]=>some nW
 | [some a],[b]=>(R.e T N ns a).bind λma=>(R.e T N ns b).map (qL ma)
 | _,_=>none
noncomputable def IK(x:Str):Expr->Bool
 | .Name g _=>g==x
 | _=>false
noncomputable def CS(e:Expr):Option Expr:=match e with
 | .Call g as ks _=>if IK "enumerate" g&&(ks.isEmpty&&as.length == 1) then as.head? else none
 | _=>none
noncomputable def eIc(e:Expr):Option MI:=match CS e with
 | some a=>if fh ns ("enumerate":Str) then (R.a T N ns [a]).map CU else none
 | none=>(R.e T N ns e).map cu
noncomputable def eLn(elt it:Expr)(ifs:List Expr)(scope:Scope)(x:Str):Option ME:=
 (R.i T N ns it).bind λmi=>(R.f T (yY N x) scope.names ifs).bind λmt=>(R.e T (yY N x) scope.names elt).map (ck mi mt)
noncomputable def eLt(elt it:Expr)(ifs:List Expr)(scope:Scope):Expr->Option ME
 | .Name x _=>if scope.kind==.function&&lQ N (yY N x) ns scope.names x&&jG it then eLn R T N ns elt it ifs scope x else none
 | .Tuple ts _ _=>(namesOf ts).bind λxs=>
   if scope.kind==.function&&nF N (Dk N xs) ns scope.names xs&&jG it then
    (eIc R T N ns it).bind λmi=>(R.f T (Dk N xs) scope.names ifs).bind λmt=>(R.e T (Dk N xs) scope.names elt).map (iZ xs.length mi mt)
   else none
 | _=>none
noncomputable def eLc(elt:Expr)(scope:Scope):List Comprehension->Option ME
 | [c]=>if c.is_async=0 then eLt R T N ns elt c.iter c.ifs scope c.target else none
 | _=>none
noncomputable def eRg(g:Str):List Expr->Option ME
 | [a]=>if g == ("list":Str) then none else (R.a T N ns [a]).map fun m=>rq (iR1 m)
 | [a,b]=>if g == ("list":Str) then (R.a T N ns [a,b]).map fun m=>kh (iR2 m) else none
 | _=>none
noncomputable def Ou (T:Tb) (g:Str):Bool:=g == ("sorted":Str)&&T.Z.nm == ("sorted":Str)
noncomputable def eC1(g:Str):Expr->Option ME
 | .Call (.Name r q) rs [] rp=>if (g == ("list":Str)||g == ("tuple":Str))&&r == ("range":Str) then (if fh ns r then eRg R T N ns g rs else none) else R.c T N ns g [.Call (.Name r q) rs [] rp]
 | a=>if Ou T g then(R.a T N ns [a]).map (mFn mN) else R.c T N ns g [a]
noncomputable def eIs(g t:Str)(tp:Pos)(a:Expr):Option ME:=
 if g == ("isinstance":Str) then (if fh ns t&&notStar a then (CP t).bind fun c=>(R.e T N ns a).map (m1 (mX c)) else none) else R.c T N ns g [a,.Name t tp]
noncomputable def Lu(g:Str)(a:Expr)(p:Arguments)(b:Expr)(sc:Scope):Option ME:=
 if T.mkr&&T.Z.nm == ("<lambda>":Str)&&notStar a then (qU p).bind fun ps=>
    if yr ps sc ns then(dq (λy=>N.findIdx? (· == y)) (frees sc)).bind λis=>(R.e T N ns a).bind λma=>(R.e T.bare (ps++frees sc) sc.names b).bind λml=>(T.H.lookup g).map λF=>mM F ps.length is ml ma else none
   else none
noncomputable def eC2(g:Str)(a:Expr):Expr->Option ME
 | .Name t tp=>eIs R T N ns g t tp a
 | .Lambda p b sc _=>Lu R T N ns g a p b sc
 | b=>R.c T N ns g [a,b]
noncomputable def eCf(g:Str):List Expr->Option ME
 | []=>(T.D.lookup g).map λmf=>mFn mf ak
 | [a]=>eC1 R T N ns g a
 | [a,b]=>eC2 R T N ns g a b
 | a::b::c::r=>R.c T N ns g (a::b::c::r)
noncomputable def eMe(o:Expr)(name:Str)(p q:Pos):List Expr->Option ME
 | []=>if baseOk o&&(p.endLine == q.line)&&name == ("pop":Str) then (R.e T N ns o).map fun mo=>mML ow mo ak else none
 | [a]=>if baseOk o&&(p.endLine==q.line)&&notStar a then(R.e T N ns o).bind λmo=>(R.a T N ns [a]).bind (Eu name mo) else none
 | _=>none
noncomputable def eCa(as:List Expr)(q:Pos):Expr->Option ME
 | .Name g _=>if fh ns g&&fR g then eCf R T N ns g as else R.v T N ns g as
 | .Attribute o name p=>eMe R T N ns o name p q as
 | _=>none
end
noncomputable def sE(R:Rc)(T:Tb):List Str->NS->Expr->Option ME:=λN ns e=>match e with
  | .Name x _=>if fR x then(if tm ns x then(slot N x).map ae else if fh ns x then(T.C.lookup x).map mC else none) else none
  | .Constant c _ _=>N5 c
  | .BinOp a op b _=>(R.e T N ns a).bind λma=>(R.e T N ns b).bind λmb=>(Jz op).map λf=>m2 f ma mb
  | .UnaryOp op a _=>eUn R T N ns a op
  | .BoolOp op vs p=>eBo R T N ns op p vs
  | .Compare a ops bs _=>eCm R T N ns a ops bs
  | .IfExp c a b _=>(R.t T N ns c).bind λmc=>(R.e T N ns a).bind λma=>(R.e T N ns b).map (wm mc ma)
  | .Subscript a b _=>eSb R T N ns a b
  | .Dict ks vs _=>eDi R T N ns ks vs
  | .Tuple es _ _=>(R.a T N ns es).map cX
  | .List es _=>(R.a T N ns es).map dn
  | .ListComp elt gens scope _=>eLc R T N ns elt scope gens
  | .Call f as kws q=>if kws.isEmpty then eCa R T N ns as q f else none
  | _=>none
noncomputable def sC(R:Rc)(T:Tb):List Str->NS->Str->List Expr->Option ME:=λN ns g as=>(R.a T N ns as).bind λmas=>match KB g with
  | some mf=>some (mFn mf mas)
  | none=>(T.D.lookup g).map λmf=>mFn mf mas
noncomputable def sV(R:Rc)(T:Tb):List Str->NS->Str->List Expr->Option ME:=λN ns g as=>match as with
 | []=>none
 | a::as=>if tm ns g&&fR g then(T.L.lookup g).bind λq=>(slot N g).bind λi=>(R.a T N ns (a::as)).map (A2 i q.1 q.2) else none
noncomputable def sO(R:Rc)(T:Tb):List Str->NS->Option Expr->Option (Option ME):=λN ns o=>match o with
  | none=>some none
  | some e=>(R.e T N ns e).map some
noncomputable def sT(R:Rc)(T:Tb):List Str->NS->Expr->Option MT:=λN ns e=>match e with
  | .UnaryOp .Not a _=>(R.t T N ns a).map vg
  | .BoolOp .And vs _=>R.l T N ns true vs
  | .BoolOp .Or vs _=>R.l T N ns false vs
  | .Compare a ops bs _=>(eCm R T N ns a ops bs).map cOf
  | e=>if plainT e then(R.e T N ns e).map cOf else none
noncomputable def sL(R:Rc)(T:Tb):List Str->NS->Bool->List Expr->Option MT:=λN ns b vs=>match vs with
  | []=>none
  | [a]=>R.t T N ns a
  | a::r=>(R.t T N ns a).bind λma=>(R.l T N ns b r).map λmr=>if b then tH ma mr else cOr ma mr
noncomputable def sF(R:Rc)(T:Tb):List Str->NS->List Expr->Option MT:=λN ns ifs=>match ifs with
  | []=>some cTT
  | [c]=>R.t T N ns c
  | _=>none
noncomputable def sA(R:Rc)(T:Tb):List Str->NS->List Expr->Option MA:=λN ns es=>match es with
  | []=>some ak
  | e::r=>if notStar e then(R.e T N ns e).bind λm=>(R.a T N ns r).map (aa m) else none
noncomputable def sI(R:Rc)(T:Tb):List Str->NS->Expr->Option MI:=λN ns e=>match e with
  | .Call (.Name g q) as [] p=>
    if g == ("range":Str) then
     if fh ns g then match as with
      | [a]=>(R.a T N ns [a]).map iR1
      | [a,b]=>(R.a T N ns [a,b]).map iR2
      | _=>none
     else none
    else(R.e T N ns (.Call (.Name g q) as [] p)).map cu
  | e=>(R.e T N ns e).map cu
noncomputable def sG(R:Rc)(T:Tb):List Str->NS->Expr->Option MG:=λN ns e=>match e with
  | .Name x _=>if rG ns x then(slot N x).map gN else none
  | .Tuple es _ _=>(R.gs T N ns es).map (gTp es.length)
  | _=>none
noncomputable def sGs(R:Rc)(T:Tb):List Str->NS->List Expr->Option MGs:=λN ns es=>match es with
  | []=>some kA
  | e::r=>if notStar e then(R.g T N ns e).bind λg=>(R.gs T N ns r).map (d6 g) else none
noncomputable def JM(R:Rc)(T:Tb)(N:List Str)(ns:NS)(e:Expr):Option MI:=match e with
  | .Call (.Name g q) [a,b] [] p=>if g == ("zip":Str) then (if fh ns g then (R.a T N ns [a,b]).map xS else none) else (R.e T N ns (.Call (.Name g q) [a,b] [] p)).map cu
  | e=>(R.e T N ns e).map cu
noncomputable def eIt(R:Rc)(T:Tb)(N:List Str)(ns:NS)(e:Expr):Option MI:=match e with
  | e=>JM R T N ns e
noncomputable def Jg(R:Rc)(T:Tb)(N:List Str)(ns:NS)(y:Str)(elt it:Expr)(ifs:List Expr)(scope:Scope):Expr->Option MS
 | .Name x _=>
   if rG ns y&&(scope.kind==.function&&lQ N (yY N x) ns scope.names x&&jG it) then
    (slot N y).bind λi=>(R.i T N ns it).bind λmi=>(R.f T (yY N x) scope.names ifs).bind λmt=>(R.e T (yY N x) scope.names elt).map λme=>bJ i (ck mi mt me)
   else none
 | _=>none
noncomputable def Mt(R:Rc)(T:Tb)(N:List Str)(ns:NS)(y:Str)(elt:Expr)(scope:Scope):List Comprehension->Option MS
 | [c]=>if c.is_async=0 then Jg R T N ns y elt c.iter c.ifs scope c.target else none
 | _=>none
noncomputable def KZ(R:Rc)(T:Tb)(N:List Str)(ns:NS)(x:Str):Expr->Option MS
 | .ListComp elt gens scope _=>Mt R T N ns x elt scope gens
 | e=>if rG ns x&&j6 e then(slot N x).bind λi=>(R.e T N ns e).map (bJ i) else none
noncomputable def Ky(R:Rc)(T:Tb)(N:List Str)(ns:NS)(e:Expr):Expr->Option MS
  | .Name x _=>KZ R T N ns x e
  | .Subscript a b _=>if j6 e&&nz b then(R.e T N ns a).bind λma=>(R.e T N ns b).bind λmb=>(R.e T N ns e).map (eA ma mb) else none
  | .Tuple ts kt pt=>if j6 e&&(notTuple e||qg ts) then(R.g T N ns (.Tuple ts kt pt)).bind λg=>(R.e T N ns e).map λme=>sQ me g else none
  | _=>none
noncomputable def sAs(R:Rc)(T:Tb)(N:List Str)(ns:NS)(e:Expr):List Expr->Option MS
 | [t]=>Ky R T N ns e t
 | _=>none
noncomputable def sAu(R:Rc)(T:Tb)(N:List Str)(ns:NS)(x:Str)(e:Expr):Operator->Option MS
  | _=>none
noncomputable def Jl(R:Rc)(T:Tb)(N:List Str)(ns:NS)(op:Operator)(e:Expr):Expr->Option MS
 | .Name x _=>sAu R T N ns x e op
 | _=>none
noncomputable def sRt(R:Rc)(T:Tb)(N:List Str)(ns:NS):Option Expr->Option MS
 | some e=>(R.e T N ns e).map eg
 | none=>some (eg (mC .non))
noncomputable def sFo(R:Rc)(T:Tb)(N:List Str)(ns:NS)(it:Expr)(body:List Stmt):Expr->Option MS
  | .Name x _=>if rG ns x&&jG it then(slot N x).bind λi=>(R.i T N ns it).bind λmi=>(R.b T N ns body).map (eX i mi) else none
  | .Tuple ts kt pt=>if jG it then(R.g T N ns (.Tuple ts kt pt)).bind λg=>(eIt R T N ns it).bind λmi=>(R.b T N ns body).map (nH g mi) else none
  | _=>none
noncomputable def Kj(R:Rc)(T:Tb)(N:List Str)(ns:NS)(t it:Expr)(body:List Stmt):List Stmt->Option MS
 | []=>sFo R T N ns it body t
 | _=>none
noncomputable def sWh(R:Rc)(T:Tb)(N:List Str)(ns:NS)(c:Expr)(body:List Stmt):List Stmt->Option MS
 | []=>(R.t T N ns c).bind λmc=>(R.b T N ns body).map (jl mc)
 | _=>none
noncomputable def sS(R:Rc)(T:Tb):List Str->NS->Stmt->Option MS:=λN ns st=>match st with
  | .Assign ts e _=>sAs R T N ns e ts
  | .AugAssign t op e _=>Jl R T N ns op e t
  | .Expr e _=>if j6 e then(R.e T N ns e).map dN else none
  | .Return o _=>sRt R T N ns o
  | .If c a b _=>(R.t T N ns c).bind λmc=>(R.b T N ns a).bind λma=>(R.b T N ns b).map (sIf mc ma)
  | .For t it body els _=>Kj R T N ns t it body els
  | .While c body els _=>sWh R T N ns c body els
  | .Pass _=>some eC
  | .Break _=>some NZ
  | .Raise _ _ _=>some sNo
  | .Continue _=>some MB
  | _=>none
section
variable (R:Rc) (T:Tb) (N:List Str) (ns:NS)
end
noncomputable def sB(R:Rc)(T:Tb):List Str->NS->List Stmt->Option MS:=λN ns sts=>match sts with
  | []=>some eC
  | [s]=>R.s T N ns s
  | s::r=>(R.s T N ns s).bind λms=>(R.b T N ns r).map (br ms)
noncomputable def rc:Nat->Rc
 | 0=>⟨λ_ _ _ _=>none,λ_ _ _ _ _=>none,λ_ _ _ _ _=>none,λ_ _ _ _=>none,λ_ _ _ _=>none,λ_ _ _ _ _=>none,λ_ _ _ _=>none,λ_ _ _ _=>none,λ_ _ _ _=>none,λ_ _ _ _=>none,λ_ _ _ _=>none,λ_ _ _ _=>none,λ_ _ _ _=>none⟩
 | n+1=>⟨sE (rc n),sC (rc n),sV (rc n),sO (rc n),sT (rc n),sL (rc n),sF (rc n),sA (rc n),sI (rc n),sG (rc n),sGs (rc n),sS (rc n),sB (rc n)⟩
abbrev cE(T:Tb)(n:Nat):=(rc n).e T
abbrev cC(T:Tb)(n:Nat):=(rc n).c T
abbrev cV(T:Tb)(n:Nat):=(rc n).v T
abbrev cO(T:Tb)(n:Nat):=(rc n).o T
abbrev cT(T:Tb)(n:Nat):=(rc n).t T
abbrev cL(T:Tb)(n:Nat):=(rc n).l T
abbrev cF(T:Tb)(n:Nat):=(rc n).f T
abbrev cA(T:Tb)(n:Nat):=(rc n).a T
abbrev cI(T:Tb)(n:Nat):=(rc n).i T
abbrev cG(T:Tb)(n:Nat):=(rc n).g T
abbrev cGs(T:Tb)(n:Nat):=(rc n).gs T
abbrev cS(T:Tb)(n:Nat):=(rc n).s T
abbrev cB(T:Tb)(n:Nat):=(rc n).b T
end
end _G
end
section
namespace _G
open PySem PySem.Spec _L
open PyProof.Rows hiding St
section
variable {env:Env}{e a b o:Expr}{es:List Expr}{pos q:Pos}
theorem dv(h:notStar e=true)(es:List Expr)(env:Env):starEach (e::es) env=(false,eval e env)::starEach es env:=by
 cases e <;> first |rfl |cases h
theorem vd(pos:Pos)(env:Env): ∀{es:List Expr},es.all notStar=true->(backTo pos (starEach es env)).any (·.1)=false
 | [],_=>rfl
 | e::es,h=>by
   rw[cf,ay]at h
   rw[dv h.1]
   show(false||(backTo pos (starEach es env)).any (·.1))=false
   rw[vd pos env h.2];rfl
theorem Di(h:plainT e=true)(env:Env): ∀whole,isTrue e env whole=(do let v <- whole;standAt e.pos;holding [v] (truthy v)):=by
 intro whole
 cases e <;> first |rfl |cases h
theorem nK(h:jG e=true)(env:Env): ∀x,foldedSetIterable e env x=pure x:=by
 intro x
 cases e <;> first |rfl |cases h
theorem zl(h:jG b=true)(op:CmpOp):behindInMarks op b=false:=by
 cases b <;> first |rfl |cases h
theorem N4(h:nz b=true):vt b:=by
 intro o i
 cases b <;> first |rfl |cases h
theorem oq(h:baseOk o=true)(name:Str)(env:Env):attributeBase o name env (eval o env)=eval o env:=by
 cases o with
 | Call f as ks p=>
   cases f with
   | Name x p=>
     cases as with
     | nil=>cases ks with
       | nil=>cases h
       | cons k ks=>rfl
     | cons a as=>rfl
   | _=>rfl
 | _=>rfl
theorem uZ(h:j6 e=true)(t:Option Expr)(line:Nat)(env:Env):swapsWith e t line env=pure false:=by
 cases e <;> first |rfl |cases h
theorem Ab(h:j6 e=true)(t:Expr)(line:Nat)(env:Env):swapsWithSole [t] e line env=pure false:=by
 unfold swapsWithSole
 exact uZ h _ _ _
theorem vR(h:notStar a=true)(q:Pos)(env:Env):((backTo q (starEach [a] env)).all (λx => !x.1)&&(backToKw q (keywordEach [] env)).all (λx=>x.1.isSome)
   && decide ([a].length+([]:List Keyword).length+(if ([]:List Keyword).isEmpty then 0 else 1)<30))=true:=by
 rw[dv h];rfl
theorem JW(h:nz b=true)(env:Env): ∀v,assign (.Subscript a b pos) env v=(do
   let ov <- holding [v] (eval a env)
   let iv <- holding [v,ov] (eval b env)
   standAt pos
   holding [v,ov,iv] (setItem ov iv v)
   release [v,ov,iv] []):=by
 intro v
 cases b <;> first |rfl |cases h
theorem xy(h:notStar e=true)(es:List Expr)(env:Env):assignEach (e::es) env=(false,assign e env)::assignEach es env:=by
 cases e <;> first |rfl |cases h
theorem zH(env:Env): ∀es:List Expr,es.all notStar=true->(assignEach es env).length=es.length/\(assignEach es env).findIdx? (·.1)=none
 | [],_=>⟨rfl,rfl⟩
 | e::es,h=>by
   rw[cf,ay]at h
   obtain⟨a,b⟩:=zH env es h.2
   rw[xy h.1]
   exact⟨by simp[a],by rw[qC];simp[b]⟩
theorem wC{ts:List Expr}{kt:Nat}{pt:Pos}(h:(notTuple e||qg ts)=true):swappedStores [.Tuple ts kt pt] e env=pure none:=by
 cases e with
 | Tuple vs k2 p2=>
   have h':qg ts=true:=h
   unfold qg at h'
   split at h'
   ·exact wg
   ·cases h'
 | _=>rfl
theorem yG:swappedStores [.Subscript a b pos] e env=pure none:=by
 cases e <;> rfl
end
theorem iC{T:Tb}: ∀{n:Nat}{N:List Str}{ns:NS}{es:List Expr}{m:MA},cA T n N ns es=some m->es.all notStar=true
 | 0,_,_,_,_,h=>by simp[cA,rc]at h
 | n+1,_,_,[],_,h=>rfl
 | n+1,N,ns,e::es,m,h=>by
   simp only[cA,rc,sA]at h
   split at h
   ·rename_i hs
    cases e1:(rc n).e T N ns e with
    | none=>rw[e1]at h;cases h
    | some me=>
      rw[e1]at h
      simp only[ag]at h
      cases e2:(rc n).a T N ns es with
      | none=>rw[e2]at h;cases h
      | some mr=>rw[cf,hs,iC e2];rfl
   ·cases h
theorem wc{T:Tb}: ∀{n:Nat}{N:List Str}{ns:NS}{es:List Expr}{m:MGs},cGs T n N ns es=some m->es.all notStar=true
 | 0,_,_,_,_,h=>by simp[cGs,rc]at h
 | n+1,_,_,[],_,h=>rfl
 | n+1,N,ns,e::es,m,h=>by
   simp only[cGs,rc,sGs]at h
   split at h
   ·rename_i hs
    cases e1:(rc n).g T N ns e with
    | none=>rw[e1]at h;cases h
    | some me=>
      rw[e1]at h
      simp only[ag]at h
      cases e2:(rc n).gs T N ns es with
      | none=>rw[e2]at h;cases h
      | some mr=>rw[cf,hs,wc e2];rfl
   ·cases h
theorem slot_get{N:List Str}{x:Str}{i:Nat}(h:slot N x=some i):N[i]? = some x:=by
 unfold slot at h
 obtain⟨h1,h2,_⟩:=eG.mp h
 rw[aD h1,eq_of_beq h2]
theorem gX {x:Str} (h:fR x=true):(x == ("__debug__":Str))=false/\(x == ("__classdict__":Str))=false:=by
 unfold fR at h
 rw[ay]at h
 simpa using h
theorem bind_eq{α β:Type}{o:Option α}{f:α->Option β}{b:β}(h:o.bind f=some b): ∃a,o=some a/\f a=some b:=by
 cases o with
 | none=>cases h
 | some a=>exact⟨a,rfl,h⟩
theorem map_eq{α β:Type}{o:Option α}{f:α->β}{b:β}(h:o.map f=some b): ∃a,o=some a/\f a=b:=by
 cases o with
 | none=>cases h
 | some a=>exact⟨a,rfl,bR h⟩
section
variable {M:Mo}{X:Cx}{k:Nat}{N:List Str}{ns:NS}{a b c e:Expr}{es:List Expr}{ma mb mc:ME}{mt:MT}{mas:MA}{pos p1 p2:Pos}{x:Str}
theorem LB (S:Sc M X k N ns) (hg:fh ns "all"=true) (hm:M.mg "all"=none) (ha:PA X (e::es) (tMA M.K mas)) (he:starEach (e::es) X.env=(false,eval e X.env)::starEach es X.env) (hpl:(backTo pos (starEach es X.env)).any (·.1)=false) :
  PE X (.Call (.Name "all" p1) (e::es) [] pos) (tM M.K (mFn uX mas)):=
 PE.con (jk (S.hK▸AH S.calm) (S.gl hg) (by rw[S.hm];exact hm) PyProof.Rows.boot_all ha (by decide) (by decide) he hpl) λ_ _ _ h=>yy Jn h
theorem IS {ts:List Expr}{kt:Nat}{pt:Pos}{a b:Expr} (S:Sc M X k N ns) (hg:fh ns "zip"=true) (hm:M.mg "zip"=none) (ha:PA X [a,b] (tMA M.K mas)) (hs:starEach [a,b] X.env=(false,eval a X.env)::starEach [b] X.env) (hs2:starEach [b] X.env = [(false,eval b X.env)]):PI X (.Tuple ts kt pt) (.Call (.Name "zip" p1) [a,b] [] pos) (zm M.K (tMA M.K mas)):=
 S.hK▸Kx (S.gl hg) (by rw[S.hm];exact hm) ha hs hs2
theorem Hj {ts:List Expr}{kt:Nat}{pt:Pos}{a:Expr} (S:Sc M X k N ns) (hg:fh ns "enumerate"=true) (hm:M.mg "enumerate"=none) (ha:PA X [a] (tMA M.K mas)) (hs:starEach [a] X.env = [(false,eval a X.env)]):PI X (.Tuple ts kt pt) (.Call (.Name "enumerate" p1) [a] [] pos) (vf M.K (tMA M.K mas)):=
 S.hK▸Gg (S.gl hg) (by rw[S.hm];exact hm) ha hs
theorem Dy (S:Sc M X k N ns) (hg:fh ns "sorted"=true) (hm:M.mg "sorted"=none) (ha:PA X (e::es) (tMA M.K mas)) (he:starEach (e::es) X.env=(false,eval e X.env)::starEach es X.env) (hpl:(backTo pos (starEach es X.env)).any (·.1)=false) :
  PE X (.Call (.Name "sorted" p1) (e::es) [] pos) (tM M.K (mFn fP mas)):=
 PE.con (jk (S.hK▸xc S.calm) (S.gl hg) (by rw[S.hm];exact hm) sM ha (by decide) (by decide) he hpl) λ_ _ _ h=>yy A1 h
theorem GG (S:Sc M X k N ns) (hg:fh ns "sorted"=true) (hm:M.mg "sorted"=none) (ha:PA X (e::es) (tMA M.K mas)) (he:starEach (e::es) X.env=(false,eval e X.env)::starEach es X.env) (hpl:(backTo pos (starEach es X.env)).any (·.1)=false) :
  PE X (.Call (.Name "sorted" p1) (e::es) [] pos) (tM M.K (mFn mN mas)):=
 PE.con (jk (S.hK▸yA) (S.gl hg) (by rw[S.hm];exact hm) sM ha (by decide) (by decide) he hpl) λ_ _ _ h=>yy EI h
theorem Ei (S:Sc M X k N ns) (ho:PE X b (tM M.K mb)) (ha:PA X [a] (tMA M.K mas)) (hb:baseOk b=true) (hs:notStar a=true) (hl:(p1.endLine == pos.line)=true):PE X (.Call (.Attribute b "extend" p1) [a] [] pos) (tM M.K (mML eJ mb mas)):=by
 exact PE.con (EJ hU PySem.F.slot_list_extend PySem.F.type_list_extend AB ho ha (oq hb _ _) (vR hs _ _) hl (dv hs _ _) rfl) λ_ _ _ h=>S.hK▸Kr Bg h
theorem L8{op:CmpOp}{f:F2}(S:Sc M X k N ns)(h:HK op=some f): ∃r,OpR X (compareOp op) r/\OpU M.K r f:=by
 cases op <;> simp only[HK,dS,reduceCtorEq]at h <;> subst h
 ·exact⟨_,S.hK▸JV S.room.units,Mc⟩
 ·exact⟨_,S.hK▸Jx S.room.units,Oe⟩
 ·exact⟨_,NL,vT⟩
 ·exact⟨_,Nk,vT⟩
 ·exact⟨_,Li,vT⟩
 ·exact⟨_,Mf,vT⟩
 ·exact⟨_,AZ,Cb⟩
 ·exact⟨_,S.hK▸Bn (by have:=S.room.units;omega),Dz⟩
theorem LD{j:Nat}{p3 p4:Pos}(S:Sc M X k N ns)(ha:PE X a (tM M.K ma)):PE X (.Subscript a (.Slice none none (some (.UnaryOp .USub (.Constant (.int 1) j p3) p4)) p2) pos) (tM M.K (m1 o7 ma)):=by
 refine PE.con (t:=Ju M.K (tM M.K ma)) ?_ λ_ _ _ h=>Oc h
 rw[<- S.hK]
 exact Jp ha
theorem KH{N':List Str}{scope:Scope}{px py spos:Pos}{iter elt:Expr}{ifs:List Expr}{wi:TI}{mi:MI}{y:Str}(S:Sc M X k N ns)(i:Nat)(hy:N[i]? = some y)(ho:rG ns y=true)(hk:scope.kind = .function)(ok:lQ N N' ns scope.names x=true)(hi:PI X (.Name x px) iter wi)
  (ht: ∀X',Sc M X' k N' scope.names->PTs X' ifs (tMT M.K mt)) (he: ∀X',Sc M X' k N' scope.names->PE X' elt (tM M.K mc)) (hr: ∀σ H Q,tM M.K (ck mi mt mc) σ H Q->pG wi (tMT M.K mt) (tM M.K mc) σ H Q)
  (hs: ∀x,foldedSetIterable iter X.env x=pure x):PS X (.Assign [.Name y py] (.ListComp elt [⟨.Name x px,iter,ifs,0⟩] scope pos) spos) (tMS M.K (bJ i (ck mi mt mc))):=by
 have C:=tX S hk ok
 have e: ∃b,swapsWith (.ListComp elt [⟨.Name x px,iter,ifs,0⟩] scope pos) (some (.Name y py)) spos.line X.env=pure b:=⟨_,rfl⟩
 obtain⟨b,e⟩:=e
 cases b with
 | true=>exact PS.con (Fz (by rw[S.hN];exact S.nd) (by rw[S.hN];exact hy) (S.lo ho).1 S.calm C hi (λs₂ H₂ fp=>ht _ (oI S C s₂ H₂ fp)) (λs₂ H₂ fp=>he _ (oI S C s₂ H₂ fp)) e hs (S.lo ho).2) λ_ _ _ h=>hr _ _ _ (Iv h)
 | false=>exact HV S i hy ho (CQ S hk ok hi ht he hr hs) e
theorem J0:PE X (.Dict [] [] pos) (tM M.K nW):=PE.con B8 λ_ _ _ h=>Kk h
theorem J7(ha:PE X a (tM M.K ma))(hb:PE X b (tM M.K mb)):PE X (.Dict [some a] [b] pos) (tM M.K (qL ma mb)):=
 PE.con (GB (EG ha hb Gi) rfl rfl (by simp) (by simp)) λ_ _ _ h=>J9 h
theorem wX: ∀{ts:List Expr}{xs:List Str},namesOf ts=some xs->fB ts xs
 | [],xs,h=>by cases h;exact .nil
 | t::ts,xs,h=>by
   cases t with
   | Name x p=>
     unfold namesOf at h
     cases q:namesOf ts with
     | none=>rw[q]at h;cases h
     | some ys=>rw[q]at h;cases h;exact .cons x p (wX q)
   | _=>cases h
theorem G6{N' xs:List Str}{scope:Scope}{kt:Nat}{pt:Pos}{ts:List Expr}{iter elt:Expr}{ifs:List Expr}{mi:MI}{wi:TI}(S:Sc M X k N ns)(hk:scope.kind = .function)(ok:nF N N' ns scope.names xs=true)(hn:fB ts xs)(hi:PI X (.Tuple ts kt pt) iter wi)
  (ht: ∀X',Sc M X' k N' scope.names->PTs X' ifs (tMT M.K mt)) (he: ∀X',Sc M X' k N' scope.names->PE X' elt (tM M.K mc))
  (hc: ∀σ H Q,tM M.K (iZ xs.length mi mt mc) σ H Q->oQ (gTt M.K xs.length) wi (tMT M.K mt) (tM M.K mc) σ H Q)
  (hs: ∀x,foldedSetIterable iter X.env x=pure x):PE X (.ListComp elt [⟨.Tuple ts kt pt,iter,ifs,0⟩] scope pos) (tM M.K (iZ xs.length mi mt mc)):=by
 have C:=qY S hk ok
 refine PE.con (Ew S.calm C hn hi (λs₂ H₂ fp=>ht _ (oI S C s₂ H₂ fp)) (λs₂ H₂ fp=>he _ (oI S C s₂ H₂ fp)) hs) λ_ _ _ h =>?_
 rw[S.hK]
 exact hc _ _ _ h
theorem DD {as bs:Expr}{q rp:Pos} (S:Sc M X k N ns) (hg:fh ns "list"=true) (hm:M.mg "list"=none) (hg2:fh ns "range"=true) (hm2:M.mg "range"=none) (ha:PA X [as,bs] (tMA M.K mas)) (hs:notStar as=true) (hs2:notStar bs=true) :
  PE X (.Call (.Name "list" p1) [.Call (.Name "range" q) [as,bs] [] rp] [] pos) (tM M.K (kh (iR2 mas))):=
 PE.con (o6 (tF S.calm) (S.gl hg) (by rw[S.hm];exact hm) PyProof.Rows.boot_list (ot (Gj (S.gl hg2) (by rw[S.hm];exact hm2) ha (by rw[dv hs,dv hs2];rfl) (by rw[dv hs2];rfl)) vP) (by decide) (by decide)) λ_ _ _ h=>Ca h
theorem FM {as:Expr}{q rp:Pos} (S:Sc M X k N ns) (hg:fh ns "tuple"=true) (hm:M.mg "tuple"=none) (hg2:fh ns "range"=true) (hm2:M.mg "range"=none) (ha:PA X [as] (tMA M.K mas)) (hs:notStar as=true) :
  PE X (.Call (.Name "tuple" p1) [.Call (.Name "range" q) [as] [] rp] [] pos) (tM M.K (rq (iR1 mas))):=
 PE.con (o6 (rY S.calm) (S.gl hg) (by rw[S.hm];exact hm) tR (ot (Hk (S.gl hg2) (by rw[S.hm];exact hm2) ha (by rw[dv hs];rfl)) vP) (by decide) (by decide)) λ_ _ _ h=>FA h
theorem Md {t:Str}{c:String} (S:Sc M X k N ns) (hg:fh ns "isinstance"=true) (hm:M.mg "isinstance"=none) (hg2:fh ns t=true) (hm2:M.mg t=none) (hb:bootBuiltins t=some (.type c)) (hc:c∈j7) (hn:t≠"__name__") (hd:(t == ("__debug__":Str))=false)
  (ha:PE X a (tM M.K ma)) (hs:notStar a=true):PE X (.Call (.Name "isinstance" p1) [a,.Name t p2] [] pos) (tM M.K (m1 (mX c) ma)):=by
 refine PE.con (jk CT (S.gl hg) (by rw[S.hm];exact hm) PyProof.Rows.boot_isinstance (ot ha (ot (FG (v:= .ty c) (S.gl hg2) (by rw[S.hm];exact hm2) hb rfl hn hd) vP) (dv hs _ _)) (by decide) (by decide) (dv hs _ _) rfl) λ_ _ _ h =>?_
 rw[S.hK]
 exact Nf hc h
theorem Gv (S:Sc M X k N ns) (ho:PE X b (tM M.K mb)) (ha:PA X [a] (tMA M.K mas)) (hb:baseOk b=true) (hs:notStar a=true) (hl:(p1.endLine == pos.line)=true):PE X (.Call (.Attribute b "index" p1) [a] [] pos) (tM M.K (mMT iz mb mas)):=by
 refine PE.con (t:=JT M.K (tM M.K mb) (tMA M.K mas)) ?_ λ_ _ _ h=>Hc h
 rw[<- S.hK]
 exact Co S.room.units ho ha (oq hb _ _) (vR hs _ _) hl (dv hs _ _) rfl
theorem JJ (S:Sc M X k N ns) (ho:PE X b (tM M.K mb)) (hb:baseOk b=true) (hl:(p1.endLine == pos.line)=true):PE X (.Call (.Attribute b "pop" p1) [] [] pos) (tM M.K (mML ow mb ak)):=by
 exact PE.con (Js hU Ap Aq Ld ho (oq hb _ _) hl) λ_ _ _ h=>S.hK▸LA JL h
section
variable {X:Cx}
end
theorem OX{st:Stmt}:PS X st (tMS M.K sNo):=by
 intro pins s σ H D I h
 obtain⟨μ,S,ρ,r,hr,er,e,kk⟩:=h
 cases e
theorem M6:PS X (.Break pos) (tMS M.K NZ):=PS.con DA λD σ H h=>by
 obtain⟨μ,S,ρ,r,hr,er,e,kk⟩:=h
 cases e
 exact kk μ σ H (Pre.refl _) (bh.refl _) hr er
theorem M7:PS X (.Continue pos) (tMS M.K MB):=PS.con wd λD σ H h=>by
 obtain⟨μ,S,ρ,r,hr,er,e,kk⟩:=h
 cases e
 exact kk μ σ H (Pre.refl _) (bh.refl _) hr er
theorem Jh:PS X (.Pass pos) (tMS M.K eC):=PS.con Ha λD σ H h=>ED h
theorem JU:PS X (.Return none pos) (tMS M.K (eg (mC .non))):=PS.con GK λD σ H h=>by
 obtain⟨μ,S,ρ,r,hr,er,e,kk⟩:=h
 cases e
 exact kk μ _ H (Pre.refl _) (bh.refl _) hr o4
theorem JZ(ha:PE X a (tM M.K ma))(hb:PE X (.BoolOp .And (b::es) pos) (tM M.K mb)):PE X (.BoolOp .And (a::b::es) pos) (tM M.K (JC ma mb)):=PE.con (KY ha hb) λ_ _ _ h=>JX h
theorem Lm(ha:PE X a (tM M.K ma))(hb:PE X (.BoolOp .Or (b::es) pos) (tM M.K mb)):PE X (.BoolOp .Or (a::b::es) pos) (tM M.K (mOr ma mb)):=PE.con (L7 ha hb) λ_ _ _ h=>Mx h
theorem J5(ha:PE X a (tM M.K ma)):PE X (.UnaryOp .Not a pos) (tM M.K (m1 GO ma)):=PE.con (Ja ha) λ_ _ _ h=>KO h
end
end _G
end
section
namespace _G
open PySem PySem.Spec _L
open PyProof.Rows hiding St
section
variable {M:Mo}{cl:Nat->Addr}{k n fu:Nat}{N:List Str}{ns:NS}{X:Cx}{E:XK}
end
end _G
end
section
namespace _G
open PySem PySem.Spec _L
open PyProof.Rows hiding St
structure TOk(M:Mo)(T:Tb)(k:Nat):Prop where
 D: ∀x mf,T.D.lookup x=some mf -> ∃k' ps,k'<=k/\Fn M x k' ps mf
 C: ∀x u,T.C.lookup x=some u -> ∃g v,M.mg x=some g/\RelV v g /\ ∀H μ,RU H μ u v
 B: ∀x∈jX,M.mg x=none
 L: ∀x q,T.L.lookup x=some q -> ∃k' ps,k'<=k/\Lam M q.1 k' ps q.2
 mkr:T.mkr=true -> ∃c q P,M.mkr=some (c,q)/\Mkr M c P (q++T.Z.nm)
 Z: ∀x r,T.Z.R.lookup x=some r -> ∃k' ps,k'<=k/\FnX M T.Z.cl x k' ps r
noncomputable def GOk(M:Mo)(T:Tb)(k:Nat):Prop:=TOk M T k/\(T.mkr=true -> ∃j,j+2<=k/\(∀x F,T.H.lookup x=some F -> ∃k' ps,k'<=j+1/\FnC M x k' ps F)/\(∀x rz,T.Z.F.lookup x=some rz -> ∃k',k'<=j+1/\FnR M T.Z.cl x k' rz) /\ ∀caps capv cds base,gR M.mg base->TOk (M.to caps capv cds base) T.bare j)
noncomputable def IOk(M:Mo)(X:Cx)(tg it:Expr)(mi:MI):Prop:= ∃wi,PI X tg it wi /\
 (∀i ms D σ H,tMS M.K (eX i mi ms) D σ H->sX wi (ju i) (tMS M.K ms) D σ H) /\
 (∀mt mc σ H Q,tM M.K (ck mi mt mc) σ H Q->pG wi (tMT M.K mt) (tM M.K mc) σ H Q)
structure Snd(M:Mo)(T:Tb)(k n:Nat):Prop where
 e: ∀N ns e m,cE T n N ns e=some m -> ∀X,Sc M X k N ns->PE X e (tM M.K m)
 c: ∀N ns g as m,cC T n N ns g as=some m->fh ns g=true->fR g=true -> ∀a r,as=a::r -> ∀X p1 pos,Sc M X k N ns->PE X (.Call (.Name g p1) as [] pos) (tM M.K m)
 v: ∀N ns g as m,cV T n N ns g as=some m -> ∀a r,as=a::r -> ∀X p1 pos,Sc M X k N ns->PE X (.Call (.Name g p1) as [] pos) (tM M.K m)
 v0: ∀N ns g m,cV T n N ns g []≠some m
 o: ∀N ns o m,cO T n N ns o=some m -> ∀X,Sc M X k N ns->lE M X o m
 t: ∀N ns e m,cT T n N ns e=some m -> ∀X,Sc M X k N ns->PT X e (tMT M.K m)
 l: ∀N ns b vs m pos,cL T n N ns b vs=some m -> ∀X,Sc M X k N ns->PW X (.BoolOp (if b then .And else .Or) vs pos) (tMT M.K m)
 f: ∀N ns vs m,cF T n N ns vs=some m -> ∀X,Sc M X k N ns->PTs X vs (tMT M.K m)
 a: ∀N ns es m,cA T n N ns es=some m -> ∀X,Sc M X k N ns->PA X es (tMA M.K m)
 i: ∀N ns tg it m,cI T n N ns it=some m -> ∀X,Sc M X k N ns->IOk M X tg it m
 g: ∀N ns e m,cG T n N ns e=some m -> ∀X,Sc M X k N ns->PG X e (tG M.K m)
 gs: ∀N ns es m,cGs T n N ns es=some m -> ∀X,Sc M X k N ns->PGs X es (tGs M.K m)
 s: ∀N ns st m,cS T n N ns st=some m -> ∀X,Sc M X k N ns->PS X st (tMS M.K m)
 b: ∀N ns sts m,cB T n N ns sts=some m -> ∀X,Sc M X k N ns->PSs X sts (tMS M.K m)
theorem fj{α:Type}{x:α}{P:Prop}(h:(none:Option α)=some x):P:=by cases h
theorem OK(M:Mo)(T:Tb)(k:Nat):Snd M T k 0:=
 ⟨λ_ _ _ _ h=>fj h,λ_ _ _ _ _ h=>fj h,λ_ _ _ _ _ h=>fj h,λ_ _ _ _ h=>fj h,λ_ _ _ _ h=>fj h,λ_ _ _ _ h=>fj h,λ_ _ _ _ _ _ h=>fj h,λ_ _ _ _ h=>fj h,λ_ _ _ _ h=>fj h,λ_ _ _ _ _ h=>fj h,λ_ _ _ _ h=>fj h,λ_ _ _ _ h=>fj h,λ_ _ _ _ h=>fj h,λ_ _ _ _ h=>fj h⟩
section
variable {M:Mo}{T:Tb}{k n:Nat}
theorem yT{N:List Str}{ns:NS}{X:Cx}{a b:Expr}{ma mb:ME}{op:Operator}{f:F2}{pos:Pos}(h:Jz op=some f)(S:Sc M X k N ns)(ha:PE X a (tM M.K ma))(hb:PE X b (tM M.K mb)):PE X (.BinOp a op b pos) (tM M.K (m2 f ma mb)):=by
 cases op <;> simp only[Jz,dS,reduceCtorEq]at h <;> subst h
 ·exact Mb S ha hb
 ·exact Ng ha hb
 ·exact Me S ha hb
 ·exact N6 ha hb
 ·exact NI ha hb
 ·exact Nm ha hb
theorem JD{N:List Str}{ns:NS}{X:Cx}{a b:Expr}{ma mb:ME}{op:CmpOp}{f:F2}{pos:Pos}(h:HK op=some f)(S:Sc M X k N ns)(ha:PE X a (tM M.K ma))(hb:PE X b (tM M.K mb))(hs:jG b=true):
  PE X (.Compare a [op] [b] pos) (tM M.K (m2 f ma mb))/\PT X (.Compare a [op] [b] pos) (tMT M.K (cOf (m2 f ma mb))):=by
 obtain⟨r,ho,ou⟩:=L8 S h
 exact⟨PE.con (Gq ho ha hb (zl hs _)) λ_ _ _ h=>uM ou h,PT.con (FK ho ha hb (zl hs _)) λ_ _ _ h=>Cz (λ_ q=>uM ou q) h⟩
theorem Kt {t:Str}{c:String} (h:CP t=some c):bootBuiltins t=some (.type c)/\c∈j7/\t≠"__name__"/\(t == ("__debug__":Str))=false/\t∈jX:=by
 unfold CP at h
 repeat' split at h
 all_goals first
  | cases h
    done
  | (rename_i q
     cases h
     rw[eq_of_beq q]
     exact⟨by decide +kernel,by decide,by decide +kernel,by decide +kernel,by decide +kernel⟩)
theorem Fv{N:List Str}{ns:NS}{X:Cx}{g:Str}{e:Expr}{es:List Expr}{mas:MA}{p1 pos:Pos}{mf:MF}(O:TOk M T k)(h:KB g=some mf)(hg:fh ns g=true)(S:Sc M X k N ns)(ha:PA X (e::es) (tMA M.K mas))(hs:(e::es).all notStar=true):
  PE X (.Call (.Name g p1) (e::es) [] pos) (tM M.K (mFn mf mas)):=by
 rw[cf,ay]at hs
 have he:=dv hs.1 es X.env
 have hp:=vd pos X.env hs.2
 unfold KB at h
 repeat' split at h
 all_goals first
  | (cases h;done)
  | (rename_i q
     cases h
     rw[eq_of_beq q]at hg ⊢
     first
      | exact EE S hg (O.B _ (by decide +kernel)) ha he hp
      | exact Fq S hg (O.B _ (by decide +kernel)) ha he hp
      | exact Mg S hg (O.B _ (by decide +kernel)) ha he hp
      | exact Oa S hg (O.B _ (by decide +kernel)) ha he hp
      | exact LB S hg (O.B _ (by decide +kernel)) ha he hp
      | exact Dy S hg (O.B _ (by decide +kernel)) ha he hp)
theorem GY{N:List Str}{ns:NS}{X:Cx}{name:Str}{a o:Expr}{mo m:ME}{mas:MA}{p1 pos:Pos}(h:Eu name mo mas=some m)(S:Sc M X k N ns)(ho:PE X o (tM M.K mo))(ha:PA X [a] (tMA M.K mas))(hb:baseOk o=true)(hl:(p1.endLine==pos.line)=true)(hs:notStar a=true):
  PE X (.Call (.Attribute o name p1) [a] [] pos) (tM M.K m):=by
 unfold Eu at h
 repeat' split at h
 all_goals first
  | (cases h;done)
  | (rename_i q
     cases h
     rw[eq_of_beq q]
     first
      | exact En S ho ha (oq hb _ _) (vR hs _ _) hl (dv hs _ _) rfl
      | exact HD S ho ha (oq hb _ _) (vR hs _ _) hl (dv hs _ _) rfl
      | exact Gv S ho ha hb hs hl
      | exact Ei S ho ha hb hs hl)
end
end _G
end
section
namespace _G
open PySem PySem.Spec _L
open PyProof.Rows hiding St
section
variable {M:Mo}{T:Tb}{k n:Nat}
theorem xF{ps:List Str}{sc:Scope}{ns:NS}(h:yr ps sc ns=true):lg ps (frees sc) sc /\ ∀y∈frees sc,ns.lookup y=some .cell/\(y,aX)∈sc.names:=by
 unfold yr at h
 simp only[ay,cR,Bool.not_eq_true',decide_eq_true_eq]at h
 obtain⟨⟨⟨⟨⟨⟨h1,h2⟩,h3⟩,h4⟩,h5⟩,h6⟩,h7⟩:=h
 have fm: ∀y∈frees sc,(y,aX)∈sc.names:=λy hy=>by
  obtain⟨z,hz,e⟩:=aI.mp hy
  obtain⟨a,b⟩:=bo.mp hz
  obtain⟨z1,z2⟩:=z
  cases e
  have:z2 = .free:=eq_of_beq b
  rw[this]at a;exact a
 refine⟨⟨eq_of_beq h1,h2,h3,h4,λp hp =>?_,λx hx e =>?_,λy hy e=>aI.mpr ⟨y,bo.mpr ⟨hy,by rw[e];rfl⟩,rfl⟩,λy hy=>eq_of_beq (h7 y hy).1⟩,λy hy=>⟨eq_of_beq (h7 y hy).2,fm y hy⟩⟩
 ·have:=h5 p hp
  rw[ni]at this
  exact this.imp eq_of_beq eq_of_beq
 ·have:=h6 x hx
  rw[e]at this
  simpa using this
theorem GOk.of(O:TOk M T k)(h:T.mkr=false):GOk M T k:=⟨O,λz=>by rw[h]at z;cases z⟩
theorem NM(O:TOk M T k)(R:Snd M T k n): ∀N ns g as m,cV T (n+1) N ns g as=some m -> ∀a r,as=a::r -> ∀X p1 pos,Sc M X k N ns->PE X (.Call (.Name g p1) as [] pos) (tM M.K m):=by
 intro N ns g as m h a r e X p1 pos S
 subst e
 simp only[cV,rc,sV]at h
 split at h
 ·rename_i hs
  rw[ay]at hs
  obtain⟨q,e1,h⟩:=bind_eq h
  obtain⟨i,e2,h⟩:=bind_eq h
  obtain⟨mas,e3,rfl⟩:=map_eq h
  obtain⟨k',ps,hk,F⟩:=O.L _ _ e1
  have hst:=iC e3
  rw[cf,ay]at hst
  obtain⟨n1,n2⟩:=gX hs.2
  exact HM S F hk i (slot_get e2) hs.1 (R.a _ _ _ _ e3 X S) n1 n2 (dv hst.1 _ _) (vd _ _ hst.2)
 ·cases h
section
variable {N:List Str}{ns:NS}{X:Cx}{m:ME}
theorem Fm{c:Const}{j}{pos:Pos}(h:N5 c=some m):PE X (.Constant c j pos) (tM M.K m):=by
 cases c <;> first | (cases h;done) |skip
 all_goals cases h
 all_goals first |exact L5 |exact OO |exact Lp |exact PE.con Ku λ_ _ _ q=>r_c (λ_ _=>by simp only[RU]) q
theorem KP(R:Snd M T k n){op:UnaryOp}{a:Expr}{pos:Pos}(h:eUn (rc n) T N ns a op=some m)(S:Sc M X k N ns):PE X (.UnaryOp op a pos) (tM M.K m):=by
 cases op <;> first | (cases h;done) |skip
 all_goals obtain⟨ma,e1,rfl⟩:=map_eq h
 all_goals first |exact Na (R.e _ _ _ _ e1 X S) |exact J5 (R.e _ _ _ _ e1 X S)
theorem K5(R:Snd M T k n){op:BoolOp}{vs:List Expr}{p:Pos}(h:eBo (rc n) T N ns op p vs=some m)(S:Sc M X k N ns):PE X (.BoolOp op vs p) (tM M.K m):=by
 unfold eBo at h
 split at h
 ·cases h
 ·exact Kp (R.e _ _ _ _ h X S)
 ·obtain⟨ma,e1,h⟩:=bind_eq h
  cases op
  ·obtain⟨mb,e2,rfl⟩:=map_eq h
   exact JZ (R.e _ _ _ _ e1 X S) (R.e _ _ _ _ e2 X S)
  ·obtain⟨mb,e2,rfl⟩:=map_eq h
   exact Lm (R.e _ _ _ _ e1 X S) (R.e _ _ _ _ e2 X S)
theorem Cy(R:Snd M T k n){a:Expr}{ops:List CmpOp}{bs:List Expr}{pos:Pos}(h:eCm (rc n) T N ns a ops bs=some m)(S:Sc M X k N ns):PE X (.Compare a ops bs pos) (tM M.K m)/\PT X (.Compare a ops bs pos) (tMT M.K (cOf m)):=by
 unfold eCm at h
 split at h
 ·split at h
  ·rename_i hs
   obtain⟨ma,e1,h⟩:=bind_eq h
   obtain⟨mb,e2,h⟩:=bind_eq h
   obtain⟨f,e3,rfl⟩:=map_eq h
   exact JD e3 S (R.e _ _ _ _ e1 X S) (R.e _ _ _ _ e2 X S) hs
  ·cases h
 ·cases h
theorem Hq{s:Expr}(h:Gw s=true): ∃j p3 p4,s = .UnaryOp .USub (.Constant (.int 1) j p3) p4:=by
 unfold Gw at h
 split at h
 ·rename_i i j p3 p4
  rw[eq_of_beq h];exact⟨j,p3,p4,rfl⟩
 ·cases h
theorem Jq(R:Snd M T k n){a b:Expr}{pos:Pos}(h:eSb (rc n) T N ns a b=some m)(S:Sc M X k N ns):PE X (.Subscript a b pos) (tM M.K m):=by
 unfold eSb at h
 split at h
 ·rename_i lo hi st p
  cases st with
  | none=>
    obtain⟨ma,e1,h⟩:=bind_eq h
    obtain⟨ml,e2,h⟩:=bind_eq h
    obtain⟨mh,e3,rfl⟩:=map_eq h
    exact FZ S (R.e _ _ _ _ e1 X S) (R.o _ _ _ _ e2 X S) (R.o _ _ _ _ e3 X S)
  | some s=>
    have h:(if lo.isNone&&hi.isNone&&Gw s then((rc n).e T N ns a).map (m1 o7) else none)=some m:=h
    split at h
    ·rename_i hs
     rw[ay,ay]at hs
     obtain⟨⟨h1,h2⟩,h3⟩:=hs
     cases lo with
     | some z=>cases h1
     | none=>
       cases hi with
       | some z=>cases h2
       | none=>
         obtain⟨j,p3,p4,rfl⟩:=Hq h3
         obtain⟨ma,e1,rfl⟩:=map_eq h
         exact LD S (R.e _ _ _ _ e1 X S)
    ·cases h
 ·split at h
  ·rename_i hs
   obtain⟨ma,e1,h⟩:=bind_eq h
   obtain⟨mb,e2,rfl⟩:=map_eq h
   exact Oj S (R.e _ _ _ _ e1 X S) (R.e _ _ _ _ e2 X S) (N4 hs)
  ·cases h
theorem KD(R:Snd M T k n){ks:List (Option Expr)}{vs:List Expr}{pos:Pos}(h:eDi (rc n) T N ns ks vs=some m)(S:Sc M X k N ns):PE X (.Dict ks vs pos) (tM M.K m):=by
 unfold eDi at h
 split at h
 ·cases h;exact J0
 ·obtain⟨ma,e1,h⟩:=bind_eq h
  obtain⟨mb,e2,rfl⟩:=map_eq h
  exact J7 (R.e _ _ _ _ e1 X S) (R.e _ _ _ _ e2 X S)
 ·cases h
theorem GT{x:Str}{e:Expr}(h:IK x e=true): ∃p,e = .Name x p:=by
 cases e with
 | Name g p=>exact⟨p,by rw[eq_of_beq (show(g==x)=true from h)]⟩
 | _=>cases h
theorem Bs {e a:Expr} (h:CS e=some a) : ∃ p q,e = .Call (.Name "enumerate" p) [a] [] q:=by
 cases e with
 | Call g as ks p=>
   replace h:(if IK "enumerate" g&&(ks.isEmpty&&as.length == 1) then as.head? else none)=some a:=h
   split at h
   ·rename_i q
    obtain⟨q1,q⟩:=oE.mp q
    obtain⟨q2,q3⟩:=oE.mp q
    obtain⟨p1,rfl⟩:=GT q1
    obtain⟨b,rfl⟩:=BX.mp (eq_of_beq q3)
    cases h
    rw[List.isEmpty_iff.mp q2]
    exact⟨_,_,rfl⟩
   ·cases h
 | _=>cases h
theorem Jb(O:TOk M T k)(R:Snd M T k n){it:Expr}{mi:MI}{ts:List Expr}{kt:Nat}{pt:Pos}(h:eIc (rc n) T N ns it=some mi)(S:Sc M X k N ns):
  ∃wi,PI X (.Tuple ts kt pt) it wi /\ ∀c mt mc σ H Q,tM M.K (iZ c mi mt mc) σ H Q->oQ (gTt M.K c) wi (tMT M.K mt) (tM M.K mc) σ H Q:=by
 unfold eIc at h
 split at h
 ·rename_i a ha
  obtain⟨p,q,rfl⟩:=Bs ha
  split at h
  ·rename_i hg
   obtain⟨ma,e1,rfl⟩:=map_eq h
   have hst:=iC e1
   simp only[cf,iT,hV]at hst
   exact⟨_,Hj S hg (O.B _ (by decide +kernel)) (R.a _ _ _ _ e1 X S) (dv hst _ _),λ_ _ _ _ _ _ q=>MP q⟩
  ·cases h
 ·obtain⟨ma,e1,rfl⟩:=map_eq h
  exact⟨_,GW S (R.e _ _ _ _ e1 X S),λ_ _ _ _ _ _ q=>MJ q⟩
theorem Kl(O:TOk M T k)(R:Snd M T k n){elt it:Expr}{ifs:List Expr}{scope:Scope}{x:Str}{px pos:Pos}(h:eLn (rc n) T N ns elt it ifs scope x=some m)(S:Sc M X k N ns)(hk:scope.kind = .function)(ok:lQ N (yY N x) ns scope.names x=true)(hs:jG it=true):
  PE X (.ListComp elt [⟨.Name x px,it,ifs,0⟩] scope pos) (tM M.K m):=by
 unfold eLn at h
 obtain⟨mi,e1,h⟩:=bind_eq h
 obtain⟨mt,e2,h⟩:=bind_eq h
 obtain⟨mc,e3,rfl⟩:=map_eq h
 obtain⟨wi,h1,_,h3⟩:=R.i _ _ _ _ _ e1 X S
 exact CQ S hk ok h1 (λX' S'=>R.f _ _ _ _ e2 X' S') (λX' S'=>R.e _ _ _ _ e3 X' S') (h3 mt mc) (nK hs _)
theorem IL(O:TOk M T k)(R:Snd M T k n){elt:Expr}{scope:Scope}{gens:List Comprehension}{pos:Pos}(h:eLc (rc n) T N ns elt scope gens=some m)(S:Sc M X k N ns):PE X (.ListComp elt gens scope pos) (tM M.K m):=by
 unfold eLc at h
 split at h
 rotate_left
 ·cases h
 rename_i c
 obtain⟨tg,it,ifs,ia⟩:=c
 split at h
 rotate_left
 ·cases h
 rename_i h0
 have h0':ia=0:=h0
 subst h0'
 have h:eLt (rc n) T N ns elt it ifs scope tg=some m:=h
 unfold eLt at h
 split at h
 ·split at h
  ·rename_i hs
   rw[ay,ay]at hs
   exact Kl O R h S (eq_of_beq hs.1.1) hs.1.2 hs.2
  ·cases h
 ·obtain⟨xs,e0,h⟩:=bind_eq h
  split at h
  ·rename_i hs
   rw[ay,ay]at hs
   obtain⟨mi,e1,h⟩:=bind_eq h
   obtain⟨mt,e2,h⟩:=bind_eq h
   obtain⟨mc,e3,rfl⟩:=map_eq h
   obtain⟨wi,h1,h3⟩:=Jb O R e1 S
   exact G6 S (eq_of_beq hs.1.1) hs.1.2 (wX e0) h1 (λX' S'=>R.f _ _ _ _ e2 X' S') (λX' S'=>R.e _ _ _ _ e3 X' S') (λ_ _ _ q=>h3 _ _ _ _ _ _ q) (nK hs.2 _)
  ·cases h
 ·cases h
theorem Jo (O:TOk M T k) (R:Snd M T k n) {g:Str}{rs:List Expr}{p1 q rp pos:Pos} (h:eRg (rc n) T N ns g rs=some m) (S:Sc M X k N ns) (hl:g="list"\/g="tuple") (hg:fh ns g=true) (hr:fh ns "range"=true) :
  PE X (.Call (.Name g p1) [.Call (.Name "range" q) rs [] rp] [] pos) (tM M.K m):=by
 unfold eRg at h
 split at h
 ·rcases hl with rfl |rfl
  ·rw[if_pos (by decide +kernel)]at h
   cases h
  ·rw[if_neg (by decide +kernel)]at h
   obtain⟨ma,e1,rfl⟩:=map_eq h
   have hst:=iC e1
   simp only[cf,iT,hV]at hst
   exact FM S hg (O.B _ (by decide +kernel)) hr (O.B _ (by decide +kernel)) (R.a _ _ _ _ e1 X S) hst
 ·rcases hl with rfl |rfl
  ·rw[if_pos (by decide +kernel)]at h
   obtain⟨ma,e1,rfl⟩:=map_eq h
   have hst:=iC e1
   simp only[cf,iT,hV,ay]at hst
   exact DD S hg (O.B _ (by decide +kernel)) hr (O.B _ (by decide +kernel)) (R.a _ _ _ _ e1 X S) hst.1 hst.2
  ·rw[if_neg (by decide +kernel)]at h
   cases h
 ·cases h
theorem JY(Gk:GOk M T k)(R:Snd M T k n)(RA: ∀M T k,GOk M T k->Snd M T k n){g:Str}{as:List Expr}{p1 pos:Pos}(h:eCf (rc n) T N ns g as=some m)(S:Sc M X k N ns)(hg:fh ns g=true)(hn:fR g=true):
  PE X (.Call (.Name g p1) as [] pos) (tM M.K m):=by
 have O:=Gk.1
 unfold eCf at h
 split at h
 ·obtain⟨mf,e1,rfl⟩:=map_eq h
  obtain⟨k',ps,hk,F⟩:=O.D _ _ e1
  exact FE S F hk hg (gX hn).1
 ·unfold eC1 at h
  split at h
  ·split at h
   ·rename_i hl
    rw[ay,ni]at hl
    split at h
    ·rename_i hr
     rw[eq_of_beq hl.2]at hr ⊢
     exact Jo O R h S (hl.1.imp eq_of_beq eq_of_beq) hg hr
    ·cases h
   ·exact R.c _ _ _ _ _ h hg hn _ _ rfl X _ _ S
  ·split at h
   ·rename_i hs
    obtain⟨h1,_⟩:=oE.mp hs
    rw[eq_of_beq h1]at hg ⊢
    obtain⟨ma,e1,rfl⟩:=map_eq h
    have hst:=iC e1
    simp only[cf,iT,hV]at hst
    exact GG S hg (O.B _ (by decide +kernel)) (R.a _ _ _ _ e1 X S) (dv hst _ _) rfl
   ·exact R.c _ _ _ _ _ h hg hn _ _ rfl X _ _ S
 ·unfold eC2 at h
  split at h
  ·unfold eIs at h
   split at h
   ·rename_i hl
    split at h
    ·rename_i ht
     obtain⟨c,e1,h⟩:=bind_eq h
     obtain⟨ma,e2,rfl⟩:=map_eq h
     obtain⟨c1,c2,c3,c4,c5⟩:=Kt e1
     rw[ay]at ht
     rw[eq_of_beq hl]at hg ⊢
     exact Md S hg (O.B _ (by decide +kernel)) ht.1 (O.B _ c5) c1 c2 c3 c4 (R.e _ _ _ _ e2 X S) ht.2
    ·cases h
   ·exact R.c _ _ _ _ _ h hg hn _ _ rfl X _ _ S
  ·unfold Lu at h
   split at h
   ·rename_i hs
    rw[ay,ay]at hs
    obtain⟨⟨hT,hnm⟩,hst⟩:=hs
    obtain⟨ps,e0,h⟩:=bind_eq h
    split at h
    ·rename_i hl
     obtain⟨is,e1,h⟩:=bind_eq h
     obtain⟨ma,e2,h⟩:=bind_eq h
     obtain⟨ml,e3,h⟩:=bind_eq h
     obtain⟨F,e4,rfl⟩:=map_eq h
     obtain⟨c,q,P,hmk,MK⟩:=O.mkr hT
     rw[eq_of_beq hnm]at MK
     obtain⟨j,hj,hH,hF,hB⟩:=Gk.2 hT
     obtain⟨k',gps,hk',FC⟩:=hH _ _ e4
     obtain⟨LS,hfs⟩:=xF hl
     exact Hl S FC hk' hj hmk MK hg (gX hn).1 (R.e _ _ _ _ e2 X S) (dv hst _ _) e0 LS hfs e1
      λcaps capv cds base hb X' S'=>(RA _ _ _ ⟨hB caps capv cds base hb,λz=>by cases z⟩).e _ _ _ _ e3 X' S'
    ·cases h
   ·cases h
  ·exact R.c _ _ _ _ _ h hg hn _ _ rfl X _ _ S
 ·exact R.c _ _ _ _ _ h hg hn _ _ rfl X _ _ S
theorem KJ(R:Snd M T k n){o:Expr}{name:Str}{p q:Pos}{as:List Expr}(h:eMe (rc n) T N ns o name p q as=some m)(S:Sc M X k N ns):PE X (.Call (.Attribute o name p) as [] q) (tM M.K m):=by
 unfold eMe at h
 split at h
 ·split at h
  ·rename_i hs
   rw[ay,ay]at hs
   obtain⟨mo,e1,rfl⟩:=map_eq h
   rw[eq_of_beq hs.2]
   exact JJ S (R.e _ _ _ _ e1 X S) hs.1.1 hs.1.2
  ·cases h
 ·split at h
  ·rename_i hs
   rw[ay,ay]at hs
   obtain⟨mo,e1,h⟩:=bind_eq h
   obtain⟨mas,e2,h⟩:=bind_eq h
   exact GY h S (R.e _ _ _ _ e1 X S) (R.a _ _ _ _ e2 X S) hs.1.1 hs.1.2 hs.2
  ·cases h
 ·cases h
end
theorem L3(Gk:GOk M T k)(R:Snd M T k n)(RA: ∀M T k,GOk M T k->Snd M T k n): ∀N ns e m,cE T (n+1) N ns e=some m -> ∀X,Sc M X k N ns->PE X e (tM M.K m):=by
 have O:=Gk.1
 intro N ns e m h X S
 have h:sE (rc n) T N ns e=some m:=h
 cases e with
 | Name x p=>
   have h:(if fR x then(if tm ns x then(slot N x).map ae else if fh ns x then(T.C.lookup x).map mC else none) else none)=some m:=h
   split at h
   ·rename_i hn
    obtain⟨n1,n2⟩:=gX hn
    split at h
    ·rename_i hv
     obtain⟨i,e1,rfl⟩:=map_eq h
     exact Nc S i (slot_get e1) hv n1 n2
    ·split at h
     ·rename_i hg
      obtain⟨u,e1,rfl⟩:=map_eq h
      obtain⟨g,v,hm,r,hv⟩:=O.C _ _ e1
      exact JA S hg hm r hv n1
     ·cases h
   ·cases h
 | Constant c j p=>exact Fm h
 | BinOp a op b p=>
   obtain⟨ma,e1,h⟩:=bind_eq (show((rc n).e T N ns a).bind _=some m from h)
   obtain⟨mb,e2,h⟩:=bind_eq h
   obtain⟨f,e3,rfl⟩:=map_eq h
   exact yT e3 S (R.e _ _ _ _ e1 X S) (R.e _ _ _ _ e2 X S)
 | UnaryOp op a p=>exact KP R h S
 | BoolOp op vs p=>exact K5 R h S
 | Compare a ops bs p=>exact(Cy R h S).1
 | IfExp c a b p=>
   obtain⟨mc,e1,h⟩:=bind_eq (show((rc n).t T N ns c).bind _=some m from h)
   obtain⟨ma,e2,h⟩:=bind_eq h
   obtain⟨mb,e3,rfl⟩:=map_eq h
   exact Nu (R.t _ _ _ _ e1 X S) (R.e _ _ _ _ e2 X S) (R.e _ _ _ _ e3 X S)
 | Subscript a b p=>exact Jq R h S
 | Dict ks vs p=>exact KD R h S
 | Tuple es j p=>
   obtain⟨ma,e1,rfl⟩:=map_eq (show((rc n).a T N ns es).map cX=some m from h)
   exact MR (R.a _ _ _ _ e1 X S)
 | List es p=>
   obtain⟨ma,e1,rfl⟩:=map_eq (show((rc n).a T N ns es).map dn=some m from h)
   exact Lh (R.a _ _ _ _ e1 X S)
 | ListComp elt gens scope p=>exact IL Gk.1 R h S
 | Call f as kws q=>
   have h:(if kws.isEmpty then eCa (rc n) T N ns as q f else none)=some m:=h
   cases kws with
   | cons w ws=>cases h
   | nil=>
     have h:eCa (rc n) T N ns as q f=some m:=h
     unfold eCa at h
     split at h
     ·split at h
      ·rename_i hs
       rw[ay]at hs
       exact JY Gk R RA h S hs.1 hs.2
      ·cases as with
       | nil=>exact absurd h (R.v0 _ _ _ _)
       | cons a r=>exact R.v _ _ _ _ _ h _ _ rfl X _ _ S
     ·exact KJ R h S
     ·cases h
 | _=>cases h
theorem Ma(O:TOk M T k)(R:Snd M T k n): ∀N ns g as m,cC T (n+1) N ns g as=some m->fh ns g=true->fR g=true -> ∀a r,as=a::r -> ∀X p1 pos,Sc M X k N ns->PE X (.Call (.Name g p1) as [] pos) (tM M.K m):=by
 intro N ns g as m h hg hn a r e X p1 pos S
 subst e
 simp only[cC,rc,sC]at h
 obtain⟨mas,e1,h⟩:=bind_eq h
 have hst:=iC e1
 split at h
 ·rename_i mf hb
  cases h
  exact Fv O hb hg S (R.a _ _ _ _ e1 X S) hst
 ·obtain⟨mf,e2,rfl⟩:=map_eq h
  obtain⟨k',ps,hk,F⟩:=O.D _ _ e2
  rw[cf,ay]at hst
  exact Le S F hk hg (R.a _ _ _ _ e1 X S) (gX hn).1 (dv hst.1 _ _) (vd _ _ hst.2)
theorem Nq(R:Snd M T k n): ∀N ns o m,cO T (n+1) N ns o=some m -> ∀X,Sc M X k N ns->lE M X o m:=by
 intro N ns o m h X S
 simp only[cO,rc,sO]at h
 split at h
 ·cases h;exact .none
 ·obtain⟨me,e1,rfl⟩:=map_eq h
  exact .some (R.e _ _ _ _ e1 X S)
theorem NG(R:Snd M T k n): ∀N ns e m,cT T (n+1) N ns e=some m -> ∀X,Sc M X k N ns->PT X e (tMT M.K m):=by
 intro N ns e m h X S
 simp only[cT,rc,sT]at h
 split at h
 ·obtain⟨ma,e1,rfl⟩:=map_eq h
  exact NU (R.t _ _ _ _ e1 X S)
 ·exact PW.pt (R.l _ _ true _ _ _ h X S)
 ·exact PW.pt (R.l _ _ false _ _ _ h X S)
 ·obtain⟨mc,e1,rfl⟩:=map_eq h
  exact(Cy R e1 S).2
 ·split at h
  ·rename_i hs
   obtain⟨ma,e1,rfl⟩:=map_eq h
   exact N8 (R.e _ _ _ _ e1 X S) (Di hs _)
  ·cases h
theorem NO(R:Snd M T k n): ∀N ns b vs m pos,cL T (n+1) N ns b vs=some m -> ∀X,Sc M X k N ns->PW X (.BoolOp (if b then .And else .Or) vs pos) (tMT M.K m):=by
 intro N ns b vs m pos h X S
 simp only[cL,rc,sL]at h
 split at h
 ·cases h
 ·cases b
  ·exact M9 (R.t _ _ _ _ h X S)
  ·exact IW (R.t _ _ _ _ h X S)
 ·rename_i a r hr
  obtain⟨ma,e1,h⟩:=bind_eq h
  obtain⟨mr,e2,rfl⟩:=map_eq h
  cases r with
  | nil=>exact(hr rfl).elim
  | cons c r=>
    have h2:=R.l _ _ b _ _ pos e2 X S
    cases b
    ·exact Ox (R.t _ _ _ _ e1 X S) h2
    ·exact Mp (R.t _ _ _ _ e1 X S) h2
theorem MU(R:Snd M T k n): ∀N ns vs m,cF T (n+1) N ns vs=some m -> ∀X,Sc M X k N ns->PTs X vs (tMT M.K m):=by
 intro N ns vs m h X S
 simp only[cF,rc,sF]at h
 split at h
 ·cases h;exact JF
 ·exact LV (R.t _ _ _ _ h X S)
 ·cases h
theorem Of(R:Snd M T k n): ∀N ns es m,cA T (n+1) N ns es=some m -> ∀X,Sc M X k N ns->PA X es (tMA M.K m):=by
 intro N ns es m h X S
 simp only[cA,rc,sA]at h
 split at h
 ·cases h;exact L1
 ·split at h
  ·rename_i hs
   obtain⟨ma,e1,h⟩:=bind_eq h
   obtain⟨mr,e2,rfl⟩:=map_eq h
   exact Ki (R.e _ _ _ _ e1 X S) (R.a _ _ _ _ e2 X S) (dv hs _ _)
  ·cases h
theorem DT{N:List Str}{ns:NS}{X:Cx}{tg e:Expr}{m:ME}(S:Sc M X k N ns)(h:PE X e (tM M.K m)):IOk M X tg e (cu m):=
 ⟨_,GW S h,λ_ _ _ _ _ q=>OJ q,λ_ _ _ _ _ q=>Oq q⟩
theorem N9(O:TOk M T k)(R:Snd M T k n): ∀N ns tg it m,cI T (n+1) N ns it=some m -> ∀X,Sc M X k N ns->IOk M X tg it m:=by
 intro N ns tg it m h X S
 simp only[cI,rc,sI]at h
 split at h
 ·split at h
  ·rename_i hr
   split at h
   ·rename_i hg
    rw[eq_of_beq hr]at hg ⊢
    split at h
    ·obtain⟨ma,e1,rfl⟩:=map_eq h
     have hst:=iC e1
     simp only[cf,iT,hV]at hst
     exact⟨_,NJ S hg (O.B _ (by decide +kernel)) (R.a _ _ _ _ e1 X S) (dv hst _ _),λ_ _ _ _ _ q=>Ny q,λ_ _ _ _ _ q=>LO q⟩
    ·obtain⟨ma,e1,rfl⟩:=map_eq h
     have hst:=iC e1
     simp only[cf,iT,hV,ay]at hst
     exact⟨_,Lx S hg (O.B _ (by decide +kernel)) (R.a _ _ _ _ e1 X S) (by rw[dv hst.1,dv hst.2];rfl) (by rw[dv hst.2];rfl),λ_ _ _ _ _ q=>Ls q,λ_ _ _ _ _ q=>Nt q⟩
    ·cases h
   ·cases h
  ·obtain⟨ma,e1,rfl⟩:=map_eq h
   exact DT S (R.e _ _ _ _ e1 X S)
 ·obtain⟨ma,e1,rfl⟩:=map_eq h
  exact DT S (R.e _ _ _ _ e1 X S)
theorem Lq(R:Snd M T k n): ∀N ns e m,cG T (n+1) N ns e=some m -> ∀X,Sc M X k N ns->PG X e (tG M.K m):=by
 intro N ns e m h X S
 simp only[cG,rc,sG]at h
 split at h
 ·split at h
  ·rename_i hs
   obtain⟨i,e1,rfl⟩:=map_eq h
   exact PG.con (Ag (by rw[S.hN];exact S.nd) (by rw[S.hN];exact slot_get e1) (S.lo hs).1 (S.lo hs).2) λ_ _ _ _ q=>OS q
  ·cases h
 ·obtain⟨gs,e1,rfl⟩:=map_eq h
  obtain⟨h1,h2⟩:=zH X.env _ (wc e1)
  refine PG.con (JB S.calm (R.gs _ _ _ _ e1 X S) h1 h2) λ_ _ _ _ q =>?_
  rw[S.hK]
  exact Mn q
 ·cases h
theorem IU(R:Snd M T k n): ∀N ns es m,cGs T (n+1) N ns es=some m -> ∀X,Sc M X k N ns->PGs X es (tGs M.K m):=by
 intro N ns es m h X S
 simp only[cGs,rc,sGs]at h
 split at h
 ·cases h;exact PGs.con Hb λ_ _ _ _ q=>JK q
 ·split at h
  ·rename_i hs
   obtain⟨g,e1,h⟩:=bind_eq h
   obtain⟨gs,e2,rfl⟩:=map_eq h
   exact PGs.con (Ee (R.g _ _ _ _ e1 X S) (R.gs _ _ _ _ e2 X S) (by rw[xy hs];rfl)) λ_ _ _ _ q=>HC q
  ·cases h
theorem Fx(O:TOk M T k)(R:Snd M T k n){N:List Str}{ns:NS}{it:Expr}{mi:MI}{X:Cx}{ts:List Expr}{kt:Nat}{pt:Pos}(h:JM (rc n) T N ns it=some mi)(S:Sc M X k N ns):
  ∃wi,PI X (.Tuple ts kt pt) it wi /\ ∀g mb D σ H,tMS M.K (nH g mi mb) D σ H->sX wi (tG M.K g) (tMS M.K mb) D σ H:=by
 unfold JM at h
 split at h
 ·split at h
  ·rename_i hr
   split at h
   ·rename_i hg
    rw[eq_of_beq hr]at hg ⊢
    obtain⟨ma,e1,rfl⟩:=map_eq h
    have hst:=iC e1
    simp only[cf,iT,hV,ay]at hst
    exact⟨_,IS S hg (O.B _ (by decide +kernel)) (R.a _ _ _ _ e1 X S) (dv hst.1 _ _) (dv hst.2 _ _),λ_ _ _ _ _ q=>Lj q⟩
   ·cases h
  ·obtain⟨ma,e1,rfl⟩:=map_eq h
   exact⟨_,GW S (R.e _ _ _ _ e1 X S),λ_ _ _ _ _ q=>Im q⟩
 ·obtain⟨ma,e1,rfl⟩:=map_eq h
  exact⟨_,GW S (R.e _ _ _ _ e1 X S),λ_ _ _ _ _ q=>Im q⟩
theorem JH(O:TOk M T k)(R:Snd M T k n){N:List Str}{ns:NS}{it:Expr}{mi:MI}{X:Cx}{ts:List Expr}{kt:Nat}{pt:Pos}(h:eIt (rc n) T N ns it=some mi)(S:Sc M X k N ns):
  ∃wi,PI X (.Tuple ts kt pt) it wi /\ ∀g mb D σ H,tMS M.K (nH g mi mb) D σ H->sX wi (tG M.K g) (tMS M.K mb) D σ H:=by
 unfold eIt at h
 ·exact Fx O R h S
theorem HA{N:List Str}{ns:NS}{X:Cx}{m:MS}(R:Snd M T k n){y:Str}{elt it tg:Expr}{ifs:List Expr}{scope:Scope}{p1:Pos}{p2 p3:Pos}(h:Jg (rc n) T N ns y elt it ifs scope tg=some m)(S:Sc M X k N ns):
  PS X (.Assign [.Name y p1] (.ListComp elt [⟨tg,it,ifs,0⟩] scope p2) p3) (tMS M.K m):=by
 unfold Jg at h
 split at h
 ·split at h
  ·rename_i hs
   rw[ay,ay,ay]at hs
   obtain⟨i,e0,h⟩:=bind_eq h
   obtain⟨mi,e1,h⟩:=bind_eq h
   obtain⟨mt,e2,h⟩:=bind_eq h
   obtain⟨mc,e3,rfl⟩:=map_eq h
   obtain⟨wi,h1,_,h3⟩:=R.i _ _ _ _ _ e1 X S
   exact KH S i (slot_get e0) hs.1 (eq_of_beq hs.2.1.1) hs.2.1.2 h1 (λX' S'=>R.f _ _ _ _ e2 X' S') (λX' S'=>R.e _ _ _ _ e3 X' S') (h3 mt mc) (nK hs.2.2 _)
  ·cases h
 ·cases h
theorem HJ{N:List Str}{ns:NS}{X:Cx}{m:MS}(R:Snd M T k n){x:Str}{e:Expr}{p1:Pos}{p3:Pos}(h:KZ (rc n) T N ns x e=some m)(S:Sc M X k N ns):PS X (.Assign [.Name x p1] e p3) (tMS M.K m):=by
 unfold KZ at h
 split at h
 ·unfold Mt at h
  split at h
  ·rename_i c
   obtain⟨tg,it,ifs,ia⟩:=c
   split at h
   ·rename_i h0
    have h0':ia=0:=h0
    subst h0'
    exact HA R h S
   ·cases h
  ·cases h
 ·split at h
  ·rename_i hs
   rw[ay]at hs
   obtain⟨i,e1,h⟩:=bind_eq h
   obtain⟨me,e2,rfl⟩:=map_eq h
   exact HV S i (slot_get e1) hs.1 (R.e _ _ _ _ e2 X S) (uZ hs.2 _ _ _)
  ·cases h
theorem Ge{N:List Str}{ns:NS}{X:Cx}{m:MS}(R:Snd M T k n){t e:Expr}{p3:Pos}(h:Ky (rc n) T N ns e t=some m)(S:Sc M X k N ns):PS X (.Assign [t] e p3) (tMS M.K m):=by
 unfold Ky at h
 split at h
 ·exact HJ R h S
 ·split at h
  ·rename_i hs
   rw[ay]at hs
   obtain⟨ma,e1,h⟩:=bind_eq h
   obtain⟨mb,e2,h⟩:=bind_eq h
   obtain⟨me,e3,rfl⟩:=map_eq h
   exact FL S (R.e _ _ _ _ e1 X S) (R.e _ _ _ _ e2 X S) (R.e _ _ _ _ e3 X S) (Ab hs.1 _ _ _) yG rfl (JW hs.2 _)
  ·cases h
 ·split at h
  ·rename_i hs
   rw[ay]at hs
   obtain⟨g,e1,h⟩:=bind_eq h
   obtain⟨me,e2,rfl⟩:=map_eq h
   exact PS.con (DR (R.e _ _ _ _ e2 X S) (R.g _ _ _ _ e1 X S) (Ab hs.1 _ _ _) (wC hs.2) rfl) λ_ _ _ q=>Mz q
  ·cases h
 ·cases h
theorem K1{N:List Str}{ns:NS}{X:Cx}{m:MS}(R:Snd M T k n){x:Str}{e:Expr}{op:Operator}{p1:Pos}{p3:Pos}(h:sAu (rc n) T N ns x e op=some m)(S:Sc M X k N ns):PS X (.AugAssign (.Name x p1) op e p3) (tMS M.K m):=by
 unfold sAu at h
 cases h
theorem KU{N:List Str}{ns:NS}{X:Cx}{m:MS}(O:TOk M T k)(R:Snd M T k n){t it:Expr}{body:List Stmt}{p3:Pos}(h:sFo (rc n) T N ns it body t=some m)(S:Sc M X k N ns):PS X (.For t it body [] p3) (tMS M.K m):=by
 unfold sFo at h
 split at h
 ·split at h
  ·rename_i hs
   rw[ay]at hs
   obtain⟨i,e1,h⟩:=bind_eq h
   obtain⟨mi,e2,h⟩:=bind_eq h
   obtain⟨mb,e3,rfl⟩:=map_eq h
   obtain⟨wi,h1,h2,_⟩:=R.i _ _ _ _ _ e2 X S
   exact Mv S i (slot_get e1) hs.1 h1 (R.b _ _ _ _ e3 X S) (h2 i mb) (nK hs.2 _)
  ·cases h
 ·rename_i ts kt pt
  split at h
  ·rename_i hs
   obtain⟨g,e1,h⟩:=bind_eq h
   obtain⟨mi,e2,h⟩:=bind_eq h
   obtain⟨mb,e3,rfl⟩:=map_eq h
   obtain⟨wi,h1,h2⟩:=JH O R (ts:=ts) (kt:=kt) (pt:=pt) e2 S
   exact PS.con (EU S.own S.calm h1 (R.g _ _ _ _ e1 X S) (R.b _ _ _ _ e3 X S) (nK hs _)) λ_ _ _ q=>h2 _ _ _ _ _ q
  ·cases h
 ·cases h
theorem N0(O:TOk M T k)(R:Snd M T k n): ∀N ns st m,cS T (n+1) N ns st=some m -> ∀X,Sc M X k N ns->PS X st (tMS M.K m):=by
 intro N ns st m h X S
 have h:sS (rc n) T N ns st=some m:=h
 cases st with
 | Assign ts e p=>
   have h:sAs (rc n) T N ns e ts=some m:=h
   unfold sAs at h
   split at h
   ·exact Ge R h S
   ·cases h
 | AugAssign t op e p=>
   have h:Jl (rc n) T N ns op e t=some m:=h
   unfold Jl at h
   split at h
   ·exact K1 R h S
   ·cases h
 | Expr e p=>
   have h:(if j6 e then((rc n).e T N ns e).map dN else none)=some m:=h
   split at h
   ·rename_i hs
    obtain⟨me,e2,rfl⟩:=map_eq h
    exact Kn (R.e _ _ _ _ e2 X S) (uZ hs _ _ _)
   ·cases h
 | Return o p=>
   have h:sRt (rc n) T N ns o=some m:=h
   unfold sRt at h
   split at h
   ·obtain⟨me,e2,rfl⟩:=map_eq h
    exact Mj (R.e _ _ _ _ e2 X S)
   ·cases h;exact JU
 | If c a b p=>
   obtain⟨mc,e1,h⟩:=bind_eq h
   obtain⟨ma,e2,h⟩:=bind_eq h
   obtain⟨mb,e3,rfl⟩:=map_eq h
   exact Oi (R.t _ _ _ _ e1 X S) (R.b _ _ _ _ e2 X S) (R.b _ _ _ _ e3 X S)
 | For t it body els p=>
   have h:Kj (rc n) T N ns t it body els=some m:=h
   unfold Kj at h
   split at h
   ·exact KU O R h S
   ·cases h
 | While c body els p=>
   have h:sWh (rc n) T N ns c body els=some m:=h
   unfold sWh at h
   split at h
   ·obtain⟨mc,e1,h⟩:=bind_eq h
    obtain⟨mb,e2,rfl⟩:=map_eq h
    exact Fy S (R.t _ _ _ _ e1 X S) (R.b _ _ _ _ e2 X S)
   ·cases h
 | Pass p=>
   cases h;exact Jh
 | Break p=>
   cases h;exact M6
 | Raise a b p=>
   cases h;exact OX
 | Continue p=>
   cases h;exact M7
 | _=>cases h
theorem Np(Gk:GOk M T k)(R:Snd M T k n)(RA: ∀M T k,GOk M T k->Snd M T k n): ∀N ns sts m,cB T (n+1) N ns sts=some m -> ∀X,Sc M X k N ns->PSs X sts (tMS M.K m):=by
 intro N ns sts m h X S
 simp only[cB,rc,sB]at h
 split at h
 ·cases h;exact LC
 ·exact LW (R.s _ _ _ _ h X S)
 ·obtain⟨ma,e1,h⟩:=bind_eq h
  obtain⟨mr,e2,rfl⟩:=map_eq h
  exact LK (R.s _ _ _ _ e1 X S) (R.b _ _ _ _ e2 X S)
theorem snd: ∀n M T k,GOk M T k->Snd M T k n
 | 0,M,T,k,_=>OK M T k
 | n+1,M,T,k,Gk=>by
   have RA:=snd n
   have R:=RA M T k Gk
   exact⟨L3 Gk R RA,Ma Gk.1 R,NM Gk.1 R,λN ns g m h=>(by cases (show(none:Option ME)=some m from h)),Nq R,NG R,NO R,MU R,Of R,N9 Gk.1 R,Lq R,IU R,N0 Gk.1 R,Np Gk R RA⟩
theorem Ac{x qual:Str}{st:Stmt}{f:Addr}{fd:FuncData}{N ps:List Str}{ms:MS}{fu:Nat}(O:TOk M T k)(h0:M.mkr=none)(h1:T.mkr=false)(F:Fun M.K x qual st f fd)(S:bL N ps (aE st))(hm:M.mg x=some (.ref f))(hb:Binds M.K fd ps [])
  (h:cB T fu N (aE st).names (bq st)=some ms):Fn M x (k+1) ps (run ps.length N.length ms):=
 ⟨f,fd,hm,F.2,hb,Du h0 F S λX S'=>(snd fu M T k (.of O h1)).b _ _ _ _ h X S'⟩
end
end _G
end
section
namespace _G
open PySem PySem.Spec _L
open PyProof.Rows hiding St
structure Def(K:aj)(x:Str)(st:Stmt):Prop where
 ex: ∃f fd,eI K mainGlobals x=some (some (.ref f))/\Fun K x x st f fd
theorem dW{K:aj}{x:Str}{st:Stmt}{f:Addr}{od an:Option Addr}{sl:Array (Option Value)}{oc kV doc pm cd ct:Value}(a:eI K mainGlobals x=some (some (.ref f)))
  (l:K.lookup f=some ⟨oc,od,.func (cU x x (fk st) (bq st) (aE st) .none kV doc pm an cd ct),sl⟩) (c:fZ K cd x=true) (k:cm K (.ref f)=true):Def K x st:=
 ⟨f,_,a,IT l c k⟩
section
variable {M:Mo}{T:Tb}{k:Nat}{h:Heap}{x:Str}{st:Stmt}{N ps:List Str}{ms:MS}{fu:Nat}
theorem Def.fn(O:TOk M T k)(h0:M.mkr=none)(h1:T.mkr=false)(X:M.K.K.In h)(Gn:h.Ns mainGlobals M.mg)(D:Def M.K x st)(S:bL N ps (aE st))
  (hb: ∀(kV doc pm:Value) (an:Option Addr) (cdv ct:Value) (us:List Value),us.length=ps.length->bindArgs (cU x x (fk st) (bq st) (aE st) .none kV doc pm an cdv ct) ⟨us,[]⟩=pure (ps.zip us))
  (hc:cB T fu N (aE st).names (bq st)=some ms):Fn M x (k+1) ps (run ps.length N.length ms):=by
 obtain⟨f,fd,a,F⟩:=D.ex
 exact Ac O h0 h1 F S (ku X Gn a) (F.binds hb) hc
theorem TOk.mono{j:Nat}(O:TOk M T k)(hj:k<=j):TOk M T j where
 Z:=λy r hy=>let ⟨k',ps',hk,F'⟩:=O.Z y r hy;⟨k',ps',aM hk hj,F'⟩
 D:=λy g hy=>let ⟨k',ps',hk,F'⟩:=O.D y g hy;⟨k',ps',aM hk hj,F'⟩
 C:=O.C
 B:=O.B
 L:=λy q hy=>let ⟨k',ps',hk,F'⟩:=O.L y q hy;⟨k',ps',aM hk hj,F'⟩
 mkr:=O.mkr
theorem TOk.cons{j:Nat}{mf:MF}(O:TOk M T k)(F:Fn M x j ps mf)(hj:k<=j):TOk M ⟨(x,mf)::T.D,T.C,T.L,T.H,T.mkr,T.Z⟩ j where
 D:=λy g hy=>by
  rw[aW]at hy
  cases e:y==x with
  | true=>rw[e]at hy;cases hy;rw[eq_of_beq e];exact⟨j,ps,ah _,F⟩
  | false=>
    rw[e]at hy
    obtain⟨k',ps',hk,F'⟩:=O.D y g hy
    exact⟨k',ps',aM hk hj,F'⟩
 C:=O.C
 B:=O.B
 L:=(O.mono hj).L
 mkr:=O.mkr
 Z:=(O.mono hj).Z
theorem TOk.setH{Hs:List (Str×(Addr->MF->MF))}(O:TOk M T k):TOk M ⟨T.D,T.C,T.L,Hs,T.mkr,T.Z⟩ k:=⟨O.D,O.C,O.B,O.L,O.mkr,O.Z⟩
theorem TOk.con{i:Int}(O:TOk M T k)(X:M.K.K.In h)(Gn:h.Ns mainGlobals M.mg)(a: ∃t,eI M.K mainGlobals x=some (some (.int i t))):TOk M ⟨T.D,(x,.int i)::T.C,T.L,T.H,T.mkr,T.Z⟩ k where
 D:=O.D
 C:=λy u hy=>by
  rw[aW]at hy
  cases e:y==x with
  | true=>
    rw[e]at hy;cases hy;rw[eq_of_beq e]
    obtain⟨t,a⟩:=a
    exact⟨_,.int i,ku X Gn a,⟨t,rfl⟩,λ_ _=>eV⟩
  | false=>rw[e]at hy;exact O.C y u hy
 B:=O.B
 L:=O.L
 mkr:=O.mkr
 Z:=O.Z
theorem TOk.nil{Fs:List (Str×List Nat)}{cl:Nat->Addr}{nm:Str}(X:M.K.K.In h)(Gn:h.Ns mainGlobals M.mg)(B: ∀x∈jX,eI M.K mainGlobals x=some none):TOk M ⟨[],[],[],[],false,⟨[],Fs,cl,nm⟩⟩ 0 where
 D:=λy g hy=>by cases hy
 C:=λy g hy=>by cases hy
 B:=λy hy=>PySem.W.mg_none_of X Gn (B y hy)
 L:=λy g hy=>by cases hy
 mkr:=λh=>by cases h
 Z:=λy g hy=>by cases hy
theorem Def.fnC{y:Str}{msC:Addr->MF->MS}(O: ∀caps capv cds base,gR M.mg base->TOk (M.to caps capv cds base) T k)(h1:T.mkr=false)(hL:T.L = [])(X:M.K.K.In h)(Gn:h.Ns mainGlobals M.mg)(D:Def M.K x st)(S:bL N ps (aE st))
  (hb: ∀(kV doc pm:Value) (an:Option Addr) (cdv ct:Value) (us:List Value),us.length=ps.length->bindArgs (cU x x (fk st) (bq st) (aE st) .none kV doc pm an cdv ct) ⟨us,[]⟩=pure (ps.zip us))
  (hc: ∀g φ,cB ⟨T.D,T.C,[(y,g,φ)],T.H,T.mkr,T.Z⟩ fu N (aE st).names (bq st)=some (msC g φ)):FnC M x k ps λg φ=>run ps.length N.length (msC g φ):=by
 obtain⟨f,fd,a,F⟩:=D.ex
 refine⟨f,fd,ku X Gn a,F.2,F.binds hb,λcaps capv cds base g j lps φ hbb hkj lam =>?_⟩
 have O':TOk (M.to caps capv cds base) ⟨T.D,T.C,[(y,g,φ)],T.H,T.mkr,T.Z⟩ j:=by
  have O1:=(O caps capv cds base hbb).mono hkj
  refine⟨O1.D,O1.C,O1.B,λz q hz =>?_,(λhm=>by rw[h1]at hm;cases hm),O1.Z⟩
  rw[aW]at hz
  cases e:z==y with
  | true=>rw[e]at hz;cases hz;exact⟨j,lps,ah _,lam⟩
  | false=>rw[e]at hz;cases hz
 exact Du (M:=M.to caps capv cds base) rfl F S λX' S'=>(snd fu _ _ _ (.of O' h1)).b _ _ _ _ (hc g φ) X' S'
end
structure pV(K:aj)(x:Str)(st:Stmt)(c P:Addr):Prop where
 ex: ∃(f:Addr) (oc:Value) (od:Option Addr) (kV doc pm:Value) (an:Option Addr) (ct:Value) (sl:Array (Option Value)),eI K mainGlobals x=some (some (.ref f)) /\
  K.lookup f=some ⟨oc,od,.func (cU x x (fk st) (bq st) (aE st) .none kV doc pm an (.ref c) ct),sl⟩/\fZ K (.ref c) x=true/\cm K (.ref f)=true
 cd : ∃ (vs:Array Value) (od:Option Addr) (sl:Array (Option Value)) (file:Str) (tf:Tok) (flags:Int) (tg:Tok) (inF:Bool) (text:Int) (tt:Tok),K.lookup c=some ⟨.type "code",od,.fields vs,sl⟩/\vs[11]? = some (.ref P)/\vs.getD 11 .none = .ref P/\vs.getD 18 .none = .str file tf /\
  vs.getD 7 .none = .int flags tg/\vs.getD 9 .none = .bool inF/\vs.getD 10 .none = .int text tt/\c≠P
section
variable {M:Mo}{T:Tb}{k:Nat}{h:Heap}{x:Str}{st:Stmt}{N ps:List Str}{ms:MS}{fu:Nat}{c P:Addr}
theorem pV.mkr(D:pV M.K x st c P)(B:gR M.mg M.base)(X:M.K.K.In h)(Gn:h.Ns mainGlobals M.mg){q:Str}(hm:(P,q)∈M.K.tabs)(nd:(M.K.tabs.map (·.1)).Nodup)(hg:mainGlobals≠P):Mkr M c P q where
 hd:=λh' X'=>by
  obtain⟨vs,od,sl,file,tf,flags,tg,inF,text,tt,e,r⟩:=D.cd
  obtain⟨r1,r2,r3,r4,r5,r6,r7⟩:=r
  exact⟨_,vs,file,tf,flags,tg,inF,text,tt,X' _ _ e,rfl,rfl,r1,r2,r3,r4,r5,r6,r7⟩
 bl:=B
 gP:=hg
 mem:=hm
 un:=λr hr e=>by
  have key: ∀(l:List (Addr×Str)),(l.map (·.1)).Nodup->r∈l->(P,q)∈l->r.2=q:=by
   intro l
   induction l with
   | nil=>intro _ h;simp at h
   | cons y l ih=>
     intro nd h1 h2
     rw[bg,dj]at nd
     rcases aG.mp h1 with h1 |h1
     ·rcases aG.mp h2 with h2 |h2
      ·rw[h1,<- h2]
      ·exact absurd (aI.mpr ⟨_,h2,rfl⟩) (by rw[<- e,h1]at *;exact nd.1)
     ·rcases aG.mp h2 with h2 |h2
      ·exact absurd (aI.mpr ⟨r,h1,e⟩) (by rw[<- h2]at nd;exact nd.1)
      ·exact ih nd.2 h1 h2
  exact key _ nd hr hm
theorem pV.ok (D:pV M.K x st c P) (h0:M.mkr=none) (O : ∀ caps capv cds base,gR M.mg base->TOk (M.to caps capv cds base) T k) (O0:TOk M T k) (hL:T.L = []) (h1:T.mkr=false) (hH : ∀ y F,T.H.lookup y=some F -> ∃ k' ps,k'<=k+1/\FnC M y k' ps F) (hF : ∀ y rz,T.Z.F.lookup y=some rz -> ∃ k',k'<=k+1/\FnR M T.Z.cl y k' rz) {nm:Str} (MK:Mkr M c P (x++".<locals>."++nm))
  (S:bL N ps (aE st)) (hc:cB ⟨T.D,T.C,T.L,T.H,true,T.Z.to nm⟩ fu N (aE st).names (bq st)=some ms)
  {f:Addr}{oc kV doc pm ct:Value}{od an:Option Addr}{sl:Array (Option Value)} (lk:M.K.K.lookup f=some ⟨oc,od,.func (cU x x (fk st) (bq st) (aE st) .none kV doc pm an (.ref c) ct),sl⟩) (hcd:fZ M.K.K (.ref c) x=true):
  jW M.P M.w M.K M.mg M.base CX0 (k+3) f (cU x x (fk st) (bq st) (aE st) .none kV doc pm an (.ref c) ct) ps (spM M.K (run ps.length N.length ms)):=by
 let M1:Mo:=⟨M.P,M.w,M.K,M.mg,M.base,some (c,x++".<locals>.")⟩
 have O1:TOk M1 ⟨T.D,T.C,T.L,T.H,true,T.Z.to nm⟩ (k+2):=by
  have Om:=O0.mono (show k<=k+2 by omega)
  refine⟨fun y g hy => ?_,Om.C,Om.B,fun y q hy => ?_,fun _=>⟨c,x++".<locals>.",P,rfl,MK.hd,MK.bl,MK.gP,MK.mem,MK.un⟩,fun y r hy => ?_⟩
  ·obtain⟨k',ps',hk,F'⟩:=Om.D y g hy
   exact⟨k',ps',hk,⟨F'.ex⟩⟩
  ·rw[show(⟨T.D,T.C,T.L,T.H,true,T.Z.to nm⟩:Tb).L=T.L from rfl,hL]at hy
   cases hy
  ·obtain⟨k',ps',hk,F'⟩:=Om.Z y r hy
   exact⟨k',ps',hk,⟨F'.ex⟩⟩
 have G1:GOk M1 ⟨T.D,T.C,T.L,T.H,true,T.Z.to nm⟩ (k+2):=⟨O1,λ_=>⟨k,ah _,λy F hy=>by
  obtain⟨k',ps',hk,FC⟩:=hH y F hy
  exact⟨k',ps',hk,⟨FC.ex⟩⟩,λy rz hy=>by
  obtain⟨k',hk,FC⟩:=hF y rz hy
  exact⟨k',hk,⟨FC.ex⟩⟩,λcaps capv cds base hbb=>by
   have Ob:=O caps capv cds base hbb
   exact⟨Ob.D,Ob.C,Ob.B,λy q hy=>(by cases hy),λz=>(by cases z),Ob.Z⟩⟩⟩
 have len: ∀vs H Q E,spM M.K (run ps.length N.length ms) vs H Q E->vs.length=ps.length:=λvs H Q E h=>by
  obtain⟨μ,S',us,u,S'',hr,rs,e,_⟩:=h
  unfold run at e
  split at e
  ·rename_i hl;rw[<- rs.len];exact hl
  ·cases e
 refine _L.Ac lk hcd S len λA outer s H vs Q E hr h=>⟨tMS M.K ms,((snd fu M1 _ _ G1).b _ _ _ _ hc _ (Sc.def (M:=M1) S hr λc' q' hq=>by cases hq;exact⟨rfl,rfl⟩)).nox,?_⟩
 obtain⟨μ,S1,us,u,S2,hr,rs,e,ka⟩:=h
 unfold run at e
 split at e
 ·rename_i hl
  have er:=uf (N:=N) rs
  rw[hl]at er
  split at e
  ·rename_i w ρ' S3 q
   cases e
   exact⟨μ,S1,_,_,hr,er,q,ka⟩
  ·rename_i ρ' S3 q
   cases e
   exact⟨μ,S1,_,_,hr,er,q,λμ' σ' H' p' k' hr' er'=>ka μ' _ H' p' k' hr' o4⟩
  ·cases e
 ·cases e
theorem pV.fn (D:pV M.K x st c P) (h0:M.mkr=none) (O : ∀ caps capv cds base,gR M.mg base->TOk (M.to caps capv cds base) T k) (O0:TOk M T k) (hL:T.L = []) (h1:T.mkr=false) (hH : ∀ y F,T.H.lookup y=some F -> ∃ k' ps,k'<=k+1/\FnC M y k' ps F) (hF : ∀ y rz,T.Z.F.lookup y=some rz -> ∃ k',k'<=k+1/\FnR M T.Z.cl y k' rz) {nm:Str} (MK:Mkr M c P (x++".<locals>."++nm))
  (X:M.K.K.In h) (Gn:h.Ns mainGlobals M.mg) (S:bL N ps (aE st))
  (hb: ∀(kV doc pm:Value) (an:Option Addr) (cdv ct:Value) (us:List Value),us.length=ps.length->bindArgs (cU x x (fk st) (bq st) (aE st) .none kV doc pm an cdv ct) ⟨us,[]⟩=pure (ps.zip us))
  (hc:cB ⟨T.D,T.C,T.L,T.H,true,T.Z.to nm⟩ fu N (aE st).names (bq st)=some ms):Fn M x (k+3) ps (run ps.length N.length ms):=by
 obtain⟨f,oc,od,kV,doc,pm,an,ct,sl,a,lk,hcd,hkp⟩:=D.ex
 exact⟨f,_,ku X Gn a,hkp,.all (hb kV doc pm an (.ref c) ct),D.ok h0 O O0 hL h1 hH hF MK S hc lk hcd⟩
end
section
variable {M:Mo}
theorem qx{Hs:List (Str×(Addr->MF->MF))}{j k:Nat}(h: ∀y F,Hs.lookup y=some F -> ∃k' ps,k'<=j/\FnC M y k' ps F)(hj:j<=k): ∀y F,Hs.lookup y=some F -> ∃k' ps,k'<=k/\FnC M y k' ps F:=λy F hy=>
 let ⟨k',ps,a,b⟩:=h y F hy;⟨k',ps,aM a hj,b⟩
theorem F8{Hs:List (Str×(Addr->MF->MF))}{i j k:Nat}{x:Str}{F0:Addr->MF->MF}{ps:List Str}(h: ∀y F,Hs.lookup y=some F -> ∃k' ps,k'<=j/\FnC M y k' ps F)(F1:FnC M x i ps F0)(hi:i<=k)(hj:j<=k): ∀y F,((x,F0)::Hs).lookup y=some F -> ∃k' ps,k'<=k/\FnC M y k' ps F:=λy F hy=>by
 rw[aW]at hy
 cases e:y==x with
 | true=>rw[e]at hy;cases hy;rw[eq_of_beq e];exact⟨i,ps,hi,F1⟩
 | false=>rw[e]at hy;exact qx h hj y F hy
end
theorem GC{K:aj}{x:Str}{st:Stmt}{f c P:Addr}{od an od':Option Addr}{sl sl':Array (Option Value)}{oc kV doc pm ct:Value}{vs:Array Value}{file:Str}{tf tg tt:Tok}{flags text:Int}{inF:Bool}(a:eI K mainGlobals x=some (some (.ref f)))
  (l:K.lookup f=some ⟨oc,od,.func (cU x x (fk st) (bq st) (aE st) .none kV doc pm an (.ref c) ct),sl⟩) (cc:fZ K (.ref c) x=true) (k:cm K (.ref f)=true)
  (e:K.lookup c=some ⟨.type "code",od',.fields vs,sl'⟩) (r1:vs[11]? = some (.ref P)) (r2:vs.getD 11 .none = .ref P) (r3:vs.getD 18 .none = .str file tf) (r4:vs.getD 7 .none = .int flags tg) (r5:vs.getD 9 .none = .bool inF) (r6:vs.getD 10 .none = .int text tt) (r7:c≠P):pV K x st c P:=
 ⟨⟨f,oc,od,kV,doc,pm,an,ct,sl,a,l,cc,k⟩,⟨vs,od',sl',file,tf,flags,tg,inF,text,tt,e,r1,r2,r3,r4,r5,r6,r7⟩⟩
theorem KR {l:lW}{w:World}{K:aj}{h:Heap}{mg:Str->Option Value}{fa:Addr}{st:Stmt}{N:List Str}{ms:MS}{fu k:Nat}{T:Tb} (X:K.In h) (Gn:h.Ns mainGlobals mg) (hfa:mg "law"=some (.ref fa))
  (D:Def K "law" st) (S:bL N ["script"] (aE st))
  (hb : ∀ (kV doc pm:Value) (an:Option Addr) (cdv ct:Value) (us:List Value),us.length = ["script"].length->bindArgs (cU "law" "law" (fk st) (bq st) (aE st) .none kV doc pm an cdv ct) ⟨us,[]⟩=pure ((["script"]:List Str).zip us))
  {tabs:List (Addr×Str)} (h1:T.mkr=false) (hO: ∀base:Heap,gR mg base->TOk ⟨l.prog,w,⟨K,[],[],[],tabs⟩,mg,base,none⟩ T k) (hc:cB T fu N (aE st).names (bq st)=some ms):
  ∃ fd:FuncData,(∀ (s:Shared) (v:Value),BindsTo s fd ⟨[v],[]⟩ [("script",v)]) /\ ∀ base:Heap,K.In base->base.Ns mainGlobals mg->gR mg base->jW l.prog w K mg base CX0 (k+1) fa fd ["script"] (spM ⟨K,[],[],[],tabs⟩ (run 1 N.length ms)):=by
 obtain⟨f,fd,a,F⟩:=D.ex
 have e:=hfa.symm.trans (ku X Gn a)
 cases e
 refine⟨fd,λs v =>?_,λbase _ _ hbb=>Du (M:=⟨l.prog,w,⟨K,[],[],[],tabs⟩,mg,base,none⟩) rfl F S λX' S'=>(snd fu _ _ _ (.of (hO base hbb) h1)).b _ _ _ _ hc X' S'⟩
 obtain⟨oc,od,kV,doc,pm,an,cdv,ct,osl,rfl,lk,hcd⟩:=F.ex
 exact .of_eq (hb kV doc pm an cdv ct [v] rfl)
theorem MX{K:aj}{tabs:List (Addr×Str)}{H:Hp}{a:Addr}{ns:List Int}{m:MF}(hT: ∀q∈tabs,yN H q.1 q.2)(hS:SqL K H a (ns.map V.int))(hm: ∀S:Sto,S.length=1->getL S 0=some (ns.map U.int) -> ∃S',m [.ref 0] S=some (.bl true,S')):
  spM ⟨K,[],[],[],tabs⟩ m [.ref a] H (λv _=>v = .bl true) λ_ _ _=>False:=by
 have key: ∃c:Cell,mF ⟨K,[],[],[],tabs⟩ H [a] a c/\getL [c] 0=some (ns.map U.int):=by
  rcases hS with (h | ⟨o,h⟩) |h
  ·exact⟨.lst (ns.map U.int),⟨_,h,RUs.ints ns⟩,rfl⟩
  ·exact⟨.frz (ns.map U.int),⟨_,.inl ⟨o,h⟩,RUs.ints ns⟩,rfl⟩
  ·exact⟨.frz (ns.map U.int),⟨_,.inr (.inr h),RUs.ints ns⟩,rfl⟩
 obtain⟨c,hc,hg⟩:=key
 obtain⟨S',e⟩:=hm [c] rfl hg
 refine⟨[a],[c],[.ref 0],.bl true,S',⟨rfl,λn m us ws q1 q2 _ _ _ =>?_,λn c' b q1 q2 =>?_,⟨.nil,λq hq=>(nomatch hq),hT⟩⟩,.cons (qZ rfl) .nil,e,λμ' v H' _ _ _ r=>jY r⟩
 ·have h1:=(ai.mp q1).1
  have h2:=(ai.mp q2).1
  simp at h1 h2;omega
 ·have h1:=(ai.mp q1).1
  simp at h1;subst h1
  cases q1;cases q2
  exact hc
end _G
end
section
namespace _G
open PySem PySem.Spec _L
open PySem.W (CodeHd tabObj tabIn)
open PyProof.Rows hiding St
theorem pV.tab{K:aj}{x:Str}{st:Stmt}{c P:Addr}(D:pV K x st c P):tabIn K x=some (c,P):=by
 obtain⟨f,oc,od,kV,doc,pm,an,ct,sl,e1,e2,_⟩:=D.ex
 obtain⟨vs,od',sl',file,tf,flags,tg,inF,text,tt,e3,e4,_⟩:=D.cd
 unfold tabIn
 simp only[e1,e2,e3,e4]
noncomputable def xJ(K:aj)(tabs:List (Addr×Str))(a:Addr)(o:Obj)(xs:List V):Hp:=λb=>
 if b∈tabs.map (·.1) then some (.tbl #[]) else if b=a/\K.lookup a=none then some (.frz o (.lst xs)) else none
section
variable {P:Program}{w:World}{K:aj}{mg mb:Str->Option Value}{k:Nat}{fa a:Addr}{fd:FuncData}{x:Str}{sp:Sp}{s:Shared}{vs:List Value}{ns:List Int}{tabs:List (Addr×Str)}
theorem FN (kx:K.In s.heap) (hns:s.heap.Ns mainGlobals mg) (hb:s.heap.Ns builtinsNs mb) (hbb : ∀ x:Str,x≠"__name__"->mb x=bootBuiltins x) (hlim:s.heap.NoLimit) (hbm:gR mg s.heap) (hg:s.gens = #[])
  (ha:s.heap.get? a=some { cls := .type "list",data := .seq vs.toArray }) (hi:IntsAre vs ns) (hl:ns.length<=sizeLine) (hr:jO k callerA)
  (hT: ∀r∈tabs,K.lookup r.1=none /\ ∃c,s.heap.TableAt c r.1 #[])
  (F: ∀base:Heap,K.In base->base.Ns mainGlobals mg->gR mg base->jW P w K mg base CX0 k fa fd [x] sp) (hbind: ∀(s:Shared) (u:Value),BindsTo s fd ⟨[u],[]⟩ [(x,u)])
  (hsp: ∀H:Hp,(∀r∈tabs,yN H r.1 r.2)->SqL K H a (ns.map V.int)->sp [.ref a] H (λv _=>v = .bl true) λ_ _ _=>False):
  sv (model P w) callerA (.call (.ref fa) ⟨[.ref a],[]⟩) (λr s'=>r = .ok (.ret (.bool true))/\OldK s.heap s'.heap/\s'.os=s.os/\AllBare s'.gens) s:=by
 have rv:=oR hi
 have lenV:=hi.length
 let o:Obj:={ cls := .type "list",data := .seq vs.toArray }
 let H:=xJ K tabs a o (ns.map V.int)
 have hH:H=xJ K tabs a o (ns.map V.int):=rfl
 have tab: ∀b,b∈tabs.map (·.1)->H b=some (.tbl #[])/\K.lookup b=none /\ ∃c,s.heap.TableAt c b #[]:=λb hb=>by
  obtain⟨r,hr,e⟩:=aI.mp hb
  subst e
  exact⟨if_pos hb,hT r hr⟩
 have anot:a∉tabs.map (·.1):=λz=>by
  obtain⟨_,_,c,ht⟩:=tab a z
  have e:=ht.2
  rw[ha]at e
  cases e
 have Hof: ∀b u,H b=some u->(b∈tabs.map (·.1)/\u = .tbl #[])\/(b=a/\K.lookup a=none/\u = .frz o (.lst (ns.map V.int))):=λb u e=>by
  rw[hH]at e
  unfold xJ at e
  split at e
  ·rename_i z;cases e;exact .inl ⟨z,rfl⟩
  ·split at e
   ·rename_i z;cases e;exact .inr ⟨z.1,z.2,rfl⟩
   ·cases e
 have nodic: ∀{b:Addr}{o:Obj}{es:Array DictEntry}{ep:Nat},s.heap.get? b=some o->o.data = .dict es ep->H b=none:=λ{b o' es ep} e d=>by
  cases q:H b with
  | none=>rfl
  | some u=>
    rcases Hof b u q with⟨z,_⟩ | ⟨z,_⟩
    ·obtain⟨_,_,c,ht⟩:=tab b z
     have e2:=ht.2
     rw[e]at e2;cases e2;cases d
    ·subst z
     rw[ha]at e;cases e;cases d
 have nsK: ∀{b:Addr}{m:Str->Option Value},s.heap.Ns b m->(s9 s.heap H).Ns b m:=λ{b m} ⟨o,es,ep,e,d,r⟩=>⟨o,es,ep,oa e (nodic e d),d,r⟩
 have hKb:K.In (s9 s.heap H):=λb o' e=>oa (kx b o' e) (by
  cases q:H b with
  | none=>rfl
  | some u=>
    rcases Hof b u q with⟨z,_⟩ | ⟨z,z2,_⟩
    ·rw[(tab b z).2.1]at e;cases e
    ·rw[z,z2]at e;cases e)
 have hok:HOk P w H s.heap:=λb u e=>by
  rcases Hof b u e with⟨z,rfl⟩ | ⟨rfl,z2,rfl⟩
  ·obtain⟨_,_,c,ht⟩:=tab b z
   exact ht.2
  ·exact⟨ha,by rw[aq];exact hl,vs,_,rv,ha⟩
 have hS:SqL K H a (ns.map V.int):=by
  cases hk:K.lookup a with
  | some o'=>
    have e:=kx a o' hk
    rw[ha]at e
    cases e
    exact .inr ⟨_,vs.toArray,_,hk,rfl,rfl,rfl,by rw[aA,lenV];exact hl,by simpa using rv⟩
  | none=>exact .inl (.inr ⟨o,by show xJ K tabs a o (ns.map V.int) a=_;unfold xJ;rw[if_neg anot,if_pos ⟨rfl,hk⟩]⟩)
 have hM:Mod K mg (s9 s.heap H):=⟨hKb,nsK hns,⟨mb,nsK hb,hbb⟩,let ⟨mc,h1,h2⟩:=hlim;⟨mc,nsK h1,h2⟩⟩
 have e0:A5 P w K mg (s9 s.heap H) callerA [] s H:=⟨rfl,hM,λb o e=>Ah e,nk (uj _ _),trivial,λb hb=>absurd (show b∈([]:List Addr) from hb) (by simp),hok,.of_eq hg⟩
 have hBb:gR mg (s9 s.heap H):=by
  obtain⟨bm,ob,e1,e2,e3,e4,e5,e6⟩:=hbm
  refine⟨bm,ob,e1,e2,oa e3 ?_,e4,e5,e6⟩
  cases q:H bm with
  | none=>rfl
  | some u=>
    rcases Hof bm u q with⟨z,_⟩ | ⟨z,_⟩
    ·obtain⟨_,_,c,ht⟩:=tab bm z
     have e:=ht.2
     rw[e3]at e;cases e;cases e6
    ·rw[z,ha]at e3;cases e3;cases e6
 have hTR: ∀r∈tabs,yN H r.1 r.2:=λr hr=>⟨#[],(tab r.1 (aI.mpr ⟨r,hr,rfl⟩)).1,trivial,λpos cv h=>by cases h⟩
 refine kD ((F _ hKb (nsK hns) hBb).run callerA [] s H ⟨[.ref a],[]⟩ [.ref a] [.ref a] _ _ hr e0 (hbind s (.ref a)) (.cons rfl .nil) (hsp H hTR hS)) λr s' h =>?_
 cases r with
 | error e=>exact h.elim
 | ok fl=>
   cases fl with
   | next=>exact di h
   | brk=>exact di h
   | cont=>exact di h
   | ret u=>
     obtain⟨v,H',os,bare,un,hok',r',q⟩:=h
     have q':v = .bl true:=q
     subst q'
     obtain rfl:u=xU true:=r'
     refine⟨rfl,⟨λb o' e =>?_,λb o' e=>un.there b o' e (by simp)⟩,os,bare⟩
     cases q:H b with
     | none=>exact .inl (un.keep b o' e q (by intro z;exact absurd (show b∈([]:List Addr) from z) (by simp)) (by simp))
     | some u=>
       rcases Hof b u q with⟨z,rfl⟩ | ⟨rfl,_,rfl⟩
       ·obtain⟨_,_,c,ht⟩:=tab b z
        obtain⟨more,e2⟩:=un.tbls b #[] q
        have e3:s'.heap.get? b=some { cls:= .none,data:= .fields (#[]++more) }:=hok' b _ e2
        have e4:=ht.2
        rw[e]at e4
        cases e4
        exact .inr (.inl ⟨ht.isCodeTable,rfl,#[],more,rfl,e3⟩)
       ·obtain⟨e2,_⟩:=hok' b _ (un.frzs b _ _ q)
        rw[ha]at e
        cases e
        exact .inl e2
end
theorem DS{l:lW}{n k:Nat}{q:Program}{loose:List Str}{XP:(Str->Option Value)->Heap->Prop}{YP:World->Heap->Prop}{d:DefRec}{K:Params->aj}{x:Str}
  (hn:l.most=some n) (hn2:n<=sizeLine) (hdf:d.params.defaults = []) (hr:jO k callerA) (hY: ∀(w:World) (h:Heap),YP w h->(K w.params).In h)
  (F: ∀(w:World) (mg:Str->Option Value) (fa:Addr) (h:Heap),(K w.params).In h->h.Ns mainGlobals mg->mg d.name=some (.ref fa) -> ∃(tabs:List (Addr×Str)) (fd:FuncData) (sp:Sp),
   (∀r∈tabs,(K w.params).lookup r.1=none /\ ∃x d c,(recsOf q).find? (λe=>e.name==x)=some d/\tabIn (K w.params) x=some (c,r.1)) /\
   (∀(s:Shared) (u:Value),BindsTo s fd ⟨[u],[]⟩ [(x,u)])/\(∀base:Heap,(K w.params).In base->base.Ns mainGlobals mg->gR mg base->jW l.prog w (K w.params) mg base CX0 k fa fd [x] sp) /\
   ∀(H:Hp) (a:Addr) (ns:List Int),ns.length<=n->(∀r∈tabs,yN H r.1 r.2)->SqL (K w.params) H a (ns.map V.int)->sp [.ref a] H (λv _=>v = .bl true) λ_ _ _=>False):
  PySem.W.WalkO q loose XP YP l.row.toRowW d [] (λf vs=>PySem.call f vs):=by
 refine Att.attach_call hn hdf λw s₀ s₁ mg mb fa o pm cd doc a vs ns G Y ho hd hcd hmg hobj hints hlen hg =>?_
 have kx:=hY w _ Y
 obtain⟨tabs,fd,sp,hT,hb,hF,hsp⟩:=F w mg fa _ kx G.T.g hmg
 refine FN (tabs:=tabs) kx G.T.g G.T.b G.T.builtins G.T.nolimit G.T.bmain hg hobj hints (aM hlen hn2) hr (λr hr =>?_) hF hb λH h1 h2=>hsp H a ns hlen h1 h2
 obtain⟨h1,x',d',c,h2,h3⟩:=hT r hr
 obtain⟨h4,h5⟩:=PySem.W.tab_of G.T kx h2 h3
 exact⟨h1,c,h4.tab h5⟩
end _G
end
section
namespace _G
open PySem PySem.Spec _L
theorem usC{p:List Value->Prop}{n:Nat}(h: ∀a us,us.length=n->p (a::us)): ∀us:List Value,us.length=n+1->p us:=λus hl=>by
 cases us with
 | nil=>cases hl
 | cons a us=>exact h a us (yf hl)
theorem us0{p:List Value->Prop}(h:p []): ∀us:List Value,us.length=0->p us
 | [],_=>h
theorem us1{p:List Value->Prop}(h: ∀a,p [a]): ∀us:List Value,us.length=1->p us:=usC λa us hl=>cD hl▸h a
theorem us2{p:List Value->Prop}(h: ∀a b,p [a,b]): ∀us:List Value,us.length=2->p us:=usC λa=>us1 (h a)
theorem us3{p:List Value->Prop}(h: ∀a b c,p [a,b,c]): ∀us:List Value,us.length=3->p us:=usC λa=>us2 (h a)
theorem TOk.nm{M:Mo}{T:Tb}{k:Nat}(h:TOk M T k)(x:Str):TOk M ⟨T.D,T.C,[],T.H,false,T.Z.to x⟩ k:=⟨h.D,h.C,h.B,λ_ _ e=>(by cases e),λz=>(by cases z),h.Z⟩
noncomputable def Bd(x:Str)(st:Stmt)(ps:List Str):Prop:= ∀(kV doc pm:Value) (an:Option Addr) (cdv ct:Value) (us:List Value),us.length=ps.length->bindArgs (cU x x (fk st) (bq st) (aE st) .none kV doc pm an cdv ct) ⟨us,[]⟩=pure (ps.zip us)
structure Ch(P:Program)(w:World)(K:aj)(mg:Str->Option Value)(tabs:List (Addr×Str))(T:Tb)(k:Nat):Prop where
 o: ∀(caps:List U) (capv:List V) (cds:List (Addr×Obj)) (base:Heap),gR mg base->TOk ⟨P,w,⟨K,caps,capv,cds,tabs⟩,mg,base,none⟩ T k
 h: ∀(caps:List U) (capv:List V) (cds:List (Addr×Obj)) (base:Heap),gR mg base -> ∀y F,T.H.lookup y=some F -> ∃k' ps,k'<=k/\FnC ⟨P,w,⟨K,caps,capv,cds,tabs⟩,mg,base,none⟩ y k' ps F
 r: ∀(caps:List U) (capv:List V) (cds:List (Addr×Obj)) (base:Heap),gR mg base -> ∀y rz,T.Z.F.lookup y=some rz -> ∃k',k'<=k/\FnR ⟨P,w,⟨K,caps,capv,cds,tabs⟩,mg,base,none⟩ T.Z.cl y k' rz
theorem uU{M:Mo}{Fs:List (Str×List Nat)}{cl:Nat->Addr}{j k:Nat}(h: ∀y rz,Fs.lookup y=some rz -> ∃k',k'<=j/\FnR M cl y k' rz)(hj:j<=k): ∀y rz,Fs.lookup y=some rz -> ∃k',k'<=k/\FnR M cl y k' rz:=λy rz hy=>
 let ⟨k',a,b⟩:=h y rz hy;⟨k',aM a hj,b⟩
section
variable {P:Program}{w:World}{K:aj}{mg:Str->Option Value}{tabs:List (Addr×Str)}{T T':Tb}{k j:Nat}{h:Heap}{x:Str}{st:Stmt}{N ps:List Str}{ms:MS}{fu:Nat}
theorem Ch.dfn(c:Ch P w K mg tabs T k)(O: ∀(caps:List U) (capv:List V) (cds:List (Addr×Obj)) (base:Heap),gR mg base->TOk ⟨P,w,⟨K,caps,capv,cds,tabs⟩,mg,base,none⟩ T' k)(h1:T'.mkr=false)(X:K.In h)(Gn:h.Ns mainGlobals mg)(D:Def K x st)(S:bL N ps (aE st))(hb:Bd x st ps)
  (hc:cB T' fu N (aE st).names (bq st)=some ms):Ch P w K mg tabs ⟨(x,run ps.length N.length ms)::T.D,T.C,T.L,T.H,T.mkr,T.Z⟩ (k+1):=
 ⟨λa b d e f=>(c.o a b d e f).cons (D.fn (M:=⟨P,w,⟨K,a,b,d,tabs⟩,mg,e,none⟩) (O a b d e f) rfl h1 X Gn S hb hc) (dD k),λa b d e f=>qx (c.h a b d e f) (dD k),λa b d e f=>uU (c.r a b d e f) (dD k)⟩
theorem Ch.cls{y:Str}{msC:Addr->MF->MS}(c:Ch P w K mg tabs T k)(h1:T.mkr=false)(hL:T.L = [])(X:K.In h)(Gn:h.Ns mainGlobals mg)(D:Def K x st)(S:bL N ps (aE st))(hb:Bd x st ps)
  (hc: ∀g φ,cB ⟨T.D,T.C,[(y,g,φ)],T.H,T.mkr,T.Z⟩ fu N (aE st).names (bq st)=some (msC g φ)):Ch P w K mg tabs ⟨T.D,T.C,T.L,(x,λg φ=>run ps.length N.length (msC g φ))::T.H,T.mkr,T.Z⟩ k:=
 ⟨λa b d e f=>(c.o a b d e f).setH,λa b d e f=>F8 (c.h a b d e f) (D.fnC (M:=⟨P,w,⟨K,a,b,d,tabs⟩,mg,e,none⟩) c.o h1 hL X Gn S hb hc) (ah k) (ah k),c.r⟩
theorem Ch.lam_ {a p:Addr}{nm:Str} (c:Ch P w K mg tabs T k) (h1:T.mkr=false) (hL:T.L = []) (hm:(p,x++".<locals>."++nm)∈tabs) (nd:(tabs.map (·.1)).Nodup) (hg:mainGlobals≠p) (X:K.In h) (Gn:h.Ns mainGlobals mg) (D:pV K x st a p) (S:bL N ps (aE st)) (hb:Bd x st ps)
  (hc:cB ⟨T.D,T.C,T.L,T.H,true,T.Z.to nm⟩ fu N (aE st).names (bq st)=some ms):Ch P w K mg tabs ⟨(x,run ps.length N.length ms)::T.D,T.C,T.L,T.H,T.mkr,T.Z⟩ (k+3):=
 ⟨λa b d e f=>(c.o a b d e f).cons (D.fn (M:=⟨P,w,⟨K,a,b,d,tabs⟩,mg,e,none⟩) rfl c.o (c.o a b d e f) hL h1 (qx (c.h a b d e f) (dD k)) (uU (c.r a b d e f) (dD k)) (D.mkr (M:=⟨P,w,⟨K,a,b,d,tabs⟩,mg,e,none⟩) f X Gn hm nd hg) X Gn S hb hc) (dX k 3),λa b d e f=>qx (c.h a b d e f) (dX k 3),λa b d e f=>uU (c.r a b d e f) (dX k 3)⟩
end
end _G
end
section
namespace _W
open PySem PySem.Spec _L _G
section
noncomputable def gh:MS:=br (sIf (cOf (m2 oLt (ae 1) (mFn cN (aa (ae 0) ak)))) (eg (m2 oIx (ae 0) (ae 1))) eC) (eg (mC (.int 0)))
noncomputable def iy:MF:=run 2 2 gh
noncomputable def jw:MS:=br (bJ 2 (mFn iy (aa (ae 0) (aa (ae 1) ak)))) (br (sIf (cOf (m2 oGe (ae 2) (m2 nQ (mC (.int 10)) (mC (.int 18))))) (eg (dn (aa (m2 mR (ae 2) (m2 nQ (mC (.int 10)) (mC (.int 18)))) (aa (mC (.bl true)) ak)))) eC) (eg (dn (aa (m2 oMod (ae 2) (mC (.int 2147483647))) (aa (mC (.bl false)) ak)))))
noncomputable def jC:MF:=run 2 3 jw
noncomputable def kf:MS:=br (sIf (cOf (m2 oIx (ae 0) (mC (.int 1)))) (br (bJ 2 (m2 oMod (m2 oIx (ae 0) (mC (.int 0))) (ae 1))) (br (eA (ae 0) (mC (.int 0)) (m2 oDiv (m2 oIx (ae 0) (mC (.int 0))) (ae 1))) (eg (ae 2)))) eC) (br (eA (ae 0) (mC (.int 0)) (m2 oMod (m2 cP (m2 gI (m2 oIx (ae 0) (mC (.int 0))) (mC (.int 48271))) (mC (.int 29))) (mC (.int 2147483647)))) (br (bJ 3 (m2 oMod (m2 cP (m2 cP (m2 gI (m2 oIx (ae 0) (mC (.int 0))) (m2 oIx (ae 0) (mC (.int 0)))) (m2 gI (mC (.int 39373)) (m2 oIx (ae 0) (mC (.int 0))))) (mC (.int 7))) (mC (.int 2147483629)))) (br (bJ 3 (m2 oMod (m2 cP (m2 gI (ae 3) (ae 3)) (m2 gI (mC (.int 16807)) (ae 3))) (mC (.int 2147483587)))) (eg (m2 oMod (m2 oDiv (ae 3) (mC (.int 8))) (ae 1))))))
noncomputable def bf:MF:=run 2 4 kf
noncomputable def lD:MS:=eg (mFn cy (aa (ck (iR1 (aa (ae 0) ak)) cTT (mFn cy (aa (ck (iR1 (aa (ae 0) ak)) cTT (m2 oMod (m2 cP (ae 1) (ae 2)) (ae 0))) ak))) ak))
noncomputable def dm:MF:=run 1 1 lD
noncomputable def lF:MS:=br (bJ 1 (dn ak)) (br (eX 2 (iR1 (aa (m2 gI (mC (.int 2)) (ae 0)) ak)) (br (bJ 3 (dn ak)) (br (eX 4 (iR1 (aa (m2 gI (mC (.int 2)) (ae 0)) ak)) (br (bJ 5 (m2 oMod (m2 cP (m2 oMod (ae 2) (ae 0)) (m2 gI (m2 oIx (dn (aa (mC (.int 1)) (aa (m1 pR (mC (.int 1))) ak))) (m2 oDiv (ae 2) (ae 0))) (m2 oMod (ae 4) (ae 0)))) (ae 0))) (dN (mML du (ae 3) (aa (m2 cP (ae 5) (m2 gI (ae 0) (m2 oMod (m2 cP (m2 oDiv (ae 2) (ae 0)) (m2 oDiv (ae 4) (ae 0))) (mC (.int 2))))) ak))))) (dN (mML du (ae 1) (aa (mFn cy (aa (ae 3) ak)) ak)))))) (eg (mFn cy (aa (ae 1) ak))))
noncomputable def fC:MF:=run 1 6 lF
noncomputable def jH:MS:=br (bJ 0 (dn (aa (dn (aa (mC (.int 0)) (aa (mC (.int 0)) (aa (mC (.int 0)) (aa (mC (.int 0)) ak))))) (aa (dn (aa (mC (.int 0)) (aa (mC (.int 1)) (aa (mC (.int 0)) (aa (mC (.int 1)) ak))))) (aa (dn (aa (mC (.int 0)) (aa (mC (.int 1)) (aa (mC (.int 1)) (aa (mC (.int 0)) ak))))) (aa (dn (aa (mC (.int 0)) (aa (mC (.int 0)) (aa (mC (.int 1)) (aa (mC (.int 1)) ak))))) ak)))))) (br (bJ 1 (dn (aa (dn (aa (mC (.int 0)) (aa (mC (.int 1)) (aa (mC (.int 2)) (aa (mC (.int 3)) ak))))) (aa (dn (aa (mC (.int 1)) (aa (mC (.int 0)) (aa (mC (.int 3)) (aa (mC (.int 2)) ak))))) (aa (dn (aa (mC (.int 2)) (aa (mC (.int 3)) (aa (mC (.int 0)) (aa (mC (.int 1)) ak))))) (aa (dn (aa (mC (.int 3)) (aa (mC (.int 2)) (aa (mC (.int 1)) (aa (mC (.int 0)) ak))))) ak)))))) (br (bJ 2 (dn ak)) (br (eX 3 (iR1 (aa (mC (.int 8)) ak)) (br (bJ 4 (dn ak)) (br (eX 5 (iR1 (aa (mC (.int 8)) ak)) (br (bJ 6 (m2 oMod (m2 cP (m2 cP (ae 3) (ae 5)) (m2 oIx (m2 oIx (ae 0) (m2 oDiv (ae 3) (mC (.int 2)))) (m2 oDiv (ae 5) (mC (.int 2))))) (mC (.int 2)))) (dN (mML du (ae 4) (aa (m2 cP (m2 gI (mC (.int 2)) (m2 oIx (m2 oIx (ae 1) (m2 oDiv (ae 3) (mC (.int 2)))) (m2 oDiv (ae 5) (mC (.int 2))))) (ae 6)) ak))))) (dN (mML du (ae 2) (aa (mFn cy (aa (ae 4) ak)) ak)))))) (eg (mFn cy (aa (ae 2) ak))))))
noncomputable def gg:MF:=run 0 7 jH
noncomputable def m6:MS:=br (bJ 2 (mFn cN (aa (ae 1) ak))) (br (bJ 3 (dn ak)) (br (eX 4 (iR1 (aa (m2 gI (mFn cN (aa (ae 0) ak)) (ae 2)) ak)) (br (bJ 5 (dn ak)) (br (eX 6 (iR1 (aa (m2 gI (mFn cN (aa (ae 0) ak)) (ae 2)) ak)) (br (bJ 7 (m2 oIx (m2 oIx (ae 0) (m2 oDiv (ae 4) (ae 2))) (m2 oDiv (ae 6) (ae 2)))) (dN (mML du (ae 5) (aa (m2 cP (m2 gI (ae 7) (ae 2)) (m2 oIx (m2 oIx (ae 1) (m2 oMod (ae 4) (ae 2))) (m2 oMod (ae 6) (ae 2)))) ak))))) (dN (mML du (ae 3) (aa (mFn cy (aa (ae 5) ak)) ak)))))) (eg (mFn cy (aa (ae 3) ak)))))
noncomputable def j5:MF:=run 2 8 m6
noncomputable def kQ:MS:=eg (mFn cy (aa (ck (cu (ae 1)) cTT (mFn cy (aa (ck (cu (ae 1)) cTT (mMT iz (ae 1) (aa (m2 oIx (m2 oIx (ae 0) (ae 2)) (ae 3)) ak))) ak))) ak))
noncomputable def jv:MF:=run 2 2 kQ
noncomputable def lz:MS:=br (bJ 2 (kh (iR2 (aa (mC (.int 1)) (aa (ae 1) ak))))) (eg (m2 cP (cX (aa (mC (.int 0)) ak)) (mFn cy (aa (ck (iR1 (aa (m2 mR (ae 1) (mC (.int 1))) ak)) cTT (mML ke (ae 2) (aa (mFn bf (aa (ae 0) (aa (mFn cN (aa (ae 2) ak)) ak))) ak))) ak))))
noncomputable def jB:MF:=run 2 3 lz
noncomputable def lr:MS:=br (bJ 2 (mFn bf (aa (ae 0) (aa (mC (.int 8)) ak)))) (br (bJ 3 (mFn dm (aa (m2 cP (mC (.int 1)) (mFn bf (aa (ae 0) (aa (ae 1) ak)))) ak))) (br (sIf (cOr (cOf (m2 oEq (ae 2) (mC (.int 1)))) (cOf (m2 oEq (ae 2) (mC (.int 2))))) (bJ 3 (mFn fC (aa (m2 cP (mC (.int 1)) (mFn bf (aa (ae 0) (aa (m2 oDiv (ae 1) (mC (.int 2))) ak)))) ak))) eC) (br (sIf (tH (cOf (m2 oEq (ae 2) (mC (.int 3)))) (cOf (m2 oGt (ae 1) (mC (.int 7))))) (bJ 3 (mFn gg ak)) eC) (br (sIf (cOf (m2 oGt (ae 2) (mC (.int 3)))) (br (bJ 4 (m2 cP (mC (.int 2)) (mFn bf (aa (ae 0) (aa (mC (.int 3)) ak))))) (br (bJ 5 (m2 oIx (dn (aa (mFn dm (aa (ae 4) ak)) (aa (mFn fC (aa (ae 4) ak)) ak))) (mFn bf (aa (ae 0) (aa (mC (.int 2)) ak))))) (br (sIf (cOf (m2 oGt (mFn cN (aa (ae 5) ak)) (ae 1))) (bJ 5 (mFn dm (aa (ae 4) ak))) eC) (bJ 3 (mFn j5 (aa (ae 5) (aa (mFn dm (aa (m2 cP (mC (.int 1)) (mFn bf (aa (ae 0) (aa (m2 oDiv (ae 1) (mFn cN (aa (ae 5) ak))) ak)))) ak)) ak))))))) eC) (br (sIf (cOf (m2 oEq (mFn bf (aa (ae 0) (aa (mC (.int 3)) ak))) (mC (.int 0)))) (bJ 3 (mFn jv (aa (ae 3) (aa (mFn jB (aa (ae 0) (aa (mFn cN (aa (ae 3) ak)) ak))) ak)))) eC) (eg (ae 3)))))))
noncomputable def kR:MF:=run 2 6 lr
end
end _W
end
section
namespace _W
structure Grp(m:Nat)(T:Nat->Nat->Nat):Prop where
 pos:0<m
 cl: ∀i j,i<m->j<m->T i j<m
 l0: ∀i,i<m->T 0 i=i
 r0: ∀i,i<m->T i 0=i
 inv: ∀i,i<m -> ∃j,j<m/\T i j=0/\T j i=0
 as: ∀i j k,i<m->j<m->k<m->T (T i j) k=T i (T j k)
noncomputable def eW(n:Nat):Nat->Nat->Nat:=λi j=>(i+j) % n
theorem jM{n:Nat}(h:0<n):Grp n (eW n) where
 pos:=h
 cl:=λi j _ _=>nq _ h
 l0:=λi hi=>by unfold eW;rw[d5];exact bE hi
 r0:=λi hi=>by unfold eW;rw[nr];exact bE hi
 inv:=λi hi=>by
  by_cases h0:i=0
  ·subst h0;exact⟨0,h,by simp[eW],by simp[eW]⟩
  ·refine⟨n - i,by omega,?_,?_⟩ <;> unfold eW
   ·rw[show i+(n - i)=n by omega,nu]
   ·rw[show n - i+i=n by omega,nu]
 as:=λi j k _ _ _=>by
  unfold eW
  rw[ny,Nat.add_mod_mod,eZ]
noncomputable def gE(n:Nat):Nat->Nat->Nat:=λi j=>
 (if i<n then(i % n+j % n) % n else(i % n+(n - j % n)) % n)+n*((i / n+j / n) % 2)
theorem half{n i:Nat}(h:i<2*n):(i<n/\i % n=i/\i / n=0)\/(n<=i/\i % n=i - n/\i / n=1):=by
 by_cases hi:i<n
 ·exact .inl ⟨hi,bE hi,gM hi⟩
 ·refine .inr ⟨by omega,?_,?_⟩
  ·rw[Nat.mod_eq_sub_mod (by omega),bE (by omega)]
  ·exact Nat.div_eq_of_lt_le (by omega) (by omega)
theorem eU{n a b:Nat}(ha:a<n)(hb:b<n):gE n a b=(a+b) % n:=by
 unfold gE
 rw[if_pos ha,bE ha,bE hb,gM ha,gM hb];simp
theorem HF{n a:Nat}(ha:a<n):(n+a) / n=1:=Nat.div_eq_of_lt_le (by omega) (by omega)
theorem FJ{n a:Nat}(ha:a<n):(n+a) % n=a:=by rw[Nat.add_mod_left];exact bE ha
theorem ix{n a b:Nat}(ha:a<n)(hb:b<n):gE n a (n+b)=n+(a+b) % n:=by
 unfold gE
 rw[if_pos ha,bE ha,FJ hb,gM ha,HF hb];simp;omega
theorem iA{n a b:Nat}(ha:a<n)(hb:b<n):gE n (n+a) b=n+(a+(n - b)) % n:=by
 unfold gE
 rw[if_neg (by omega),FJ ha,bE hb,gM hb,HF ha];simp;omega
theorem iB{n a b:Nat}(ha:a<n)(hb:b<n):gE n (n+a) (n+b)=(a+(n - b)) % n:=by
 unfold gE
 rw[if_neg (by omega),FJ ha,FJ hb,HF ha,HF hb];simp
theorem Oy{n a b:Nat}(ha:a<n)(hb:b<n):(a+b) % n=if a+b<n then a+b else a+b - n:=by
 split
 ·exact bE (by assumption)
 ·rw[Nat.mod_eq_sub_mod (by omega),bE (by omega)]
theorem Ol{n a b:Nat}(ha:a<n)(hb:b<n):(a+(n - b)) % n=if b<=a then a - b else a+n - b:=by
 have e:=Nat.add_sub_assoc (aU hb) a
 split
 ·rename_i h
  rw[<- e,mv h,kJ,bE (aL (nv a b) ha)]
 ·rename_i h
  rw[bE (Nat.lt_of_lt_of_eq (Nat.add_lt_add_right (Nat.lt_of_not_le h) (n - b)) (Nat.add_sub_cancel' (aU hb))),e]
theorem kP{n i:Nat}(h:i<2*n):(i<n) \/ ∃a,a<n/\i=n+a:=by
 by_cases hi:i<n
 ·exact .inl hi
 ·exact .inr ⟨i - n,by omega,by omega⟩
theorem GS{n a b c:Nat}:((a+b) % n+c) % n=(a+(b+c) % n) % n:=by rw[ny,Nat.add_mod_mod,eZ]
theorem MO{n a b c:Nat}(hb:b<n)(hc:c<n):((a+(n - b)) % n+(n - c)) % n=(a+(n - (b+c) % n)) % n:=by
 rw[ny,Oy hb hc]
 split
 ·rename_i h
  have h1:n - b=n - (b+c)+c:=by rw[Nat.sub_add_eq,sk (Nat.le_sub_of_add_le' (aU h))]
  rw[h1,<- eZ,eZ _ c,Nat.add_sub_cancel' (aU hc),kJ]
 ·rename_i h
  rw[<- kK b (aU hc),kK n (Nat.sub_le_of_le_add (bC h)),mv (aU hb),eZ]
theorem MN{n a b c:Nat}(hb:b<n)(hc:c<n):((a+(n - b)) % n+c) % n=(a+(n - (b+(n - c)) % n)) % n:=by
 rw[ny,Ol hb hc]
 split
 ·rename_i h
  rw[kK n h,mv (aU hb),eZ]
 ·rename_i h
  have h':=aU (Nat.lt_of_not_le h)
  rw[tP b n,<- kK n h',Nat.sub_sub_self (aM (nv c b) (aU hc)),<- kJ (a+(c - b)) n,eZ a (c - b) n,tP (c - b) n,<- Nat.add_sub_assoc h' n,mv (aU hb),eZ]
theorem xi{n:Nat}(h:0<n):Grp (2*n) (gE n):=by
 have ml: ∀x,x % n<n:=λx=>nq _ h
 have cl: ∀i j,i<2*n->j<2*n->gE n i j<2*n:=λi j hi hj=>by
  rcases kP hi with hi | ⟨a,ha,rfl⟩ <;> rcases kP hj with hj | ⟨b,hb,rfl⟩
  ·rw[eU hi hj];have:=ml (i+j);omega
  ·rw[ix hi hb];have:=ml (i+b);omega
  ·rw[iA ha hj];have:=ml (a+(n - j));omega
  ·rw[iB ha hb];have:=ml (a+(n - b));omega
 refine⟨by omega,cl,λi hi =>?_,λi hi =>?_,λi hi =>?_,λi j k hi hj hk =>?_⟩
 ·rcases kP hi with hi | ⟨a,ha,rfl⟩
  ·rw[eU h hi,d5,bE hi]
  ·rw[ix h ha,d5,bE ha]
 ·rcases kP hi with hi | ⟨a,ha,rfl⟩
  ·rw[eU hi h,nr,bE hi]
  ·rw[iA ha h,Nat.sub_zero,kJ,bE ha]
 ·rcases kP hi with hi | ⟨a,ha,rfl⟩
  ·by_cases h0:i=0
   ·subst h0;exact⟨0,by omega,by rw[eU h h];simp,by rw[eU h h];simp⟩
   ·have hl:n - i<n:=by omega
    refine⟨n - i,by omega,?_,?_⟩
    ·rw[eU hi hl,show i+(n - i)=n by omega,nu]
    ·rw[eU hl hi,show n - i+i=n by omega,nu]
  ·refine⟨n+a,by omega,?_,?_⟩ <;> rw[iB ha ha,show a+(n - a)=n by omega,nu]
 ·rcases kP hi with hi | ⟨a,ha,rfl⟩ <;> rcases kP hj with hj | ⟨b,hb,rfl⟩ <;> rcases kP hk with hk | ⟨c,hc,rfl⟩
  ·rw[eU hi hj,eU hj hk,eU (ml _) hk,eU hi (ml _),GS]
  ·rw[eU hi hj,ix hj hc,ix (ml _) hc,ix hi (ml _),GS]
  ·rw[ix hi hb,iA hb hk,iA (ml _) hk,ix hi (ml _),GS]
  ·rw[ix hi hb,iB hb hc,iB (ml _) hc,eU hi (ml _),GS]
  ·rw[iA ha hj,eU hj hk,iA (ml _) hk,iA ha (ml _),MO hj hk]
  ·rw[iA ha hj,ix hj hc,iB (ml _) hc,iB ha (ml _),MO hj hc]
  ·rw[iB ha hb,iA hb hk,eU (ml _) hk,iB ha (ml _),MN hb hk]
  ·rw[iB ha hb,iB hb hc,ix (ml _) hc,iA ha (ml _),MN hb hc]
noncomputable def n9(m:Nat)(A B:Nat->Nat->Nat):Nat->Nat->Nat:=λi j=>A (i / m) (j / m)*m+B (i % m) (j % m)
theorem yH{m a b:Nat}(hb:b<m):(a*m+b) / m=a/\(a*m+b) % m=b:=by
 have hm:0<m:=by omega
 constructor
 ·rw[j0,Nat.mul_add_div hm,gM hb];rfl
 ·rw[j0,Nat.mul_add_mod,bE hb]
theorem EA{k m:Nat}{A B:Nat->Nat->Nat}(ga:Grp k A)(gb:Grp m B):Grp (k*m) (n9 m A B):=by
 have hm:=gb.pos
 have dl: ∀i,i<k*m->i / m<k:=λi hi=>Nat.div_lt_of_lt_mul (by rw[j0];exact hi)
 have rl: ∀i,i % m<m:=λi=>nq _ hm
 have lt: ∀a b,a<k->b<m->a*m+b<k*m:=λa b ha hb=>by
  have:(a+1)*m<=k*m:=dE m ha
  rw[Nat.add_mul]at this;omega
 refine⟨Nat.mul_pos ga.pos hm,λi j hi hj=>lt _ _ (ga.cl _ _ (dl i hi) (dl j hj)) (gb.cl _ _ (rl i) (rl j)),λi hi =>?_,λi hi =>?_,λi hi =>?_,λi j l hi hj hl =>?_⟩
 ·unfold n9;rw[Nat.zero_div,Nat.zero_mod,ga.l0 _ (dl i hi),gb.l0 _ (rl i),j0];exact yb i m
 ·unfold n9;rw[Nat.zero_div,Nat.zero_mod,ga.r0 _ (dl i hi),gb.r0 _ (rl i),j0];exact yb i m
 ·obtain⟨a,ha,a1,a2⟩:=ga.inv _ (dl i hi)
  obtain⟨b,hb,b1,b2⟩:=gb.inv _ (rl i)
  obtain⟨p1,p2⟩:=yH (a:=a) hb
  refine⟨a*m+b,lt a b ha hb,?_,?_⟩ <;> unfold n9 <;> rw[p1,p2]
  ·rw[a1,b1];simp
  ·rw[a2,b2];simp
 ·unfold n9
  obtain⟨p1,p2⟩:=yH (a:=A (i / m) (j / m)) (gb.cl _ _ (rl i) (rl j))
  obtain⟨q1,q2⟩:=yH (a:=A (j / m) (l / m)) (gb.cl _ _ (rl j) (rl l))
  rw[p1,p2,q1,q2,ga.as _ _ _ (dl i hi) (dl j hj) (dl l hl),gb.as _ _ _ (rl i) (rl j) (rl l)]
noncomputable def Og:List (List Nat):= [[0,1,2,3,4,5,6,7],[1,0,3,2,5,4,7,6],[2,3,1,0,6,7,5,4],[3,2,0,1,7,6,4,5],[4,5,7,6,1,0,2,3],[5,4,6,7,0,1,3,2],[6,7,4,5,3,2,1,0],[7,6,5,4,2,3,0,1]]
noncomputable def fX:Nat->Nat->Nat:=λi j=>(Og.getD i []).getD j 0
noncomputable def q1:Bool:=(aB 8).all λi=>(fX 0 i==i)&&(fX i 0==i)&&((aB 8).any λj=>(fX i j==0)&&(fX j i==0))&&(aB 8).all λj=>decide (fX i j<8)&&(aB 8).all λk=>fX (fX i j) k==fX i (fX j k)
theorem M8:q1=true:=by decide +kernel
theorem AV:Grp 8 fX:=by
 have h:=cR.mp M8
 have g: ∀i,i<8->_:=λi hi=>h i (aN.mpr hi)
 simp only[ay,cR,fg,aN,beq_iff_eq,decide_eq_true_eq]at g
 refine⟨by decide,λi j hi hj=>((g i hi).2 j hj).1,λi hi=>(g i hi).1.1.1,λi hi=>(g i hi).1.1.2,λi hi =>?_,λi j k hi hj hk=>((g i hi).2 j hj).2 k hk⟩
 obtain⟨j,hj,a,b⟩:=(g i hi).1.2
 exact⟨j,hj,a,b⟩
structure Ord(m:Nat)(o p:Nat->Nat):Prop where
 ol: ∀i,i<m->o i<m
 pl: ∀i,i<m->p i<m
 po: ∀i,i<m->p (o i)=i
 op: ∀i,i<m->o (p i)=i
 o0:o 0=0
noncomputable def kX(T:Nat->Nat->Nat)(o p:Nat->Nat):Nat->Nat->Nat:=λi j=>p (T (o i) (o j))
theorem Bq{m:Nat}{T:Nat->Nat->Nat}{o p:Nat->Nat}(g:Grp m T)(h:Ord m o p):Grp m (kX T o p):=by
 have p0:p 0=0:=by have:=h.po 0 g.pos;rwa[h.o0]at this
 refine⟨g.pos,λi j hi hj=>h.pl _ (g.cl _ _ (h.ol i hi) (h.ol j hj)),λi hi =>?_,λi hi =>?_,λi hi =>?_,λi j k hi hj hk =>?_⟩
 ·unfold kX;rw[h.o0,g.l0 _ (h.ol i hi),h.po i hi]
 ·unfold kX;rw[h.o0,g.r0 _ (h.ol i hi),h.po i hi]
 ·obtain⟨j,hj,a,b⟩:=g.inv _ (h.ol i hi)
  refine⟨p j,h.pl j hj,?_,?_⟩ <;> unfold kX <;> rw[h.op j hj]
  ·rw[a,p0]
  ·rw[b,p0]
 ·unfold kX
  rw[h.op _ (g.cl _ _ (h.ol i hi) (h.ol j hj)),h.op _ (g.cl _ _ (h.ol j hj) (h.ol k hk)),g.as _ _ _ (h.ol i hi) (h.ol j hj) (h.ol k hk)]
end _W
end
section
namespace _W
theorem qH{α:Type}: ∀(l:List α) (i:Nat) (h:i<l.length),(l[i]::l.eraseIdx i).Perm l
 | x::l,0,_=>by simp
 | x::l,i+1,h=>by
   have h':i<l.length:=by simpa using h
   have:=qH l i h'
   simp only[List.getElem_cons_succ,BP]
   exact(List.Perm.swap _ _ _).trans (this.cons x)
theorem Gu{l:List Nat}(nd:l.Nodup){i:Nat}(h:i<l.length):l.idxOf l[i]=i:=by
 have h1:l.idxOf l[i]<l.length:=kM.mpr (bT h)
 have h2:=List.getElem_idxOf h1
 exact(List.getElem_inj nd).mp h2
structure oK(m:Nat)(l:List Nat):Prop where
 perm:l.Perm (aB m)
 z:l[0]? = some 0
noncomputable def oF(l:List Nat):Nat->Nat:=λi=>l.getD i 0
noncomputable def pF(l:List Nat):Nat->Nat:=λx=>l.idxOf x
section
variable {m:Nat}{l:List Nat}
theorem oK.len(h:oK m l):l.length=m:=by have:=h.perm.length_eq;simpa using this
theorem oK.nd(h:oK m l):l.Nodup:=h.perm.nodup_iff.mpr uE
theorem oK.mem(h:oK m l){x:Nat}:x∈l↔x<m:=by rw[h.perm.mem_iff,aN]
theorem oK.get(h:oK m l){i:Nat}(hi:i<m):l[i]? = some (oF l i):=by
 have hl:i<l.length:=by rw[h.len];exact hi
 simp[oF,hl]
theorem oK.ord(h:oK m l):Ord m (oF l) (pF l) where
 ol:=λi hi=>h.mem.mp (bZ (h.get hi))
 pl:=λx hx=>by
  have:=kM.mpr (h.mem.mpr hx)
  rw[h.len]at this;exact this
 po:=λi hi=>by
  have hl:i<l.length:=by rw[h.len];exact hi
  have e:oF l i=l[i]:=by simp[oF,hl]
  unfold pF;rw[e];exact Gu h.nd hl
 op:=λx hx=>by
  have h1:=kM.mpr (h.mem.mpr hx)
  have h2:=List.getElem_idxOf h1
  unfold oF pF
  rw[aJ,aD h1,h2];rfl
 o0:=by
  unfold oF
  rw[aJ,h.z];rfl
end
theorem A4{m:Nat}{xs:List Nat}(hm:0<m)(h:xs.Perm (aO 1 (m - 1))):oK m (0::xs):=by
 refine⟨?_,rfl⟩
 have e:aB m=0::aO 1 (m - 1):=by
  rw[oG]
  have:m=(m - 1)+1:=by omega
  rw[this,lV]
  simp
 rw[e]
 exact h.cons 0
end _W
end
section
namespace _W
section
variable {m:Nat}{T:Nat->Nat->Nat}
theorem Grp.cancel(g:Grp m T){a b c:Nat}(ha:a<m)(hb:b<m)(hc:c<m)(h:T a b=T a c):b=c:=by
 obtain⟨i,hi,h1,h2⟩:=g.inv a ha
 have e1:T i (T a b)=b:=by rw[<- g.as i a b hi ha hb,h2,g.l0 b hb]
 have e2:T i (T a c)=c:=by rw[<- g.as i a c hi ha hc,h2,g.l0 c hc]
 rw[<- e1,<- e2,h]
theorem Grp.cancelR(g:Grp m T){a b c:Nat}(ha:a<m)(hb:b<m)(hc:c<m)(h:T b a=T c a):b=c:=by
 obtain⟨i,hi,h1,h2⟩:=g.inv a ha
 have e1:T (T b a) i=b:=by rw[g.as b a i hb ha hi,h1,g.r0 b hb]
 have e2:T (T c a) i=c:=by rw[g.as c a i hc ha hi,h1,g.r0 c hc]
 rw[<- e1,<- e2,h]
theorem Grp.inv1(g:Grp m T){i:Nat}(hi:i<m): ∃j,j<m/\T i j=0/\T j i=0 /\ ∀k,k<m->T i k=0->k=j:=by
 obtain⟨j,hj,h1,h2⟩:=g.inv i hi
 exact⟨j,hj,h1,h2,λk hk h=>g.cancel hi hk hj (h.trans h1.symm)⟩
noncomputable def pw(T:Nat->Nat->Nat)(x:Nat):Nat->Nat
 | 0=>0
 | n+1=>T (pw T x n) x
theorem iG(g:Grp m T){x:Nat}(hx:x<m): ∀n,pw T x n<m
 | 0=>g.pos
 | n+1=>g.cl _ _ (iG g hx n) hx
theorem qT(g:Grp m T){x:Nat}(hx:x<m)(a:Nat): ∀b,pw T x (a+b)=T (pw T x a) (pw T x b)
 | 0=>by show pw T x a=T (pw T x a) 0;rw[g.r0 _ (iG g hx a)]
 | b+1=>by
   show T (pw T x (a+b)) x=T (pw T x a) (T (pw T x b) x)
   rw[qT g hx a b,g.as _ _ _ (iG g hx a) (iG g hx b) hx]
theorem zj(g:Grp m T){x a b:Nat}(hx:x<m)(hab:a<=b)(h:pw T x a=pw T x b):pw T x (b - a)=0:=by
 have e:b=a+(b - a):=by omega
 rw[e,qT g hx]at h
 have e2:T (pw T x a) 0=T (pw T x a) (pw T x (b - a)):=by rw[g.r0 _ (iG g hx a)];exact h
 exact(g.cancel (iG g hx a) g.pos (iG g hx _) e2).symm
end
theorem pj: ∀(m:Nat) (l:List Nat),l.Nodup->(∀x∈l,x<m)->l.length<=m
 | 0,l,_,h=>by
   cases l with
   | nil=>simp
   | cons x l=>exact absurd (h x (by simp)) (by omega)
 | m+1,l,nd,h=>by
   have h1:=pj m (l.erase m) (nd.erase m) λx hx=>by
    have hx2:=(List.Nodup.mem_erase_iff nd).mp hx
    have:=h x hx2.2
    have:=hx2.1
    omega
   have h2:l.length<=(l.erase m).length+1:=by
    rw[List.length_erase]
    split <;> omega
   omega
theorem Dl{m:Nat}{f:Nat->Nat}(h: ∀i,i<=m->f i<m): ∃i j,i<j/\j<=m/\f i=f j:=by
 apply gc
 intro no
 have inj: ∀i j,i<j->j<=m->f i≠f j:=λi j h1 h2 e=>no ⟨i,j,h1,h2,e⟩
 have nd:((aB (m+1)).map f).Nodup:=by
  rw[aS,cx]
  refine dM ?_ (mJ (n:=m+1))
  intro a b ha hb hab
  exact inj a b hab (by have:=aN.mp hb;exact eT (by assumption))
 have:=pj m _ nd (λx hx=>by
  obtain⟨i,hi,rfl⟩:=aI.mp hx
  exact h i (by have:=aN.mp hi;exact eT (by assumption)))
 simp at this
 exact absurd (by assumption) (bF _)
theorem least{P:Nat->Prop}: ∀n,P n -> ∃k,k<=n/\P k /\ ∀j,j<k -> ¬P j:=by
 intro n
 induction n using Nat.strongRecOn with
 | ind n ih=>
   intro h
   by_cases hx: ∃j,j<n/\P j
   ·obtain⟨j,hj,hp⟩:=hx
    obtain⟨k,h1,h2,h3⟩:=ih j hj hp
    exact⟨k,by omega,h2,h3⟩
   ·exact⟨n,ah _,h,λj hj hp=>hx ⟨j,hj,hp⟩⟩
theorem Grp.ord{m:Nat}{T:Nat->Nat->Nat}(g:Grp m T){x:Nat}(hx:x<m): ∃n,1<=n/\n<=m/\pw T x n=0 /\ ∀k,1<=k->k<n->pw T x k≠0:=by
 obtain⟨a,b,h1,h2,h3⟩:=Dl (m:=m) (f:=pw T x) λi _=>iG g hx i
 have h4:=zj g hx (aU h1) h3
 obtain⟨n,k1,⟨k2,k3⟩,k4⟩:=least (P:=λn=>1<=n/\pw T x n=0) (b - a) ⟨by omega,h4⟩
 exact⟨n,k2,by omega,k3,λj j1 j2 j3=>k4 j j2 ⟨j1,j3⟩⟩
theorem idx_map{f:Nat->Nat}{x:Nat}: ∀(n s k:Nat),s<=k->k<s+n->f k=x->(∀j,s<=j->j<k->f j≠x)->((aO s n).map f).idxOf x=k - s
 | 0,s,k,h1,h2,_,_=>by omega
 | n+1,s,k,h1,h2,hp,hn=>by
   rw[lV,bg,List.idxOf_cons]
   by_cases hs:s=k
   ·subst hs;simp[hp]
   ·have hb:(f s==x)=false:=by simpa using hn s (ah _) (by exact fJ (by assumption) (by assumption))
    rw[hb]
    simp only[cond_false]
    rw[idx_map n (s+1) k (by exact fJ (by assumption) (by assumption)) (by omega) hp λj h1 h2=>hn j (by exact aU (by assumption)) h2]
    omega
end _W
end
section
namespace _W
open _L _G
noncomputable def Ex(S S':Sto):Prop:= ∃t,S'=S++t
theorem Ex.refl(S:Sto):Ex S S:=⟨[],by simp⟩
theorem Ex.trans{S S1 S2:Sto}(a:Ex S S1)(b:Ex S1 S2):Ex S S2:=by
 obtain⟨t,rfl⟩:=a
 obtain⟨u,rfl⟩:=b
 exact⟨t++u,by simp⟩
theorem Ex.push(S:Sto)(c:Cell):Ex S (S++[c]):=⟨[c],rfl⟩
theorem Ex.get{S S':Sto}(h:Ex S S'){n:Nat}(hn:n<S.length):S'[n]? = S[n]? := by
 obtain⟨t,rfl⟩:=h
 exact aP hn
theorem Ex.some{S S':Sto}(h:Ex S S'){n:Nat}{c:Cell}(e:S[n]? = some c):S'[n]? = some c:=by
 rw[h.get (ai.mp e).1];exact e
theorem Ex.len{S S':Sto}(h:Ex S S'):S.length<=S'.length:=by
 obtain⟨t,rfl⟩:=h
 simp
noncomputable def oW(n:Nat)(S:Sto):Prop:= ∃s b,S[n]? = some (.lst [.int s,.bl b])
structure Stp(n:Nat)(S S':Sto):Prop where
 len:S.length<=S'.length
 same: ∀m,m<S.length->m≠n->S'[m]? = S[m]?
 st:oW n S'
theorem Stp.trans{n:Nat}{S S1 S2:Sto}(a:Stp n S S1)(b:Stp n S1 S2):Stp n S S2:=
 ⟨aM a.len b.len,λm h1 h2=>(b.same m (ao h1 a.len) h2).trans (a.same m h1 h2),b.st⟩
theorem oW.lt{n:Nat}{S:Sto}(h:oW n S):n<S.length:=by
 obtain⟨s,b,e⟩:=h
 exact(ai.mp e).1
theorem oW.ex{n:Nat}{S S':Sto}(h:oW n S)(e:Ex S S'):oW n S':=by
 obtain⟨s,b,q⟩:=h
 exact⟨s,b,e.some q⟩
theorem Stp.ex{n:Nat}{S S':Sto}(h:oW n S)(e:Ex S S'):Stp n S S':=⟨e.len,λm h1 _=>e.get h1,h.ex e⟩
theorem Stp.some{n:Nat}{S S':Sto}(h:Stp n S S'){m:Nat}{c:Cell}(hm:m≠n)(e:S[m]? = some c):S'[m]? = some c:=by
 rw[h.same m (ai.mp e).1 hm];exact e
theorem zN{n:Nat}{S:Sto}{many:Int}(h:oW n S)(hm:0<many)(hm2:many<1073741824):
  ∃r S',bf [.ref n,.int many] S=some (.int r,S')/\0<=r/\r<many/\Stp n S S'/\S'.length=S.length:=by
 obtain⟨s,b,e⟩:=h
 have hn:=(ai.mp e).1
 have hd:rf many:=⟨hm,hm2⟩
 have hd8:rf 8:=⟨by decide,by decide⟩
 cases b with
 | true=>
   refine⟨s % many,S.set n (.lst [.int (s / many),.bl true]),?_,yc _ (by omega),sr _ hm,⟨by simp,λm h1 h2=>by rw[aK (cZ h2)],⟨s / many,true,by rw[aY hn]⟩⟩,by simp⟩
   simp[bf,_G.run,kf,br,sIf,cOf,m2,ae,mC,bnd,oIx,gf,eP,getL,e,atI,ixN,bJ,oMod,oDiv,hm,hd,eA,eg]
 | false=>
   have b1: ∀x m:Int,0<m->m<4294967296->jx (x % m) (x % m):=λx m h1 h2=>by
    have h3:=yc x (show m≠0 by omega)
    have h4:=sr x h1
    exact .inl ⟨by omega,by omega⟩
   have hg: ∀c:Cell,(S.set n c)[n]? = Option.some c:=λc=>aY hn
   have k1:jx s 48271:= .inr ⟨by decide,by decide⟩
   have k2:=b1 (s*48271+29) 2147483647 (by decide) (by decide)
   generalize hs1:(s*48271+29) % 2147483647=s1 at k2
   have k3:jx 39373 s1:= .inl ⟨by decide,by decide⟩
   have k4:=b1 (s1*s1+39373*s1+7) 2147483629 (by decide) (by decide)
   generalize hm1:(s1*s1+39373*s1+7) % 2147483629=m1 at k4
   have k5:jx 16807 m1:= .inl ⟨by decide,by decide⟩
   refine⟨(m1*m1+16807*m1) % 2147483587 / 8 % many,S.set n (.lst [.int s1,.bl false]),?_,yc _ (by omega),sr _ hm,⟨by simp,λm h1 h2=>by rw[aK (cZ h2)],⟨s1,false,by rw[aY hn]⟩⟩,by simp⟩
   simp[bf,_G.run,kf,br,sIf,cOf,m2,ae,mC,bnd,oIx,gf,eP,getL,e,atI,ixN,bJ,oMod,oDiv,cP,gI,hm,hd,eA,eg,eC,hg,k1,k2,k3,k4,k5,hs1,hm1,hd8]
end _W
end
section
namespace _W
open _L _G
section
theorem qJ{i:Nat}{b:MS}(P:Nat->Rho->Sto->Prop): ∀(us:List U) (k:Nat) (ρ:Rho) (S:Sto),P k ρ S ->
  (∀(j:Nat) (u:U) (ρ:Rho) (S:Sto),us[j]? = some u->P (k+j) ρ S -> ∃ρ' S',b (ρ.set i (some u)) S=some (.nx,ρ',S')/\P (k+j+1) ρ' S') ->
  ∃ρ' S',vJ i b us ρ S=some (.nx,ρ',S')/\P (k+us.length) ρ' S'
 | [],k,ρ,S,h,_=>⟨ρ,S,rfl,h⟩
 | u::us,k,ρ,S,h,st=>by
   obtain⟨ρ1,S1,e1,h1⟩:=st 0 u ρ S rfl h
   obtain⟨ρ2,S2,e2,h2⟩:=qJ P us (k+1) ρ1 S1 h1 λj v ρ S hj hp=>by
    have:=st (j+1) v ρ S (by simpa using hj) (by rw[show k+(j+1)=k+1+j by omega];exact hp)
    rw[show k+(j+1)+1=k+1+j+1 by omega]at this
    exact this
   refine⟨ρ2,S2,?_,by rw[show k+(u::us).length=k+1+us.length by simp;omega];exact h2⟩
   show aft (b (ρ.set i (some u)) S) (vJ i b us)=_
   rw[e1];exact e2
theorem lO{e:ME}{ρ:Rho}(g:Nat->U)(P:Nat->Sto->Prop): ∀(us:List U) (k:Nat) (acc:List U) (S:Sto),P k S ->
  (∀(j:Nat) (u:U) (S:Sto),us[j]? = some u->P (k+j) S -> ∃S',e (ρ++[some u]) S=some (g (k+j),S')/\P (k+j+1) S') ->
  ∃S',hG cTT e ρ us acc S=some (acc++(aB us.length).map (λj=>g (k+j)),S')/\P (k+us.length) S'
 | [],k,acc,S,h,_=>⟨S,by simp[hG],h⟩
 | u::us,k,acc,S,h,st=>by
   obtain⟨S1,e1,h1⟩:=st 0 u S rfl h
   obtain⟨S2,e2,h2⟩:=lO g P us (k+1) (acc++[g k]) S1 h1 λj v S hj hp=>by
    have:=st (j+1) v S (by simpa using hj) (by rw[show k+(j+1)=k+1+j by omega];exact hp)
    rw[show k+(j+1)+1=k+1+j+1 by omega,show k+(j+1)=k+1+j by omega]at this
    exact this
   refine⟨S2,?_,by rw[show k+(u::us).length=k+1+us.length by simp;omega];exact h2⟩
   show bnd (cTT (ρ++[some u]) S) _=_
   simp only[cTT,aF,if_true]
   rw[e1]
   simp only[aF,nr]
   rw[e2]
   simp only[bz,dS,ya,and_true]
   rw[bB,List.range_succ_eq_map,bg,bX]
   simp only[List.singleton_append,nr,List.append_cancel_left_eq,List.cons.injEq,true_and]
   apply bH
   intro j _
   simp only[Function.comp]
   congr 1;omega
noncomputable def BF(n:Nat)(g:Nat->U):U:= .tup ((aB n).map g)
theorem qp{n:Nat}(h:n<big):okR (n:Int):=by
 unfold big at h
 exact⟨by exact Int.natCast_nonneg _,by omega⟩
theorem mE{ρ:Rho}{S S0:Sto}{a:ME}{u:U}(ha:a ρ S=some (u,S0)):aa a ak ρ S=some ([u],S0):=by
 simp only[aa,ak,ha,aF]
theorem Jm{ρ:Rho}{S S0:Sto}{a:MA}{j:Int}(ha:a ρ S=some ([.int j],S0))(h:okR j):iR1 a ρ S=some (.imm (bK 0 j.toNat),S0):=by
 unfold iR1
 rw[ha]
 exact if_pos h
theorem qw{ρ:Rho}{S S0:Sto}{a:ME}{n:Nat}(ha:a ρ S=some (.int n,S0))(h:n<big):iR1 (aa a ak) ρ S=some (.imm (bK 0 n),S0):=by
 rw[Jm (mE ha) (qp h),kI]
theorem nT{ρ:Rho}{S S0 S1:Sto}{it:MI}{t:MT}{e:ME}{us ys:List U}(hi:it ρ S=some (.imm us,S0))(h:hG t e ρ us [] S0=some (ys,S1))(hz:ys.length<big):ck it t e ρ S=some (.ref S1.length,S1++[.lst ys]):=by
 simp only[ck,hi,aF,xh,h]
 exact if_pos hz
theorem iq{ρ:Rho}{S S1:Sto}{a:ME}{ys:List U}(h:a ρ S=some (.ref S1.length,S1++[.lst ys])):mFn cy (aa a ak) ρ S=some (.tup ys,S1++[.lst ys]):=by
 unfold mFn
 rw[mE h]
 show(eP (S1++[Cell.lst ys]) (.ref S1.length)).map _=_
 have:eP (S1++[Cell.lst ys]) (.ref S1.length)=some ys:=by
  show getL (S1++[Cell.lst ys]) S1.length=_
  unfold getL
  rw[av (ah _)]
  simp
 rw[this];rfl
theorem Iy{ρ:Rho}{S S0:Sto}{a e:ME}{n:Nat}(ha:a ρ S=some (.int n,S0))(hn:n<big)(g:Nat->U)(P:Nat->Sto->Prop)(h0:P 0 S0)
  (hs: ∀(j:Nat) (S:Sto),j<n->P j S -> ∃S',e (ρ++[some (.int j)]) S=some (g j,S')/\P (j+1) S'):
  ∃S',mFn cy (aa (ck (iR1 (aa a ak)) cTT e) ak) ρ S=some (BF n g,S'++[.lst ((aB n).map g)])/\P n S':=by
 obtain⟨S1,e1,h1⟩:=lO (e:=e) (ρ:=ρ) g P (bK 0 n) 0 [] S0 h0 λj u S hj hp=>by
  have hl:j<n:=by have:=(ai.mp hj).1;simpa [bK]using this
  have hu:(bK 0 n)[j]? = some (.int j):=by simp[bK,hl]
  rw[hu]at hj;cases hj
  simpa using hs j S hl (by simpa using hp)
 have hlen:(bK 0 n).length=n:=by simp[bK]
 simp only[hlen,d5,dk]at e1 h1
 exact⟨S1,iq (nT (qw ha hn) e1 (by rw[aq,bp];exact hn)),h1⟩
theorem NY{ρ:Rho}{S S0:Sto}{a e:ME}{us:List U}(ha:a ρ S=some (.tup us,S0))(hn:us.length<big)(g:Nat->U)(P:Nat->Sto->Prop)(h0:P 0 S0)
  (hs: ∀(j:Nat) (u:U) (S:Sto),us[j]? = some u->P j S -> ∃S',e (ρ++[some u]) S=some (g j,S')/\P (j+1) S'):
  ∃S',mFn cy (aa (ck (cu a) cTT e) ak) ρ S=some (BF us.length g,S'++[.lst ((aB us.length).map g)])/\P us.length S':=by
 obtain⟨S1,e1,h1⟩:=lO (e:=e) (ρ:=ρ) g P us 0 [] S0 h0 λj u S hj hp=>by
  simpa using hs j u S hj (by simpa using hp)
 simp only[d5,dk]at e1 h1
 exact⟨S1,iq (nT (it:=cu a) (us:=us) (by unfold cu;rw[ha];rfl) e1 (by rw[aq,bp];exact hn)),h1⟩
noncomputable def nM(m:Nat)(T:Nat->Nat->Nat)(i:Nat):U:=BF m λj => .int (T i j)
noncomputable def tab(m:Nat)(T:Nat->Nat->Nat):U:=BF m (nM m T)
theorem lL{α:Type}{f:Nat->α}{m i:Nat}(h:i<m):atI ((aB m).map f) (i:Int)=some (f i):=by
 simp[atI,ixN,h]
theorem lu{n:Nat}{S:Sto}(h:0<n)(hn:n<big): ∃S',dm [.int n] S=some (tab n (eW n),S')/\Ex S S':=by
 have key: ∃S',mFn cy (aa (ck (iR1 (aa (ae 0) ak)) cTT (mFn cy (aa (ck (iR1 (aa (ae 0) ak)) cTT (m2 oMod (m2 cP (ae 1) (ae 2)) (ae 0))) ak))) ak) [some (.int n)] S=some (BF n (nM n (eW n)),S'++[.lst ((aB n).map (nM n (eW n)))])/\Ex S S':=by
  refine Iy (S0:=S) (by simp[ae]) hn _ (λ_ S'=>Ex S S') (Ex.refl S) λi S1 hi hx =>?_
  obtain⟨S2,e2,h2⟩:=Iy (ρ:= [some (.int n),some (.int i)]) (S:=S1) (S0:=S1) (a:=ae 0) (e:=m2 oMod (m2 cP (ae 1) (ae 2)) (ae 0)) (n:=n) (by simp[ae]) hn (λj => .int (eW n i j)) (λ_ S'=>S'=S1) rfl λj S' hj hx=>by
   refine⟨S',?_,hx⟩
   have h0:(0:Int)<n:=by omega
   simp only[m2,ae,List.cons_append,dk,BR,lX,aF,cP,oMod,h0,if_true,eW,mw,yd]
  subst h2
  exact⟨S2++[_],e2,hx.trans (Ex.push _ _)⟩
 obtain⟨S',e,hx⟩:=key
 refine⟨S'++[.lst ((aB n).map (nM n (eW n)))],?_,hx.trans (Ex.push _ _)⟩
 simp only[dm,_G.run,lD,eg,bB,eQ,bg,iQ,tS,List.replicate_zero,hZ,if_true,e,aF,tab]
end
end _W
end
section
namespace _W
open _L _G
section
theorem tZ{n:Nat}(h:0<n)(h2:n<1000):rf (n:Int):=⟨by omega,by omega⟩
theorem qf{i j:Int}(h1: -1000000000<=i)(h2:i<=1000000000):jx i j:= .inl ⟨by omega,by omega⟩
theorem tU{n:Nat}{j:Int}(h:n<1000000):jx (n:Int) j:=qf (by exact Int.natCast_nonneg _) (by omega)
noncomputable def Agr(L:List Nat)(ρ0 ρ:Rho):Prop:=ρ.length=ρ0.length /\ ∀i,i∉L->ρ[i]? = ρ0[i]?
theorem Agr.refl(L:List Nat)(ρ:Rho):Agr L ρ ρ:=⟨rfl,λ_ _=>rfl⟩
theorem Agr.set{L:List Nat}{ρ0 ρ:Rho}{i:Nat}{v:Option U}(h:Agr L ρ0 ρ)(hi:i∈L):Agr L ρ0 (ρ.set i v):=
 ⟨by rw[fM];exact h.1,λj hj=>by rw[aK (by rintro rfl;exact hj hi)];exact h.2 j hj⟩
structure Sm(b:Nat)(S0 S:Sto):Prop where
 len:S0.length<=S.length
 same: ∀m,m<b->S[m]? = S0[m]?
theorem Sm.trans{b:Nat}{S0 S1 S2:Sto}(a:Sm b S0 S1)(c:Sm b S1 S2):Sm b S0 S2:=⟨aM a.len c.len,λm h=>(c.same m h).trans (a.same m h)⟩
theorem Sm.ex{b:Nat}{S0 S:Sto}(h:Ex S0 S)(hb:b<=S0.length):Sm b S0 S:=⟨h.len,λm hm=>h.get (ao hm hb)⟩
theorem Sm.set{b n:Nat}{S0 S:Sto}{c:Cell}(h:Sm b S0 S)(hn:b<=n):Sm b S0 (S.set n c):=
 ⟨by rw[fM];exact h.len,λm hm=>by rw[aK (by omega)];exact h.same m hm⟩
structure Wr(r:Nat)(S S':Sto):Prop where
 len:S.length<=S'.length
 same: ∀m,m<S.length->m≠r->S'[m]? = S[m]?
theorem Wr.trans{r:Nat}{S S1 S2:Sto}(a:Wr r S S1)(b:Wr r S1 S2):Wr r S S2:=
 ⟨aM a.len b.len,λm h1 h2=>(b.same m (ao h1 a.len) h2).trans (a.same m h1 h2)⟩
theorem Wr.refl(r:Nat)(S:Sto):Wr r S S:=⟨ah _,λ_ _ _=>rfl⟩
theorem Wr.ex{r:Nat}{S S':Sto}(h:Ex S S'):Wr r S S':=⟨h.len,λm hm _=>h.get hm⟩
theorem Wr.set(r:Nat)(S:Sto)(c:Cell):Wr r S (S.set r c):=⟨by simp,λm _ h=>aK (cZ h)⟩
theorem Wr.sm{r b:Nat}{S S':Sto}(h:Wr r S S')(hb:b<=r)(hr:b<=S.length):Sm b S S':=⟨h.len,λm hm=>h.same m (by exact ao (by assumption) (by assumption)) (by omega)⟩
theorem nD{ρ:Rho}{i:Nat}{v:Option U}(h:i<ρ.length):(ρ.set i v)[i]? = some v:=aY h
theorem var_eq{ρ:Rho}{S:Sto}{i:Nat}{u:U}(h:ρ[i]? = some (some u)):ae i ρ S=some (u,S):=by simp only[ae,h]
theorem CH{ρ:Rho}{S:Sto}{i:Nat}{a:ME}{n:Nat}{b:MS}(ha:a ρ S=some (.int n,S))(h:n<big):eX i (iR1 (aa a ak)) b ρ S=vJ i b (bK 0 n) ρ S:=by
 unfold eX
 rw[qw ha h]
 rfl
theorem lN{ρ:Rho}{S:Sto}{i:Nat}{a:ME}{n:Nat}{b:MS}(ha:a ρ S=some (.int n,S))(h:n<big)(P:Nat->Rho->Sto->Prop)(h0:P 0 ρ S)
  (st: ∀(j:Nat) (ρ:Rho) (S:Sto),j<n->P j ρ S -> ∃ρ' S',b (ρ.set i (some (.int j))) S=some (.nx,ρ',S')/\P (j+1) ρ' S'):
  ∃ρ' S',eX i (iR1 (aa a ak)) b ρ S=some (.nx,ρ',S')/\P n ρ' S':=by
 rw[CH ha h]
 obtain⟨ρ',S',e,q⟩:=qJ (i:=i) (b:=b) P (bK 0 n) 0 ρ S h0 λj u ρ S hj hp=>by
  have hl:j<n:=by have:=(ai.mp hj).1;simpa [bK]using this
  have hu:(bK 0 n)[j]? = some (.int j):=by simp[bK,hl]
  rw[hu]at hj;cases hj
  simpa using st j ρ S hl (by simpa using hp)
 have hlen:(bK 0 n).length=n:=by simp[bK]
 rw[hlen,d5]at q
 exact⟨ρ',S',e,q⟩
theorem append_eq{ρ:Rho}{S S1:Sto}{o a:ME}{r:Nat}{u:U}{row:List U}(ho:o ρ S=some (.ref r,S))(ha:a ρ S=some (u,S1))(hr:S[r]? = some (Cell.lst row))(hr1:S1[r]? = some (Cell.lst row))(hl:row.length<big):
  dN (mML du o (aa a ak)) ρ S=some (.nx,ρ,S1.set r (Cell.lst (row++[u]))):=by
 simp only[dN,mML,ho,aF,getL,hr,ag,mE ha,du,hr1,hl,if_true]
theorem kS{ρ:Rho}{S:Sto}{a:ME}{r:Nat}{row:List U}(ha:a ρ S=some (.ref r,S))(hr:S[r]? = some (Cell.lst row)):mFn cy (aa a ak) ρ S=some (.tup row,S):=by
 simp only[mFn,mE ha,aF,cy,eP,getL,hr,aT]
theorem build{fs rs is js:Nat}{L:List Nat}{ρ0:Rho}{S0:Sto}{bIn:MS}{a:ME}{m:Nat}{T:Nat->Nat->Nat}(hm:m<big)(h1:rs∈L)(h2:is∈L)(h3:js∈L)(h4:fs∉L)(d1:rs≠is)(d2:js≠is)(d3:js≠rs)
  (l1:rs<ρ0.length) (l2:is<ρ0.length) (l3:js<ρ0.length) (hf:ρ0[fs]? = some (some (.ref S0.length)))
  (ha: ∀ρ S,Agr L ρ0 ρ->Sm S0.length S0 S->a ρ S=some (.int m,S))
  (hb: ∀(i j r:Nat) (ρ:Rho) (S:Sto) (row:List U),i<m->j<m->Agr L ρ0 ρ->ρ[is]? = some (some (.int i))->ρ[js]? = some (some (.int j))->ρ[rs]? = some (some (.ref r))->Sm S0.length S0 S->S0.length<r->S[r]? = some (Cell.lst row)->row.length<big ->
   ∃ρ' S',bIn ρ S=some (.nx,ρ',S')/\Agr L ρ0 ρ'/\ρ'[is]? = some (some (.int i))/\ρ'[rs]? = some (some (.ref r))/\Wr r S S'/\S'[r]? = some (Cell.lst (row++[.int (T i j)]))):
  ∃ρ' S',eX is (iR1 (aa a ak)) (br (bJ rs (dn ak)) (br (eX js (iR1 (aa a ak)) bIn) (dN (mML du (ae fs) (aa (mFn cy (aa (ae rs) ak)) ak))))) ρ0 (S0++[Cell.lst []])=some (.nx,ρ',S') /\
   Agr L ρ0 ρ'/\Sm S0.length S0 S'/\S'[S0.length]? = some (Cell.lst ((aB m).map (nM m T))):=by
 have s0:Sm S0.length S0 (S0++[Cell.lst []]):=Sm.ex (Ex.push _ _) (ah _)
 refine lN (P:=λk ρ S=>Agr L ρ0 ρ/\Sm S0.length S0 S/\S0.length<S.length/\S[S0.length]? = some (Cell.lst ((aB k).map (nM m T)))) (ha _ _ (Agr.refl _ _) s0) hm ⟨Agr.refl _ _,s0,by simp,by rw[av (ah _)];simp⟩ ?_ |>.imp λρ' h=>h.imp λS' h=>⟨h.1,h.2.1,h.2.2.1,h.2.2.2.2⟩
 rintro i ρ S hi ⟨g1,g2,g3,g4⟩
 have r0:S.length<(S++[Cell.lst ([]:List U)]).length:=by simp
 have e0:bJ rs (dn ak) (ρ.set is (some (.int i))) S=some (.nx,(ρ.set is (some (.int i))).set rs (some (.ref S.length)),S++[Cell.lst []]):=by
  have hz:([]:List U).length<=big:=cn _
  simp only[bJ,dn,ak,aF,hz,if_true]
 have ga:Agr L ρ0 ((ρ.set is (some (.int i))).set rs (some (.ref S.length))):=(g1.set h2).set h1
 have gs:Sm S0.length S0 (S++[Cell.lst ([]:List U)]):=g2.trans (Sm.ex (Ex.push _ _) g2.len)
 obtain⟨ρ1,S1,e1,q1,q2,q3,q4,q5⟩:=lN (b:=bIn) (i:=js) (P:=λk ρ1 S1=>Agr L ρ0 ρ1/\ρ1[is]? = some (some (.int i))/\ρ1[rs]? = some (some (.ref S.length))/\Wr S.length (S++[Cell.lst ([]:List U)]) S1/\S1[S.length]? = some (Cell.lst ((aB k).map λj => .int (T i j))))
  (ha _ _ ga gs) hm ⟨ga,by rw[aK d1,nD (by rw[g1.1];exact l2)],by rw[nD (by rw[fM,g1.1];exact l1)],Wr.refl _ _,by rw[av (ah _)];simp⟩ (by
   rintro j ρ1 S1 hj ⟨q1,q2,q3,q4,q5⟩
   have sm1:Sm S0.length S0 S1:=gs.trans (q4.sm (aU g3) (by simp;omega))
   obtain⟨ρ2,S2,f1,f2,f3,f4,f5,f6⟩:=hb i j S.length (ρ1.set js (some (.int j))) S1 _ hi hj (q1.set h3) (by rw[aK d2];exact q2) (nD (by rw[q1.1];exact l3)) (by rw[aK d3];exact q3) sm1 g3 q5 (by rw[aq,bp];exact dI (by assumption) (by assumption))
   exact⟨ρ2,S2,f1,f2,f3,f4,q4.trans f5,by rw[f6,h9,dB];rfl⟩)
 have g5:S1[S0.length]? = some (Cell.lst ((aB i).map (nM m T))):=by
  rw[q4.same _ (by simp;exact eS (by assumption)) (by exact aQ (by assumption)),(Ex.push S _).get g3];exact g4
 have sm1:Sm S0.length S0 S1:=gs.trans (q4.sm (aU g3) (by simp;omega))
 have hfv:ae fs ρ1 S1=some (.ref S0.length,S1):=var_eq (by rw[q1.2 fs h4];exact hf)
 have e2:=append_eq (o:=ae fs) hfv (kS (a:=ae rs) (var_eq q3) q5) g5 g5 (by rw[aq,bp];exact dI (by assumption) (by assumption))
 refine⟨ρ1,S1.set S0.length (Cell.lst ((aB (i+1)).map (nM m T))),?_,q1,sm1.set (ah _),?_,?_⟩
 ·simp only[br,e0,e1,e2]
  rw[h9,dB];rfl
 ·rw[fM];have:=q4.len;simp at this;exact dI (by assumption) (by assumption)
 ·exact aY (by have:=q4.len;simp at this;exact dI (by assumption) (by assumption))
noncomputable def ql:MS:=br (bJ 5 (m2 oMod (m2 cP (m2 oMod (ae 2) (ae 0)) (m2 gI (m2 oIx (dn (aa (mC (.int 1)) (aa (m1 pR (mC (.int 1))) ak))) (m2 oDiv (ae 2) (ae 0))) (m2 oMod (ae 4) (ae 0)))) (ae 0))) (dN (mML du (ae 3) (aa (m2 cP (ae 5) (m2 gI (ae 0) (m2 oMod (m2 cP (m2 oDiv (ae 2) (ae 0)) (m2 oDiv (ae 4) (ae 0))) (mC (.int 2))))) ak)))
theorem BD{n i j c:Int}{f r:Nat}{x y:Option U}{S:Sto}{row:List U}(h0:0<n)(hd:rf n)(hc:atI [U.int 1,U.int (-1)] (i / n)=some (.int c))(k1:jx c (j % n))(k2:jx n ((i / n+j / n) % 2))
  (hr:(S++[Cell.lst [U.int 1,U.int (-1)]])[r]? = some (Cell.lst row)) (hl:row.length<big):
  ql ([some (U.int n),some (U.ref f),some (U.int i),some (U.ref r),x,y].set 4 (some (U.int j))) S =
   some (Fl.nx,[some (U.int n),some (U.ref f),some (U.int i),some (U.ref r),some (U.int j),some (U.int ((i % n+c*(j % n)) % n))],(S++[Cell.lst [U.int 1,U.int (-1)]]).set r (Cell.lst (row++[U.int ((i % n+c*(j % n)) % n+n*((i / n+j / n) % 2))]))):=by
 have hb2:2<=big:=by decide
 simp[ql,br,bJ,m2,m1,ae,mC,dn,aa,ak,bnd,oMod,cP,gI,oDiv,oIx,gf,pR,eP,getL,h0,hd,hb2,hc,k1,k2,dN,mML,du,hr,hl]
theorem Dt{n i j f r:Nat}{x y:Option U}{S:Sto}{row:List U}(hn:0<n)(hn2:n<1000)(hi:i<2*n)(hj:j<2*n)(hr:S[r]? = some (Cell.lst row))(hl:row.length<big):
  ∃z,ql ([some (U.int n),some (U.ref f),some (U.int i),some (U.ref r),x,y].set 4 (some (U.int j))) S =
   some (Fl.nx,[some (U.int n),some (U.ref f),some (U.int i),some (U.ref r),some (U.int j),z],(S++[Cell.lst [U.int 1,U.int (-1)]]).set r (Cell.lst (row++[U.int (gE n i j:Nat)]))):=by
 have hd:=tZ hn hn2
 have h0:(0:Int)<n:=by omega
 have hr2:=(Ex.push S (Cell.lst [U.int 1,U.int (-1)])).some hr
 have hk:jx (n:Int) (((i:Int) / n+j / n) % 2):=tU (by exact ao (by assumption) (by decide))
 have hc: ∃c:Int,atI [U.int 1,U.int (-1)] ((i:Int) / n)=some (.int c)/\jx c ((j:Int) % n)/\((i:Int) % n+c*((j:Int) % n)) % n+n*(((i:Int) / n+j / n) % 2)=(gE n i j:Nat):=by
  rcases half hi with⟨h1,h2,h3⟩ | ⟨h1,h2,h3⟩
  ·refine⟨1,?_,qf (by decide) (by decide),?_⟩
   ·have:(i:Int) / n=0:=by rw[<- vY,h3];rfl
    rw[this];rfl
   ·unfold gE
    rw[if_pos h1,Int.one_mul]
    push_cast
    rfl
  ·refine⟨-1,?_,qf (by decide) (by decide),?_⟩
   ·have:(i:Int) / n=1:=by rw[<- vY,h3];rfl
    rw[this];rfl
   ·unfold gE
    have hjm:j % n<n:=nq _ hn
    rw[if_neg (by omega)]
    have e1:((i:Int) % n + -1*((j:Int) % n)) % n=((i % n+(n - j % n)) % n:Nat):=by
     have e2:((n - j % n:Nat):Int)=(n:Int) - (j:Int) % n:=by omega
     rw[mw,yd,e2,mw]
     rw[show(i:Int) % n+((n:Int) - (j:Int) % n)=((i:Int) % n + -1*((j:Int) % n))+n by omega,Int.add_emod_right]
    rw[e1]
    push_cast
    rfl
 obtain⟨c,c1,c2,c3⟩:=hc
 rw[<- c3]
 exact⟨_,BD h0 hd c1 c2 hk hr2 hl⟩
end
end _W
end
section
namespace _W
open _L _G
section
theorem be{a b:MS}{ρ ρ1:Rho}{S S1:Sto}(h:a ρ S=some (.nx,ρ1,S1)):br a b ρ S=b ρ1 S1:=by simp only[br,h]
theorem dG{e:ME}{ρ:Rho}{S S1:Sto}{u:U}(h:e ρ S=some (u,S1)):eg e ρ S=some (.rt u,ρ,S1):=by simp only[eg,h,aF]
theorem bI{e:ME}{ρ:Rho}{S S1:Sto}{u:U}{i:Nat}(h:e ρ S=some (u,S1)):bJ i e ρ S=some (.nx,ρ.set i (some u),S1):=by simp only[bJ,h,aF]
theorem kc{ρ:Rho}{S:Sto}:dn ak ρ S=some (.ref S.length,S++[Cell.lst []]):=by
 have hz:([]:List U).length<=big:=cn _
 simp only[dn,ak,aF,hz,if_true]
theorem dH{k n:Nat}{b:MS}{us:List U}{S S1:Sto}{u:U}{ρ:Rho}(hl:us.length=k)(h:b (us.map some++aR (n - k) none) S=some (.rt u,ρ,S1)):_G.run k n b us S=some (u,S1):=by
 simp only[_G.run,hl,if_true,h]
theorem Sm.toEx{S S':Sto}(h:Sm S.length S S'):Ex S S':=by
 refine⟨S'.drop S.length,List.ext_getElem? λi =>?_⟩
 by_cases hi:i<S.length
 ·rw[aP hi];exact h.same i hi
 ·rw[av (by exact bC (by assumption)),List.getElem?_drop];congr 1;omega
theorem Oo{ρ:Rho}(h:ρ.length=6): ∃a b c d e f,ρ = [a,b,c,d,e,f]:=by
 have k: ∀{n:Nat}{l:Rho},l.length=n+1 -> ∃a r,l=a::r/\r.length=n:=λ{n l} h=>by
  cases l with
  | nil=>cases h
  | cons a r=>exact⟨a,r,rfl,yf h⟩
 obtain⟨a,r1,rfl,h1⟩:=k h
 obtain⟨b,r2,rfl,h2⟩:=k h1
 obtain⟨c,r3,rfl,h3⟩:=k h2
 obtain⟨d,r4,rfl,h4⟩:=k h3
 obtain⟨e,r5,rfl,h5⟩:=k h4
 obtain⟨f,r6,rfl,h6⟩:=k h5
 cases cD h6
 exact⟨a,b,c,d,e,f,rfl⟩
theorem wF{n:Nat}{S:Sto}(hn:0<n)(hn2:n<1000): ∃S',fC [.int n] S=some (tab (2*n) (gE n),S')/\Ex S S':=by
 have hbig:2*n<big:=by unfold big;omega
 obtain⟨ρ1,S1,e1,q1,q2,q3⟩:=build (fs:=1) (rs:=3) (is:=2) (js:=4) (L:= [2,3,4,5]) (ρ0:= [some (.int n),some (.ref S.length),none,none,none,none]) (S0:=S) (bIn:=ql) (a:=m2 gI (mC (.int 2)) (ae 0)) (m:=2*n) (T:=gE n)
  hbig (by decide) (by decide) (by decide) (by decide) (by decide) (by decide) (by decide) (by simp) (by simp) (by simp) rfl
  (λρ S' g s=>by
   have h0:ρ[0]? = some (some (.int n)):=g.2 0 (by decide)
   have hk:jx 2 (n:Int):=qf (by decide) (by decide)
   simp only[m2,mC,aF,var_eq h0,gI,hk,if_true]
   rfl)
  (λi j r ρ S' row hi hj g gi gj gr s hr he hl=>by
   obtain⟨a,b,c,d,e,f,rfl⟩:=Oo g.1
   have h0:some a=some (some (.int n)):=g.2 0 (by decide)
   have h1:some b=some (some (.ref S.length)):=g.2 1 (by decide)
   simp only[dS,BR,lX]at h0 h1 gi gj gr
   subst h0 h1 gi gj gr
   obtain⟨z,ez⟩:=Dt (f:=S.length) (x:=none) (y:=f) hn hn2 hi hj he hl
   refine⟨_,_,ez,⟨rfl,λk hk =>?_⟩,rfl,rfl,(Wr.ex (Ex.push _ _)).trans (Wr.set _ _ _),?_⟩
   ·match k with
    | 0=>rfl
    | 1=>rfl
    | 2=>exact absurd (by decide) hk
    | 3=>exact absurd (by decide) hk
    | 4=>exact absurd (by decide) hk
    | 5=>exact absurd (by decide) hk
    | k+6=>rfl
   ·exact aY (by have:=(ai.mp he).1;simp;exact eS (by assumption)))
 have e2:mFn cy (aa (ae 1) ak) ρ1 S1=some (tab (2*n) (gE n),S1):=kS (var_eq (by rw[q1.2 1 (by decide)];rfl)) q3
 refine⟨S1,dH (ρ:=ρ1) rfl ?_,?_⟩
 ·show lF [some (.int n),none,none,none,none,none] S=_
  exact(be (bI kc)).trans ((be e1).trans (dG e2))
 ·exact q2.toEx
end
end _W
end
section
namespace _W
open _L _G
section
section
variable {ρ:Rho}{S S1 S2:Sto}{a b:ME}
theorem op2{f:F2}{x y:U}{r:Res U}(ha:a ρ S=some (x,S1))(hb:b ρ S1=some (y,S2))(h:f x y S2=r):m2 f a b ρ S=r:=by simp only[m2,ha,hb,aF,h]
theorem BC{us:List U}{z:Int}{u:U}(ha:a ρ S=some (.tup us,S1))(hb:b ρ S1=some (.int z,S2))(h:atI us z=some u):m2 oIx a b ρ S=some (u,S2):=op2 ha hb (by simp only[oIx,gf,eP,ag,h,aT])
theorem Bu{n:Nat}{us:List U}{z:Int}{u:U}(ha:a ρ S=some (.ref n,S1))(hb:b ρ S1=some (.int z,S2))(hn:S2[n]? = some (Cell.lst us))(h:atI us z=some u):m2 oIx a b ρ S=some (u,S2):=op2 ha hb (by simp only[oIx,gf,eP,getL,hn,ag,h,aT])
theorem Nr{x y:Int}(ha:a ρ S=some (.int x,S1))(hb:b ρ S1=some (.int y,S2)):m2 cP a b ρ S=some (.int (x+y),S2):=op2 ha hb rfl
theorem Ad{x y:Int}(ha:a ρ S=some (.int x,S1))(hb:b ρ S1=some (.int y,S2)):m2 mR a b ρ S=some (.int (x - y),S2):=op2 ha hb rfl
theorem LM{x y:Int}(ha:a ρ S=some (.int x,S1))(hb:b ρ S1=some (.int y,S2))(h:jx x y):m2 gI a b ρ S=some (.int (x*y),S2):=op2 ha hb (if_pos h)
theorem LX{x y:Int}(ha:a ρ S=some (.int x,S1))(hb:b ρ S1=some (.int y,S2))(h:rf y):m2 oDiv a b ρ S=some (.int (x / y),S2):=op2 ha hb (if_pos h)
theorem HZ{x y:Int}(ha:a ρ S=some (.int x,S1))(hb:b ρ S1=some (.int y,S2))(h:0<y):m2 oMod a b ρ S=some (.int (x % y),S2):=op2 ha hb (if_pos h)
theorem c_i{z:Int}:mC (.int z) ρ S=some (.int z,S):=rfl
theorem Ae{us:List U}(ha:a ρ S=some (.tup us,S1)):mFn cN (aa a ak) ρ S=some (.int us.length,S1):=by
 simp only[mFn,mE ha,aF,cN,gf,eP,aT]
theorem len_tab{m:Nat}{T:Nat->Nat->Nat}(ha:a ρ S=some (tab m T,S1)):mFn cN (aa a ak) ρ S=some (.int m,S1):=by
 rw[Ae (us:=(aB m).map (nM m T)) ha,aq,bp]
theorem jI{m i:Nat}{T:Nat->Nat->Nat}(hi:i<m)(ha:a ρ S=some (tab m T,S1))(hb:b ρ S1=some (.int i,S2)):m2 oIx a b ρ S=some (nM m T i,S2):=BC ha hb (lL hi)
theorem ki{m i j:Nat}{T:Nat->Nat->Nat}(hj:j<m)(ha:a ρ S=some (nM m T i,S1))(hb:b ρ S1=some (.int j,S2)):m2 oIx a b ρ S=some (.int (T i j),S2):=BC ha hb (lL hj)
theorem uc{x y:Nat}(ha:a ρ S=some (.int x,S1))(hb:b ρ S1=some (.int y,S2))(h:0<y)(h2:y<1000):m2 oDiv a b ρ S=some (.int (x / y:Nat),S2):=by rw[LX ha hb (tZ h h2),vY]
theorem Ey{x y:Nat}(ha:a ρ S=some (.int x,S1))(hb:b ρ S1=some (.int y,S2))(h:0<y):m2 oMod a b ρ S=some (.int (x % y:Nat),S2):=by rw[HZ ha hb (by omega),mw]
theorem DI{x y:Nat}(ha:a ρ S=some (.int x,S1))(hb:b ρ S1=some (.int y,S2))(h:x<1000000):m2 gI a b ρ S=some (.int (x*y:Nat),S2):=by rw[LM ha hb (tU h),Int.natCast_mul]
theorem add_n{x y:Nat}(ha:a ρ S=some (.int x,S1))(hb:b ρ S1=some (.int y,S2)):m2 cP a b ρ S=some (.int (x+y:Nat),S2):=by rw[Nr ha hb,yd]
end
theorem Agr.of{L:List Nat}{ρ0 ρ:Rho}{i:Nat}{v:Option U}(h:Agr L ρ0 ρ)(hi:i∉L)(e:ρ0[i]? = some v):ρ[i]? = some v:=(h.2 i hi).trans e
noncomputable def KE:MS:=br (bJ 7 (m2 oIx (m2 oIx (ae 0) (m2 oDiv (ae 4) (ae 2))) (m2 oDiv (ae 6) (ae 2)))) (dN (mML du (ae 5) (aa (m2 cP (m2 gI (ae 7) (ae 2)) (m2 oIx (m2 oIx (ae 1) (m2 oMod (ae 4) (ae 2))) (m2 oMod (ae 6) (ae 2)))) ak)))
theorem Hr{k m:Nat}{A B:Nat->Nat->Nat}{S:Sto}(hk:0<k)(hk2:k<1000)(hm:0<m)(hm2:m<1000)(ca: ∀i j,i<k->j<k->A i j<k): ∃S',j5 [tab k A,tab m B] S=some (tab (k*m) (n9 m A B),S')/\Ex S S':=by
 have hkm:k*m<1000000:=by
  calc k*m<=999*m:=dE m (by exact eT (by assumption))
   _<=999*999:=p8 999 (by exact eT (by assumption))
   _<1000000:=by decide
 have hbig:k*m<big:=by unfold big;exact ao (by assumption) (by decide)
 have dl: ∀i,i<k*m->i / m<k:=λi hi=>Nat.div_lt_of_lt_mul (by rw[j0];exact hi)
 have rl: ∀i,i % m<m:=λi=>nq _ hm
 obtain⟨ρ1,S1,e1,q1,q2,q3⟩:=build (fs:=3) (rs:=5) (is:=4) (js:=6) (L:= [4,5,6,7]) (ρ0:= [some (tab k A),some (tab m B),some (.int m),some (.ref S.length),none,none,none,none]) (S0:=S) (bIn:=KE) (a:=m2 gI (mFn cN (aa (ae 0) ak)) (ae 2)) (m:=k*m) (T:=n9 m A B)
  hbig (by decide) (by decide) (by decide) (by decide) (by decide) (by decide) (by decide) (by simp) (by simp) (by simp) rfl
  (λρ S' g s=>DI (len_tab (var_eq (g.of (by decide) rfl))) (var_eq (g.of (by decide) rfl)) (by exact ao (by assumption) (by decide)))
  (λi j r ρ S' row hi hj g gi gj gr s hr he hl=>by
   have v0: ∀S',ae 0 ρ S'=some (tab k A,S'):=λS'=>var_eq (g.of (by decide) rfl)
   have v2: ∀S',ae 2 ρ S'=some (.int m,S'):=λS'=>var_eq (g.of (by decide) rfl)
   have e7:m2 oIx (m2 oIx (ae 0) (m2 oDiv (ae 4) (ae 2))) (m2 oDiv (ae 6) (ae 2)) ρ S'=some (.int (A (i / m) (j / m)),S'):=
    ki (dl j hj) (jI (dl i hi) (v0 _) (uc (var_eq gi) (v2 _) hm hm2)) (uc (var_eq gj) (v2 _) hm hm2)
   have hlen:ρ.length=8:=g.1
   have g':Agr [4,5,6,7] _ (ρ.set 7 (some (.int (A (i / m) (j / m))))):=g.set (by decide)
   have w2: ∀S',ae 2 (ρ.set 7 (some (.int (A (i / m) (j / m))))) S'=some (.int m,S'):=λS'=>var_eq (g'.of (by decide) rfl)
   have w1: ∀S',ae 1 (ρ.set 7 (some (.int (A (i / m) (j / m))))) S'=some (tab m B,S'):=λS'=>var_eq (g'.of (by decide) rfl)
   have w7: ∀S',ae 7 (ρ.set 7 (some (.int (A (i / m) (j / m))))) S'=some (.int (A (i / m) (j / m)),S'):=λS'=>var_eq (nD (by omega))
   have n4:(ρ.set 7 (some (.int (A (i / m) (j / m)))))[4]? = some (some (.int i)):=by rw[aK (by decide)];exact gi
   have n5:(ρ.set 7 (some (.int (A (i / m) (j / m)))))[5]? = some (some (.ref r)):=by rw[aK (by decide)];exact gr
   have n6:(ρ.set 7 (some (.int (A (i / m) (j / m)))))[6]? = some (some (.int j)):=by rw[aK (by decide)];exact gj
   have hA:A (i / m) (j / m)<1000000:=dI (ca _ _ (dl i hi) (dl j hj)) (by exact ao (by assumption) (by decide))
   have ev:m2 cP (m2 gI (ae 7) (ae 2)) (m2 oIx (m2 oIx (ae 1) (m2 oMod (ae 4) (ae 2))) (m2 oMod (ae 6) (ae 2))) (ρ.set 7 (some (.int (A (i / m) (j / m))))) S'=some (.int (n9 m A B i j:Nat),S'):=
    add_n (DI (w7 _) (w2 _) hA) (ki (rl j) (jI (rl i) (w1 _) (Ey (var_eq n4) (w2 _) hm)) (Ey (var_eq n6) (w2 _) hm))
   exact⟨_,_,(be (bI e7)).trans (append_eq (var_eq n5) ev he he hl),g',n4,n5,Wr.set _ _ _,aY (ai.mp he).1⟩)
 have e2:mFn cy (aa (ae 3) ak) ρ1 S1=some (tab (k*m) (n9 m A B),S1):=kS (var_eq (q1.of (by decide) rfl)) q3
 refine⟨S1,dH (ρ:=ρ1) rfl ?_,q2.toEx⟩
 show m6 [some (tab k A),some (tab m B),none,none,none,none,none,none] S=_
 exact(be (bI (len_tab (var_eq rfl)))).trans ((be (bI kc)).trans ((be e1).trans (dG e2)))
end
end _W
end
section
namespace _W
open _L _G
section
noncomputable def oX:Nat->Nat->Nat:=λa b=>([[0,0,0,0],[0,1,0,1],[0,1,1,0],[0,0,1,1]].getD a []).getD b 0
noncomputable def yo:Nat->Nat->Nat:=λa b=>([[0,1,2,3],[1,0,3,2],[2,3,0,1],[3,2,1,0]].getD a []).getD b 0
noncomputable def wL(i j:Nat):Nat:=2*yo (i / 2) (j / 2)+(i+j+oX (i / 2) (j / 2)) % 2
theorem DN:((aB 8).all λi=>(aB 8).all λj=>wL i j==fX i j)=true:=by decide +kernel
theorem Bf{i j:Nat}(hi:i<8)(hj:j<8):wL i j=fX i j:=by
 have h:=cR.mp (cR.mp DN i (aN.mpr hi)) j (aN.mpr hj)
 exact eq_of_beq h
noncomputable def GA:MS:=br (bJ 6 (m2 oMod (m2 cP (m2 cP (ae 3) (ae 5)) (m2 oIx (m2 oIx (ae 0) (m2 oDiv (ae 3) (mC (.int 2)))) (m2 oDiv (ae 5) (mC (.int 2))))) (mC (.int 2)))) (dN (mML du (ae 4) (aa (m2 cP (m2 gI (mC (.int 2)) (m2 oIx (m2 oIx (ae 1) (m2 oDiv (ae 3) (mC (.int 2)))) (m2 oDiv (ae 5) (mC (.int 2))))) (ae 6)) ak)))
noncomputable def rJ(T:Nat->Nat->Nat)(a:Nat):Cell:= .lst ((aB 4).map λb => .int (T a b))
noncomputable def B3(s:Nat):Cell:= .lst ((aB 4).map λa => .ref (s+a))
noncomputable def ten(s:Nat):Sto:= [rJ oX 0,rJ oX 1,rJ oX 2,rJ oX 3,B3 s,rJ yo 0,rJ yo 1,rJ yo 2,rJ yo 3,B3 (s+5)]
theorem look{S S':Sto}{n k:Nat}{c:Cell}(s:Sm (S++ten S.length).length (S++ten S.length) S')(hk:(ten S.length)[k]? = some c)(hn:n=S.length+k):S'[n]? = some c:=by
 have hl:k<(ten S.length).length:=(ai.mp hk).1
 rw[s.same n (by rw[aV];omega),av (by omega),hn]
 rw[show S.length+k - S.length=k by omega];exact hk
theorem wu{S S':Sto}{ρ:Rho}{v p q x y:Nat}{T:Nat->Nat->Nat}(hv:ρ[v]? = some (some (.ref x)))(hx:S'[x]? = some (B3 y))(hy: ∀a,a<4->S'[y+a]? = some (rJ T a)){i j:Nat}(hi:ρ[p]? = some (some (.int i)))(hj:ρ[q]? = some (some (.int j)))(li:i<8)(lj:j<8):
  m2 oIx (m2 oIx (ae v) (m2 oDiv (ae p) (mC (.int 2)))) (m2 oDiv (ae q) (mC (.int 2))) ρ S'=some (.int (T (i / 2) (j / 2)),S'):=
 Bu (Bu (var_eq hv) (uc (y:=2) (var_eq hi) c_i (by decide) (by decide)) hx (lL (by omega))) (uc (y:=2) (var_eq hj) c_i (by decide) (by decide)) (hy _ (by omega)) (lL (by omega))
theorem jA{ρ:Rho}{S:Sto}{x y z w:Int}:dn (aa (mC (.int x)) (aa (mC (.int y)) (aa (mC (.int z)) (aa (mC (.int w)) ak)))) ρ S=some (.ref S.length,S++[Cell.lst [.int x,.int y,.int z,.int w]]):=by
 have hz:4<=big:=by decide
 simp[dn,aa,mC,ak,aF,hz]
theorem xr{ρ:Rho}{S S1 S2 S3 S4:Sto}{a b c d:ME}{x y z w:U}(ha:a ρ S=some (x,S1))(hb:b ρ S1=some (y,S2))(hc:c ρ S2=some (z,S3))(hd:d ρ S3=some (w,S4)):
  dn (aa a (aa b (aa c (aa d ak)))) ρ S=some (.ref S4.length,S4++[Cell.lst [x,y,z,w]]):=by
 have hz:4<=big:=by decide
 simp only[dn,aa,ak,aF,ha,hb,hc,hd]
 simp[hz]
theorem yI{S:Sto}: ∃S',gg [] S=some (tab 8 fX,S')/\Ex S S':=by
 have e0:=xr (ρ:= [none,none,none,none,none,none,none]) (S:=S) (jA (x:=0) (y:=0) (z:=0) (w:=0)) (jA (x:=0) (y:=1) (z:=0) (w:=1)) (jA (x:=0) (y:=1) (z:=1) (w:=0)) (jA (x:=0) (y:=0) (z:=1) (w:=1))
 have e1:=xr (ρ:= [some (.ref (S.length+4)),none,none,none,none,none,none]) (S:=S++(ten S.length).take 5) (jA (x:=0) (y:=1) (z:=2) (w:=3)) (jA (x:=1) (y:=0) (z:=3) (w:=2)) (jA (x:=2) (y:=3) (z:=0) (w:=1)) (jA (x:=3) (y:=2) (z:=1) (w:=0))
 have e0':=e0.trans (b:=_) (c:=some (U.ref (S.length+4),S++(ten S.length).take 5)) (by simp only[bz,aV];rfl)
 have e1':=e1.trans (b:=_) (c:=some (U.ref (S.length+9),S++ten S.length)) (by simp only[bz,aV];rfl)
 obtain⟨ρ1,S1,f1,q1,q2,q3⟩:=build (fs:=2) (rs:=4) (is:=3) (js:=5) (L:= [3,4,5,6]) (ρ0:= [some (.ref (S.length+4)),some (.ref (S.length+9)),some (.ref (S++ten S.length).length),none,none,none,none]) (S0:=S++ten S.length) (bIn:=GA) (a:=mC (.int 8)) (m:=8) (T:=fX)
  (by decide) (by decide) (by decide) (by decide) (by decide) (by decide) (by decide) (by decide) (by simp) (by simp) (by simp) rfl
  (λρ S' g s=>rfl)
  (λi j r ρ S' row hi hj g gi gj gr s hr he hl=>by
   have hlen:ρ.length=7:=g.1
   have hs: ∀a,a<4->S'[S.length+a]? = some (rJ oX a):=λa ha=>look (k:=a) s (by match a,ha with | 0,_=>rfl | 1,_=>rfl | 2,_=>rfl | 3,_=>rfl) rfl
   have hkk: ∀a,a<4->S'[S.length+5+a]? = some (rJ yo a):=λa ha=>look (k:=5+a) s (by match a,ha with | 0,_=>rfl | 1,_=>rfl | 2,_=>rfl | 3,_=>rfl) (by omega)
   have t1:=wu (S:=S) (T:=oX) (v:=0) (g.of (by decide) rfl) (look (k:=4) s rfl rfl) hs gi gj hi hj
   have e6:m2 oMod (m2 cP (m2 cP (ae 3) (ae 5)) (m2 oIx (m2 oIx (ae 0) (m2 oDiv (ae 3) (mC (.int 2)))) (m2 oDiv (ae 5) (mC (.int 2))))) (mC (.int 2)) ρ S'=some (.int ((i+j+oX (i / 2) (j / 2)) % 2:Nat),S'):=
    Ey (y:=2) (add_n (add_n (var_eq gi) (var_eq gj)) t1) c_i (by decide)
   have g':Agr [3,4,5,6] _ (ρ.set 6 (some (.int ((i+j+oX (i / 2) (j / 2)) % 2:Nat)))):=g.set (by decide)
   have n3:(ρ.set 6 (some (.int ((i+j+oX (i / 2) (j / 2)) % 2:Nat))))[3]? = some (some (.int i)):=by rw[aK (by decide)];exact gi
   have n4:(ρ.set 6 (some (.int ((i+j+oX (i / 2) (j / 2)) % 2:Nat))))[4]? = some (some (.ref r)):=by rw[aK (by decide)];exact gr
   have n5:(ρ.set 6 (some (.int ((i+j+oX (i / 2) (j / 2)) % 2:Nat))))[5]? = some (some (.int j)):=by rw[aK (by decide)];exact gj
   have t2:=wu (S:=S) (T:=yo) (v:=1) (g'.of (by decide) rfl) (look (k:=9) s rfl rfl) hkk n3 n5 hi hj
   have ev:m2 cP (m2 gI (mC (.int 2)) (m2 oIx (m2 oIx (ae 1) (m2 oDiv (ae 3) (mC (.int 2)))) (m2 oDiv (ae 5) (mC (.int 2))))) (ae 6) (ρ.set 6 (some (.int ((i+j+oX (i / 2) (j / 2)) % 2:Nat)))) S'=some (.int (fX i j:Nat),S'):=by
    rw[<- Bf hi hj]
    exact add_n (DI (x:=2) c_i t2 (by decide)) (var_eq (nD (by omega)))
   exact⟨_,_,(be (bI e6)).trans (append_eq (var_eq n4) ev he he hl),g',n3,n4,Wr.set _ _ _,aY (ai.mp he).1⟩)
 have f2:mFn cy (aa (ae 2) ak) ρ1 S1=some (tab 8 fX,S1):=kS (var_eq (q1.of (by decide) rfl)) q3
 refine⟨S1,dH (ρ:=ρ1) rfl ?_,Ex.trans ⟨ten S.length,rfl⟩ q2.toEx⟩
 show jH [none,none,none,none,none,none,none] S=_
 exact(be (bI e0')).trans ((be (bI e1')).trans ((be (bI kc)).trans ((be f1).trans (dG f2))))
end
end _W
end
section
namespace _W
open _L _G
section
theorem uq{e:ME}{ρ:Rho}(P:List U->Sto->Prop): ∀(us acc:List U) (S:Sto),P acc S ->
  (∀(k:Nat) (acc':List U) (u:U) (S:Sto),us[k]? = some u->acc'.length=acc.length+k->P acc' S -> ∃v S',e (ρ++[some u]) S=some (v,S')/\P (acc'++[v]) S') ->
  ∃ys S',hG cTT e ρ us acc S=some (ys,S')/\P ys S'/\ys.length=acc.length+us.length
 | [],acc,S,h,_=>⟨acc,S,rfl,h,by simp⟩
 | u::us,acc,S,h,st=>by
   obtain⟨v,S1,e1,h1⟩:=st 0 acc u S rfl (by simp) h
   obtain⟨ys,S2,e2,h2,h3⟩:=uq P us (acc++[v]) S1 h1 λk acc' w S hk hl hp=>st (k+1) acc' w S (by simpa using hk) (by simp at hl;omega) hp
   refine⟨ys,S2,?_,h2,by simp at h3 ⊢;omega⟩
   show bnd (cTT (ρ++[some u]) S) _=_
   simp only[cTT,aF,if_true]
   rw[e1]
   exact e2
theorem Ax{ρ:Rho}{S S0:Sto}{a e:ME}{n:Nat}(ha:a ρ S=some (.int n,S0))(hn:n<big)(P:List U->Sto->Prop)(h0:P [] S0)
  (hs: ∀(k:Nat) (acc:List U) (S:Sto),k<n->acc.length=k->P acc S -> ∃v S',e (ρ++[some (.int k)]) S=some (v,S')/\P (acc++[v]) S'):
  ∃ys S',mFn cy (aa (ck (iR1 (aa a ak)) cTT e) ak) ρ S=some (.tup ys,S'++[.lst ys])/\P ys S'/\ys.length=n:=by
 obtain⟨ys,S1,e1,h1,h2⟩:=uq (e:=e) (ρ:=ρ) P (bK 0 n) [] S0 h0 λk acc u S hk hl hp=>by
  have hlt:k<n:=by have:=(ai.mp hk).1;simpa [bK]using this
  have hu:(bK 0 n)[k]? = some (.int k):=by simp[bK,hlt]
  rw[hu]at hk;cases hk
  exact hs k acc S hlt (by simpa using hl) hp
 have hlen:(bK 0 n).length=n:=by simp[bK]
 rw[hlen]at h2
 simp only[eQ,d5]at h2
 exact⟨ys,S1,iq (nT (qw ha hn) e1 (by rw[h2];exact hn)),h1,h2⟩
theorem Stp.set{n r:Nat}{S S':Sto}{c:Cell}(h:Stp n S S')(hr:S.length<=r)(hn:r≠n):Stp n S (S'.set r c):=by
 refine⟨by rw[fM];exact h.len,λm h1 h2=>by rw[aK (by omega)];exact h.same m h1 h2,?_⟩
 obtain⟨s,b,e⟩:=h.st
 exact⟨s,b,by rw[aK hn];exact e⟩
theorem Stp.step{n:Nat}{S S1 S2:Sto}(a:Stp n S S1)(e:Ex S1 S2):Stp n S S2:=a.trans (Stp.ex a.st e)
theorem d7{f:MF}{ρ:Rho}{S S1 S2:Sto}{a b:ME}{x y:U}{r:Res U}(ha:a ρ S=some (x,S1))(hb:b ρ S1=some (y,S2))(h:f [x,y] S2=r):mFn f (aa a (aa b ak)) ρ S=r:=by
 simp only[mFn,aa,ak,ha,hb,aF,h]
theorem i6{f:MF}{ρ:Rho}{S S1:Sto}{a:ME}{x:U}{r:Res U}(ha:a ρ S=some (x,S1))(h:f [x] S1=r):mFn f (aa a ak) ρ S=r:=by
 simp only[mFn,mE ha,aF,h]
theorem xg{ρ:Rho}{S:Sto}{a:ME}{r:Nat}{us:List U}(ha:a ρ S=some (.ref r,S))(hr:S[r]? = some (Cell.lst us)):mFn cN (aa a ak) ρ S=some (.int us.length,S):=
 i6 ha (by simp only[cN,gf,eP,getL,hr,aT])
theorem um{α β:Type}(f:α->β): ∀(l:List α) (j:Nat),(l.map f).eraseIdx j=(l.eraseIdx j).map f
 | [],_=>rfl
 | _::_,0=>rfl
 | x::l,j+1=>by simp[um f l j]
noncomputable def az(l:List Nat):List U:=l.map λ(x:Nat)=>U.int x
theorem v8{ρ:Rho}{S S1:Sto}{o a:ME}{r:Nat}{l:List Nat}{j:Nat}(ho:o ρ S=some (.ref r,S))(ha:a ρ S=some (.int j,S1))(hr:S[r]? = some (Cell.lst (az l)))(hr1:S1[r]? = some (Cell.lst (az l)))(hj:j<l.length)(hl:l.length<big):
  mML ke o (aa a ak) ρ S=some (.int l[j],S1.set r (Cell.lst (az (l.eraseIdx j)))):=by
 have hok:okR (j:Int):=qp (by exact dI (by assumption) (by assumption))
 have hx:ixN (az l).length (j:Int)=some j:=by
  have:(az l).length=l.length:=by simp[az]
  rw[this];simp[ixN,hj]
 have hg:(az l)[j]? = some (.int l[j]):=by simp[az,hj]
 have he:(az l).eraseIdx j=az (l.eraseIdx j):=um _ _ _
 simp only[mML,ho,aF,getL,hr,ag,mE ha,ke,hr1,hok,if_true,hx,hg,aT,he]
theorem uh{ρ:Rho}{S:Sto}{a b:ME}{i j:Int}(ha:a ρ S=some (.int i,S))(hb:b ρ S=some (.int j,S))(h1:okR i)(h2:okR j)(hz:(bK i (j - i).toNat).length<=big):kh (iR2 (aa a (aa b ak))) ρ S=some (.ref S.length,S++[Cell.lst (bK i (j - i).toNat)]):=by
 have e:iR2 (aa a (aa b ak)) ρ S=some (.imm (bK i (j - i).toNat),S):=by
  unfold iR2
  simp only[aa,ak,ha,hb,aF]
  exact if_pos ⟨h1,h2⟩
 simp only[kh,e,aF,hz,if_true]
theorem cat_t{ρ:Rho}{S S1 S2:Sto}{a b:ME}{xs ys:List U}(ha:a ρ S=some (.tup xs,S1))(hb:b ρ S1=some (.tup ys,S2))(hz:xs.length+ys.length<=big):m2 cP a b ρ S=some (.tup (xs++ys),S2):=op2 ha hb (by simp only[cP,hz,if_true])
theorem kg(m:Nat)(hm:0<m):bK 1 ((m:Int) - 1).toNat=az (aO 1 (m - 1)):=by
 have e:((m:Int) - 1).toNat=m - 1:=by omega
 rw[e]
 unfold bK az
 rw[List.range'_eq_map_range,bX]
 apply bH
 intro k _
 simp
theorem Cf{n m:Nat}{S:Sto}(h:oW n S)(hm:0<m)(hm2:m<1000): ∃l S',jB [.ref n,.int m] S=some (.tup (az l),S')/\Stp n S S'/\oK m l:=by
 have hn:=h.lt
 have hbig:m<big:=by unfold big;exact ao (by assumption) (by decide)
 have e0:kh (iR2 (aa (mC (.int 1)) (aa (ae 1) ak))) [some (.ref n),some (.int m),none] S=some (.ref S.length,S++[Cell.lst (az (aO 1 (m - 1)))]):=by
  rw[uh (i:=1) (j:=m) rfl (var_eq rfl) ⟨by decide,by decide⟩ (qp hbig) (by rw[kg m hm,az,aq,List.length_range'];exact aM (nv m 1) (aU hbig)),kg m hm]
 have st0:Stp n S (S++[Cell.lst (az (aO 1 (m - 1)))]):=Stp.ex h (Ex.push _ _)
 obtain⟨ys,S1,e1,⟨tk,rem,rfl,q1,q2,q3⟩,e2⟩:=Ax (ρ:= [some (.ref n),some (.int m),some (.ref S.length)]) (S:=S++[Cell.lst (az (aO 1 (m - 1)))]) (S0:=S++[Cell.lst (az (aO 1 (m - 1)))])
  (a:=m2 mR (ae 1) (mC (.int 1))) (e:=mML ke (ae 2) (aa (mFn bf (aa (ae 0) (aa (mFn cN (aa (ae 2) ak)) ak))) ak)) (n:=m - 1)
  (by rw[Ad (var_eq rfl) c_i];congr 3;exact(Int.natCast_sub hm).symm) (aL (nv m 1) hbig)
  (λacc S' =>∃tk rem:List Nat,acc=az tk/\S'[S.length]? = some (Cell.lst (az rem))/\(tk++rem).Perm (aO 1 (m - 1))/\Stp n S S')
  ⟨[],aO 1 (m - 1),rfl,by rw[av (ah _)];simp,by simp,st0⟩
  (by
   rintro k acc S' hk hl ⟨tk,rem,rfl,q1,q2,q3⟩
   have htk:tk.length=k:=by simpa [az]using hl
   have hrem:rem.length=m - 1 - k:=by
    have:=q2.length_eq
    rw[aV,List.length_range',htk]at this
    rw[<- this,BY]
   have hr0:0<rem.length:=by rw[hrem];exact Nat.sub_pos_of_lt hk
   have hr1:rem.length<1000:=by rw[hrem];exact aL (aM (nv _ _) (nv _ _)) hm2
   obtain⟨r,S2,t1,t2,t3,t4,t5⟩:=zN (many:=(rem.length:Int)) q3.st (fK.mpr hr0) (by omega)
   obtain⟨j,rfl⟩:=BZ t2
   have hj:j<rem.length:=fK.mp t3
   have ho: ∀S',ae 2 ([some (U.ref n),some (.int m),some (.ref S.length)]++[some (.int k)]) S'=some (.ref S.length,S'):=λS'=>var_eq rfl
   have hv: ∀S',ae 0 ([some (U.ref n),some (.int m),some (.ref S.length)]++[some (.int k)]) S'=some (.ref n,S'):=λS'=>var_eq rfl
   have hlen:mFn cN (aa (ae 2) ak) ([some (U.ref n),some (.int m),some (.ref S.length)]++[some (.int k)]) S'=some (.int rem.length,S'):=by
    rw[xg (ho _) q1];simp[az]
   have q1':S2[S.length]? = some (Cell.lst (az rem)):=t4.some (by exact b0 (by assumption)) q1
   refine⟨_,_,v8 (ho _) (d7 (hv _) hlen t1) q1 q1' hj (by unfold big;exact ao hr1 (by decide)),tk++[rem[j]],rem.eraseIdx j,by simp[az],?_,?_,?_⟩
   ·exact aY (ai.mp q1').1
   ·refine List.Perm.trans ?_ q2
    rw[bz]
    exact(qH rem j hj).append_left tk
   ·exact(q3.trans t4).set (ah _) (by exact b0 (by assumption)))
 have hrem:rem = []:=by
  have:=q2.length_eq
  simp[az]at this e2
  exact cD (by omega)
 subst hrem
 rw[hZ]at q2
 refine⟨0::tk,S1++[Cell.lst (az tk)],dH (ρ:= [some (.ref n),some (.int m),some (.ref S.length)]) rfl ?_,q3.step (Ex.push _ _),A4 hm q2⟩
 show lz [some (.ref n),some (.int m),none] S=_
 refine(be (bI e0)).trans (dG ?_)
 have ez:cX (aa (mC (.int 0)) ak) [some (.ref n),some (.int m),some (.ref S.length)] (S++[Cell.lst (az (aO 1 (m - 1)))])=some (.tup [.int 0],S++[Cell.lst (az (aO 1 (m - 1)))]):=by
  have hb1:1<=big:=by decide
  simp[cX,mE (show mC (.int 0) _ _=some (U.int 0,S++[Cell.lst (az (aO 1 (m - 1)))]) from rfl),aF,hb1]
 exact cat_t ez e1 (by simp[az]at e2 ⊢;omega)
theorem GX{S:Sto}{f:Nat}{i:Int}:toD S (f+1) (.int i)=some (.int i):=rfl
theorem qP{S:Sto}{f:Nat}: ∀(l:List Nat),dq (toD S (f+1)) (az l)=some (l.map λ(x:Nat)=>fO x)
 | []=>rfl
 | x::l=>by
   show(toD S (f+1) (.int x)).bind _=_
   rw[GX]
   simp only[ag]
   rw[show oH (λ(x:Nat)=>U.int x) l=az l from rfl,qP l]
   rfl
theorem wa(x:Nat): ∀(l:List Nat),x∈l->(l.map λ(x:Nat)=>fO x).findIdx? (λy=>eN y (.int x))=some (l.idxOf x)
 | [],h=>by simp at h
 | y::l,h=>by
   have e:eN (.int y) (.int x)=decide (y=x):=by
    simp[eN]
    by_cases hxy:y=x
    ·subst hxy;simp
    ·have: ¬((y:Int)=x):=by omega
     simp[hxy,this]
   rw[bg,qC,e,List.idxOf_cons]
   by_cases hxy:y=x
   ·subst hxy;simp
   ·have hm:x∈l:=by
     rcases aG.mp h with z |z
     ·exact absurd z.symm hxy
     ·exact z
    have hb:(y==x)=false:=by simpa using hxy
    rw[wa x l hm]
    simp[hxy,hb]
theorem FT{S:Sto}{x:Nat}{l:List Nat}(h:x∈l):ES S (.int x) (az l)=some (l.idxOf x):=by
 unfold ES
 rw[qP l]
 simp only[ag]
 rw[show toD S 40 (.int x)=some (.int x) from rfl]
 exact wa x l h
theorem wR{ρ:Rho}{S S1:Sto}{o a:ME}{l:List Nat}{x:Nat}(ho:o ρ S=some (.tup (az l),S))(ha:a ρ S=some (.int x,S1))(h:x∈l):mMT iz o (aa a ak) ρ S=some (.int (l.idxOf x:Nat),S1):=by
 simp only[mMT,ho,aF,mE ha,iz,FT h,aT]
 rfl
theorem sf{l:List Nat}{j:Nat}{u:U}(h:(az l)[j]? = some u):j<l.length/\u = .int (oF l j):=by
 have hl:j<l.length:=by have:=(ai.mp h).1;simpa [az]using this
 have:(az l)[j]? = some (.int l[j]):=by simp[az,hl]
 rw[this]at h;cases h
 exact⟨hl,by simp[oF,hl]⟩
theorem dg(l:List Nat):(az l).length=l.length:=by simp[az]
theorem Ec{m:Nat}{T:Nat->Nat->Nat}{l:List Nat}{S:Sto}(hm:m<big)(g: ∀i j,i<m->j<m->T i j<m)(ho:oK m l): ∃S',jv [tab m T,.tup (az l)] S=some (tab m (kX T (oF l) (pF l)),S')/\Ex S S':=by
 have hlen:=ho.len
 obtain⟨S1,e1,h1⟩:=NY (ρ:= [some (tab m T),some (.tup (az l))]) (S:=S) (S0:=S) (a:=ae 1) (us:=az l) (e:=mFn cy (aa (ck (cu (ae 1)) cTT (mMT iz (ae 1) (aa (m2 oIx (m2 oIx (ae 0) (ae 2)) (ae 3)) ak))) ak))
  (var_eq rfl) (by rw[dg,hlen];exact hm) (nM m (kX T (oF l) (pF l))) (λ_ S'=>Ex S S') (Ex.refl _) (by
   intro i u S' hu hx
   obtain⟨hi,rfl⟩:=sf hu
   rw[hlen]at hi
   obtain⟨S2,e2,h2⟩:=NY (ρ:= [some (tab m T),some (.tup (az l)),some (.int (oF l i))]) (S:=S') (S0:=S') (a:=ae 1) (us:=az l) (e:=mMT iz (ae 1) (aa (m2 oIx (m2 oIx (ae 0) (ae 2)) (ae 3)) ak))
    (var_eq rfl) (by rw[dg,hlen];exact hm) (λj => .int (kX T (oF l) (pF l) i j)) (λ_ S''=>S''=S') rfl (by
     intro j u S'' hu hx
     obtain⟨hj,rfl⟩:=sf hu
     rw[hlen]at hj
     refine⟨S'',?_,hx⟩
     exact wR (var_eq rfl) (ki (ho.ord.ol j hj) (jI (ho.ord.ol i hi) (var_eq rfl) (var_eq rfl)) (var_eq rfl)) (ho.mem.mpr (g _ _ (ho.ord.ol i hi) (ho.ord.ol j hj))))
   subst h2
   rw[dg,hlen]at e2
   exact⟨_,e2,hx.trans (Ex.push _ _)⟩)
 rw[dg,hlen]at e1
 exact⟨_,dH (ρ:= [some (tab m T),some (.tup (az l))]) rfl (show kQ [some (tab m T),some (.tup (az l))] S=_ from dG e1),h1.trans (Ex.push _ _)⟩
end
end _W
end
section
namespace _W
open _L _G
section
theorem AM{ρ:Rho}{S S1 S2:Sto}{a b:ME}{x y:Int}(ha:a ρ S=some (.int x,S1))(hb:b ρ S1=some (.int y,S2)):m2 oEq a b ρ S=some (.bl (x==y),S2):=op2 ha hb rfl
theorem Dg{ρ:Rho}{S S1 S2:Sto}{a b:ME}{x y:Int}(ha:a ρ S=some (.int x,S1))(hb:b ρ S1=some (.int y,S2)):m2 oGt a b ρ S=some (.bl (decide (y<x)),S2):=op2 ha hb rfl
theorem of_eq{ρ:Rho}{S S1:Sto}{a:ME}{b:Bool}(h:a ρ S=some (.bl b,S1)):cOf a ρ S=some (b,S1):=by simp only[cOf,h,aF]
theorem or_eq{ρ:Rho}{S S1 S2:Sto}{a b:MT}{x y:Bool}(ha:a ρ S=some (x,S1))(hb:b ρ S1=some (y,S2))(e:x=true->S2=S1):cOr a b ρ S=some (x||y,S2):=by
 cases x
 ·simp[cOr,ha,hb,aF]
 ·simp[cOr,ha,aF,e rfl]
theorem and_eq{ρ:Rho}{S S1 S2:Sto}{a b:MT}{x y:Bool}(ha:a ρ S=some (x,S1))(hb:b ρ S1=some (y,S2))(e:x=false->S2=S1):tH a b ρ S=some (x&&y,S2):=by
 cases x
 ·simp[tH,ha,aF,e rfl]
 ·simp[tH,ha,hb,aF]
theorem rE{c:MT}{a b:MS}{ρ:Rho}{S S1:Sto}(h:c ρ S=some (true,S1)):sIf c a b ρ S=a ρ S1:=by simp[sIf,h,aF]
theorem oO{c:MT}{a b:MS}{ρ:Rho}{S S1:Sto}(h:c ρ S=some (false,S1)):sIf c a b ρ S=b ρ S1:=by simp[sIf,h,aF]
theorem jn{n m:Nat}{S:Sto}(h:oW n S)(hm:0<m)(hm2:m<1000): ∃r S',bf [.ref n,.int m] S=some (.int (r:Nat),S')/\r<m/\Stp n S S':=by
 obtain⟨r,S',e,h1,h2,h3,_⟩:=zN (many:=(m:Int)) h (by omega) (by omega)
 obtain⟨r,rfl⟩:=BZ h1
 exact⟨r,S',e,by omega,h3⟩
noncomputable def gA:MS:=sIf (cOr (cOf (m2 oEq (ae 2) (mC (.int 1)))) (cOf (m2 oEq (ae 2) (mC (.int 2))))) (bJ 3 (mFn fC (aa (m2 cP (mC (.int 1)) (mFn bf (aa (ae 0) (aa (m2 oDiv (ae 1) (mC (.int 2))) ak)))) ak))) eC
noncomputable def gB:MS:=sIf (tH (cOf (m2 oEq (ae 2) (mC (.int 3)))) (cOf (m2 oGt (ae 1) (mC (.int 7))))) (bJ 3 (mFn gg ak)) eC
noncomputable def gC:MS:=sIf (cOf (m2 oGt (ae 2) (mC (.int 3)))) (br (bJ 4 (m2 cP (mC (.int 2)) (mFn bf (aa (ae 0) (aa (mC (.int 3)) ak))))) (br (bJ 5 (m2 oIx (dn (aa (mFn dm (aa (ae 4) ak)) (aa (mFn fC (aa (ae 4) ak)) ak))) (mFn bf (aa (ae 0) (aa (mC (.int 2)) ak))))) (br (sIf (cOf (m2 oGt (mFn cN (aa (ae 5) ak)) (ae 1))) (bJ 5 (mFn dm (aa (ae 4) ak))) eC) (bJ 3 (mFn j5 (aa (ae 5) (aa (mFn dm (aa (m2 cP (mC (.int 1)) (mFn bf (aa (ae 0) (aa (m2 oDiv (ae 1) (mFn cN (aa (ae 5) ak))) ak)))) ak)) ak))))))) eC
noncomputable def gD:MS:=sIf (cOf (m2 oEq (mFn bf (aa (ae 0) (aa (mC (.int 3)) ak))) (mC (.int 0)))) (bJ 3 (mFn jv (aa (ae 3) (aa (mFn jB (aa (ae 0) (aa (mFn cN (aa (ae 3) ak)) ak))) ak)))) eC
structure Gs(n most way:Nat)(S0:Sto)(ρ:Rho)(S:Sto):Prop where
 ex: ∃m T x y,ρ = [some (.ref n),some (.int most),some (.int way),some (tab m T),x,y]/\Grp m T/\m<=most
 st:Stp n S0 S
section
variable {n most way:Nat}{S0 S:Sto}{ρ:Rho}
theorem M0(h6:6<=most)(hm:most<1000)(g:Gs n most way S0 ρ S): ∃ρ' S',gA ρ S=some (.nx,ρ',S')/\Gs n most way S0 ρ' S':=by
 obtain⟨⟨m,T,x,y,rfl,gr,hle⟩,st⟩:=g
 have hc:=or_eq (of_eq (AM (ρ:= [some (.ref n),some (.int most),some (.int way),some (tab m T),x,y]) (S:=S) (a:=ae 2) (b:=mC (.int 1)) (var_eq rfl) c_i)) (of_eq (AM (a:=ae 2) (b:=mC (.int 2)) (var_eq rfl) c_i)) λ_=>rfl
 cases hb:(((way:Int)==1)||((way:Int)==2)) with
 | false=>
   rw[hb]at hc
   exact⟨_,S,oO hc,⟨m,T,x,y,rfl,gr,hle⟩,st⟩
 | true=>
   rw[hb]at hc
   obtain⟨r,S1,e1,w1,s1⟩:=jn (m:=most / 2) st.st (by omega) (by omega)
   obtain⟨S2,e2,s2⟩:=wF (n:=1+r) (S:=S1) (by exact bU (by decide) _) (by omega)
   refine⟨_,S2,(rE hc).trans (bI (i6 (x:= .int (1+r:Nat)) (add_n (x:=1) c_i (d7 (var_eq rfl) (uc (y:=2) (var_eq rfl) c_i (by decide) (by decide)) e1)) e2)),⟨_,_,x,y,rfl,xi (by exact bU (by decide) _),by omega⟩,(st.trans s1).step s2⟩
theorem Ll(g:Gs n most way S0 ρ S): ∃ρ' S',gB ρ S=some (.nx,ρ',S')/\Gs n most way S0 ρ' S':=by
 obtain⟨⟨m,T,x,y,rfl,gr,hle⟩,st⟩:=g
 have hc:=and_eq (of_eq (AM (ρ:= [some (.ref n),some (.int most),some (.int way),some (tab m T),x,y]) (S:=S) (a:=ae 2) (b:=mC (.int 3)) (var_eq rfl) c_i)) (of_eq (Dg (a:=ae 1) (b:=mC (.int 7)) (var_eq rfl) c_i)) λ_=>rfl
 cases hb:(((way:Int)==3)&&decide ((7:Int)<most)) with
 | false=>
   rw[hb]at hc
   exact⟨_,S,oO hc,⟨m,T,x,y,rfl,gr,hle⟩,st⟩
 | true=>
   rw[hb]at hc
   obtain⟨S2,e2,s2⟩:=yI (S:=S)
   have h7:(7:Int)<most:=by simp at hb;exact hb.2
   refine⟨_,S2,(rE hc).trans (bI (show mFn gg ak _ S=_ from e2)),⟨_,_,x,y,rfl,AV,by omega⟩,st.step s2⟩
theorem Eo{ρ:Rho}{S S1 S2:Sto}{a b:ME}{x y:U}(ha:a ρ S=some (x,S1))(hb:b ρ S1=some (y,S2)):dn (aa a (aa b ak)) ρ S=some (.ref S2.length,S2++[Cell.lst [x,y]]):=by
 have hz:2<=big:=by decide
 simp[dn,aa,ak,aF,ha,hb,hz]
theorem Ms(h6:6<=most)(hm:most<1000)(g:Gs n most way S0 ρ S): ∃ρ' S',gC ρ S=some (.nx,ρ',S')/\Gs n most way S0 ρ' S':=by
 obtain⟨⟨m,T,x,y,rfl,gr,hle⟩,st⟩:=g
 have hbig: ∀x,x<=most->x<big:=λx hx=>by unfold big;exact aL (by assumption) (ao (by assumption) (by decide))
 have hc:=of_eq (Dg (ρ:= [some (.ref n),some (.int most),some (.int way),some (tab m T),x,y]) (S:=S) (a:=ae 2) (b:=mC (.int 3)) (var_eq rfl) c_i)
 cases hb:decide ((3:Int)<way) with
 | false=>
   rw[hb]at hc
   exact⟨_,S,oO hc,⟨m,T,x,y,rfl,gr,hle⟩,st⟩
 | true=>
   rw[hb]at hc
   obtain⟨r,S1,e1,w1,s1⟩:=jn (m:=3) st.st (by decide) (by decide)
   have f1:m2 cP (mC (.int 2)) (mFn bf (aa (ae 0) (aa (mC (.int 3)) ak))) [some (.ref n),some (.int most),some (.int way),some (tab m T),x,y] S=some (.int (2+r:Nat),S1):=
    add_n (x:=2) c_i (d7 (var_eq rfl) c_i e1)
   have h24:2+r<=4:=Nat.add_le_add_left (eT w1) 2
   have h2m:2+r<=most:=aM h24 (aM (by decide) h6)
   obtain⟨S2,e2,s2⟩:=lu (n:=2+r) (S:=S1) (by exact bU (by decide) _) (hbig _ h2m)
   obtain⟨S3,e3,s3⟩:=wF (n:=2+r) (S:=S2) (by exact bU (by decide) _) (aL h24 (by decide))
   have st3:Stp n S0 (S3++[Cell.lst [tab (2+r) (eW (2+r)),tab (2*(2+r)) (gE (2+r))]]):=(((st.trans s1).step s2).step s3).step (Ex.push _ _)
   obtain⟨q,S4,e4,w4,s4⟩:=jn (m:=2) st3.st (by decide) (by decide)
   have hcell:S4[S3.length]? = some (Cell.lst [tab (2+r) (eW (2+r)),tab (2*(2+r)) (gE (2+r))]):=by
    refine s4.some ?_ (by rw[av (ah _)];simp)
    have:=(((st.trans s1).step s2).step s3).st.lt
    exact b0 (by assumption)
   have one: ∃k K,atI [tab (2+r) (eW (2+r)),tab (2*(2+r)) (gE (2+r))] (q:Int)=some (tab k K)/\Grp k K/\k<=8:=by
    rcases q with _ |_ |q
    ·exact⟨_,_,rfl,jM (by exact bU (by decide) _),aM h24 (by decide)⟩
    ·exact⟨_,_,rfl,xi (by exact bU (by decide) _),p8 2 h24⟩
    ·exact absurd (i0 (i0 w4)) (Nat.not_lt_zero _)
   obtain⟨k,K,hix,gk,hk8⟩:=one
   have f5:m2 oIx (dn (aa (mFn dm (aa (ae 4) ak)) (aa (mFn fC (aa (ae 4) ak)) ak))) (mFn bf (aa (ae 0) (aa (mC (.int 2)) ak))) [some (.ref n),some (.int most),some (.int way),some (tab m T),some (.int (2+r:Nat)),y] S1=some (tab k K,S4):=
    Bu (Eo (i6 (x:= .int (2+r:Nat)) (var_eq rfl) e2) (i6 (x:= .int (2+r:Nat)) (var_eq rfl) e3)) (d7 (var_eq rfl) c_i e4) hcell hix
   have st4:=st3.trans s4
   have cut: ∃k' K' S5,sIf (cOf (m2 oGt (mFn cN (aa (ae 5) ak)) (ae 1))) (bJ 5 (mFn dm (aa (ae 4) ak))) eC [some (.ref n),some (.int most),some (.int way),some (tab m T),some (.int (2+r:Nat)),some (tab k K)] S4 =
     some (.nx,[some (.ref n),some (.int most),some (.int way),some (tab m T),some (.int (2+r:Nat)),some (tab k' K')],S5)/\Grp k' K'/\k'<=most/\k'<=8/\Stp n S0 S5:=by
    have hc2:=of_eq (Dg (ρ:= [some (.ref n),some (.int most),some (.int way),some (tab m T),some (.int (2+r:Nat)),some (tab k K)]) (S:=S4) (a:=mFn cN (aa (ae 5) ak)) (b:=ae 1) (len_tab (var_eq rfl)) (var_eq rfl))
    cases hb2:decide ((most:Int)<k) with
    | false=>
      rw[hb2]at hc2
      have: ¬((most:Int)<k):=by simpa using hb2
      exact⟨k,K,S4,oO hc2,gk,bC λz=>this (fK.mpr z),hk8,st4⟩
    | true=>
      rw[hb2]at hc2
      obtain⟨S5,e5,s5⟩:=lu (n:=2+r) (S:=S4) (by exact bU (by decide) _) (hbig _ h2m)
      exact⟨_,_,S5,(rE hc2).trans (bI (i6 (x:= .int (2+r:Nat)) (var_eq rfl) e5)),jM (by exact bU (by decide) _),h2m,aM h24 (by decide),st4.step s5⟩
   obtain⟨k',K',S5,f6,gk',hkm,hk8',st5⟩:=cut
   have kp:=gk'.pos
   have hdiv:0<most / k':=Nat.div_pos hkm kp
   have hdl:most / k'<=most:=Nat.div_le_self _ _
   obtain⟨t,S6,e6,w6,s6⟩:=jn (m:=most / k') st5.st hdiv (by exact aL (by assumption) (by assumption))
   have h1t:1+t<=most / k':=by rw[tP];exact w6
   obtain⟨S7,e7,s7⟩:=lu (n:=1+t) (S:=S6) (by exact bU (by decide) _) (hbig _ (aM h1t hdl))
   obtain⟨S8,e8,s8⟩:=Hr (k:=k') (m:=1+t) (A:=K') (B:=eW (1+t)) (S:=S7) kp (by exact aL (by assumption) (by decide)) (by exact bU (by decide) _) (aL (aM h1t hdl) hm) gk'.cl
   have hsz:k'*(1+t)<=most:=aM (p8 k' h1t) (Nat.mul_div_le most k')
   refine⟨_,S8,(rE hc).trans ((be (bI f1)).trans ((be (bI f5)).trans ((be f6).trans (bI (d7 (var_eq rfl) (i6 (x:= .int (1+t:Nat)) ?_ e7) e8))))),⟨_,_,_,_,rfl,EA gk' (jM (by exact bU (by decide) _)),hsz⟩,((st5.trans s6).step s7).step s8⟩
   exact add_n (x:=1) c_i (d7 (var_eq rfl) (uc (var_eq rfl) (len_tab (var_eq rfl)) kp (by exact aL (by assumption) (by decide))) e6)
theorem Lw(hm:most<1000)(g:Gs n most way S0 ρ S): ∃ρ' S',gD ρ S=some (.nx,ρ',S')/\Gs n most way S0 ρ' S':=by
 obtain⟨⟨m,T,x,y,rfl,gr,hle⟩,st⟩:=g
 obtain⟨r,S1,e1,w1,s1⟩:=jn (m:=3) st.st (by decide) (by decide)
 have hc:=of_eq (AM (ρ:= [some (.ref n),some (.int most),some (.int way),some (tab m T),x,y]) (S:=S) (a:=mFn bf (aa (ae 0) (aa (mC (.int 3)) ak))) (b:=mC (.int 0)) (d7 (var_eq rfl) c_i e1) c_i)
 cases hb:((r:Int)==0) with
 | false=>
   rw[hb]at hc
   exact⟨_,S1,oO hc,⟨m,T,x,y,rfl,gr,hle⟩,st.trans s1⟩
 | true=>
   rw[hb]at hc
   obtain⟨l,S2,e2,s2,ol⟩:=Cf (m:=m) s1.st gr.pos (by exact aL (by assumption) (by assumption))
   obtain⟨S3,e3,s3⟩:=Ec (m:=m) (T:=T) (S:=S2) (by unfold big;exact aL (by assumption) (ao (by assumption) (by decide))) gr.cl ol
   refine⟨_,S3,(rE hc).trans (bI (d7 (var_eq rfl) (d7 (var_eq rfl) (len_tab (var_eq rfl)) e2) e3)),⟨_,_,x,y,rfl,Bq gr ol.ord,hle⟩,((st.trans s1).trans s2).step s3⟩
end
theorem Cd{n most:Nat}{S:Sto}(h:oW n S)(h6:6<=most)(hm:most<1000): ∃m T S',kR [.ref n,.int most] S=some (tab m T,S')/\Grp m T/\m<=most/\Stp n S S':=by
 have hbig: ∀x,x<=most->x<big:=λx hx=>by unfold big;exact aL (by assumption) (ao (by assumption) (by decide))
 obtain⟨way,S1,e1,w1,s1⟩:=jn (m:=8) h (by decide) (by decide)
 obtain⟨r2,S2,e2,w2,s2⟩:=jn (m:=most) s1.st (by exact tT (by assumption)) hm
 obtain⟨S3,e3,s3⟩:=lu (n:=1+r2) (S:=S2) (by exact bU (by decide) _) (hbig _ (by omega))
 have f1:m2 cP (mC (.int 1)) (mFn bf (aa (ae 0) (aa (ae 1) ak))) [some (.ref n),some (.int most),some (.int way),none,none,none] S1=some (.int (1+r2:Nat),S2):=add_n (x:=1) (y:=r2) c_i (d7 (var_eq rfl) (var_eq rfl) e2)
 have g0:Gs n most way S [some (.ref n),some (.int most),some (.int way),some (tab (1+r2) (eW (1+r2))),none,none] S3:=⟨⟨_,_,none,none,rfl,jM (by exact bU (by decide) _),by omega⟩,(s1.trans s2).step s3⟩
 obtain⟨ρ4,S4,e4,g4⟩:=M0 h6 hm g0
 obtain⟨ρ5,S5,e5,g5⟩:=Ll g4
 obtain⟨ρ6,S6,e6,g6⟩:=Ms h6 hm g5
 obtain⟨ρ7,S7,e7,g7⟩:=Lw hm g6
 obtain⟨⟨m,T,x,y,rfl,gr,hle⟩,st⟩:=g7
 refine⟨m,T,S7,dH (ρ:= [some (.ref n),some (.int most),some (.int way),some (tab m T),x,y]) rfl ?_,gr,hle,st⟩
 show lr [some (.ref n),some (.int most),none,none,none,none] S=_
 exact(be (bI (d7 (var_eq rfl) c_i e1))).trans ((be (bI (i6 f1 e3))).trans ((be e4).trans ((be e5).trans ((be e6).trans ((be e7).trans (dG (var_eq rfl)))))))
end
end _W
end
section
namespace _W
open _L _G
section
noncomputable def Scr(ns:List Int)(S:Sto):Prop:=getL S 0=some (ns.map U.int)
theorem Scr.ex{ns:List Int}{S S':Sto}(h:Scr ns S)(e: ∀c,S[0]? = some c->S'[0]? = some c):Scr ns S':=by
 unfold Scr getL at h ⊢
 split at h
 ·rename_i us q;rw[e _ q];exact h
 ·rename_i us q;rw[e _ q];exact h
 ·cases h
 ·cases h
theorem Scr.lt{ns:List Int}{S:Sto}(h:Scr ns S):0<S.length:=by
 unfold Scr getL at h
 split at h
 ·rename_i q;exact(ai.mp q).1
 ·rename_i q;exact(ai.mp q).1
 ·cases h
 ·cases h
theorem de{α:Type}(S:List α)(c:α):(S++[c])[S.length]? = some c:=by
 rw[av (ah _)];simp
theorem Gy{ρ:Rho}{S S1 S2:Sto}{a b:ME}{x y:Int}(ha:a ρ S=some (.int x,S1))(hb:b ρ S1=some (.int y,S2)):m2 oLt a b ρ S=some (.bl (decide (x<y)),S2):=op2 ha hb rfl
theorem OD{ρ:Rho}{S S1 S2:Sto}{a b:ME}{x y:Int}(ha:a ρ S=some (.int x,S1))(hb:b ρ S1=some (.int y,S2)):m2 oGe a b ρ S=some (.bl (decide (y<=x)),S2):=op2 ha hb rfl
theorem HU{S:Sto}{r:Nat}{us:List U}(h:getL S r=some us):gf S (.ref r)=none:=by
 unfold getL at h
 show(match S[r]? with
  | some (.dic kvs)=>some kvs
  | _=>none)=none
 split at h <;> rename_i q <;> first | (cases h;done) | (rw[q])
theorem IH{ρ:Rho}{S:Sto}{a:ME}{r:Nat}{us:List U}(ha:a ρ S=some (.ref r,S))(hr:getL S r=some us):mFn cN (aa a ak) ρ S=some (.int us.length,S):=
 i6 ha (by simp only[cN,HU hr,eP,hr,aT])
theorem OE{ρ:Rho}{S S1 S2:Sto}{a b:ME}{n:Nat}{us:List U}{z:Int}{u:U}(ha:a ρ S=some (.ref n,S1))(hb:b ρ S1=some (.int z,S2))(hn:getL S2 n=some us)(h:atI us z=some u):m2 oIx a b ρ S=some (u,S2):=op2 ha hb (by simp only[oIx,HU hn,eP,hn,ag,h,aT])
theorem qc{α:Type}{us:List α}{k:Nat}{u:α}(h:us[k]? = some u):atI us (k:Int)=some u:=by
 have hk:k<us.length:=(ai.mp h).1
 simp[atI,ixN,hk]
 exact(ai.mp h).2
theorem HI{ns:List Int}{S:Sto}{k:Nat}(h:Scr ns S): ∃z,iy [.ref 0,.int k] S=some (.int z,S):=by
 have hc:=of_eq (Gy (ρ:= [some (.ref 0),some (.int k)]) (S:=S) (a:=ae 1) (b:=mFn cN (aa (ae 0) ak)) (var_eq rfl) (IH (var_eq rfl) h))
 rw[aq]at hc
 cases hb:decide ((k:Int)<ns.length) with
 | true=>
   rw[hb]at hc
   have hk:k<ns.length:=by simpa using hb
   have e:=OE (ρ:= [some (.ref 0),some (.int k)]) (S:=S) (a:=ae 0) (b:=ae 1) (var_eq rfl) (var_eq rfl) h (qc (k:=k) (u:= .int ns[k]) (by simp[hk]))
   refine⟨ns[k],dH (ρ:= [some (.ref 0),some (.int k)]) rfl ?_⟩
   show gh [some (.ref 0),some (.int k)] S=_
   unfold gh br
   rw[rE hc,dG e]
 | false=>
   rw[hb]at hc
   refine⟨0,dH (ρ:= [some (.ref 0),some (.int k)]) rfl ?_⟩
   show gh [some (.ref 0),some (.int k)] S=_
   exact(be ((oO hc).trans rfl)).trans (dG c_i)
theorem IE{ρ:Rho}{S:Sto}:m2 nQ (mC (.int 10)) (mC (.int 18)) ρ S=some (.int (10 ^ (18:Int).toNat),S):=op2 rfl rfl (if_pos ⟨by decide,by decide,by decide⟩)
theorem Dp{ns:List Int}{S:Sto}{k:Nat}(h:Scr ns S): ∃S',jC [.ref 0,.int k] S=some (.ref S.length,S')/\Ex S S'/\oW S.length S':=by
 obtain⟨z,e1⟩:=HI (k:=k) h
 have e2:bJ 2 (mFn iy (aa (ae 0) (aa (ae 1) ak))) [some (.ref 0),some (.int k),none] S=some (.nx,[some (.ref 0),some (.int k),some (.int z)],S):=bI (d7 (var_eq rfl) (var_eq rfl) e1)
 have hc:=of_eq (OD (ρ:= [some (.ref 0),some (.int k),some (.int z)]) (S:=S) (a:=ae 2) (var_eq rfl) IE)
 generalize hp:(10:Int) ^ (18:Int).toNat=p at hc
 have hpe: ∀ρ (S:Sto),m2 nQ (mC (.int 10)) (mC (.int 18)) ρ S=some (.int p,S):=λρ S=>by rw[IE,hp]
 cases hb:decide (p<=z) with
 | true=>
   rw[hb]at hc
   have e3:=Eo (ρ:= [some (.ref 0),some (.int k),some (.int z)]) (S:=S) (a:=m2 mR (ae 2) (m2 nQ (mC (.int 10)) (mC (.int 18)))) (b:=mC (.bl true)) (Ad (var_eq rfl) (hpe _ _)) rfl
   refine⟨_,dH (ρ:= [some (.ref 0),some (.int k),some (.int z)]) rfl ?_,Ex.push _ _,⟨z - p,true,de _ _⟩⟩
   show jw [some (.ref 0),some (.int k),none] S=_
   refine(be e2).trans ?_
   unfold br
   rw[rE hc,dG e3]
 | false=>
   rw[hb]at hc
   have e3:=Eo (ρ:= [some (.ref 0),some (.int k),some (.int z)]) (S:=S) (a:=m2 oMod (ae 2) (mC (.int 2147483647))) (b:=mC (.bl false)) (HZ (var_eq rfl) c_i (by decide)) rfl
   refine⟨_,dH (ρ:= [some (.ref 0),some (.int k),some (.int z)]) rfl ?_,Ex.push _ _,⟨z % 2147483647,false,de _ _⟩⟩
   show jw [some (.ref 0),some (.int k),none] S=_
   exact(be e2).trans ((be ((oO hc).trans rfl)).trans (dG e3))
theorem xm{i n:Nat}{b:MS}(us:List U)(P:Nat->Rho->Sto->Prop)(hl: ∀k ρ S,P k ρ S->getL S n=some us)
  (st: ∀(k:Nat) (u:U) (ρ:Rho) (S:Sto),us[k]? = some u->P k ρ S -> ∃ρ' S',b (ρ.set i (some u)) S=some (.nx,ρ',S')/\P (k+1) ρ' S'):
  ∀(f k:Nat) (ρ:Rho) (S:Sto),k<=us.length->us.length - k<f->P k ρ S -> ∃ρ' S',forL i b n f k ρ S=some (.nx,ρ',S')/\P us.length ρ' S'
 | 0,k,ρ,S,h1,h2,_=>by omega
 | f+1,k,ρ,S,h1,h2,hp=>by
   unfold forL
   rw[hl k ρ S hp]
   simp only[ag]
   by_cases hk:k<us.length
   ·have hu:us[k]? = some us[k]:=by simp[hk]
    obtain⟨ρ1,S1,e1,p1⟩:=st k us[k] ρ S hu hp
    obtain⟨ρ2,S2,e2,p2⟩:=xm us P hl st f (k+1) ρ1 S1 (by assumption) (by omega) p1
    refine⟨ρ2,S2,?_,p2⟩
    simp only[hu,aft,e1,e2]
   ·have:k=us.length:=by omega
    subst this
    exact⟨ρ,S,by simp,hp⟩
theorem Cm{i n:Nat}{b:MS}{e:ME}{ρ:Rho}{S S1:Sto}{us:List U}(he:e ρ S=some (.ref n,S1))(hu:us.length<100000)(P:Nat->Rho->Sto->Prop)(h0:P 0 ρ S1)(hl: ∀k ρ S,P k ρ S->getL S n=some us)
  (st: ∀(k:Nat) (u:U) (ρ:Rho) (S:Sto),us[k]? = some u->P k ρ S -> ∃ρ' S',b (ρ.set i (some u)) S=some (.nx,ρ',S')/\P (k+1) ρ' S'):
  ∃ρ' S',eX i (cu e) b ρ S=some (.nx,ρ',S')/\P us.length ρ' S':=by
 obtain⟨ρ',S',e1,p1⟩:=xm us P hl st fuel 0 ρ S1 (cn _) (by unfold fuel;assumption) h0
 refine⟨ρ',S',?_,p1⟩
 unfold eX cu
 rw[he]
 simp only[aF,hl 0 ρ S1 h0,aT]
 exact e1
theorem vm{i:Nat}{b:MS}{e:ME}{ρ:Rho}{S S1:Sto}{us:List U}(he:e ρ S=some (.tup us,S1))(P:Nat->Rho->Sto->Prop)(h0:P 0 ρ S1)
  (st: ∀(k:Nat) (u:U) (ρ:Rho) (S:Sto),us[k]? = some u->P k ρ S -> ∃ρ' S',b (ρ.set i (some u)) S=some (.nx,ρ',S')/\P (k+1) ρ' S'):
  ∃ρ' S',eX i (cu e) b ρ S=some (.nx,ρ',S')/\P us.length ρ' S':=by
 obtain⟨ρ',S',e1,p1⟩:=qJ (i:=i) (b:=b) P us 0 ρ S1 h0 λj u ρ S hj hp=>by simpa using st j u ρ S hj (by simpa using hp)
 rw[d5]at p1
 refine⟨ρ',S',?_,p1⟩
 unfold eX cu
 rw[he]
 exact e1
noncomputable def vD(T:Nat->Nat->Nat)(w:List Nat):Nat:=w.foldl T 0
noncomputable def plc(T:Nat->Nat->Nat)(w:List Nat):List Nat:=(aB (w.length+1)).map λk=>vD T (w.take k)
theorem lB{l:List Nat}{k:Nat}{u:U}(h:(az l)[k]? = some u): ∃x,l[k]? = some x/\u = .int x:=by
 obtain⟨hk,rfl⟩:=sf h
 exact⟨oF l k,by simp[oF,hk],rfl⟩
theorem OW{ρ:Rho}{S:Sto}:m1 pR (mC (.int 1)) ρ S=some (.int (-1),S):=rfl
end
end _W
end
section
namespace _W
open _L _G
section
theorem rj: ∀(a b:List Nat),cb (a.map λ(x:Nat)=>fO x) (b.map λ(x:Nat)=>fO x)=decide (a=b)
 | [],[]=>by simp[cb]
 | [],_::_=>by simp[cb]
 | _::_,[]=>by simp[cb]
 | x::a,y::b=>by
   simp only[bg,cb,eN,rj a b]
   by_cases h:x=y
   ·subst h;simp
   ·have: ¬((x:Int)=y):=by omega
    simp[h,this]
theorem xH{S:Sto}{f:Nat}{l:List Nat}:toD S (f+2) (.tup (az l))=some (.tuple (l.map λ(x:Nat)=>fO x)):=by
 show(dq (toD S (f+1)) (az l)).map _=_
 rw[qP l];rfl
theorem isT {ρ:Rho}{S S1:Sto}{a:ME}{us:List U} (ha:a ρ S=some (.tup us,S1)):m1 (mX "tuple") a ρ S=some (.bl true,S1):=by
 simp only[m1,ha,aF,mX,tyU,aT]
 rfl
theorem not_eq{ρ:Rho}{S S1:Sto}{c:MT}{b:Bool}(h:c ρ S=some (b,S1)):vg c ρ S=some (!b,S1):=by simp only[vg,h,aF]
theorem GM{ρ:Rho}{S S1 S2 S3:Sto}{a b c:ME}{x y z:U}(ha:a ρ S=some (x,S1))(hb:b ρ S1=some (y,S2))(hc:c ρ S2=some (z,S3)):dn (aa a (aa b (aa c ak))) ρ S=some (.ref S3.length,S3++[Cell.lst [x,y,z]]):=by
 have hq:3<=big:=by decide
 simp[dn,aa,ak,aF,ha,hb,hc,hq]
theorem Cu{ns:List Int}{S:Sto}{ρ:Rho}{c:Nat}(h:Scr ns S)(hv:ρ[0]? = some (some (.ref 0)))(hl:ns.length<=63): ∃q:Nat,q<1000/\mFn sR (aa (mC (.int 1)) (aa (mFn sW (aa (mFn cN (aa (ae 0) ak)) (aa (mC (.int c)) ak))) ak)) ρ S=some (.int q,S):=by
 have e1:mFn sW (aa (mFn cN (aa (ae 0) ak)) (aa (mC (.int c)) ak)) ρ S=some (.int (if (c:Int)<(ns.map U.int).length then(c:Int) else(ns.map U.int).length),S):=d7 (IH (var_eq hv) h) c_i rfl
 have e2:=d7 (f:=sR) (a:=mC (.int 1)) (S:=S) (ρ:=ρ) c_i e1 rfl
 rw[aq]at e2
 refine⟨max 1 (min ns.length c),Nat.max_lt.mpr ⟨by decide,aL (aM (Nat.min_le_left _ _) hl) (by decide)⟩,?_⟩
 rw[e2]
 show some (U.int (if (if (c:Int)<ns.length then(c:Int) else ns.length) > 1 then(if (c:Int)<ns.length then(c:Int) else ns.length) else 1),S)=_
 have:(if (if (c:Int)<ns.length then(c:Int) else ns.length) > 1 then(if (c:Int)<ns.length then(c:Int) else ns.length) else 1)=((max 1 (min ns.length c):Nat):Int):=by
  by_cases h:(c:Int)<ns.length
  ·rw[Nat.min_eq_right (aU (fK.mp h)),if_pos h]
   split
   ·rename_i h1;rw[Nat.max_eq_right (aU (fK.mp h1))]
   ·rename_i h1;rw[xY (bC λz=>h1 (fK.mpr z))];rfl
  ·rw[Nat.min_eq_left (bC λz=>h (fK.mpr z)),if_neg h]
   split
   ·rename_i h1;rw[Nat.max_eq_right (aU (fK.mp h1))]
   ·rename_i h1;rw[xY (bC λz=>h1 (fK.mpr z))];rfl
 rw[this]
theorem N2{ρ:Rho}{S S1 S2:Sto}{a b:ME}{x y:Nat}(ha:a ρ S=some (.int x,S1))(hb:b ρ S1=some (.int y,S2)):m2 oEq a b ρ S=some (.bl (decide (x=y)),S2):=by
 rw[AM ha hb]
 congr 3
 by_cases h:x=y
 ·subst h;simp
 ·have: ¬((x:Int)=y):=by omega
  simp[h,this]
theorem Oz{ρ:Rho}{S S1 S2:Sto}{a b:ME}{x y:Nat}(ha:a ρ S=some (.int x,S1))(hb:b ρ S1=some (.int y,S2)):m2 oNe a b ρ S=some (.bl (!decide (x=y)),S2):=by
 rw[op2 (f:=oNe) ha hb rfl]
 show some (U.bl (!((x:Int)==y)),S2)=_
 congr 4
 by_cases h:x=y
 ·subst h;simp
 ·have: ¬((x:Int)=y):=by omega
  simp[h,this]
theorem zR{α:Type}(f:α->Bool): ∀(l:List α),dq lx (l.map λx=>U.bl (f x))=some (l.map f)
 | []=>rfl
 | x::l=>by
   show(lx (.bl (f x))).bind _=_
   simp only[lx,ag]
   rw[zR f l];rfl
theorem Mq{ρ:Rho}{S S1:Sto}{a:ME}{α:Type}{l:List α}{f:α->Bool}(ha:a ρ S=some (.ref S1.length,S1++[Cell.lst (l.map λx=>U.bl (f x))])):mFn uX (aa a ak) ρ S=some (.bl (l.all f),S1++[Cell.lst (l.map λx=>U.bl (f x))]):=by
 refine i6 ha ?_
 simp only[uX,getL,de,ag,zR,aT]
 rw[List.all_map];rfl
end
end _W
end
section
namespace _W
open _L _G
section
theorem Es{m:Nat}{T:Nat->Nat->Nat}{i:Nat}:nM m T i = .tup (az ((aB m).map (T i))):=by
 unfold nM BF az
 rw[bX];rfl
noncomputable def unT(m:Nat)(T:Nat->Nat->Nat)(i:Nat):Nat:=((aB m).map (T i)).idxOf 0
theorem jz{m:Nat}{T:Nat->Nat->Nat}(g:Grp m T){i:Nat}(hi:i<m):unT m T i<m/\T i (unT m T i)=0/\T (unT m T i) i=0 /\ ∀k,k<m->T i k=0->k=unT m T i:=by
 obtain⟨j,hj,h1,h2,h3⟩:=g.inv1 hi
 have e:unT m T i=j:=by
  unfold unT
  rw[oG,idx_map (k:=j) m 0 (cn _) (by omega) h1 λk _ hk h0=>by have:=h3 k (by exact dI (by assumption) (by assumption)) h0;omega]
  omega
 rw[e];exact⟨hj,h1,h2,h3⟩
theorem Jd{m:Nat}{T:Nat->Nat->Nat}(g:Grp m T){i:Nat}(hi:i<m):0∈(aB m).map (T i):=by
 obtain⟨h1,h2,_⟩:=jz g hi
 exact aI.mpr ⟨unT m T i,aN.mpr h1,h2⟩
theorem yW{ρ:Rho}{S S1:Sto}{a:ME}{u:U}(ha:a ρ S=some (u,S1)):cX (aa a ak) ρ S=some (.tup [u],S1):=by
 have hb1:1<=big:=by decide
 simp[cX,mE ha,aF,hb1]
theorem or_false{ρ:Rho}{S S1 S2:Sto}{a b:MT}(ha:a ρ S=some (false,S1))(hb:b ρ S1=some (false,S2)):cOr a b ρ S=some (false,S2):=by
 rw[or_eq ha hb (by intro z;cases z)];rfl
end
end _W
end
section
namespace _W
open _L _G
section
noncomputable def eB(l:List Nat):List Int:=l.map λ(x:Nat)=>(x:Int)
noncomputable def srt(l:List Nat):List Nat:=(pH (eB l)).map vZ
theorem yD(l:List Nat):(pH (eB l)).map U.int=az (srt l):=by
 unfold az srt
 rw[bX]
 apply bH
 intro i hi
 have hm:=(jj (eB l)).mem_iff.mp hi
 obtain⟨x,_,rfl⟩:=aI.mp hm
 rfl
theorem qN: ∀l:List Nat,(eB l).map vZ=l
 | []=>rfl
 | x::l=>by
   show vZ (x:Int)::(eB l).map vZ=x::l
   rw[qN l];rfl
theorem rL(l:List Nat):(srt l).Perm l:=by
 have h:=(jj (eB l)).map vZ
 rw[qN]at h
 exact h
theorem Bw{a b:List Nat}(p:a.Perm b):srt a=srt b:=by
 unfold srt
 rw[xo ((jj (eB a)).trans (p.map _)) (xI _)]
 rfl
theorem i8{l:List Nat}{x:Nat}:x∈srt l↔x∈l:=(rL l).mem_iff
theorem qy(l:List Nat):(srt l).length=l.length:=(rL l).length_eq
theorem rC: ∀(l:List Nat),dq rH (az l)=some (eB l)
 | []=>rfl
 | x::l=>by
   show(rH (.int x)).bind _=_
   simp only[rH,ag]
   rw[show oH (λ(x:Nat)=>U.int x) l=az l from rfl,rC l]
   rfl
theorem uo: ∀(l:List Nat),dq vj (az l)=some (eB l)
 | []=>rfl
 | x::l=>by
   show(vj (.int x)).bind _=_
   simp only[vj,ag]
   rw[show oH (λ(x:Nat)=>U.int x) l=az l from rfl,uo l]
   rfl
noncomputable def fi(l:List Nat):List (_L.Key×U):=l.map λ(x:Nat)=>(eF (x:Int),U.bl true)
theorem wG{S:Sto}{x:U}{l:List Nat}(h:t8 S x=some (eB l))(hl:l.length<64):fP [x] S=some (.ref S.length,S++[.lst (az (srt l))]):=by
 have ok:ym (eB l).length:=by unfold eB;rw[aq];exact hl
 simp only[fP,h,ag,ok,if_true,yD]
theorem Dc{ρ:Rho}{S S1:Sto}{a:ME}{n:Nat}{l:List Nat}(ha:a ρ S=some (.ref n,S1))(hn:S1[n]? = some (Cell.lst (az l)))(hl:l.length<64):mFn fP (aa a ak) ρ S=some (.ref S1.length,S1++[.lst (az (srt l))]):=
 i6 ha (wG (by simp only[t8,gf,hn,eP,getL,ag,rC]) hl)
noncomputable def pW(m:List (_L.Key×U))(k:_L.Key):Bool:=(i7 m k).isSome
theorem nV{m:List (_L.Key×U)}{k:_L.Key}:pW m k=true ↔ ∃kv∈m,kv.1=k:=by
 unfold pW i7
 rw[qB,List.find?_isSome]
 simp
theorem zh{ρ:Rho}{S S1 S2:Sto}{a b:ME}{x:Int}{r:Nat}{kvs:List (_L.Key×U)}(ha:a ρ S=some (.int x,S1))(hb:b ρ S1=some (.ref r,S2))(hr:S2[r]? = some (Cell.dic kvs)):cOf (m2 gy a b) ρ S=some (!pW kvs (.inl x),S2):=
 of_eq (op2 ha hb (by simp only[gy,gf,hr,keyOf,aT,pW]))
theorem OQ{ρ:Rho}{S:Sto}{o i:ME}{r:Nat}{x:Int}{kvs:List (_L.Key×U)}(ho:o ρ S=some (.ref r,S))(hi:i ρ S=some (.int x,S))(hr:S[r]? = some (Cell.dic kvs))(hl:kvs.length<big):eA o i (mC (.bl true)) ρ S=some (.nx,ρ,S.set r (.dic (jN kvs (.inl x) (.bl true)))):=by
 simp only[eA,mC,aF,ho,hi,hr,keyOf,ag,hl,if_true]
section
variable {m:Nat}{T:Nat->Nat->Nat}{t n:Nat}
noncomputable def orb(T:Nat->Nat->Nat)(t n x:Nat):List Nat:=(aB n).map λi=>T x (pw T t i)
theorem gq{x y:Nat}:y∈orb T t n x ↔ ∃i,i<n/\y=T x (pw T t i):=by
 unfold orb
 rw[aI]
 constructor
 ·rintro ⟨i,hi,rfl⟩;exact⟨i,aN.mp hi,rfl⟩
 ·rintro ⟨i,hi,rfl⟩;exact⟨i,aN.mpr hi,rfl⟩
theorem B4(g:Grp m T)(ht:t<m){x:Nat}(hx:x<m)(i:Nat):T (T x (pw T t i)) t=T x (pw T t (i+1)):=by
 rw[show pw T t (i+1)=T (pw T t i) t from rfl,g.as x _ t hx (iG g ht i) ht]
theorem zu(g:Grp m T)(ht:t<m)(h0:pw T t n=0)(i:Nat):pw T t (n+i)=pw T t i:=by
 rw[qT g ht n i,h0,g.l0 _ (iG g ht i)]
theorem jS(g:Grp m T)(ht:t<m)(h0:pw T t n=0){x y z:Nat}(hx:x<m)(h1:y∈orb T t n x)(h2:z∈orb T t n y):z∈orb T t n x:=by
 obtain⟨i,hi,rfl⟩:=gq.mp h1
 obtain⟨j,hj,rfl⟩:=gq.mp h2
 have e:T (T x (pw T t i)) (pw T t j)=T x (pw T t (i+j)):=by rw[g.as _ _ _ hx (iG g ht i) (iG g ht j),qT g ht i j]
 rw[e]
 by_cases hij:i+j<n
 ·exact gq.mpr ⟨i+j,hij,rfl⟩
 ·refine gq.mpr ⟨i+j - n,by omega,?_⟩
  rw[<- zu g ht h0 (i+j - n),show n+(i+j - n)=i+j by omega]
theorem CB(g:Grp m T)(hn:0<n){x:Nat}(hx:x<m):x∈orb T t n x:=gq.mpr ⟨0,hn,(g.r0 x hx).symm⟩
theorem iE(g:Grp m T)(ht:t<m)(hn:0<n)(h0:pw T t n=0){x y:Nat}(hx:x<m)(h:y∈orb T t n x):x∈orb T t n y:=by
 obtain⟨i,hi,rfl⟩:=gq.mp h
 have e:T (T x (pw T t i)) (pw T t (n - i))=x:=by
  rw[g.as _ _ _ hx (iG g ht i) (iG g ht (n - i)),<- qT g ht i (n - i),show i+(n - i)=n by omega,h0,g.r0 x hx]
 by_cases hi0:i=0
 ·subst hi0
  refine gq.mpr ⟨0,hn,?_⟩
  have e1:T x (pw T t 0)=x:=g.r0 x hx
  rw[e1,e1]
 ·exact gq.mpr ⟨n - i,by omega,e.symm⟩
theorem Ct(g:Grp m T)(ht:t<m){x y:Nat}(hx:x<m)(h:y∈orb T t n x):y<m:=by
 obtain⟨i,hi,rfl⟩:=gq.mp h
 exact g.cl _ _ hx (iG g ht i)
noncomputable def jP(T:Nat->Nat->Nat)(t n x:Nat):Bool:=(orb T t n x).all λy=>decide (x<=y)
theorem jd{x:Nat}:jP T t n x=true ↔ ∀y∈orb T t n x,x<=y:=by
 unfold jP
 rw[cR]
 simp
end
end
end _W
end
section
namespace _W
open _L _G
section
open PySem in
open PySem in
open PySem in
inductive Pl:mx->Prop where
 | non:Pl .none
 | bl (b:Bool):Pl (.bool b)
 | int (i:Int):i.natAbs<10 ^ 12->Pl (.int i)
 | lst (xs:List mx):(∀x∈xs,Pl x)->Pl (.list xs)
 | tup (xs:List mx):(∀x∈xs,Pl x)->Pl (.tuple xs)
open PySem in
open PySem in
open PySem in
open PySem in
open PySem in
open PySem in
open PySem in
open PySem in
open PySem in
open PySem in
noncomputable def yn(l:List Nat):mx:= .tuple (l.map λ(x:Nat)=>fO x)
open PySem in
open PySem in
theorem ux{f:MF}{ρ:Rho}{S S1 S2 S3:Sto}{a b c:ME}{x y z:U}{r:Res U}(ha:a ρ S=some (x,S1))(hb:b ρ S1=some (y,S2))(hc:c ρ S2=some (z,S3))(h:f [x,y,z] S3=r):mFn f (aa a (aa b (aa c ak))) ρ S=r:=by
 simp only[mFn,aa,ak,ha,hb,hc,aF,h]
end
end _W
end
section
namespace _W
open _L _G
section
theorem nZ{c:MT}{b:MS}(P:Nat->Rho->Sto->Prop)(Q:Rho->Sto->Prop)
  (hc: ∀μ ρ S,P μ ρ S -> ∃k S1,c ρ S=some (k,S1)/\(k=false->Q ρ S1)/\(k=true -> ∃ρ' S' μ',μ'<μ/\b ρ S1=some (.nx,ρ',S')/\P μ' ρ' S')):
  ∀(f μ:Nat) (ρ:Rho) (S:Sto),μ<f->P μ ρ S -> ∃ρ' S',whl c b f ρ S=some (.nx,ρ',S')/\Q ρ' S'
 | 0,μ,ρ,S,h,_=>by omega
 | f+1,μ,ρ,S,h,hp=>by
   obtain⟨k,S1,e,q1,q2⟩:=hc μ ρ S hp
   unfold whl
   rw[e]
   simp only[aF]
   cases k with
   | false=>exact⟨ρ,S1,by simp,q1 rfl⟩
   | true=>
     obtain⟨ρ1,S2,μ1,hl,e1,p1⟩:=q2 rfl
     obtain⟨ρ2,S3,e2,q⟩:=nZ P Q hc f μ1 ρ1 S2 (by omega) p1
     exact⟨ρ2,S3,by simp only[if_true,aft,e1,e2],q⟩
section
variable {S x:Sto}{c e c' e':Cell}
theorem h0:(S++[c,e]++x)[S.length]? = some c:=by rw[bz,av (ah _)];simp
theorem h1:(S++[c,e]++x)[S.length+1]? = some e:=by rw[bz,av (by exact dD _)];simp
theorem t0:(S++[c,e]++x).set S.length c'=S++[c',e]++x:=by
 rw[bz,eE _ _ (ah _),tS,bz];rfl
theorem t1:(S++[c,e]++x).set (S.length+1) e'=S++[c,e']++x:=by
 rw[bz,eE _ _ (by exact dD _),show S.length+1 - S.length=1 by omega,bz];rfl
end
theorem wN{l:List Nat}{x:Nat}:pW (fi l) (.inl (x:Int))=decide (x∈l):=by
 have:pW (fi l) (.inl (x:Int))=true↔x∈l:=by
  rw[nV]
  unfold fi
  constructor
  ·rintro ⟨kv,hm,e⟩
   obtain⟨y,hy,rfl⟩:=aI.mp hm
   have e':(y:Int)=x:=su e
   have:y=x:=by omega
   rw[<- this];exact hy
  ·intro h
   exact⟨_,aI.mpr ⟨x,h,rfl⟩,rfl⟩
 by_cases h:x∈l
 ·rw[this.mpr h];simp[h]
 ·cases q:pW (fi l) (.inl (x:Int)) with
  | true=>exact absurd (this.mp q) h
  | false=>simp[h]
theorem GL{l:List Nat}{x:Nat}(h:x∉l):jN (fi l) (.inl (x:Int)) (.bl true)=fi (l++[x]):=by
 unfold jN
 rw[if_neg]
 ·simp[fi]
 ·intro z
  obtain⟨kv,hm,e⟩:=fg.mp z
  have:pW (fi l) (.inl (x:Int))=true:=nV.mpr ⟨kv,hm,of_decide_eq_true e⟩
  rw[wN]at this
  exact h (of_decide_eq_true this)
theorem Ck(l:List Nat):(fi l).length=l.length:=by simp[fi]
theorem FV{ρ:Rho}{S:Sto}{o:ME}{r:Nat}{l:List Nat}{h:Nat}(ho:o ρ S=some (.ref r,S))(hr:S[r]? = some (Cell.lst (az (l++[h])))):mML ow o ak ρ S=some (.int h,S.set r (Cell.lst (az l))):=by
 simp only[mML,ho,aF,getL,hr,ag,ak,ow]
 simp[az,Fg]
inductive Rch(T:Nat->Nat->Nat)(ths:List Nat):Nat->Prop where
 | zero:Rch T ths 0
 | step {x y:Nat}:Rch T ths x->y∈ths->Rch T ths (T x y)
structure Dfs(m:Nat)(T:Nat->Nat->Nat)(ths:List Nat)(ks:List Nat)(C:Nat->Prop):Prop where
 nd:ks.Nodup
 lt: ∀x∈ks,x<m
 z:0∈ks
 rc: ∀x∈ks,Rch T ths x
 cl: ∀x∈ks,C x \/ ∀y∈ths,T x y∈ks
section
variable {m:Nat}{T:Nat->Nat->Nat}{ths ks st:List Nat}
theorem Dfs.all(d:Dfs m T ths ks λ_=>False){x:Nat}:x∈ks↔Rch T ths x:=by
 refine⟨d.rc x,λh =>?_⟩
 induction h with
 | zero=>exact d.z
 | step _ hy ih=>exact((d.cl _ ih).resolve_left id) _ hy
theorem Dfs.len(d:Dfs m T ths ks C):ks.length<=m:=pj m ks d.nd d.lt
theorem G5{a b:List Nat}(ha:a.Nodup)(hb:b.Nodup)(h: ∀x,x∈a↔x∈b):a.Perm b:=(yg ha hb).mpr λx=>h x
noncomputable def tryD(T:Nat->Nat->Nat)(h y:Nat)(p:List Nat×List Nat):List Nat×List Nat:=if T h y∈p.1 then p else(p.1++[T h y],p.2++[T h y])
structure Inn(m:Nat)(T:Nat->Nat->Nat)(ths:List Nat)(h k:Nat)(p:List Nat×List Nat)(μ:Nat):Prop where
 d:Dfs m T ths p.1 λx=>x∈p.2\/x=h
 sub: ∀x∈p.2,x∈p.1
 hk:h∈p.1
 hh: ∀y∈ths.take k,T h y∈p.1
 ms:2*(m - p.1.length)+p.2.length<=μ
theorem Inn.try{h k μ y:Nat}{p:List Nat×List Nat}(g:Grp m T)(ht: ∀x∈ths,x<m)(n:Inn m T ths h k p μ)(hy:ths[k]? = some y):Inn m T ths h (k+1) (tryD T h y p) μ:=by
 have hym:y∈ths:=bZ hy
 have htk:ths.take (k+1)=ths.take k++[y]:=by rw[kH,hy];rfl
 unfold tryD
 split
 ·rename_i hin
  refine⟨n.d,n.sub,n.hk,λz hz =>?_,n.ms⟩
  rw[htk]at hz
  rcases bu.mp hz with hz |hz
  ·exact n.hh z hz
  ·simp at hz;rw[hz];exact hin
 ·rename_i hin
  have nd:(p.1++[T h y]).Nodup:=by
   rw[iS]
   exact⟨n.d.nd,by simp,λa ha b hb=>by simp at hb;rintro rfl;exact hin (hb▸ha)⟩
  have hlt:T h y<m:=g.cl _ _ (n.d.lt h n.hk) (ht y hym)
  have lt: ∀x∈p.1++[T h y],x<m:=λx hx=>by
   rcases bu.mp hx with hx |hx
   ·exact n.d.lt x hx
   ·simp at hx;omega
  refine⟨⟨nd,lt,bA _ n.d.z,λx hx =>?_,λx hx =>?_⟩,λx hx =>?_,bA _ n.hk,λz hz =>?_,?_⟩
  ·rcases bu.mp hx with hx |hx
   ·exact n.d.rc x hx
   ·simp at hx;rw[hx];exact .step (n.d.rc h n.hk) hym
  ·rcases bu.mp hx with hx |hx
   ·rcases n.d.cl x hx with (c |c) |c
    ·exact .inl (.inl (bA _ c))
    ·exact .inl (.inr c)
    ·exact .inr λy hy=>bA _ (c y hy)
   ·exact .inl (.inl (bb _ hx))
  ·rcases bu.mp hx with hx |hx
   ·exact bA _ (n.sub x hx)
   ·exact bb _ hx
  ·rw[htk]at hz
   rcases bu.mp hz with hz |hz
   ·exact bA _ (n.hh z hz)
   ·simp at hz;rw[hz];exact bb _ (by simp)
  ·have:=pj m _ nd lt
   have:=n.ms
   simp only[aV,bB,eQ]at *
   omega
structure yq(m:Nat)(T:Nat->Nat->Nat)(ths ks st:List Nat)(μ:Nat):Prop where
 d:Dfs m T ths ks λx=>x∈st
 sub: ∀x∈st,x∈ks
 ms:2*(m - ks.length)+st.length<=μ
theorem yq.start(hm:0<m):yq m T ths [0] [0] (2*m):=
 ⟨⟨by simp,by simpa using hm,by simp,λx hx=>by simp at hx;rw[hx];exact .zero,λx hx => .inl hx⟩,λx hx=>hx,by simp;omega⟩
theorem yq.pop{h μ:Nat}(s:yq m T ths ks (st++[h]) (μ+1)):Inn m T ths h 0 (ks,st) μ:=
 ⟨⟨s.d.nd,s.d.lt,s.d.z,s.d.rc,λx hx=>(s.d.cl x hx).imp (λc=>by simpa using c) id⟩,λx hx=>s.sub x (bA _ hx),s.sub h (by simp),by simp,by have:=s.ms;simp only[aV,bB,eQ]at this;show 2*(m - ks.length)+st.length<=μ;exact eT (by assumption)⟩
theorem Inn.done{h μ:Nat}{p:List Nat×List Nat}(n:Inn m T ths h ths.length p μ):yq m T ths p.1 p.2 μ:=
 ⟨⟨n.d.nd,n.d.lt,n.d.z,n.d.rc,λx hx=>by
  rcases n.d.cl x hx with (c |c) |c
  ·exact .inl c
  ·subst c;exact .inr λy hy=>n.hh y (by rw[List.take_length];exact hy)
  ·exact .inr c⟩,n.sub,n.ms⟩
end
end
end _W
end
section
namespace _W
open _L _G
section
section
variable {m:Nat}{T:Nat->Nat->Nat}{ths:List Nat}{S x:Sto}{v:U}
noncomputable def spR(m:Nat)(T:Nat->Nat->Nat)(v:U)(S:Sto)(r:List (Option U)):Rho:= [some (tab m T),some v,some (.ref S.length),some (.ref (S.length+1))]++r
noncomputable def Wk(S:Sto)(v:U)(ths:List Nat):Prop:=v = .tup (az ths) \/ ∃r,v = .ref r/\S[r]? = some (.lst (az ths))/\ths.length<1000
noncomputable def Cv:MT:=cOf (m2 oGt (mFn cN (aa (ae 3) ak)) (mC (.int 0)))
theorem Inn.st_le{h k μ:Nat}{p:List Nat×List Nat}(n:Inn m T ths h k p μ)(hμ:μ<1000)(hm:m<64):p.1.length<big/\p.2.length<big:=by
 have:=n.ms
 have:=n.d.len
 unfold big
 omega
theorem oi{α:Type}: ∀{l:List α},l≠[] -> ∃a b,l=a++[b]
 | l,h=>⟨l.dropLast,l.getLast h,(List.dropLast_concat_getLast h).symm⟩
theorem zO{ρ:Rho}{S S1:Sto}{a:ME}{x:U}(ha:a ρ S=some (x,S1)):dn (aa a ak) ρ S=some (.ref S1.length,S1++[Cell.lst [x]]):=by
 have hq:1<=big:=by decide
 simp[dn,aa,ak,aF,ha,hq]
end
end
end _W
end
section
namespace _W
open _L _G
section
noncomputable def tups(ls:List (List Nat)):List U:=ls.map λl=>U.tup (az l)
theorem uk{S:Sto}{f:Nat}: ∀(ls:List (List Nat)),dq (toD S (f+2)) (tups ls)=some (ls.map yn)
 | []=>rfl
 | l::ls=>by
   show(toD S (f+2) (.tup (az l))).bind _=_
   rw[xH]
   simp only[ag]
   have:=uk (S:=S) (f:=f) ls
   unfold tups at this
   rw[this]
   rfl
theorem xw{S:Sto}{n:Nat}{ls:List (List Nat)}(h:S[n]? = some (Cell.lst (tups ls))):toD S 40 (.ref n)=some (.list (ls.map yn)):=by
 show(getL S n).bind _=_
 unfold getL
 rw[h]
 simp only[ag]
 rw[uk (f:=37)]
 rfl
theorem xp: ∀(a b:List (List Nat)),cb (a.map yn) (b.map yn)=decide (a=b)
 | [],[]=>by simp[cb]
 | [],_::_=>by simp[cb]
 | _::_,[]=>by simp[cb]
 | x::a,y::b=>by
   rw[bg,bg,cb,xp a b]
   unfold yn
   rw[eN,rj]
   by_cases h:x=y
   ·subst h;simp
   ·simp[h]
open PySem in
structure Sml(ls:List (List Nat)):Prop where
 len:ls.length<=64
 each: ∀l∈ls,l.length<=64
 lt: ∀l∈ls,∀x∈l,x<1000
open PySem in
open PySem in
open PySem in
theorem FU{l:List Nat}{x:Nat}:inV (.int x) (l.map λ(y:Nat)=>V.int y)=decide (x∈l):=by
 unfold inV
 rw[List.any_map]
 by_cases h:x∈l
 ·rw[decide_eq_true h,fg]
  exact⟨x,h,beq_self_eq_true (x:Int)⟩
 ·rw[decide_eq_false h,List.any_eq_false]
  intro y hy
  have q:y≠x:=λe=>h (e▸hy)
  show ¬(((y:Int)==(x:Int))=true)
  exact λz=>q (Int.ofNat.inj (eq_of_beq z))
theorem t7: ∀(l:List Nat),dq ie (az l)=some (l.map λ(y:Nat)=>V.int y)
 | []=>rfl
 | x::l=>by
   show(ie (.int x)).bind _=_
   simp only[ie,ag]
   have:=t7 l
   unfold az at this
   rw[this];rfl
theorem N3{S:Sto}{r:Nat}{us:List U}(h:S[r]? = some (Cell.lst us)):gf S (.ref r)=none:=by
 simp only[gf,h]
noncomputable def sdF(r:Nat->List Nat):Nat->List (List Nat)×List Nat
 | 0=>([],[])
 | k+1=>if k∈(sdF r k).2 then sdF r k else((sdF r k).1++[srt (r k)],(sdF r k).2++r k)
noncomputable def putN(l:List Nat)(x:Nat):List Nat:=if x∈l then l else l++[x]
theorem DM{l:List Nat}{x y:Nat}:y∈putN l x↔y∈l\/y=x:=by
 unfold putN
 split
 ·rename_i h
  exact⟨.inl,λz=>z.elim id λe=>e▸h⟩
 ·simp
theorem ET{l:List Nat}{x:Nat}:jN (fi l) (.inl (x:Int)) (.bl true)=fi (putN l x):=by
 unfold putN
 split
 ·rename_i h
  unfold jN
  have:((fi l).any λkv=>decide (kv.1=eF (x:Int)))=true:=by
   rw[fg]
   exact⟨_,aI.mpr ⟨x,h,rfl⟩,by simp⟩
  rw[if_pos this]
  unfold fi
  rw[bX]
  apply bH
  intro y _
  simp only[Function.comp]
  split <;> simp_all
 ·rename_i h
  exact GL h
theorem v9: ∀{xs l:List Nat}{y:Nat},y∈xs.foldl putN l↔y∈l\/y∈xs
 | [],l,y=>by simp
 | x::xs,l,y=>by
   rw[nj,v9,DM]
   simp[or_assoc]
theorem Dj{l:List Nat}{x:Nat}:(putN l x).length<=l.length+1:=by
 unfold putN;split <;> simp
theorem qK: ∀{xs l:List Nat},(xs.foldl putN l).length<=l.length+xs.length
 | [],l=>by simp
 | x::xs,l=>by
   have:=qK (xs:=xs) (l:=putN l x)
   have:=Dj (l:=l) (x:=x)
   simp only[nj,bB]
   omega
noncomputable def pcF(r:Nat->List Nat)(ext:Nat->Sto):Nat->List (List Nat)×List Nat×Sto
 | 0=>([],[],[])
 | k+1=>if k∈(pcF r ext k).2.1 then pcF r ext k else((pcF r ext k).1++[srt (r k)],(srt (r k)).foldl putN (pcF r ext k).2.1,(pcF r ext k).2.2++ext k)
theorem yh{r:Nat->List Nat}{ext:Nat->Sto}: ∀k,(pcF r ext k).1=(sdF r k).1 /\ ∀y,y∈(pcF r ext k).2.1↔y∈(sdF r k).2
 | 0=>⟨rfl,λy=>Iff.rfl⟩
 | k+1=>by
   obtain⟨h1,h2⟩:=yh (r:=r) (ext:=ext) k
   unfold pcF sdF
   by_cases h:k∈(sdF r k).2
   ·rw[if_pos h,if_pos ((h2 k).mpr h)];exact⟨h1,h2⟩
   ·rw[if_neg h,if_neg λz=>h ((h2 k).mp z)]
    refine⟨by rw[h1],λy =>?_⟩
    rw[v9,h2,i8,bu]
theorem Ea{r:Nat->List Nat}{ext:Nat->Sto}{B:Nat}(hr: ∀k,(r k).length<=B): ∀k,(pcF r ext k).1.length<=k/\(pcF r ext k).2.1.length<=k*B
 | 0=>by simp[pcF]
 | k+1=>by
   have:=Ea (ext:=ext) hr k
   have:=hr k
   unfold pcF
   rw[ng]
   split
   ·omega
   ·have h:=qK (xs:=srt (r k)) (l:=(pcF r ext k).2.1)
    rw[qy]at h
    simp;omega
noncomputable def eK(S:Sto)(p:List (List Nat)×List Nat×Sto):Sto:=S++[.lst (tups p.1),.dic (fi p.2.1)]++p.2.2
noncomputable def xk(g:p9)(φ:MF):MS:=sIf (cOf (m2 gy (ae 4) (ae 3))) (br (bJ 5 (A2 1 g φ (aa (ae 4) ak))) (br (dN (mML du (ae 2) (aa (ae 5) ak))) (eX 6 (cu (ae 5)) (eA (ae 3) (ae 6) (mC (.bl true)))))) eC
noncomputable def vM(g:p9)(φ:MF):MS:=br (bJ 2 (dn ak)) (br (bJ 3 nW) (br (eX 4 (cu (ae 0)) (xk g φ)) (eg (ae 2))))
theorem A6{S x:Sto}{c:Cell}{ρ:Rho}{xs l:List Nat}(h5:ρ[5]? = some (some (.tup (az xs))))(h3:ρ[3]? = some (some (.ref (S.length+1))))(h7:ρ.length=7)(hb:l.length+xs.length<big):
  ∃v,eX 6 (cu (ae 5)) (eA (ae 3) (ae 6) (mC (.bl true))) ρ (S++[c,.dic (fi l)]++x)=some (.nx,ρ.set 6 v,S++[c,.dic (fi (xs.foldl putN l))]++x):=by
 obtain⟨ρ',S',e,⟨v,rfl⟩,rfl⟩:=vm (i:=6) (b:=eA (ae 3) (ae 6) (mC (.bl true))) (e:=ae 5) (ρ:=ρ) (S:=S++[c,.dic (fi l)]++x) (us:=az xs) (var_eq h5)
  (λk ρ' S'=>(∃v,ρ'=ρ.set 6 v)/\S'=S++[c,.dic (fi ((xs.take k).foldl putN l))]++x) ⟨⟨ρ[6]'(by omega),by simp⟩,by simp⟩ (by
  rintro k u ρ' S' hu ⟨⟨v,rfl⟩,rfl⟩
  obtain⟨y,hy,rfl⟩:=lB hu
  rw[List.set_set]
  have g3:(ρ.set 6 (some (.int y)))[3]? = some (some (.ref (S.length+1))):=by rw[aK (by decide)];exact h3
  have g6:(ρ.set 6 (some (.int y)))[6]? = some (some (.int y)):=aY (by omega)
  have e:=OQ (ρ:=ρ.set 6 (some (.int y))) (o:=ae 3) (i:=ae 6) (var_eq g3) (var_eq g6) (h1 (S:=S) (x:=x) (c:=c) (e:= .dic (fi ((xs.take k).foldl putN l)))) (by
   rw[Ck]
   have:=qK (xs:=xs.take k) (l:=l)
   have:(xs.take k).length<=xs.length:=by rw[gH];omega
   omega)
  rw[t1,ET]at e
  refine⟨_,_,e,⟨_,rfl⟩,?_⟩
  rw[kH,hy,List.foldl_append]
  rfl)
 rw[dg,List.take_length]at e
 exact⟨v,e⟩
theorem As{m:Nat}{r:Nat->List Nat}{ext:Nat->Sto}{S:Sto}{φ:MF}(hm:m<64)(hr: ∀k,(r k).length<=64)(hφ: ∀i (S:Sto),i<m->φ [.int (i:Nat)] S=some (.tup (az (srt (r i))),S++ext i))(g:p9):
  _G.run 2 7 (vM g φ) [.tup (az (aB m)),.obj g] S=some (.ref S.length,eK S (pcF r ext m)):=by
 obtain⟨ρ1,S1,e1,⟨a,b,c,rfl⟩,e1'⟩:=vm (i:=4) (e:=ae 0) (us:=az (aB m)) (b:=xk g φ) (ρ:= [some (.tup (az (aB m))),some (.obj g),some (.ref S.length),some (.ref (S.length+1)),none,none,none]) (S:=eK S (pcF r ext 0)) (var_eq rfl)
  (λk ρ S'=>(∃a b c,ρ = [some (.tup (az (aB m))),some (.obj g),some (.ref S.length),some (.ref (S.length+1)),a,b,c])/\S'=eK S (pcF r ext k)) ⟨⟨_,_,_,rfl⟩,rfl⟩ (by
   rintro k u ρ S' hu ⟨⟨a,b,c,rfl⟩,rfl⟩
   obtain⟨k',hk',rfl⟩:=lB hu
   have hk:k<m:=by have:=(ai.mp hk').1;simpa using this
   rw[List.getElem?_range hk]at hk'
   cases hk'
   have bd:=Ea (ext:=ext) hr k
   have ec:=zh (ρ:= [some (.tup (az (aB m))),some (.obj g),some (.ref S.length),some (.ref (S.length+1)),some (.int k),b,c]) (a:=ae 4) (b:=ae 3) (x:=k) (var_eq rfl) (var_eq rfl) (show(eK S (pcF r ext k))[S.length+1]? = _ from h1)
   rw[wN]at ec
   by_cases hin:k∈(pcF r ext k).2.1
   ·rw[decide_eq_true hin]at ec
    refine⟨_,_,(oO ec).trans rfl,⟨_,_,_,rfl⟩,?_⟩
    rw[pcF,if_pos hin]
   ·rw[decide_eq_false hin]at ec
    have e5:A2 1 g φ (aa (ae 4) ak) [some (.tup (az (aB m))),some (.obj g),some (.ref S.length),some (.ref (S.length+1)),some (.int k),b,c] (eK S (pcF r ext k))=some (.tup (az (srt (r k))),eK S (pcF r ext k)++ext k):=by
     show(if g=g then mFn φ (aa (ae 4) ak) _ _ else none)=_
     rw[if_pos rfl]
     exact i6 (var_eq rfl) (hφ k _ hk)
    have hx:eK S (pcF r ext k)++ext k=S++[.lst (tups (pcF r ext k).1),.dic (fi (pcF r ext k).2.1)]++((pcF r ext k).2.2++ext k):=by simp[eK]
    rw[hx]at e5
    have e6:=append_eq (ρ:= [some (.tup (az (aB m))),some (.obj g),some (.ref S.length),some (.ref (S.length+1)),some (.int k),some (.tup (az (srt (r k)))),c]) (o:=ae 2) (a:=ae 5) (u:= .tup (az (srt (r k)))) (var_eq rfl) (var_eq rfl) (h0 (S:=S) (x:=(pcF r ext k).2.2++ext k) (c:= .lst (tups (pcF r ext k).1)) (e:= .dic (fi (pcF r ext k).2.1))) h0 (by simp only[tups,aq];unfold big;omega)
    rw[t0]at e6
    obtain⟨v,e7⟩:=A6 (S:=S) (x:=(pcF r ext k).2.2++ext k) (c:= .lst (tups (pcF r ext k).1++[.tup (az (srt (r k)))])) (ρ:= [some (.tup (az (aB m))),some (.obj g),some (.ref S.length),some (.ref (S.length+1)),some (.int k),some (.tup (az (srt (r k)))),c]) (xs:=srt (r k)) (l:=(pcF r ext k).2.1) rfl rfl rfl (by
     rw[qy]
     have:=hr k
     have h3:k*64<=64*64:=dE _ (by omega)
     unfold big;omega)
    refine⟨_,_,(rE ec).trans ((be (bI e5)).trans ((be e6).trans e7)),⟨_,_,_,rfl⟩,?_⟩
    rw[pcF,if_neg hin]
    simp[eK,tups])
 rw[dg,bp]at e1'
 subst e1'
 refine dH (ρ:= [some (.tup (az (aB m))),some (.obj g),some (.ref S.length),some (.ref (S.length+1)),a,b,c]) rfl ?_
 show vM g φ [some (.tup (az (aB m))),some (.obj g),none,none,none,none,none] S=_
 have e2:nW [some (.tup (az (aB m))),some (.obj g),some (.ref S.length),none,none,none,none] (S++[Cell.lst []])=some (.ref (S.length+1),eK S (pcF r ext 0)):=by
  simp[nW,eK,pcF,tups,fi]
 exact(be (bI kc)).trans ((be (bI e2)).trans ((be e1).trans (dG (var_eq rfl))))
theorem KC{ρ:Rho}{S:Sto}{e:ME}{part:List Nat}{f:Nat->Nat}{i:Nat}(hi:ρ[i]? = some (some (.tup (az part))))(hl:part.length<64)(he: ∀(x:Nat) (S:Sto),x∈part->e (ρ++[some (.int x)]) S=some (.int (f x:Nat),S)):
  mFn cy (aa (mFn fP (aa (ck (cu (ae i)) cTT e) ak)) ak) ρ S=some (.tup (az (srt (part.map f))),S++[.lst (az (part.map f)),.lst (az (srt (part.map f)))]):=by
 have hz:(part.map f).length<64:=by rw[aq];exact hl
 obtain⟨S1,e1,rfl⟩:=lO (e:=e) (ρ:=ρ) (λj => .int (f (oF part j):Nat)) (λ_ S'=>S'=S) (az part) 0 [] S rfl (by
  rintro j u S' hu rfl
  obtain⟨x,hx,rfl⟩:=lB hu
  refine⟨S',?_,rfl⟩
  have:oF part (0+j)=x:=by rw[d5];unfold oF;rw[aJ,hx];rfl
  rw[this]
  exact he x S' (bZ hx))
 have hm:(aB (az part).length).map (λj=>U.int (f (oF part (0+j)):Nat))=az (part.map f):=by
  unfold az
  apply List.ext_getElem?
  intro j
  rw[bG,bG,bG]
  by_cases h:j<part.length
  ·rw[List.getElem?_range (by simpa using h),aD h]
   simp[oF,aJ,h]
  ·rw[fV (by simpa using h),fV (by exact bC (by assumption))];rfl
 rw[hm,dk]at e1
 have e2:=nT (it:=cu (ae i)) (us:=az part) (by unfold cu;rw[var_eq hi];rfl) e1 (by rw[dg];unfold big;exact ao (by assumption) (by decide))
 have e3:=iq (Dc e2 (de _ _) hz)
 rw[e3]
 simp
theorem map_len{part:List Nat}{f:Nat->Nat}(h:part.length<64):(part.map f).length<=64:=by rw[aq];exact aU (by assumption)
noncomputable def vI(T:Nat->Nat->Nat)(part:List Nat)(left:Bool)(x:Nat):List Nat:=part.map λo=>if left then T x o else T o x
noncomputable def atM:MS:=eg (rq (iR1 (aa (mFn cN (aa (ae 0) ak)) ak)))
theorem NH{m:Nat}{T:Nat->Nat->Nat}{S:Sto}(hm:m<1000):_G.run 1 1 atM [tab m T] S=some (.tup (az (aB m)),S):=by
 refine dH (ρ:= [some (tab m T)]) rfl (dG ?_)
 have e1:=qw (ρ:= [some (tab m T)]) (S:=S) (a:=mFn cN (aa (ae 0) ak)) (n:=m) (len_tab (var_eq rfl)) (by unfold big;exact ao (by assumption) (by decide))
 have e2:bK 0 m=az (aB m):=by
  unfold bK az
  apply bH
  intro k _
  simp
 rw[e2]at e1
 have hz:(az (aB m)).length<=big:=by rw[dg,bp];unfold big;omega
 show rq (iR1 (aa (mFn cN (aa (ae 0) ak)) ak)) [some (tab m T)] S=_
 simp only[rq,e1,aF,hz,if_true]
noncomputable def lsM:MS:=eg (mM (λg φ=>_G.run 2 7 (vM g φ)) 1 [0,1] (mFn cy (aa (mFn fP (aa (ck (cu (ae 2)) cTT (m2 oIx (m2 oIx (ae 1) (ae 0)) (ae 3))) ak)) ak)) (mFn (_G.run 1 1 atM) (aa (ae 0) ak)))
noncomputable def CF(m:Nat)(T:Nat->Nat->Nat)(part:List Nat)(left:Bool):List (List Nat):=(sdF (vI T part left) m).1
section
variable {m:Nat}{T:Nat->Nat->Nat}{part:List Nat}{S:Sto}
theorem ue{left:Bool}{ext:Nat->Sto}:Ex S (eK S (pcF (vI T part left) ext m))/\(eK S (pcF (vI T part left) ext m))[S.length]? = some (Cell.lst (tups (CF m T part left))):=by
 refine⟨⟨_,by unfold eK;rw[bz]⟩,?_⟩
 have:=h0 (S:=S) (x:=(pcF (vI T part left) ext m).2.2) (c:= .lst (tups (pcF (vI T part left) ext m).1)) (e:= .dic (fi (pcF (vI T part left) ext m).2.1))
 rw[(yh m).1]at this
 unfold eK
 rw[(yh m).1]
 exact this
theorem Hx(g:Grp m T)(hm:m<64)(hl:part.length<64)(hp: ∀x∈part,x<m): ∃S',_G.run 2 2 lsM [tab m T,.tup (az part)] S=some (.ref S.length,S')/\Ex S S'/\S'[S.length]? = some (Cell.lst (tups (CF m T part true))):=by
 refine⟨eK S (pcF (vI T part true) (λi =>[.lst (az (vI T part true i)),.lst (az (srt (vI T part true i)))]) m),dH (ρ:= [some (tab m T),some (.tup (az part))]) rfl (show lsM [some (tab m T),some (.tup (az part))] S=_ from dG ?_),ue.1,ue.2⟩
 refine CJ (cs:= [tab m T,.tup (az part)]) (i6 (f:=_G.run 1 1 atM) (var_eq rfl) (NH (by exact ao (by assumption) (by decide)))) rfl λf=>As hm (λk=>map_len hl) (λi S' hi =>?_) f
 exact KC (ρ:= [some (.int (i:Nat)),some (tab m T),some (.tup (az part))]) (f:=λo=>if true then T i o else T o i) rfl hl λx S hx=>ki (T:=T) (i:=i) (j:=x) (hp x hx) (jI hi (var_eq rfl) (var_eq rfl)) (var_eq rfl)
end
end
end _W
end
section
namespace _W
open _L _G
section
theorem mS{t:MT}{e:ME}{ρ:Rho}{n:Nat}{S:Sto}{us:List U}{p:U->Bool}{f:U->U}(hu:getL S n=some us)(ht: ∀u∈us,t (ρ++[some u]) S=some (p u,S))(he: ∀u∈us,p u=true->e (ρ++[some u]) S=some (f u,S)):
  ∀(k i:Nat) (acc:List U),i<=us.length->us.length - i<k->ib t e ρ n k i acc S=some (acc++((us.drop i).filter p).map f,S)
 | 0,i,acc,h1,h2=>by omega
 | k+1,i,acc,h1,h2=>by
   unfold ib
   rw[hu]
   simp only[ag]
   by_cases hi:i<us.length
   ·have hd:us.drop i=us[i]::us.drop (i+1):=eM hi
    have hm:us[i]∈us:=bT hi
    rw[aD hi]
    simp only
    rw[ht _ hm]
    simp only[aF]
    rw[hd]
    cases hp:p us[i] with
    | true=>
      rw[if_pos rfl,he _ hm hp]
      simp only[aF]
      rw[mS hu ht he k (i+1) _ (by assumption) (by omega),lY hp]
      simp
    | false=>
      rw[if_neg bM,mS hu ht he k (i+1) _ (by assumption) (by omega),lZ (by rw[hp];decide)]
   ·rw[fV (by exact bC (by assumption)),mK (by exact bC (by assumption))]
    simp
theorem Av{t:MT}{e a:ME}{ρ:Rho}{n:Nat}{S S1:Sto}{us:List U}{p:U->Bool}{f:U->U}(ha:a ρ S=some (.ref n,S1))(hu:S1[n]? = some (Cell.lst us))(hl:us.length<1000)(ht: ∀u∈us,t (ρ++[some u]) S1=some (p u,S1))(he: ∀u∈us,p u=true->e (ρ++[some u]) S1=some (f u,S1)):
  ck (cu a) t e ρ S=some (.ref S1.length,S1++[.lst ((us.filter p).map f)]):=by
 have hg:getL S1 n=some us:=by unfold getL;rw[hu]
 have hi:cu a ρ S=some (.mut n,S1):=by simp only[cu,ha,aF,hg,aT]
 have e1:=mS hg ht he fuel 0 [] (cn _) (by unfold fuel;exact ao (by assumption) (by decide))
 rw[j4,dk]at e1
 simp only[ck,hi,aF,xh,e1]
 refine if_pos ?_
 have:=dz p us
 rw[aq];unfold big;exact aL (by assumption) (ao (by assumption) (by decide))
theorem m8{t:MT}{e:ME}{ρ:Rho}{S:Sto}{p:U->Bool}{f:U->U}: ∀(us acc:List U),(∀u∈us,t (ρ++[some u]) S=some (p u,S))->(∀u∈us,p u=true->e (ρ++[some u]) S=some (f u,S)) ->
  hG t e ρ us acc S=some (acc++(us.filter p).map f,S)
 | [],acc,_,_=>by simp[hG]
 | u::us,acc,ht,he=>by
   unfold hG
   rw[ht u (by simp)]
   simp only[aF]
   cases hp:p u with
   | true=>
     rw[if_pos rfl,he u (by simp) hp]
     simp only[aF]
     rw[m8 us _ (λv hv=>ht v (aC _ hv)) (λv hv=>he v (aC _ hv)),lY hp]
     simp
   | false=>
     rw[if_neg bM,m8 us _ (λv hv=>ht v (aC _ hv)) (λv hv=>he v (aC _ hv)),lZ (by rw[hp];decide)]
theorem AD{t:MT}{e a:ME}{ρ:Rho}{S S1:Sto}{us:List U}{p:U->Bool}{f:U->U}(ha:a ρ S=some (.tup us,S1))(hl:us.length<big)(ht: ∀u∈us,t (ρ++[some u]) S1=some (p u,S1))(he: ∀u∈us,p u=true->e (ρ++[some u]) S1=some (f u,S1)):
  ck (cu a) t e ρ S=some (.ref S1.length,S1++[.lst ((us.filter p).map f)]):=by
 have hi:cu a ρ S=some (.imm us,S1):=by simp only[cu,ha,aF]
 have e1:=m8 us [] ht he
 rw[dk]at e1
 refine nT hi e1 ?_
 have:=dz p us
 rw[aq];exact aL (by assumption) (by assumption)
theorem qV{t:MT}{e a:ME}{ρ:Rho}{S S1:Sto}{l:List Nat}{p:Nat->Bool}{f:Nat->U}(ha:a ρ S=some (.tup (az l),S1))(hl:l.length<big)(ht: ∀x∈l,t (ρ++[some (.int x)]) S1=some (p x,S1))(he: ∀x∈l,p x=true->e (ρ++[some (.int x)]) S1=some (f x,S1)):
  ck (cu a) t e ρ S=some (.ref S1.length,S1++[.lst ((l.filter p).map f)]):=by
 have nat: ∀u∈az l,∃x∈l,u = .int (x:Nat):=λu hu=>by
  obtain⟨x,hx,rfl⟩:=aI.mp hu;exact⟨x,hx,rfl⟩
 let g:U->Nat:=λu=>match u with | .int i=>i.toNat |_=>0
 have gx: ∀x:Nat,g (.int x)=x:=λx=>by simp[g]
 have h:=AD (t:=t) (e:=e) (p:=λu=>p (g u)) (f:=λu=>f (g u)) ha (by rw[dg];exact hl) (λu hu=>by
  obtain⟨x,hx,rfl⟩:=nat u hu
  rw[gx];exact ht x hx) (λu hu hp=>by
  obtain⟨x,hx,rfl⟩:=nat u hu
  rw[gx]at hp ⊢;exact he x hx hp)
 rw[h]
 have:((az l).filter λu=>p (g u)).map (λu=>f (g u))=(l.filter p).map f:=by
  unfold az
  rw[List.filter_map,bX]
  have e1:(λu=>p (g u))∘(λ(x:Nat)=>U.int x)=p:=by funext x;simp[gx]
  have e2:(λu=>f (g u))∘(λ(x:Nat)=>U.int x)=f:=by funext x;simp[gx]
  rw[e1,e2]
 rw[this]
theorem oJ{t:MT}{e a:ME}{ρ:Rho}{S S1:Sto}{l:List Nat}{p:Nat->Bool}{f:Nat->U}(ha:a ρ S=some (.tup (az l),S1))(hl:l.length<1000)(ht: ∀x∈l,t (ρ++[some (.int x)]) S1=some (p x,S1))(he: ∀x∈l,p x=true->e (ρ++[some (.int x)]) S1=some (f x,S1)):
  ck (cu a) t e ρ S=some (.ref S1.length,S1++[.lst ((l.filter p).map f)]):=
 qV ha (by unfold big;exact ao (by assumption) (by decide)) ht he
theorem Fu{ρ:Rho}{S S1 S2:Sto}{a b:ME}{x:Nat}{l:List Nat}(ha:a ρ S=some (.int x,S1))(hb:b ρ S1=some (.tup (az l),S2)):cOf (m2 gy a b) ρ S=some (!decide (x∈l),S2):=by
 refine of_eq (op2 ha hb ?_)
 simp only[gy,gf,ie,ag,eP,t7,aT,Option.some_or,FU]
theorem yi{ρ:Rho}{S S1 S2:Sto}{a b:ME}{x y:U}(ha:a ρ S=some (x,S1))(hb:b ρ S1=some (y,S2)):cX (aa a (aa b ak)) ρ S=some (.tup [x,y],S2):=by
 have hb2:2<=big:=by decide
 simp[cX,aa,ak,ha,hb,aF,hb2]
section
variable {m:Nat}{T:Nat->Nat->Nat}{st left:List Nat}{S:Sto}
noncomputable def prU(T:Nat->Nat->Nat)(h s:Nat):U:= .tup [.int s,.int (T h s:Nat)]
noncomputable def gos(T:Nat->Nat->Nat)(st:List Nat)(h:Nat)(left:List Nat):List Nat:=st.filter λs=>decide (T h s∈left)
theorem JN{ρ:Rho}{S S1 S2:Sto}{a b:ME}{x y:List Nat}(ha:a ρ S=some (.tup (az x),S1))(hb:b ρ S1=some (.tup (az y),S2))(hl:x.length+y.length<=big):m2 cP a b ρ S=some (.tup (az (x++y)),S2):=by
 refine op2 ha hb ?_
 simp only[cP]
 rw[if_pos (by rw[dg,dg];exact hl)]
 simp[az]
theorem xG{ρ:Rho}{S S1 S2:Sto}{a b:ME}{x y:List Nat}(ha:a ρ S=some (.tup (az x),S1))(hb:b ρ S1=some (.tup (az y),S2))(hl:x.length+y.length<1000):m2 cP a b ρ S=some (.tup (az (x++y)),S2):=
 JN ha hb (by unfold big;omega)
end
end
end _W
end
section
namespace _W
open _L _G
section
abbrev Nod:=List Nat×List Nat
noncomputable def lnU(p:Nod):U:= .tup [.tup (az p.1),.tup (az p.2)]
noncomputable def lnD(p:Nod):mx:= .tuple [yn p.1,yn p.2]
theorem JE{S:Sto}{f:Nat}(p:Nod):toD S (f+3) (lnU p)=some (lnD p):=by
 show(dq (toD S (f+2)) [.tup (az p.1),.tup (az p.2)]).map _=_
 simp only[dq,xH,ag,aT]
 rfl
theorem zT{S:Sto}{f:Nat}: ∀(ls:List Nod),dq (toD S (f+3)) (ls.map lnU)=some (ls.map lnD)
 | []=>rfl
 | p::ls=>by
   show(toD S (f+3) (lnU p)).bind _=_
   rw[JE]
   simp only[ag]
   rw[zT ls]
   rfl
theorem zM{S:Sto}{n:Nat}{ls:List Nod}(h:S[n]? = some (Cell.lst (ls.map lnU))):toD S 40 (.ref n)=some (.list (ls.map lnD)):=by
 show(getL S n).bind _=_
 unfold getL
 rw[h]
 simp only[ag]
 rw[zT (f:=36)]
 rfl
theorem IQ{ρ:Rho}{S S1 S2:Sto}{a b:ME}{n k:Nat}{x:List Nod}(ha:a ρ S=some (.ref n,S1))(hb:b ρ S1=some (.ref k,S2))(hn:S2[n]? = some (Cell.lst (x.map lnU)))(hk:S2[k]? = some (Cell.lst [])):m2 oNe a b ρ S=some (.bl (!decide (x = [])),S2):=by
 refine op2 ha hb ?_
 have e2:toD S2 40 (.ref k)=some (.list []):=by
  have:=zM (S:=S2) (n:=k) (ls:= []) hk
  simpa using this
 simp only[oNe,_G.eqU,zM hn,e2,ag,aT,eN]
 cases x <;> simp[cb]
noncomputable def eu(th:List Nat):Nat:=(th.getLast?).getD 0
theorem mO{l:List Nat}{x:Nat}:eu (l++[x])=x:=by simp[eu]
theorem F7{th:List Nat}(h:th≠[]):atI (az th) (-1)=some (.int (eu th:Nat)):=by
 obtain⟨l,x,rfl⟩:=oi h
 rw[mO]
 have hl:(az (l++[x])).length=l.length+1:=by simp[az]
 unfold atI
 have:_L.ixN (az (l++[x])).length (-1)=some l.length:=by
  rw[hl];unfold _L.ixN
  rw[if_neg (by decide),if_pos (by omega)]
  congr 1;omega
 rw[this]
 simp[az]
theorem nC{m:Nat}{th:List Nat}(h:th≠[])(hl: ∀x∈th,x<m):eu th<m:=by
 obtain⟨l,x,rfl⟩:=oi h
 rw[mO];exact hl x (by simp)
noncomputable def kids(T:Nat->Nat->Nat)(st:List Nat)(p:Nod):List Nod:=(st.filter λs => !decide (T (eu p.2) s∈p.2)).map λs=>(p.1++[s],p.2++[T (eu p.2) s])
noncomputable def ph(T:Nat->Nat->Nat)(st:List Nat)(L:Nod->List (List Nat)):Nat->Nod->List (List Nat)
 | 0,p=>L p
 | k+1,p=>(kids T st p).flatMap (ph T st L k)
theorem rR{e:ME}{ρ:Rho}{n c:Nat}{S:Sto}{us:List U}{f:U->U}(hu:getL S n=some us)(he: ∀u∈us,∃ws,AY c u=some ws/\e (ρ++ws.map some) S=some (f u,S)):
  ∀(k i:Nat) (acc:List U),i<=us.length->us.length - i<k->ig c cTT e ρ n k i acc S=some (acc++(us.drop i).map f,S)
 | 0,i,acc,h1,h2=>by omega
 | k+1,i,acc,h1,h2=>by
   unfold ig
   rw[hu]
   simp only[ag]
   by_cases hi:i<us.length
   ·have hd:us.drop i=us[i]::us.drop (i+1):=eM hi
    obtain⟨ws,e1,e2⟩:=he _ (bT hi)
    rw[aD hi]
    simp only
    rw[e1]
    simp only[ag,cTT,aF,if_true]
    rw[e2]
    simp only[aF]
    have ih:=rR hu he k (i+1) (acc++[f us[i]]) (by assumption) (by omega)
    rw[ih,hd,bg,bz]
    rfl
   ·rw[fV (by exact bC (by assumption)),mK (by exact bC (by assumption))]
    simp
noncomputable def da(S:Sto)(F:List (List Nat))(ln:List Nod)(x:Sto):Sto:=S++[.lst (tups F),.lst (ln.map lnU)]++x
section
variable {m:Nat}{T:Nat->Nat->Nat}{st:List Nat}{S x:Sto}{F:List (List Nat)}{ln:List Nod}{ρ:Rho}
theorem fe{c:Cell}:da S F ln x++[c]=da S F ln (x++[c]):=by simp[da]
theorem Ci{i n h:Nat}{he:ME}{p:Nod}(hh:h<m)(hs: ∀s∈st,s<m)(hsl:st.length<1000)(hp1:p.1.length<400)(hp2:p.2.length<400)(hln:ln.length<100000)(hl:eu p.2=h)
  (h0':ρ[0]? = some (some (tab m T))) (h1':ρ[1]? = some (some (.tup (az st)))) (h4:ρ[4]? = some (some (.ref (S.length+1)))) (h5:ρ[5]? = some (some (.tup (az p.1)))) (h6:ρ[6]? = some (some (.tup (az p.2)))) (hn:ρ.length=n) (hi:i<n) (hi6:6<i)
  (hhe: ∀z (S:Sto),he (ρ++z) S=some (.int (h:Nat),S)):
  ∃v x',br (bJ i (ck (cu (ae 1)) (cOf (m2 gy (m2 oIx (m2 oIx (ae 0) he) (ae n)) (ae 6))) (cX (aa (ae n) (aa (m2 oIx (m2 oIx (ae 0) he) (ae n)) ak))))) (dN (mML eJ (ae 4) (aa (iZ 2 (cu (m1 o7 (ae i))) cTT (cX (aa (m2 cP (ae 5) (cX (aa (ae n) ak))) (aa (m2 cP (ae 6) (cX (aa (ae (n+1)) ak))) ak)))) ak))) ρ (da S F ln x) =
   some (.nx,ρ.set i v,da S F (ln++(kids T st p).reverse) x'):=by
 have ap: ∀{j:Nat}{v:Option U}{z:Rho},ρ[j]? = some v->(ρ++z)[j]? = some v:=λ{j v z} e=>by
  have:=(ai.mp e).1
  rw[aP this];exact e
 have apn: ∀{v:Option U}{z:Rho},(ρ++(v::z))[n]? = some v:=λ{v z}=>by rw[av (by exact nk (by assumption)),hn];simp
 have ev: ∀(s:Nat) (S':Sto),s∈st->m2 oIx (m2 oIx (ae 0) he) (ae n) (ρ++[some (.int s)]) S'=some (.int (T h s:Nat),S'):=λs S' hs'=>ki (T:=T) (i:=h) (j:=s) (hs s hs') (jI hh (var_eq (ap h0')) (hhe _ _)) (var_eq apn)
 have e1:=oJ (t:=cOf (m2 gy (m2 oIx (m2 oIx (ae 0) he) (ae n)) (ae 6))) (e:=cX (aa (ae n) (aa (m2 oIx (m2 oIx (ae 0) he) (ae n)) ak))) (ρ:=ρ) (S:=da S F ln x) (a:=ae 1) (l:=st) (p:=λs => !decide (T h s∈p.2)) (f:=prU T h) (var_eq h1') hsl (λs hs'=>Fu (ev s _ hs') (var_eq (ap h6))) (λs hs' _=>yi (var_eq apn) (ev s _ hs'))
 generalize hfr:(st.filter λs => !decide (T h s∈p.2))=fr at e1
 have hfl:fr.length<=st.length:=by rw[<- hfr];exact dz _ _
 have g7:(ρ.set i (some (.ref (da S F ln x).length)))[i]? = some (some (.ref (da S F ln x).length)):=aY (by omega)
 have ne: ∀{j:Nat}{v w:Option U},j≠i->ρ[j]? = some v->(ρ.set i w)[j]? = some v:=λ{j v w} hj e=>by rw[aK (by omega)];exact e
 have hlen:(ρ.set i (some (.ref (da S F ln x).length))).length=n:=by simp[hn]
 rw[fe]at e1
 have c1:(da S F ln (x++[Cell.lst (fr.map (prU T h))]))[(da S F ln x).length]? = some (Cell.lst (fr.map (prU T h))):=by rw[<- fe];exact de _ _
 have e2:m1 o7 (ae i) (ρ.set i (some (.ref (da S F ln x).length))) (da S F ln (x++[Cell.lst (fr.map (prU T h))]))=some (.ref (da S F ln (x++[Cell.lst (fr.map (prU T h))])).length,da S F ln (x++[Cell.lst (fr.map (prU T h))]++[Cell.lst (fr.reverse.map (prU T h))])):=by
  simp only[m1,var_eq g7,aF,o7,getL,c1,aT]
  rw[fe,List.map_reverse]
 have c2:(da S F ln (x++[Cell.lst (fr.map (prU T h))]++[Cell.lst (fr.reverse.map (prU T h))]))[(da S F ln (x++[Cell.lst (fr.map (prU T h))])).length]? = some (Cell.lst (fr.reverse.map (prU T h))):=by rw[<- fe];exact de _ _
 generalize hS2:da S F ln (x++[Cell.lst (fr.map (prU T h))]++[Cell.lst (fr.reverse.map (prU T h))])=S2 at e2 c2
 generalize hr2:(da S F ln (x++[Cell.lst (fr.map (prU T h))])).length=r2 at e2 c2
 have hg2:getL S2 r2=some (fr.reverse.map (prU T h)):=by unfold getL;rw[c2]
 have e3:=rR (c:=2) (e:=cX (aa (m2 cP (ae 5) (cX (aa (ae n) ak))) (aa (m2 cP (ae 6) (cX (aa (ae (n+1)) ak))) ak))) (ρ:=ρ.set i (some (.ref (da S F ln x).length))) (f:=λu=>match u with | .tup [.int a,.int b]=>lnU (p.1++[a.toNat],p.2++[b.toNat]) |_ => .non) hg2 (by
  intro u hu
  obtain⟨s,_,rfl⟩:=aI.mp hu
  refine⟨[.int s,.int (T h s:Nat)],rfl,?_⟩
  have ap2: ∀{j:Nat}{v:Option U}{z:Rho},(ρ.set i (some (.ref (da S F ln x).length)))[j]? = some v->(ρ.set i (some (.ref (da S F ln x).length))++z)[j]? = some v:=λ{j v z} e=>by
   have:=(ai.mp e).1
   rw[aP this];exact e
  have q1:(ρ.set i (some (.ref (da S F ln x).length))++([.int s,.int (T h s:Nat)]:List U).map some)[n]? = some (some (.int s)):=by rw[av (by exact nk (by assumption)),hlen];simp
  have q2:(ρ.set i (some (.ref (da S F ln x).length))++([.int s,.int (T h s:Nat)]:List U).map some)[n+1]? = some (some (.int (T h s:Nat))):=by rw[av (by omega),hlen];simp
  refine(yi (xG (x:=p.1) (y:= [s]) (var_eq (ap2 (ne (by omega) h5))) (yW (var_eq q1)) (by simp;exact aL (by assumption) (by decide))) (xG (x:=p.2) (y:= [T h s]) (var_eq (ap2 (ne (by exact aQ (by assumption)) h6))) (yW (var_eq q2)) (by simp;exact aL (by assumption) (by decide)))).trans ?_
  simp[prU,lnU]) fuel 0 [] (cn _) (by rw[aq,fb];unfold fuel;exact aL (by assumption) (ao (by assumption) (by decide)))
 rw[j4,dk,bX]at e3
 have hk:(fr.reverse.map ((λu=>match u with | .tup [.int a,.int b]=>lnU (p.1++[a.toNat],p.2++[b.toNat]) |_ => .non)∘prU T h))=((kids T st p).reverse).map lnU:=by
  unfold kids
  rw[hl,hfr,<- List.map_reverse,bX]
  apply bH
  intro s _
  simp[prU]
 rw[hk]at e3
 have hkl:(kids T st p).reverse.length<1000:=by
  rw[fb];unfold kids;rw[aq,hl,hfr];exact aL (by assumption) (by assumption)
 have e4:iZ 2 (cu (m1 o7 (ae i))) cTT (cX (aa (m2 cP (ae 5) (cX (aa (ae n) ak))) (aa (m2 cP (ae 6) (cX (aa (ae (n+1)) ak))) ak))) (ρ.set i (some (.ref (da S F ln x).length))) (da S F ln (x++[Cell.lst (fr.map (prU T h))]))=some (.ref S2.length,S2++[.lst (((kids T st p).reverse).map lnU)]):=by
  have hi2:cu (m1 o7 (ae i)) (ρ.set i (some (.ref (da S F ln x).length))) (da S F ln (x++[Cell.lst (fr.map (prU T h))]))=some (.mut r2,S2):=by simp only[cu,e2,aF,hg2,aT]
  simp only[iZ,hi2,aF,Cn,e3]
  exact if_pos (by rw[aq];unfold big;exact ao (by assumption) (by decide))
 have c3:(S2++[Cell.lst (((kids T st p).reverse).map lnU)])[S.length+1]? = some (.lst (ln.map lnU)):=by rw[<- hS2,fe];exact h1
 have c4:(S2++[Cell.lst (((kids T st p).reverse).map lnU)])[S2.length]? = some (.lst (((kids T st p).reverse).map lnU)):=de _ _
 have c5:(da S F ln (x++[Cell.lst (fr.map (prU T h))]))[S.length+1]? = some (.lst (ln.map lnU)):=h1
 refine⟨some (.ref (da S F ln x).length),x++[Cell.lst (fr.map (prU T h))]++[Cell.lst (fr.reverse.map (prU T h))]++[Cell.lst (((kids T st p).reverse).map lnU)],(be (bI e1)).trans ?_⟩
 have e5:mML eJ (ae 4) (aa (iZ 2 (cu (m1 o7 (ae i))) cTT (cX (aa (m2 cP (ae 5) (cX (aa (ae n) ak))) (aa (m2 cP (ae 6) (cX (aa (ae (n+1)) ak))) ak)))) ak) (ρ.set i (some (.ref (da S F ln x).length))) (da S F ln (x++[Cell.lst (fr.map (prU T h))]))=some (.non,da S F (ln++(kids T st p).reverse) (x++[Cell.lst (fr.map (prU T h))]++[Cell.lst (fr.reverse.map (prU T h))]++[Cell.lst (((kids T st p).reverse).map lnU)])):=by
  simp only[mML,var_eq (ne (by omega) h4),aF,getL,c5,ag,aa,ak,e4,eJ,c3,c4]
  rw[if_pos (by rw[aq,aq];unfold big;omega)]
  congr 2
  rw[<- hS2,fe]
  show(S++[_,_]++_).set (S.length+1) _=_
  rw[t1]
  simp[da]
 simp only[dN,e5,aF]
noncomputable def Ce:MT:=tH (cOf (m2 oNe (ae 4) (dn ak))) (cOf (m2 oLt (mFn cN (aa (ae 3) ak)) (ae 2)))
theorem HH{most:Nat}(h2:ρ[2]? = some (some (.int most)))(h3:ρ[3]? = some (some (.ref S.length)))(h4:ρ[4]? = some (some (.ref (S.length+1)))):
  Ce ρ (da S F ln x)=some (!decide (ln = [])&&decide (F.length<most),da S F ln (x++[.lst []])):=by
 have e1:cOf (m2 oNe (ae 4) (dn ak)) ρ (da S F ln x)=some (!decide (ln = []),da S F ln (x++[.lst []])):=by
  refine of_eq (IQ (var_eq h4) (kc.trans (by rw[fe])) h1 ?_)
  rw[<- fe];exact de _ _
 have e2:cOf (m2 oLt (mFn cN (aa (ae 3) ak)) (ae 2)) ρ (da S F ln (x++[.lst []]))=some (decide (F.length<most),da S F ln (x++[.lst []])):=by
  have:=of_eq (Gy (ρ:=ρ) (S:=da S F ln (x++[.lst []])) (a:=mFn cN (aa (ae 3) ak)) (b:=ae 2) (xg (var_eq h3) h0) (var_eq h2))
  rw[this]
  congr 2
  simp[tups]
 exact and_eq e1 e2 λ_=>rfl
theorem GN{p:Nod}(h4:ρ[4]? = some (some (.ref (S.length+1)))):
  sQ (mML ow (ae 4) ak) (gTp 2 (d6 (gN 5) (d6 (gN 6) kA))) ρ (da S F (ln++[p]) x)=some (.nx,(ρ.set 5 (some (.tup (az p.1)))).set 6 (some (.tup (az p.2))),da S F ln x):=by
 have e1:mML ow (ae 4) ak ρ (da S F (ln++[p]) x)=some (lnU p,da S F ln x):=by
  have c:(da S F (ln++[p]) x)[S.length+1]? = some (.lst ((ln++[p]).map lnU)):=h1
  simp only[mML,var_eq h4,aF,getL,c,ag,ak,ow]
  simp only[dB,bg,iQ,aV,bB,eQ,Fg]
  rw[av (by simp)]
  simp only[aq,BY,d5,Nat.add_sub_cancel,tS,lX,aT]
  congr 2
  exact t1
 simp only[sQ,e1,aF]
 rfl
end
noncomputable def fT(b:Nat):Nat->Nat
 | 0=>1
 | k+1=>1+b*fT b k
noncomputable def msr(b m:Nat)(ln:List Nod):Nat:=(ln.map λp=>fT b (m - 1 - p.1.length)).sum
noncomputable def rest(T:Nat->Nat->Nat)(st:List Nat)(L:Nod->List (List Nat))(m:Nat)(ln:List Nod):List (List Nat):=ln.reverse.flatMap λp=>ph T st L (m - 1 - p.1.length) p
structure Nd(m:Nat)(p:Nod):Prop where
 le:p.1.length<=m - 1
 len:p.2.length=p.1.length+1
 lt: ∀x∈p.2,x<m
section
variable {m:Nat}{T:Nat->Nat->Nat}{st:List Nat}{L:Nod->List (List Nat)}{ln:List Nod}{p:Nod}
theorem oS{b k:Nat}:1<=fT b k:=by cases k <;> simp[fT]
theorem zJ{b:Nat}{a c:List Nod}:msr b m (a++c)=msr b m a+msr b m c:=by simp[msr]
theorem uV{b:Nat}: ∀ln:List Nod,ln.length<=msr b m ln
 | []=>by simp
 | p::ln=>by
   have:=uV (b:=b) ln
   have:=oS (b:=b) (k:=m - 1 - p.1.length)
   simp only[msr,bg,Ar,bB]at *
   omega
theorem vc(g:Grp m T)(hs: ∀s∈st,s<m)(n:Nd m p)(h:p.1.length<m - 1){q:Nod}(hq:q∈kids T st p):Nd m q/\q.1.length=p.1.length+1:=by
 obtain⟨s,hs1,rfl⟩:=aI.mp hq
 have hsm:=(bo.mp hs1).1
 have hne:p.2≠[]:=by intro z;have:=n.len;rw[z]at this;simp at this
 refine⟨⟨by simp;assumption,by simp[n.len],λx hx =>?_⟩,by simp⟩
 rcases bu.mp hx with hx |hx
 ·exact n.lt x hx
 ·simp at hx;rw[hx];exact g.cl _ _ (nC hne n.lt) (hs s hsm)
theorem DO(g:Grp m T)(hs: ∀s∈st,s<m)(n:Nd m p)(h:p.1.length<m - 1):msr st.length m (kids T st p).reverse+1<=msr st.length m [p]:=by
 have hk:(kids T st p).length<=st.length:=by unfold kids;rw[aq];exact dz _ _
 have e1: ∀q∈(kids T st p).reverse,fT st.length (m - 1 - q.1.length)=fT st.length (m - 1 - p.1.length - 1):=λq hq=>by
  rw[(vc g hs n h (List.mem_reverse.mp hq)).2];congr 1
 have e2:msr st.length m (kids T st p).reverse=(kids T st p).length*fT st.length (m - 1 - p.1.length - 1):=by
  unfold msr
  rw[bH e1,List.map_const',List.sum_replicate_nat,fb]
 obtain⟨k,hk2⟩ : ∃k,m - 1 - p.1.length=k+1:=⟨m - 1 - p.1.length - 1,by omega⟩
 rw[e2]
 simp only[msr,bg,iQ,Ar,List.sum_nil,nr]
 rw[hk2,Nat.add_sub_cancel,fT]
 have:=dE (fT st.length k) hk
 omega
theorem yO(h:p.1.length<m - 1)(hk: ∀q∈kids T st p,q.1.length=p.1.length+1):rest T st L m (ln++(kids T st p).reverse)=rest T st L m (ln++[p]):=by
 unfold rest
 rw[pP,List.reverse_reverse,pP,pQ,pQ]
 congr 1
 obtain⟨k,hk2⟩ : ∃k,m - 1 - p.1.length=k+1:=⟨m - 1 - p.1.length - 1,by omega⟩
 simp only[iR,List.reverse_nil,dk,sN,List.flatMap_nil,hZ]
 rw[hk2,ph]
 rw[md,md]
 congr 1
 apply bH
 intro q hq
 rw[hk q hq]
 congr 1
 omega
theorem AE(h:p.1.length=m - 1):rest T st L m (ln++[p])=L p++rest T st L m ln:=by
 unfold rest
 rw[pP,pQ]
 congr 1
 simp[h,ph]
end
end
end _W
end
section
namespace _W
open _L _G
section
theorem LN{ρ:Rho}{S S1 S2:Sto}{a b:ME}{x y:Nat}(ha:a ρ S=some (.int x,S1))(hb:b ρ S1=some (.int y,S2)):mFn sW (aa a (aa b ak)) ρ S=some (.int (min x y:Nat),S2):=by
 refine d7 ha hb ?_
 show some (U.int (if (y:Int)<x then(y:Int) else x),S2)=_
 congr 3
 split <;> omega
theorem IZ{α:Type}{xs:List α}{k:Nat}:cut xs none (some (k:Int))=xs.take k:=by
 have h1:HT.sIx xs.length 0 none=0:=rfl
 have h2:HT.sIx xs.length xs.length (some (k:Int))=min k xs.length:=HT.sIx_nat _ _ k
 unfold cut
 rw[h1,h2,j4,Nat.sub_zero]
 by_cases h:k<=xs.length
 ·rw[Nat.min_eq_left h]
 ·rw[Nat.min_eq_right (by omega),fA (ah _),fA (by omega)]
theorem CW{F:List (List Nat)}{k:Nat}:cut (tups F) none (some (k:Int))=tups (F.take k):=by
 rw[IZ];unfold tups;rw[List.map_take]
section
variable {m:Nat}{T:Nat->Nat->Nat}{st:List Nat}{S:Sto}
noncomputable def mm(m:Nat)(T:Nat->Nat->Nat)(st:List Nat)(most:Nat)(S:Sto)(r:List (Option U)):Rho:= [some (tab m T),some (.tup (az st)),some (.int most),some (.ref S.length),some (.ref (S.length+1))]++r
structure Sv(m:Nat)(T:Nat->Nat->Nat)(st:List Nat)(L:Nod->List (List Nat))(F:List (List Nat))(ln:List Nod)(μ:Nat):Prop where
 nd: ∀p∈ln,Nd m p
 tot:F++rest T st L m ln=ph T st L (m - 1) ([],[0])
 ms:msr st.length m ln<=μ
 bd:μ<=30000
theorem Sv.start{L:Nod->List (List Nat)}(hm:0<m)(hz:fT st.length (m - 1)<=30000):Sv m T st L [] [([],[0])] (fT st.length (m - 1)):=
 ⟨λp hp=>by simp at hp;subst hp;exact⟨by simp,rfl,by simpa using hm⟩,by simp[rest],by simp[msr],hz⟩
theorem Sv.stop{L:Nod->List (List Nat)}{F:List (List Nat)}{ln:List Nod}{μ most:Nat}(s:Sv m T st L F ln μ)(h:(!decide (ln = [])&&decide (F.length<most))=false):F.take most=(ph T st L (m - 1) ([],[0])).take most:=by
 rw[<- s.tot]
 by_cases hl:ln = []
 ·subst hl;simp[rest]
 ·have:most<=F.length:=by simpa [hl]using h
  rw[List.take_append_of_le_length this]
theorem Sv.leaf{L:Nod->List (List Nat)}{F:List (List Nat)}{ln:List Nod}{μ:Nat}{p:Nod}(s:Sv m T st L F (ln++[p]) (μ+1))(h:p.1.length=m - 1):Sv m T st L (F++L p) ln μ:=by
 refine⟨λq hq=>s.nd q (bA _ hq),?_,?_,by have:=s.bd;exact aU (by assumption)⟩
 ·have:=s.tot
  rw[AE h]at this
  rw[<- this,bz]
 ·have:=s.ms
  rw[zJ]at this
  have h1:=oS (b:=st.length) (k:=m - 1 - p.1.length)
  simp only[msr,bg,iQ,Ar,List.sum_nil]at this ⊢
  omega
theorem Sv.inner{L:Nod->List (List Nat)}{F:List (List Nat)}{ln:List Nod}{μ:Nat}{p:Nod}(g:Grp m T)(hs: ∀s∈st,s<m)(s:Sv m T st L F (ln++[p]) (μ+1))(h:p.1.length<m - 1):Sv m T st L F (ln++(kids T st p).reverse) μ:=by
 have np:=s.nd p (by simp)
 refine⟨λq hq =>?_,?_,?_,by have:=s.bd;exact aU (by assumption)⟩
 ·rcases bu.mp hq with hq |hq
  ·exact s.nd q (bA _ hq)
  ·exact(vc g hs np h (List.mem_reverse.mp hq)).1
 ·rw[yO h λq hq=>(vc g hs np h hq).2];exact s.tot
 ·have:=s.ms
  have:=DO g hs np h
  rw[zJ]at *
  omega
noncomputable def z6:MS:=br (sQ (mML ow (ae 4) ak) (gTp 2 (d6 (gN 5) (d6 (gN 6) kA)))) (br (bJ 7 (m2 oIx (ae 6) (m1 pR (mC (.int 1))))) (sIf (cOf (m2 oEq (mFn cN (aa (ae 5) ak)) (m2 mR (mFn cN (aa (ae 0) ak)) (mC (.int 1))))) (dN (mML eJ (ae 3) (aa (ck (cu (ae 1)) (cOf (m2 oEq (m2 oIx (m2 oIx (ae 0) (ae 7)) (ae 9)) (mC (.int 0)))) (m2 cP (ae 5) (cX (aa (ae 9) ak)))) ak))) (br (bJ 8 (ck (cu (ae 1)) (cOf (m2 gy (m2 oIx (m2 oIx (ae 0) (ae 7)) (ae 9)) (ae 6))) (cX (aa (ae 9) (aa (m2 oIx (m2 oIx (ae 0) (ae 7)) (ae 9)) ak))))) (dN (mML eJ (ae 4) (aa (iZ 2 (cu (m1 o7 (ae 8))) cTT (cX (aa (m2 cP (ae 5) (cX (aa (ae 9) ak))) (aa (m2 cP (ae 6) (cX (aa (ae 10) ak))) ak)))) ak))))))
noncomputable def zp:MS:=br (bJ 3 (dn ak)) (br (bJ 4 (dn (aa (cX (aa (cX ak) (aa (cX (aa (mC (.int 0)) ak)) ak))) ak))) (br (jl Ce z6) (eg (mSl (ae 3) none (some (ae 2))))))
noncomputable def m7(T:Nat->Nat->Nat)(st:List Nat)(p:Nod):List (List Nat):=(st.filter λs=>decide (T (eu p.2) s=0)).map λs=>p.1++[s]
theorem OB{ρ:Rho}{S':Sto}{p:Nod}(h0':ρ[0]? = some (some (tab m T)))(h5:ρ[5]? = some (some (.tup (az p.1))))(hm:0<m):cOf (m2 oEq (mFn cN (aa (ae 5) ak)) (m2 mR (mFn cN (aa (ae 0) ak)) (mC (.int 1)))) ρ S'=some (decide (p.1.length=m - 1),S'):=by
 have:=of_eq (AM (ρ:=ρ) (S:=S') (a:=mFn cN (aa (ae 5) ak)) (b:=m2 mR (mFn cN (aa (ae 0) ak)) (mC (.int 1))) (Ae (var_eq h5)) (Ad (len_tab (var_eq h0')) c_i))
 rw[this,dg]
 congr 2
 by_cases h:p.1.length=m - 1
 ·rw[decide_eq_true h,h];simp;omega
 ·rw[decide_eq_false h];simp;omega
theorem Nw{ρ:Rho}{S':Sto}{th:List Nat}(h6:ρ[6]? = some (some (.tup (az th))))(hne:th≠[]):m2 oIx (ae 6) (m1 pR (mC (.int 1))) ρ S'=some (.int (eu th:Nat),S'):=BC (var_eq h6) OW (F7 hne)
theorem EC{ρ:Rho}{S':Sto}:dn (aa (cX (aa (cX ak) (aa (cX (aa (mC (.int 0)) ak)) ak))) ak) ρ S'=some (.ref S'.length,S'++[.lst [lnU ([],[0])]]):=zO (yi (x:= .tup []) rfl (yW c_i))
theorem tV{ρ:Rho}{S S1:Sto}{o a:ME}{r k:Nat}{us ws:List U}(ho:o ρ S=some (.ref r,S))(ha:a ρ S=some (.ref k,S1))(hr:S[r]? = some (Cell.lst us))(hr1:S1[r]? = some (Cell.lst us))(hk:S1[k]? = some (Cell.lst ws))(hl:us.length+ws.length<=big):
  dN (mML eJ o (aa a ak)) ρ S=some (.nx,ρ,S1.set r (.lst (us++ws))):=by
 simp only[dN,mML,ho,aF,getL,hr,ag,aa,ak,ha,eJ,hr1,hk]
 rw[if_pos hl]
 simp only[aF]
theorem Bl{most:Nat}(g:Grp m T)(hm:m<100)(hs: ∀s∈st,s<m)(hsl:st.length<1000)(hmo:most<10000000)(hz:fT st.length (m - 1)<=30000):
  ∃r S',_G.run 3 9 zp [tab m T,.tup (az st),.int (most:Nat)] S=some (.ref r,S')/\Ex S S'/\S'[r]? = some (.lst (tups ((ph T st (m7 T st) (m - 1) ([],[0])).take most))):=by
 have hp:=g.pos
 obtain⟨ρ1,S1,e1,r,F,ln,x,rfl,rfl,hF⟩:=nZ (c:=Ce) (b:=z6) (λμ ρ S' =>∃a b c d F ln x,ρ=mm m T st most S [a,b,c,d]/\S'=da S F ln x/\Sv m T st (m7 T st) F ln μ)
  (λρ S' =>∃r F ln x,ρ=mm m T st most S r/\S'=da S F ln x/\F.take most=(ph T st (m7 T st) (m - 1) ([],[0])).take most) (by
  rintro μ ρ S' ⟨a,b,c,d,F,ln,x,rfl,rfl,s⟩
  refine⟨_,_,HH (most:=most) rfl rfl rfl,λhf=>⟨_,F,ln,_,rfl,rfl,s.stop hf⟩,λht =>?_⟩
  rw[ay]at ht
  have hne:ln≠[]:=by simpa using ht.1
  have hFl:F.length<most:=of_decide_eq_true ht.2
  obtain⟨ln,p,rfl⟩:=oi hne
  have np:=s.nd p (by simp)
  have hln:ln.length<100000:=by
   have:=uV (m:=m) (b:=st.length) (ln++[p])
   have:=s.ms;have:=s.bd
   simp only[aV,bB,eQ]at *
   omega
  have hth:p.2≠[]:=by intro z;have:=np.len;rw[z]at this;simp at this
  cases μ with
  | zero=>
    have:=s.ms
    have:=uV (m:=m) (b:=st.length) (ln++[p])
    simp at this;omega
  | succ μ=>
  have e1:=GN (S:=S) (F:=F) (ln:=ln) (x:=x++[.lst []]) (p:=p) (ρ:=mm m T st most S [a,b,c,d]) rfl
  have e0:bJ 7 (m2 oIx (ae 6) (m1 pR (mC (.int 1)))) (mm m T st most S [some (.tup (az p.1)),some (.tup (az p.2)),c,d]) (da S F ln (x++[.lst []]))=some (.nx,mm m T st most S [some (.tup (az p.1)),some (.tup (az p.2)),some (.int (eu p.2:Nat)),d],da S F ln (x++[.lst []])):=bI (Nw rfl hth)
  have ec:=OB (m:=m) (T:=T) (p:=p) (ρ:=mm m T st most S [some (.tup (az p.1)),some (.tup (az p.2)),some (.int (eu p.2:Nat)),d]) (S':=da S F ln (x++[.lst []])) rfl rfl hp
  have hla:=nC hth np.lt
  by_cases hl:p.1.length=m - 1
  ·rw[decide_eq_true hl]at ec
   have e2:=oJ (t:=cOf (m2 oEq (m2 oIx (m2 oIx (ae 0) (ae 7)) (ae 9)) (mC (.int 0)))) (e:=m2 cP (ae 5) (cX (aa (ae 9) ak))) (ρ:=mm m T st most S [some (.tup (az p.1)),some (.tup (az p.2)),some (.int (eu p.2:Nat)),d]) (S:=da S F ln (x++[.lst []])) (a:=ae 1) (l:=st) (p:=λs=>decide (T (eu p.2) s=0)) (f:=λs => .tup (az (p.1++[s]))) (var_eq rfl) hsl
    (λs hs'=>of_eq (N2 (y:=0) (ki (T:=T) (i:=eu p.2) (j:=s) (hs s hs') (jI hla (var_eq rfl) (var_eq rfl)) (var_eq rfl)) c_i)) (λs hs' _=>xG (x:=p.1) (y:= [s]) (var_eq rfl) (yW (var_eq rfl)) (by simp;omega))
   have hrl:((st.filter λs=>decide (T (eu p.2) s=0)).map λs=>U.tup (az (p.1++[s])))=tups (m7 T st p):=by
    unfold tups m7;rw[bX];rfl
   rw[hrl,fe]at e2
   have hll:(m7 T st p).length<=st.length:=by unfold m7;rw[aq];exact dz _ _
   have e3:=tV (ρ:=mm m T st most S [some (.tup (az p.1)),some (.tup (az p.2)),some (.int (eu p.2:Nat)),d]) (o:=ae 3) (r:=S.length) (var_eq rfl) e2 h0 h0 (by rw[<- fe];exact de _ _) (by simp only[tups,aq];unfold big;omega)
   rw[show(da S F ln (x++[Cell.lst []]++[Cell.lst (tups (m7 T st p))])).set S.length (Cell.lst (tups F++tups (m7 T st p)))=da S (F++m7 T st p) ln (x++[Cell.lst []]++[Cell.lst (tups (m7 T st p))]) from(show(S++[_,_]++_).set S.length _=_ from t0).trans (by simp[da,tups])]at e3
   exact⟨_,_,μ,bD _,(be e1).trans ((be e0).trans ((rE ec).trans e3)),_,_,_,_,_,_,_,rfl,rfl,s.leaf hl⟩
  ·rw[decide_eq_false hl]at ec
   have hlt:p.1.length<m - 1:=by have:=np.le;exact fJ (by assumption) (by assumption)
   obtain⟨v,x',e2⟩:=Ci (S:=S) (F:=F) (ln:=ln) (x:=x++[.lst []]) (i:=8) (n:=9) (h:=eu p.2) (he:=ae 7) (p:=p) (ρ:=mm m T st most S [some (.tup (az p.1)),some (.tup (az p.2)),some (.int (eu p.2:Nat)),d]) hla hs hsl (by omega) (by have:=np.len;omega) hln rfl rfl rfl rfl rfl rfl rfl (by decide) (by decide) (λz S'=>var_eq rfl)
   exact⟨_,_,μ,bD _,(be e1).trans ((be e0).trans ((oO ec).trans e2)),_,_,_,_,_,_,_,rfl,rfl,s.inner g hs hlt⟩) fuel (fT st.length (m - 1)) (mm m T st most S [none,none,none,none]) (da S [] [([],[0])] []) (by unfold fuel;exact aL (by assumption) (by decide)) ⟨_,_,_,_,_,_,_,rfl,rfl,Sv.start hp hz⟩
 have e9:mSl (ae 3) none (some (ae 2)) (mm m T st most S r) (da S F ln x)=some (.ref (da S F ln x).length,da S F ln x++[.lst (tups (F.take most))]):=by
  have c:(da S F ln x)[S.length]? = some (.lst (tups F)):=h0
  have v3:ae 3 (mm m T st most S r) (da S F ln x)=some (.ref S.length,da S F ln x):=var_eq rfl
  have v2:ae 2 (mm m T st most S r) (da S F ln x)=some (.int (most:Nat),da S F ln x):=var_eq rfl
  simp only[mSl,v3,aF,zW,v2,getL,c,aT]
  rw[CW]
 rw[hF]at e9
 refine⟨(da S F ln x).length,da S F ln x++[.lst (tups ((ph T st (m7 T st) (m - 1) ([],[0])).take most))],dH (ρ:=mm m T st most S r) rfl ?_,⟨[.lst (tups F),.lst (ln.map lnU)]++x++[.lst (tups ((ph T st (m7 T st) (m - 1) ([],[0])).take most))],by unfold da;simp⟩,de _ _⟩
 show zp [some (tab m T),some (.tup (az st)),some (.int (most:Nat)),none,none,none,none,none,none] S=_
 refine(be (bI kc)).trans ((be (bI EC)).trans ?_)
 refine(be (ρ1:=mm m T st most S r) (S1:=da S F ln x) ?_).trans (dG e9)
 rw[<- e1]
 simp[jl,da,mm,tups]
end
end
end _W
end
section
namespace _W
open _L _G
section
theorem Ex.set{S S':Sto}{r:Nat}{c:Cell}(h:Ex S S')(hr:S.length<=r):Ex S (S'.set r c):=by
 obtain⟨t,rfl⟩:=h
 exact⟨t.set (r - S.length) c,by rw[eE _ _ hr]⟩
theorem rV{b c:Nat}(h:b<=c): ∀{j k:Nat},j<=k->fT b j<=fT c k
 | 0,k,_=>oS
 | j+1,0,h2=>by omega
 | j+1,k+1,h2=>by
   unfold fT
   have:=Nat.mul_le_mul h (rV h (j:=j) (k:=k) (by exact eT (by assumption)))
   omega
section
variable {m:Nat}{T:Nat->Nat->Nat}{st:List Nat}
noncomputable def kC(T:Nat->Nat->Nat)(st:List Nat)(last:Nat->Option (List Nat)):Nat->Nat->List Nat->List (List Nat)
 | 0,h,_=>(last h).toList
 | k+1,h,left=>(gos T st h left).flatMap λs=>(kC T st last k (T h s) (left.filter λy => !decide (y=T h s))).map λw=>s::w
theorem rM{α β:Type}{f:α->List β}{B:Nat}: ∀(l:List α),(∀x∈l,(f x).length<=B)->(l.flatMap f).length<=l.length*B
 | [],_=>by simp
 | x::l,h=>by
   have h1:=h x (by simp)
   have h2:=rM l λy hy=>h y (aC _ hy)
   rw[sN,aV,bB,ng]
   omega
theorem wq{last:Nat->Option (List Nat)}: ∀(k h:Nat) (left:List Nat),(kC T st last k h left).length<=fT st.length k
 | 0,h,left=>by unfold kC fT;cases last h <;> simp
 | k+1,h,left=>by
   unfold kC fT
   have h1:=rM (f:=λs=>(kC T st last k (T h s) (left.filter λy => !decide (y=T h s))).map λw=>s::w) (B:=fT st.length k) (gos T st h left) λs _=>by
    rw[aq];exact wq k _ _
   have h2:(gos T st h left).length<=st.length:=dz _ _
   have:=dE (fT st.length k) h2
   omega
structure Lft(m:Nat)(th left:List Nat):Prop where
 nd:left.Nodup
 mem: ∀y,y∈left↔y<m/\y∉th
theorem Lft.kid{th left:List Nat}{x:Nat}(l:Lft m th left):Lft m (th++[x]) (left.filter λy => !decide (y=x)):=
 ⟨l.nd.filter _,λy=>by
  rw[bo,l.mem y]
  simp
  constructor
  ·rintro ⟨⟨a,b⟩,c⟩;exact⟨a,b,c⟩
  ·rintro ⟨a,b,c⟩;exact⟨⟨a,b⟩,c⟩⟩
theorem Bz(hm:0<m):Lft m [0] (aO 1 (m - 1)):=by
 refine⟨List.nodup_range',λy =>?_⟩
 rw[iU]
 simp
 omega
theorem xa{L:Nod->List (List Nat)}{last:Nat->Option (List Nat)}(g:Grp m T)(hs: ∀s∈st,s<m)(hL: ∀p:Nod,p.2≠[]->(∀x∈p.2,x<m)->L p=(last (eu p.2)).toList.map λw=>p.1++w):
  ∀(k:Nat) (p:Nod) (left:List Nat),p.2≠[]->(∀x∈p.2,x<m)->Lft m p.2 left->ph T st L k p=(kC T st last k (eu p.2) left).map λw=>p.1++w
 | 0,p,left,h1,h2,l=>hL p h1 h2
 | k+1,p,left,h1,h2,l=>by
   unfold ph kC
   have hh:=nC h1 h2
   have hg:gos T st (eu p.2) left=st.filter λs => !decide (T (eu p.2) s∈p.2):=by
    unfold gos
    apply List.filter_congr
    intro s hsm
    have:=g.cl _ _ hh (hs s hsm)
    by_cases z:T (eu p.2) s∈p.2
    ·have:T (eu p.2) s∉left:=λy=>((l.mem _).mp y).2 z
     simp[z,this]
    ·have:T (eu p.2) s∈left:=(l.mem _).mpr ⟨this,z⟩
     simp[z,this]
   rw[hg]
   unfold kids
   rw[List.flatMap_map,List.map_flatMap]
   rw[md,md]
   congr 1
   apply bH
   intro s hsm
   have hsm:=(bo.mp hsm).1
   have ih:=xa g hs hL k (p.1++[s],p.2++[T (eu p.2) s]) (left.filter λy => !decide (y=T (eu p.2) s)) (by simp) (λx hx=>by
    rcases bu.mp hx with hx |hx
    ·exact h2 x hx
    ·simp at hx;rw[hx];exact g.cl _ _ hh (hs s hsm)) l.kid
   rw[ih]
   simp only[mO]
   rw[bX]
   apply bH
   intro w _
   simp
noncomputable def n8(m:Nat)(T:Nat->Nat->Nat)(st:List Nat)(h:Nat):Option (List Nat):=if unT m T h∈st then some [unT m T h] else none
theorem xu{p:Nat->Bool}{x:Nat}: ∀(l:List Nat),l.Nodup->(∀s∈l,p s=decide (s=x))->l.filter p=if x∈l then [x] else []
 | [],_,_=>by simp
 | y::l,nd,h=>by
   have hy:=h y (by simp)
   have nd':=dj.mp nd
   have ih:=xu l nd'.2 λs hs=>h s (aC _ hs)
   by_cases e:y=x
   ·subst e
    rw[lY (by rw[hy];simp),ih,if_neg nd'.1]
    simp
   ·rw[lZ (by rw[hy];simpa using e),ih]
    simp[cZ e]
noncomputable def pS(m:Nat)(T:Nat->Nat->Nat)(st:List Nat):List (List Nat):=kC T st (n8 m T st) (m - 1) 0 (aO 1 (m - 1))
theorem Hn(g:Grp m T)(hs: ∀s∈st,s<m)(nd:st.Nodup):ph T st (m7 T st) (m - 1) ([],[0])=pS m T st:=by
 rw[xa g hs (last:=n8 m T st) (λp h1 h2=>by
  have hh:=nC h1 h2
  obtain⟨u1,u2,u3,u4⟩:=jz g hh
  unfold m7 n8
  rw[xu (x:=unT m T (eu p.2)) st nd λs hsm =>?_]
  ·split <;> simp
  ·by_cases z:s=unT m T (eu p.2)
   ·subst z;simp[u2]
   ·have:T (eu p.2) s≠0:=λy=>z (u4 s (hs s hsm) y)
    simp[z,this]) (m - 1) ([],[0]) _ (by simp) (by simpa using g.pos) (Bz g.pos)]
 show oH (λw=>w) (kC T st (n8 m T st) (m - 1) 0 (aO 1 (m - 1)))=_
 rw[B0];rfl
end
structure Lng(ls:List (List Nat)):Prop where
 len:ls.length<=9000
 each: ∀l∈ls,l.length<=8
 lt: ∀l∈ls,∀x∈l,x<1000
open PySem in
open PySem in
section
variable {m:Nat}{T:Nat->Nat->Nat}{st:List Nat}{S:Sto}
end
end
end _W
end
section
namespace _W
open _L _G
section
abbrev Rds:=List (Nat×List Nat)
noncomputable def kF(ks:Rds):List Nat:=ks.map Prod.fst
noncomputable def eO(ks:Rds):List (_L.Key×U):=ks.map λp=>(eF (p.1:Int),U.tup (az p.2))
theorem DB{ks:Rds}{x:Nat}:pW (eO ks) (.inl (x:Int))=decide (x∈kF ks):=by
 have:pW (eO ks) (.inl (x:Int))=true↔x∈kF ks:=by
  rw[nV]
  unfold eO kF
  constructor
  ·rintro ⟨kv,hm,e⟩
   obtain⟨y,hy,rfl⟩:=aI.mp hm
   have e':(y.1:Int)=x:=su e
   exact aI.mpr ⟨y,hy,by omega⟩
  ·intro h
   obtain⟨y,hy,rfl⟩:=aI.mp h
   exact⟨_,aI.mpr ⟨y,hy,rfl⟩,rfl⟩
 by_cases h:x∈kF ks
 ·rw[this.mpr h];simp[h]
 ·cases q:pW (eO ks) (.inl (x:Int)) with
  | true=>exact absurd (this.mp q) h
  | false=>simp[h]
theorem MH{ks:Rds}{x:Nat}{w:List Nat}(h:x∉kF ks):jN (eO ks) (.inl (x:Int)) (.tup (az w))=eO (ks++[(x,w)]):=by
 unfold jN
 rw[if_neg]
 ·simp[eO]
 ·intro z
  obtain⟨kv,hm,e⟩:=fg.mp z
  have:pW (eO ks) (.inl (x:Int))=true:=nV.mpr ⟨kv,hm,of_decide_eq_true e⟩
  rw[DB]at this
  exact h (of_decide_eq_true this)
theorem A3(ks:Rds):(eO ks).length=ks.length:=by simp[eO]
theorem qR: ∀(ks:Rds),dq mV (eO ks)=some (eB (kF ks))
 | []=>rfl
 | x::l=>by
   show(mV (eF (x.1:Int),U.tup (az x.2))).bind _=_
   simp only[mV,ag]
   rw[show oH (λ(p:Nat×List Nat)=>(eF (p.1:Int),U.tup (az p.2))) l=eO l from rfl,qR l]
   rfl
noncomputable def il(ks:Rds)(x:Nat):List Nat:=((ks.find? λp=>decide (p.1=x)).map Prod.snd).getD []
theorem Ik{x:Nat}: ∀{ks:Rds},x∈kF ks->i7 (eO ks) (.inl (x:Int))=some (.tup (az (il ks x)))
 | [],h=>by simp[kF]at h
 | p::ks,h=>by
   unfold i7 il eO
   rw[bg,bN,bN]
   by_cases e:p.1=x
   ·have:(eF (p.1:Int):_L.Key) = .inl (x:Int):=by rw[e]
    simp[e]
   ·have e1: ¬((eF (p.1:Int):_L.Key) = .inl (x:Int)):=λz=>e (by have:=su z;omega)
    simp only[decide_eq_false e,decide_eq_false e1]
    have h':x∈kF ks:=by
     rcases aG.mp (show x∈p.1::kF ks from h) with z |z
     ·exact absurd z.symm e
     ·exact z
    exact Ik (ks:=ks) h'
theorem mQ{x:Nat}: ∀{ks:Rds},x∈kF ks->(x,il ks x)∈ks
 | [],h=>by simp[kF]at h
 | p::ks,h=>by
   unfold il
   rw[bN]
   by_cases e:p.1=x
   ·rw[decide_eq_true e]
    show(x,p.2)∈p::ks
    rw[<- e];exact aZ
   ·have h':x∈kF ks:=by
     rcases aG.mp (show x∈p.1::kF ks from h) with z |z
     ·exact absurd z.symm e
     ·exact z
    rw[decide_eq_false e]
    exact aC _ (mQ (ks:=ks) h')
structure Rd(T:Nat->Nat->Nat)(ths:List Nat)(ks:Rds):Prop where
 go: ∀p∈ks,vD T p.2=p.1
 by': ∀p∈ks,∀y∈p.2,y∈ths
 len: ∀p∈ks,p.2.length<ks.length
section
variable {m:Nat}{T:Nat->Nat->Nat}{ths:List Nat}{S x:Sto}{v:U}
noncomputable def fq(S:Sto)(p:Rds×List Nat)(x:Sto):Sto:=S++[.dic (eO p.1),.lst (az p.2)]++x
noncomputable def yv(T:Nat->Nat->Nat)(h y:Nat)(p:Rds×List Nat):Rds×List Nat:=if T h y∈kF p.1 then p else(p.1++[(T h y,il p.1 h++[y])],p.2++[T h y])
noncomputable def cvR(p:Rds×List Nat):List Nat×List Nat:=(kF p.1,p.2)
theorem FQ{h y:Nat}{p:Rds×List Nat}:cvR (yv T h y p)=tryD T h y (cvR p):=by
 by_cases e:T h y∈kF p.1
 ·rw[yv,if_pos e,tryD,if_pos (show T h y∈(cvR p).1 from e)]
 ·rw[yv,if_neg e,tryD,if_neg (show ¬T h y∈(cvR p).1 from e)]
  simp[cvR,kF]
theorem Fp{h y:Nat}{p:Rds×List Nat}(hr:Rd T ths p.1)(hh:h∈kF p.1)(hy:y∈ths):Rd T ths (yv T h y p).1:=by
 unfold yv
 split
 ·exact hr
 ·have hm:=mQ hh
  refine⟨λq hq =>?_,λq hq =>?_,λq hq =>?_⟩
  ·rcases bu.mp hq with hq |hq
   ·exact hr.go q hq
   ·simp at hq;subst hq
    show vD T (il p.1 h++[y])=T h y
    have:=hr.go _ hm
    unfold vD at this ⊢
    rw[List.foldl_append,this];rfl
  ·rcases bu.mp hq with hq |hq
   ·exact hr.by' q hq
   ·simp at hq;subst hq
    intro z hz
    rcases bu.mp hz with hz |hz
    ·exact hr.by' _ hm z hz
    ·simp at hz;rw[hz];exact hy
  ·rw[aV]
   rcases bu.mp hq with hq |hq
   ·have:=hr.len q hq;simp;exact eS (by assumption)
   ·simp at hq;subst hq
    have:=hr.len _ hm
    simp at this ⊢;assumption
theorem KL{ρ:Rho}{S S1 S2:Sto}{a b:ME}{r:Nat}{y:Nat}{kvs:List (_L.Key×U)}{u:U}(ha:a ρ S=some (.ref r,S1))(hb:b ρ S1=some (.int (y:Nat),S2))(hr:S2[r]? = some (Cell.dic kvs))(h:i7 kvs (.inl (y:Int))=some u):m2 oIx a b ρ S=some (u,S2):=
 op2 ha hb (by simp only[oIx,gf,hr,keyOf,ag,h,aT])
theorem Iz{ρ:Rho}{S:Sto}{o i e:ME}{r:Nat}{z:Int}{u:U}{kvs:List (_L.Key×U)}(he:e ρ S=some (u,S))(ho:o ρ S=some (.ref r,S))(hi:i ρ S=some (.int z,S))(hr:S[r]? = some (Cell.dic kvs))(hl:kvs.length<big):eA o i e ρ S=some (.nx,ρ,S.set r (.dic (jN kvs (.inl z) u))):=by
 simp only[eA,he,aF,ho,hi,hr,keyOf,ag,hl,if_true]
noncomputable def pq:MS:=br (bJ 6 (m2 oIx (m2 oIx (ae 0) (ae 4)) (ae 5))) (sIf (cOf (m2 gy (ae 6) (ae 2))) (br (eA (ae 2) (ae 6) (m2 cP (m2 oIx (ae 2) (ae 4)) (cX (aa (ae 5) ak)))) (dN (mML du (ae 3) (aa (ae 6) ak)))) eC)
noncomputable def Ij:MS:=br (bJ 4 (mML ow (ae 3) ak)) (eX 5 (cu (ae 1)) pq)
noncomputable def zV:MS:=br (bJ 2 (qL (mC (.int 0)) (cX ak))) (br (bJ 3 (dn (aa (mC (.int 0)) ak))) (br (jl Cv Ij) (eg (ae 2))))
noncomputable def spM:MS:=eg (mFn cy (aa (mFn fP (aa (mFn (_G.run 2 7 zV) (aa (ae 0) (aa (ae 1) ak))) ak)) ak))
theorem Bj{c:Option U}{h y:Nat}{p:Rds×List Nat}(hh:h<m)(hy:y<m)(hk:h∈kF p.1)(hr:Rd T ths p.1)(l1:p.1.length<1000)(l2:p.2.length<big):
  pq (spR m T v S [some (.int h),some (.int y),c]) (fq S p x)=some (.nx,spR m T v S [some (.int h),some (.int y),some (.int (T h y:Nat))],fq S (yv T h y p) x):=by
 have e6:m2 oIx (m2 oIx (ae 0) (ae 4)) (ae 5) (spR m T v S [some (.int h),some (.int y),c]) (fq S p x)=some (.int (T h y:Nat),fq S p x):=ki hy (jI hh (var_eq rfl) (var_eq rfl)) (var_eq rfl)
 refine(be (bI e6)).trans ?_
 show sIf _ _ _ (spR m T v S [some (.int h),some (.int y),some (.int (T h y:Nat))]) (fq S p x)=_
 have ec:=zh (ρ:=spR m T v S [some (.int h),some (.int y),some (.int (T h y:Nat))]) (a:=ae 6) (b:=ae 2) (x:=T h y) (var_eq rfl) (var_eq rfl) (show(fq S p x)[S.length]? = _ from h0)
 rw[DB]at ec
 unfold yv
 by_cases hin:T h y∈kF p.1
 ·rw[if_pos hin]
  rw[decide_eq_true hin]at ec
  exact oO ec
 ·rw[if_neg hin]
  rw[decide_eq_false hin]at ec
  refine(rE ec).trans ?_
  have hrl:=hr.len _ (mQ hk)
  have ea:m2 cP (m2 oIx (ae 2) (ae 4)) (cX (aa (ae 5) ak)) (spR m T v S [some (.int h),some (.int y),some (.int (T h y:Nat))]) (fq S p x)=some (.tup (az (il p.1 h++[y])),fq S p x):=xG (x:=il p.1 h) (y:= [y]) (KL (y:=h) (var_eq rfl) (var_eq rfl) (show(fq S p x)[S.length]? = _ from h0) (Ik hk)) (yW (var_eq rfl)) (by simp at hrl ⊢;exact aL (by assumption) (by assumption))
  have e1:=Iz (o:=ae 2) (i:=ae 6) ea (var_eq rfl) (var_eq rfl) (show(fq S p x)[S.length]? = _ from h0) (by rw[A3];unfold big;exact ao (by assumption) (by decide))
  rw[MH hin,show(fq S p x).set S.length (.dic (eO (p.1++[(T h y,il p.1 h++[y])])))=fq S (p.1++[(T h y,il p.1 h++[y])],p.2) x from t0]at e1
  refine(be e1).trans ?_
  have e2:=append_eq (ρ:=spR m T v S [some (.int h),some (.int y),some (.int (T h y:Nat))]) (o:=ae 3) (a:=ae 6) (var_eq rfl) (var_eq rfl) (show(fq S (p.1++[(T h y,il p.1 h++[y])],p.2) x)[S.length+1]? = _ from h1) h1 (by rw[dg];exact l2)
  rw[show(fq S (p.1++[(T h y,il p.1 h++[y])],p.2) x).set (S.length+1) _=S++[.dic (eO (p.1++[(T h y,il p.1 h++[y])])),_]++x from t1]at e2
  rw[e2]
  simp[fq,az]
theorem FP{a b c:Option U}{h μ:Nat}{p:Rds×List Nat}(g:Grp m T)(hm:m<64)(hμ:μ<1000)(ht: ∀z∈ths,z<m)(hv:Wk S v ths)(n:Inn m T ths h 0 (cvR p) μ)(hr:Rd T ths p.1):
  ∃b' c' q,eX 5 (cu (ae 1)) pq (spR m T v S [some (.int h),b,c]) (fq S p x)=some (.nx,spR m T v S [some (.int h),b',c'],fq S q x)/\Inn m T ths h ths.length (cvR q) μ/\Rd T ths q.1:=by
 have hh:h<m:=n.d.lt h n.hk
 have stp: ∀(k:Nat) (u:U) (ρ:Rho) (S':Sto),(az ths)[k]? = some u->(∃b c q,S'=fq S q x/\ρ=spR m T v S [some (.int h),b,c]/\Inn m T ths h k (cvR q) μ/\Rd T ths q.1) -> ∃ρ' S'',pq (ρ.set 5 (some u)) S'=some (.nx,ρ',S'') /\ ∃b c q,S''=fq S q x/\ρ'=spR m T v S [some (.int h),b,c]/\Inn m T ths h (k+1) (cvR q) μ/\Rd T ths q.1:=by
  rintro k u ρ S' hu ⟨b,c,q,rfl,rfl,q3,q4⟩
  obtain⟨y,hy,rfl⟩:=lB hu
  have l:=q3.st_le hμ hm
  have hym:=bZ hy
  have l1:q.1.length<1000:=by have:=q3.d.len;simp only[cvR,kF,aq]at this;exact aL (by assumption) (ao (by assumption) (by decide))
  refine⟨_,_,Bj (S:=S) (x:=x) (v:=v) (c:=c) hh (ht y hym) q3.hk q4 l1 l.2,_,_,_,rfl,rfl,?_,Fp q4 q3.hk hym⟩
  rw[FQ]
  exact q3.try g ht hy
 rcases hv with rfl | ⟨r,rfl,hr1,hl⟩
 ·obtain⟨ρ',S',e,b',c',q,rfl,rfl,q3,q4⟩:=vm (i:=5) (b:=pq) (e:=ae 1) (ρ:=spR m T (.tup (az ths)) S [some (.int h),b,c]) (S:=fq S p x) (us:=az ths) (var_eq rfl) _ ⟨b,c,p,rfl,rfl,n,hr⟩ stp
  rw[dg]at q3
  exact⟨b',c',q,e,q3,q4⟩
 ·have hrl:=(ai.mp hr1).1
  obtain⟨ρ',S',e,b',c',q,rfl,rfl,q3,q4⟩:=Cm (i:=5) (b:=pq) (e:=ae 1) (ρ:=spR m T (.ref r) S [some (.int h),b,c]) (S:=fq S p x) (us:=az ths) (var_eq rfl) (by rw[dg];exact ao (by assumption) (by decide)) _ ⟨b,c,p,rfl,rfl,n,hr⟩
   (by
    rintro k ρ S' ⟨b,c,q,rfl,_⟩
    unfold getL fq
    rw[bz,aP hrl,hr1]) stp
  rw[dg]at q3
  exact⟨b',c',q,e,q3,q4⟩
theorem Ep(g:Grp m T)(hm:m<64)(ht: ∀z∈ths,z<m)(hv:Wk S v ths): ∃ks S',_G.run 2 7 zV [tab m T,v] S=some (.ref S.length,S')/\Ex S S'/\S'[S.length]? = some (.dic (eO ks))/\Dfs m T ths (kF ks) (λ_=>False)/\Rd T ths ks:=by
 have hp:=g.pos
 obtain⟨ρ',S1,e1,⟨r,ks,x,rfl,rfl,d,hr⟩⟩:=nZ (c:=Cv) (b:=Ij) (λμ ρ S' =>∃a b c p x,ρ=spR m T v S [a,b,c]/\S'=fq S p x/\yq m T ths (kF p.1) p.2 μ/\μ<1000/\Rd T ths p.1)
  (λρ S' =>∃r ks x,ρ=spR m T v S r/\S'=fq S (ks,[]) x/\Dfs m T ths (kF ks) (λ_=>False)/\Rd T ths ks) (by
  rintro μ ρ S' ⟨a,b,c,p,x,rfl,rfl,s,hμ,hr⟩
  have ec:Cv (spR m T v S [a,b,c]) (fq S p x)=some (decide ((0:Int)<(az p.2).length),fq S p x):=of_eq (Dg (xg (var_eq rfl) h1) c_i)
  refine⟨_,_,ec,λhf =>?_,λhf =>?_⟩
  ·have h2:p.2 = []:=by
    have:=of_decide_eq_false hf
    rw[dg]at this
    exact lU.mp (by omega)
   refine⟨_,p.1,x,rfl,by rw[<- h2],?_,hr⟩
   have:=s.d
   rw[h2]at this
   exact⟨this.nd,this.lt,this.z,this.rc,λx hx=>(this.cl x hx).imp (by simp) id⟩
  ·have h2:p.2≠[]:=λe=>by rw[e]at hf;simp[az]at hf
   obtain⟨st,h,e⟩:=oi h2
   obtain⟨ks,s2⟩:=p
   subst e
   cases μ with
   | zero=>have:=s.ms;simp at this
   | succ μ=>
   have e4:bJ 4 (mML ow (ae 3) ak) (spR m T v S [a,b,c]) (fq S (ks,st++[h]) x)=some (.nx,spR m T v S [some (.int h),b,c],fq S (ks,st) x):=by
    rw[bI (i:=4) (FV (ρ:=spR m T v S [a,b,c]) (S:=fq S (ks,st++[h]) x) (o:=ae 3) (r:=S.length+1) (var_eq rfl) h1)]
    rw[show(fq S (ks,st++[h]) x).set (S.length+1) (Cell.lst (az st))=fq S (ks,st) x from t1]
    rfl
   obtain⟨b',c',q,e5,i,hq⟩:=FP (S:=S) (x:=x) (a:=a) (b:=b) (c:=c) (p:=(ks,st)) g hm (by exact aU (by assumption)) ht hv s.pop hr
   exact⟨_,_,μ,bD _,(be e4).trans e5,_,_,_,q,x,rfl,rfl,i.done,by exact aU (by assumption),hq⟩) fuel (2*m) (spR m T v S [none,none,none]) (fq S ([(0,[])],[0]) []) (by unfold fuel;omega) ⟨_,_,_,([(0,[])],[0]),[],rfl,rfl,yq.start hp,by omega,⟨λp hp=>by simp at hp;subst hp;rfl,λp hp=>by simp at hp;subst hp;simp,λp hp=>by simp at hp;subst hp;simp⟩⟩
 refine⟨ks,_,dH (ρ:=spR m T v S r) rfl ?_,?_,(show(fq S (ks,[]) x)[S.length]? = _ from h0),d,hr⟩
 ·show zV [some (tab m T),some v,none,none,none,none,none] S=_
  have ed:qL (mC (.int 0)) (cX ak) [some (tab m T),some v,none,none,none,none,none] S=some (.ref S.length,S++[.dic (eO [(0,[])])]):=by
   simp[qL,mC,cX,ak,aF,keyOf,eO,az]
  refine(be (bI ed)).trans ((be (bI (zO c_i))).trans ?_)
  refine(be (ρ1:=spR m T v S r) (S1:=fq S (ks,[]) x) ?_).trans (dG (var_eq rfl))
  rw[<- e1]
  simp[jl,fq,spR,az]
 ·unfold fq;rw[bz];exact⟨_,rfl⟩
theorem KI(g:Grp m T)(hm:m<64)(ht: ∀z∈ths,z<m)(hv:Wk S v ths): ∃ks S',_G.run 2 2 spM [tab m T,v] S=some (.tup (az (srt ks)),S')/\Ex S S'/\Dfs m T ths ks λ_=>False:=by
 obtain⟨ks,S1,e1,x1,q1,d,_⟩:=Ep (v:=v) g hm ht hv
 have hl:(kF ks).length<64:=aL d.len hm
 have e2:mFn fP (aa (mFn (_G.run 2 7 zV) (aa (ae 0) (aa (ae 1) ak))) ak) [some (tab m T),some v] S=some (.ref S1.length,S1++[.lst (az (srt (kF ks)))]):=i6 (d7 (var_eq rfl) (var_eq rfl) e1) (wG (by simp only[t8,gf,q1,qR]) hl)
 exact⟨kF ks,_,dH (ρ:= [some (tab m T),some v]) rfl (dG (iq e2)),x1.trans (Ex.push _ _),d⟩
theorem L0(g:Grp m T)(hm:m<64)(ht: ∀z∈ths,z<m): ∃ks S',_G.run 2 2 spM [tab m T,.tup (az ths)] S=some (.tup (az (srt ks)),S')/\Ex S S'/\Dfs m T ths ks λ_=>False:=KI g hm ht (.inl rfl)
end
end
end _W
end
section
namespace _W
open _L _G
section
section
variable {m:Nat}{T:Nat->Nat->Nat}
abbrev Lt(m:Nat)(w:List Nat):Prop:= ∀x∈w,x<m
theorem my(g:Grp m T){x:Nat}(hx:x<m):unT m T x<m:=(jz g hx).1
theorem M3(g:Grp m T){x:Nat}(hx:x<m):T x (unT m T x)=0:=(jz g hx).2.1
theorem OL(g:Grp m T){x:Nat}(hx:x<m):T (unT m T x) x=0:=(jz g hx).2.2.1
theorem LJ(g:Grp m T){x y:Nat}(hx:x<m)(hy:y<m)(h:T x y=0):y=unT m T x:=(jz g hx).2.2.2 y hy h
noncomputable def pre(T:Nat->Nat->Nat)(w:List Nat):List Nat:=(aB w.length).map λk=>vD T (w.take k)
theorem G2{w:List Nat}:plc T w=pre T w++[vD T w]:=by
 unfold plc pre
 rw[h9,dB]
 simp
structure All(m:Nat)(l:List Nat):Prop where
 nd:l.Nodup
 lt:Lt m l
 len:l.length=m
theorem All.mem{l:List Nat}(h:All m l){x:Nat}(hx:x<m):x∈l:=by
 apply gc
 intro z
 have:=pj m (x::l) (dj.mpr ⟨z,h.nd⟩) (λy hy=>(aG.mp hy).elim (λe=>e▸hx) (h.lt y))
 have:=h.len
 simp at *
 omega
theorem All.map{f:Nat->Nat}{l:List Nat}(h:All m l)(lt: ∀x,x<m->f x<m)(inj: ∀x y,x<m->y<m->f x=f y->x=y):All m (l.map f):=by
 refine⟨?_,λx hx =>?_,by simp[h.len]⟩
 ·rw[aS,cx]
  exact dM (λha hb hab e=>hab (inj _ _ (h.lt _ ha) (h.lt _ hb) e)) (aS.mp h.nd)
 ·obtain⟨y,hy,rfl⟩:=aI.mp hx
  exact lt y (h.lt y hy)
structure Rnd(m:Nat)(T:Nat->Nat->Nat)(w:List Nat):Prop where
 home:vD T w=0
 all:All m (pre T w)
structure Gd(T:Nat->Nat->Nat)(st:List Nat)(p:Nod):Prop where
 pl:p.2=plc T p.1
 nd:p.2.Nodup
 by': ∀x∈p.1,x∈st
end
section
variable {m:Nat}{T:Nat->Nat->Nat}{st w:List Nat}{S:Sto}
theorem DF{ρ:Rho}{S:Sto}{e a:ME}{l:List Nat}{f:Nat->U}(ha:a ρ S=some (.tup (az l),S))(hl:l.length<10000000)(he: ∀x∈l,e (ρ++[some (.int x)]) S=some (f x,S)):ck (cu a) cTT e ρ S=some (.ref S.length,S++[.lst (l.map f)]):=by
 have h:=qV (t:=cTT) (e:=e) (ρ:=ρ) (S:=S) (a:=a) (l:=l) (p:=λ_=>true) (f:=f) ha (by unfold big;exact ao (by assumption) (by decide)) (λ_ _=>rfl) (λx hx _=>he x hx)
 rwa[List.filter_eq_self.mpr (λ_ _=>rfl)]at h
end
end
end _W
end
section
namespace _W
open _L _G
section
section
variable {m:Nat}{T:Nat->Nat->Nat}
structure Sn(m:Nat)(T:Nat->Nat->Nat)(p:List Nat):Prop where
 lt:Lt m p
 nd:(plc T p).Nodup
 cl: ∀x∈plc T p,∀y∈plc T p,T x y∈plc T p
theorem Sn.last{p:List Nat}(h:Sn m T p)(hp:p≠[]):vD T p≠0:=by
 intro z
 have h1:=h.nd
 rw[G2,iS]at h1
 have h0:0∈pre T p:=aI.mpr ⟨0,aN.mpr (List.length_pos_iff.mpr hp),rfl⟩
 exact h1.2.2 0 h0 (vD T p) (by simp) z.symm
end
section
variable {m:Nat}{T:Nat->Nat->Nat}{S:Sto}
abbrev Pln(m:Nat)(T:Nat->Nat->Nat):Prop:= ∀i j,i<m->j<m->T i j=T j i
end
end
end _W
end
section
namespace _W
open _L _G
section
section
variable {m:Nat}{T:Nat->Nat->Nat}{S:Sto}
structure Pg(n most:Nat)(S0:Sto)(ρ:Rho)(S:Sto):Prop where
 h: ∃m T,ρ = [some (.ref n),some (.int (most:Nat)),some (tab m T)]/\Grp m T/\Pln m T/\m<=most
 st:Stp n S0 S
end
end
end _W
end
section
namespace _W
open _L _G
section
end
end _W
end
section
namespace _W
open _L _G
section
inductive Smp:U->Prop where
 | non:Smp .non
 | bl (b:Bool):Smp (.bl b)
 | int (i:Int):Smp (.int i)
 | str (x:PySem.Str):Smp (.str x)
 | tup (us:List U):Smp (.tup us)
inductive Thg(S:Sto):U->Prop where
 | non:Thg S .non
 | bl (b:Bool):Thg S (.bl b)
 | int (i:Int):Thg S (.int i)
 | str (x:PySem.Str):Thg S (.str x)
 | tup {us:List U} (h: ∀v∈us,Smp v) (hl:us.length<64):Thg S (.tup us)
 | lst {n:Nat}{xs:List U} (h:S[n]? = some (Cell.lst xs)):Thg S (.ref n)
 | dic {n:Nat}{kv:List (_L.Key×U)} (h:S[n]? = some (Cell.dic kv)):Thg S (.ref n)
theorem rW{e:ME}{ρ:Rho}{n:Nat}{us:List U}{f:U->U}(P:Sto->Prop)(hP: ∀S,P S->getL S n=some us)(he: ∀u∈us,∀S,P S -> ∃S',e (ρ++[some u]) S=some (f u,S')/\P S'):
  ∀(k i:Nat) (acc:List U) (S:Sto),i<=us.length->us.length - i<k->P S -> ∃S',ib cTT e ρ n k i acc S=some (acc++(us.drop i).map f,S')/\P S'
 | 0,i,acc,S,h1,h2,_=>by omega
 | k+1,i,acc,S,h1,h2,h=>by
   unfold ib
   rw[hP S h]
   simp only[ag]
   by_cases hi:i<us.length
   ·have hd:us.drop i=us[i]::us.drop (i+1):=eM hi
    obtain⟨S1,e1,p1⟩:=he _ (bT hi) S h
    obtain⟨S2,e2,p2⟩:=rW P hP he k (i+1) (acc++[f us[i]]) S1 (by assumption) (by omega) p1
    refine⟨S2,?_,p2⟩
    rw[aD hi]
    simp only[cTT,aF,if_true]
    rw[e1]
    simp only[aF]
    rw[e2,hd,bg,bz]
    rfl
   ·rw[fV (by exact bC (by assumption)),mK (by exact bC (by assumption))]
    exact⟨S,by simp,h⟩
end
end _W
end
section
namespace _W
open _L _G
section
section
variable {m:Nat}{T:Nat->Nat->Nat}{S:Sto}{u:U}{st:List Nat}
theorem mc{ρ:Rho}{S1 S2:Sto}{a:ME}{r:MA}{x:U}{xs:List U}(ha:a ρ S=some (x,S1))(hr:r ρ S1=some (xs,S2)):aa a r ρ S=some (x::xs,S2):=by simp only[aa,ha,hr,aF]
theorem ml{ρ:Rho}{S1:Sto}{r:MA}{xs:List U}(h:r ρ S=some (xs,S1))(hl:xs.length<1000):dn r ρ S=some (.ref S1.length,S1++[.lst xs]):=by
 have:xs.length<=big:=by unfold big;omega
 simp only[dn,h,aF,this,if_true]
theorem w9: ∀(a b:List Nat),a.Nodup->(∀x∈a,x∈b)->b.length<=a.length->a.Perm b
 | [],b,_,_,h=>by
   have e:b = []:=cD (by simpa using h)
   rw[e]
 | x::a,b,h,hs,hl=>by
   have hx:=hs x (by simp)
   have h2:=List.length_erase_of_mem hx
   have h1:=w9 a (b.erase x) (dj.mp h).2 (λy hy=>(List.mem_erase_of_ne (λe:y=x=>(dj.mp h).1 (by rw[<- e];exact hy))).mpr (hs y (aC _ hy))) (by simp only[bB]at hl;omega)
   exact(h1.cons x).trans (List.perm_cons_erase hx).symm
end
end
end _W
end
section
namespace _W
open _L _G
section
noncomputable def itF(f:Nat->Nat):Nat->Nat->Nat
 | 0,x=>x
 | k+1,x=>f (itF f k x)
structure Inj(m:Nat)(f:Nat->Nat):Prop where
 lt: ∀x,x<m->f x<m
 inj: ∀x y,x<m->y<m->f x=f y->x=y
section
variable {m:Nat}{f:Nat->Nat}
theorem iW(h:Inj m f){x:Nat}(hx:x<m): ∀k,itF f k x<m
 | 0=>hx
 | k+1=>h.lt _ (iW h hx k)
theorem qh{x:Nat}(j:Nat): ∀k,itF f (k+j) x=itF f k (itF f j x)
 | 0=>by rw[d5];rfl
 | k+1=>by rw[Nat.add_right_comm];show f (itF f (k+j) x)=f _;rw[qh j k]
theorem qz(h:Inj m f){x y:Nat}(hx:x<m)(hy:y<m): ∀k,itF f k x=itF f k y->x=y
 | 0,e=>e
 | k+1,e=>qz h hx hy k (h.inj _ _ (iW h hx k) (iW h hy k) e)
noncomputable def iV(m:Nat)(f:Nat->Nat)(x:Nat):Nat:=((aB m).find? λk=>decide (itF f (k+1) x=x)).getD 0+1
theorem jV(h:Inj m f){x:Nat}(hx:x<m):1<=iV m f x/\iV m f x<=m/\itF f (iV m f x) x=x /\ ∀k,1<=k->k<iV m f x->itF f k x≠x:=by
 obtain⟨i,j,hij,hj,e⟩:=Dl (m:=m) (f:=λk=>itF f k x) λi _=>iW h hx i
 have e1:itF f (j - i) x=x:=by
  have e:itF f i x=itF f j x:=e
  rw[show j=i+(j - i) by omega,qh]at e
  exact(qz h hx (iW h hx _) i e).symm
 unfold iV
 cases q:(aB m).find? λk=>decide (itF f (k+1) x=x) with
 | none=>
   have:=qE.mp q (j - i - 1) (aN.mpr (by omega))
   rw[show j - i - 1+1=j - i by omega]at this
   simp[e1]at this
 | some i=>
   obtain⟨i1,i2,i3⟩:=List.find?_range_eq_some.mp q
   have i2:=aN.mp i2
   refine⟨by simp,by simp;assumption,by simpa using i1,λk k1 k2 z =>?_⟩
   simp at k2
   have:=i3 (k - 1) (by omega)
   rw[show k - 1+1=k by omega]at this
   simp[z]at this
noncomputable def rgK(f:Nat->Nat)(x k:Nat):List Nat:=(aB k).map λi=>itF f i x
noncomputable def rg(m:Nat)(f:Nat->Nat)(x:Nat):List Nat:=rgK f x (iV m f x)
theorem Dh{x k:Nat}:rgK f x (k+1)=rgK f x k++[itF f k x]:=by simp[rgK,h9]
theorem zU{x k:Nat}:(rgK f x k).length=k:=by simp[rgK]
theorem pf{x:Nat}:(rg m f x).length=iV m f x:=zU
theorem Ip(h:Inj m f){x:Nat}(hx:x<m):Lt m (rg m f x):=λy hy=>by
 obtain⟨i,_,rfl⟩:=aI.mp hy
 exact iW h hx i
theorem NW(h:Inj m f){x:Nat}(hx:x<m):(rg m f x).Nodup:=by
 obtain⟨p1,p2,p3,p4⟩:=jV h hx
 unfold rg rgK
 rw[aS,cx]
 refine dM (R:=λa b=>a<b) ?_ mJ
 intro a b ha hb hab e
 have hb:=aN.mp hb
 rw[show b=a+(b - a) by omega,qh]at e
 have:=qz h hx (iW h hx _) a e
 exact p4 (b - a) (by omega) (by omega) this.symm
theorem DV(h:Inj m f){x:Nat}(hx:x<m):iV m f x<=m:=(jV h hx).2.1
theorem zQ(h:Inj m f){x:Nat}(hx:x<m):iV m f x=m ↔ ∀y,y<m->y∈rg m f x:=by
 constructor
 ·intro e y hy
  exact(All.mk (NW h hx) (Ip h hx) (by rw[pf,e])).mem hy
 ·intro hy
  have:=(w9 (aB m) (rg m f x) uE (λy q=>hy y (aN.mp q)) (by rw[pf,bp];exact DV h hx)).length_eq
  rw[bp,pf]at this
  exact this.symm
end
end
end _W
end
section
namespace _W
open _L _G
section
section
variable {m:Nat}{T:Nat->Nat->Nat}{S:Sto}
end
end
end _W
end
section
namespace _W
open _L _G
section
section
variable {S:Sto}
end
end
end _W
end
section
namespace _W
open _L _G
section
open PySem in
open PySem in
section
variable {S:Sto}
section
variable {n m r:Nat} (hn:0<n) (hn2:n<100) (hm:0<m) (hm2:m<100) (hr:r<100)
include hn hn2 hm hm2 hr
end
end
end
end _W
end
section
namespace _W
open _L _G
section
section
variable {m:Nat}{T:Nat->Nat->Nat}
open Classical in
end
end
end _W
end
section
namespace _W
open _L _G
section
theorem Ht{D:List (_L.Key×U)}{k j:_L.Key}{u:U}:i7 (jN D k u) j=if k=j then some u else i7 D j:=by
 unfold i7 jN
 by_cases h:(D.any λkv=>decide (kv.1=k))=true
 ·rw[if_pos h]
  induction D with
  | nil=>simp at h
  | cons p D ih=>
    rw[bg,bN]
    by_cases hp:p.1=k
    ·rw[if_pos hp]
     by_cases hk:k=j
     ·subst hk
      simp[hp]
     ·have h1:decide (p.1=j)=false:=decide_eq_false (by rw[hp];exact hk)
      simp only[h1,if_neg hk]
      rw[bN,h1]
      simp only
      by_cases h2:(D.any λkv=>decide (kv.1=k))=true
      ·have:=ih h2
       rw[if_neg hk]at this
       exact this
      ·have:D.map (λkv=>if kv.1=k then(kv.1,u) else kv)=D:=by
        conv=>rhs;rw[<- List.map_id D]
        apply bH
        intro kv hkv
        have:kv.1≠k:=λe=>h2 (fg.mpr ⟨kv,hkv,decide_eq_true e⟩)
        simp[this]
       rw[this]
    ·rw[if_neg hp]
     have h2:(D.any λkv=>decide (kv.1=k))=true:=by
      rw[fS,decide_eq_false hp,Bool.false_or]at h
      exact h
     by_cases hj:p.1=j
     ·have hk:k≠j:=λe=>hp (hj.trans e.symm)
      rw[if_neg hk,bN]
      simp[hj]
     ·have h1:decide (p.1=j)=false:=decide_eq_false hj
      rw[h1,bN,h1]
      simp only
      exact ih h2
 ·rw[if_neg h,List.find?_append]
  by_cases hk:k=j
  ·subst hk
   have:D.find? (λkv=>decide (kv.1=k))=none:=by
    rw[qE]
    intro kv hkv hd
    exact h (fg.mpr ⟨kv,hkv,hd⟩)
   rw[this,if_pos rfl]
   simp
  ·rw[if_neg hk]
   have: [((k,u):_L.Key×U)].find? (λkv=>decide (kv.1=j))=none:=by simp[hk]
   rw[this,Option.or_none]
theorem DY{D:List (_L.Key×U)}{k:_L.Key}{u:U}:(jN D k u).length<=D.length+1:=by
 unfold jN
 split
 ·simp
 ·simp
noncomputable def sY(D:List (_L.Key×U))(xs:List Nat)(v:Nat):List (_L.Key×U):=xs.foldl (λD (x:Nat)=>jN D (.inl (x:Int)) (.int (v:Nat))) D
theorem rA{v:Nat}: ∀{xs:List Nat}{D:List (_L.Key×U)},(sY D xs v).length<=D.length+xs.length
 | [],D=>by simp[sY]
 | x::xs,D=>by
   have h1:=rA (v:=v) (xs:=xs) (D:=jN D (.inl (x:Int)) (.int (v:Nat)))
   have h2:=DY (D:=D) (k:= .inl (x:Int)) (u:= .int (v:Nat))
   show(sY (jN D (.inl (x:Int)) (.int (v:Nat))) xs v).length<=_
   simp only[bB];omega
theorem xR{v x:Nat}: ∀{xs:List Nat}{D:List (_L.Key×U)},i7 (sY D xs v) (.inl (x:Int))=if x∈xs then some (.int (v:Nat)) else i7 D (.inl (x:Int))
 | [],D=>by simp[sY]
 | y::xs,D=>by
   show i7 (sY (jN D (.inl (y:Int)) (.int (v:Nat))) xs v) _=_
   rw[xR,Ht]
   by_cases h:x∈xs
   ·simp[h]
   ·by_cases e:y=x
    ·subst e;simp
    ·have:(eF (y:Int):_L.Key)≠.inl (x:Int):=λz=>e (by injection z with z;omega)
     simp[h,this,cZ e]
structure Sbg(m:Nat)(T:Nat->Nat->Nat)(P:List Nat):Prop where
 z:0∈P
 lt: ∀x∈P,x<m
 cl: ∀a∈P,∀b∈P,T a b∈P
section
variable {m:Nat}{T:Nat->Nat->Nat}{P:List Nat}
end
structure Prt(r:Nat->List Nat)(k:Nat):Prop where
 gone: ∀y,y∈(sdF r k).2 ↔ ∃i,i<k/\y∈r i
 cov: ∀i,i<k -> ∃s∈(sdF r k).1,∀z,z∈s↔z∈r i
 dis:(sdF r k).1.Pairwise λs t =>∀y,y∈s->y∉t
noncomputable def nbr(ls:List (List Nat))(y:Nat):Nat:=ls.findIdx λs=>decide (y∈s)
structure Sds(m:Nat)(ls:List (List Nat)):Prop where
 cov: ∀y,y<m -> ∃s∈ls,y∈s
 dis:ls.Pairwise λs t =>∀y,y∈s->y∉t
theorem Sds.nb{m:Nat}{ls:List (List Nat)}(h:Sds m ls){y:Nat}(hy:y<m):nbr ls y<ls.length/\y∈ls.getD (nbr ls y) []:=by
 obtain⟨s,hs,hys⟩:=h.cov y hy
 have hl:nbr ls y<ls.length:=List.findIdx_lt_length_of_exists ⟨s,hs,decide_eq_true hys⟩
 refine⟨hl,?_⟩
 have:=List.findIdx_getElem (w:=hl)
 rw[aJ,aD hl]
 exact of_decide_eq_true this
section
variable {m:Nat}{T:Nat->Nat->Nat}{P:List Nat}
end
end
end _W
end
namespace _W
open PySem PySem.Spec _L _G
section
noncomputable def mY:MS:=br (bJ 2 (mFn kR (aa (ae 0) (aa (ae 1) ak)))) (br (sIf (cOf (m2 oLt (mFn cN (aa (ae 2) ak)) (mC (.int 3)))) (bJ 2 (mFn dm (aa (m2 cP (mC (.int 3)) (mFn bf (aa (ae 0) (aa (m2 mR (ae 1) (mC (.int 2))) ak)))) ak))) eC) (br (bJ 3 (kh (iR2 (aa (mC (.int 1)) (aa (mFn cN (aa (ae 2) ak)) ak))))) (br (bJ 4 (mML ke (ae 3) (aa (mFn bf (aa (ae 0) (aa (mFn cN (aa (ae 3) ak)) ak))) ak))) (br (bJ 5 (m2 oIx (ae 3) (mFn bf (aa (ae 0) (aa (mFn cN (aa (ae 3) ak)) ak))))) (eg (cX (aa (ae 2) (aa (cX (aa (mFn sW (aa (ae 4) (aa (ae 5) ak))) (aa (mFn sR (aa (ae 4) (aa (ae 5) ak))) ak))) ak))))))))
noncomputable def ij:MF:=run 2 6 mY
noncomputable def nO:MS:=br (bJ 3 (dn ak)) (br (bJ 4 (dn (aa (cX (aa (cX ak) (aa (cX (aa (mC (.int 0)) ak)) ak))) ak))) (br (jl (tH (cOf (m2 oNe (ae 4) (dn ak))) (cOf (m2 oLt (mFn cN (aa (ae 3) ak)) (ae 2)))) (br (sQ (mML ow (ae 4) ak) (gTp 2 (d6 (gN 5) (d6 (gN 6) kA)))) (br (bJ 7 (m2 oIx (ae 6) (m1 pR (mC (.int 1))))) (sIf (cOf (m2 oEq (mFn cN (aa (ae 5) ak)) (m2 mR (mFn cN (aa (ae 0) ak)) (mC (.int 1))))) (dN (mML eJ (ae 3) (aa (ck (cu (ae 1)) (cOf (m2 oEq (m2 oIx (m2 oIx (ae 0) (ae 7)) (ae 9)) (mC (.int 0)))) (m2 cP (ae 5) (cX (aa (ae 9) ak)))) ak))) (br (bJ 8 (ck (cu (ae 1)) (cOf (m2 gy (m2 oIx (m2 oIx (ae 0) (ae 7)) (ae 9)) (ae 6))) (cX (aa (ae 9) (aa (m2 oIx (m2 oIx (ae 0) (ae 7)) (ae 9)) ak))))) (dN (mML eJ (ae 4) (aa (iZ 2 (cu (m1 o7 (ae 8))) cTT (cX (aa (m2 cP (ae 5) (cX (aa (ae 9) ak))) (aa (m2 cP (ae 6) (cX (aa (ae 10) ak))) ak)))) ak)))))))) (eg (mSl (ae 3) none (some (ae 2))))))
noncomputable def i9:MF:=run 3 9 nO
noncomputable def xE(g:p9)(φ:MF):MS:=br (bJ 2 (dn ak)) (br (bJ 3 nW) (br (eX 4 (cu (ae 0)) (sIf (cOf (m2 gy (ae 4) (ae 3))) (br (bJ 5 (A2 1 g φ (aa (ae 4) ak))) (br (dN (mML du (ae 2) (aa (ae 5) ak))) (eX 6 (cu (ae 5)) (eA (ae 3) (ae 6) (mC (.bl true)))))) eC)) (eg (ae 2))))
noncomputable def xD(g:p9)(φ:MF):MF:=run 2 7 (xE g φ)
noncomputable def nN:MS:=eg (rq (iR1 (aa (mFn cN (aa (ae 0) ak)) ak)))
noncomputable def om:MF:=run 1 1 nN
noncomputable def nJ:MS:=eg (mM xD 1 [0,1] (mFn cy (aa (mFn fP (aa (ck (cu (ae 2)) cTT (m2 oIx (m2 oIx (ae 1) (ae 0)) (ae 3))) ak)) ak)) (mFn om (aa (ae 0) ak)))
noncomputable def kl:MF:=run 2 2 nJ
noncomputable def zB:MS:=br (bJ 2 (qL (mC (.int 0)) (cX ak))) (br (bJ 3 (dn (aa (mC (.int 0)) ak))) (br (jl (cOf (m2 oGt (mFn cN (aa (ae 3) ak)) (mC (.int 0)))) (br (bJ 4 (mML ow (ae 3) ak)) (eX 5 (cu (ae 1)) (br (bJ 6 (m2 oIx (m2 oIx (ae 0) (ae 4)) (ae 5))) (sIf (cOf (m2 gy (ae 6) (ae 2))) (br (eA (ae 2) (ae 6) (m2 cP (m2 oIx (ae 2) (ae 4)) (cX (aa (ae 5) ak)))) (dN (mML du (ae 3) (aa (ae 6) ak)))) eC))))) (eg (ae 2))))
noncomputable def zC:MF:=run 2 7 zB
noncomputable def Dn:MS:=eg (mFn cy (aa (mFn fP (aa (mFn zC (aa (ae 0) (aa (ae 1) ak))) ak)) ak))
noncomputable def yP:MF:=run 2 2 Dn
noncomputable def qQ:MS:=eg (mMT iz (m2 oIx (ae 0) (ae 1)) (aa (mC (.int 0)) ak))
noncomputable def r9:MF:=run 2 2 qQ
noncomputable def oM:MS:=eg (m2 oIx (m2 oIx (ae 0) (m2 oIx (ae 1) (mC (.int 0)))) (mFn r9 (aa (ae 0) (aa (m2 oIx (ae 1) (mC (.int 1))) ak))))
noncomputable def jL:MF:=run 2 2 oM
noncomputable def vq:MS:=eg (mFn kl (aa (ae 0) (aa (mFn yP (aa (ae 0) (aa (cX (aa (mFn jL (aa (ae 0) (aa (ae 1) ak))) ak)) ak))) ak)))
noncomputable def j9:MF:=run 2 2 vq
noncomputable def kW:MS:=br (bJ 3 nW) (br (nH (gTp 2 (d6 (gN 4) (d6 (gN 5) kA))) (xS (aa (mFn j9 (aa (ae 0) (aa (ae 1) ak))) (aa (ae 2) ak))) (eX 6 (cu (ae 4)) (eA (ae 3) (ae 6) (m2 oIx (ae 1) (ae 5))))) (eg (ae 3)))
noncomputable def fD:MF:=run 3 7 kW
noncomputable def pI:MS:=br (bJ 3 (dn (aa (ae 2) ak))) (br (bJ 4 (m2 oIx (m2 oIx (ae 0) (ae 2)) (m2 oIx (ae 1) (ae 2)))) (br (jl (cOf (m2 oNe (ae 4) (ae 2))) (br (dN (mML du (ae 3) (aa (ae 4) ak))) (bJ 4 (m2 oIx (m2 oIx (ae 0) (ae 4)) (m2 oIx (ae 1) (ae 4)))))) (eg (mFn cy (aa (ae 3) ak)))))
noncomputable def iI:MF:=run 3 5 pI
noncomputable def ub:MS:=br (bJ 3 (mFn fD (aa (ae 0) (aa (ae 1) (aa (ae 2) ak))))) (br (bJ 4 (mFn iI (aa (ae 0) (aa (ae 3) (aa (mC (.int 0)) ak))))) (eg (wm (cOf (m2 oEq (mFn cN (aa (ae 4) ak)) (mFn cN (aa (ae 0) ak)))) (mFn cy (aa (ck (cu (ae 4)) cTT (m2 oIx (ae 3) (ae 5))) ak)) (mC .non))))
noncomputable def je:MF:=run 3 5 ub
noncomputable def kT:MS:=br (bJ 2 (dn (aa (cX ak) ak))) (br (jl (cOf (m2 oLt (mFn cN (aa (m2 oIx (ae 2) (mC (.int 0))) ak)) (ae 1))) (br (bJ 3 (dn ak)) (br (eX 4 (cu (ae 2)) (dN (mML eJ (ae 3) (aa (ck (cu (ae 0)) cTT (m2 cP (ae 4) (cX (aa (ae 5) ak)))) ak)))) (bJ 2 (ae 3))))) (eg (ae 2)))
noncomputable def fG:MF:=run 2 5 kT
noncomputable def fW:MS:=br (bJ 2 (mFn cN (aa (mFn j9 (aa (ae 0) (aa (ae 1) ak))) ak))) (br (sIf (cOf (m2 oGt (ae 2) (mC (.int 10)))) sNo eC) (br (bJ 3 (ck (cu (mFn fG (aa (cX (aa (mC (.int 0)) (aa (mC (.int 1)) ak))) (aa (ae 2) ak)))) cTT (mFn je (aa (ae 0) (aa (ae 1) (aa (ae 4) ak)))))) (eg (mFn mN (aa (ck (cu (ae 3)) (cOf (m2 mZ (ae 4) (mC .non))) (ae 4)) ak)))))
noncomputable def d0:MF:=run 2 4 fW
noncomputable def HY:MS:=br (eX 1 (iR1 (aa (mFn sR (aa (mC (.int 1)) (aa (mFn sW (aa (mFn cN (aa (ae 0) ak)) (aa (mC (.int 3)) ak))) ak))) ak)) (br (bJ 2 (mFn jC (aa (ae 0) (aa (ae 1) ak)))) (br (sQ (mFn ij (aa (ae 2) (aa (m2 oIx (dn (aa (mC (.int 6)) (aa (mC (.int 8)) (aa (mC (.int 10)) ak)))) (mFn bf (aa (ae 2) (aa (mC (.int 3)) ak)))) ak))) (gTp 2 (d6 (gN 3) (d6 (gN 4) kA)))) (br (bJ 5 (mFn i9 (aa (ae 3) (aa (ae 4) (aa (m2 nQ (mC (.int 10)) (mC (.int 6))) ak))))) (eX 6 (iR1 (aa (mC (.int 2)) ak)) (br (bJ 7 (mFn d0 (aa (ae 3) (aa (ae 4) ak)))) (br (sIf (cOr (vg (cOf (m1 (mX "list") (ae 7)))) (cOr (cOf (m2 oNe (ae 7) (ae 5))) (vg (cOf (mFn uX (aa (ck (cu (ae 7)) cTT (m1 (mX "tuple") (ae 8))) ak)))))) (eg (mC (.bl false))) eC) (dN (mML du (ae 7) (aa (cX ak) ak)))))))))) (eg (mC (.bl true)))
noncomputable def NB:MF:=run 1 8 HY
end
section
open _L _G
theorem Bp{m:Nat}{T:Nat->Nat->Nat}{S:Sto}(g:Grp m T){i:Nat}(hi:i<m):r9 [tab m T,.int i] S=some (.int (unT m T i),S):=by
 have h0:=Jd g hi
 have e:=jI (ρ:= [some (tab m T),some (.int i)]) (S:=S) (a:=ae 0) (b:=ae 1) hi (var_eq rfl) (var_eq rfl)
 rw[Es]at e
 exact dH (ρ:= [some (tab m T),some (.int i)]) rfl (show qQ [some (tab m T),some (.int i)] S=_ from dG (wR (x:=0) e c_i h0))
theorem LF{ρ:Rho}{S S1 S2:Sto}{a b:ME}{x y:Nat}(ha:a ρ S=some (.int x,S1))(hb:b ρ S1=some (.int y,S2)):mFn sR (aa a (aa b ak)) ρ S=some (.int (max x y:Nat),S2):=by
 refine d7 ha hb ?_
 show some (U.int (if (y:Int) > x then(y:Int) else x),S2)=_
 congr 3
 split <;> omega
theorem JI{ρ:Rho}{S S1 S2:Sto}{a b:ME}{x y:U}(ha:a ρ S=some (x,S1))(hb:b ρ S1=some (y,S2)):cX (aa a (aa b ak)) ρ S=some (.tup [x,y],S2):=by
 have hb2:2<=big:=by decide
 simp[cX,aa,ak,ha,hb,aF,hb2]
theorem Hu{n most:Nat}{S:Sto}(h:oW n S)(h6:6<=most)(h10:most<=10): ∃m T a b S',ij [.ref n,.int (most:Nat)] S=some (.tup [tab m T,.tup [.int (a:Nat),.int (b:Nat)]],S')/\Grp m T/\3<=m/\m<=most/\a<m/\b<m/\a<b/\Stp n S S':=by
 obtain⟨m0,T0,S1,e1,g0,hm0,st1⟩:=Cd (most:=most) h h6 (by omega)
 have key: ∃m T S2,sIf (cOf (m2 oLt (mFn cN (aa (ae 2) ak)) (mC (.int 3)))) (bJ 2 (mFn dm (aa (m2 cP (mC (.int 3)) (mFn bf (aa (ae 0) (aa (m2 mR (ae 1) (mC (.int 2))) ak)))) ak))) eC [some (.ref n),some (.int (most:Nat)),some (tab m0 T0),none,none,none] S1=some (.nx,[some (.ref n),some (.int (most:Nat)),some (tab m T),none,none,none],S2)/\Grp m T/\3<=m/\m<=most/\Stp n S S2:=by
  have ec:cOf (m2 oLt (mFn cN (aa (ae 2) ak)) (mC (.int 3))) [some (.ref n),some (.int (most:Nat)),some (tab m0 T0),none,none,none] S1=some (decide ((m0:Int)<3),S1):=of_eq (Gy (len_tab (var_eq rfl)) c_i)
  by_cases hlt:m0<3
  ·obtain⟨r,S2,e2,hr,st2⟩:=jn (m:=most - 2) st1.st (by omega) (by omega)
   obtain⟨S3,e3,x3⟩:=lu (n:=3+r) (S:=S2) (by exact bU (by decide) _) (by unfold big;omega)
   refine⟨3+r,eW (3+r),S3,?_,jM (by exact bU (by decide) _),by omega,by omega,(st1.trans st2).step x3⟩
   rw[show decide ((m0:Int)<3)=true by simp;omega]at ec
   refine(rE ec).trans (bI (i6 (add_n (x:=3) c_i (d7 (var_eq rfl) (Ad (var_eq rfl) c_i) ?_)) e3))
   rw[show((most - 2:Nat):Int)=(most:Int) - 2 by omega]at e2
   exact e2
  ·rw[show decide ((m0:Int)<3)=false by simp;omega]at ec
   exact⟨m0,T0,S1,(oO ec).trans rfl,g0,by exact bC (by assumption),hm0,st1⟩
 obtain⟨m,T,S2,e2,g,hm3,hm,st2⟩:=key
 have hn:=h.lt
 have hm24:m<=24:=by omega
 have hbig:m<big:=by unfold big;exact aL (by assumption) (by decide)
 have e3:kh (iR2 (aa (mC (.int 1)) (aa (mFn cN (aa (ae 2) ak)) ak))) [some (.ref n),some (.int (most:Nat)),some (tab m T),none,none,none] S2=some (.ref S2.length,S2++[Cell.lst (az (aO 1 (m - 1)))]):=by
  rw[uh (i:=1) (j:=m) rfl (len_tab (var_eq rfl)) ⟨by decide,by decide⟩ (qp hbig) (by rw[kg m (by exact tT (by assumption))];simp[az];exact aM (by assumption) (by decide)),kg m (by exact tT (by assumption))]
 have st3:Stp n S (S2++[Cell.lst (az (aO 1 (m - 1)))]):=st2.step (Ex.push _ _)
 have g3:(S2++[Cell.lst (az (aO 1 (m - 1)))])[S2.length]? = some (Cell.lst (az (aO 1 (m - 1)))):=de _ _
 obtain⟨r,S4,e4,hr,st4⟩:=jn (m:=m - 1) st3.st (by omega) (by omega)
 have hne:S2.length≠n:=by have:=st2.len;omega
 have g4:S4[S2.length]? = some (Cell.lst (az (aO 1 (m - 1)))):=st4.some hne g3
 have hlen:(aO 1 (m - 1)).length=m - 1:=by simp
 have l1:mFn cN (aa (ae 3) ak) [some (.ref n),some (.int (most:Nat)),some (tab m T),some (.ref S2.length),none,none] (S2++[Cell.lst (az (aO 1 (m - 1)))])=some (.int (m - 1:Nat),S2++[Cell.lst (az (aO 1 (m - 1)))]):=by
  rw[xg (var_eq rfl) g3];simp[az]
 have p1:=v8 (ρ:= [some (.ref n),some (.int (most:Nat)),some (tab m T),some (.ref S2.length),none,none]) (o:=ae 3) (a:=mFn bf (aa (ae 0) (aa (mFn cN (aa (ae 3) ak)) ak))) (r:=S2.length) (j:=r) (l:=aO 1 (m - 1)) (var_eq rfl) (d7 (var_eq rfl) l1 e4) g3 g4 (by rw[hlen];exact hr) (by rw[hlen];omega)
 have st5:Stp n S (S4.set S2.length (Cell.lst (az ((aO 1 (m - 1)).eraseIdx r)))):=(st3.trans st4).set st2.len hne
 have g5:(S4.set S2.length (Cell.lst (az ((aO 1 (m - 1)).eraseIdx r))))[S2.length]? = some (Cell.lst (az ((aO 1 (m - 1)).eraseIdx r))):=aY (ai.mp g4).1
 have hle:((aO 1 (m - 1)).eraseIdx r).length=m - 2:=by rw[List.length_eraseIdx,if_pos (by rw[hlen];exact hr),hlen];omega
 obtain⟨q,S6,e6,hq,st6⟩:=jn (m:=m - 2) st5.st (by omega) (by omega)
 have g6:S6[S2.length]? = some (Cell.lst (az ((aO 1 (m - 1)).eraseIdx r))):=st6.some hne g5
 have va:(aO 1 (m - 1))[r]'(by rw[hlen];exact hr)<m:=by simp;omega
 have hq':q<((aO 1 (m - 1)).eraseIdx r).length:=by rw[hle];exact hq
 have vb:((aO 1 (m - 1)).eraseIdx r)[q]'hq'<m:=by
  have hin:=List.mem_of_mem_eraseIdx (bT hq')
  have:=(iU.mp hin)
  omega
 have vne:(aO 1 (m - 1))[r]'(by rw[hlen];exact hr)≠((aO 1 (m - 1)).eraseIdx r)[q]'hq':=by
  obtain⟨i,hi,hir,e⟩:=List.mem_eraseIdx_iff_getElem.mp (bT hq')
  rw[<- e];simp;omega
 generalize hA:(aO 1 (m - 1))[r]'(by rw[hlen];exact hr)=A at va p1 vne
 generalize hB:((aO 1 (m - 1)).eraseIdx r)[q]'hq'=B at vb vne
 have l2:mFn cN (aa (ae 3) ak) [some (.ref n),some (.int (most:Nat)),some (tab m T),some (.ref S2.length),some (.int A),none] (S4.set S2.length (Cell.lst (az ((aO 1 (m - 1)).eraseIdx r))))=some (.int (m - 2:Nat),S4.set S2.length (Cell.lst (az ((aO 1 (m - 1)).eraseIdx r)))):=by
  rw[xg (var_eq rfl) g5]
  simp only[az,aq,hle]
 have i1:m2 oIx (ae 3) (mFn bf (aa (ae 0) (aa (mFn cN (aa (ae 3) ak)) ak))) [some (.ref n),some (.int (most:Nat)),some (tab m T),some (.ref S2.length),some (.int A),none] (S4.set S2.length (Cell.lst (az ((aO 1 (m - 1)).eraseIdx r))))=some (.int B,S6):=by
  refine Bu (var_eq rfl) (d7 (var_eq rfl) l2 e6) g6 (qc ?_)
  unfold az
  rw[bG,aD hq',hB];rfl
 refine⟨m,T,min A B,max A B,S6,dH (ρ:= [some (.ref n),some (.int (most:Nat)),some (tab m T),some (.ref S2.length),some (.int A),some (.int B)]) rfl ?_,g,hm3,hm,by omega,by omega,by omega,st5.trans st6⟩
 show mY [some (.ref n),some (.int (most:Nat)),none,none,none,none] S=_
 exact(be (bI (d7 (var_eq rfl) (var_eq rfl) e1))).trans ((be e2).trans ((be (bI e3)).trans ((be (bI p1)).trans ((be (bI i1)).trans (dG (JI (var_eq rfl) (JI (LN (var_eq rfl) (var_eq rfl)) (LF (var_eq rfl) (var_eq rfl)))))))))
theorem NK{ρ:Rho}{S S1:Sto}{a:ME}{x y:U}(ha:a ρ S=some (.tup [x,y],S1)):m2 oIx a (mC (.int 0)) ρ S=some (x,S1):=BC ha rfl rfl
theorem Mu{ρ:Rho}{S S1:Sto}{a:ME}{x y:U}(ha:a ρ S=some (.tup [x,y],S1)):m2 oIx a (mC (.int 1)) ρ S=some (y,S1):=BC ha rfl rfl
theorem HB{m:Nat}{T:Nat->Nat->Nat}{S:Sto}(g:Grp m T){a b:Nat}(ha:a<m)(hb:b<m):jL [tab m T,.tup [.int (a:Nat),.int (b:Nat)]] S=some (.int (T a (unT m T b)),S):=
 dH (ρ:= [some (tab m T),some (.tup [.int (a:Nat),.int (b:Nat)])]) rfl (show oM [some (tab m T),some (.tup [.int (a:Nat),.int (b:Nat)])] S=_ from dG (ki (jz g hb).1 (jI ha (var_eq rfl) (NK (var_eq rfl))) (d7 (var_eq rfl) (Mu (var_eq rfl)) (Bp g hb))))
noncomputable def fQ(m:Nat)(T:Nat->Nat->Nat)(t n:Nat):List (List Nat):=((aB m).filter (jP T t n)).map λx=>srt (orb T t n x)
abbrev gF(ls:List (List Nat)):List U:=tups ls
theorem Cr{m:Nat}{T:Nat->Nat->Nat}{t n:Nat}:(fQ m T t n).length<=m:=by
 unfold fQ
 rw[aq]
 exact aM (dz _ _) (by simp)
theorem ug{T:Nat->Nat->Nat}{t n k:Nat}:fQ (k+1) T t n=fQ k T t n++(if jP T t n k then [srt (orb T t n k)] else []):=by
 unfold fQ
 rw[h9,List.filter_append,dB]
 congr 1
 cases h:jP T t n k <;> simp[h]
theorem CZ{T:Nat->Nat->Nat}{m t n k:Nat}(g:Grp m T)(ht:t<m)(hn:0<n)(h0:pw T t n=0)(hk:k<m):jP T t n k=true ↔ ¬∃x,x<k/\k∈orb T t n x:=by
 rw[jd]
 constructor
 ·rintro h ⟨x,hx,hm⟩
  have:=h x (iE g ht hn h0 (by exact dI (by assumption) (by assumption)) hm)
  omega
 ·intro h y hy
  refine bC λhlt=>h ⟨y,hlt,iE g ht hn h0 hk hy⟩
theorem zv{T:Nat->Nat->Nat}{m t n:Nat}(g:Grp m T)(ht:t<m)(hn:0<n)(h0:pw T t n=0){r:Nat->List Nat}(hr: ∀x,(r x).Perm (orb T t n x)): ∀k,k<=m ->
  (∀y:Nat,y∈(sdF r k).2 ↔ ∃x,x<k/\y∈orb T t n x)/\(sdF r k).1=fQ k T t n
 | 0,_=>⟨λy=>by
   constructor
   ·intro h;simp[sdF]at h
   ·rintro ⟨x,hx,_⟩;omega,rfl⟩
 | k+1,hk=>by
   obtain⟨i1,i2⟩:=zv g ht hn h0 hr k (by exact aU (by assumption))
   have hmin:=CZ g ht hn h0 (show k<m by assumption)
   by_cases q:k∈(sdF r k).2
   ·have e:sdF r (k+1)=sdF r k:=by rw[sdF,if_pos q]
    obtain⟨x0,hx0,hm0⟩:=(i1 k).mp q
    have hf:jP T t n k=false:=by
     cases w:jP T t n k with
     | false=>rfl
     | true=>exact absurd ⟨x0,hx0,hm0⟩ (hmin.mp w)
    rw[e]
    refine⟨λy=>(i1 y).trans ⟨?_,?_⟩,?_⟩
    ·rintro ⟨x,hx,hm⟩;exact⟨x,by exact eS (by assumption),hm⟩
    ·rintro ⟨x,hx,hm⟩
     by_cases hxk:x=k
     ·subst hxk;exact⟨x0,hx0,jS g ht h0 (by exact dI (by assumption) (by assumption)) hm0 hm⟩
     ·exact⟨x,by omega,hm⟩
    ·rw[i2,ug,hf];simp
   ·have e:sdF r (k+1)=((sdF r k).1++[srt (r k)],(sdF r k).2++r k):=by rw[sdF,if_neg q]
    have hf:jP T t n k=true:=hmin.mpr λh=>q ((i1 k).mpr h)
    rw[e]
    refine⟨λy =>?_,?_⟩
    ·show y∈(sdF r k).2++r k↔_
     rw[bu,i1 y,(hr k).mem_iff]
     constructor
     ·rintro (⟨x,hx,hm⟩ |hm)
      ·exact⟨x,by exact eS (by assumption),hm⟩
      ·exact⟨k,by exact ah _,hm⟩
     ·rintro ⟨x,hx,hm⟩
      by_cases hxk:x=k
      ·subst hxk;exact .inr hm
      ·exact .inl ⟨x,by omega,hm⟩
    ·show(sdF r k).1++[srt (r k)]=_
     rw[i2,ug,hf,Bw (hr k)];simp
theorem Jv{T:Nat->Nat->Nat}{t:Nat}{x:Nat}(h:Rch T [t] x): ∃i,x=pw T t i:=by
 induction h with
 | zero=>exact⟨0,rfl⟩
 | step _ hy ih=>
   obtain⟨i,rfl⟩:=ih
   simp at hy
   subst hy
   exact⟨i+1,rfl⟩
theorem Er{T:Nat->Nat->Nat}{t:Nat}: ∀i,Rch T [t] (pw T t i)
 | 0 => .zero
 | i+1 => .step (Er i) (by simp)
noncomputable def pws(T:Nat->Nat->Nat)(t n:Nat):List Nat:=(aB n).map (pw T t)
theorem Dr{T:Nat->Nat->Nat}{m t n:Nat}{ks:List Nat}(g:Grp m T)(ht:t<m)(hn0:1<=n)(h1: ∀k,1<=k->k<n->pw T t k≠0)(h0:pw T t n=0)(d:Dfs m T [t] ks λ_=>False):ks.Perm (pws T t n):=by
 refine G5 d.nd ?_ λx =>?_
 ·unfold pws
  rw[aS,cx]
  refine dM ?_ (mJ (n:=n))
  intro a b ha hb hab e
  have hb:=aN.mp hb
  exact h1 (b - a) (by omega) (by omega) (zj g ht (by exact aU (by assumption)) e)
 ·rw[d.all]
  constructor
  ·intro h
   obtain⟨i,rfl⟩:=Jv h
   refine aI.mpr ⟨i % n,aN.mpr (nq _ (by assumption)),?_⟩
   have: ∀q r,pw T t (n*q+r)=pw T t r:=λq=>by
    induction q with
    | zero=>intro r;rw[Nat.mul_zero,d5]
    | succ q ih=>intro r;rw[Nat.mul_succ,eZ,ih,zu g ht h0]
   have e:=this (i / n) (i % n)
   rw[yb]at e
   exact e.symm
  ·intro h
   obtain⟨i,_,rfl⟩:=aI.mp h
   exact Er i
section
variable {m:Nat}{T:Nat->Nat->Nat}{t n:Nat}
theorem wJ{S:Sto}(g:Grp m T)(hm:m<64){a b:Nat}(ha:a<m)(hb:b<m)(he:t=T a (unT m T b))(hn0:1<=n)(hn:n<64)(h1: ∀k,1<=k->k<n->pw T t k≠0)(h0:pw T t n=0):
  ∃r S',j9 [tab m T,.tup [.int (a:Nat),.int (b:Nat)]] S=some (.ref r,S')/\Ex S S'/\S.length<=r/\S'[r]? = some (.lst (gF (fQ m T t n))):=by
 have ht:t<m:=by rw[he];exact g.cl _ _ ha (jz g hb).1
 obtain⟨ks,S1,e1,x1,d⟩:=L0 (S:=S) (ths:= [t]) g hm (by simpa using ht)
 have hp:=Dr g ht hn0 h1 h0 d
 obtain⟨S2,e2,x2,q2⟩:=Hx (S:=S1) (part:=srt ks) g hm (by rw[qy,hp.length_eq];simpa [pws]using hn) (λx hx=>d.lt x (i8.mp hx))
 have hs:CF m T (srt ks) true=fQ m T t n:=by
  refine(zv g ht (by assumption) h0 (λx =>?_) m (ah _)).2
  show(oH (λo=>if true=true then T x o else T o x) (srt ks)).Perm (orb T t n x)
  have:(oH (λo=>if true=true then T x o else T o x) (srt ks))=(srt ks).map (T x):=by simp
  rw[this]
  refine(((rL ks).trans hp).map (T x)).trans ?_
  rw[show(pws T t n).map (T x)=orb T t n x by simp[pws,orb,bX,Function.comp_def]]
 rw[hs]at q2
 have et:=HB (S:=S) g ha hb
 rw[<- he]at et
 have e3:cX (aa (mFn jL (aa (ae 0) (aa (ae 1) ak))) ak) [some (tab m T),some (.tup [.int (a:Nat),.int (b:Nat)])] S=some (.tup (az [t]),S):=yW (d7 (f:=jL) (a:=ae 0) (b:=ae 1) (ρ:= [some (tab m T),some (.tup [.int (a:Nat),.int (b:Nat)])]) (var_eq rfl) (var_eq rfl) et)
 exact⟨_,_,dH (ρ:= [some (tab m T),some (.tup [.int (a:Nat),.int (b:Nat)])]) rfl (show vq [some (tab m T),some (.tup [.int (a:Nat),.int (b:Nat)])] S=_ from dG (d7 (f:=kl) (a:=ae 0) (var_eq rfl) (d7 (f:=yP) (a:=ae 0) (var_eq rfl) e3 e1) e2)),x1.trans x2,x1.len,q2⟩
end
section
variable {m:Nat}{T:Nat->Nat->Nat}{t n:Nat}
end
theorem Gr{ρ:Rho}{S S1 S2:Sto}{a b:ME}{n k:Nat}{ls:List (List Nat)}(ha:a ρ S=some (.ref n,S1))(hb:b ρ S1=some (.ref k,S2))(hn:S2[n]? = some (Cell.lst (gF ls)))(hk:S2[k]? = some (Cell.lst (gF ls))):m2 oNe a b ρ S=some (.bl false,S2):=by
 refine op2 ha hb ?_
 simp only[oNe,_G.eqU,xw hn,xw hk,ag,aT,eN,xp]
 simp
theorem isL {ρ:Rho}{S S1:Sto}{a:ME}{n:Nat}{us:List U} (ha:a ρ S=some (.ref n,S1)) (hn:S1[n]? = some (Cell.lst us)):m1 (mX "list") a ρ S=some (.bl true,S1):=by
 simp only[m1,ha,aF,mX,tyU,hn,aT]
 rfl
theorem uA{e:ME}{ρ:Rho}{n:Nat}{S:Sto}{us:List U}{g:U->U}(hu:getL S n=some us)(he: ∀u∈us,e (ρ++[some u]) S=some (g u,S)): ∀(f i:Nat) (acc:List U),i<=us.length->us.length<i+f->ib cTT e ρ n f i acc S=some (acc++(us.drop i).map g,S)
 | 0,i,acc,h',h=>by omega
 | f+1,i,acc,h',h=>by
   unfold ib
   rw[hu]
   simp only[ag]
   cases q:us[i]? with
   | none=>
     have:us.drop i = []:=List.drop_eq_nil_iff.mpr (cH.mp q)
     rw[this];simp
   | some u=>
     obtain⟨hi,hu'⟩:=ai.mp q
     have hd:us.drop i=u::us.drop (i+1):=by rw[eM hi,hu']
     simp only[cTT,aF,if_true]
     rw[he u (bZ q)]
     simp only[aF]
     rw[uA hu he f (i+1) _ (by assumption) (by omega),hd]
     simp
theorem CC{ρ:Rho}{S:Sto}{n i:Nat}{ls:List (List Nat)}(hv:ρ[i]? = some (some (.ref n)))(h8:ρ.length=8)(hn:S[n]? = some (Cell.lst (gF ls)))(hl:ls.length<1000):
  ∃ S',mFn uX (aa (ck (cu (ae i)) cTT (m1 (mX "tuple") (ae 8))) ak) ρ S=some (.bl true,S')/\Ex S S':=by
 have hg:getL S n=some (gF ls):=by unfold getL;rw[hn]
 have e1:=uA (e:=m1 (mX "tuple") (ae 8)) (ρ:=ρ) (g:=fun _=>U.bl true) hg (fun u hu=>by
  obtain⟨l,_,rfl⟩:=aI.mp hu
  exact isT (var_eq (by rw[av (by exact nk (by assumption)),h8];rfl))) fuel 0 [] (cn _) (by unfold gF tups fuel;rw[aq];exact ao (by assumption) (by decide))
 rw[j4,dk]at e1
 have e2:ck (cu (ae i)) cTT (m1 (mX "tuple") (ae 8)) ρ S=some (.ref S.length,S ++ [Cell.lst ((gF ls).map fun x=>U.bl ((fun _=>true) x))]):=by
  have hz:((gF ls).map λ_=>U.bl true).length<big:=by rw[aq];unfold gF tups;rw[aq];unfold big;exact ao (by assumption) (by decide)
  have hi:cu (ae i) ρ S=some (.mut n,S):=by
   simp only[cu,var_eq hv,aF,hg,aT]
  simp only[ck,hi,aF,xh,e1]
  exact if_pos hz
 have e3:=Mq e2
 rw[show(gF ls).all (λ_=>true)=true by simp]at e3
 exact⟨_,e3,Ex.push _ _⟩
section
variable {m:Nat}{T:Nat->Nat->Nat}{S:Sto}
noncomputable def stp(a b c:Nat):Nat:=if c=0 then a else b
noncomputable def dK(a b:Nat)(L:List (List Nat))(c:List Nat):Nat->List (_L.Key×U)
 | 0 =>[]
 | k+1=>sY (dK a b L c k) (L.getD k []) (stp a b (c.getD k 0))
noncomputable def sK(a b:Nat)(L:List (List Nat))(c:List Nat):Nat->Nat->Option Nat
 | 0,_=>none
 | k+1,x=>if x∈L.getD k [] then some (stp a b (c.getD k 0)) else sK a b L c k x
theorem DJ{a b x:Nat}{L:List (List Nat)}{c:List Nat}: ∀k,i7 (dK a b L c k) (.inl (x:Int))=(sK a b L c k x).map λ(v:Nat)=>U.int (v:Nat)
 | 0=>rfl
 | k+1=>by
   rw[dK,xR,sK]
   split
   ·rfl
   ·exact DJ k
theorem CK{a b:Nat}{L:List (List Nat)}{c:List Nat}(h: ∀s∈L,s.length<=64): ∀k,(dK a b L c k).length<=k*64
 | 0=>cn _
 | k+1=>by
   have h1:=CK (a:=a) (b:=b) (c:=c) h k
   have h2:=rA (v:=stp a b (c.getD k 0)) (xs:=L.getD k []) (D:=dK a b L c k)
   have h3:(L.getD k []).length<=64:=by
    rw[aJ]
    cases q:L[k]? with
    | none=>simp
    | some s=>simpa using h s (bZ q)
   rw[dK,ng];omega
theorem vv{a b x y:Nat}{L:List (List Nat)}{c:List Nat}: ∀k,sK a b L c k x=some y->y=a\/y=b
 | 0,h=>by cases h
 | k+1,h=>by
   rw[sK]at h
   split at h
   ·injection h with h
    rw[<- h];unfold stp;split
    ·exact .inl rfl
    ·exact .inr rfl
   ·exact vv k h
theorem Aj{a b x:Nat}{L:List (List Nat)}{c:List Nat}: ∀k,(∃i,i<k/\x∈L.getD i []) -> ∃y,sK a b L c k x=some y
 | 0,⟨i,h,_⟩=>by omega
 | k+1,⟨i,h,hx⟩=>by
   rw[sK]
   by_cases z:x∈L.getD k []
   ·exact⟨_,if_pos z⟩
   ·rw[if_neg z]
    refine Aj k ⟨i,?_,hx⟩
    rcases eY.mp h with q |q
    ·exact q
    ·subst q;exact absurd hx z
theorem xb{a b x y:Nat}{L:List (List Nat)}{c:List Nat}(h: ∀s∈L,x∈s↔y∈s): ∀k,sK a b L c k x=sK a b L c k y
 | 0=>rfl
 | k+1=>by
   have:x∈L.getD k []↔y∈L.getD k []:=by
    rw[aJ]
    cases q:L[k]? with
    | none=>simp
    | some s=>simpa using h s (bZ q)
   rw[sK,sK,xb h k]
   by_cases z:x∈L.getD k []
   ·rw[if_pos z,if_pos (this.mp z)]
   ·rw[if_neg z,if_neg (λw=>z (this.mpr w))]
noncomputable def chF(a b:Nat)(L:List (List Nat))(c:List Nat)(x:Nat):Nat:=(sK a b L c L.length x).getD 0
noncomputable def goF(T:Nat->Nat->Nat)(ch:Nat->Nat)(x:Nat):Nat:=T x (ch x)
theorem zS{t n x:Nat}(g:Grp m T)(ht:t<m)(hn:0<n)(h0:pw T t n=0)(hx:x<m): ∃i,i<(fQ m T t n).length/\x∈(fQ m T t n).getD i []:=by
 have hself:x∈orb T t n x:=aI.mpr ⟨0,aN.mpr hn,g.r0 x hx⟩
 obtain⟨y,hy,hmin⟩ : ∃y∈orb T t n x,∀z∈orb T t n x,y<=z:=by
  have: ∀(l:List Nat),l≠[] -> ∃y∈l,∀z∈l,y<=z:=by
   intro l hl
   induction l with
   | nil=>exact absurd rfl hl
   | cons w l ih=>
     by_cases hl2:l = []
     ·subst hl2;exact⟨w,by simp,by simp⟩
     ·obtain⟨y,hy,hm⟩:=ih hl2
      by_cases hwy:w<=y
      ·exact⟨w,by simp,λz hz=>by rcases aG.mp hz with rfl |hz;exact ah _;exact aM hwy (hm z hz)⟩
      ·exact⟨y,aC _ hy,λz hz=>by rcases aG.mp hz with rfl |hz;omega;exact hm z hz⟩
  exact this _ (List.ne_nil_of_mem hself)
 have hym:y<m:=by
  obtain⟨i,_,rfl⟩:=aI.mp hy
  exact g.cl _ _ hx (iG g ht i)
 have hxy:=iE g ht hn h0 hx hy
 have hmy:jP T t n y=true:=jd.mpr λz hz=>hmin z (jS g ht h0 hx hy hz)
 have hmem:srt (orb T t n y)∈fQ m T t n:=aI.mpr ⟨y,bo.mpr ⟨aN.mpr hym,hmy⟩,rfl⟩
 obtain⟨i,hi,e⟩:=Fh.mp hmem
 refine⟨i,hi,?_⟩
 rw[aJ,aD hi]
 show x∈(fQ m T t n)[i]
 rw[e];exact i8.mpr hxy
theorem EO{t n x:Nat}(g:Grp m T)(ht:t<m)(hn:0<n)(h0:pw T t n=0)(hx:x<m): ∀s∈fQ m T t n,T x t∈s↔x∈s:=by
 intro s hs
 obtain⟨y,hy,rfl⟩:=aI.mp hs
 have hym:=aN.mp (bo.mp hy).1
 have hxt:T x t∈orb T t n x:=by
  by_cases h1:n=1
  ·subst h1
   have:t=0:=by have:T 0 t=0:=h0;rwa[g.l0 t ht]at this
   subst this
   exact aI.mpr ⟨0,by simp,rfl⟩
  ·refine aI.mpr ⟨1,aN.mpr (by omega),?_⟩
   show T x (T 0 t)=T x t
   rw[g.l0 t ht]
 rw[i8,i8]
 constructor
 ·intro h
  exact jS g ht h0 hym h (iE g ht hn h0 hx hxt)
 ·intro h
  exact jS g ht h0 hym h hxt
theorem Fo{t n:Nat}(hn:n<=64): ∀s∈fQ m T t n,s.length<=64:=λs hs=>by
 obtain⟨y,_,rfl⟩:=aI.mp hs
 rw[qy];simpa [orb]using hn
theorem vn{a b t n x:Nat}{c:List Nat}(g:Grp m T)(ht:t<m)(hn:0<n)(h0:pw T t n=0)(hx:x<m):sK a b (fQ m T t n) c (fQ m T t n).length x=some (chF a b (fQ m T t n) c x):=by
 obtain⟨y,hy⟩:=Aj (a:=a) (b:=b) (c:=c) _ (zS g ht hn h0 hx)
 unfold chF;rw[hy];rfl
theorem go_inj{a b n:Nat}{c:List Nat}(g:Grp m T)(ha:a<m)(hb:b<m)(hn:0<n)(h0:pw T (T a (unT m T b)) n=0):Inj m (goF T (chF a b (fQ m T (T a (unT m T b)) n) c)):=by
 have hu:=my g hb
 have ht:T a (unT m T b)<m:=g.cl _ _ ha hu
 generalize hL:fQ m T (T a (unT m T b)) n=L
 have val: ∀x,x<m->chF a b L c x=a\/chF a b L c x=b:=λx hx=>by
  have:=vn (a:=a) (b:=b) (c:=c) g ht hn h0 hx
  rw[hL]at this
  exact vv _ this
 have same: ∀x,x<m->chF a b L c (T x (T a (unT m T b)))=chF a b L c x:=λx hx=>by
  unfold chF
  rw[xb (λs hs=>EO g ht hn h0 hx s (hL▸hs))]
 have lt: ∀x,x<m->chF a b L c x<m:=λx hx=>by rcases val x hx with e |e <;> rw[e] <;> assumption
 have key: ∀x y,x<m->y<m->T x a=T y b->y=T x (T a (unT m T b)):=λx y hx hy e=>by
  rw[<- g.as x a _ hx ha hu,e,g.as y b _ hy hb hu,M3 g hb,g.r0 y hy]
 refine⟨λx hx=>g.cl _ _ hx (lt x hx),λx y hx hy e =>?_⟩
 unfold goF at e
 by_cases hc:chF a b L c x=chF a b L c y
 ·rw[hc]at e
  exact g.cancelR (lt y hy) hx hy e
 ·rcases val x hx with e1 |e1 <;> rcases val y hy with e2 |e2
  ·exact absurd (e1.trans e2.symm) hc
  ·rw[e1,e2]at e
   have h:=same x hx
   rw[<- key x y hx hy e]at h
   exact absurd h.symm hc
  ·rw[e1,e2]at e
   have h:=same y hy
   rw[<- key y x hy hx e.symm]at h
   exact absurd h hc
  ·exact absurd (e1.trans e2.symm) hc
theorem t9{g:MG}{b:MS}{n:Nat}{us:List U}(xs:List U)(hlen:us.length=xs.length)(P:Nat->Rho->Sto->Prop)(hl: ∀k ρ S,P k ρ S->getL S n=some xs)
  (st: ∀(k:Nat) (x y:U) (ρ:Rho) (S:Sto),xs[k]? = some x->us[k]? = some y->P k ρ S -> ∃ρ1 S1 ρ' S',g (.tup [x,y]) ρ S=some (ρ1,S1)/\b ρ1 S1=some (.nx,ρ',S')/\P (k+1) ρ' S'):
  ∀(f k:Nat) (ρ:Rho) (S:Sto),k<=xs.length->xs.length - k<f->P k ρ S -> ∃ρ' S',pM g b n us f k ρ S=some (.nx,ρ',S')/\P xs.length ρ' S'
 | 0,k,ρ,S,h1,h2,_=>by omega
 | f+1,k,ρ,S,h1,h2,hp=>by
   unfold pM
   rw[hl k ρ S hp]
   simp only[ag]
   by_cases hk:k<xs.length
   ·have hu:xs[k]? = some xs[k]:=by simp[hk]
    have hk2:k<us.length:=by omega
    have hv:us[k]? = some us[k]:=by simp[hk2]
    obtain⟨ρ0,S0,ρ1,S1,e0,e1,p1⟩:=st k xs[k] us[k] ρ S hu hv hp
    obtain⟨ρ2,S2,e2,p2⟩:=t9 xs hlen P hl st f (k+1) ρ1 S1 (by assumption) (by omega) p1
    refine⟨ρ2,S2,?_,p2⟩
    simp only[hu,hv,e0,ag,aft,e1,e2]
   ·have:k=xs.length:=by omega
    subst this
    exact⟨ρ,S,by simp,hp⟩
noncomputable def zgM(F:MF):MS:=br (bJ 3 nW) (br (nH (gTp 2 (d6 (gN 4) (d6 (gN 5) kA))) (xS (aa (mFn F (aa (ae 0) (aa (ae 1) ak))) (aa (ae 2) ak))) (eX 6 (cu (ae 4)) (eA (ae 3) (ae 6) (m2 oIx (ae 1) (ae 5))))) (eg (ae 3)))
theorem K7{F:MF}{a b:Nat}{L:List (List Nat)}{c:List Nat}{tb:U}(hF: ∀S,∃r S',F [tb,.tup [.int (a:Nat),.int (b:Nat)]] S=some (.ref r,S')/\Ex S S'/\S'[r]? = some (.lst (gF L)))(hL: ∀s∈L,s.length<=64)(hl:L.length<64)(hc:c.length=L.length)(hc2: ∀x∈c,x<2):
  ∃d S',_G.run 3 7 (zgM F) [tb,.tup [.int (a:Nat),.int (b:Nat)],.tup (az c)] S=some (.ref d,S')/\Ex S S'/\S'[d]? = some (.dic (dK a b L c L.length)):=by
 obtain⟨r,S1,e1,x1,g1⟩:=hF (S++[Cell.dic []])
 have d1:S1[S.length]? = some (Cell.dic []):=x1.some (de _ _)
 have hrd:r≠S.length:=λz=>by rw[z,d1]at g1;cases g1
 have hz:(gF L).length=L.length:=by simp[gF,tups]
 obtain⟨ρ2,S2,e2,⟨u4,u5,u6,rfl⟩,x2,q2,r2⟩:=t9 (g:=gTp 2 (d6 (gN 4) (d6 (gN 5) kA))) (b:=eX 6 (cu (ae 4)) (eA (ae 3) (ae 6) (m2 oIx (ae 1) (ae 5)))) (n:=r) (us:=az c) (gF L) (by rw[dg,hz,hc])
  (λk ρ S'=>(∃u4 u5 u6,ρ = [some tb,some (.tup [.int (a:Nat),.int (b:Nat)]),some (.tup (az c)),some (.ref S.length),u4,u5,u6])/\Ex S S'/\S'[S.length]? = some (.dic (dK a b L c k))/\S'[r]? = some (.lst (gF L))) (λk ρ S' hp=>by unfold getL;rw[hp.2.2.2]) (by
   rintro k x y ρ S' hx hy ⟨⟨u4,u5,u6,rfl⟩,xs,qs,rs⟩
   have hk:k<L.length:=by have:=(ai.mp hx).1;rwa[hz]at this
   have hx':x = .tup (az (L.getD k [])):=by
    unfold gF tups at hx
    rw[bG,aD hk]at hx
    rw[aJ,aD hk]
    simpa using hx.symm
   subst hx'
   have hkc:k<c.length:=by omega
   have hy':y = .int (c.getD k 0:Nat):=by
    unfold az at hy
    rw[bG,aD hkc]at hy
    rw[aJ,aD hkc]
    simpa using hy.symm
   subst hy'
   have hcl:c.getD k 0<2:=by rw[aJ,aD hkc];exact hc2 _ (bT hkc)
   have hsl:(L.getD k []).length<=64:=by rw[aJ,aD hk];exact hL _ (bT hk)
   have hdl:=CK (a:=a) (b:=b) (c:=c) hL k
   generalize hsd:L.getD k []=sd at *
   have hv: ∀(z:Option U) (S':Sto),m2 oIx (ae 1) (ae 5) [some tb,some (.tup [.int (a:Nat),.int (b:Nat)]),some (.tup (az c)),some (.ref S.length),some (.tup (az sd)),some (.int (c.getD k 0:Nat)),z] S'=some (.int (stp a b (c.getD k 0):Nat),S'):=λz S'=>by
    refine BC (us:= [.int (a:Nat),.int (b:Nat)]) (var_eq rfl) (var_eq rfl) ?_
    generalize c.getD k 0=cc at hcl
    rcases eY.mp hcl with q |q
    ·have:cc=0:=by omega
     subst this;rfl
    ·subst q;rfl
   obtain⟨ρ3,S3,e3,⟨u6',rfl⟩,x3,q3,r3⟩:=vm (i:=6) (e:=ae 4) (us:=az sd) (b:=eA (ae 3) (ae 6) (m2 oIx (ae 1) (ae 5))) (ρ:= [some tb,some (.tup [.int (a:Nat),.int (b:Nat)]),some (.tup (az c)),some (.ref S.length),some (.tup (az sd)),some (.int (c.getD k 0:Nat)),u6]) (S:=S') (S1:=S') (var_eq rfl)
    (λj ρ S3=>(∃z,ρ = [some tb,some (.tup [.int (a:Nat),.int (b:Nat)]),some (.tup (az c)),some (.ref S.length),some (.tup (az sd)),some (.int (c.getD k 0:Nat)),z])/\Ex S S3/\S3[S.length]? = some (.dic (sY (dK a b L c k) (sd.take j) (stp a b (c.getD k 0))))/\S3[r]? = some (.lst (gF L)))
    ⟨⟨_,rfl⟩,xs,by simpa [sY]using qs,rs⟩ (by
     rintro j u ρ S3 hu ⟨⟨z,rfl⟩,x3,q3,r3⟩
     obtain⟨w,hw,rfl⟩:=lB hu
     have hj:j<sd.length:=(ai.mp hw).1
     have hpl:=rA (v:=stp a b (c.getD k 0)) (xs:=sd.take j) (D:=dK a b L c k)
     have htl:(sd.take j).length<=64:=by rw[gH];omega
     have:=Iz (ρ:= [some tb,some (.tup [.int (a:Nat),.int (b:Nat)]),some (.tup (az c)),some (.ref S.length),some (.tup (az sd)),some (.int (c.getD k 0:Nat)),some (.int (w:Nat))]) (S:=S3) (o:=ae 3) (i:=ae 6) (hv _ S3) (var_eq rfl) (var_eq rfl) q3 (by
      have h3:k*64<=64*64:=dE _ (by omega)
      unfold big;omega)
     refine⟨_,_,this,⟨_,rfl⟩,x3.set (ah _),?_,?_⟩
     ·rw[aY (ai.mp q3).1,kH,hw]
      simp[sY]
     ·rw[aK (λz=>hrd z.symm)];exact r3)
   rw[dg,fA (ah _)]at q3
   refine⟨_,_,_,S3,rfl,e3,⟨_,_,_,rfl⟩,x3,?_,r3⟩
   rw[dK,hsd];exact q3) fuel 0 [some tb,some (.tup [.int (a:Nat),.int (b:Nat)]),some (.tup (az c)),some (.ref S.length),none,none,none] S1 (cn _) (by rw[hz];unfold fuel;exact ao (by assumption) (by decide)) ⟨⟨_,_,_,rfl⟩,(Ex.push _ _).trans x1,d1,g1⟩
 rw[hz]at q2
 have hi:xS (aa (mFn F (aa (ae 0) (aa (ae 1) ak))) (aa (ae 2) ak)) [some tb,some (.tup [.int (a:Nat),.int (b:Nat)]),some (.tup (az c)),some (.ref S.length),none,none,none] (S++[Cell.dic []])=some (.zlt r (az c),S1):=by
  have h1:=mc (d7 (f:=F) (a:=ae 0) (b:=ae 1) (ρ:= [some tb,some (.tup [.int (a:Nat),.int (b:Nat)]),some (.tup (az c)),some (.ref S.length),none,none,none]) (var_eq rfl) (var_eq rfl) e1) (mc (a:=ae 2) (x:= .tup (az c)) (var_eq rfl) (show ak _ _=_ from rfl))
  have h2:getL S1 r=some (gF L):=by unfold getL;rw[g1]
  simp only[xS,h1,aF,h2,aT]
 have ef:nH (gTp 2 (d6 (gN 4) (d6 (gN 5) kA))) (xS (aa (mFn F (aa (ae 0) (aa (ae 1) ak))) (aa (ae 2) ak))) (eX 6 (cu (ae 4)) (eA (ae 3) (ae 6) (m2 oIx (ae 1) (ae 5)))) [some tb,some (.tup [.int (a:Nat),.int (b:Nat)]),some (.tup (az c)),some (.ref S.length),none,none,none] (S++[Cell.dic []])=some (.nx,[some tb,some (.tup [.int (a:Nat),.int (b:Nat)]),some (.tup (az c)),some (.ref S.length),u4,u5,u6],S2):=by
  unfold nH
  rw[hi]
  exact e2
 exact⟨S.length,S2,dH (ρ:= [some tb,some (.tup [.int (a:Nat),.int (b:Nat)]),some (.tup (az c)),some (.ref S.length),u4,u5,u6]) rfl ((be (bI rfl)).trans ((be ef).trans (dG (var_eq rfl)))),x2,q2⟩
end
section
variable {m:Nat}{T:Nat->Nat->Nat}{S:Sto}{D:List (_L.Key×U)}{ch:Nat->Nat}
structure Cho(m:Nat)(T:Nat->Nat->Nat)(D:List (_L.Key×U))(ch:Nat->Nat):Prop where
 val: ∀x,x<m->i7 D (.inl ((x:Nat):Int))=some (.int (ch x:Nat))
 lt: ∀x,x<m->ch x<m
 inj:Inj m (goF T ch)
theorem G4{c c':Cell}:(S++[c]).set S.length c'=S++[c']:=by
 rw[eE _ _ (ah _),tS];rfl
theorem Il{ρ:Rho}{e:ME}{d y:Nat}(C:Cho m T D ch)(h0:ae 0 ρ S=some (tab m T,S))(h1:ae 1 ρ S=some (.ref d,S))(hd:S[d]? = some (.dic D))(hy:y<m)(he:e ρ S=some (.int (y:Nat),S)):m2 oIx (m2 oIx (ae 0) e) (m2 oIx (ae 1) e) ρ S=some (.int (goF T ch y:Nat),S):=
 ki (T:=T) (i:=y) (j:=ch y) (C.lt y hy) (jI hy h0 he) (KL h1 he hd (C.val y hy))
noncomputable def rfB:MS:=br (dN (mML du (ae 3) (aa (ae 4) ak))) (bJ 4 (m2 oIx (m2 oIx (ae 0) (ae 4)) (m2 oIx (ae 1) (ae 4))))
theorem Nz{d x:Nat}(C:Cho m T D ch)(hm:m<64)(hd:S[d]? = some (.dic D))(hx:x<m):iI [tab m T,.ref d,.int (x:Nat)] S=some (.tup (az (rg m (goF T ch) x)),S++[.lst (az (rg m (goF T ch) x))]):=by
 obtain⟨p1,p2,p3,p4⟩:=jV C.inj hx
 unfold rg
 generalize hn:iV m (goF T ch) x=n at p1 p2 p3 p4
 obtain⟨ρ1,S1,e1,rfl,rfl⟩:=nZ (c:=cOf (m2 oNe (ae 4) (ae 2))) (b:=rfB) (λμ ρ S' =>∃j,1<=j/\j<=n/\μ=n - j/\ρ = [some (tab m T),some (.ref d),some (.int (x:Nat)),some (.ref S.length),some (.int (itF (goF T ch) j x:Nat))]/\S'=S++[.lst (az (rgK (goF T ch) x j))])
  (λρ S'=>ρ = [some (tab m T),some (.ref d),some (.int (x:Nat)),some (.ref S.length),some (.int (itF (goF T ch) n x:Nat))]/\S'=S++[.lst (az (rgK (goF T ch) x n))]) (by
  rintro μ ρ S' ⟨j,j1,j2,rfl,rfl,rfl⟩
  have ec:=of_eq (Oz (ρ:= [some (tab m T),some (.ref d),some (.int (x:Nat)),some (.ref S.length),some (.int (itF (goF T ch) j x:Nat))]) (S:=S++[.lst (az (rgK (goF T ch) x j))]) (a:=ae 4) (b:=ae 2) (x:=itF (goF T ch) j x) (y:=x) (var_eq rfl) (var_eq rfl))
  refine⟨_,_,ec,λhf =>?_,λhf =>?_⟩
  ·have hin:itF (goF T ch) j x=x:=by simpa using hf
   have:j=n:=by
    apply gc
    intro z
    exact p4 j j1 (by exact fJ (by assumption) (by assumption)) hin
   subst this
   exact⟨rfl,rfl⟩
  ·have hin:itF (goF T ch) j x≠x:=by simpa using hf
   have hj:j<n:=by
    apply gc
    intro z
    have:j=n:=by omega
    subst this
    exact hin p3
   have ea:=append_eq (ρ:= [some (tab m T),some (.ref d),some (.int (x:Nat)),some (.ref S.length),some (.int (itF (goF T ch) j x:Nat))]) (S:=S++[.lst (az (rgK (goF T ch) x j))]) (o:=ae 3) (a:=ae 4) (u:= .int (itF (goF T ch) j x:Nat)) (var_eq rfl) (var_eq rfl) (de _ _) (de _ _) (by rw[dg,zU];unfold big;omega)
   have hs:(S++[Cell.lst (az (rgK (goF T ch) x j))]).set S.length (.lst (az (rgK (goF T ch) x j)++[.int (itF (goF T ch) j x:Nat)]))=S++[.lst (az (rgK (goF T ch) x (j+1)))]:=by
    rw[G4,Dh];simp[az]
   rw[hs]at ea
   have hd':(S++[Cell.lst (az (rgK (goF T ch) x (j+1)))])[d]? = some (.dic D):=(Ex.push _ _).some hd
   refine⟨_,_,n - (j+1),by omega,(be ea).trans (bI (Il C rfl rfl hd' (iW C.inj hx j) (var_eq rfl))),j+1,by exact eS (by assumption),by assumption,rfl,rfl,rfl⟩) fuel (n - 1) [some (tab m T),some (.ref d),some (.int (x:Nat)),some (.ref S.length),some (.int (goF T ch x:Nat))] (S++[.lst (az [x])]) (by unfold fuel;omega) ⟨1,ah _,p1,rfl,rfl,rfl⟩
 refine dH (ρ:= [some (tab m T),some (.ref d),some (.int (x:Nat)),some (.ref S.length),some (.int (itF (goF T ch) n x:Nat))]) rfl ?_
 have hd':(S++[Cell.lst [U.int (x:Nat)]])[d]? = some (.dic D):=(Ex.push _ _).some hd
 exact(be (bI (zO (var_eq rfl)))).trans ((be (bI (Il C rfl rfl hd' hx (var_eq rfl)))).trans ((be e1).trans (dG (kS (var_eq rfl) (de _ _)))))
end
section
variable {m:Nat}{T:Nat->Nat->Nat}{S:Sto}{a b p:Nat}{c:List Nat}
abbrev tOf(m:Nat)(T:Nat->Nat->Nat)(a b:Nat):Nat:=T a (unT m T b)
abbrev lOf(m:Nat)(T:Nat->Nat->Nat)(a b p:Nat):List (List Nat):=fQ m T (tOf m T a b) p
abbrev ek(m:Nat)(T:Nat->Nat->Nat)(a b p:Nat)(c:List Nat):Nat->Nat:=chF a b (lOf m T a b p) c
abbrev rOf(m:Nat)(T:Nat->Nat->Nat)(a b p:Nat)(c:List Nat):Nat->List Nat:=rg m (goF T (ek m T a b p c))
abbrev dOf(m:Nat)(T:Nat->Nat->Nat)(a b p:Nat)(c:List Nat):List (_L.Key×U):=dK a b (lOf m T a b p) c (lOf m T a b p).length
structure Two(m:Nat)(T:Nat->Nat->Nat)(a b p:Nat)(c:List Nat):Prop where
 g:Grp m T
 hm:m<60
 ha:a<m
 hb:b<m
 n0:1<=p
 n:p<60
 h1: ∀k,1<=k->k<p->pw T (tOf m T a b) k≠0
 h0:pw T (tOf m T a b) p=0
 cl:c.length=(lOf m T a b p).length
 c2: ∀x∈c,x<2
theorem Two.cho(w:Two m T a b p c):Cho m T (dOf m T a b p c) (ek m T a b p c):=by
 have ht:tOf m T a b<m:=w.g.cl _ _ w.ha (my w.g w.hb)
 have hv: ∀x,x<m->sK a b (lOf m T a b p) c (lOf m T a b p).length x=some (ek m T a b p c x):=λx hx=>vn w.g ht w.n0 w.h0 hx
 refine⟨λx hx =>?_,λx hx =>?_,go_inj w.g w.ha w.hb w.n0 w.h0⟩
 ·show i7 (dK a b (lOf m T a b p) c (lOf m T a b p).length) _=_
  rw[DJ,hv x hx];rfl
 ·rcases vv _ (hv x hx) with e |e
  ·rw[e];exact w.ha
  ·rw[e];exact w.hb
theorem Two.len(w:Two m T a b p c):(lOf m T a b p).length<60:=aL Cr w.hm
theorem A7(w:Two m T a b p c): ∃d S',fD [tab m T,.tup [.int (a:Nat),.int (b:Nat)],.tup (az c)] S=some (.ref d,S')/\Ex S S'/\S'[d]? = some (.dic (dOf m T a b p c)):=
 K7 (F:=j9) (λS=>by
  obtain⟨r,S',e,x,_,q⟩:=wJ (S:=S) w.g (by have:=w.hm;exact ao (by assumption) (by decide)) w.ha w.hb rfl w.n0 (by have:=w.n;exact ao (by assumption) (by decide)) w.h1 w.h0
  exact⟨r,S',e,x,q⟩) (Fo (by have:=w.n;omega)) (by have:=w.len;exact ao (by assumption) (by decide)) w.cl w.c2
theorem CI{ρ:Rho}{e:ME}{d i j:Nat}{l:List Nat}(w:Two m T a b p c)(he:e ρ S=some (.tup (az l),S))(hl:Lt m l)(hll:l.length<1000)(hd:S[d]? = some (.dic (dOf m T a b p c)))(hi: ∀z,(ρ++[z])[i]? = some (some (.ref d)))(hj: ∀z,(ρ++[z])[j]? = some z):mFn cy (aa (ck (cu e) cTT (m2 oIx (ae i) (ae j))) ak) ρ S=some (.tup (az (l.map (ek m T a b p c))),S++[.lst (az (l.map (ek m T a b p c)))]):=by
 have h:=DF (e:=m2 oIx (ae i) (ae j)) (ρ:=ρ) (S:=S) (a:=e) (l:=l) (f:=λx => .int (ek m T a b p c x:Nat)) he (by exact ao (by assumption) (by decide)) (λx hx=>KL (var_eq (hi _)) (var_eq (hj _)) hd (w.cho.val x (hl x hx)))
 rw[show(l.map λx=>U.int (ek m T a b p c x:Nat))=az (l.map (ek m T a b p c)) by simp[az]]at h
 exact iq h
theorem GH(w:Two m T a b p c): ∃S',je [tab m T,.tup [.int (a:Nat),.int (b:Nat)],.tup (az c)] S=some (if iV m (goF T (ek m T a b p c)) 0=m then .tup (az ((rOf m T a b p c 0).map (ek m T a b p c))) else .non,S')/\Ex S S':=by
 obtain⟨d,S1,e1,x1,g1⟩:=A7 (S:=S) w
 have C:=w.cho
 have hm:=w.hm
 have hp:=w.g.pos
 have e2:=Nz (S:=S1) C (by exact ao (by assumption) (by decide)) g1 hp
 have g2:(S1++[Cell.lst (az (rOf m T a b p c 0))])[d]? = some (.dic (dOf m T a b p c)):=(Ex.push _ _).some g1
 have x2:Ex S (S1++[Cell.lst (az (rOf m T a b p c 0))]):=x1.trans (Ex.push _ _)
 generalize hS2:S1++[Cell.lst (az (rOf m T a b p c 0))]=S2 at e2 g2 x2
 have hl:mFn cN (aa (ae 4) ak) [some (tab m T),some (.tup [.int (a:Nat),.int (b:Nat)]),some (.tup (az c)),some (.ref d),some (.tup (az (rOf m T a b p c 0)))] S2=some (.int (iV m (goF T (ek m T a b p c)) 0:Nat),S2):=by
  have:=Ae (ρ:= [some (tab m T),some (.tup [.int (a:Nat),.int (b:Nat)]),some (.tup (az c)),some (.ref d),some (.tup (az (rOf m T a b p c 0)))]) (S:=S2) (a:=ae 4) (us:=az (rOf m T a b p c 0)) (var_eq rfl)
  rwa[dg,pf]at this
 have ec:=of_eq (N2 (b:=mFn cN (aa (ae 0) ak)) (y:=m) hl (len_tab (var_eq rfl)))
 have et:=CI (ρ:= [some (tab m T),some (.tup [.int (a:Nat),.int (b:Nat)]),some (.tup (az c)),some (.ref d),some (.tup (az (rOf m T a b p c 0)))]) (S:=S2) (e:=ae 4) (i:=3) (j:=5) w (var_eq rfl) (Ip C.inj hp) (by rw[pf];have:=DV C.inj hp;exact aL (by assumption) (ao (by assumption) (by decide))) g2 (λ_=>rfl) (λ_=>rfl)
 by_cases z:iV m (goF T (ek m T a b p c)) 0=m
 ·rw[decide_eq_true z]at ec
  have ei:wm (cOf (m2 oEq (mFn cN (aa (ae 4) ak)) (mFn cN (aa (ae 0) ak)))) (mFn cy (aa (ck (cu (ae 4)) cTT (m2 oIx (ae 3) (ae 5))) ak)) (mC .non) [some (tab m T),some (.tup [.int (a:Nat),.int (b:Nat)]),some (.tup (az c)),some (.ref d),some (.tup (az (rOf m T a b p c 0)))] S2=some (.tup (az ((rOf m T a b p c 0).map (ek m T a b p c))),S2++[.lst (az ((rOf m T a b p c 0).map (ek m T a b p c)))]):=by
   simp only[wm,ec,aF,if_true]
   exact et
  rw[if_pos z]
  exact⟨_,dH (ρ:= [some (tab m T),some (.tup [.int (a:Nat),.int (b:Nat)]),some (.tup (az c)),some (.ref d),some (.tup (az (rOf m T a b p c 0)))]) rfl ((be (bI (ux (f:=fD) (var_eq rfl) (var_eq rfl) (var_eq rfl) e1))).trans ((be (bI (ux (f:=iI) (var_eq rfl) (var_eq rfl) (c_i (z:=((0:Nat):Int))) e2))).trans (dG ei))),x2.trans (Ex.push _ _)⟩
 ·rw[decide_eq_false z]at ec
  have ei:wm (cOf (m2 oEq (mFn cN (aa (ae 4) ak)) (mFn cN (aa (ae 0) ak)))) (mFn cy (aa (ck (cu (ae 4)) cTT (m2 oIx (ae 3) (ae 5))) ak)) (mC .non) [some (tab m T),some (.tup [.int (a:Nat),.int (b:Nat)]),some (.tup (az c)),some (.ref d),some (.tup (az (rOf m T a b p c 0)))] S2=some (.non,S2):=by
   simp only[wm,ec,aF]
   rfl
  rw[if_neg z]
  exact⟨_,dH (ρ:= [some (tab m T),some (.tup [.int (a:Nat),.int (b:Nat)]),some (.tup (az c)),some (.ref d),some (.tup (az (rOf m T a b p c 0)))]) rfl ((be (bI (ux (f:=fD) (var_eq rfl) (var_eq rfl) (var_eq rfl) e1))).trans ((be (bI (ux (f:=iI) (var_eq rfl) (var_eq rfl) (c_i (z:=((0:Nat):Int))) e2))).trans (dG ei))),x2⟩
end
theorem B7{l:List Nat}(nd:l.Nodup){i j:Nat}(hi:i<l.length)(hj:j<l.length)(e:l[i]=l[j]):i=j:=by
 have h:=gK.mp (aS.mp nd)
 rcases Nat.lt_trichotomy i j with q |q |q
 ·exact absurd e (h i j hi hj q)
 ·exact q
 ·exact absurd e.symm (h j i hj hi q)
section
variable {m:Nat}{T:Nat->Nat->Nat}{st:List Nat}
theorem Ic{f:Nat->Nat}(h:Inj m f)(hp:0<m)(hm:iV m f 0=m){i j:Nat}(hij:i<j)(hj:j<m):itF f i 0≠itF f j 0:=λe=>by
 have q:=(jV h hp).2.2.2
 rw[hm]at q
 rw[show j=i+(j - i) by omega,qh]at e
 exact q (j - i) (by omega) (by omega) (qz h hp (iW h hp _) i e).symm
theorem B6(g:Grp m T){ch:Nat->Nat}(h:Inj m (goF T ch))(hv: ∀x,x<m->ch x∈st)(hs: ∀s∈st,s<m)(hm:iV m (goF T ch) 0=m): ∀(k i:Nat) (left:List Nat),i+k+1=m->(∀y,y∈left ↔ ∃j,i<j/\j<m/\y=itF (goF T ch) j 0) ->
  (aO i (k+1)).map (λj=>ch (itF (goF T ch) j 0))∈kC T st (n8 m T st) k (itF (goF T ch) i 0) left
 | 0,i,left,hi,hl=>by
   have hx:=iW h g.pos i
   have e:T (itF (goF T ch) i 0) (ch (itF (goF T ch) i 0))=0:=by
    have:=(jV h g.pos).2.2.1
    rw[hm,show m=i+1 by omega]at this
    exact this
   have hc:=hv _ hx
   have e2:=LJ g hx (hs _ hc) e
   unfold kC n8
   rw[<- e2,if_pos hc]
   simp
 | k+1,i,left,hi,hl=>by
   have hx:=iW h g.pos i
   have hc:=hv _ hx
   have hin:T (itF (goF T ch) i 0) (ch (itF (goF T ch) i 0))∈left:=(hl _).mpr ⟨i+1,bD _,by omega,rfl⟩
   unfold kC
   refine uJ.mpr ⟨ch (itF (goF T ch) i 0),bo.mpr ⟨hc,decide_eq_true hin⟩,?_⟩
   refine aI.mpr ⟨(aO (i+1) (k+1)).map (λj=>ch (itF (goF T ch) j 0)),?_,?_⟩
   ·refine B6 g h hv hs hm k (i+1) _ (by omega) λy =>?_
    rw[bo,hl y]
    constructor
    ·rintro ⟨⟨j,j1,j2,rfl⟩,hne⟩
     refine⟨j,?_,j2,rfl⟩
     rcases fL j1 with q |q
     ·exact q
     ·rw[<- q]at hne
      have hne:(!decide (itF (goF T ch) (i+1) 0=T (itF (goF T ch) i 0) (ch (itF (goF T ch) i 0))))=true:=hne
      rw[show itF (goF T ch) (i+1) 0=T (itF (goF T ch) i 0) (ch (itF (goF T ch) i 0)) from rfl]at hne
      simp at hne
    ·rintro ⟨j,j1,j2,rfl⟩
     refine⟨⟨j,by omega,j2,rfl⟩,?_⟩
     have:=Ic h g.pos hm (i:=i+1) (j:=j) j1 j2
     have:itF (goF T ch) j 0≠T (itF (goF T ch) i 0) (ch (itF (goF T ch) i 0)):=λz=>this z.symm
     simp[this]
   ·rw[lV];rfl
theorem FD(g:Grp m T){ch:Nat->Nat}(h:Inj m (goF T ch))(hv: ∀x,x<m->ch x∈st)(hs: ∀s∈st,s<m)(hm:iV m (goF T ch) 0=m):(rg m (goF T ch) 0).map ch∈pS m T st:=by
 have hp:=g.pos
 have:=B6 g h hv hs hm (m - 1) 0 (aO 1 (m - 1)) (by omega) λy=>by
  rw[iU]
  constructor
  ·intro hy
   have:=(zQ h hp).mp hm y (by omega)
   obtain⟨j,hj,rfl⟩:=aI.mp this
   rw[hm]at hj
   refine⟨j,?_,aN.mp hj,rfl⟩
   cases j with
   | zero=>have h0:itF (goF T ch) 0 0=0:=rfl;omega
   | succ j=>exact Nat.succ_pos _
  ·rintro ⟨j,j1,j2,rfl⟩
   have h1:=iW h hp j
   have h2:=Ic h hp hm j1 j2
   have h0:itF (goF T ch) 0 0=0:=rfl
   omega
 unfold pS
 rw[sk hp,<- oG]at this
 unfold rg rgK
 rw[hm,bX]
 exact this
noncomputable def trl(T:Nat->Nat->Nat):Nat->List Nat->List Nat
 | h,[] =>[h]
 | h,s::w=>h::trl T (T h s) w
theorem zk: ∀(w:List Nat) (h:Nat),(trl T h w).length=w.length+1
 | [],h=>rfl
 | s::w,h=>by simp[trl,zk w]
theorem IG{w:List Nat}{h:Nat}:(trl T h w).getD 0 0=h:=by cases w <;> rfl
theorem wA: ∀(w:List Nat) (h i:Nat),i<w.length->(trl T h w).getD (i+1) 0=T ((trl T h w).getD i 0) (w.getD i 0)
 | [],h,i,hi=>by simp at hi
 | s::w,h,0,hi=>by
   show(trl T (T h s) w).getD 0 0=_
   rw[IG];rfl
 | s::w,h,i+1,hi=>by
   have:=wA w (T h s) i (by simpa using hi)
   exact this
theorem DC(g:Grp m T)(hs: ∀s∈st,s<m): ∀(k h:Nat) (left w:List Nat),h<m->w∈kC T st (n8 m T st) k h left->w.length=k+1/\(∀s∈w,s∈st) /\ ∃l:List Nat,trl T h w=h::l++[0]/\l.Nodup/\(∀x∈l,x∈left)
 | 0,h,left,w,hh,e=>by
   unfold kC n8 at e
   by_cases z:unT m T h∈st
   ·rw[if_pos z]at e
    simp at e
    subst e
    refine⟨rfl,by simpa using z,[],?_,by simp,by simp⟩
    simp[trl,M3 g hh]
   ·rw[if_neg z]at e
    simp at e
 | k+1,h,left,w,hh,e=>by
   unfold kC at e
   obtain⟨s,hsm,e⟩:=uJ.mp e
   obtain⟨v,hv,rfl⟩:=aI.mp e
   obtain⟨s1,s2⟩:=bo.mp hsm
   have s2:=of_decide_eq_true s2
   obtain⟨i1,i2,l,i3,i4,i5⟩:=DC g hs k (T h s) _ v (g.cl _ _ hh (hs s s1)) hv
   refine⟨by simp[i1],?_,T h s::l,?_,?_,?_⟩
   ·intro x hx
    rcases aG.mp hx with hx |hx
    ·rw[hx];exact s1
    ·exact i2 x hx
   ·show h::trl T (T h s) v=_
    rw[i3];rfl
   ·refine dj.mpr ⟨λz =>?_,i4⟩
    have:=(bo.mp (i5 _ z)).2
    simp at this
   ·intro x hx
    rcases aG.mp hx with hx |hx
    ·rw[hx];exact s2
    ·exact(bo.mp (i5 _ hx)).1
structure Rdw(m:Nat)(T:Nat->Nat->Nat)(st w:List Nat)(x:Nat->Nat):Prop where
 len:w.length=m
 st: ∀i,i<m->w.getD i 0∈st
 z:x 0=0
 e:x m=0
 step: ∀i,i<m->x (i+1)=T (x i) (w.getD i 0)
 inj: ∀i j,i<m->j<m->x i=x j->i=j
 sur: ∀y,y<m -> ∃i,i<m/\x i=y
 lt: ∀i,i<m->x i<m
theorem yz(g:Grp m T)(hs: ∀s∈st,s<m){w:List Nat}(hw:w∈pS m T st): ∃x,Rdw m T st w x:=by
 have hp:=g.pos
 obtain⟨h1,h2,l,h3,h4,h5⟩:=DC g hs (m - 1) 0 _ w hp hw
 rw[sk hp]at h1
 have hl:l.length=m - 1:=by
  have:=congrArg kE h3
  rw[zk,h1]at this
  simp at this
  omega
 have n0:0∉l:=λz=>by have:=iU.mp (h5 0 z);omega
 have nd:(0::l).Nodup:=dj.mpr ⟨n0,h4⟩
 have lt: ∀y∈(0::l),y<m:=λy hy=>by
  rcases aG.mp hy with hy |hy
  ·rw[hy];exact hp
  ·have:=iU.mp (h5 y hy);omega
 have al:All m (0::l):=⟨nd,lt,by simp;omega⟩
 have ll:(0::l).length=m:=by simp;omega
 have gx: ∀i (hi:i<m),(trl T 0 w).getD i 0=(0::l)[i]'(by rw[ll];exact hi):=λi hi=>by
  rw[h3,aJ,aP (by rw[ll];exact hi),aD (by rw[ll];exact hi)]
  rfl
 refine⟨λi=>(trl T 0 w).getD i 0,h1,λi hi =>?_,IG,?_,λi hi=>wA w 0 i (by omega),λi j hi hj e =>?_,λy hy =>?_,λi hi =>?_⟩
 ·rw[aJ,aD (by omega)]
  exact h2 _ (bT _)
 ·show(trl T 0 w).getD m 0=0
  rw[h3,aJ,av (by rw[ll];exact ah _),ll]
  simp
 ·have e:(trl T 0 w).getD i 0=(trl T 0 w).getD j 0:=e
  rw[gx i hi,gx j hj]at e
  exact B7 nd _ _ e
 ·obtain⟨i,hi,e⟩:=Fh.mp (al.mem hy)
  have hi':i<m:=by rw[ll]at hi;exact hi
  exact⟨i,hi',(gx i hi').trans e⟩
 ·show(trl T 0 w).getD i 0<m
  rw[gx i hi]
  exact lt _ (bT _)
theorem Rdw.fn{w:List Nat}{x:Nat->Nat}(r:Rdw m T st w x): ∃σ:Nat->Nat,∀i,i<m->σ (x i)=w.getD i 0:=by
 refine⟨λy=>w.getD (((aB m).find? λi=>decide (x i=y)).getD 0) 0,λi hi =>?_⟩
 show w.getD (((aB m).find? λj=>decide (x j=x i)).getD 0) 0=_
 cases q:(aB m).find? λj=>decide (x j=x i) with
 | none=>
   have:=qE.mp q i (aN.mpr hi)
   simp at this
 | some j=>
   have h1:=List.find?_some q
   have h2:=aN.mp (List.mem_of_find?_eq_some q)
   rw[r.inj j i h2 hi (of_decide_eq_true h1)]
   rfl
theorem Rdw.same{w:List Nat}{x:Nat->Nat}(r:Rdw m T st w x)(hp:0<m){ch:Nat->Nat}(hc: ∀i,i<m->ch (x i)=w.getD i 0):Inj m (goF T ch)/\iV m (goF T ch) 0=m/\(rg m (goF T ch) 0).map ch=w:=by
 have st1: ∀i,i<m->goF T ch (x i)=x (i+1):=λi hi=>by unfold goF;rw[hc i hi,<- r.step i hi]
 have lt1: ∀i,i<=m->x i<m:=λi hi=>by
  rcases fL hi with q |q
  ·exact r.lt i q
  ·rw[q,r.e];exact hp
 have I:Inj m (goF T ch):=by
  refine⟨λy hy =>?_,λy z hy hz e =>?_⟩
  ·obtain⟨i,hi,rfl⟩:=r.sur y hy
   rw[st1 i hi];exact lt1 _ hi
  ·obtain⟨i,hi,rfl⟩:=r.sur y hy
   obtain⟨j,hj,rfl⟩:=r.sur z hz
   rw[st1 i hi,st1 j hj]at e
   rcases fL (show i+1<=m from hi) with q1 |q1
   ·rcases fL (show j+1<=m from hj) with q2 |q2
    ·rw[show i=j by have:=r.inj _ _ q1 q2 e;omega]
    ·rw[q2,r.e,<- r.z]at e
     have:=r.inj _ _ q1 hp e
     omega
   ·rcases fL (show j+1<=m from hj) with q2 |q2
    ·rw[q1,r.e,<- r.z]at e
     have:=r.inj _ _ hp q2 e
     omega
    ·rw[show i=j by omega]
 have it: ∀i,i<=m->itF (goF T ch) i 0=x i:=by
  intro i
  induction i with
  | zero=>intro _;exact r.z.symm
  | succ i ih=>
    intro hi
    show goF T ch (itF (goF T ch) i 0)=_
    rw[ih (by omega),st1 i hi]
 obtain⟨p1,p2,p3,p4⟩:=jV I hp
 have hper:iV m (goF T ch) 0=m:=by
  rcases fL p2 with q |q
  ·rw[it _ p2]at p3
   have:=r.inj _ _ q hp (p3.trans r.z.symm)
   omega
  ·exact q
 refine⟨I,hper,?_⟩
 unfold rg rgK
 rw[hper,bX]
 refine lT (by simp[r.len]) λi h1 h2 =>?_
 have hi:i<m:=by simpa using h1
 rw[uK,List.getElem_range]
 show ch (itF (goF T ch) i 0)=_
 rw[it i (aU hi),hc i hi,aJ,aD h2]
 rfl
end
section
variable {m:Nat}{T:Nat->Nat->Nat}{a b n:Nat}
theorem EB(g:Grp m T)(ha:a<m)(hb:b<m){y:Nat}(hy:y<m):T (T y (T a (unT m T b))) b=T y a:=by
 have hu:=my g hb
 rw[g.as y _ _ hy (g.cl _ _ ha hu) hb,g.as a _ _ ha hu hb,OL g hb,g.r0 a ha]
theorem B5(g:Grp m T)(ha:a<m)(hb:b<m)(hab:a≠b){σ:Nat->Nat}(I:Inj m (goF T σ))(hv: ∀x,x<m->σ x=a\/σ x=b){y:Nat}(hy:y<m)(e:σ y=a): ∀i,σ (T y (pw T (tOf m T a b) i))=a:=by
 have ht:tOf m T a b<m:=g.cl _ _ ha (my g hb)
 have one: ∀z,z<m->σ z=a->σ (T z (tOf m T a b))=a:=λz hz e=>by
  have hz2:=g.cl _ _ hz ht
  rcases hv _ hz2 with q |q
  ·exact q
  ·have e2:goF T σ (T z (tOf m T a b))=goF T σ z:=by
    unfold goF
    rw[q,e]
    exact EB g ha hb hz
   have e3:=I.inj _ _ hz2 hz e2
   rw[e3]at q
   exact absurd (e.symm.trans q) hab
 intro i
 induction i with
 | zero=>show σ (T y 0)=a;rw[g.r0 y hy];exact e
 | succ i ih=>
   rw[<- B4 g ht hy i]
   exact one _ (g.cl _ _ hy (iG g ht i)) ih
theorem G8(g:Grp m T)(ha:a<m)(hb:b<m)(hab:a≠b)(hn:0<n)(h0:pw T (tOf m T a b) n=0){σ:Nat->Nat}(I:Inj m (goF T σ))(hv: ∀x,x<m->σ x=a\/σ x=b){y z:Nat}(hy:y<m)(hz:z∈orb T (tOf m T a b) n y):σ y=σ z:=by
 have ht:tOf m T a b<m:=g.cl _ _ ha (my g hb)
 have hzm:=Ct g ht hy hz
 have hs:=iE g ht hn h0 hy hz
 obtain⟨i,_,hi⟩:=gq.mp hz
 obtain⟨j,_,hj⟩:=gq.mp hs
 rcases hv y hy with q1 |q1
 ·have:=B5 g ha hb hab I hv hy q1 i
  rw[q1,hi,this]
 ·rcases hv z hzm with q2 |q2
  ·have:=B5 g ha hb hab I hv hzm q2 j
   rw[<- hj,q1]at this
   exact absurd this.symm hab
  ·rw[q1,q2]
theorem zI{x y:Nat}{L:List (List Nat)}{c:List Nat}: ∀k,sK a b L c k x=some y -> ∃i,i<k/\x∈L.getD i []/\y=stp a b (c.getD i 0)
 | 0,h=>by cases h
 | k+1,h=>by
   rw[sK]at h
   by_cases z:x∈L.getD k []
   ·rw[if_pos z]at h
    injection h with h
    exact⟨k,bD _,z,h.symm⟩
   ·rw[if_neg z]at h
    obtain⟨i,h1,h2,h3⟩:=zI k h
    exact⟨i,by omega,h2,h3⟩
abbrev mnL(m:Nat)(T:Nat->Nat->Nat)(t n:Nat):List Nat:=(aB m).filter (jP T t n)
theorem Dw{t:Nat}:(mnL m T t n).Nodup:=List.nodup_range.filter _
theorem o3{t:Nat}:(fQ m T t n).length=(mnL m T t n).length:=by unfold fQ;rw[aq]
theorem vp{t i:Nat}(hi:i<(fQ m T t n).length):(fQ m T t n).getD i []=srt (orb T t n ((mnL m T t n)[i]'(by rw[<- o3];exact hi))):=by
 rw[aJ,aD hi]
 exact uK (λx=>srt (orb T t n x))
theorem vO{t i:Nat}(hi:i<(mnL m T t n).length):(mnL m T t n)[i]<m/\jP T t n (mnL m T t n)[i]=true:=by
 obtain⟨h1,h2⟩:=bo.mp (bT hi)
 exact⟨aN.mp h1,h2⟩
theorem Hi{t:Nat}(g:Grp m T)(ht:t<m)(hn:0<n)(h0:pw T t n=0){i j x:Nat}(hi:i<(fQ m T t n).length)(hj:j<(fQ m T t n).length)(h1:x∈(fQ m T t n).getD i [])(h2:x∈(fQ m T t n).getD j []):i=j:=by
 have hi':=hi
 have hj':=hj
 rw[o3]at hi' hj'
 rw[vp hi,i8]at h1
 rw[vp hj,i8]at h2
 obtain⟨a1,a2⟩:=vO hi'
 obtain⟨b1,b2⟩:=vO hj'
 have hxm:=Ct g ht a1 h1
 have c1:=jS g ht h0 a1 h1 (iE g ht hn h0 b1 h2)
 have c2:=iE g ht hn h0 a1 c1
 have d1:=jd.mp a2 _ c1
 have d2:=jd.mp b2 _ c2
 exact B7 Dw _ _ (Nat.le_antisymm d1 d2)
theorem EL{c:List Nat}(g:Grp m T){t:Nat}(ht:t<m)(hn:0<n)(h0:pw T t n=0){i x:Nat}(hx:x<m)(hi:i<(fQ m T t n).length)(h1:x∈(fQ m T t n).getD i []):chF a b (fQ m T t n) c x=stp a b (c.getD i 0):=by
 obtain⟨j,hj,h2,h3⟩:=zI _ (vn (a:=a) (b:=b) (c:=c) g ht hn h0 hx)
 rw[h3,Hi g ht hn h0 hi hj h1 h2]
theorem yK(g:Grp m T)(ha:a<m)(hb:b<m)(hab:a≠b)(hn:0<n)(h0:pw T (tOf m T a b) n=0){w:List Nat}(hw:w∈pS m T [a,b]):
  ∃c:List Nat,c.length=(lOf m T a b n).length/\(∀x∈c,x<2)/\iV m (goF T (ek m T a b n c)) 0=m/\(rOf m T a b n c 0).map (ek m T a b n c)=w:=by
 have ht:tOf m T a b<m:=g.cl _ _ ha (my g hb)
 have hs: ∀s∈[a,b],s<m:=λs hs=>by
  simp at hs
  rcases hs with rfl |rfl <;> assumption
 obtain⟨x,r⟩:=yz g hs hw
 obtain⟨σ,hσ⟩:=r.fn
 obtain⟨I,_,_⟩:=r.same g.pos hσ
 have hv: ∀y,y<m->σ y=a\/σ y=b:=λy hy=>by
  obtain⟨i,hi,rfl⟩:=r.sur y hy
  rw[hσ i hi]
  simpa using r.st i hi
 refine⟨(mnL m T (tOf m T a b) n).map λy=>if σ y=a then 0 else 1,by rw[aq,<- o3],λy hy =>?_,?_⟩
 ·obtain⟨z,_,rfl⟩:=aI.mp hy
  split <;> decide
 have key: ∀y,y<m->ek m T a b n ((mnL m T (tOf m T a b) n).map λy=>if σ y=a then 0 else 1) y=σ y:=λy hy=>by
  obtain⟨i,hi,h1⟩:=zS g ht hn h0 hy
  show chF a b (fQ m T (tOf m T a b) n) _ y=_
  rw[EL g ht hn h0 hy hi h1]
  have hi':=hi
  rw[o3]at hi'
  rw[vp hi,i8]at h1
  obtain⟨a1,_⟩:=vO hi'
  rw[<- G8 g ha hb hab hn h0 I hv a1 h1,aJ,aD (by rw[aq];exact hi'),sD,uK]
  generalize (mnL m T (tOf m T a b) n)[i]=z at a1
  rcases hv z a1 with q |q
  ·rw[q,if_pos rfl];rfl
  ·rw[q,if_neg (cZ hab)];rfl
 obtain⟨_,h2,h3⟩:=r.same g.pos (ch:=ek m T a b n ((mnL m T (tOf m T a b) n).map λy=>if σ y=a then 0 else 1)) λi hi=>by rw[key _ (r.lt i hi),hσ i hi]
 exact⟨h2,h3⟩
theorem yF(g:Grp m T)(ha:a<m)(hb:b<m)(hab:a≠b)(hn:0<n)(h0:pw T (tOf m T a b) n=0){c d:List Nat}(hc:c.length=(lOf m T a b n).length)(hd:d.length=(lOf m T a b n).length)(c2: ∀x∈c,x<2)(d2: ∀x∈d,x<2)
  (pc:iV m (goF T (ek m T a b n c)) 0=m) (pd:iV m (goF T (ek m T a b n d)) 0=m) (e:(rOf m T a b n c 0).map (ek m T a b n c)=(rOf m T a b n d 0).map (ek m T a b n d)):c=d:=by
 have ht:tOf m T a b<m:=g.cl _ _ ha (my g hb)
 have I:=go_inj (c:=c) g ha hb hn h0
 have hp:=g.pos
 unfold rOf rg rgK at e
 rw[pc,pd,bX,bX]at e
 have e1: ∀i,i<m->ek m T a b n c (itF (goF T (ek m T a b n c)) i 0)=ek m T a b n d (itF (goF T (ek m T a b n d)) i 0):=λi hi=>by
  have:=congrArg (λl=>l[i]?) e
  simpa [hi]using this
 have e2: ∀i,i<=m->itF (goF T (ek m T a b n c)) i 0=itF (goF T (ek m T a b n d)) i 0:=by
  intro i
  induction i with
  | zero=>intro _;rfl
  | succ i ih=>
    intro hi
    show T (itF (goF T (ek m T a b n c)) i 0) (ek m T a b n c (itF (goF T (ek m T a b n c)) i 0))=T (itF (goF T (ek m T a b n d)) i 0) (ek m T a b n d (itF (goF T (ek m T a b n d)) i 0))
    rw[e1 i hi,ih (by omega)]
 have e3: ∀y,y<m->ek m T a b n c y=ek m T a b n d y:=λy hy=>by
  obtain⟨i,hi,rfl⟩:=aI.mp ((zQ I hp).mp pc y hy)
  rw[pc]at hi
  have hi:=aN.mp hi
  show ek m T a b n c (itF (goF T (ek m T a b n c)) i 0)=ek m T a b n d (itF (goF T (ek m T a b n c)) i 0)
  rw[e1 i hi,e2 i (aU hi)]
 refine lT (hc.trans hd.symm) λi h1 h2 =>?_
 have hi:i<(lOf m T a b n).length:=by rw[<- hc];exact h1
 have hi':=hi
 rw[o3]at hi'
 obtain⟨a1,_⟩:=vO hi'
 have hz:(mnL m T (tOf m T a b) n)[i]∈(lOf m T a b n).getD i []:=by
  rw[vp hi,i8];exact CB g hn a1
 have e4:=e3 _ a1
 unfold ek lOf at e4
 rw[EL g ht hn h0 a1 hi hz,EL g ht hn h0 a1 hi hz]at e4
 have g1:c.getD i 0=c[i]:=by rw[aJ,aD h1];rfl
 have g2:d.getD i 0=d[i]:=by rw[aJ,aD h2];rfl
 rw[g1,g2]at e4
 have l1:=c2 _ (bT h1)
 have l2:=d2 _ (bT h2)
 generalize c[i]=u at e4 l1
 generalize d[i]=v at e4 l2
 unfold stp at e4
 by_cases z1:u=0
 ·by_cases z2:v=0
  ·rw[z1,z2]
  ·rw[if_pos z1,if_neg z2]at e4;exact absurd e4 hab
 ·by_cases z2:v=0
  ·rw[if_neg z1,if_pos z2]at e4;exact absurd e4.symm hab
  ·omega
theorem Be(g:Grp m T)(ha:a<m)(hb:b<m)(hab:a≠b)(hn:0<n)(h0:pw T (tOf m T a b) n=0):2*(lOf m T a b n).length<=m:=by
 have ht:tOf m T a b<m:=g.cl _ _ ha (my g hb)
 have t0:tOf m T a b≠0:=λz=>by
  have:=EB g ha hb g.pos
  rw[g.l0 a ha,show T a (unT m T b)=0 from z,g.l0 0 g.pos,g.l0 b hb]at this
  exact hab this.symm
 have hm: ∀x∈mnL m T (tOf m T a b) n,x<m/\jP T (tOf m T a b) n x=true:=λx hx=>by
  obtain⟨h1,h2⟩:=bo.mp hx
  exact⟨aN.mp h1,h2⟩
 have hin: ∀x,x<m->T x (tOf m T a b)∈orb T (tOf m T a b) n x:=λx hx=>by
  by_cases h1:n=1
  ·subst h1
   have:T 0 (tOf m T a b)=0:=h0
   rw[g.l0 _ ht]at this
   exact absurd this t0
  ·refine gq.mpr ⟨1,by omega,?_⟩
   show T x _=T x (T 0 _)
   rw[g.l0 _ ht]
 have nd:(mnL m T (tOf m T a b) n++(mnL m T (tOf m T a b) n).map λx=>T x (tOf m T a b)).Nodup:=by
  rw[iS]
  refine⟨Dw,?_,λx hx y hy e =>?_⟩
  ·rw[aS,cx]
   refine dM (R:=λa b=>a≠b) ?_ (aS.mp Dw)
   intro x y hx hy hne e
   exact hne (g.cancelR ht (hm x hx).1 (hm y hy).1 e)
  ·subst e
   obtain⟨y,hy',rfl⟩:=aI.mp hy
   have h1:=hin y (hm y hy').1
   have h2:=jd.mp (hm y hy').2 _ h1
   have h3:=jd.mp (hm _ hx).2 _ (iE g ht hn h0 (hm y hy').1 h1)
   have h4:T y (tOf m T a b)=T y 0:=by rw[g.r0 y (hm y hy').1];omega
   exact t0 (g.cancel (hm y hy').1 ht g.pos h4)
 have:=pj m _ nd λx hx=>by
  rcases bu.mp hx with hx |hx
  ·exact(hm x hx).1
  ·obtain⟨y,hy,rfl⟩:=aI.mp hx
   exact g.cl _ _ (hm y hy).1 ht
 rw[aV,aq]at this
 show 2*(fQ m T (tOf m T a b) n).length<=m
 rw[o3]
 omega
end
noncomputable def fo:Nat->List (List Nat)
 | 0 =>[[]]
 | k+1=>(fo k).flatMap λw =>[w++[0],w++[1]]
theorem lh: ∀k,(fo k).length=2 ^ k
 | 0=>rfl
 | k+1=>by
   have: ∀l:List (List Nat),(l.flatMap λw =>[w++[0],w++[1]]).length=l.length*2:=by
    intro l
    induction l with
    | nil=>rfl
    | cons x l ih=>rw[sN,aV,ih];simp;omega
   rw[fo,this,lh k,Nat.pow_succ]
theorem iP: ∀k (w:List Nat),w∈fo k↔w.length=k /\ ∀x∈w,x<2
 | 0,w=>by
   simp only[fo,cJ]
   constructor
   ·rintro rfl;exact⟨rfl,by simp⟩
   ·rintro ⟨h,_⟩;exact lU.mp h
 | k+1,w=>by
   rw[fo,uJ]
   constructor
   ·rintro ⟨v,hv,hw⟩
    obtain⟨h1,h2⟩:=(iP k v).mp hv
    simp at hw
    rcases hw with rfl |rfl
    ·refine⟨by simp[h1],λx hx =>?_⟩
     rcases bu.mp hx with hx |hx
     ·exact h2 x hx
     ·rw[cJ.mp hx];decide
    ·refine⟨by simp[h1],λx hx =>?_⟩
     rcases bu.mp hx with hx |hx
     ·exact h2 x hx
     ·rw[cJ.mp hx];decide
   ·rintro ⟨h1,h2⟩
    have hne:w≠[]:=λz=>by rw[z]at h1;cases h1
    obtain⟨v,s,rfl⟩:=oi hne
    refine⟨v,(iP k v).mpr ⟨by simpa using h1,λx hx=>h2 x (bA _ hx)⟩,?_⟩
    have:=h2 s (by simp)
    rcases eY.mp this with q |q
    ·rw[show s=0 by omega];simp
    ·rw[q];simp
theorem zq: ∀k,(fo k).Nodup
 | 0=>by simp[fo]
 | k+1=>by
   rw[fo,aS,E5]
   refine⟨λw _=>by simp,List.Pairwise.imp (R:=λa b=>a≠b) ?_ (aS.mp (zq k))⟩
   intro u v hne x hx y hy e
   simp only[aG,dC,_root_.or_false]at hx hy
   rcases hx with rfl |rfl <;> rcases hy with rfl |rfl <;> exact hne (List.append_inj_left' e rfl)
section
variable {m:Nat}{T:Nat->Nat->Nat}{st:List Nat}
theorem wY{last:Nat->Option (List Nat)}(hst:st.Pairwise (· < ·)): ∀(k h:Nat) (left:List Nat),((kC T st last k h left).map eB).Pairwise λa b=>HT.lexLt a b=true
 | 0,h,left=>by
   unfold kC
   cases last h <;> simp
 | k+1,h,left=>by
   unfold kC
   rw[cx,E5]
   refine⟨λs _ =>?_,(hst.filter _).imp λ{s t} hlt =>?_⟩
   ·have:=wY (last:=last) hst k (T h s) (left.filter λy => !decide (y=T h s))
    rw[cx]at this ⊢
    refine this.imp λ{u v} huv =>?_
    show HT.lexLt ((s:Int)::eB u) ((s:Int)::eB v)=true
    rw[HT.lexLt_cons,if_pos rfl];exact huv
   ·intro x hx y hy
    obtain⟨u,_,rfl⟩:=aI.mp hx
    obtain⟨v,_,rfl⟩:=aI.mp hy
    show HT.lexLt ((s:Int)::eB u) ((t:Int)::eB v)=true
    rw[HT.lexLt_cons,if_neg (by omega)];exact decide_eq_true (by omega)
end
theorem o5{u v:List Nat}(h:eB u=eB v):u=v:=by
 unfold eB at h
 exact List.map_inj_right (λa b e=>by omega) |>.mp h
section
variable {m:Nat}{T:Nat->Nat->Nat}{a b n:Nat}
abbrev wOf(m:Nat)(T:Nat->Nat->Nat)(a b n:Nat)(c:List Nat):List Nat:=(rOf m T a b n c 0).map (ek m T a b n c)
noncomputable def gdC(m:Nat)(T:Nat->Nat->Nat)(a b n:Nat)(c:List Nat):Bool:=decide (iV m (goF T (ek m T a b n c)) 0=m)
noncomputable def walks(m:Nat)(T:Nat->Nat->Nat)(a b n:Nat):List (List Nat):=((fo (lOf m T a b n).length).filter (gdC m T a b n)).map (wOf m T a b n)
theorem rS(g:Grp m T)(ha:a<m)(hb:b<m)(hab:a≠b)(hn:0<n)(h0:pw T (tOf m T a b) n=0):(walks m T a b n).Nodup:=by
 unfold walks
 rw[aS,cx]
 refine dM (R:=λa b=>a≠b) ?_ (aS.mp ((zq _).filter _))
 intro c d hc hd hne e
 obtain⟨c1,c2⟩:=bo.mp hc
 obtain⟨d1,d2⟩:=bo.mp hd
 obtain⟨c3,c4⟩:=(iP _ _).mp c1
 obtain⟨d3,d4⟩:=(iP _ _).mp d1
 exact hne (yF g ha hb hab hn h0 c3 d3 c4 d4 (of_decide_eq_true c2) (of_decide_eq_true d2) e)
theorem Ba(g:Grp m T)(ha:a<m)(hb:b<m)(hab:a≠b)(hn:0<n)(h0:pw T (tOf m T a b) n=0)(w:List Nat):w∈walks m T a b n↔w∈pS m T [a,b]:=by
 have ht:tOf m T a b<m:=g.cl _ _ ha (my g hb)
 have hs: ∀s∈[a,b],s<m:=λs hs=>by
  simp at hs
  rcases hs with rfl |rfl <;> assumption
 constructor
 ·intro h
  obtain⟨c,hc,rfl⟩:=aI.mp h
  obtain⟨c1,c2⟩:=bo.mp hc
  refine FD g (go_inj g ha hb hn h0) (λx hx =>?_) hs (of_decide_eq_true c2)
  have:=vv _ (vn (a:=a) (b:=b) (c:=c) g ht hn h0 hx)
  simpa using this
 ·intro h
  obtain⟨c,h1,h2,h3,h4⟩:=yK g ha hb hab hn h0 h
  exact aI.mpr ⟨c,bo.mpr ⟨(iP _ _).mpr ⟨h1,h2⟩,decide_eq_true h3⟩,h4⟩
theorem tW(g:Grp m T)(ha:a<m)(hb:b<m)(hab:a≠b)(hn:0<n)(h0:pw T (tOf m T a b) n=0)(hm:m<=10):(lOf m T a b n).length<=5/\(walks m T a b n).length<64:=by
 have h1:=Be g ha hb hab hn h0
 have h5:(lOf m T a b n).length<=5:=by omega
 refine⟨h5,?_⟩
 unfold walks
 rw[aq]
 have h2:=dz (gdC m T a b n) (fo (lOf m T a b n).length)
 rw[lh]at h2
 have h3:2 ^ (lOf m T a b n).length<=2 ^ 5:=pE (by decide) h5
 omega
theorem Cq{w:List Nat}(hp:0<m)(h:w∈walks m T a b n):w≠[]:=λz=>by
 obtain⟨c,hc,e⟩:=aI.mp h
 have h2:=of_decide_eq_true (bo.mp hc).2
 have:=congrArg kE e
 rw[z]at this
 unfold wOf rOf at this
 rw[aq,pf,h2]at this
 simp at this
 omega
theorem q9(g:Grp m T)(ha:a<m)(hb:b<m)(hab:a<b)(hn:0<n)(h0:pw T (tOf m T a b) n=0):nE ((walks m T a b n).map eB)=(pS m T [a,b]).map eB:=by
 have hne:a≠b:=by omega
 have rise:=wY (T:=T) (st:= [a,b]) (last:=n8 m T [a,b]) (by simpa using hab) (m - 1) 0 (aO 1 (m - 1))
 have nd1:((walks m T a b n).map eB).Nodup:=by
  rw[aS,cx]
  exact(aS.mp (rS g ha hb hne hn h0)).imp λhab e=>hab (o5 e)
 refine(xT nd1 ?_ rise).symm
 refine List.Perm.map _ ?_
 refine(yg ?_ (rS g ha hb hne hn h0)).mpr λw=>(Ba g ha hb hne hn h0 w).symm
 rw[cx]at rise
 exact aS.mpr (rise.imp λ{u v} h e=>by rw[e,oo]at h;cases h)
end
noncomputable def awB:MS:=br (bJ 3 (dn ak)) (br (eX 4 (cu (ae 2)) (dN (mML eJ (ae 3) (aa (ck (cu (ae 0)) cTT (m2 cP (ae 4) (cX (aa (ae 5) ak)))) ak)))) (bJ 2 (ae 3)))
noncomputable def awC:MT:=cOf (m2 oLt (mFn cN (aa (m2 oIx (ae 2) (mC (.int 0))) ak)) (ae 1))
theorem Mm{S:Sto}{N:Nat}(hN:N<=5): ∃r S',fG [.tup [.int 0,.int 1],.int (N:Nat)] S=some (.ref r,S')/\Ex S S'/\S'[r]? = some (.lst (tups (fo N))):=by
 have pw5: ∀k,k<=5->(fo k).length<=32:=λk hk=>by
  rw[lh]
  exact pE (n:=2) (j:=5) (by decide) hk
 obtain⟨ρ1,S1,e1,r,u3,u4,rfl,x1,g1⟩:=nZ (c:=awC) (b:=awB)
  (λμ ρ S' =>∃k r u3 u4,k<=N/\μ=N - k/\ρ = [some (.tup (az [0,1])),some (.int (N:Nat)),some (.ref r),u3,u4]/\Ex S S'/\S'[r]? = some (.lst (tups (fo k))))
  (λρ S' =>∃r u3 u4,ρ = [some (.tup (az [0,1])),some (.int (N:Nat)),some (.ref r),u3,u4]/\Ex S S'/\S'[r]? = some (.lst (tups (fo N)))) (by
  rintro μ ρ S' ⟨k,r,u3,u4,hk,rfl,rfl,x,gr⟩
  obtain⟨w0,l0,hw0⟩ : ∃w0 l0,fo k=w0::l0:=by
   cases q:fo k with
   | nil=>
     have:=lh k
     rw[q]at this
     have:=Nat.two_pow_pos k
     simp at *
     omega
   | cons w0 l0=>exact⟨w0,l0,rfl⟩
  have hwl:w0.length=k:=((iP k w0).mp (by rw[hw0];simp)).1
  have e5:m2 oIx (ae 2) (mC (.int 0)) [some (.tup (az [0,1])),some (.int (N:Nat)),some (.ref r),u3,u4] S'=some (.tup (az w0),S'):=Bu (var_eq rfl) c_i gr (qc (k:=0) (by rw[hw0];rfl))
  have ec:=of_eq (Gy (Ae e5) (b:=ae 1) (y:=(N:Nat)) (var_eq rfl))
  rw[dg,hwl]at ec
  refine⟨_,_,ec,λhf =>?_,λht =>?_⟩
  ·have:k=N:=by
    have:=of_decide_eq_false hf
    omega
   subst this
   exact⟨r,u3,u4,rfl,x,gr⟩
  ·have hkN:k<N:=by
    have:=of_decide_eq_true ht
    omega
   have hrl:r<S'.length:=(ai.mp gr).1
   have h32:=pw5 k (by omega)
   obtain⟨ρ3,S3,e3,⟨z,rfl⟩,x3,r3,q3⟩:=Cm (i:=4) (n:=r) (e:=ae 2) (us:=tups (fo k)) (b:=dN (mML eJ (ae 3) (aa (ck (cu (ae 0)) cTT (m2 cP (ae 4) (cX (aa (ae 5) ak)))) ak))) (ρ:= [some (.tup (az [0,1])),some (.int (N:Nat)),some (.ref r),some (.ref S'.length),u4]) (S:=S'++[.lst []]) (var_eq rfl) (by unfold tups;rw[aq];omega)
    (λi ρ S3=>(∃z,ρ = [some (.tup (az [0,1])),some (.int (N:Nat)),some (.ref r),some (.ref S'.length),z])/\Ex S S3/\S3[r]? = some (.lst (tups (fo k)))/\S3[S'.length]? = some (.lst (tups (((fo k).take i).flatMap λw =>[w++[0],w++[1]]))))
    ⟨⟨_,rfl⟩,x.trans (Ex.push _ _),(Ex.push _ _).some gr,de _ _⟩ (λi ρ S3 hp=>by unfold getL;rw[hp.2.2.1]) (by
     rintro i u ρ S3 hu ⟨⟨z,rfl⟩,x3,r3,q3⟩
     obtain⟨w,hw,rfl⟩ : ∃w,(fo k)[i]? = some w/\U.tup (az w)=u:=by
      unfold tups at hu
      rw[bG]at hu
      exact Ao.mp hu
     have wl:w.length=k:=((iP k w).mp (bZ hw)).1
     have ei:=oJ (t:=cTT) (e:=m2 cP (ae 4) (cX (aa (ae 5) ak))) (ρ:= [some (.tup (az [0,1])),some (.int (N:Nat)),some (.ref r),some (.ref S'.length),some (.tup (az w))]) (S:=S3) (a:=ae 0) (l:= [0,1]) (p:=λ_=>true) (f:=λs => .tup (az (w++[s]))) (var_eq rfl) (by decide) (λ_ _=>rfl) (λs _ _=>xG (x:=w) (y:= [s]) (var_eq rfl) (yW (var_eq rfl)) (by simp;omega))
     have hfl:=rM (f:=λw:List Nat =>[w++[0],w++[1]]) (B:=2) ((fo k).take i) λ_ _=>ah _
     have htl:((fo k).take i).length<=32:=by rw[gH];omega
     have ee:=tV (ρ:= [some (.tup (az [0,1])),some (.int (N:Nat)),some (.ref r),some (.ref S'.length),some (.tup (az w))]) (S:=S3) (o:=ae 3) (r:=S'.length) (var_eq rfl) ei q3 ((Ex.push _ _).some q3) (de _ _) (by
      unfold tups
      rw[aq]
      have:((([0,1]:List Nat).filter λ_=>true).map λs=>U.tup (az (w++[s]))).length=2:=rfl
      rw[this]
      unfold big;omega)
     have hq:S'.length<(S3++[Cell.lst ((([0,1]:List Nat).filter λ_=>true).map λs=>U.tup (az (w++[s])))]).length:=by
      have:=(ai.mp q3).1
      simp;omega
     refine⟨_,_,ee,⟨_,rfl⟩,(x3.trans (Ex.push _ _)).set x.len,?_,?_⟩
     ·rw[aK (by omega)];exact(Ex.push _ _).some r3
     ·rw[aY hq,kH,hw]
      simp[tups])
   rw[show(tups (fo k)).length=(fo k).length by simp[tups],fA (ah _)]at q3
   exact⟨_,_,N - (k+1),by omega,(be (bI kc)).trans ((be e3).trans (bI (var_eq rfl))),k+1,S'.length,_,_,hkN,rfl,rfl,x3,q3⟩) fuel N [some (.tup (az [0,1])),some (.int (N:Nat)),some (.ref S.length),none,none] (S++[.lst (tups (fo 0))]) (by unfold fuel;omega) ⟨0,S.length,none,none,cn _,rfl,rfl,Ex.push _ _,de _ _⟩
 refine⟨r,S1,dH (ρ:= [some (.tup (az [0,1])),some (.int (N:Nat)),some (.ref r),u3,u4]) rfl ?_,x1,g1⟩
 show kT [some (.tup (az [0,1])),some (.int (N:Nat)),none,none,none] S=_
 refine(be (bI (zO (x:= .tup []) rfl))).trans ((be ?_).trans (dG (var_eq rfl)))
 exact e1
noncomputable def dU:U->List Nat
 | .tup us=>us.map λu=>match u with
   | .int i=>i.toNat
   | _=>0
 | _ =>[]
theorem Ek{c:List Nat}:dU (.tup (az c))=c:=by
 show(az c).map _=c
 unfold az
 rw[bX]
 exact B0 c
noncomputable def nnU:U->Bool
 | .non=>false
 | _=>true
section
variable {m:Nat}{T:Nat->Nat->Nat}{a b p:Nat}{S:Sto}
noncomputable def vC(m:Nat)(T:Nat->Nat->Nat)(a b p:Nat)(c:List Nat):U:=if iV m (goF T (ek m T a b p c)) 0=m then .tup (az (wOf m T a b p c)) else .non
theorem L6{c:List Nat}:nnU (vC m T a b p c)=gdC m T a b p c:=by
 unfold vC gdC
 by_cases z:iV m (goF T (ek m T a b p c)) 0=m
 ·rw[if_pos z,decide_eq_true z];rfl
 ·rw[if_neg z,decide_eq_false z];rfl
theorem Oh{c:List Nat}{ρ:Rho}{e:ME}{S:Sto}(h:e ρ S=some (vC m T a b p c,S)):cOf (m2 mZ e (mC .non)) ρ S=some (nnU (vC m T a b p c),S):=by
 unfold vC at h ⊢
 by_cases z:iV m (goF T (ek m T a b p c)) 0=m
 ·rw[if_pos z]at h ⊢
  exact of_eq (op2 h rfl rfl)
 ·rw[if_neg z]at h ⊢
  exact of_eq (op2 h rfl rfl)
theorem IX:(((fo (lOf m T a b p).length).map (vC m T a b p)).filter nnU).map (λu=>u)=tups (walks m T a b p):=by
 rw[B0,List.filter_map]
 unfold tups walks
 rw[bX]
 have e:(nnU∘vC m T a b p)=gdC m T a b p:=funext λc=>L6
 rw[e]
 apply bH
 intro c hc
 have:=of_decide_eq_true (bo.mp hc).2
 show vC m T a b p c=_
 unfold vC
 rw[if_pos this]
 rfl
theorem qS: ∀(ls:List (List Nat)),dq mG (tups ls)=some (ls.map eB)
 | []=>rfl
 | l::ls=>by
   show(mG (.tup (az l))).bind _=_
   rw[show mG (.tup (az l))=dq vj (az l) from rfl,uo]
   show(dq mG (tups ls)).map _=_
   rw[qS ls];rfl
theorem Bv{ls:List (List Nat)}:(ls.map eB).map _G.tupI=tups ls:=by
 unfold tups
 rw[bX]
 apply bH
 intro l _
 show U.tup ((eB l).map U.int)=_
 unfold eB az
 rw[bX];rfl
theorem Gb(g:Grp m T)(ha:a<m)(hb:b<m)(hab:a<b)(hn:0<p)(h0:pw T (tOf m T a b) p=0)(hm:m<=10):(pS m T [a,b]).length<64:=by
 have h1:=congrArg kE (q9 g ha hb hab hn h0)
 rw[(m9 _).length_eq,aq,aq]at h1
 rw[<- h1]
 exact(tW g ha hb (by omega) hn h0 hm).2
theorem J6(g:Grp m T)(hm:m<=10)(ha:a<m)(hb:b<m)(hab:a<b)(p1:1<=p)(p2:p<=m)(h1: ∀k,1<=k->k<p->pw T (tOf m T a b) k≠0)(h0:pw T (tOf m T a b) p=0):
  ∃r S',d0 [tab m T,.tup [.int (a:Nat),.int (b:Nat)]] S=some (.ref r,S')/\Ex S S'/\S.length<=r/\S'[r]? = some (.lst (tups (pS m T [a,b]))):=by
 have hne:a≠b:=by omega
 obtain⟨r1,S1,e1,x1,l1,q1⟩:=wJ (S:=S) g (by omega) ha hb rfl p1 (by omega) h1 h0
 obtain⟨n5,n64⟩:=tW g ha hb hne p1 h0 hm
 have srt1:=q9 g ha hb hab p1 h0
 have two: ∀c:List Nat,c.length=(lOf m T a b p).length->(∀x∈c,x<2)->Two m T a b p c:=λc h3 h4=>⟨g,by omega,ha,hb,p1,by omega,h1,h0,h3,h4⟩
 have e2:mFn cN (aa (mFn j9 (aa (ae 0) (aa (ae 1) ak))) ak) [some (tab m T),some (.tup [.int (a:Nat),.int (b:Nat)]),none,none] S=some (.int ((lOf m T a b p).length:Nat),S1):=by
  refine i6 (d7 (f:=j9) (a:=ae 0) (b:=ae 1) (var_eq rfl) (var_eq rfl) e1) ?_
  simp only[cN,N3 q1,eP,getL,q1,aT]
  rw[show(gF (fQ m T (T a (unT m T b)) p)).length=(lOf m T a b p).length by simp[gF,tups]]
 have c2:cOf (m2 oGt (ae 2) (mC (.int 10))) [some (tab m T),some (.tup [.int (a:Nat),.int (b:Nat)]),some (.int ((lOf m T a b p).length:Nat)),none] S1=some (false,S1):=by
  rw[of_eq (Dg (x:=((lOf m T a b p).length:Nat)) (var_eq rfl) c_i),decide_eq_false (by omega)]
 obtain⟨r3,S3,e3,x3,q3⟩:=Mm (S:=S1) n5
 have hl32:(fo (lOf m T a b p).length).length<=32:=by
  rw[lh]
  exact pE (n:=2) (j:=5) (by decide) n5
 obtain⟨S4,e4,x4⟩:=rW (e:=mFn je (aa (ae 0) (aa (ae 1) (aa (ae 4) ak)))) (ρ:= [some (tab m T),some (.tup [.int (a:Nat),.int (b:Nat)]),some (.int ((lOf m T a b p).length:Nat)),none]) (n:=r3) (us:=tups (fo (lOf m T a b p).length)) (f:=λu=>vC m T a b p (dU u)) (λS'=>Ex S3 S') (λS' x=>by unfold getL;rw[x.some q3]) (λu hu S' x=>by
  obtain⟨c,hc,rfl⟩:=aI.mp hu
  obtain⟨c1,c2⟩:=(iP _ _).mp hc
  obtain⟨S5,e5,x5⟩:=GH (S:=S') (two c c1 c2)
  refine⟨S5,?_,x.trans x5⟩
  rw[Ek]
  exact ux (f:=je) (a:=ae 0) (b:=ae 1) (c:=ae 4) (var_eq rfl) (var_eq rfl) (var_eq rfl) e5) fuel 0 [] S3 (cn _) (by unfold fuel tups;rw[aq];omega) (Ex.refl _)
 rw[j4,dk,show(tups (fo (lOf m T a b p).length)).map (λu=>vC m T a b p (dU u))=(fo (lOf m T a b p).length).map (vC m T a b p) by
  unfold tups
  rw[bX]
  apply bH
  intro c _
  show vC m T a b p (dU (.tup (az c)))=_
  rw[Ek]]at e4
 have e5:ck (cu (mFn fG (aa (cX (aa (mC (.int 0)) (aa (mC (.int 1)) ak))) (aa (ae 2) ak)))) cTT (mFn je (aa (ae 0) (aa (ae 1) (aa (ae 4) ak)))) [some (tab m T),some (.tup [.int (a:Nat),.int (b:Nat)]),some (.int ((lOf m T a b p).length:Nat)),none] S1=some (.ref S4.length,S4++[.lst ((fo (lOf m T a b p).length).map (vC m T a b p))]):=by
  have h3:mFn fG (aa (cX (aa (mC (.int 0)) (aa (mC (.int 1)) ak))) (aa (ae 2) ak)) [some (tab m T),some (.tup [.int (a:Nat),.int (b:Nat)]),some (.int ((lOf m T a b p).length:Nat)),none] S1=some (.ref r3,S3):=d7 (f:=fG) (JI c_i c_i) (var_eq rfl) e3
  have hg:getL S3 r3=some (tups (fo (lOf m T a b p).length)):=by unfold getL;rw[q3]
  have hi:cu (mFn fG (aa (cX (aa (mC (.int 0)) (aa (mC (.int 1)) ak))) (aa (ae 2) ak))) [some (tab m T),some (.tup [.int (a:Nat),.int (b:Nat)]),some (.int ((lOf m T a b p).length:Nat)),none] S1=some (.mut r3,S3):=by
   simp only[cu,h3,aF,hg,aT]
  simp only[ck,hi,aF,xh,e4]
  exact if_pos (by rw[aq];unfold big;omega)
 have e6:=Av (t:=cOf (m2 mZ (ae 4) (mC .non))) (e:=ae 4) (a:=ae 3) (ρ:= [some (tab m T),some (.tup [.int (a:Nat),.int (b:Nat)]),some (.int ((lOf m T a b p).length:Nat)),some (.ref S4.length)]) (n:=S4.length) (S:=S4++[.lst ((fo (lOf m T a b p).length).map (vC m T a b p))]) (p:=nnU) (f:=λu=>u) (var_eq rfl) (de _ _) (by rw[aq];omega) (λu hu=>by
  obtain⟨c,_,rfl⟩:=aI.mp hu
  exact Oh (var_eq rfl)) (λu _ _=>var_eq rfl)
 rw[IX]at e6
 have x5:Ex S (S4++[Cell.lst ((fo (lOf m T a b p).length).map (vC m T a b p))]):=((x1.trans x3).trans x4).trans (Ex.push _ _)
 generalize S4++[Cell.lst ((fo (lOf m T a b p).length).map (vC m T a b p))]=S5 at e5 e6 x5
 have e7:mFn mN (aa (ck (cu (ae 3)) (cOf (m2 mZ (ae 4) (mC .non))) (ae 4)) ak) [some (tab m T),some (.tup [.int (a:Nat),.int (b:Nat)]),some (.int ((lOf m T a b p).length:Nat)),some (.ref S4.length)] S5=some (.ref (S5++[Cell.lst (tups (walks m T a b p))]).length,S5++[Cell.lst (tups (walks m T a b p))]++[.lst (tups (pS m T [a,b]))]):=by
  refine i6 e6 ?_
  have hg:getL (S5++[Cell.lst (tups (walks m T a b p))]) S5.length=some (tups (walks m T a b p)):=by unfold getL;rw[de]
  simp only[mN,hg,ag,qS]
  have ok:okT ((walks m T a b p).map eB):=by
   refine⟨by rw[aq];exact n64,?_,?_⟩
   ·rw[aS,cx]
    exact(aS.mp (rS g ha hb hne p1 h0)).imp λhab e=>hab (o5 e)
   ·intro l hl z
    obtain⟨w,hw,rfl⟩:=aI.mp hl
    exact Cq g.pos hw (o5 z)
  rw[if_pos ok,srt1,Bv]
 refine⟨(S5++[Cell.lst (tups (walks m T a b p))]).length,S5++[Cell.lst (tups (walks m T a b p))]++[.lst (tups (pS m T [a,b]))],dH (ρ:= [some (tab m T),some (.tup [.int (a:Nat),.int (b:Nat)]),some (.int ((lOf m T a b p).length:Nat)),some (.ref S4.length)]) rfl ?_,(x5.trans (Ex.push _ _)).trans (Ex.push _ _),?_,de _ _⟩
 ·show fW [some (tab m T),some (.tup [.int (a:Nat),.int (b:Nat)]),none,none] S=_
  exact(be (bI e2)).trans ((be ((oO c2).trans rfl)).trans ((be (bI e5)).trans (dG e7)))
 ·have:=x5.len
  simp;omega
end
theorem On{ρ:Rho}{S:Sto}:m2 nQ (mC (.int 10)) (mC (.int 6)) ρ S=some (.int ((1000000:Nat):Int),S):=by
 have:m2 nQ (mC (.int 10)) (mC (.int 6)) ρ S=some (.int (10 ^ (6:Int).toNat),S):=op2 rfl rfl (if_pos ⟨by decide,by decide,by decide⟩)
 rw[this];rfl
noncomputable def Mw:MS:=br (bJ 7 (mFn d0 (aa (ae 3) (aa (ae 4) ak)))) (br (sIf (cOr (vg (cOf (m1 (mX "list") (ae 7)))) (cOr (cOf (m2 oNe (ae 7) (ae 5))) (vg (cOf (mFn uX (aa (ck (cu (ae 7)) cTT (m1 (mX "tuple") (ae 8))) ak)))))) (eg (mC (.bl false))) eC) (dN (mML du (ae 7) (aa (cX ak) ak))))
noncomputable def HN:MS:=br (bJ 5 (mFn i9 (aa (ae 3) (aa (ae 4) (aa (m2 nQ (mC (.int 10)) (mC (.int 6))) ak))))) (eX 6 (iR1 (aa (mC (.int 2)) ak)) Mw)
theorem Ho{m:Nat}{T:Nat->Nat->Nat}{a b:Nat}{S:Sto}{v0 v1 v2 v5 v6 v7:Option U}(g:Grp m T)(hm:m<=10)(ha:a<m)(hb:b<m)(hab:a<b): ∃w5 w6 w7 S',HN [v0,v1,v2,some (tab m T),some (.tup [.int (a:Nat),.int (b:Nat)]),v5,v6,v7] S=some (.nx,[v0,v1,v2,some (tab m T),some (.tup [.int (a:Nat),.int (b:Nat)]),w5,w6,w7],S')/\Ex S S':=by
 have ht:T a (unT m T b)<m:=g.cl a _ ha (my g hb)
 obtain⟨p,p1,p2,p3,p4⟩:=g.ord ht
 have hs: ∀s∈[a,b],s<m:=λs hs=>by
  simp at hs
  rcases hs with rfl |rfl <;> assumption
 have nd: [a,b].Nodup:=by simp;omega
 have hz:fT [a,b].length (m - 1)<=1023:=aM (rV (c:=2) (ah _) (k:=9) (by omega)) (by decide)
 obtain⟨r,S1,e1,x1,q1⟩:=Bl (T:=T) (st:= [a,b]) (S:=S) (most:=1000000) g (by omega) hs (by simp) (by decide) (by omega)
 have hlen:(pS m T [a,b]).length<=1023:=aM (wq _ _ _) hz
 rw[Hn g hs nd,fA (by omega)]at q1
 have few:=Gb g ha hb hab p1 p3 hm
 have f1:=ux (f:=i9) (ρ:= [v0,v1,v2,some (tab m T),some (.tup [.int (a:Nat),.int (b:Nat)]),v5,v6,v7]) (a:=ae 3) (b:=ae 4) (c:=m2 nQ (mC (.int 10)) (mC (.int 6))) (S:=S) (var_eq rfl) (var_eq rfl) On e1
 obtain⟨ρ5,S5,e5,⟨u,v,rfl⟩,x5⟩:=lN (i:=6) (a:=mC (.int 2)) (n:=2) (b:=Mw) (ρ:= [v0,v1,v2,some (tab m T),some (.tup [.int (a:Nat),.int (b:Nat)]),some (.ref r),v6,v7]) (S:=S1) rfl (by decide)
  (λ_ ρ S5=>(∃u v,ρ = [v0,v1,v2,some (tab m T),some (.tup [.int (a:Nat),.int (b:Nat)]),some (.ref r),u,v])/\Ex S1 S5) ⟨⟨_,_,rfl⟩,Ex.refl _⟩ (by
   rintro k ρ S5 hk ⟨⟨u,v,rfl⟩,x5⟩
   obtain⟨r6,S6,e6,x6,l6,q6⟩:=J6 (S:=S5) g hm ha hb hab p1 p2 p4 p3
   have f6:=d7 (f:=d0) (ρ:= [v0,v1,v2,some (tab m T),some (.tup [.int (a:Nat),.int (b:Nat)]),some (.ref r),some (.int k),v]) (a:=ae 3) (b:=ae 4) (var_eq rfl) (var_eq rfl) e6
   have q7:=(x5.trans x6).some q1
   obtain⟨S7,f7,x7⟩:=CC (ρ:= [v0,v1,v2,some (tab m T),some (.tup [.int (a:Nat),.int (b:Nat)]),some (.ref r),some (.int k),some (.ref r6)]) (i:=7) (S:=S6) rfl rfl q6 (by omega)
   have c7:=_W.or_false (ρ:= [v0,v1,v2,some (tab m T),some (.tup [.int (a:Nat),.int (b:Nat)]),some (.ref r),some (.int k),some (.ref r6)]) (not_eq (of_eq (isL (a:=ae 7) (var_eq rfl) q6))) (_W.or_false (of_eq (Gr (a:=ae 7) (b:=ae 5) (var_eq rfl) (var_eq rfl) q6 q7)) (not_eq (of_eq f7)))
   have q8:=x7.some q6
   have f8:=append_eq (ρ:= [v0,v1,v2,some (tab m T),some (.tup [.int (a:Nat),.int (b:Nat)]),some (.ref r),some (.int k),some (.ref r6)]) (S:=S7) (o:=ae 7) (a:=cX ak) (r:=r6) (u:= .tup []) (var_eq rfl) rfl q8 q8 (by simp only[tups,aq];unfold big;omega)
   refine⟨_,_,(be (bI f6)).trans ((be ((oO c7).trans rfl)).trans f8),⟨_,_,rfl⟩,((x5.trans x6).trans x7).set ?_⟩
   have:=x5.len
   omega)
 exact⟨some (.ref r),u,v,S5,(be (bI f1)).trans e5,x1.trans x5⟩
theorem Eh(ns:List Int)(hl:ns.length<=63)(S:Sto)(h1:S.length=1)(h2:getL S 0=some (ns.map U.int)): ∃S',NB [.ref 0] S=some (.bl true,S'):=by
 obtain⟨q,hq,eq⟩:=Cu (ρ:= [some (.ref 0),none,none,none,none,none,none,none]) (c:=3) h2 rfl hl
 obtain⟨ρ1,S1,e1,_,_⟩:=lN (i:=1) (a:=mFn sR (aa (mC (.int 1)) (aa (mFn sW (aa (mFn cN (aa (ae 0) ak)) (aa (mC (.int 3)) ak))) ak))) (n:=q)
  (b:=br (bJ 2 (mFn jC (aa (ae 0) (aa (ae 1) ak)))) (br (sQ (mFn ij (aa (ae 2) (aa (m2 oIx (dn (aa (mC (.int 6)) (aa (mC (.int 8)) (aa (mC (.int 10)) ak)))) (mFn bf (aa (ae 2) (aa (mC (.int 3)) ak)))) ak))) (gTp 2 (d6 (gN 3) (d6 (gN 4) kA)))) HN))
  (ρ:= [some (.ref 0),none,none,none,none,none,none,none]) (S:=S) eq (by unfold big;omega)
  (λk ρ S'=>(∃a b c d e f g,ρ = [some (.ref 0),a,b,c,d,e,f,g])/\Scr ns S') ⟨⟨_,_,_,_,_,_,_,rfl⟩,h2⟩
  (by
   rintro k ρ S' hk ⟨⟨u1,u2,u3,u4,u5,u6,u7,rfl⟩,hs⟩
   have h0:=hs.lt
   obtain⟨S2,f2,x2,st2⟩:=Dp (k:=k) hs
   have f3:dn (aa (mC (.int 6)) (aa (mC (.int 8)) (aa (mC (.int 10)) ak))) [some (.ref 0),some (.int k),some (.ref S'.length),u3,u4,u5,u6,u7] S2=some (.ref S2.length,S2++[Cell.lst (az [6,8,10])]):=GM c_i c_i c_i
   have st3:Stp S'.length S2 (S2++[Cell.lst (az [6,8,10])]):=Stp.ex st2 (Ex.push _ _)
   obtain⟨r,S4,f4,hr,st4⟩:=jn (m:=3) st3.st (by decide) (by decide)
   have hne:S2.length≠S'.length:=by have:=st2.lt;omega
   have g4:S4[S2.length]? = some (Cell.lst (az [6,8,10])):=st4.some hne (de _ _)
   obtain⟨most,hmost,hm6,hm10⟩ : ∃most:Nat,(az [6,8,10])[r]? = some (.int most)/\6<=most/\most<=10:=by
    rcases r with _ |_ |_ |r
    ·exact⟨6,rfl,by decide,by decide⟩
    ·exact⟨8,rfl,by decide,by decide⟩
    ·exact⟨10,rfl,by decide,by decide⟩
    ·omega
   have f5:m2 oIx (dn (aa (mC (.int 6)) (aa (mC (.int 8)) (aa (mC (.int 10)) ak)))) (mFn bf (aa (ae 2) (aa (mC (.int 3)) ak))) [some (.ref 0),some (.int k),some (.ref S'.length),u3,u4,u5,u6,u7] S2=some (.int most,S4):=Bu f3 (d7 (f:=bf) (a:=ae 2) (var_eq rfl) c_i f4) g4 (qc hmost)
   obtain⟨m,T,x,y,S5,f6,gr,hm3,hm,hx,hy,hxy,st5⟩:=Hu (most:=most) st4.st hm6 hm10
   have a3:sQ (mFn ij (aa (ae 2) (aa (m2 oIx (dn (aa (mC (.int 6)) (aa (mC (.int 8)) (aa (mC (.int 10)) ak)))) (mFn bf (aa (ae 2) (aa (mC (.int 3)) ak)))) ak))) (gTp 2 (d6 (gN 3) (d6 (gN 4) kA))) [some (.ref 0),some (.int k),some (.ref S'.length),u3,u4,u5,u6,u7] S2=some (.nx,[some (.ref 0),some (.int k),some (.ref S'.length),some (tab m T),some (.tup [.int (x:Nat),.int (y:Nat)]),u5,u6,u7],S5):=by
    have:=d7 (ρ:= [some (.ref 0),some (.int k),some (.ref S'.length),u3,u4,u5,u6,u7]) (S:=S2) (f:=ij) (a:=ae 2) (var_eq rfl) f5 f6
    simp only[sQ,this,aF]
    rfl
   obtain⟨w5,w6,w7,S6,f7,x7⟩:=Ho (S:=S5) (v0:=some (.ref 0)) (v1:=some (.int k)) (v2:=some (.ref S'.length)) (v5:=u5) (v6:=u6) (v7:=u7) gr (by omega) hx hy hxy
   refine⟨_,S6,(be (bI (d7 (var_eq rfl) (var_eq rfl) f2))).trans ((be a3).trans f7),⟨_,_,_,_,_,_,_,rfl⟩,?_⟩
   exact((hs.ex λc h=>x2.some h).ex λc h=>((st3.trans st4).trans st5).some (by omega) h).ex λc h=>x7.some h)
 exact⟨S1,dH (ρ:=ρ1) rfl ((be e1).trans (dG rfl))⟩
end
noncomputable def top(i:Nat):Stmt:=PySem.Challenge.pw_groupwalks_k53_all_rounds_by_two_steps.main.body.getD i (.Pass ⟨0,0,0,0⟩)
abbrev gm:Stmt:=top 22
abbrev iH:Stmt:=top 23
abbrev ji:Stmt:=top 24
abbrev iK:Stmt:=top 25
abbrev iO:Stmt:=top 26
abbrev gd:Stmt:=top 28
abbrev jh:Stmt:=top 27
abbrev iN:Stmt:=top 30
abbrev iL:Stmt:=top 29
abbrev iF:Stmt:=top 31
abbrev jm:Stmt:=top 34
abbrev gW:Stmt:=top 33
abbrev ly:Stmt:=top 9
abbrev gY:Stmt:=top 4
abbrev hJ:Stmt:=top 10
abbrev nU:Stmt:=top 7
abbrev qF:Stmt:=top 8
abbrev lC:Stmt:=top 5
abbrev jU:Stmt:=top 15
abbrev nR:Stmt:=top 16
abbrev fF:Stmt:=top 17
abbrev iJ:Stmt:=top 18
abbrev jT:Stmt:=top 19
abbrev iM:Stmt:=top 12
abbrev dZ:Stmt:=top 20
abbrev zY:Stmt:=top 35
noncomputable def T0:Tb:=⟨[],[("MOST_SIDES",.int 10)],[],[],false,z0⟩
noncomputable def T1:Tb:=⟨("_law_cell_at",iy)::T0.D,T0.C,[],T0.H,false,T0.Z⟩
noncomputable def T2:Tb:=⟨("_law_state",jC)::T1.D,T1.C,[],T1.H,false,T1.Z⟩
noncomputable def T3:Tb:=⟨("_law_take",bf)::T2.D,T2.C,[],T2.H,false,T2.Z⟩
noncomputable def T4:Tb:=⟨("_law_clock",dm)::T3.D,T3.C,[],T3.H,false,T3.Z⟩
noncomputable def T5:Tb:=⟨("_law_flips",fC)::T4.D,T4.C,[],T4.H,false,T4.Z⟩
noncomputable def T6:Tb:=⟨("_law_quarter",gg)::T5.D,T5.C,[],T5.H,false,T5.Z⟩
noncomputable def T7:Tb:=⟨("_law_both",j5)::T6.D,T6.C,[],T6.H,false,T6.Z⟩
noncomputable def T8:Tb:=⟨("_law_named",jv)::T7.D,T7.C,[],T7.H,false,T7.Z⟩
noncomputable def T9:Tb:=⟨("_law_order",jB)::T8.D,T8.C,[],T8.H,false,T8.Z⟩
noncomputable def T10:Tb:=⟨("_law_group",kR)::T9.D,T9.C,[],T9.H,false,T9.Z⟩
noncomputable def T11:Tb:=⟨("_law_pair",ij)::T10.D,T10.C,[],T10.H,false,T10.Z⟩
noncomputable def T12:Tb:=⟨("_law_rounds",i9)::T11.D,T11.C,[],T11.H,false,T11.Z⟩
noncomputable def T13:Tb:=⟨T12.D,T12.C,[],("pieces",xD)::T12.H,false,T12.Z⟩
noncomputable def T14:Tb:=⟨("all_things",om)::T13.D,T13.C,[],T13.H,false,T13.Z⟩
noncomputable def T15:Tb:=⟨("left_sides",kl)::T14.D,T14.C,[],T14.H,false,T14.Z⟩
noncomputable def T16:Tb:=⟨("roads",zC)::T15.D,T15.C,[],T15.H,false,T15.Z⟩
noncomputable def T17:Tb:=⟨("span",yP)::T16.D,T16.C,[],T16.H,false,T16.Z⟩
noncomputable def T18:Tb:=⟨("undone",r9)::T17.D,T17.C,[],T17.H,false,T17.Z⟩
noncomputable def T19:Tb:=⟨("turn_of",jL)::T18.D,T18.C,[],T18.H,false,T18.Z⟩
noncomputable def T20:Tb:=⟨("sides",j9)::T19.D,T19.C,[],T19.H,false,T19.Z⟩
noncomputable def T21:Tb:=⟨("chosen_steps",fD)::T20.D,T20.C,[],T20.H,false,T20.Z⟩
noncomputable def T22:Tb:=⟨("ring_from",iI)::T21.D,T21.C,[],T21.H,false,T21.Z⟩
noncomputable def T23:Tb:=⟨("walk_of",je)::T22.D,T22.C,[],T22.H,false,T22.Z⟩
noncomputable def T24:Tb:=⟨("all_walks",fG)::T23.D,T23.C,[],T23.H,false,T23.Z⟩
noncomputable def T25:Tb:=⟨("all_rounds_of_two",d0)::T24.D,T24.C,[],T24.H,false,T24.Z⟩
theorem tz:cB T0 80 (["script","k"]:List Str) (aE gm).names (bq gm)=some gh:=by kernel_rfl
theorem qW:bL (["script","k"]:List Str) (["script","k"]:List Str) (aE gm):=⟨rfl,rfl,rfl,by decide +kernel,rfl,by decide +kernel,by decide +kernel⟩
theorem wk:cB T1 80 (["script","k","cell"]:List Str) (aE iH).names (bq iH)=some jw:=by kernel_rfl
theorem vz:bL (["script","k","cell"]:List Str) (["script","k"]:List Str) (aE iH):=⟨rfl,rfl,rfl,by decide +kernel,rfl,by decide +kernel,by decide +kernel⟩
theorem y3:cB T2 80 (["state","many","found","mixed"]:List Str) (aE ji).names (bq ji)=some kf:=by kernel_rfl
theorem wV:bL (["state","many","found","mixed"]:List Str) (["state","many"]:List Str) (aE ji):=⟨rfl,rfl,rfl,by decide +kernel,rfl,by decide +kernel,by decide +kernel⟩
theorem xB:cB T3 80 (["n"]:List Str) (aE iK).names (bq iK)=some lD:=by kernel_rfl
theorem vE:bL (["n"]:List Str) (["n"]:List Str) (aE iK):=⟨rfl,rfl,rfl,by decide +kernel,rfl,by decide +kernel,by decide +kernel⟩
theorem xn:cB T4 80 (["n","found","i","row","j","turn"]:List Str) (aE iO).names (bq iO)=some lF:=by kernel_rfl
theorem uQ:bL (["n","found","i","row","j","turn"]:List Str) (["n"]:List Str) (aE iO):=⟨rfl,rfl,rfl,by decide +kernel,rfl,by decide +kernel,by decide +kernel⟩
theorem tj:cB T5 80 (["signs","kinds","found","one","row","other","sign"]:List Str) (aE gd).names (bq gd)=some jH:=by kernel_rfl
theorem sh:bL (["signs","kinds","found","one","row","other","sign"]:List Str) ([]:List Str) (aE gd):=⟨rfl,rfl,rfl,by decide +kernel,rfl,by decide +kernel,by decide +kernel⟩
theorem zb:cB T6 80 (["one","other","size","found","i","row","j","ahead"]:List Str) (aE jh).names (bq jh)=some m6:=by kernel_rfl
theorem xj:bL (["one","other","size","found","i","row","j","ahead"]:List Str) (["one","other"]:List Str) (aE jh):=⟨rfl,rfl,rfl,by decide +kernel,rfl,by decide +kernel,by decide +kernel⟩
theorem xK:cB T7 80 (["group","order"]:List Str) (aE iN).names (bq iN)=some kQ:=by kernel_rfl
theorem vH:bL (["group","order"]:List Str) (["group","order"]:List Str) (aE iN):=⟨rfl,rfl,rfl,by decide +kernel,rfl,by decide +kernel,by decide +kernel⟩
theorem wW:cB T8 80 (["state","many","left"]:List Str) (aE iL).names (bq iL)=some lz:=by kernel_rfl
theorem uL:bL (["state","many","left"]:List Str) (["state","many"]:List Str) (aE iL):=⟨rfl,rfl,rfl,by decide +kernel,rfl,by decide +kernel,by decide +kernel⟩
theorem xN:cB T9 80 (["state","most","way","found","first","one"]:List Str) (aE iF).names (bq iF)=some lr:=by kernel_rfl
theorem uW:bL (["state","most","way","found","first","one"]:List Str) (["state","most"]:List Str) (aE iF):=⟨rfl,rfl,rfl,by decide +kernel,rfl,by decide +kernel,by decide +kernel⟩
theorem y6:cB T10 80 (["state","most","group","left","one","other"]:List Str) (aE jm).names (bq jm)=some mY:=by kernel_rfl
theorem wo:bL (["state","most","group","left","one","other"]:List Str) (["state","most"]:List Str) (aE jm):=⟨rfl,rfl,rfl,by decide +kernel,rfl,by decide +kernel,by decide +kernel⟩
theorem vL:cB T11 80 (["group","steps","most","found","line","walk","there","here","fresh"]:List Str) (aE gW).names (bq gW)=some nO:=by kernel_rfl
theorem tD:bL (["group","steps","most","found","line","walk","there","here","fresh"]:List Str) (["group","steps","most"]:List Str) (aE gW):=⟨rfl,rfl,rfl,by decide +kernel,rfl,by decide +kernel,by decide +kernel⟩
theorem CA : ∀ g φ,cB ⟨T12.D,T12.C,[("piece_at",g,φ)],T12.H,T12.mkr,T12.Z⟩ 80 (["rising","piece_at","found","met","least","piece","one"]:List Str) (aE ly).names (bq ly)=some (xE g φ):=by intro g φ;kernel_rfl
theorem Br:bL (["rising","piece_at","found","met","least","piece","one"]:List Str) (["rising","piece_at"]:List Str) (aE ly):=⟨rfl,rfl,rfl,by decide +kernel,rfl,by decide +kernel,by decide +kernel⟩
theorem uO:cB T13 80 (["group"]:List Str) (aE gY).names (bq gY)=some nN:=by kernel_rfl
theorem sP:bL (["group"]:List Str) (["group"]:List Str) (aE gY):=⟨rfl,rfl,rfl,by decide +kernel,rfl,by decide +kernel,by decide +kernel⟩
theorem vK:cB ⟨T14.D,T14.C,T14.L,T14.H,true,T14.Z.to "<lambda>"⟩ 80 (["group","part"]:List Str) (aE hJ).names (bq hJ)=some nJ:=by kernel_rfl
theorem sU:bL (["group","part"]:List Str) (["group","part"]:List Str) (aE hJ):=⟨rfl,rfl,rfl,by decide +kernel,rfl,by decide +kernel,by decide +kernel⟩
theorem GU:cB T15 80 (["group","things","found","waiting","place","thing","onward"]:List Str) (aE nU).names (bq nU)=some zB:=by kernel_rfl
theorem B1:bL (["group","things","found","waiting","place","thing","onward"]:List Str) (["group","things"]:List Str) (aE nU):=⟨rfl,rfl,rfl,by decide +kernel,rfl,by decide +kernel,by decide +kernel⟩
theorem K8:cB T16 80 (["group","things"]:List Str) (aE qF).names (bq qF)=some Dn:=by kernel_rfl
theorem Fw:bL (["group","things"]:List Str) (["group","things"]:List Str) (aE qF):=⟨rfl,rfl,rfl,by decide +kernel,rfl,by decide +kernel,by decide +kernel⟩
theorem Em:cB T17 80 (["group","thing"]:List Str) (aE lC).names (bq lC)=some qQ:=by kernel_rfl
theorem BM:bL (["group","thing"]:List Str) (["group","thing"]:List Str) (aE lC):=⟨rfl,rfl,rfl,by decide +kernel,rfl,by decide +kernel,by decide +kernel⟩
theorem A9:cB T18 80 (["group","steps"]:List Str) (aE jU).names (bq jU)=some oM:=by kernel_rfl
theorem yX:bL (["group","steps"]:List Str) (["group","steps"]:List Str) (aE jU):=⟨rfl,rfl,rfl,by decide +kernel,rfl,by decide +kernel,by decide +kernel⟩
theorem Hw:cB T19 80 (["group","steps"]:List Str) (aE nR).names (bq nR)=some vq:=by kernel_rfl
theorem Dd:bL (["group","steps"]:List Str) (["group","steps"]:List Str) (aE nR):=⟨rfl,rfl,rfl,by decide +kernel,rfl,by decide +kernel,by decide +kernel⟩
theorem qM:cB T20 80 (["group","steps","choice","chosen","side","which","thing"]:List Str) (aE fF).names (bq fF)=some kW:=by kernel_rfl
theorem pU:bL (["group","steps","choice","chosen","side","which","thing"]:List Str) (["group","steps","choice"]:List Str) (aE fF):=⟨rfl,rfl,rfl,by decide +kernel,rfl,by decide +kernel,by decide +kernel⟩
theorem wt:cB T21 80 (["group","chosen","first","ring","onward"]:List Str) (aE iJ).names (bq iJ)=some pI:=by kernel_rfl
theorem vN:bL (["group","chosen","first","ring","onward"]:List Str) (["group","chosen","first"]:List Str) (aE iJ):=⟨rfl,rfl,rfl,by decide +kernel,rfl,by decide +kernel,by decide +kernel⟩
theorem BI:cB T22 80 (["group","steps","choice","chosen","ring"]:List Str) (aE jT).names (bq jT)=some ub:=by kernel_rfl
theorem yV:bL (["group","steps","choice","chosen","ring"]:List Str) (["group","steps","choice"]:List Str) (aE jT):=⟨rfl,rfl,rfl,by decide +kernel,rfl,by decide +kernel,by decide +kernel⟩
theorem wU:cB T23 80 (["steps","many","found","longer","walk"]:List Str) (aE iM).names (bq iM)=some kT:=by kernel_rfl
theorem vG:bL (["steps","many","found","longer","walk"]:List Str) (["steps","many"]:List Str) (aE iM):=⟨rfl,rfl,rfl,by decide +kernel,rfl,by decide +kernel,by decide +kernel⟩
theorem mn:cB ⟨T24.D,T24.C,[],T24.H,false,T24.Z.to "sorted"⟩ 80 (["group","steps","many","walks"]:List Str) (aE dZ).names (bq dZ)=some fW:=by kernel_rfl
theorem kZ:bL (["group","steps","many","walks"]:List Str) (["group","steps"]:List Str) (aE dZ):=⟨rfl,rfl,rfl,by decide +kernel,rfl,by decide +kernel,by decide +kernel⟩
theorem N7:cB T25 80 (["script","k","state","group","steps","due","turn","found"]:List Str) (aE zY).names (bq zY)=some HY:=by kernel_rfl
theorem J2:bL (["script","k","state","group","steps","due","turn","found"]:List Str) (["script"]:List Str) (aE zY):=⟨rfl,rfl,rfl,by decide +kernel,rfl,by decide +kernel,by decide +kernel⟩
theorem chain {P:Program}{w:World}{K:aj}{mg:Str->Option Value}{h:Heap}{k14 p14:Addr} (X:K.In h) (Gn:h.Ns mainGlobals mg) (B : ∀ x∈jX,eI K mainGlobals x=some none) (kc0 : ∃ t,eI K mainGlobals "MOST_SIDES"=some (some (.int 10 t))) (g14:mainGlobals≠p14) (nd:([p14]:List Addr).Nodup)
  (D0:Def K "_law_cell_at" gm) (D1:Def K "_law_state" iH) (D2:Def K "_law_take" ji) (D3:Def K "_law_clock" iK) (D4:Def K "_law_flips" iO) (D5:Def K "_law_quarter" gd) (D6:Def K "_law_both" jh) (D7:Def K "_law_named" iN) (D8:Def K "_law_order" iL) (D9:Def K "_law_group" iF) (D10:Def K "_law_pair" jm) (D11:Def K "_law_rounds" gW) (D12:Def K "pieces" ly) (D13:Def K "all_things" gY) (D14:pV K "left_sides" hJ k14 p14) (D15:Def K "roads" nU) (D16:Def K "span" qF) (D17:Def K "undone" lC) (D18:Def K "turn_of" jU) (D19:Def K "sides" nR) (D20:Def K "chosen_steps" fF) (D21:Def K "ring_from" iJ) (D22:Def K "walk_of" jT) (D23:Def K "all_walks" iM) (D24:Def K "all_rounds_of_two" dZ) : ∀ (caps:List U) (capv:List V) (cds:List (Addr×Obj)) (base:Heap),gR mg base->TOk ⟨P,w,⟨K,caps,capv,cds,[(p14,("left_sides":Str)++".<locals>."++"<lambda>")]⟩,mg,base,none⟩ T25 26:=by
 have C0:Ch P w K mg [(p14,("left_sides":Str)++".<locals>."++"<lambda>")] T0 0:=⟨fun _ _ _ _ _=>TOk.con (TOk.nil X Gn B) X Gn kc0,(fun _ _ _ _ _ _ _ z=>by cases z),(fun _ _ _ _ _ _ _ z=>by cases z)⟩
 have nd:(([(p14,("left_sides":Str)++".<locals>."++"<lambda>")]:List (Addr×Str)).map (·.1)).Nodup:=by simpa using nd
 have C1:Ch P w K mg _ T1 1:=C0.dfn C0.o rfl X Gn D0 qW (λ_ _ _ _ _ _=>us2 λ_ _=>rfl) tz
 have C2:Ch P w K mg _ T2 2:=C1.dfn C1.o rfl X Gn D1 vz (λ_ _ _ _ _ _=>us2 λ_ _=>rfl) wk
 have C3:Ch P w K mg _ T3 3:=C2.dfn C2.o rfl X Gn D2 wV (λ_ _ _ _ _ _=>us2 λ_ _=>rfl) y3
 have C4:Ch P w K mg _ T4 4:=C3.dfn C3.o rfl X Gn D3 vE (λ_ _ _ _ _ _=>us1 λ_=>rfl) xB
 have C5:Ch P w K mg _ T5 5:=C4.dfn C4.o rfl X Gn D4 uQ (λ_ _ _ _ _ _=>us1 λ_=>rfl) xn
 have C6:Ch P w K mg _ T6 6:=C5.dfn C5.o rfl X Gn D5 sh (λ_ _ _ _ _ _=>us0 rfl) tj
 have C7:Ch P w K mg _ T7 7:=C6.dfn C6.o rfl X Gn D6 xj (λ_ _ _ _ _ _=>us2 λ_ _=>rfl) zb
 have C8:Ch P w K mg _ T8 8:=C7.dfn C7.o rfl X Gn D7 vH (λ_ _ _ _ _ _=>us2 λ_ _=>rfl) xK
 have C9:Ch P w K mg _ T9 9:=C8.dfn C8.o rfl X Gn D8 uL (λ_ _ _ _ _ _=>us2 λ_ _=>rfl) wW
 have C10:Ch P w K mg _ T10 10:=C9.dfn C9.o rfl X Gn D9 uW (λ_ _ _ _ _ _=>us2 λ_ _=>rfl) xN
 have C11:Ch P w K mg _ T11 11:=C10.dfn C10.o rfl X Gn D10 wo (λ_ _ _ _ _ _=>us2 λ_ _=>rfl) y6
 have C12:Ch P w K mg _ T12 12:=C11.dfn C11.o rfl X Gn D11 tD (λ_ _ _ _ _ _=>us3 λ_ _ _=>rfl) vL
 have C13:Ch P w K mg _ T13 12:=C12.cls rfl rfl X Gn D12 Br (λ_ _ _ _ _ _=>us2 λ_ _=>rfl) CA
 have C14:Ch P w K mg _ T14 13:=C13.dfn C13.o rfl X Gn D13 sP (λ_ _ _ _ _ _=>us1 λ_=>rfl) uO
 have C15:Ch P w K mg _ T15 16:=C14.lam_ rfl rfl (by simp) nd g14 X Gn D14 sU (λ_ _ _ _ _ _=>us2 λ_ _=>rfl) vK
 have C16:Ch P w K mg _ T16 17:=C15.dfn C15.o rfl X Gn D15 B1 (λ_ _ _ _ _ _=>us2 λ_ _=>rfl) GU
 have C17:Ch P w K mg _ T17 18:=C16.dfn C16.o rfl X Gn D16 Fw (λ_ _ _ _ _ _=>us2 λ_ _=>rfl) K8
 have C18:Ch P w K mg _ T18 19:=C17.dfn C17.o rfl X Gn D17 BM (λ_ _ _ _ _ _=>us2 λ_ _=>rfl) Em
 have C19:Ch P w K mg _ T19 20:=C18.dfn C18.o rfl X Gn D18 yX (λ_ _ _ _ _ _=>us2 λ_ _=>rfl) A9
 have C20:Ch P w K mg _ T20 21:=C19.dfn C19.o rfl X Gn D19 Dd (λ_ _ _ _ _ _=>us2 λ_ _=>rfl) Hw
 have C21:Ch P w K mg _ T21 22:=C20.dfn C20.o rfl X Gn D20 pU (λ_ _ _ _ _ _=>us3 λ_ _ _=>rfl) qM
 have C22:Ch P w K mg _ T22 23:=C21.dfn C21.o rfl X Gn D21 vN (λ_ _ _ _ _ _=>us3 λ_ _ _=>rfl) wt
 have C23:Ch P w K mg _ T23 24:=C22.dfn C22.o rfl X Gn D22 yV (λ_ _ _ _ _ _=>us3 λ_ _ _=>rfl) BI
 have C24:Ch P w K mg _ T24 25:=C23.dfn C23.o rfl X Gn D23 vG (λ_ _ _ _ _ _=>us2 λ_ _=>rfl) wU
 have C25:Ch P w K mg _ T25 26:=C24.dfn (T':=⟨T24.D,T24.C,[],T24.H,false,T24.Z.to "sorted"⟩) (fun caps capv cds base hbb=>((C24.o caps capv cds base hbb).nm "sorted")) rfl X Gn D24 kZ (fun _ _ _ _ _ _=>us2 fun _ _=>rfl) mn
 exact λcaps capv cds base hbb=>(C25.o caps capv cds base hbb)
theorem all_mk {l:lW}{w:World}{K:aj}{h:Heap}{mg:Str->Option Value}{fa:Addr}{q:Program}{k14 p14:Addr} (X:K.In h) (Gn:h.Ns mainGlobals mg) (hfa:mg "law"=some (.ref fa)) (B : ∀ x∈jX,eI K mainGlobals x=some none) (kc0 : ∃ t,eI K mainGlobals "MOST_SIDES"=some (some (.int 10 t))) (g14:mainGlobals≠p14) (nd:([p14]:List Addr).Nodup)
  (D0:Def K "_law_cell_at" gm) (D1:Def K "_law_state" iH) (D2:Def K "_law_take" ji) (D3:Def K "_law_clock" iK) (D4:Def K "_law_flips" iO) (D5:Def K "_law_quarter" gd) (D6:Def K "_law_both" jh) (D7:Def K "_law_named" iN) (D8:Def K "_law_order" iL) (D9:Def K "_law_group" iF) (D10:Def K "_law_pair" jm) (D11:Def K "_law_rounds" gW) (D12:Def K "pieces" ly) (D13:Def K "all_things" gY) (D14:pV K "left_sides" hJ k14 p14) (D15:Def K "roads" nU) (D16:Def K "span" qF) (D17:Def K "undone" lC) (D18:Def K "turn_of" jU) (D19:Def K "sides" nR) (D20:Def K "chosen_steps" fF) (D21:Def K "ring_from" iJ) (D22:Def K "walk_of" jT) (D23:Def K "all_walks" iM) (D24:Def K "all_rounds_of_two" dZ) (D25:Def K "law" zY) {d14:DefRec} (n14:K.lookup p14=none) (r14:(mj q).find? (fun e=>e.name == ("left_sides":Str))=some d14) :
  ∃ (tabs:List (Addr×Str)) (fd:FuncData) (sp:Sp),(∀ r∈tabs,K.lookup r.1=none /\ ∃ x d c,(mj q).find? (fun e=>e.name == x)=some d/\PySem.W.tabIn K x=some (c,r.1))/\(∀ (s:Shared) (v:Value),BindsTo s fd ⟨[v],[]⟩ [("script",v)]) /\
   (∀ base:Heap,K.In base->base.Ns mainGlobals mg->gR mg base->jW l.prog w K mg base CX0 27 fa fd ["script"] sp) /\ ∀ (H:Hp) (a:Addr) (ns:List Int),ns.length<=63->(∀ r∈tabs,yN H r.1 r.2)->SqL K H a (ns.map V.int)->sp [.ref a] H (fun v _=>v = .bl true) fun _ _ _=>False:=by
 obtain⟨fd,h1,h2⟩:=KR (l:=l) (w:=w) (tabs := [(p14,("left_sides":Str)++".<locals>."++"<lambda>")]) X Gn hfa D25 J2 (fun _ _ _ _ _ _=>us1 fun _=>rfl) rfl (fun base hbb=>chain X Gn B  kc0 g14 nd D0 D1 D2 D3 D4 D5 D6 D7 D8 D9 D10 D11 D12 D13 D14 D15 D16 D17 D18 D19 D20 D21 D22 D23 D24 [] [] [] base hbb) N7
 refine⟨[(p14,("left_sides":Str)++".<locals>."++"<lambda>")],fd,_,?_,h1,h2,fun H a ns hl hT hS=>MX hT hS fun S h1 h2=>Eh ns hl S h1 h2⟩
 intro r hr
 simp only[aG,dC,_root_.or_false]at hr
 rcases hr with rfl
 ·exact⟨n14,_,_,_,r14,D14.tab⟩
theorem walk{l:lW}{q:Program}{loose:List Str}{XP:(Str->Option Value)->Heap->Prop}{YP:World->Heap->Prop}{d:DefRec}{K:Params->aj}(hn:l.most=some 63)(hdf:d.params.defaults = [])
  (hY: ∀(w:World) (h:Heap),YP w h->(K w.params).In h)
  (F: ∀(w:World) (mg:Str->Option Value) (fa:Addr) (h:Heap),(K w.params).In h->h.Ns mainGlobals mg->mg d.name=some (.ref fa) -> ∃(tabs:List (Addr×Str)) (fd:FuncData) (sp:Sp),
   (∀ r∈tabs,(K w.params).lookup r.1=none /\ ∃ x d c,(mj q).find? (fun e=>e.name == x)=some d/\PySem.W.tabIn (K w.params) x=some (c,r.1))/\(∀ (s:Shared) (v:Value),BindsTo s fd ⟨[v],[]⟩ [("script",v)]) /\
   (∀ base:Heap,(K w.params).In base->base.Ns mainGlobals mg->gR mg base->jW l.prog w (K w.params) mg base CX0 27 fa fd ["script"] sp) /\ ∀ (H:Hp) (a:Addr) (ns:List Int),ns.length<=63->(∀ r∈tabs,yN H r.1 r.2)->SqL (K w.params) H a (ns.map V.int)->sp [.ref a] H (fun v _=>v = .bl true) fun _ _ _=>False) :
  PySem.W.WalkO q loose XP YP l.row.toRowW d [] (λf vs=>PySem.call f vs):=
 DS (n:=63) (k:=27) (x:="script") hn (by decide) hdf ⟨rfl,by decide,by decide,rfl⟩ hY F
end _W
open PySem PySem.W PyProof.Rows
theorem PySem.W.Fast.te10536255069096438789 : True := trivial
set_option maxRecDepth 100000 in
set_option maxHeartbeats 0 in
theorem PySem.Challenge.cw_groupwalks_k53_all_rounds_by_two_steps_holds : PySem.Challenge.rw_groupwalks_k53_all_rounds_by_two_steps.Holds := by
 w_on;o_law;k_head;(case hw=>w_witness2)
 k_fill
 refine _W.walk (l:=PySem.Challenge.rw_groupwalks_k53_all_rounds_by_two_steps) rfl rfl (λw h Y=>PySem.W.km_in_of Y) ?F
 case F=>
  intro w mg fa h KX Gh hmg
  refine' _W.all_mk KX Gh hmg ?B ?con0 ?g14 ?nd (_G.dW ?a0 ?l0 ?c0 ?k0) (_G.dW ?a1 ?l1 ?c1 ?k1) (_G.dW ?a2 ?l2 ?c2 ?k2) (_G.dW ?a3 ?l3 ?c3 ?k3) (_G.dW ?a4 ?l4 ?c4 ?k4) (_G.dW ?a5 ?l5 ?c5 ?k5) (_G.dW ?a6 ?l6 ?c6 ?k6) (_G.dW ?a7 ?l7 ?c7 ?k7) (_G.dW ?a8 ?l8 ?c8 ?k8) (_G.dW ?a9 ?l9 ?c9 ?k9) (_G.dW ?a10 ?l10 ?c10 ?k10) (_G.dW ?a11 ?l11 ?c11 ?k11) (_G.dW ?a12 ?l12 ?c12 ?k12) (_G.dW ?a13 ?l13 ?c13 ?k13) (_G.GC ?a14 ?l14 ?c14 ?k14 ?e14 ?u14 ?v14 ?w14 ?x14 ?y14 ?z14 ?t14) (_G.dW ?a15 ?l15 ?c15 ?k15) (_G.dW ?a16 ?l16 ?c16 ?k16) (_G.dW ?a17 ?l17 ?c17 ?k17) (_G.dW ?a18 ?l18 ?c18 ?k18) (_G.dW ?a19 ?l19 ?c19 ?k19) (_G.dW ?a20 ?l20 ?c20 ?k20) (_G.dW ?a21 ?l21 ?c21 ?k21) (_G.dW ?a22 ?l22 ?c22 ?k22) (_G.dW ?a23 ?l23 ?c23 ?k23) (_G.dW ?a24 ?l24 ?c24 ?k24) (_G.dW ?a25 ?l25 ?c25 ?k25) ?n14 ?r14
  (case con0=>exact⟨_,by k_is⟩)
  case B=>
   intro x hx
   simp only[_G.jX,aG,dC,or_false]at hx
   rcases hx with rfl |rfl |rfl |rfl |rfl |rfl |rfl |rfl |rfl |rfl |rfl |rfl |rfl |rfl |rfl |rfl |rfl |rfl |rfl |rfl
   all_goals k_is
  (case a0=>k_is);(case l0=>k_is);(case c0=>k_is);(case k0=>k_is)
  (case a1=>k_is);(case l1=>k_is);(case c1=>k_is);(case k1=>k_is)
  (case a2=>k_is);(case l2=>k_is);(case c2=>k_is);(case k2=>k_is)
  (case a3=>k_is);(case l3=>k_is);(case c3=>k_is);(case k3=>k_is)
  (case a4=>k_is);(case l4=>k_is);(case c4=>k_is);(case k4=>k_is)
  (case a5=>k_is);(case l5=>k_is);(case c5=>k_is);(case k5=>k_is)
  (case a6=>k_is);(case l6=>k_is);(case c6=>k_is);(case k6=>k_is)
  (case a7=>k_is);(case l7=>k_is);(case c7=>k_is);(case k7=>k_is)
  (case a8=>k_is);(case l8=>k_is);(case c8=>k_is);(case k8=>k_is)
  (case a9=>k_is);(case l9=>k_is);(case c9=>k_is);(case k9=>k_is)
  (case a10=>k_is);(case l10=>k_is);(case c10=>k_is);(case k10=>k_is)
  (case a11=>k_is);(case l11=>k_is);(case c11=>k_is);(case k11=>k_is)
  (case a12=>k_is);(case l12=>k_is);(case c12=>k_is);(case k12=>k_is)
  (case a13=>k_is);(case l13=>k_is);(case c13=>k_is);(case k13=>k_is)
  (case a14=>k_is);(case l14=>k_is);(case c14=>k_is);(case k14=>k_is)
  (case e14=>k_is);(case u14=>rfl);(case v14=>rfl);(case w14=>rfl);(case x14=>rfl);(case y14=>rfl);(case z14=>rfl);(case t14=>decide)
  (case a15=>k_is);(case l15=>k_is);(case c15=>k_is);(case k15=>k_is)
  (case a16=>k_is);(case l16=>k_is);(case c16=>k_is);(case k16=>k_is)
  (case a17=>k_is);(case l17=>k_is);(case c17=>k_is);(case k17=>k_is)
  (case a18=>k_is);(case l18=>k_is);(case c18=>k_is);(case k18=>k_is)
  (case a19=>k_is);(case l19=>k_is);(case c19=>k_is);(case k19=>k_is)
  (case a20=>k_is);(case l20=>k_is);(case c20=>k_is);(case k20=>k_is)
  (case a21=>k_is);(case l21=>k_is);(case c21=>k_is);(case k21=>k_is)
  (case a22=>k_is);(case l22=>k_is);(case c22=>k_is);(case k22=>k_is)
  (case a23=>k_is);(case l23=>k_is);(case c23=>k_is);(case k23=>k_is)
  (case a24=>k_is);(case l24=>k_is);(case c24=>k_is);(case k24=>k_is)
  (case a25=>k_is);(case l25=>k_is);(case c25=>k_is);(case k25=>k_is)
  (case g14=>decide)
  (case nd=>decide)
  (case n14=>kernel_rfl);(case r14=>rfl)
