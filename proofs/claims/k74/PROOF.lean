import PyProof.Rows.All
import Wide.All
import OpenK.AllK
import Wide.FinOn
import Lean
import PyProof.EqAt
import PyProof.EqKinds
import PyProof.TupleCall
import PyProof.EnumStmt
import PyProof.EnumMake
import PyProof.EnumFor
import PyProof.ZipIter
import PyProof.SetKind
import PyProof.Rows.SetFrom
import PyProof.CompFree
import PyProof.CompMap
import PyProof.Cells
import PyProof.ListMulRoad
import PyProof.ConsumeWalk
import PyProof.TupleOfGen
import PyProof.ListRange
import PySem.Challenge.RW_groupwalks_k74_whole_snakes
set_option bootstrap.genMatcherCode false
set_option Elab.async false
set_option linter.all false
set_option maxRecDepth 100000
set_option maxHeartbeats 0
set_option compiler.postponeCompile true
set_option bootstrap.genMatcherCode false
set_option genSizeOfSpec false
set_option relaxedAutoImplicit false
set_option compiler.extract_closed false
theorem au1(h:0=0:=by rfl):0=0:=h
theorem au2(h:0=0:=by decide):0=0:=h
theorem au3(h:Nat->0=0:=by intro _;rfl):0=0:=h 0
theorem au4(h:0=0\/0=1:=by first |exact .inl rfl |exact .inr rfl |assumption):0=0:=rfl
noncomputable section
open Array renaming length_toList→cQ,getElem?_eq_getElem→eA,getElem?_toList→fI,getElem?_eq_none→BJ
open Bool renaming and_eq_true→aB,false_ne_true→bE,not_true→du,false_eq_true→dH,and_true→eN,true_and→qx,or_eq_true→vT
open Classical renaming propDecidable→bJ,byContradiction→cJ
open False renaming elim→dr
open ForInStep renaming yield→gw
open Int renaming toNat_natCast→bL,ofNat_lt→gA,natCast_nonneg→kN,toNat→pT,emod_lt_of_pos→sr,emod_nonneg→xU,eq_ofNat_of_zero_le→BL
open LT renaming lt→Ek
open List renaming getElem?_eq_some_iff→ak,replicate→aw,length_map→aA,mem_cons_of_mem→aC,range→aE,size_toArray→aF,getElem?_append_right→aG,mem_range→aI,lookup_cons→aN,mem_cons→aO,getElem?_set_ne→aP,mem_singleton→aQ,mem_append_right→aR,mem_map→aS,append_assoc→aW,getElem?_eq_getElem→aX,mem_append→be,getElem?_append_left→bg,length_append→bj,mem_append_left→bo,getElem?_set_self→bq,map_congr_left→bt,range'→bu,length_range→bD,map_cons→bM,all_cons→bS,map_map→b4,map_append→b5,mem_of_getElem?→cb,find?_cons→cm,length_cons→cu,append_nil→cD,all_eq_true→cM,mem_flatMap→cN,eq_of_mem_replicate→cX,range_succ→cZ,replicate_succ→dy,mem_cons_self→dG,eq_nil_of_length_eq_zero→dN,getElem?_map→dP,mem_reverse→d6,nodup_iff_pairwise_ne→eg,length_replicate→ek,findIdx?_eq_some_iff_getElem→eB,mem_filter→eI,length_nil→eJ,nil_append→eK,length_eq_zero_iff→eV,getElem_mem→eW,take_append_of_le_length→fg,all_nil→fj,length_set→fF,getElem?_eq_none→fL,flatten_cons→fO,pairwise_map→fP,nodup_append→fQ,any_cons→gM,nodup_cons→gO,getElem?_replicate→hJ,foldl_append→iA,mem_range'_1→iB,take_of_length_le→iC,set_append_right→iT,length_take→iU,take_length→iV,drop_length→iW,foldl_cons→jH,findSome?_cons→jR,length_range'→kf,drop_eq_getElem_cons→kZ,getElem?_eq_none_iff→lg,idxOf_lt_length_iff→lx,length_drop→m6,filter_cons_of_pos→m9,filter_cons_of_neg→nc,pairwise_lt_range→nG,length_filter_le→nW,length→oV,lookup→oY,replicate_succ'→oZ,filterMap_cons→pO,length_reverse→pQ,getElem_of_mem→pR,filter_eq_self→pU,flatMap_append→pV,lookup_append→qK,take_sublist→su,map_nil→sv,take_add_one→sx,reverse_cons→sy,nodup_range'→sJ,eraseIdxIfInBounds_toArray→tK,range'_succ→uG,nodup_range→uH,of_mem_zip→vR,length_eraseIdx_of_lt→ya,foldl→yc,getD_eq_getElem?_getD→yd,perm_ext_iff_of_nodup→ye,drop_zero→yf,range'_eq_map_range→AC,length_erase_of_mem→AD,map_take→AE,eraseIdx_cons_succ→BH,range_succ_eq_map→BK,drop_of_length_le→BM,dropLast_eq_take→El,getElem_toArray→Ew,getElem?_mapIdx→Ey,range_eq_range'→Ez,mem_of_mem_take→EB
open List.Pairwise renaming nil→jo,imp_of_mem→jy
open List.Perm renaming append_left→yb,trans→EA
open Nat renaming lt_of_lt_of_le→ag,le_refl→aq,lt_of_le_of_lt→aJ,ne_of_lt→aL,le_trans→aM,lt_succ_self→bF,le_of_lt→bG,lt_succ_of_lt→bY,lt_irrefl→bZ,le_of_not_lt→b6,ne_of_gt→cj,lt_trans→ck,zero_le→cR,le_succ→dh,le_of_lt_succ→dR,zero_add→d5,add_pos_left→d9,mul_comm→eM,le_succ_of_le→fR,mul_le_mul_right→gk,lt_of_le_of_ne→hV,le_add_right→jn,div_lt_of_lt_mul→jx,min_le_left→jQ,mod_lt→kI,sub_le→kO,mul_le_mul_left→qw,succ_mul→tL,add_comm→tN,le_of_eq→tQ,lt_succ_of_le→tR,mod_eq_of_lt→vQ,min_eq_left→xV,div_le_self→xW,add_zero→Em
open Ne renaming symm→cU
open Option renaming bind_some→ar,map_some→bb,map_eq_some_iff→fe,isSome_iff_exists→gB,isSome_map→kJ,isSome_some→Es
open Option.some renaming inj→bz,injEq→gL
open PyProof.Rows renaming callWith_type1→bN,slot_tuple_getitem→en,callWith_builtin1→gS,boot_tuple→jT,boot_sorted→sH,boot_set→vP,recsOf→xX
open PyProof.Rows.F renaming plain_set_update_loop→fG,entry_set_update_loop→lu
open PyProof.Rows.IsTup renaming new→oW
open PySem renaming wpAny_bind→af,wpAny_pure→aj,wpAny→az,wpAny_newObj_type→bf,wpAny_call_entry→bx,wpAny_callSpecial?_slot→bA,mem_of_lookup→b0,wpAny_setField_rec→cn,codeAny_builtin→cx,wpAny_field→cy,wpAny_of_eq→cP,wpAny_mono→cY,wpAny_holding→df,wpAny_Call_Name_kw→dm,wpAny_truthy_bool→dC,wpAny_loadPart'→dI,Addr→dQ,wpAny_attempt→eX,wpAny_isInstance→fC,wpAny_passesOwn→f9,wpAny_typeOf→gQ,wpAny_setEntries_of→hU,codeAny_mono→jj,wpAny_setState_of→jl,wpAny_runValue→jm,wpAny_rule→jO,wpAny_askSetting→jP,wpAny_specialOf→kG,wpAny_pyIter_tuple→mG,wpAny_setField→mI,codeAny→pz,wpAny_execs_nil→pP,wpAny_updateSeq→pS,wpAny_seqItems→sk,wpAny_fieldsOf→so,wpAny_handled→uF,wpAny_load→vM,wpAny_assign_Name→xO,wpAny_pyIter_list→xP,wpAny_pyIter_slot→xQ,wpAny_throw→Aw,codeAny_of_tree→BI
open PySem.Around renaming under_plainId→bP
open PySem.AutoSeq1 renaming idx_int→qL
open PySem.Builtin.List renaming listExtendWith→eZ,listSameRef→fS,listLengthHint→qu
open PySem.Builtin.Range renaming rangeSize→dD,small→mJ
open PySem.Builtin.Slice renaming slicePlaces→fE,sliceAdjust→jk,sliceApplied→ql
open PySem.Builtin.SmallTypes renaming nextOf→eY,ownedTupleHandOut→ke,ownedTupleIsFree→kH,newClass→nV
open PySem.Builtin.Tuple renaming tupleExact→dw,tupleItemsOf→qm,tupleIsExact→qp,tupleTooMany→qr
open PySem.Calls renaming call_function_entry→kM,callWith_builtin→nk,evalArgs_plain→oS,spliced_cons→qj,spliced_nil→sj,Name_function_global→xN
open PySem.Data renaming fields→En,seq→Et
open PySem.F renaming plain_list_iadd→dX,slot_tuple_iterator_next→gy,slot_enumerate_next→jq,entry_proto_collect→jt,plain_proto_collect→ju,args_tuple_add_2→kE,entry_tuple_add→lr,plainAttrs_list→ls,slot_tuple_add→mH,entry_list_iadd→m7,args_object_init_2→qo,args_tuple_mul_2→tP,entry_tuple_mul→vO,slot_tuple_mul→xS,slot_tuple_index→xT,args_tuple_iterator_next_1→zo,entry_tuple_iterator_next→Ax,plain_set_new→Ay,slot_set_iter→Az,slot_list_pop→AA,type_list_pop→AB,args_enumerate_next_1→Er
open PySem.Heap renaming get?_push_of_some→ao,get?_push_size→ay,lt_size→aD,size_push→bp,get?_update_self→b3,SameBut→cf,get?_update_other→cg,ExtBut→oX,get?_push_ne→sD
open PySem.Heap.SameBut renaming update→eu
open PySem.IsL renaming update→Ej
open PySem.NameKind renaming free→bw,cell→di
open PySem.Obj renaming mapSeq→cH,data_mapFields→fD,isFreed_of_fields→oU
open PySem.Paired renaming length→xY
open PySem.PassesOwn renaming never→Eu
open PySem.PyData renaming eqvAll→fM,int→gU,eqv→gW,canLay0→h9,depthAll→jr,depth→jI,eqv→jS,canLayAll0→kK
open PySem.SeqAt.EqAt renaming int_str→Au,str_int→Av
open PySem.SetTable renaming below→aY,grown→fK,has→xZ
open PySem.SetTable.below renaming go→gv
open PySem.SetTable.probe renaming go→xR
open PySem.Shared renaming TypeIs→kY
open PySem.Str renaming ofString→dc
open PySem.Value renaming ref→aU,none→da,type→kd,int→mF,isInt_shape→si,str→tI,bool→xM
open PySem.W renaming Frag→av,kia_one→cW,keepIn→dk,fnOf→dE,nsIn→gc,cellsFrom_some→hG,mg_of→iP,OpenLaw→m8,codeIn→nU,methodObj→qi,instObj→tJ,lookIn→vN,callWith_K→Ei,kitx_list→Eo,kitx_dict→Ep
open String renaming splitOnAux→qJ,splitOn→vS
open Sum renaming inl→fB,inr→tH
open Sum.inl renaming inj→BG
open True renaming intro→fh
section
namespace _L
open PySem PySem.Spec PyProof.Rows
abbrev Key:=Sum Int Str
noncomputable def qP:Key->Value->Bool
 | .inl k,v=>Value.isInt k v
 | .inr x,v=>Value.isStrOf x v
noncomputable def NB(w:World):Key->Int
 | .inl k=>hashInt k
 | .inr x=>hashStr w x
theorem dO: ∀{k:Key}{v:Value},qP k v=true->(∃i t,k=fB i/\v=mF i t)\/(∃x t,k=tH x/\v=tI x t)
 | .inl i,v,h=>by
   obtain⟨t,e⟩:=si (k:=i) (v:=v) h
   exact .inl ⟨i,t,rfl,e⟩
 | .inr x,v,h=>by
   obtain⟨t,e⟩:=Value.isStrOf_shape (x:=x) (v:=v) h
   exact .inr ⟨x,t,rfl,e⟩
theorem AW(i:Int)(t:Tok):qP (.inl i) (.int i t)=true:=by simp[qP,Value.isInt]
theorem BE(x:Str)(t:Tok):qP (.inr x) (.str x t)=true:=by simp[qP,Value.isStrOf]
theorem IR(a b:Int):decide ((fB a:Key)=fB b)=(a==b):=by
 by_cases e:a=b
 ·subst e;simp
 ·have h: ¬(fB a:Key)=fB b:=λq=>e (BG q)
  rw[decide_eq_false h]
  exact(beq_eq_false_iff_ne.mpr e).symm
theorem Il(a b:Str):decide ((tH a:Key)=tH b)=decide (a=b):=by
 by_cases e:a=b
 ·subst e;simp
 ·have h: ¬(tH a:Key)=tH b:=λq=>e (Sum.inr.inj q)
  rw[decide_eq_false h,decide_eq_false e]
theorem H9(a:Int)(b:Str):decide ((fB a:Key)=tH b)=false:=decide_eq_false (λq=>nomatch q)
theorem Kb(a:Str)(b:Int):decide ((tH a:Key)=fB b)=false:=decide_eq_false (λq=>nomatch q)
noncomputable def dF(prog:Program)(w:World):PySem.KeyKind prog w Key where
 is:=qP
 hash:=NB w
 inj:=λv a b ha hb=>by
  rcases dO ha with⟨i,t,rfl,rfl⟩ | ⟨x,t,rfl,rfl⟩
  ·rcases dO hb with⟨j,u,rfl,e⟩ | ⟨y,u,rfl,e⟩
   ·injection e with e1 _;rw[e1]
   ·exact nomatch e
  ·rcases dO hb with⟨j,u,rfl,e⟩ | ⟨y,u,rfl,e⟩
   ·exact nomatch e
   ·injection e with e1 _;rw[e1]
 byValue:=λk v h=>by
  rcases dO h with⟨i,t,rfl,rfl⟩ | ⟨x,t,rfl,rfl⟩ <;> rfl
 pyHash:=λhv h=>by
  rcases dO hv with⟨i,t,rfl,rfl⟩ | ⟨x,t,rfl,rfl⟩
  ·exact wpAny_pyHash_int h
  ·exact wpAny_pyHash_str h
 eqBool:=λhu hv h=>by
  rcases dO hu with⟨i,t,rfl,rfl⟩ | ⟨x,t,rfl,rfl⟩
  ·rcases dO hv with⟨j,u,rfl,rfl⟩ | ⟨y,u,rfl,rfl⟩
   ·rw[IR]at h;exact wpAny_eqBool_int h
   ·rw[H9]at h;exact Au i t y u _ _ _ _ h
  ·rcases dO hv with⟨j,u,rfl,rfl⟩ | ⟨y,u,rfl,rfl⟩
   ·rw[Kb]at h;exact Av x t j u _ _ _ _ h
   ·rw[Il]at h;exact wpAny_eqBool_str h
 «strs»:=λk x t v h=>by
  rcases dO h with⟨i,u,rfl,e⟩ | ⟨y,u,rfl,e⟩
  ·exact nomatch e
  ·injection e with e1 _
   subst e1
   cases v <;> rfl
theorem wu(prog:Program)(w:World)(i:Int)(t:Tok):(dF prog w).is (.inl i) (.int i t)=true:=AW i t
theorem xm(prog:Program)(w:World)(x:Str)(t:Tok):(dF prog w).is (.inr x) (.str x t)=true:=BE x t
end _L
namespace _L
open PySem PySem.Spec PyProof.Rows
inductive V where
 | non |bl (b:Bool) |int (i:Int) |str (x:Str) |byt (b:Array UInt8) |flt (b:UInt64) |ref (a:Addr) |ty (n:String)
noncomputable def RelV:V->Value->Prop
 | .non,u=>u=da
 | .bl b,u=>u=xM b
 | .int i,u =>∃t,u=mF i t
 | .str x,u =>∃t,u=tI x t
 | .byt b,u =>∃t,u=Value.bytes b t
 | .flt b,u =>∃t,u=Value.float b t
 | .ref a,u=>u=aU a
 | .ty n,u=>u=kd n
abbrev b8:List V->List Value->Prop:=Paired RelV
theorem b8.length{xs:List V}{us:List Value}(r:b8 xs us):xs.length=us.length:=xY r
theorem b8.get: ∀{xs:List V}{us:List Value}{i:Nat}{x:V},b8 xs us->xs[i]? = some x -> ∃u,us[i]? = some u/\RelV x u
 | _,_,_,_,.nil,e=>by simp at e
 | _,_,0,_,.cons r _,e=>by simp at e;subst e;exact⟨_,rfl,r⟩
 | _,_,i+1,x,.cons _ t,e=>by
   obtain⟨u,h1,h2⟩:=b8.get (i:=i) (x:=x) t (by simpa using e)
   exact⟨u,by simpa using h1,h2⟩
theorem b8.set{x:V}{u:Value}(r:RelV x u): ∀{xs:List V}{us:List Value} (i:Nat),b8 xs us->b8 (xs.set i x) (us.set i u)
 | _,_,_,.nil => .nil
 | _,_,0,.cons _ t => .cons r t
 | _,_,i+1,.cons q t => .cons q (b8.set r i t)
theorem b8.append: ∀{xs ys:List V}{us ws:List Value},b8 xs us->b8 ys ws->b8 (xs++ys) (us++ws)
 | _,_,_,_,.nil,s=>s
 | _,_,_,_,.cons r t,s => .cons r (b8.append t s)
theorem b8.take: ∀{xs:List V}{us:List Value} (n:Nat),b8 xs us->b8 (xs.take n) (us.take n)
 | _,_,0,_ => .nil
 | _,_,_+1,.nil => .nil
 | _,_,n+1,.cons r t => .cons r (b8.take n t)
theorem b8.drop: ∀{xs:List V}{us:List Value} (n:Nat),b8 xs us->b8 (xs.drop n) (us.drop n)
 | _,_,0,r=>r
 | _,_,_+1,.nil => .nil
 | _,_,n+1,.cons _ t=>b8.drop n t
noncomputable def sh:Option V->Option Value->Prop
 | some v,some u=>RelV v u
 | none,none=>True
 | _,_=>False
noncomputable def KV{κ:Type}:List (κ×V)->List (κ×Value)->Prop:=Paired λ(p:κ×V) (q:κ×Value)=>p.1=q.1/\RelV p.2 q.2
noncomputable def kV:Key->V
 | .inl i => .int i
 | .inr x => .str x
inductive HO where
 | lst (xs:List V)
 | tup (xs:List V)
 | dK (kvs:List (Key×V)) |dT (kvs:List (List Key×V))
 | set (S:Int->Bool) (n:Nat)
 | ins (C dx:Addr) (fs:List (Str×V))
 | own (x:Addr)
 | xd (fs:List (Str×V))
 | met (f x:Addr)
 | rng (lo hi:Int)
 | frz (o:Obj) (u:HO)
 | tbl (ps:Array Value)
 | ext (φ:Heap->Prop)
abbrev Hp:=Addr->Option HO
noncomputable def upd(H:Hp)(a:Addr)(o:HO):Hp:=λb=>if b=a then some o else H b
theorem dn{H:Hp}{a:Addr}{o:HO}:upd H a o a=some o:=by unfold upd;rw[if_pos rfl]
theorem bR{H:Hp}{a b:Addr}{o:HO}(h:b≠a):upd H a o b=H b:=by unfold upd;rw[if_neg h]
theorem ur{H:Hp}{a b:Addr}{o u:HO}(h:H a=some o)(h':H b=some u)(d:o≠u):a≠b:=by
 intro e;subst e;rw[h]at h';exact d (bz h')
theorem bI{H:Hp}{a b:Addr}{o:HO}(h:H a=some o)(h':H b=none):a≠b:=by
 intro e;subst e;rw[h]at h';cases h'
section
variable (P:Program) (w:World)
noncomputable def dY(H:Hp)(h:Heap)(a:Addr):HO->Prop
 | .lst xs=>xs.length<=sizeLine /\ ∃ (its:List Value) (n:Nat),b8 xs its/\h.get? a=some { cls := .type "list",data := .seq its.toArray n }
 | .tup xs=>xs.length<=sizeLine /\ ∃its:List Value,b8 xs its/\IsTup h a its.toArray /\ ∃o,h.get? a=some o/\o.dict=none
 | .dK kvs=>kvs.length<=sizeLine/\(a==sysModules)=false /\ ∃vs,KV kvs vs/\h.DictOf (dF P w) a vs
 | .dT kvs=>kvs.length<=sizeLine/\(a==sysModules)=false /\ ∃xs:List (List Key×Addr×Value),
   Paired (λ(p:List Key×V) (q:List Key×Addr×Value)=>p.1=q.1/\H q.2.1=some (.tup (p.1.map kV))/\RelV p.2 q.2.2) kvs xs /\
   ∃o es ep,h.get? a=some o/\o.ExactDict/\o.data = .dict es ep/\es.toList=xs.map (entryOfKey (tupleKind (dF P w)))/\(xs.map (·.1)).Nodup
 | .set S n=>h.SetOf (intKind P w) a S n
 | .ins C dx fs=>H dx=some (.own a)/\fs.length<=1000/\dx≠a/\h.get? a=some (tJ C dx) /\
   ∃mA,h.Ns1 dx mA/\(∀f,sh (fs.lookup f) (mA f))/\PySem.Within mA (fs.map (·.1))
 | .own _ =>∃o,h.get? a=some o
 | .xd fs =>∃mA,h.Ns1 a mA /\ ∀f,sh (fs.lookup f) (mA f)
 | .rng lo hi => ∃ t u v,h.get? a=some { cls := .type "range",data := .fields #[.int lo t,.int hi u,.int 1 v] }
 | .frz o u=>h.get? a=some o/\dY H h a u
 | .tbl ps=>h.get? a=some { cls:= .none,data:= .fields ps }
 | .met f x=>h.get? a=some (qi (.ref f) (.ref x))
 | .ext φ=>φ h/\(∃o,h.get? a=some o) /\ ∀h1 h2:Heap,φ h1->(∀o,h1.get? a=some o->h2.get? a=some o)->φ h2
noncomputable def HOk(H:Hp)(h:Heap):Prop:= ∀a o,H a=some o->dY P w H h a o
end
section
variable {P:Program}{w:World}{H H':Hp}{h h':Heap}{a:Addr}{o:HO}
theorem dY.lt(x:dY P w H h a o):a<h.objs.size:=by
 cases o with
 | lst xs=>obtain⟨_,_,_,_,e⟩:=x;exact aD e
 | tup xs=>obtain⟨_,_,_,p⟩:=x;exact p.1.lt
 | dK kvs=>obtain⟨_,_,_,_,o,_,_,e,_⟩:=x;exact aD e
 | dT kvs=>obtain⟨_,_,_,_,o,_,_,e,_⟩:=x;exact aD e
 | set S n=>obtain⟨o,_,_,_,e,_⟩:=x;exact aD e
 | ins C dx fs=>obtain⟨_,_,_,e,_⟩:=x;exact aD e
 | own y=>obtain⟨_,e⟩:=x;exact aD e
 | xd fs=>obtain⟨_,⟨_,_,_,e,_⟩,_⟩:=x;exact aD e
 | rng lo hi=>obtain⟨_,_,_,e⟩:=x;exact aD e
 | frz ob u=>obtain⟨e,_⟩:=x;exact aD e
 | tbl ps=>exact aD (show h.get? a=some _ from x)
 | met f y=>exact aD (show h.get? a=some _ from x)
 | ext φ=>obtain⟨_,⟨_,e⟩,_⟩:=x;exact aD e
theorem Paired.mapP{α β:Type}{F G:α->β->Prop}: ∀{l₁:List α}{l₂:List β},Paired F l₁ l₂->(∀a b,F a b->G a b)->Paired G l₁ l₂:=by
 intro l m h f
 induction h with
 | nil=>exact .nil
 | cons r t ih=>exact .cons (f _ _ r) ih
theorem dY.stay(x:dY P w H h a o)(k: ∀b u,(b=a\/H b=some (.own a))->h.get? b=some u->h'.get? b=some u)
  (ho: ∀b,H b=some (.own a)->H' b=some (.own a)) (ht: ∀b xs,H b=some (.tup xs)->H' b=some (.tup xs)):dY P w H' h' a o:=by
 induction o with
 | lst xs=>obtain⟨z,its,n,r,e⟩:=x;exact⟨z,its,n,r,k _ _ (.inl rfl) e⟩
 | tup xs=>obtain⟨z,its,r,⟨ob,e,c⟩,o2,e2,c2⟩:=x;exact⟨z,its,r,⟨ob,k _ _ (.inl rfl) e,c⟩,o2,k _ _ (.inl rfl) e2,c2⟩
 | dK kvs=>obtain⟨z,y,vs,r,ob,es,ep,e,c⟩:=x;exact⟨z,y,vs,r,ob,es,ep,k _ _ (.inl rfl) e,c⟩
 | dT kvs=>
   obtain⟨z,y,xs,r,ob,es,ep,e,c⟩:=x
   exact⟨z,y,xs,Paired.mapP r λp q z=>⟨z.1,ht _ _ z.2.1,z.2.2⟩,ob,es,ep,k _ _ (.inl rfl) e,c⟩
 | set S n=>obtain⟨ob,es,ep,t,e,c⟩:=x;exact⟨ob,es,ep,t,k _ _ (.inl rfl) e,c⟩
 | ins C dx fs=>
   obtain⟨d,z,ne,e,mA,⟨od,es,ep,e2,c⟩,r⟩:=x
   exact⟨ho _ d,z,ne,k _ _ (.inl rfl) e,mA,⟨od,es,ep,k _ _ (.inr d) e2,c⟩,r⟩
 | own y=>obtain⟨ob,e⟩:=x;exact⟨ob,k _ _ (.inl rfl) e⟩
 | xd fs=>obtain⟨mA,⟨od,es,ep,e,c⟩,r⟩:=x;exact⟨mA,⟨od,es,ep,k _ _ (.inl rfl) e,c⟩,r⟩
 | rng lo hi=>obtain⟨t,u,v,e⟩:=x;exact⟨t,u,v,k _ _ (.inl rfl) e⟩
 | frz ob u ih=>obtain⟨e,q⟩:=x;exact⟨k _ _ (.inl rfl) e,ih q⟩
 | tbl ps=>
   have e:h.get? a=some { cls:= .none,data:= .fields ps }:=x
   show h'.get? a=some { cls:= .none,data:= .fields ps }
   exact k a _ (.inl rfl) e
 | met f y=>
   have e:h.get? a=some (qi (.ref f) (.ref y)):=x
   show h'.get? a=some (qi (.ref f) (.ref y))
   exact k a _ (.inl rfl) e
 | ext φ=>obtain⟨p,⟨o,e⟩,st⟩:=x;exact⟨st _ _ p λo q=>k _ _ (.inl rfl) q,⟨o,k _ _ (.inl rfl) e⟩,st⟩
theorem HOk.lt(x:HOk P w H h)(e:H a=some o):a<h.objs.size:=(x a o e).lt
theorem HOk.fresh(x:HOk P w H h)(e:h.objs.size<=a):H a=none:=by
 cases q:H a with
 | none=>rfl
 | some u=>exact absurd (ag (x.lt q) e) (bZ _)
theorem HOk.kept(x:HOk P w H h)(k: ∀b u,h.get? b=some u->h'.get? b=some u):HOk P w H h':=λa o e=>
 (x a o e).stay (λb u _ q=>k b u q) (λ_ q=>q) λ_ _ q=>q
theorem HOk.laid(x:HOk P w H h)(k: ∀b u,h.get? b=some u->h'.get? b=some u)(hp:h.objs.size<=a)(new:dY P w (upd H a o) h' a o):HOk P w (upd H a o) h':=λb u e=>by
 have hn:=x.fresh hp
 by_cases hb:b=a
 ·subst hb;rw[dn]at e;cases e;exact new
 ·rw[bR hb]at e
  exact(x b u e).stay (λc v _ q=>k c v q) (λc q=>by rw[bR (bI q hn)];exact q) λc xs q=>by rw[bR (bI q hn)];exact q
end
noncomputable def Rd(H:Hp)(a:Addr)(u:HO):Prop:=H a=some u \/ ∃o,H a=some (.frz o u)
theorem Rd.ok{P:Program}{w:World}{H:Hp}{h:Heap}{a:Addr}{u:HO}(r:Rd H a u)(x:HOk P w H h):dY P w H h a u:=by
 rcases r with r | ⟨o,r⟩
 ·exact x a u r
 ·obtain⟨_,q⟩:=x a _ r
  exact q
noncomputable def Mut:Option HO->Prop
 | some (.lst _)=>True
 | some (.dK _)=>True
 | some (.dT _)=>True
 | some (.set _ _)=>True
 | some (.ins _ _ _)=>True
 | some (.ext _)=>True
 | _=>False
section
variable {P:Program}{w:World}{H:Hp}{h h':Heap}{x e:Addr}{o':HO}
theorem HOk.write(ok:HOk P w H h)(mu:Mut (H x))(he:e=x\/H e=some (.own x))(k: ∀b u,b≠e->h.get? b=some u->h'.get? b=some u)(heo: ∃u,h'.get? e=some u)
  (new:dY P w (upd H x o') h' x o'):HOk P w (upd H x o') h':=λb u q=>by
 have nown: ∀c y,H c=some (.own y)->c≠x:=λc y r z=>by subst z;rw[r]at mu;exact mu
 have ntup: ∀c xs,H c=some (.tup xs)->c≠x:=λc xs r z=>by subst z;rw[r]at mu;exact mu
 by_cases hb:b=x
 ·subst hb;rw[dn]at q;cases q;exact new
 ·rw[bR hb]at q
  by_cases hbe:b=e
  ·have q':H b=some (.own x):=by
    rcases he with z |z
    ·exact absurd (hbe.trans z) hb
    ·rw[hbe];exact z
   rw[q]at q';cases q'
   obtain⟨v,hv⟩:=heo
   exact⟨v,by rw[hbe];exact hv⟩
  ·refine(ok b u q).stay (λc v hc r=>k c v ?_ r) (λc r=>by rw[bR (nown c b r)];exact r) λc xs r=>by rw[bR (ntup c xs r)];exact r
   rcases hc with rfl |hc
   ·exact hbe
   ·rintro rfl
    rcases he with z |z
    ·exact nown c b hc z
    ·rw[hc]at z;cases z;exact hb rfl
end
structure Un(fs ex:List Addr)(H H':Hp)(h h':Heap):Prop where
 keep: ∀b o,h.get? b=some o->H b=none->b∉fs->b∉ex->h'.get? b=some o
 slot: ∀b o,h.get? b=some o->H b=none->b∈fs->b∉ex -> ∃sl,h'.get? b=some { o with slots:=sl }
 free: ∀b o,h.get? b=some o->H b=none->b∉ex->H' b=none
 there: ∀b o,h.get? b=some o->b∉ex -> ∃o',h'.get? b=some o'
 tups: ∀b xs,H b=some (.tup xs)->H' b=some (.tup xs)
 frzs: ∀b o u,H b=some (.frz o u)->H' b=some (.frz o u)
 tbls: ∀b ps,H b=some (.tbl ps) -> ∃more,H' b=some (.tbl (ps++more))
section
variable {fs fs' ex ex':List Addr}{H H1 H2:Hp}{h h1 h2 h':Heap}{a x e:Addr}{o:HO}
theorem Un.any(u:Un fs ex H H1 h h1){b:Addr}{ob:Obj}(q:h.get? b=some ob)(n:H b=none)(hx:b∉ex): ∃sl,h1.get? b=some { ob with slots:=sl }:=by
 by_cases hb:b∈fs
 ·exact u.slot b ob q n hb hx
 ·exact⟨ob.slots,u.keep b ob q n hb hx⟩
theorem Un.kept(k: ∀b u,h.get? b=some u->h'.get? b=some u):Un fs ex H H h h':=
 ⟨λb ob q _ _ _=>k b ob q,λb ob q _ _ _=>⟨ob.slots,k b ob q⟩,λ_ _ _ n _=>n,λb ob q _=>⟨ob,k b ob q⟩,λ_ _ q=>q,λ_ _ _ q=>q,λ_ ps q=>⟨#[],by rw[q];simp⟩⟩
theorem Un.refl:Un fs ex H H h h:=Un.kept λ_ _ q=>q
theorem Un.laid(k: ∀b u,h.get? b=some u->h'.get? b=some u)(hp:h.objs.size<=a)(hn:H a=none):Un fs ex H (upd H a o) h h' where
 keep:=λb u q _ _ _=>k b u q
 slot:=λb u q _ _ _=>⟨u.slots,k b u q⟩
 free:=λb u q n _=>by rw[bR (aL (ag (aD q) hp))];exact n
 there:=λb u q _=>⟨u,k b u q⟩
 tups:=λb xs q=>by rw[bR (bI q hn)];exact q
 frzs:=λb u xs q=>by rw[bR (bI q hn)];exact q
 tbls:=λb ps q=>⟨#[],by rw[bR (bI q hn),q];simp⟩
theorem Un.write(mu:Mut (H x))(he:e=x\/H e=some (.own x))(k: ∀b u,b≠e->h.get? b=some u->h'.get? b=some u)(heo: ∃u,h'.get? e=some u):Un fs ex H (upd H x o) h h':=by
 have hx: ∀b,H b=none->b≠x:=λb n z=>by subst z;rw[n]at mu;exact mu
 have hb: ∀b,H b=none->b≠e:=λb n z=>by
  subst z
  rcases he with r |r
  ·exact hx b n r
  ·rw[n]at r;cases r
 have hm: ∀b u,H b=some u -> ¬Mut (some u)->b≠x:=λb u q nm z=>by subst z;rw[q]at mu;exact nm mu
 refine⟨λb u q n _ _=>k b u (hb b n) q,λb u q n _ _=>⟨u.slots,k b u (hb b n) q⟩,λb u q n _=>by rw[bR (hx b n)];exact n,λb u q _ =>?_,
  λb xs q=>by rw[bR (hm b _ q λz=>z)];exact q,λb u xs q=>by rw[bR (hm b _ q λz=>z)];exact q,λb ps q=>⟨#[],by rw[bR (hm b _ q λz=>z),q];simp⟩⟩
 by_cases hbe:b=e
 ·subst hbe;exact heo
 ·exact⟨u,k b u hbe q⟩
end
noncomputable def trk(h:Heap)(H:Hp):List Addr:=(aE h.objs.size).filter λa=>(H a).isSome
noncomputable def vq(h:Heap)(H:Hp):Heap:=PySem.W.hideAll h (trk h H)
theorem AO(h:Heap)(H:Hp):(vq h H).objs.size=h.objs.size:=PySem.W.hideAll_size _ _
theorem rg{h:Heap}{H:Hp}{b:Addr}{o:Obj}(e:h.get? b=some o)(n:H b=none):(vq h H).get? b=some o:=
 PySem.W.hideAll_get _ e λhm=>by
  have q:(H b).isSome=true:=(eI.mp hm).2
  rw[n]at q;simp at q
theorem FV{h:Heap}{H:Hp}{b:Addr}{o:Obj}(e:(vq h H).get? b=some o):h.get? b=some o/\H b=none:=by
 have e':h.get? b=some o:=PySem.W.of_hideAll (trk h H) e
 refine⟨e',?_⟩
 cases q:H b with
 | none=>rfl
 | some x=>
   have hm:b∈trk h H:=eI.mpr ⟨aI.mpr (aD e'),by simp[q]⟩
   have z:(vq h H).get? b=none:=PySem.W.hideAll_none (trk h H) hm
   rw[z]at e;cases e
noncomputable def EW(g h:Heap)(L:Addr):List (Addr×Obj):=(aE h.objs.size).filterMap λa=>if a=L\/(g.get? a).isSome=true then none else(h.get? a).map λo=>(a,o)
noncomputable def rest(g h:Heap)(L d:Addr):List (Addr×Obj):=(EW g h L).filter λp=>decide (p.1≠d)
end _L
namespace _L
open PySem PySem.Spec PyProof.Rows
structure Mod(K:av)(mg:Str->Option Value)(base:Heap):Prop where
 kin:K.In base
 glob:base.Ns mainGlobals mg
 blt : ∃ mb,base.Ns builtinsNs mb /\ ∀ x:Str,x≠"__name__"->mb x=bootBuiltins x
 nolimit:base.NoLimit
set_option genInjectivity false in
structure Cx where
 prog:Program
 w:World
 K:av
 mg:Str->Option Value
 base:Heap
 A:Around
 N:List Str
 s₀:Shared
 H₀:Hp
 env:Env
 outer:List Env
 stack:List Env
 ex:List Addr
 fn:Str->Bool
 calm:Bool
 pn:List (Addr×Obj)
 xe:Value->Shared->Prop
noncomputable def frs(l:List Env):List Addr:=l.filterMap (·.frame)
abbrev Cx.fs(X:Cx):List Addr:=frs X.outer
noncomputable def Vis(sc:Scope)(x:Str):Prop:=sc.names.lookup x=some .local\/sc.names.lookup x=some .cell\/sc.names.lookup x=some .free
noncomputable def Loc(sc:Scope)(x:Str):Prop:=sc.names.lookup x=some .local\/sc.names.lookup x=some .cell
noncomputable def Look(env:Env)(h:Heap)(m:Str->Option Value)(x:Str)(u:Value):Prop:=
 (env.kindOf x=some .local/\m x=some u)\/((env.kindOf x=some .cell\/env.kindOf x=some .free) /\ ∃c,env.cells.lookup x=some c/\h.IsCell c (some u))
structure Cx.Ok(X:Cx):Prop where
 mod:Mod X.K X.mg X.base
 kind:X.env.scope.kind = .function
 glob:X.env.globals=mainGlobals
 blt:X.env.builtins=builtinsNs
 above:X.s₀.heap.objs.size<=X.env.locals
 inj: ∀x y c,X.env.cells.lookup x=some c->X.env.cells.lookup y=some c->x=y
 has: ∀x,(X.env.kindOf x=some .cell\/X.env.kindOf x=some .free) -> ∃c,X.env.cells.lookup x=some c
 cab: ∀x c,X.fn x=true->X.env.cells.lookup x=some c->X.s₀.heap.objs.size<=c
 hd:X.calm=true->X.A.handled=none
 frames:X.A.frames=some X.stack
 stk:X.stack=X.outer\/(X.stack=X.env::X.outer/\X.env.frame=some X.env.locals)
 exf: ∀b∈X.ex,b≠X.env.locals /\ ∀x c,X.env.cells.lookup x=some c->c≠b
 bs: ∀b o,X.base.get? b=some o->X.s₀.heap.get? b=some o/\X.H₀ b=none
 bsz:X.base.objs.size<=X.s₀.heap.objs.size
 noex: ∀b o,X.base.get? b=some o->b∉X.ex
 exfs: ∀b∈X.ex,b∉X.fs
 funs:X.s₀.heap.FunFrames X.base X.outer
 frf: ∀b∈X.fs,X.H₀ b=none
structure Inv(X:Cx)(pins:List (Addr×Obj))(σ:List (Option V))(H:Hp)(s:Shared):Prop where
 ok:X.Ok
 os:s.os=X.s₀.os
 bare:AllBare s.gens
 base:Un X.fs X.ex X.H₀ H X.s₀.heap s.heap
 loc: ∃m,s.heap.Ns X.env.locals m /\ ∀(i:Nat) (x:Str) (v:V),X.N[i]? = some x->σ[i]? = some (some v)->Vis X.env.scope x -> ∃u,RelV v u/\Look X.env s.heap m x u
 cell: ∀x c,X.env.cells.lookup x=some c -> ∃v,s.heap.IsCell c v
 free:H X.env.locals=none
 freeC: ∀x c,X.env.cells.lookup x=some c->H c=none
 pin: ∀p∈X.pn++pins,s.heap.get? p.1=some p.2/\H p.1=none/\p.1≠X.env.locals/\p.1∉X.fs /\ ∀v,p.2.data≠.cell v
 hok:HOk X.prog X.w H s.heap
 len:σ.length=X.N.length
section
variable {X:Cx}{pins:List (Addr×Obj)}{σ:List (Option V)}{H H':Hp}{s:Shared}{h':Heap}
theorem Cx.Ok.nofr(ok:X.Ok){b:Addr}{o:Obj}(e:X.base.get? b=some o):b∉X.fs:=λhb=>by
 have:=(ok.funs.mem hb).1
 rw[e]at this;cases this
theorem Inv.bs(I:Inv X pins σ H s): ∀b o,X.base.get? b=some o->s.heap.get? b=some o/\H b=none:=λb o e=>
 ⟨I.base.keep b o (I.ok.bs b o e).1 (I.ok.bs b o e).2 (I.ok.nofr e) (I.ok.noex b o e),I.base.free b o (I.ok.bs b o e).1 (I.ok.bs b o e).2 (I.ok.noex b o e)⟩
theorem Inv.bk(I:Inv X pins σ H s): ∀b o,X.base.get? b=some o->s.heap.get? b=some o:=λb o e=>(I.bs b o e).1
theorem Inv.mod(I:Inv X pins σ H s):Mod X.K X.mg X.base:=I.ok.mod
theorem Inv.kIn(I:Inv X pins σ H s):X.K.In s.heap:=I.ok.mod.kin.keeps I.bk
theorem Inv.lt(I:Inv X pins σ H s):X.env.locals<s.heap.objs.size:=let ⟨_,hn,_⟩:=I.loc;hn.lt
theorem Inv.sz(I:Inv X pins σ H s):X.s₀.heap.objs.size<=s.heap.objs.size:=aM I.ok.above (bG I.lt)
theorem Inv.nofs(I:Inv X pins σ H s){a:Addr}(h:s.heap.objs.size<=a):a∉X.fs:=λhb=>by
 obtain⟨_,o,ho,_⟩:=I.ok.funs.mem hb
 exact absurd (ag (aD ho) (aM I.sz h)) (bZ _)
theorem Inv.cne(I:Inv X pins σ H s): ∀x c,X.env.cells.lookup x=some c->c≠X.env.locals:=λx c e z=>by
 obtain⟨v,o,ho,hd⟩:=I.cell x c e
 obtain⟨m,⟨o',es,ep,ho',hd',_⟩,_⟩:=I.loc
 rw[z,ho']at ho;cases ho;rw[hd']at hd;cases hd
theorem Inv.funs(I:Inv X pins σ H s):s.heap.FunFrames X.base X.outer:=by
 have all: ∀(l:List Env),(∀b∈frs l,b∈X.fs)->X.s₀.heap.FunFrames X.base l->s.heap.FunFrames X.base l:=by
  intro l
  induction l with
  | nil=>intro _ _;trivial
  | cons env r ih=>
    intro hs hl
    obtain⟨hk,⟨L,o,hf,hn,ho,hd⟩,hr⟩:=hl
    have hL:L∈X.fs:=hs L (by unfold frs;rw[pO,hf];exact dG)
    obtain⟨sl,e⟩:=I.base.slot L o ho (I.ok.frf L hL) hL λz=>I.ok.exfs L z hL
    exact⟨hk,⟨L,_,hf,hn,e,hd⟩,ih (λb hb=>hs b (by unfold frs;rw[pO,hf];exact aC _ hb)) hr⟩
 exact all X.outer (λ_ hb=>hb) I.ok.funs
theorem Inv.stack(I:Inv X pins σ H s):s.heap.FunFrames X.base X.stack:=by
 rcases I.ok.stk with e | ⟨e,hf⟩
 ·rw[e];exact I.funs
 ·rw[e]
  obtain⟨m,hn,_⟩:=I.loc
  refine .cons (by rw[I.ok.kind];decide) hf hn ?_ I.funs
  exact Heap.get?_none_of_le (aM I.ok.bsz I.ok.above)
theorem Inv.stkSub(I:Inv X pins σ H s): ∀b∈frs X.stack,b∈X.env.locals::X.fs:=λb hb=>by
 rcases I.ok.stk with e | ⟨e,hf⟩
 ·rw[e]at hb;exact aC _ hb
 ·rw[e]at hb
  unfold frs at hb
  rw[pO,hf]at hb
  exact hb
theorem Inv.stkFree(I:Inv X pins σ H s): ∀b∈frs X.stack,H b=none:=λb hb=>by
 rcases aO.mp (I.stkSub b hb) with e |hb
 ·rw[e];exact I.free
 ·obtain⟨_,o,ho,_⟩:=I.ok.funs.mem hb
  exact I.base.free b o ho (I.ok.frf b hb) λz=>I.ok.exfs b z hb
theorem Inv.step{g':Array GenState}{t':Nat}{d':Drawn}{ch:List Addr}(I:Inv X pins σ H s)
  (hch: ∀b∈ch,(b∈X.ex\/X.s₀.heap.objs.size<=b)/\b≠X.env.locals/\(∀x c,X.env.cells.lookup x=some c->c≠b) /\ ∀p∈X.pn++pins,p.1≠b)
  (keep: ∀b o,b≠X.env.locals->b∉X.fs->b∉ch->s.heap.get? b=some o->H b=none->h'.get? b=some o)
  (slot: ∀b o,b≠X.env.locals->b∈X.fs->b∉ch->s.heap.get? b=some o->H b=none -> ∃sl,h'.get? b=some { o with slots:=sl }) (free: ∀b o,b∉ch->s.heap.get? b=some o->H b=none->H' b=none)
  (there: ∀b o,b∉ch->s.heap.get? b=some o -> ∃o',h'.get? b=some o')
  (tups: ∀b xs,H b=some (.tup xs)->H' b=some (.tup xs)) (frzs: ∀b o u,H b=some (.frz o u)->H' b=some (.frz o u)) (tbls: ∀b ps,H b=some (.tbl ps) -> ∃more,H' b=some (.tbl (ps++more)))
  (ns: ∀m,s.heap.Ns X.env.locals m->h'.Ns X.env.locals m) (hok:HOk X.prog X.w H' h') (hg:AllBare g'):
  Inv X pins σ H' { s with heap:=h',gens:=g',drawn:=d',toks:=t' }:=by
 have neL: ∀b o,X.s₀.heap.get? b=some o->b≠X.env.locals:=λb o e=>aL (ag (aD e) I.ok.above)
 have neC: ∀b o,X.s₀.heap.get? b=some o->b∉X.ex->b∉ch:=λb o e hx hb=>by
  rcases (hch b hb).1 with z |z
  ·exact hx z
  ·exact absurd (ag (aD e) z) (bZ _)
 have cellK: ∀x c,X.env.cells.lookup x=some c -> ∀v,s.heap.IsCell c v->h'.IsCell c v:=λx c e v ⟨o,ho,hd⟩=>by
  have nch:c∉ch:=λz=>(hch c z).2.2.1 x c e rfl
  by_cases hc:c∈X.fs
  ·obtain⟨sl,q⟩:=slot c o (I.cne x c e) hc nch ho (I.freeC x c e)
   exact⟨_,q,hd⟩
  ·exact⟨o,keep c o (I.cne x c e) hc nch ho (I.freeC x c e),hd⟩
 refine⟨I.ok,I.os,hg,⟨λb o e n hb hx =>?_,λb o e n hb hx =>?_,λb o e n hx =>?_,λb o e hx =>?_,λb xs e=>tups b xs (I.base.tups b xs e),λb o xs e=>frzs b o xs (I.base.frzs b o xs e),λb ps e =>?_⟩,?_,λx c e =>?_,?_,λx c e =>?_,λp hp =>?_,hok,I.len⟩
 ·exact keep b o (neL b o e) hb (neC b o e hx) (I.base.keep b o e n hb hx) (I.base.free b o e n hx)
 ·obtain⟨sl,e1⟩:=I.base.slot b o e n hb hx
  obtain⟨sl',e2⟩:=slot b _ (neL b o e) hb (neC b o e hx) e1 (I.base.free b o e n hx)
  exact⟨sl',e2⟩
 ·obtain⟨o',e1⟩:=I.base.there b o e hx
  exact free b o' (neC b o e hx) e1 (I.base.free b o e n hx)
 ·obtain⟨o',e1⟩:=I.base.there b o e hx
  exact there b o' (neC b o e hx) e1
 ·obtain⟨m1,e1⟩:=I.base.tbls b ps e
  obtain⟨m2,e2⟩:=tbls b _ e1
  exact⟨m1++m2,by rw[e2,Array.append_assoc]⟩
 ·obtain⟨m,hn,hl⟩:=I.loc
  refine⟨m,ns m hn,λi x v e1 e2 e3 =>?_⟩
  obtain⟨u,r,l⟩:=hl i x v e1 e2 e3
  refine⟨u,r,?_⟩
  rcases l with l | ⟨k,c,e,z⟩
  ·exact .inl l
  ·exact .inr ⟨k,c,e,cellK x c e _ z⟩
 ·obtain⟨v,z⟩:=I.cell x c e
  exact⟨v,cellK x c e v z⟩
 ·obtain⟨m,⟨o,_,_,ho,_⟩,_⟩:=I.loc
  exact free _ o (λz=>(hch _ z).2.1 rfl) ho I.free
 ·obtain⟨v,o,ho,hd⟩:=I.cell x c e
  exact free c o (λz=>(hch c z).2.2.1 x c e rfl) ho (I.freeC x c e)
 ·obtain⟨e,n,ne,nf,d⟩:=I.pin p hp
  have nch:p.1∉ch:=λz=>(hch p.1 z).2.2.2 p hp rfl
  exact⟨keep p.1 p.2 ne nf nch e n,free p.1 p.2 nch e n,ne,nf,d⟩
theorem Inv.un{t':Nat}(I:Inv X pins σ H s)(u:Un X.fs [] H H' s.heap h')(hok:HOk X.prog X.w H' h'):Inv X pins σ H' { s with heap:=h',toks:=t' }:=by
 obtain⟨m,⟨o,es,ep,ho,r⟩,_⟩:=id I.loc
 obtain⟨sl,hL⟩:=u.any ho I.free (by simp)
 exact I.step (g':=s.gens) (d':=s.drawn) (ch:= []) (λ_ z=>nomatch z) (λb o _ hb _ e n=>u.keep b o e n hb (by simp)) (λb o _ hb _ e n=>u.slot b o e n hb (by simp)) (λb o _ e n=>u.free b o e n (by simp)) (λb o _ e=>u.there b o e (by simp)) u.tups u.frzs u.tbls (λm' hm=>by
  obtain⟨o',es',ep',ho',r'⟩:=hm
  rw[ho]at ho';cases ho'
  exact⟨_,es',ep',hL,r'⟩) hok I.bare
theorem Inv.call{g':Array GenState}{t':Nat}{d':Drawn}{ch:List Addr}(I:Inv X pins σ H s)(u:Un (frs X.stack) ch H H' s.heap h')(hok:HOk X.prog X.w H' h')(hg:AllBare g')
  (hch: ∀b∈ch,(b∈X.ex\/X.s₀.heap.objs.size<=b)/\b≠X.env.locals/\(∀x c,X.env.cells.lookup x=some c->c≠b) /\ ∀p∈X.pn++pins,p.1≠b):
  Inv X pins σ H' { s with heap:=h',gens:=g',drawn:=d',toks:=t' }:=by
 obtain⟨m,⟨o,es,ep,ho,r⟩,_⟩:=id I.loc
 obtain⟨sl,hL⟩:=u.any ho I.free λz=>(hch _ z).2.1 rfl
 exact I.step (ch:=ch) hch (λb o hL hb hc e n=>u.keep b o e n (λz=>(aO.mp (I.stkSub b z)).elim hL hb) hc) (λb o _ _ hc e n=>u.any e n hc) (λb o hc e n=>u.free b o e n hc) (λb o hc e=>u.there b o e hc) u.tups u.frzs u.tbls (λm' hm=>by
  obtain⟨o',es',ep',ho',r'⟩:=hm
  rw[ho]at ho';cases ho'
  exact⟨_,es',ep',hL,r'⟩) hok hg
theorem Inv.turned{t':Nat}{it:Addr}(I:Inv X pins σ H s)(k: ∀b o,b≠it->s.heap.get? b=some o->h'.get? b=some o)(hn:H it=none)(hL:it≠X.env.locals)
  (h1:it∈X.ex\/X.s₀.heap.objs.size<=it) (h2: ∀x c,X.env.cells.lookup x=some c->c≠it) (h3: ∀p∈X.pn++pins,p.1≠it):Inv X pins σ H { s with heap:=h',toks:=t' }:=by
 have nit: ∀b u,H b=some u->b≠it:=λb u e z=>by rw[z,hn]at e;cases e
 refine I.step (g':=s.gens) (d':=s.drawn) (ch:= [it]) (λb hb =>?_) (λb o _ _ hc e _=>k b o (λz=>hc (by simp[z])) e) (λb o _ _ hc e _=>⟨o.slots,k b o (λz=>hc (by simp[z])) e⟩) (λ_ _ _ _ n=>n)
  (λb o hc e=>⟨o,k b o (λz=>hc (by simp[z])) e⟩) (λ_ _ e=>e) (λ_ _ _ e=>e) (λb ps e=>⟨#[],by rw[e];simp⟩) (λm hm =>?_) (λb u e =>?_) I.bare
 ·have e:b=it:=by simpa using hb
  subst e
  exact⟨h1,hL,h2,h3⟩
 ·obtain⟨o,es,ep,ho,r⟩:=hm
  exact⟨o,es,ep,k _ o (cU hL) ho,r⟩
 ·refine(I.hok b u e).stay (λc v hc q=>k c v ?_ q) (λ_ q=>q) λ_ _ q=>q
  rcases hc with z |z
  ·rw[z];exact nit b u e
  ·exact nit c _ z
theorem Inv.tok(I:Inv X pins σ H s)(t:Nat):Inv X pins σ H { s with toks:=t }:=I.un (h':=s.heap) (t':=t) Un.refl I.hok
theorem Inv.kept{t':Nat}(I:Inv X pins σ H s)(k: ∀b u,s.heap.get? b=some u->h'.get? b=some u):Inv X pins σ H { s with heap:=h',toks:=t' }:=I.un (Un.kept k) (I.hok.kept k)
theorem Inv.laid{a:Addr}{o:HO}{t':Nat}(I:Inv X pins σ H s)(k: ∀b u,s.heap.get? b=some u->h'.get? b=some u)(hp:s.heap.objs.size<=a)(new:dY X.prog X.w (upd H a o) h' a o):
  Inv X pins σ (upd H a o) { s with heap:=h',toks:=t' }:=I.un (Un.laid k hp (I.hok.fresh hp)) (I.hok.laid k hp new)
theorem Inv.write{x e:Addr}{o:HO}{t':Nat}(I:Inv X pins σ H s)(mu:Mut (H x))(he:e=x\/H e=some (.own x))(k: ∀b u,b≠e->s.heap.get? b=some u->h'.get? b=some u)(heo: ∃u,h'.get? e=some u)
  (new:dY X.prog X.w (upd H x o) h' x o):Inv X pins σ (upd H x o) { s with heap:=h',toks:=t' }:=I.un (Un.write mu he k heo) (I.hok.write mu he k heo new)
theorem Inv.weak{σ':List (Option V)}(I:Inv X pins σ H s)(hl:σ'.length=σ.length)(w: ∀(i:Nat) v,σ'[i]? = some (some v)->σ[i]? = some (some v)):Inv X pins σ' H s:=
 ⟨I.ok,I.os,I.bare,I.base,let ⟨m,hn,hl'⟩:=I.loc;⟨m,hn,λi x v e1 e2 e3=>hl' i x v e1 (w i v e2) e3⟩,I.cell,I.free,I.freeC,I.pin,I.hok,hl.trans I.len⟩
theorem Inv.pins_of{pins':List (Addr×Obj)}(I:Inv X pins σ H s)(h: ∀p∈pins',s.heap.get? p.1=some p.2/\H p.1=none/\p.1≠X.env.locals/\p.1∉X.fs /\ ∀v,p.2.data≠.cell v):Inv X pins' σ H s:=
 ⟨I.ok,I.os,I.bare,I.base,I.loc,I.cell,I.free,I.freeC,λp hp=>(be.mp hp).elim (λz=>I.pin p (bo _ z)) (h p),I.hok,I.len⟩
theorem xA{N:List Str}(hN:N.Nodup){i j:Nat}{x:Str}(a:N[i]? = some x)(b:N[j]? = some x):i=j:=by
 obtain⟨h1,e1⟩:=ak.mp a
 obtain⟨h2,e2⟩:=ak.mp b
 exact(List.getElem_inj hN).mp (e1.trans e2.symm)
theorem ub{M:Model}{A:Around}{E:Value->Shared->Prop}{i:Nat}{x:Str}{v:V}{u:Value}{Q:Unit->Shared->Prop}(I:Inv X pins σ H s)(hN:X.N.Nodup)(hi:X.N[i]? = some x)(hx:Loc X.env.scope x)(r:RelV v u)
  (h: ∀s',Inv X pins (σ.set i (some v)) H s'->(∃a,cf a s.heap s'.heap/\(a=X.env.locals\/X.env.cells.lookup x=some a))->Q () s') (hf:autoParam (X.fn x=true\/X.env.scope.names.lookup x=some .local) au4._auto_1):az M A (storeName X.env x u) Q E s:=by
 obtain⟨m,hn,hl⟩:=id I.loc
 have hcls:(X.env.scope.kind==.class||(X.env.scope.kind==.module&&X.env.locals != X.env.globals))=false:=by rw[I.ok.kind];rfl
 have hiσ:i<σ.length:=by rw[I.len];exact(ak.mp hi).1
 have cne:=I.cne
 have tracked: ∀{a:Addr}{h':Heap},(∃o,s.heap.get? a=some o/\H a=none)->cf a s.heap h'->HOk X.prog X.w H h':=λ{a h'} ha hs b ob e=>by
  obtain⟨_,_,hfree⟩:=ha
  refine(I.hok b ob e).stay (λc w' hc q=>(hs.2 c ?_).trans q) (λ_ q=>q) λ_ _ q=>q
  rintro rfl
  rcases hc with rfl |hc
  ·rw[hfree]at e;cases e
  ·rw[hfree]at hc;cases hc
 rcases hx with hk |hk
 ·refine wpAny_storeName_local hk hn (λh' hn' hs =>?_) hcls
  obtain⟨oL,_,_,hoL,_⟩:=id hn
  refine h _ ⟨I.ok,I.os,I.bare,⟨λb o e n hb hx =>?_,λb o e n hb hx =>?_,I.base.free,λb o e hx =>?_,I.base.tups,I.base.frzs,I.base.tbls⟩,⟨_,hn',λj y v' e1 e2 e3 =>?_⟩,λy c e =>?_,I.free,I.freeC,λp hp =>?_,tracked ⟨oL,hoL,I.free⟩ hs,by simpa using I.len⟩ ⟨_,hs,.inl rfl⟩
  ·exact(hs.2 b (aL (ag (aD e) I.ok.above))).trans (I.base.keep b o e n hb hx)
  ·obtain⟨sl,e1⟩:=I.base.slot b o e n hb hx
   exact⟨sl,(hs.2 b (aL (ag (aD e) I.ok.above))).trans e1⟩
  ·obtain⟨o',e1⟩:=I.base.there b o e hx
   exact⟨o',(hs.2 b (aL (ag (aD e) I.ok.above))).trans e1⟩
  ·by_cases hj:j=i
   ·subst hj
    rw[hi]at e1;cases e1
    rw[bq hiσ]at e2
    cases e2
    exact⟨u,r,.inl ⟨hk,by simp⟩⟩
   ·rw[aP (cU hj)]at e2
    obtain⟨u',r',q⟩:=hl j y v' e1 e2 e3
    refine⟨u',r',?_⟩
    rcases q with⟨k,e⟩ | ⟨k,c,e,z⟩
    ·refine .inl ⟨k,?_⟩
     have:y≠x:=λe=>hj (xA hN e1 (e▸hi))
     simp[this,e]
    ·exact .inr ⟨k,c,e,z.sameBut hs (cne y c e)⟩
  ·obtain⟨w',z⟩:=I.cell y c e
   exact⟨w',z.sameBut hs (cne y c e)⟩
  ·obtain⟨e,n,ne,nf,d⟩:=I.pin p hp
   exact⟨(hs.2 p.1 ne).trans e,n,ne,nf,d⟩
 ·have hfn:X.fn x=true:=by
   rcases hf with z |z
   ·exact z
   ·rw[z]at hk;cases hk
  obtain⟨c,hc⟩:=I.ok.has x (.inl hk)
  obtain⟨w',z⟩:=I.cell x c hc
  refine wpAny_storeName_cell I.ok.kind hk hc z (λh' hc' hs =>?_)
  obtain⟨oc,hoc,hocd⟩:=id z
  refine h { s with heap:=h' } ⟨I.ok,I.os,I.bare,⟨λb o e n hb hx =>?_,λb o e n hb hx =>?_,I.base.free,λb o e hx =>?_,I.base.tups,I.base.frzs,I.base.tbls⟩,⟨m,hn.sameBut hs (cU (cne x c hc)),λj y v' e1 e2 e3 =>?_⟩,λy c' e =>?_,I.free,I.freeC,λp hp =>?_,tracked ⟨oc,hoc,I.freeC x c hc⟩ hs,by simpa using I.len⟩ ⟨c,hs,.inr hc⟩
  ·exact(hs.2 b (aL (ag (aD e) (I.ok.cab x c hfn hc)))).trans (I.base.keep b o e n hb hx)
  ·obtain⟨sl,e1⟩:=I.base.slot b o e n hb hx
   exact⟨sl,(hs.2 b (aL (ag (aD e) (I.ok.cab x c hfn hc)))).trans e1⟩
  ·obtain⟨o',e1⟩:=I.base.there b o e hx
   exact⟨o',(hs.2 b (aL (ag (aD e) (I.ok.cab x c hfn hc)))).trans e1⟩
  ·by_cases hj:j=i
   ·subst hj
    rw[hi]at e1;cases e1
    rw[bq hiσ]at e2
    cases e2
    exact⟨u,r,.inr ⟨.inl hk,c,hc,hc'⟩⟩
   ·rw[aP (cU hj)]at e2
    obtain⟨u',r',q⟩:=hl j y v' e1 e2 e3
    refine⟨u',r',?_⟩
    rcases q with q | ⟨k,c',e,z'⟩
    ·exact .inl q
    ·refine .inr ⟨k,c',e,z'.sameBut hs ?_⟩
     rintro rfl
     exact hj (xA hN e1 (I.ok.inj _ _ _ e hc▸hi))
  ·by_cases hcc:c'=c
   ·subst hcc;exact⟨_,hc'⟩
   ·obtain⟨w2,z2⟩:=I.cell y c' e
    exact⟨w2,z2.sameBut hs hcc⟩
  ·obtain⟨e,n,ne,nf,d⟩:=I.pin p hp
   refine⟨(hs.2 p.1 ?_).trans e,n,ne,nf,d⟩
   intro q
   rw[q,hoc]at e
   have q':oc=p.2:=bz e
   exact d w' (by rw[<- q'];exact hocd)
theorem oA{M:Model}{A:Around}{E:Value->Shared->Prop}{i:Nat}{x:Str}{v:V}{u:Value}{Q:Unit->Shared->Prop}(I:Inv X pins σ H s)(hN:X.N.Nodup)(hi:X.N[i]? = some x)(hx:Loc X.env.scope x)(r:RelV v u)
  (h: ∀s',Inv X pins (σ.set i (some v)) H s'->Q () s') (hf:autoParam (X.fn x=true\/X.env.scope.names.lookup x=some .local) au4._auto_1):az M A (storeName X.env x u) Q E s:=
 ub I hN hi hx r (λs' I' _=>h s' I') hf
theorem Inv.call'{s':Shared}{ch:List Addr}(I:Inv X pins σ H s)(ho:s'.os=s.os)(u:Un (frs X.stack) ch H H' s.heap s'.heap)(hok:HOk X.prog X.w H' s'.heap)(hg:AllBare s'.gens)
  (hch: ∀b∈ch,(b∈X.ex\/X.s₀.heap.objs.size<=b)/\b≠X.env.locals/\(∀x c,X.env.cells.lookup x=some c->c≠b) /\ ∀p∈X.pn++pins,p.1≠b):Inv X pins σ H' s':=by
 obtain⟨h',g',d',t',o'⟩:=s'
 have e:o'=s.os:=ho
 subst e
 exact I.call (g':=g') (t':=t') (d':=d') u hok hg hch
end
abbrev XK:=Value->Option Addr->Hp->Prop
abbrev St:=List (Option V)
abbrev VK:=V->Hp->Prop
abbrev TE:=St->Hp->VK->Prop
abbrev TT:=St->Hp->(Bool->Hp->Prop)->Prop
abbrev TA:=St->Hp->(List V->Hp->Prop)->Prop
structure Ends where
 nx:St->Hp->Prop
 rt:VK
 bk:St->Hp->Prop:=λ_ _=>False
 ct:St->Hp->Prop:=λ_ _=>False
abbrev TS:=Ends->St->Hp->Prop
noncomputable def EP(X:Cx)(pins:List (Addr×Obj))(σ:St)(Q:VK)(u:Value)(s':Shared):Prop:= ∃v H',Inv X pins σ H' s'/\RelV v u/\Q v H'
noncomputable def TP(X:Cx)(pins:List (Addr×Obj))(σ:St)(Q:Bool->Hp->Prop)(b:Bool)(s':Shared):Prop:= ∃H',Inv X pins σ H' s'/\Q b H'
noncomputable def AP(X:Cx)(pins:List (Addr×Obj))(σ:St)(Q:List V->Hp->Prop)(us:List Value)(s':Shared):Prop:= ∃vs H',Inv X pins σ H' s'/\b8 vs us/\Q vs H'
noncomputable def SP(X:Cx)(pins:List (Addr×Obj))(D:Ends)(f:Flow)(s':Shared):Prop:=
 match f with
 | .next =>∃σ' H',Inv X pins σ' H' s'/\D.nx σ' H'
 | .brk =>∃σ' H',Inv X pins σ' H' s'/\D.bk σ' H'
 | .cont =>∃σ' H',Inv X pins σ' H' s'/\D.ct σ' H'
 | .ret u =>∃v σ' H',Inv X pins σ' H' s'/\RelV v u/\D.rt v H'
noncomputable def PE(X:Cx)(e:Expr)(t:TE):Prop:=
 ∀(pins:List (Addr×Obj)) (s:Shared) (σ:St) (H:Hp) (Q:VK),Inv X pins σ H s->t σ H Q->az (model X.prog X.w) X.A (eval e X.env) (EP X pins σ Q) X.xe s
noncomputable def PT(X:Cx)(e:Expr)(t:TT):Prop:=
 ∀(pins:List (Addr×Obj)) (s:Shared) (σ:St) (H:Hp) (Q:Bool->Hp->Prop),Inv X pins σ H s->t σ H Q->az (model X.prog X.w) X.A (isTrue e X.env (eval e X.env)) (TP X pins σ Q) X.xe s
noncomputable def PW(X:Cx)(e:Expr)(t:TT):Prop:=
 ∀(whole:Sem Value) (pins:List (Addr×Obj)) (s:Shared) (σ:St) (H:Hp) (Q:Bool->Hp->Prop),Inv X pins σ H s->t σ H Q->az (model X.prog X.w) X.A (isTrue e X.env whole) (TP X pins σ Q) X.xe s
theorem PW.pt{X:Cx}{e:Expr}{t:TT}(h:PW X e t):PT X e t:=h _
noncomputable def PA(X:Cx)(es:List Expr)(t:TA):Prop:=
 ∀(pos:Pos) (pins:List (Addr×Obj)) (s:Shared) (σ:St) (H:Hp) (Q:List V->Hp->Prop),Inv X pins σ H s->t σ H Q->az (model X.prog X.w) X.A (spliced (backTo pos (starEach es X.env))) (AP X pins σ Q) X.xe s
noncomputable def PS(X:Cx)(st:Stmt)(t:TS):Prop:=
 ∀(pins:List (Addr×Obj)) (s:Shared) (σ:St) (H:Hp) (D:Ends),Inv X pins σ H s->t D σ H->az (model X.prog X.w) X.A (exec st X.env) (SP X pins D) X.xe s
noncomputable def PSs(X:Cx)(st:List Stmt)(t:TS):Prop:=
 ∀(pins:List (Addr×Obj)) (s:Shared) (σ:St) (H:Hp) (D:Ends),Inv X pins σ H s->t D σ H->az (model X.prog X.w) X.A (execs st X.env) (SP X pins D) X.xe s
theorem thn{α:Type}{t:Sem α}{Q Q':α->Shared->Prop}{M:Model}{A:Around}{E:Value->Shared->Prop}{s:Shared}(h:az M A t Q E s)(hQ: ∀a s,Q a s->Q' a s):az M A t Q' E s:=cY h hQ λ_ _ x=>x
end _L
namespace _L
open PySem PySem.Spec PyProof.Rows
section
variable {X:Cx}
noncomputable def MQ(i:Nat):TE:=λσ H Q =>∃v,σ[i]? = some (some v)/\Q v H
noncomputable def tC(v:V):TE:=λ_ H Q=>Q v H
theorem Co {i:Nat}{x:Str}{pos:Pos} (hN:X.N[i]? = some x) (hv:Vis X.env.scope x) (hd:autoParam ((x == ("__debug__":Str))=false) au2._auto_1) (hcd:autoParam ((x == ("__classdict__":Str))=false) au2._auto_1):PE X (.Name x pos) (MQ i):=by
 intro pins s σ H Q I h
 obtain⟨v,e,h⟩:=h
 obtain⟨m,hn,hl⟩:=I.loc
 obtain⟨u,r,l⟩:=hl i x v hN e hv
 have fin:EP X pins σ Q u s:=⟨v,H,I,r,h⟩
 rcases l with⟨hk,hm⟩ | ⟨hk,c,hc,hcell⟩
 ·exact wpAny_Name (wpAny_loadName_local I.ok.kind hk hn hm fin) hd
 ·rcases hk with hk |hk
  ·exact wpAny_Name (wpAny_loadName_cell I.ok.kind hk hc hcell fin) hd
  ·exact wpAny_Name (wpAny_loadName_free I.ok.kind hk hc hcell fin hcd) hd
theorem JQ{i j pos}:PE X (.Constant (.int i) j pos) (tC (.int i)):=λ_ _ _ H _ I h=>wpAny_Constant_int ⟨.int i,H,I.tok _,⟨_,rfl⟩,h⟩
theorem K7{b j pos}:PE X (.Constant (.bool b) j pos) (tC (.bl b)):=λ_ _ _ H _ I h=>Constant_bool ⟨.bl b,H,I,rfl,h⟩
theorem HG{j pos}:PE X (.Constant .none j pos) (tC .non):=λ_ _ _ H _ I h=>Constant_none ⟨.non,H,I,rfl,h⟩
theorem Jn{x j pos}:PE X (.Constant (.str x) j pos) (tC (.str x)):=λ_ _ _ H _ I h=>Calls.Constant_str ⟨.str x,H,I.tok _,⟨_,rfl⟩,h⟩
noncomputable def Gl(X:Cx)(x:Str):Prop:=X.env.kindOf x=some .globalImplicit
theorem vE{E:Value->Shared->Prop}{pins:List (Addr×Obj)}{s:Shared}{σ:St}{H:Hp}{x:Str}{u:Value}{pos:Pos}{Q:Value->Shared->Prop}(I:Inv X pins σ H s)(hg:Gl X x)(hm:X.mg x=some u)(h:Q u s)
  (hd:autoParam ((x == ("__debug__":Str))=false) au2._auto_1):az (model X.prog X.w) X.A (eval (.Name x pos) X.env) Q E s:=
 xN I.ok.kind hg (Calls.loadGlobal_global (by rw[I.ok.glob];exact I.mod.glob.keeps I.bk) hm h) hd
theorem hC{E:Value->Shared->Prop}{pins:List (Addr×Obj)}{s:Shared}{σ:St}{H:Hp}{x:Str}{u:Value}{pos:Pos}{Q:Value->Shared->Prop}(I:Inv X pins σ H s)(hg:Gl X x)(hm:X.mg x=none)(hv:bootBuiltins x=some u)(h:Q u s)
  (hn:autoParam (x≠"__name__") au2._auto_1) (hd:autoParam ((x == ("__debug__":Str))=false) au2._auto_1):az (model X.prog X.w) X.A (eval (.Name x pos) X.env) Q E s:=by
 obtain⟨mb,h1,h2⟩:=I.mod.blt
 exact xN I.ok.kind hg (Calls.loadGlobal_builtin (by rw[I.ok.glob];exact I.mod.glob.keeps I.bk) hm (by rw[I.ok.blt];exact h1.keeps I.bk) ((h2 x hn).trans hv) h) hd
theorem FB {x:Str}{v:V}{u:Value}{pos:Pos} (hg:Gl X x) (hm:X.mg x=some u) (r:RelV v u) (hd:autoParam ((x == ("__debug__":Str))=false) au2._auto_1):PE X (.Name x pos) (tC v):=
 λ_ _ _ H _ I h=>vE I hg hm ⟨v,H,I,r,h⟩ hd
theorem Gp {x:Str}{v:V}{u:Value}{pos:Pos} (hg:Gl X x) (hm:X.mg x=none) (hv:bootBuiltins x=some u) (r:RelV v u) (hn:autoParam (x≠"__name__") au2._auto_1) (hd:autoParam ((x == ("__debug__":Str))=false) au2._auto_1):PE X (.Name x pos) (tC v):=
 λ_ _ _ H _ I h=>hC I hg hm hv ⟨v,H,I,r,h⟩ hn hd
variable {a b:Expr}{ta tb:TE}{pos:Pos}
noncomputable def tB(t:TE):TT:=λσ H Q=>t σ H λx H1 =>∃c,x = .bl c/\Q c H1
theorem JS{e:Expr}{t:TE}(h:PE X e t)(he:autoParam (∀whole,isTrue e X.env whole=(do let v <- whole;standAt e.pos;holding [v] (truthy v))) au3._auto_1):PT X e (tB t):=by
 intro pins s σ H Q I hw
 refine isTrue_plain (thn (h pins s σ H _ I hw) λv s1 ⟨x,H1,I1,r1,q1⟩ =>?_) (he _)
 obtain⟨d,rfl,q⟩:=q1
 cases r1
 exact dC ⟨H1,I1,q⟩
variable {tA tB':TT}{rest:List Expr}
noncomputable def Mv(t u:TT):TT:=λσ H Q=>t σ H λc H1=>if c=true then u σ H1 Q else Q false H1
noncomputable def tOr(t u:TT):TT:=λσ H Q=>t σ H λc H1=>if c=true then Q true H1 else u σ H1 Q
noncomputable def M2(t:TT):TT:=λσ H Q=>t σ H λc H1=>Q (!c) H1
theorem EM(ha:PT X a tA):PW X (.BoolOp .And [a] pos) tA:=by
 intro wh pins s σ H Q I h
 refine isTrue_and (thn (ha pins s σ H Q I h) λc s1 e =>?_)
 cases c with
 | true=>exact isTrue_and_nil e
 | false=>exact e
theorem Jc(ha:PT X a tA):PW X (.BoolOp .Or [a] pos) tA:=by
 intro wh pins s σ H Q I h
 refine isTrue_or (thn (ha pins s σ H Q I h) λc s1 e =>?_)
 cases c with
 | false=>exact isTrue_or_nil e
 | true=>exact e
theorem Ib(ha:PT X a tA)(hb:PW X (.BoolOp .And (b::rest) pos) tB'):PW X (.BoolOp .And (a::b::rest) pos) (Mv tA tB'):=by
 intro wh pins s σ H Q I h
 refine isTrue_and (thn (ha pins s σ H _ I h) λc s1 ⟨H1,I1,q1⟩ =>?_)
 cases c with
 | true=>exact hb wh pins s1 σ H1 Q I1 q1
 | false=>exact⟨H1,I1,q1⟩
theorem KY(ha:PT X a tA)(hb:PW X (.BoolOp .Or (b::rest) pos) tB'):PW X (.BoolOp .Or (a::b::rest) pos) (tOr tA tB'):=by
 intro wh pins s σ H Q I h
 refine isTrue_or (thn (ha pins s σ H _ I h) λc s1 ⟨H1,I1,q1⟩ =>?_)
 cases c with
 | true=>exact⟨H1,I1,q1⟩
 | false=>exact hb wh pins s1 σ H1 Q I1 q1
theorem Ji(ha:PT X a tA):PT X (.UnaryOp .Not a pos) (M2 tA):=by
 intro pins s σ H Q I h
 exact isTrue_not (ha pins s σ H (λc H1=>Q (!c) H1) I h)
noncomputable def Hw(ta tb:TE):TE:=λσ H Q=>ta σ H λx H1 =>∃c,x = .bl c/\if c=true then tb σ H1 Q else Q (.bl false) H1
noncomputable def K6(ta tb:TE):TE:=λσ H Q=>ta σ H λx H1 =>∃c,x = .bl c/\if c=true then Q (.bl true) H1 else tb σ H1 Q
noncomputable def G4(ta:TE):TE:=λσ H Q=>ta σ H λx H1 =>∃c,x = .bl c/\Q (.bl (!c)) H1
theorem Jp{op}{t:TE}(h:PE X a t):PE X (.BoolOp op [a] pos) t:=λpins s σ H Q I hw=>BoolOp_one (h pins s σ H Q I hw)
theorem HQ(ha:PE X a ta)(hb:PE X (.BoolOp .And (b::rest) pos) tb):PE X (.BoolOp .And (a::b::rest) pos) (Hw ta tb):=by
 intro pins s σ H Q I h
 refine BoolOp_and (thn (ha pins s σ H _ I h) λv s1 ⟨x,H1,I1,r1,q1⟩ =>?_)
 obtain⟨c,rfl,q1⟩:=q1
 cases r1
 refine dC ?_
 cases c with
 | true=>exact hb pins s1 σ H1 Q I1 q1
 | false=>exact⟨.bl false,H1,I1,rfl,q1⟩
theorem LQ(ha:PE X a ta)(hb:PE X (.BoolOp .Or (b::rest) pos) tb):PE X (.BoolOp .Or (a::b::rest) pos) (K6 ta tb):=by
 intro pins s σ H Q I h
 refine BoolOp_or (thn (ha pins s σ H _ I h) λv s1 ⟨x,H1,I1,r1,q1⟩ =>?_)
 obtain⟨c,rfl,q1⟩:=q1
 cases r1
 refine dC ?_
 cases c with
 | false=>exact hb pins s1 σ H1 Q I1 q1
 | true=>exact⟨.bl true,H1,I1,rfl,q1⟩
theorem Jx(ha:PE X a ta):PE X (.UnaryOp .Not a pos) (G4 ta):=by
 intro pins s σ H Q I h
 refine UnaryOp_ (thn (ha pins s σ H _ I h) λv s1 ⟨x,H1,I1,r1,q1⟩ =>?_)
 obtain⟨c,rfl,q1⟩:=q1
 cases r1
 exact not_of (dC ⟨.bl (!c),H1,I1,rfl,q1⟩)
noncomputable def tIf(t:TT)(ta tb:TE):TE:=λσ H Q=>t σ H λc H1=>if c=true then ta σ H1 Q else tb σ H1 Q
theorem Dj{c:Expr}(hc:PT X c tA)(ha:PE X a ta)(hb:PE X b tb):PE X (.IfExp c a b pos) (tIf tA ta tb):=by
 intro pins s σ H Q I h
 refine wpAny_IfExp (thn (hc pins s σ H _ I h) λd s1 ⟨H1,I1,q1⟩ =>?_)
 cases d with
 | true=>exact ha pins s1 σ H1 Q I1 q1
 | false=>exact hb pins s1 σ H1 Q I1 q1
end
end _L
namespace _L
open PySem PySem.Spec PyProof.Rows
noncomputable def SqL(K:av)(H:Hp)(a:Addr)(xs:List V):Prop:=
 Rd H a (.lst xs) \/
  ∃ (o:Obj) (its:Array Value) (n:Nat),K.lookup a=some o/\o.cls = .type "list"/\o.dict=none/\o.data = .seq its n/\its.size<=sizeLine/\b8 xs its.toList
noncomputable def SqT(K:av)(H:Hp)(a:Addr)(xs:List V):Prop:=
 Rd H a (.tup xs) \/
  ∃ (o:Obj) (its:Array Value) (n:Nat),K.lookup a=some o/\o.cls = .type "tuple"/\o.data = .seq its n/\its.size<=sizeLine/\b8 xs its.toList
noncomputable def Nm:Value->Option V
 | .none=>some .non
 | .bool b=>some (.bl b)
 | .int i _=>some (.int i)
 | .str x _=>some (.str x)
 | .bytes b _=>some (.byt b)
 | .float b _=>some (.flt b)
 | .ref a=>some (.ref a)
 | .type n=>some (.ty n)
 | _=>none
theorem RelV.abs{x:V}{u:Value}(r:RelV x u):Nm u=some x:=by
 cases x with
 | non=>cases r;rfl
 | bl _=>cases r;rfl
 | int _=>obtain⟨t,rfl⟩:=r;rfl
 | str _=>obtain⟨t,rfl⟩:=r;rfl
 | byt _=>obtain⟨t,rfl⟩:=r;rfl
 | flt _=>obtain⟨t,rfl⟩:=r;rfl
 | ref _=>cases r;rfl
 | ty _=>cases r;rfl
theorem RelV.inj{x y:V}{u:Value}(r:RelV x u)(q:RelV y u):x=y:=bz (r.abs.symm.trans q.abs)
theorem b8.inj: ∀{xs ys:List V}{us:List Value},b8 xs us->b8 ys us->xs=ys:=by
 intro xs ys us h
 induction h generalizing ys with
 | nil=>intro q;cases q;rfl
 | cons r t ih=>intro q;cases q with |cons r' t'=>rw[r.inj r',ih t']
section
variable {X:Cx}{pins:List (Addr×Obj)}{σ:St}{H:Hp}{s:Shared}{a:Addr}{xs ys:List V}
theorem SqL.of{K:av}(h:H a=some (.lst xs)):SqL K H a xs:= .inl (.inl h)
theorem Inv.list(I:Inv X pins σ H s)(h:SqL X.K H a xs): ∃its:List Value,b8 xs its/\PlainL s.heap a its.toArray/\xs.length<=sizeLine:=by
 rcases h with h | ⟨o,its,n,hk,hc,hd,hs,hz,r⟩
 ·obtain⟨z,its,n,r,e⟩:=h.ok I.hok
  exact⟨its,r,⟨_,n,e,rfl,rfl,rfl⟩,z⟩
 ·refine⟨its.toList,r,⟨o,n,I.kIn a o hk,hc,hd,by simpa using hs⟩,?_⟩
  have e:=r.length
  simp only[cQ]at e
  omega
theorem Inv.tuple(I:Inv X pins σ H s)(h:SqT X.K H a xs): ∃its:List Value,b8 xs its/\IsTup s.heap a its.toArray/\xs.length<=sizeLine:=by
 rcases h with h | ⟨o,its,n,hk,hc,hs,hz,r⟩
 ·obtain⟨z,its,r,p⟩:=h.ok I.hok
  exact⟨its,r,p.1,z⟩
 ·refine⟨its.toList,r,⟨o,I.kIn a o hk,hc,n,by simpa using hs⟩,?_⟩
  have e:=r.length
  simp only[cQ]at e
  omega
theorem Inv.list_inj(I:Inv X pins σ H s)(h:SqL X.K H a xs)(h':SqL X.K H a ys):xs=ys:=by
 obtain⟨its,r,⟨o,n,e,_,_,d⟩,_⟩:=I.list h
 obtain⟨its',r',⟨o',n',e',_,_,d'⟩,_⟩:=I.list h'
 rw[e]at e';cases e'
 rw[d]at d'
 injection d' with d1 _
 have:its=its':=by simpa using congrArg Array.toList d1
 subst this
 exact r.inj r'
theorem Inv.tuple_inj(I:Inv X pins σ H s)(h:SqT X.K H a xs)(h':SqT X.K H a ys):xs=ys:=by
 obtain⟨its,r,⟨o,e,_,n,d⟩,_⟩:=I.tuple h
 obtain⟨its',r',⟨o',e',_,n',d'⟩,_⟩:=I.tuple h'
 rw[e]at e';cases e'
 rw[d]at d'
 injection d' with d1 _
 have:its=its':=by simpa using congrArg Array.toList d1
 subst this
 exact r.inj r'
end
abbrev Cx.wish(X:Cx)(E:Value->Shared->Prop):Cx:={ X with xe:=E }
abbrev Cx.nox(X:Cx):Cx:=X.wish λ_ _=>False
theorem Cx.Ok.wish{X:Cx}(ok:X.Ok)(E:Value->Shared->Prop):(X.wish E).Ok:=
 ⟨ok.mod,ok.kind,ok.glob,ok.blt,ok.above,ok.inj,ok.has,ok.cab,ok.hd,ok.frames,ok.stk,ok.exf,ok.bs,ok.bsz,ok.noex,ok.exfs,ok.funs,ok.frf⟩
theorem Cx.Ok.unwish{X:Cx}{E:Value->Shared->Prop}(ok:(X.wish E).Ok):X.Ok:=
 ⟨ok.mod,ok.kind,ok.glob,ok.blt,ok.above,ok.inj,ok.has,ok.cab,ok.hd,ok.frames,ok.stk,ok.exf,ok.bs,ok.bsz,ok.noex,ok.exfs,ok.funs,ok.frf⟩
section
variable {X:Cx}{pins:List (Addr×Obj)}{σ:St}{H:Hp}{s:Shared}{E:Value->Shared->Prop}
theorem Inv.wish(I:Inv X pins σ H s)(E:Value->Shared->Prop):Inv (X.wish E) pins σ H s:=⟨I.ok.wish E,I.os,I.bare,I.base,I.loc,I.cell,I.free,I.freeC,I.pin,I.hok,I.len⟩
theorem Inv.unwish(I:Inv (X.wish E) pins σ H s):Inv X pins σ H s:=⟨I.ok.unwish,I.os,I.bare,I.base,I.loc,I.cell,I.free,I.freeC,I.pin,I.hok,I.len⟩
theorem SP.unwish{D:Ends}{f:Flow}{s':Shared}(h:SP (X.wish E) pins D f s'):SP X pins D f s':=by
 cases f with
 | next=>obtain⟨σ',H',I,q⟩:=h;exact⟨σ',H',I.unwish,q⟩
 | brk=>obtain⟨σ',H',I,q⟩:=h;exact⟨σ',H',I.unwish,q⟩
 | cont=>obtain⟨σ',H',I,q⟩:=h;exact⟨σ',H',I.unwish,q⟩
 | ret u=>obtain⟨v,σ',H',I,r,q⟩:=h;exact⟨v,σ',H',I.unwish,r,q⟩
theorem PSs.nox{st:List Stmt}{t:TS}(h:PSs X.nox st t):PSs X st t:=λpins s σ H D I hw=>
 cY (h pins s σ H D (I.wish _) hw) (λ_ _ q=>q.unwish) λ_ _ z=>dr z
end
section
variable {X:Cx}{st:Stmt}{rest:List Stmt}{t u:TS}{e:Expr}{te:TE}{pos:Pos}
noncomputable def Eh:TS:=λD σ H=>D.nx σ H
noncomputable def L7(t u:TS):TS:=λD σ H=>t { D with nx:=u D } σ H
theorem F5:PSs X [] Eh:=λ_ _ σ H _ I h=>pP ⟨σ,H,I,h⟩
theorem Ct(h1:PS X st t)(h2:PSs X rest u):PSs X (st::rest) (L7 t u):=by
 intro pins s σ H D I h
 refine wpAny_execs_cons (thn (h1 pins s σ H { D with nx:=u D } I h) λf s1 q =>?_)
 cases f with
 | next=>
   obtain⟨σ',H',I',q⟩:=q
   exact h2 pins s1 σ' H' D I' q
 | ret v=>exact q
 | brk=>exact q
 | cont=>exact q
theorem FT(h1:PS X st t):PSs X [st] t:=by
 intro pins s σ H D I h
 refine wpAny_execs_cons (thn (h1 pins s σ H D I h) λf s1 q =>?_)
 cases f with
 | next=>exact pP q
 | ret v=>exact q
 | brk=>exact q
 | cont=>exact q
noncomputable def Iw:TS:=λD σ H=>D.bk σ H
noncomputable def Lr:TS:=λD σ H=>D.ct σ H
theorem Fk:PS X (.Pass pos) Eh:=λ_ _ σ H _ I h=>wpAny_Pass ⟨σ,H,I,h⟩
theorem DR:PS X (.Break pos) Iw:=λ_ _ σ H _ I h=>wpAny_Break ⟨σ,H,I,h⟩
theorem xc:PS X (.Continue pos) Lr:=λ_ _ σ H _ I h=>wpAny_Continue ⟨σ,H,I,h⟩
theorem Inv.quiet{pins:List (Addr×Obj)}{σ:St}{H:Hp}{s:Shared}(I:Inv X pins σ H s):interactive X.env=false:=by simp[interactive,I.ok.kind]
noncomputable def GV(te:TE):TS:=λD σ H=>te σ H λ_ H1=>D.nx σ H1
theorem Fy(he:PE X e te)(hs:autoParam (swapsWith e none pos.line X.env=pure false) au1._auto_1):PS X (.Expr e pos) (GV te):=by
 intro pins s σ H D I h
 exact wpAny_Expr_any (thn (he pins s σ H _ I h) λv s1 ⟨x,H1,I1,r1,q1⟩=>⟨σ,H1,I1,q1⟩) I.quiet hs
noncomputable def M9(te:TE):TS:=λD σ H=>te σ H D.rt
theorem Jz(he:PE X e te):PS X (.Return (some e) pos) (M9 te):=by
 intro pins s σ H D I h
 exact wpAny_Return_some (thn (he pins s σ H _ I h) λv s1 ⟨x,H1,I1,r1,q1⟩=>⟨x,σ,H1,I1,r1,q1⟩)
noncomputable def K0:TS:=λD _ H=>D.rt .non H
theorem FC:PS X (.Return none pos) K0:=λ_ _ σ H _ I h=>wpAny_Return_none ⟨.non,σ,H,I,rfl,h⟩
noncomputable def LO(c:TT)(t u:TS):TS:=λD σ H=>c σ H λb H1=>if b=true then t D σ H1 else u D σ H1
theorem M6{c:Expr}{a b:List Stmt}{tc:TT}(hc:PT X c tc)(ha:PSs X a t)(hb:PSs X b u):PS X (.If c a b pos) (LO tc t u):=by
 intro pins s σ H D I h
 refine wpAny_If (thn (hc pins s σ H _ I h) λd s1 ⟨H1,I1,q1⟩ =>?_)
 cases d with
 | true=>exact ha pins s1 σ H1 D I1 q1
 | false=>exact hb pins s1 σ H1 D I1 q1
end
abbrev TG:=V->St->Hp->(St->Hp->Prop)->Prop
abbrev TGs:=List V->St->Hp->(St->Hp->Prop)->Prop
noncomputable def PG(X:Cx)(target:Expr)(t:TG):Prop:=
 ∀(pins:List (Addr×Obj)) (s:Shared) (σ:St) (H:Hp) (v:V) (u:Value) (Q:St->Hp->Prop),Inv X pins σ H s->RelV v u->t v σ H Q ->
  az (model X.prog X.w) X.A (assign target X.env u) (λ_ s' =>∃σ' H',Inv X pins σ' H' s'/\Q σ' H') X.xe s
noncomputable def PGs(X:Cx)(ts:List Expr)(t:TGs):Prop:=
 ∀(pins:List (Addr×Obj)) (s:Shared) (σ:St) (H:Hp) (vs:List V) (us:List Value) (Q:St->Hp->Prop),Inv X pins σ H s->b8 vs us->t vs σ H Q ->
  az (model X.prog X.w) X.A (assignInOrder ((assignEach ts X.env).map (·.2)) us) (λ_ s' =>∃σ' H',Inv X pins σ' H' s'/\Q σ' H') X.xe s
abbrev Eb:=V->V->V->Hp->(Hp->Prop)->Prop
noncomputable def Ie(X:Cx)(t:Eb):Prop:=
 ∀(pins:List (Addr×Obj)) (s:Shared) (σ:St) (H:Hp) (o i v:V) (ov iv u:Value) (Q:Hp->Prop),Inv X pins σ H s->RelV o ov->RelV i iv->RelV v u->t o i v H Q ->
  az (model X.prog X.w) X.A (setItem ov iv u) (λ_ s' =>∃H',Inv X pins σ H' s'/\Q H') X.xe s
abbrev TIp:=V->V->Hp->VK->Prop
noncomputable def PIp(X:Cx)(op:Operator)(t:TIp):Prop:=
 ∀(pins:List (Addr×Obj)) (s:Shared) (σ:St) (H:Hp) (x y:V) (v u:Value) (Q:VK),Inv X pins σ H s->RelV x v->RelV y u->t x y H Q ->
  az (model X.prog X.w) X.A (inplaceOp op v u) (EP X pins σ Q) X.xe s
section
variable {X:Cx}{pos:Pos}
noncomputable def iO(i:Nat):TG:=λv σ H Q=>Q (σ.set i (some v)) H
theorem zU{i:Nat}{x:Str}(hN:X.N.Nodup)(hi:X.N[i]? = some x)(hx:Loc X.env.scope x)(hf:autoParam (X.fn x=true\/X.env.scope.names.lookup x=some .local) au4._auto_1):PG X (.Name x pos) (iO i):=by
 intro pins s σ H v u Q I r h
 exact xO (oA I hN hi hx r (λs' I'=>⟨_,H,I',h⟩) hf)
noncomputable def Md:TGs:=λvs σ H Q=>vs = []/\Q σ H
noncomputable def Hd(t:TG)(u:TGs):TGs:=λvs σ H Q =>∃v r,vs=v::r/\t v σ H λσ' H'=>u r σ' H' Q
theorem Gq:PGs X [] Md:=by
 intro pins s σ H vs us Q I r h
 obtain⟨e,h⟩:=h
 subst e
 cases r
 exact assignInOrder_nil ⟨σ,H,I,h⟩
theorem DC{e:Expr}{es:List Expr}{t:TG}{u:TGs}(h1:PG X e t)(h2:PGs X es u)
  (hs:autoParam ((assignEach (e::es) X.env).map (·.2)=assign e X.env::(assignEach es X.env).map (·.2)) au1._auto_1):PGs X (e::es) (Hd t u):=by
 intro pins s σ H vs us Q I r h
 obtain⟨v,vr,e1,h⟩:=h
 subst e1
 cases r with
 | cons r rr=>
   rw[hs]
   refine assignInOrder_cons (thn (h1 pins s σ H _ _ _ I r h) λ_ s1 ⟨σ1,H1,I1,q1⟩ =>?_)
   exact h2 pins s1 σ1 H1 _ _ Q I1 rr q1
noncomputable def MN(K:av)(n:Nat)(t:TGs):TG:=λv σ H Q =>∃a xs,v = .ref a/\SqT K H a xs/\xs.length=n/\t xs σ H Q
theorem HW{es:List Expr}{k:Nat}{t:TGs}{n:Nat}(hc:X.calm=true)(h:PGs X es t)
  (hn:autoParam ((assignEach es X.env).length=n) au1._auto_1) (hst:autoParam ((assignEach es X.env).findIdx? (·.1)=none) au1._auto_1):PG X (.Tuple es k pos) (MN X.K n t):=by
 intro pins s σ H v u Q I r hw
 obtain⟨a,xs,e1,hq,hl,hw⟩:=hw
 subst e1
 cases r
 obtain⟨its,rv,ht,hz⟩:=I.tuple hq
 refine assign_Tuple_tuple (I.ok.hd hc) ht (by simp[hn,<- hl,rv.length]) hst λh' hx =>?_
 have I1:Inv X pins σ H { s with heap:=h' }:=I.kept (t':=s.toks) λb o e=>hx b o (aL (aD e)) e
 exact h pins _ σ H xs _ Q I1 (by simpa using rv) hw
noncomputable def K2(to ti:TE)(t:Eb):TG:=λv σ H Q=>to σ H λo H1=>ti σ H1 λi H2=>t o i v H2 λH3=>Q σ H3
theorem Iq{o i:Expr}{to ti:TE}{t:Eb}(ho:PE X o to)(hi:PE X i ti)(hs:Ie X t)
  (ha:autoParam (∀v,assign (.Subscript o i pos) X.env v=(do
   let ov <- holding [v] (eval o X.env)
   let iv <- holding [v,ov] (eval i X.env)
   standAt pos
   holding [v,ov,iv] (setItem ov iv v)
   release [v,ov,iv] [])) au3._auto_1):PG X (.Subscript o i pos) (K2 to ti t):=by
 intro pins s σ H v u Q I r h
 rw[ha]
 refine af (df (thn (ho pins s σ H _ I h) λov s1 ⟨x,H1,I1,r1,q1⟩ =>?_))
 refine af (df (thn (hi pins s1 σ H1 _ I1 q1) λiv s2 ⟨y,H2,I2,r2,q2⟩ =>?_))
 refine af (wpAny_standAt (af (df (thn (hs pins s2 σ H2 x y v ov iv u _ I2 r1 r2 r q2) λ_ s3 ⟨H3,I3,q3⟩ =>?_))))
 exact wpAny_release ⟨σ,H3,I3,q3⟩
noncomputable def BV(te:TE)(g:TG):TS:=λD σ H=>te σ H λx H1=>g x σ H1 D.nx
theorem Hz{tg e:Expr}{te:TE}{g:TG}(he:PE X e te)(hg:PG X tg g)(hs:autoParam (swapsWithSole [tg] e pos.line X.env=pure false) au1._auto_1)(hw:autoParam (swappedStores [tg] e X.env=pure none) au1._auto_1)
  (h1:autoParam ((assignEach [tg] X.env).map (·.2) = [assign tg X.env]) au1._auto_1):PS X (.Assign [tg] e pos) (BV te g):=by
 intro pins s σ H D I h
 refine wpAny_Assign_stores (thn (he pins s σ H _ I h) λv s1 ⟨x,H1,I1,r1,q1⟩ =>?_) hs hw
 rw[h1]
 exact thn (hg pins s1 σ H1 x v _ I1 r1 q1) λ_ s2 q=>q
theorem IY{i:Nat}{x:Str}{e:Expr}{te:TE}{pos':Pos}(hN:X.N.Nodup)(hi:X.N[i]? = some x)(hx:Loc X.env.scope x)(he:PE X e te)(hs:autoParam (swapsWith e (some (.Name x pos')) pos.line X.env=pure false) au1._auto_1)(hf:autoParam (X.fn x=true\/X.env.scope.names.lookup x=some .local) au4._auto_1):
  PS X (.Assign [.Name x pos'] e pos) (BV te (iO i)):=by
 intro pins s σ H D I h
 refine wpAny_Assign_Name (thn (he pins s σ H _ I h) λv s1 ⟨y,H1,I1,r1,q1⟩ =>?_) hs
 exact oA I1 hN hi hx r1 (λs2 I2=>⟨_,H1,I2,q1⟩) hf
noncomputable def L0(i:Nat)(te:TE)(ti:TIp):TS:=λD σ H =>∃x,σ[i]? = some (some x)/\te σ H λy H1=>ti x y H1 λz H2=>D.nx (σ.set i (some z)) H2
theorem Ka{i:Nat}{x:Str}{e:Expr}{te:TE}{op:Operator}{ti:TIp}{pos':Pos}(hN:X.N.Nodup)(hi:X.N[i]? = some x)(hx:Loc X.env.scope x)(he:PE X e te)(ho:PIp X op ti)(hf:autoParam (X.fn x=true\/X.env.scope.names.lookup x=some .local) au4._auto_1):
  PS X (.AugAssign (.Name x pos') op e pos) (L0 i te ti):=by
 intro pins s σ H D I h
 obtain⟨v,e1,h⟩:=h
 obtain⟨m,hn,hl⟩:=I.loc
 have vis:Vis X.env.scope x:=by rcases hx with k |k;exact .inl k;exact .inr (.inl k)
 obtain⟨u,r,l⟩:=hl i x v hi e1 vis
 refine wpAny_AugAssign_Name ?_
 have go:az (model X.prog X.w) X.A (eval e X.env) (λw s₂=>az (model X.prog X.w) X.A (inplaceOp op u w) (λr s₃=>az (model X.prog X.w) X.A (storeName X.env x r) (λ_=>SP X pins D .next) X.xe s₃) X.xe s₂) X.xe s:=by
  refine thn (he pins s σ H _ I h) λw s1 ⟨y,H1,I1,r1,q1⟩ =>?_
  refine thn (ho pins s1 σ H1 v y u w _ I1 r r1 q1) λz s2 ⟨zv,H2,I2,r2,q2⟩ =>?_
  exact oA I2 hN hi hx r2 (λs3 I3=>⟨_,H2,I3,q2⟩) hf
 rcases l with⟨hk,hm⟩ | ⟨hk,c,hc,hcell⟩
 ·exact wpAny_loadName_local I.ok.kind hk hn hm go
 ·rcases hk with hk |hk
  ·exact wpAny_loadName_cell I.ok.kind hk hc hcell go
  ·rcases hx with k |k
   ·have:X.env.scope.names.lookup x=some .free:=hk
    rw[k]at this;cases this
   ·have:X.env.scope.names.lookup x=some .free:=hk
    rw[k]at this;cases this
noncomputable def ipI(f:Int->Int->Int):TIp:=λx y H Q =>∃i j,x = .int i/\y = .int j/\Q (.int (f i j)) H
theorem Kh:PIp X .Add (ipI λi j=>i+j):=by
 intro pins s σ H x y v u Q I r1 r2 h
 obtain⟨i,j,e1,e2,q⟩:=h
 subst e1;subst e2
 obtain⟨t,rfl⟩:=r1
 obtain⟨t',rfl⟩:=r2
 exact iadd_int ⟨.int _,H,I.tok _,⟨_,rfl⟩,q⟩
end
section
variable {X:Cx}{pos:Pos}
noncomputable def B9(c:TT)(tb:TS):TS:=λD σ H =>∃W:Nat->St->Hp->Prop,(∃m,W m σ H) /\ ∀m σ H,W m σ H ->
 c σ H λb H1=>if b=true then ∃N:St->Hp->Prop,(∀σ' H',N σ' H' -> ∃m',m'<m/\W m' σ' H')/\tb { D with nx:=N,ct:=N,bk:=D.nx } σ H1 else D.nx σ H1
theorem CF{c:Expr}{body:List Stmt}{tc:TT}{tb:TS}(hp:PassesOwn (model X.prog X.w) X.A X.env X.xe)(hc:PT X c tc)(hb:PSs X body tb):PS X (.While c body [] pos) (B9 tc tb):=by
 intro pins s σ H D I h
 obtain⟨W,⟨m0,w0⟩,turn⟩:=h
 refine wpAny_While (codeAny_whileLoop (λn s' =>∃σ' H',Inv X pins σ' H' s'/\W n σ' H') ?_ m0 ⟨σ,H,I,w0⟩)
 rintro n s1 ⟨σ1,H1,I1,w1⟩
 refine f9 hp (thn (hc pins s1 σ1 H1 _ I1 (turn n σ1 H1 w1)) λb s2 ⟨H2,I2,q2⟩ =>?_)
 cases b with
 | true=>
   obtain⟨N,hN,q2⟩:=q2
   rw[if_pos rfl]
   refine f9 hp (thn (hb pins s2 σ1 H2 _ I2 q2) λf s3 q3 =>?_)
   cases f with
   | next=>
     obtain⟨σ3,H3,I3,n3⟩:=q3
     obtain⟨m',hm,w3⟩:=hN σ3 H3 n3
     exact⟨m',hm,σ3,H3,I3,w3⟩
   | cont=>
     obtain⟨σ3,H3,I3,n3⟩:=q3
     obtain⟨m',hm,w3⟩:=hN σ3 H3 n3
     exact⟨m',hm,σ3,H3,I3,w3⟩
   | brk=>exact q3
   | ret v=>exact q3
 | false=>
   rw[if_neg bE]
   exact pP ⟨σ1,H2,I2,q2⟩
end
structure It where
 go:Nat->Hp->Prop
 yld:Nat->Hp->V->Hp->Prop
 stop:Nat->Hp->Prop
noncomputable def sQ(X:Cx)(pins:List (Addr×Obj))(H:Hp)(b:Addr):Prop:=
 H b=none/\b≠X.env.locals/\b∉X.fs/\(b∈X.ex\/X.s₀.heap.objs.size<=b)/\(∀x c,X.env.cells.lookup x=some c->c≠b) /\ ∀p∈X.pn++pins,p.1≠b
theorem Inv.fpOk{X:Cx}{pins:List (Addr×Obj)}{σ:St}{H H':Hp}{s:Shared}{b:Addr}(I:Inv X pins σ H s)(hb:s.heap.objs.size<=b)(hn:H' b=none):sQ X pins H' b:=by
 refine⟨hn,cj (ag I.lt hb),I.nofs hb,.inr (aM I.sz hb),λx c e z =>?_,λp hp z =>?_⟩
 ·obtain⟨v,q⟩:=I.cell x c e
  exact absurd (ag q.lt (by rw[z];exact hb)) (bZ _)
 ·exact absurd (ag (aD (I.pin p hp).1) (by rw[z];exact hb)) (bZ _)
structure Turn(P:Program)(w:World)(K:av)(tg:Expr)(J:It)(fp:List Addr)(it:Addr)(tn:Nat->Heap->Prop):Prop where
 mem:it∈fp
 obj: ∀i h,tn i h -> ∀b∈fp,∃o,h.get? b=some o /\ ∀v,o.data≠.cell v
 keep: ∀i h h',tn i h->(∀b∈fp,∀o,h.get? b=some o->h'.get? b=some o)->tn i h'
 item: ∀(X:Cx),X.prog=P->X.w=w->X.K=K->X.calm=true -> ∀(i:Nat) (pins:List (Addr×Obj)) (s:Shared) (σ:St) (H:Hp) (E:Value->Shared->Prop),Inv X pins σ H s->(∀b∈fp,sQ X pins H b)->tn i s.heap->J.go i H ->
  az (model P w) X.A (pyNext (.ref it)) (λr s1 =>∃u,r=some u /\
   az (model P w) X.A (letOwnedTupleGo tg (.ref it) u) (λ_ s2 =>∃x H',Inv X pins σ H' s2/\RelV x u/\J.yld i H x H'/\tn (i+1) s2.heap /\ ∀b∈fp,H' b=none) E s1) E s
 done: ∀(X:Cx),X.prog=P->X.w=w->X.K=K->X.calm=true -> ∀(i:Nat) (pins:List (Addr×Obj)) (s:Shared) (σ:St) (H:Hp) (E:Value->Shared->Prop),Inv X pins σ H s->(∀b∈fp,sQ X pins H b)->tn i s.heap->J.stop i H ->
  az (model P w) X.A (pyNext (.ref it)) (λr s1=>r=none/\Inv X pins σ H s1) E s
 self: ∀(A:Around) (i:Nat) (s:Shared) (Q:Value->Shared->Prop) (E:Value->Shared->Prop),tn i s.heap->Q (.ref it) s->az (model P w) A (pyIter (.ref it)) Q E s
abbrev TI:=St->Hp->(It->Hp->Prop)->Prop
noncomputable def PIE(X:Cx)(pins:List (Addr×Obj))(σ:St)(tg:Expr)(R:It->Hp->Prop)(itv:Value)(s2:Shared):Prop:=
 ∃(it:Addr) (fp:List Addr) (tn:Nat->Heap->Prop) (J:It) (H':Hp),itv = .ref it/\Inv X pins σ H' s2/\Turn X.prog X.w X.K tg J fp it tn/\tn 0 s2.heap/\(∀b∈fp,sQ X pins H' b)/\R J H'
noncomputable def PI(X:Cx)(tg iter:Expr)(wi:TI):Prop:=
 ∀(pins:List (Addr×Obj)) (s:Shared) (σ:St) (H:Hp) (R:It->Hp->Prop),Inv X pins σ H s->wi σ H R ->
  az (model X.prog X.w) X.A (eval iter X.env) (λv s1=>az (model X.prog X.w) X.A (pyIter v) (PIE X pins σ tg R) X.xe s1) X.xe s
theorem zM{M:Model}{A:Around}{E:Value->Shared->Prop}{s:Shared}{tg:Expr}{it:Addr}{u:Value}{o:Obj}{n:String}{vs:Array Value}{Q:Unit->Shared->Prop}(ho:s.heap.get? it=some o)(hc:o.cls = .type n)(hd:o.data = .fields vs)
  (hn : ["enumerate","zip","dict_itemiterator","dict_reverseitemiterator","odict_iterator","itertools.zip_longest","itertools.pairwise"].contains n=false) (hQ:Q () s):az M A (letOwnedTupleGo tg (.ref it) u) Q E s:=by
 unfold letOwnedTupleGo
 cases tg <;> first
  | exact aj hQ
  | (cases u <;> first
    | exact aj hQ
    | (refine af (vM ho ?_)
       rw[hc,hd]
       show az M A (if (["enumerate","zip","dict_itemiterator","dict_reverseitemiterator","odict_iterator","itertools.zip_longest","itertools.pairwise"].contains n&&vs[0]? == some (rawInt _))=true then _ else _) Q E s
       rw[if_neg (by intro h;rw[hn,Bool.false_and]at h;cases h)]
       exact aj hQ))
noncomputable def Itl(K:av)(a:Addr):It:=
 ⟨λi H =>∃xs x,SqL K H a xs/\xs[i]? = some x,λi H x H'=>H'=H /\ ∀xs,SqL K H a xs->xs[i]? = some x,λi H =>∃xs,SqL K H a xs/\xs.length<=i⟩
noncomputable def Itt(K:av)(a:Addr):It:=
 ⟨λi H =>∃xs x,SqT K H a xs/\xs[i]? = some x,λi H x H'=>H'=H /\ ∀xs,SqT K H a xs->xs[i]? = some x,λi H =>∃xs,SqT K H a xs/\xs.length<=i⟩
noncomputable def Itr(lo:Int)(n:Nat):It:=⟨λi _=>i<n,λi H x H'=>H'=H/\x = .int (lo+i),λi _=>n<=i⟩
theorem Bt{P:Program}{w:World}{K:av}{tg:Expr}(a it:Addr):Turn P w K tg (Itl K a) [it] it (λi h=>h.IsListIter it a i) where
 mem:=by simp
 obj:=λi h st b hb=>by
  have e:b=it:=by simpa using hb
  subst e
  obtain⟨o,e,c,d⟩:=st
  exact⟨o,e,λv z=>by rw[d]at z;cases z⟩
 keep:=λi h h' st k=>st.at λo e=>k it (by simp) o e
 item:=by
  intro X hP hw hK hc i pins s σ H E I hf st hg
  subst hP hw hK
  obtain⟨xs,x,hq,hx⟩:=hg
  obtain⟨its,rv,p,hz⟩:=I.list hq
  obtain⟨u,hu,ru⟩:=rv.get hx
  obtain⟨f0,f1,f2,f3,f4,f5⟩:=hf it (by simp)
  refine wpAny_pyNext_list_item st p.isList (x:=u) (by simpa using hu) λh' st' sb =>?_
  have I1:Inv X pins σ H { s with heap:=h' }:=I.turned (t':=s.toks) (λb o hb e=>(sb.2 b hb).trans e) f0 f1 f3 f4 f5
  obtain⟨o,e,c,d⟩:=id st'
  exact⟨u,rfl,zM (s:={ s with heap:=h' }) e c d (by decide) ⟨x,H,I1,ru,⟨rfl,λys hy=>by rw[I.list_inj hy hq];exact hx⟩,st',λb hb=>(hf b hb).1⟩⟩
 done:=by
  intro X hP hw hK hc i pins s σ H E I hf st hg
  subst hP hw hK
  obtain⟨xs,hq,hx⟩:=hg
  obtain⟨its,rv,p,hz⟩:=I.list hq
  obtain⟨f0,f1,f2,f3,f4,f5⟩:=hf it (by simp)
  have hl:=rv.length
  exact wpAny_pyNext_list_end (I.ok.hd hc) st p.isList (by simp;omega) λh' eb=>⟨rfl,I.turned (t':=s.toks) (λb o hb e=>eb b o hb e) f0 f1 f3 f4 f5⟩
 self:=λ_ _ _ _ _ st h=>wpAny_pyIter_listiter st h
theorem yv{P:Program}{w:World}{K:av}{tg:Expr}(a it:Addr):Turn P w K tg (Itt K a) [it] it (λi h=>h.IsTupleIter it a i) where
 mem:=by simp
 obj:=λi h st b hb=>by
  have e:b=it:=by simpa using hb
  subst e
  obtain⟨o,e,c,d⟩:=st
  exact⟨o,e,λv z=>by rw[d]at z;cases z⟩
 keep:=λi h h' st k=>st.at λo e=>k it (by simp) o e
 item:=by
  intro X hP hw hK hc i pins s σ H E I hf st hg
  subst hP hw hK
  obtain⟨xs,x,hq,hx⟩:=hg
  obtain⟨its,rv,p,hz⟩:=I.tuple hq
  obtain⟨u,hu,ru⟩:=rv.get hx
  obtain⟨f0,f1,f2,f3,f4,f5⟩:=hf it (by simp)
  refine wpAny_pyNext_tuple_item st (show s.heap.IsTuple a its.toArray from p) (x:=u) (by simpa using hu) λh' st' sb =>?_
  have I1:Inv X pins σ H { s with heap:=h' }:=I.turned (t':=s.toks) (λb o hb e=>(sb.2 b hb).trans e) f0 f1 f3 f4 f5
  obtain⟨o,e,c,d⟩:=id st'
  exact⟨u,rfl,zM (s:={ s with heap:=h' }) e c d (by decide) ⟨x,H,I1,ru,⟨rfl,λys hy=>by rw[I.tuple_inj hy hq];exact hx⟩,st',λb hb=>(hf b hb).1⟩⟩
 done:=by
  intro X hP hw hK hc i pins s σ H E I hf st hg
  subst hP hw hK
  obtain⟨xs,hq,hx⟩:=hg
  obtain⟨its,rv,p,hz⟩:=I.tuple hq
  obtain⟨f0,f1,f2,f3,f4,f5⟩:=hf it (by simp)
  have hl:=rv.length
  exact wpAny_pyNext_tuple_end (I.ok.hd hc) st (show s.heap.IsTuple a its.toArray from p) (by simp;omega) λh' eb=>⟨rfl,I.turned (t':=s.toks) (λb o hb e=>eb b o hb e) f0 f1 f3 f4 f5⟩
 self:=λ_ _ _ _ _ st h=>wpAny_pyIter_tupleiter st h
theorem yi{P:Program}{w:World}{K:av}{tg:Expr}(it:Addr)(lo:Int)(n:Nat):Turn P w K tg (Itr lo n) [it] it (λi h=>IsRangeIter h it (lo+(i:Nat)*1) ((n:Int) - (i:Nat)) 1) where
 mem:=by simp
 obj:=λi h st b hb=>by
  have e:b=it:=by simpa using hb
  subst e
  exact⟨_,st,λv z=>by
   have z':En _=Data.cell v:=z
   cases z'⟩
 keep:=λi h h' st k=>k it (by simp) _ st
 item:=by
  intro X hP hw hK hc i pins s σ H E I hf st hg
  subst hP hw hK
  obtain⟨f0,f1,f2,f3,f4,f5⟩:=hf it (by simp)
  have W:=Walks.range (prog:=X.prog) (w:=X.w) (I.ok.hd hc) it lo 1 n
  refine W.item i s _ _ hg st λv h' tk hv st' kk =>?_
  obtain⟨t,rfl⟩:=hv
  have I1:Inv X pins σ H { s with heap:=h',toks:=tk }:=I.turned (λb o hb e=>kk b o (by simpa using hb) e) f0 f1 f3 f4 f5
  refine⟨_,rfl,zM (s:={ s with heap:=h',toks:=tk }) (n:="range_iterator") st' rfl rfl (by decide) ⟨.int (lo+i),H,I1,⟨t,?_⟩,⟨rfl,rfl⟩,st',fun b hb=>(hf b hb).1⟩⟩
  rw[Int.mul_one]
 done:=by
  intro X hP hw hK hc i pins s σ H E I hf st hg
  subst hP hw hK
  obtain⟨f0,f1,f2,f3,f4,f5⟩:=hf it (by simp)
  exact wpAny_pyNext_range_end (I.ok.hd hc) st (by have:n<=i:=hg;omega) λh' eb=>⟨rfl,I.turned (t':=s.toks) (λb o hb e=>eb b o hb e) f0 f1 f3 f4 f5⟩
 self:=λ_ _ _ _ _ st h=>wpAny_pyIter_rangeiter st h
end _L
namespace _L
open PySem PySem.Spec PyProof.Rows
section
variable {X:Cx}{tg:Expr}
noncomputable def t6(K:av)(tl:TE):TI:=λσ H R=>tl σ H λx H1 =>∃a,x = .ref a/\(∃xs,SqL K H1 a xs)/\R (Itl K a) H1
noncomputable def BB(K:av)(tl:TE):TI:=λσ H R=>tl σ H λx H1 =>∃a,x = .ref a/\(∃xs,SqT K H1 a xs)/\R (Itt K a) H1
theorem FA{l:Expr}{tl:TE}(hl:PE X l tl):PI X tg l (t6 X.K tl):=by
 intro pins s σ H R I h
 refine thn (hl pins s σ H _ I h) λv s1 ⟨x,H1,I1,r1,q1⟩ =>?_
 obtain⟨a,e,⟨xs,hq⟩,q⟩:=q1
 subst e
 cases r1
 obtain⟨its,rv,p,hz⟩:=I1.list hq
 refine xP p.isList ?_
 refine⟨s1.heap.objs.size,[s1.heap.objs.size],_,_,H1,rfl,I1.kept (t':=s1.toks) λb o e=>ao _ e,Bt a _,⟨_,ay _ rfl,rfl,rfl⟩,λb hb =>?_,q⟩
 have e:b=s1.heap.objs.size:=by simpa using hb
 subst e
 exact I1.fpOk (aq _) (I1.hok.fresh (aq _))
theorem HA{l:Expr}{tl:TE}(hl:PE X l tl):PI X tg l (BB X.K tl):=by
 intro pins s σ H R I h
 refine thn (hl pins s σ H _ I h) λv s1 ⟨x,H1,I1,r1,q1⟩ =>?_
 obtain⟨a,e,⟨xs,hq⟩,q⟩:=q1
 subst e
 cases r1
 obtain⟨its,rv,p,hz⟩:=I1.tuple hq
 refine mG (show s1.heap.IsTuple a its.toArray from p) ?_
 refine⟨s1.heap.objs.size,[s1.heap.objs.size],_,_,H1,rfl,I1.kept (t':=s1.toks) λb o e=>ao _ e,yv a _,⟨_,ay _ rfl,rfl,rfl⟩,λb hb =>?_,q⟩
 have e:b=s1.heap.objs.size:=by simpa using hb
 subst e
 exact I1.fpOk (aq _) (I1.hok.fresh (aq _))
theorem xE{pins:List (Addr×Obj)}{σ:St}{H:Hp}{s:Shared}{R:It->Hp->Prop}{E:Value->Shared->Prop}{lo hi:Int}{t u v:Tok}{tk:Nat}(I:Inv X pins σ H s)(h1: -(2 ^ 62)<=lo)(h2:lo<2 ^ 62)(h3: -(2 ^ 62)<=hi)(h4:hi<2 ^ 62)
  (q:R (Itr lo (hi - lo).toNat) H):az (model X.prog X.w) X.A (pyIter (.ref s.heap.objs.size)) (PIE X pins σ tg R) E { s with heap:=s.heap.push { cls := .type "range",data := .fields #[.int lo t,.int hi u,.int 1 v] },toks:=tk }:=by
 refine wpAny_pyIter_range (IsRange.new ..) (small_one h1 h2 h3 h4) ?_
 have I1:Inv X pins σ H { s with heap:=s.heap.push { cls := .type "range",data := .fields #[.int lo t,.int hi u,.int 1 v] },toks:=tk }:=I.kept fun b o e=>ao _ e
 refine⟨(s.heap.push { cls := .type "range",data := .fields #[.int lo t,.int hi u,.int 1 v] }).objs.size,[(s.heap.push { cls := .type "range",data := .fields #[.int lo t,.int hi u,.int 1 v] }).objs.size],_,_,H,rfl,
  I1.kept (t':=tk) λb o e=>ao _ e,yi _ lo (hi - lo).toNat,?_,λb hb =>?_,q⟩
 ·have e1:lo+((0:Nat):Int)*1=lo:=by simp
  have e2:(((hi - lo).toNat:Nat):Int) - ((0:Nat):Int)=dD lo hi 1:=by rw[rangeSize_one];split <;> omega
  show IsRangeIter _ _ (lo+((0:Nat):Int)*1) ((((hi - lo).toNat:Nat):Int) - ((0:Nat):Int)) 1
  rw[e1,e2]
  exact ay _ rfl
 ·have e:b=(s.heap.push { cls := .type "range",data := .fields #[.int lo t,.int hi u,.int 1 v] }).objs.size:=by simpa using hb
  subst e
  exact I1.fpOk (aq _) (I1.hok.fresh (aq _))
noncomputable def wG(ta:TA):TI:=λσ H R=>ta σ H λvs H1 =>∃j:Int,vs = [.int j] /\ -(2 ^ 62)<=j/\j<2 ^ 62/\R (Itr 0 j.toNat) H1
noncomputable def xH(ta:TA):TI:=λσ H R=>ta σ H λvs H1 =>∃i j:Int,vs = [.int i,.int j]/\(-(2 ^ 62)<=i/\i<2 ^ 62 /\ -(2 ^ 62)<=j/\j<2 ^ 62)/\R (Itr i (j - i).toNat) H1
theorem AR {a:Expr}{ta:TA}{p pos:Pos} (hg:Gl X "range") (hm:X.mg "range"=none) (ha:PA X [a] ta) (hs:autoParam (starEach [a] X.env = [(false,eval a X.env)]) au1._auto_1):PI X tg (.Call (.Name "range" p) [a] [] pos) (wG ta):=by
 intro pins s σ H R I h
 refine Call_ (hC I hg hm boot_range (bN (thn (ha pos pins s σ H _ I h) λus s1 ⟨vs,H1,I1,r1,q1⟩ =>?_) hs rfl))
 obtain⟨j,e,q1,q2,q⟩:=q1
 subst e
 cases r1 with
 | cons r rr=>
   cases rr
   obtain⟨t,rfl⟩:=r
   exact call_range_1 (xE I1 (by decide) (by decide) q1 q2 (by simpa using q))
theorem Bo {a b:Expr}{ta:TA}{p pos:Pos} (hg:Gl X "range") (hm:X.mg "range"=none) (ha:PA X [a,b] ta) (hs:autoParam (starEach [a,b] X.env = [(false,eval a X.env),(false,eval b X.env)]) au1._auto_1) (hs2:autoParam (starEach [b] X.env = [(false,eval b X.env)]) au1._auto_1) :
  PI X tg (.Call (.Name "range" p) [a,b] [] pos) (xH ta):=by
 intro pins s σ H R I h
 refine Call_ (hC I hg hm boot_range (bN (thn (ha pos pins s σ H _ I h) λus s1 ⟨vs,H1,I1,r1,q1⟩ =>?_) (by rw[hs,hs2]) (by rw[hs2];rfl)))
 obtain⟨i,j,e,⟨q1,q2,q3,q4⟩,q⟩:=q1
 subst e
 cases r1 with
 | cons r rr=>
   cases rr with
   | cons r' rr=>
     cases rr
     obtain⟨t,rfl⟩:=r
     obtain⟨t',rfl⟩:=r'
     exact call_range_2 (xE I1 q1 q2 q3 q4 q)
noncomputable def sR(wi:TI)(g:TG)(tb:TS):TS:=λD σ H=>wi σ H λJ H1 =>∃W:Nat->Nat->St->Hp->Prop,(∃m,W 0 m σ H1) /\ ∀i m σ H,W i m σ H ->
 (J.stop i H/\D.nx σ H)\/(J.go i H /\ ∃N:St->Hp->Prop,(∀σ' H',N σ' H' -> ∃m',m'<m/\W (i+1) m' σ' H') /\ ∀x H',J.yld i H x H'->g x σ H' λσ2 H2=>tb { D with nx:=N,ct:=N,bk:=D.nx } σ2 H2)
noncomputable def rF(fp:List Addr)(h:Heap):List (Addr×Obj):=fp.filterMap λb=>(h.get? b).map λo=>(b,o)
theorem kB{fp:List Addr}{h:Heap}{b:Addr}{o:Obj}(hb:b∈fp)(e:h.get? b=some o):(b,o)∈rF fp h:=List.mem_filterMap.mpr ⟨b,hb,by rw[e];rfl⟩
theorem BF{fp:List Addr}{h:Heap}{p:Addr×Obj}(hp:p∈rF fp h):p.1∈fp/\h.get? p.1=some p.2:=by
 obtain⟨b,hb,e⟩:=List.mem_filterMap.mp hp
 cases q:h.get? b with
 | none=>rw[q]at e;cases e
 | some o=>
   rw[q]at e
   have e':(b,o)=p:=bz e
   subst e'
   exact⟨hb,q⟩
theorem Inv.pinned{pins:List (Addr×Obj)}{σ:St}{H:Hp}{s:Shared}{fp:List Addr}(I:Inv X pins σ H s)(hf: ∀b∈fp,sQ X pins H b)(ho: ∀b∈fp,∃o,s.heap.get? b=some o /\ ∀v,o.data≠.cell v):Inv X (pins++rF fp s.heap) σ H s:=
 I.pins_of λp hp=>(be.mp hp).elim (λz=>I.pin p (aR _ z)) λz=>by
  obtain⟨hb,e⟩:=BF z
  obtain⟨f0,f1,f2,_⟩:=hf p.1 hb
  obtain⟨o,e',d⟩:=ho p.1 hb
  rw[e]at e';cases e'
  exact⟨e,f0,f1,f2,d⟩
theorem Inv.unpinned{pins pl:List (Addr×Obj)}{σ:St}{H:Hp}{s:Shared}(I:Inv X (pins++pl) σ H s):Inv X pins σ H s:=I.pins_of λp hp=>I.pin p (aR _ (bo _ hp))
theorem Ec{iter:Expr}{body:List Stmt}{wi:TI}{g:TG}{tb:TS}{pos:Pos}(hp:PassesOwn (model X.prog X.w) X.A X.env X.xe)(hc:X.calm=true)(hi:PI X tg iter wi)(hg:PG X tg g)(hb:PSs X body tb)
  (hs:autoParam (∀x,foldedSetIterable iter X.env x=pure x) au3._auto_1):PS X (.For tg iter body [] pos) (sR wi g tb):=by
 intro pins s σ H D I h
 refine wpAny_For (thn (hi pins s σ H _ I h) λv s1 h1=>thn h1 λitv s2 h2 =>?_) hs
 obtain⟨it,fp,tn,J,H2,e,I2,T,st2,f2,W,⟨m0,w0⟩,turn⟩:=h2
 subst e
 have stat: ∀{H':Hp},(∀b∈fp,H' b=none) -> ∀b∈fp,sQ X pins H' b:=λhn b hb=>⟨hn b hb,(f2 b hb).2⟩
 refine codeAny_forLoop_any (λn s' =>∃i σ' H',Inv X pins σ' H' s'/\tn i s'.heap/\(∀b∈fp,H' b=none)/\W i n σ' H') ?_ m0 ⟨0,σ,H2,I2,st2,λb hb=>(f2 b hb).1,w0⟩
 rintro n s3 ⟨i,σ3,H3,I3,st3,fr3,w3⟩
 rcases turn i n σ3 H3 w3 with⟨stop,qn⟩ | ⟨go,N,hN,step⟩
 ·refine f9 hp (thn (T.done X rfl rfl rfl hc i pins s3 σ3 H3 X.xe I3 (stat fr3) st3 stop) λr s4 ⟨hr,I4⟩ =>?_)
  subst hr
  exact pP ⟨σ3,H3,I4,qn⟩
 ·refine f9 hp (thn (T.item X rfl rfl rfl hc i pins s3 σ3 H3 X.xe I3 (stat fr3) st3 go) λr s4 ⟨u,hr,h4⟩ =>?_)
  subst hr
  refine f9 hp (thn h4 λ_ s5 ⟨x,H5,I5,r5,y5,st5,fr5⟩ =>?_)
  have I5':=I5.pinned (stat fr5) (T.obj _ _ st5)
  refine f9 hp (thn (hg _ s5 σ3 H5 x u _ I5' r5 (step x H5 y5)) λ_ s6 ⟨σ6,H6,I6,q6⟩ =>?_)
  refine f9 hp (thn (hb _ s6 σ6 H6 _ I6 q6) λf s7 q7 =>?_)
  have again: ∀{σ7:St}{H7:Hp},Inv X (pins++rF fp s5.heap) σ7 H7 s7->N σ7 H7 -> ∃m,m<n /\ ∃i σ' H',Inv X pins σ' H' s7/\tn i s7.heap/\(∀b∈fp,H' b=none)/\W i m σ' H':=λ{σ7 H7} I7 n7=>by
   obtain⟨m',hm,w7⟩:=hN σ7 H7 n7
   refine⟨m',hm,i+1,σ7,H7,I7.unpinned,T.keep _ _ _ st5 λb hb o e=>(I7.pin (b,o) (aR _ (aR _ (kB hb e)))).1,λb hb =>?_,w7⟩
   obtain⟨o,e,d⟩:=T.obj _ _ st5 b hb
   exact(I7.pin (b,o) (aR _ (aR _ (kB hb e)))).2.1
  cases f with
  | next=>obtain⟨σ7,H7,I7,n7⟩:=q7;exact again I7 n7
  | cont=>obtain⟨σ7,H7,I7,n7⟩:=q7;exact again I7 n7
  | brk=>obtain⟨σ7,H7,I7,q7⟩:=q7;exact⟨σ7,H7,I7.unpinned,q7⟩
  | ret v=>obtain⟨x7,σ7,H7,I7,r7,q7⟩:=q7;exact⟨x7,σ7,H7,I7.unpinned,r7,q7⟩
end
theorem E7{K:av}{a:Addr}{xs:List V}{g:TG}{tb:TS}{D:Ends}{σ:St}{H:Hp}(Pv:Nat->St->Hp->Prop)(h0:Pv 0 σ H)(hl: ∀i σ H,i<=xs.length->Pv i σ H->SqT K H a xs)
  (hs: ∀i x σ H,xs[i]? = some x->Pv i σ H->g x σ H λσ2 H2=>tb { D with nx:=Pv (i+1),ct:=Pv (i+1),bk:=D.nx } σ2 H2) (hd: ∀σ H,Pv xs.length σ H->D.nx σ H):
  ∃W:Nat->Nat->St->Hp->Prop,(∃m,W 0 m σ H) /\ ∀i m σ H,W i m σ H ->
   ((Itt K a).stop i H/\D.nx σ H)\/((Itt K a).go i H /\ ∃N:St->Hp->Prop,(∀σ' H',N σ' H' -> ∃m',m'<m/\W (i+1) m' σ' H') /\ ∀x H',(Itt K a).yld i H x H'->g x σ H' λσ2 H2=>tb { D with nx:=N,ct:=N,bk:=D.nx } σ2 H2):=by
 refine⟨λi m σ H=>m=xs.length - i/\i<=xs.length/\Pv i σ H,⟨xs.length,by simp,cR _,h0⟩,?_⟩
 rintro i m σ H ⟨rfl,hi,p⟩
 have q:=hl i σ H hi p
 by_cases hlt:i<xs.length
 ·refine .inr ⟨⟨xs,xs[i],q,by simp[hlt]⟩,Pv (i+1),λσ' H' p'=>⟨xs.length - (i+1),by omega,rfl,hlt,p'⟩,λx H' y =>?_⟩
  obtain⟨e,y⟩:=y
  subst e
  exact hs i x σ _ (y xs q) p
 ·have e:i=xs.length:=by omega
  subst e
  exact .inl ⟨⟨xs,q,aq _⟩,hd σ H p⟩
theorem Bp{lo:Int}{n:Nat}{g:TG}{tb:TS}{D:Ends}{σ:St}{H:Hp}(Pv:Nat->St->Hp->Prop)(h0:Pv 0 σ H)
  (hs: ∀i σ H,i<n->Pv i σ H->g (.int (lo+i)) σ H λσ2 H2=>tb { D with nx:=Pv (i+1),ct:=Pv (i+1),bk:=D.nx } σ2 H2) (hd: ∀σ H,Pv n σ H->D.nx σ H):
  ∃W:Nat->Nat->St->Hp->Prop,(∃m,W 0 m σ H) /\ ∀i m σ H,W i m σ H ->
   ((Itr lo n).stop i H/\D.nx σ H)\/((Itr lo n).go i H /\ ∃N:St->Hp->Prop,(∀σ' H',N σ' H' -> ∃m',m'<m/\W (i+1) m' σ' H') /\ ∀x H',(Itr lo n).yld i H x H'->g x σ H' λσ2 H2=>tb { D with nx:=N,ct:=N,bk:=D.nx } σ2 H2):=by
 refine⟨λi m σ H=>m=n - i/\i<=n/\Pv i σ H,⟨n,by simp,cR _,h0⟩,?_⟩
 rintro i m σ H ⟨rfl,hi,p⟩
 by_cases hlt:i<n
 ·refine .inr ⟨hlt,Pv (i+1),λσ' H' p'=>⟨n - (i+1),by omega,rfl,hlt,p'⟩,λx H' y =>?_⟩
  obtain⟨e,y⟩:=y
  subst e y
  exact hs i σ _ hlt p
 ·have e:i=n:=by omega
  subst e
  exact .inl ⟨aq _,hd σ H p⟩
end _L
namespace _L
open PySem PySem.Spec PyProof.Rows
abbrev R2:=V->V->Hp->VK->Prop
noncomputable def OpR(X:Cx)(f:Value->Value->Sem Value)(r:R2):Prop:=
 ∀(pins:List (Addr×Obj)) (s:Shared) (σ:St) (H:Hp) (x y:V) (v u:Value) (Q:VK),Inv X pins σ H s->RelV x v->RelV y u->r x y H Q ->
  az (model X.prog X.w) X.A (f v u) (EP X pins σ Q) X.xe s
noncomputable def UnR(X:Cx)(f:Value->Sem Value)(r:V->Hp->VK->Prop):Prop:=
 ∀(pins:List (Addr×Obj)) (s:Shared) (σ:St) (H:Hp) (x:V) (v:Value) (Q:VK),Inv X pins σ H s->RelV x v->r x H Q ->
  az (model X.prog X.w) X.A (f v) (EP X pins σ Q) X.xe s
noncomputable def gR(X:Cx)(f:Value)(r:List V->Hp->VK->Prop):Prop:=
 ∀(pins:List (Addr×Obj)) (s:Shared) (σ:St) (H:Hp) (xs:List V) (us:List Value) (Q:VK),Inv X pins σ H s->b8 xs us->r xs H Q ->
  az (model X.prog X.w) X.A (call f us) (EP X pins σ Q) X.xe s
noncomputable def tOp(r:R2)(ta tb:TE):TE:=λσ H Q=>ta σ H λx H1=>tb σ H1 λy H2=>r x y H2 Q
noncomputable def tUn(r:V->Hp->VK->Prop)(ta:TE):TE:=λσ H Q=>ta σ H λx H1=>r x H1 Q
noncomputable def rI(C:Int->Int->Prop)(g:Int->Int->V):R2:=λx y H Q =>∃i j,x = .int i/\y = .int j/\C i j/\Q (g i j) H
noncomputable def rI0(g:Int->Int->V):R2:=λx y H Q =>∃i j,x = .int i/\y = .int j/\Q (g i j) H
noncomputable def rU(g:Int->V):V->Hp->VK->Prop:=λx H Q =>∃i,x = .int i/\Q (g i) H
section
variable {X:Cx}{a b c:Expr}{ta tb tc:TE}{pos:Pos}
theorem HV(ha:PE X a ta)(hb:PE X b tb){pins:List (Addr×Obj)}{s:Shared}{σ:St}{H:Hp}{R:V->V->Hp->Prop}(I:Inv X pins σ H s)
  (h:ta σ H λx H1=>tb σ H1 λy H2=>R x y H2) {Q:Value->Shared->Prop}{f:Value->Value->Sem Value}
  (hf: ∀v u s2 x y H2,Inv X pins σ H2 s2->RelV x v->RelV y u->R x y H2->az (model X.prog X.w) X.A (f v u) Q X.xe s2):
  az (model X.prog X.w) X.A (eval a X.env) (λv s₁=>az (model X.prog X.w) X.A (eval b X.env) (λu s₂=>az (model X.prog X.w) X.A (f v u) Q X.xe s₂) X.xe s₁) X.xe s:=by
 refine thn (ha pins s σ H _ I h) λv s1 ⟨x,H1,I1,r1,q1⟩ =>?_
 refine thn (hb pins s1 σ H1 _ I1 q1) λu s2 ⟨y,H2,I2,r2,q2⟩ =>?_
 exact hf v u s2 x y H2 I2 r1 r2 q2
theorem tU{op:Operator}{r:R2}(ho:OpR X (binaryOp op) r)(ha:PE X a ta)(hb:PE X b tb):PE X (.BinOp a op b pos) (tOp r ta tb):=by
 intro pins s σ H Q I h
 exact wpAny_BinOp (HV ha hb I h λv u s2 x y H2 I2 rx ry q=>ho pins s2 σ H2 x y v u Q I2 rx ry q)
theorem Lv{op:UnaryOp}{r:V->Hp->VK->Prop}(ho:UnR X (unaryOp op) r)(ha:PE X a ta):PE X (.UnaryOp op a pos) (tUn r ta):=by
 intro pins s σ H Q I h
 exact UnaryOp_ (thn (ha pins s σ H _ I h) λv s1 ⟨x,H1,I1,r1,q1⟩=>ho pins s1 σ H1 x v Q I1 r1 q1)
theorem opI{f:Value->Value->Sem Value}{C:Int->Int->Prop}{g:Int->Int->Int}
  (rule: ∀(i j:Int) (t u:Tok) (s:Shared) (Q:Value->Shared->Prop) (E:Value->Shared->Prop),C i j->Q (.int (g i j) s.toks) { s with toks:=s.toks+1 }->az (model X.prog X.w) X.A (f (.int i t) (.int j u)) Q E s):
  OpR X f (rI C λi j => .int (g i j)):=by
 intro pins s σ H x y v u Q I rx ry h
 obtain⟨i,j,rfl,rfl,hc,q⟩:=h
 obtain⟨t,rfl⟩:=rx
 obtain⟨t',rfl⟩:=ry
 exact rule i j t t' s _ _ hc ⟨.int (g i j),H,I.tok _,⟨_,rfl⟩,q⟩
theorem K3{f:Value->Value->Sem Value}{g:Int->Int->Int}
  (rule: ∀(i j:Int) (t u:Tok) (s:Shared) (Q:Value->Shared->Prop) (E:Value->Shared->Prop),Q (.int (g i j) s.toks) { s with toks:=s.toks+1 }->az (model X.prog X.w) X.A (f (.int i t) (.int j u)) Q E s):
  OpR X f (rI0 λi j => .int (g i j)):=by
 intro pins s σ H x y v u Q I rx ry h
 obtain⟨i,j,rfl,rfl,q⟩:=h
 obtain⟨t,rfl⟩:=rx
 obtain⟨t',rfl⟩:=ry
 exact rule i j t t' s _ _ ⟨.int (g i j),H,I.tok _,⟨_,rfl⟩,q⟩
theorem GK{f:Value->Value->Sem Value}{g:Int->Int->Bool}
  (rule: ∀(i j:Int) (t u:Tok) (s:Shared) (Q:Value->Shared->Prop) (E:Value->Shared->Prop),Q (.bool (g i j)) s->az (model X.prog X.w) X.A (f (.int i t) (.int j u)) Q E s):
  OpR X f (rI0 λi j => .bl (g i j)):=by
 intro pins s σ H x y v u Q I rx ry h
 obtain⟨i,j,rfl,rfl,q⟩:=h
 obtain⟨t,rfl⟩:=rx
 obtain⟨t',rfl⟩:=ry
 exact rule i j t t' s _ _ ⟨.bl (g i j),H,I,rfl,q⟩
noncomputable def Kv(i j:Int):Prop:=0<j/\j<1073741824
noncomputable def Lp(i j:Int):Prop:=0<=j/\j<=1000000/\i.natAbs<2 ^ 64
noncomputable def GF(i j:Int):Prop:=(-(2 ^ 64)<i/\i<2 ^ 64)\/(-(2 ^ 64)<j/\j<2 ^ 64)
theorem GF.ok{i j:Int}(h:GF i j):IntMulOk i j:=by
 rcases h with⟨h1,h2⟩ | ⟨h1,h2⟩
 ·exact .of_left (intBits_le_64 h1 h2)
 ·exact .of_right (intBits_le_64 h1 h2)
theorem Jg:OpR X (binaryOp .Add) (rI0 λi j => .int (i+j)):=K3 λ_ _ _ _ _ _ _ q=>add_int q
theorem JD:OpR X (binaryOp .Sub) (rI0 λi j => .int (i - j)):=K3 λ_ _ _ _ _ _ _ q=>sub_int q
theorem IW:OpR X (binaryOp .Mult) (rI GF λi j => .int (i*j)):=opI λ_ _ _ _ _ _ _ hc q=>mul_int q hc.ok
theorem ET:OpR X (binaryOp .FloorDiv) (rI Kv λi j => .int (i / j)):=opI λi j _ _ _ _ _ hc q=>by
 have h1:(0:Int)<j:=hc.1
 have h2:j<1073741824:=hc.2
 exact floordiv_int (by omega) (by rw[Int.fdiv_eq_ediv_of_nonneg i (by omega)];exact q) (.inl (PyProof.noPylong_small (by omega)))
theorem HY:OpR X (binaryOp .Mod) (rI (λ_ j=>0<j) λi j => .int (i % j)):=opI λi j _ _ _ _ _ hc q=>by
 have h1:(0:Int)<j:=hc
 exact mod_int' (by omega) (by rw[Int.fmod_eq_emod_of_nonneg i (by omega)];exact q)
theorem IP:OpR X (binaryOp .Pow) (rI Lp λi j => .int (i ^ j.toNat)):=opI λ_ _ _ _ _ _ _ hc q=>pow_int_small hc.1 hc.2.1 hc.2.2 q
theorem unI{f:Value->Sem Value}{g:Int->Int}
  (rule: ∀(i:Int) (t:Tok) (s:Shared) (Q:Value->Shared->Prop) (E:Value->Shared->Prop),Q (.int (g i) s.toks) { s with toks:=s.toks+1 }->az (model X.prog X.w) X.A (f (.int i t)) Q E s):
  UnR X f (rU λi => .int (g i)):=by
 intro pins s σ H x v Q I rx h
 obtain⟨i,rfl,q⟩:=h
 obtain⟨t,rfl⟩:=rx
 exact rule i t s _ _ ⟨.int (g i),H,I.tok _,⟨_,rfl⟩,q⟩
theorem Ja:UnR X (unaryOp .USub) (rU λi => .int (-i)):=unI λ_ _ _ _ _ q=>neg_int q
end
section
variable {X:Cx}{a b c:Expr}{ta tb tc:TE}{pos:Pos}
theorem Lm:OpR X (compareOp .Lt) (rI0 λi j => .bl (decide (i<j))):=GK λ_ _ _ _ _ _ _ q=>lt_int q
theorem Mk:OpR X (compareOp .LtE) (rI0 λi j => .bl (decide (i<=j))):=GK λ_ _ _ _ _ _ _ q=>le_int q
theorem KE:OpR X (compareOp .Gt) (rI0 λi j => .bl (decide (j<i))):=GK λ_ _ _ _ _ _ _ q=>gt_int q
theorem Nb:OpR X (compareOp .GtE) (rI0 λi j => .bl (decide (j<=i))):=GK λ_ _ _ _ _ _ _ q=>ge_int q
theorem OpR.or{f:Value->Value->Sem Value}{r r':R2}(h:OpR X f r)(h':OpR X f r'):OpR X f (λx y H Q=>r x y H Q\/r' x y H Q):=by
 intro pins s σ H x y v u Q I rx ry q
 rcases q with q |q
 ·exact h pins s σ H x y v u Q I rx ry q
 ·exact h' pins s σ H x y v u Q I rx ry q
theorem Gv{op:CmpOp}{r:R2}(ho:OpR X (compareOp op) r)(ha:PE X a ta)(hb:PE X b tb)(hm:behindInMarks op b=false):PE X (.Compare a [op] [b] pos) (tOp r ta tb):=by
 intro pins s σ H Q I h
 exact wpAny_Compare1 (HV ha hb I h λv u s2 x y H2 I2 rx ry q=>ho pins s2 σ H2 x y v u Q I2 rx ry q) hm
noncomputable def BS(t:TE):TT:=λσ H Q=>t σ H λx H' =>∃k,x = .bl k/\Q k H'
theorem FU{op:CmpOp}{r:R2}(ho:OpR X (compareOp op) r)(ha:PE X a ta)(hb:PE X b tb)(hm:behindInMarks op b=false):PT X (.Compare a [op] [b] pos) (BS (tOp r ta tb)):=by
 intro pins s σ H Q I h
 refine wpAny_isTrue_Compare1 (thn (ha pins s σ H _ I h) λv s1 ⟨x,H1,I1,r1,q1⟩=>thn (hb pins s1 σ H1 _ I1 q1) λu s2 ⟨y,H2,I2,r2,q2⟩=>
  thn (ho pins s2 σ H2 x y v u _ I2 r1 r2 q2) λc s3 ⟨z,H3,I3,r3,k,e,q3⟩ =>?_) hm
 subst e
 cases r3
 exact dC ⟨H3,I3,q3⟩
noncomputable def yH(r r':R2)(ta tb tc:TE):TE:=λσ H Q=>ta σ H λx H1=>tb σ H1 λy H2=>r x y H2 λz H3 =>∃k,z = .bl k /\
 (if k=true then tc σ H3 λw' H4=>r' y w' H4 Q else Q (.bl false) H3)
theorem DV{op op':CmpOp}{r r':R2}(ho:OpR X (compareOp op) r)(ho':OpR X (compareOp op') r')(ha:PE X a ta)(hb:PE X b tb)(hc:PE X c tc)
  (hm:lastMarks [op,op'] [b,c]=false:=by with_unfolding_all rfl):PE X (.Compare a [op,op'] [b,c] pos) (yH r r' ta tb tc):=by
 intro pins s σ H Q I h
 refine Compare_chain (thn (ha pins s σ H _ I h) λv s1 ⟨x,H1,I1,r1,q1⟩=>chain_link (thn (hb pins s1 σ H1 _ I1 q1) λu s2 ⟨y,H2,I2,r2,q2⟩=>
  thn (ho pins s2 σ H2 x y v u _ I2 r1 r2 q2) λd s3 ⟨z,H3,I3,r3,k,e,q3⟩ =>?_)) hm
 subst e
 cases r3
 refine dC ?_
 cases k with
 | false=>exact ite_ff ⟨.bl false,H3,I3,rfl,q3⟩
 | true=>exact ite_tt (chain_last (thn (hc pins s3 σ H3 _ I3 q3) λw' s4 ⟨z',H4,I4,r4,q4⟩=>ho' pins s4 σ H4 y z' u w' Q I4 r2 r4 q4))
theorem DB{op op':CmpOp}{r r':R2}(ho:OpR X (compareOp op) r)(ho':OpR X (compareOp op') r')(ha:PE X a ta)(hb:PE X b tb)(hc:PE X c tc)
  (hm:lastMarks [op,op'] [b,c]=false:=by with_unfolding_all rfl):PT X (.Compare a [op,op'] [b,c] pos) (BS (yH r r' ta tb tc)):=by
 intro pins s σ H Q I h
 refine isTrue_chain (thn (ha pins s σ H _ I h) λv s1 ⟨x,H1,I1,r1,q1⟩=>test_link (thn (hb pins s1 σ H1 _ I1 q1) λu s2 ⟨y,H2,I2,r2,q2⟩=>
  thn (ho pins s2 σ H2 x y v u _ I2 r1 r2 q2) λd s3 ⟨z,H3,I3,r3,k,e,q3⟩ =>?_)) hm
 subst e
 cases r3
 refine dC ?_
 cases k with
 | false=>
   obtain⟨k',e',q'⟩:=q3
   cases e'
   exact ite_ff ⟨H3,I3,q'⟩
 | true=>
   refine ite_tt (test_last (thn (hc pins s3 σ H3 _ I3 q3) λw' s4 ⟨z',H4,I4,r4,q4⟩=>thn (ho' pins s4 σ H4 y z' u w' _ I4 r2 r4 q4) λd' s5 ⟨z2,H5,I5,r5,k2,e2,q5⟩ =>?_))
   subst e2
   cases r5
   exact dC ⟨H5,I5,q5⟩
theorem nI:(sizeLine:Nat)<2 ^ 63:=by rw[sizeLine_eq];decide
theorem vals1{x:V}{us:List Value}(r:b8 [x] us): ∃u,us = [u]/\RelV x u:=by
 cases r with
 | cons r1 r2=>cases r2;exact⟨_,rfl,r1⟩
theorem vals2{x y:V}{us:List Value}(r:b8 [x,y] us): ∃u w',us = [u,w']/\RelV x u/\RelV y w':=by
 cases r with
 | cons r1 r2=>
   cases r2 with
   | cons r3 r4=>cases r4;exact⟨_,_,rfl,r1,r3⟩
theorem A6 (hc:X.calm=true):gR X (.builtin "max") (fun xs H Q => ∃ i j,xs = [.int i,.int j]/\Q (.int (if j > i then j else i)) H):=by
 intro pins s σ H xs us Q I r h
 obtain⟨i,j,rfl,q⟩:=h
 obtain⟨u,w',rfl,⟨t,rfl⟩,⟨t',rfl⟩⟩:=vals2 r
 refine max_two_ints (I.ok.hd hc) λh' tk k=>⟨_,H,I.kept k,?_,q⟩
 by_cases hj:j > i
 ·rw[if_pos hj,if_pos hj];exact⟨_,rfl⟩
 ·rw[if_neg hj,if_neg hj];exact⟨_,rfl⟩
theorem Bh (hc:X.calm=true):gR X (.builtin "min") (fun xs H Q => ∃ i j,xs = [.int i,.int j]/\Q (.int (if j < i then j else i)) H):=by
 intro pins s σ H xs us Q I r h
 obtain⟨i,j,rfl,q⟩:=h
 obtain⟨u,w',rfl,⟨t,rfl⟩,⟨t',rfl⟩⟩:=vals2 r
 refine min_two_ints (I.ok.hd hc) λh' tk k=>⟨_,H,I.kept k,?_,q⟩
 by_cases hj:j<i
 ·rw[if_pos hj,if_pos hj];exact⟨_,rfl⟩
 ·rw[if_neg hj,if_neg hj];exact⟨_,rfl⟩
end
end _L
namespace _L
open PySem PySem.Spec PyProof.Rows
structure JF(h:Heap)(x dx C:Addr)(mA:Str->Option Value):Prop where
 obj:h.get? x=some (tJ C dx)
 ns:h.Ns1 dx mA
 ne:dx≠x
theorem Bu{h:Heap}{dx:Addr}{mA:Str->Option Value}(n:h.Ns1 dx mA): ∃od,h.get? dx=some od /\ ∀name,vN name od=some (mA name):=by
 obtain⟨o,es,ep,ho,hd,hk,_,hm⟩:=n
 refine⟨o,ho,λname =>?_⟩
 have e:=hm name
 unfold nsFind findBy at e
 rw[<- Array.find?_toList]at e
 unfold vN
 rw[hd]
 dsimp only
 split
 ·rename_i y q
  rw[q]at e
  exact congrArg some e
 ·rename_i q
  rw[q]at e
  have a:es.toList.any (·.refKey)=false:=by
   rw[List.any_eq_false]
   intro y hy
   obtain⟨z,t,hkey⟩:=hk y (Array.mem_toList_iff.mp hy)
   simp[DictEntry.refKey,hkey]
  have a': ¬es.toList.any (·.refKey)=true:=by rw[a];exact bE
  rw[if_neg a']
  exact congrArg some e
theorem JF.look{h:Heap}{x dx C:Addr}{mA:Str->Option Value}(I:JF h x dx C mA): ∃od,PySem.W.InstAt h x (tJ C dx) C (some od) /\ ∀name,vN name od=some (mA name):=
 let ⟨od,ho,hl⟩:=Bu I.ns
 ⟨od,⟨I.obj,rfl,rfl,ho⟩,hl⟩
section
variable {prog:Program}{w:World}{A:Around}{E:Value->Shared->Prop}{s:Shared}{K:av}{x dx C f:Addr}{mA:Str->Option Value}{name:Str}{v:Value}
end
theorem sh.some_of{v:V}{o:Option Value}(r:sh (some v) o): ∃u,o=some u/\RelV v u:=by
 cases o with
 | none=>exact(show False from r).elim
 | some u=>exact⟨u,rfl,r⟩
section
variable {P:Program}{w:World}{H H':Hp}{h h':Heap}{a C dx:Addr}{fs fs':List (Str×V)}
theorem Gz(hok:HOk P w H h)(e:H a=some (.ins C dx fs)): ∃mA,JF h a dx C mA/\(∀f,sh (fs.lookup f) (mA f))/\PySem.Within mA (fs.map (·.1))/\fs.length<=1000/\H dx=some (.own a):=by
 obtain⟨d,z,ne,ob,mA,n,r,q⟩:=(show dY P w H h a (.ins C dx fs) from hok a _ e)
 exact⟨mA,⟨ob,n,ne⟩,r,q,z,d⟩
end
structure Cls(K:av)(C:Addr):Prop where
 pg:PySem.W.plainGet K C Str.empty=true
 hd:PySem.W.hasDictIn K C=true
 po:PySem.W.plainOver K C=true
 sa:PySem.W.findIn K (.ref C) "__setattr__"=some (some (.builtin "object.__setattr__"))
theorem Cls.get{K:av}{C:Addr}(c:Cls K C)(f:Str):PySem.W.plainGet K C f=true:=c.pg
section
variable {X:Cx}{pins:List (Addr×Obj)}{σ:St}{H:Hp}{s:Shared}{a C dx:Addr}{fs:List (Str×V)}{f:Str}{v:V}{A:Around}{E:Value->Shared->Prop}
end
section
variable {X:Cx}{o e value:Expr}{f:Str}{pos pos' tpos:Pos}{ta tv:TE}
end
section
variable {X:Cx}{pins:List (Addr×Obj)}{σ:St}{H:Hp}{s:Shared}{A:Around}{E:Value->Shared->Prop}{Q:Value->Shared->Prop}{c:Value}{b:Bool}
inductive nQ(K:av)(H:Hp):V->Value->Prop where
 | non:nQ K H .non (.type "NoneType")
 | bl (x:Bool):nQ K H (.bl x) (.type "bool")
 | int (i:Int):nQ K H (.int i) (.type "int")
 | str (x:Str):nQ K H (.str x) (.type "str")
 | flt (x:UInt64):nQ K H (.flt x) (.type "float")
 | lst {a:Addr}{xs:List V} (e:H a=some (.lst xs)):nQ K H (.ref a) (.type "list")
 | frz {a:Addr}{o:Obj}{xs:List V} (e:H a=some (.frz o (.lst xs))):nQ K H (.ref a) (.type "list")
 | tup {a:Addr}{xs:List V} (e:H a=some (.tup xs)):nQ K H (.ref a) (.type "tuple")
 | dK {a:Addr}{kvs:List (Key×V)} (e:H a=some (.dK kvs)):nQ K H (.ref a) (.type "dict")
 | dT {a:Addr}{kvs:List (List Key×V)} (e:H a=some (.dT kvs)):nQ K H (.ref a) (.type "dict")
 | ins {a C dx:Addr}{fs:List (Str×V)} (e:H a=some (.ins C dx fs)) (cl:Cls K C) (ha:PySem.W.findIn K (.ref C) "__class__"=some (some (.builtin "object.__class__")))
   (hn:PySem.W.specialIn K (.builtin "object.__class__") "__get__"=some (some (.builtin "getset_descriptor.__get__"))) (htk:PySem.W.takesIn K (.builtin "object.__class__")=some true)
   (hm:PySem.W.mroIn K C (.type "object")=some true):nQ K H (.ref a) (.ref C)
theorem Bk{x:V}{u t:Value}(I:Inv X pins σ H s)(rx:RelV x u)(ty:nQ X.K H x t)(e:PySem.W.kitOne X.K t c=some b)(h: ∀tk,Q (.bool b) { s with toks:=tk }):
  az (model X.prog X.w) A (call (.builtin "isinstance") [u,c]) Q E s:=by
 cases ty with
 | non=>cases (show u=da from rx);exact cW PySem.W.kitx_none I.kIn fh e (λz=>nomatch z) h
 | bl y=>cases (show u=xM y from rx);exact cW PySem.W.kitx_bool I.kIn fh e (λz=>nomatch z) h
 | int i=>obtain⟨t,q⟩:=(show ∃t,u=mF i t from rx);cases q;exact cW PySem.W.kitx_int I.kIn fh e (λz=>nomatch z) h
 | str y=>obtain⟨t,q⟩:=(show ∃t,u=tI y t from rx);cases q;exact cW PySem.W.kitx_str I.kIn fh e (λz=>nomatch z) h
 | flt y=>obtain⟨t,q⟩:=(show ∃t,u=Value.float y t from rx);cases q;exact cW PySem.W.kitx_float I.kIn fh e (λz=>nomatch z) h
 | @lst a xs ea=>
   cases (show u=aU a from rx)
   obtain⟨_,_,n,_,h1⟩:=(show dY X.prog X.w H s.heap a (.lst xs) from I.hok a _ ea)
   exact cW Eo I.kIn ⟨_,h1,rfl⟩ e (λz=>nomatch z) h
 | @frz a ob xs ea=>
   cases (show u=aU a from rx)
   obtain⟨_,_,_,n,_,h1⟩:=(show dY X.prog X.w H s.heap a (.frz ob (.lst xs)) from I.hok a _ ea)
   exact cW Eo I.kIn ⟨_,h1,rfl⟩ e (λz=>nomatch z) h
 | @tup a xs ea=>
   cases (show u=aU a from rx)
   obtain⟨_,_,_,p⟩:=(show dY X.prog X.w H s.heap a (.tup xs) from I.hok a _ ea)
   obtain⟨o,h1,h2,_⟩:=p.1
   exact cW PySem.W.kitx_tuple I.kIn ⟨o,h1,h2⟩ e (λz=>nomatch z) h
 | @dK a kvs ea=>
   cases (show u=aU a from rx)
   obtain⟨_,_,vs,_,p⟩:=(show dY X.prog X.w H s.heap a (.dK kvs) from I.hok a _ ea)
   obtain⟨o,es,ep,h1,h2,_⟩:=p
   exact cW Ep I.kIn ⟨o,h1,h2.1⟩ e (λz=>nomatch z) h
 | @dT a kvs ea=>
   cases (show u=aU a from rx)
   obtain⟨_,_,xs,_,o,es,ep,h1,h2,_⟩:=(show dY X.prog X.w H s.heap a (.dT kvs) from I.hok a _ ea)
   exact cW Ep I.kIn ⟨o,h1,h2.1⟩ e (λz=>nomatch z) h
 | @ins a C dx fs ea cl ha hn htk hm=>
   cases (show u=aU a from rx)
   obtain⟨mA,O,_⟩:=Gz I.hok ea
   obtain⟨od,J,_⟩:=O.look
   exact cW (PySem.W.kitx_own (cl.get _) cl.hd ha hn htk hm) I.kIn J e (λz=>nomatch z) h
end
end _L
namespace _L
open PySem PySem.Spec PyProof.Rows
structure kc(k:Nat)(A:Around):Prop where
 hd:A.handled=none
 dp:A.depth+3*k+5<recursionLimit
 un:A.units+16*k+200<cLine
 gu:A.guards=some []
theorem kc.mono{j k:Nat}{A:Around}(r:kc k A)(h:j<=k):kc j A:=⟨r.hd,by have:=r.dp;omega,by have:=r.un;omega,r.gu⟩
theorem kc.deeper{k:Nat}{A:Around}(r:kc (k+1) A)(env:Env):kc k (A.deeper env):=
 ⟨r.hd,by have:=r.dp;show A.depth+1+3*k+5<_;omega,by have:=r.un;show A.units+3+16*k+200<_;omega,r.gu⟩
theorem kc.depth{k:Nat}{A:Around}(r:kc k A):A.depth<recursionLimit:=by have:=r.dp;omega
theorem kc.units{k:Nat}{A:Around}(r:kc k A):A.units+64<cLine:=by have:=r.un;omega
noncomputable def yN:TA:=λ_ H Q=>Q [] H
noncomputable def rB(ta:TE)(tr:TA):TA:=λσ H Q=>ta σ H λx H1=>tr σ H1 λxs H2=>Q (x::xs) H2
section
variable {X:Cx}{e:Expr}{es:List Expr}{te:TE}{t:TA}{pos:Pos}
theorem rK:PA X [] yN:=λ_ _ _ _ H Q I h=>sj ⟨[],H,I,.nil,h⟩
theorem m4(ha:PE X e te)(hr:PA X es t)(hs:autoParam (starEach (e::es) X.env=(false,eval e X.env)::starEach es X.env) au1._auto_1):PA X (e::es) (rB te t):=by
 intro pos pins s σ H Q I h
 rw[hs]
 show az _ _ (spliced ((false,eval e X.env)::backTo pos (starEach es X.env))) _ _ s
 refine qj (thn (ha pins s σ H _ I h) λu s1 ⟨x,H1,I1,r1,q1⟩ =>?_)
 exact thn (hr pos pins s1 σ H1 _ I1 q1) λus s2 ⟨xs,H2,I2,r2,q2⟩=>⟨x::xs,H2,I2,.cons r1 r2,q2⟩
noncomputable def M5(t:TA):TE:=λσ H Q=>t σ H λxs H1=>xs.length<=sizeLine /\ ∀p,H1 p=none->Q (.ref p) (upd H1 p (.tup xs))
noncomputable def Ks(t:TA):TE:=λσ H Q=>t σ H λxs H1=>xs.length<=sizeLine /\ ∀p,H1 p=none->Q (.ref p) (upd H1 p (.lst xs))
theorem Kg{x1}(h:PA X es t):PE X (.Tuple es x1 pos) (M5 t):=by
 intro pins s σ H Q I hq
 refine wpAny_Tuple_spliced (thn (h pos pins s σ H _ I hq) λus s1 ⟨xs,H1,I1,r,z,q⟩=>⟨by rw[<- r.length];exact z,?_⟩)
 have hf:H1 s1.heap.objs.size=none:=I1.hok.fresh (aq _)
 refine⟨.ref s1.heap.objs.size,upd H1 s1.heap.objs.size (.tup xs),I1.laid (t':=s1.toks) (λb u e=>ao _ e) (aq _) ?_,rfl,q _ hf⟩
 exact⟨z,us,r,⟨_,ay _ rfl,rfl,_,rfl⟩,_,ay _ rfl,rfl⟩
theorem HE(h:PA X es t):PE X (.List es pos) (Ks t):=by
 intro pins s σ H Q I hq
 refine wpAny_List_spliced (thn (h pos pins s σ H _ I hq) λus s1 ⟨xs,H1,I1,r,z,q⟩=>⟨by rw[<- r.length];exact z,?_⟩)
 have hf:H1 s1.heap.objs.size=none:=I1.hok.fresh (aq _)
 refine⟨.ref s1.heap.objs.size,upd H1 s1.heap.objs.size (.lst xs),I1.laid (t':=s1.toks) (λb u e=>ao _ e) (aq _) ?_,rfl,q _ hf⟩
 exact⟨z,us,0,r,ay _ rfl⟩
end
abbrev Sp:=List V->Hp->VK->XK->Prop
abbrev CXT:=List Env->Hp->Shared->XK->Value->Shared->Prop
structure GG(P:Program)(w:World)(K:av)(mg:Str->Option Value)(base:Heap)(A:Around)(outer:List Env)(s:Shared)(H:Hp):Prop where
 frames:A.frames=some outer
 mod:Mod K mg base
 bs: ∀b o,base.get? b=some o->s.heap.get? b=some o/\H b=none
 bsz:base.objs.size<=s.heap.objs.size
 funs:s.heap.FunFrames base outer
 frf: ∀b∈frs outer,H b=none
 hok:HOk P w H s.heap
 bare:AllBare s.gens
noncomputable def CE(outer:List Env)(P:Program)(w:World)(H:Hp)(s:Shared)(Q:VK)(u:Value)(s':Shared):Prop:=
 ∃v H',s'.os=s.os/\AllBare s'.gens/\Un (frs outer) [] H H' s.heap s'.heap/\HOk P w H' s'.heap/\RelV v u/\Q v H'
noncomputable def CR(CX:CXT)(outer:List Env)(P:Program)(w:World)(H:Hp)(s:Shared)(Q:VK)(E:XK)(r:Result)(s':Shared):Prop:=
 match r with
 | .ok (.ret u)=>CE outer P w H s Q u s'
 | .ok _=>False
 | .error e=>CX outer H s E e s'
structure j4(P:Program)(w:World)(K:av)(mg:Str->Option Value)(base:Heap)(CX:CXT)(k:Nat)(f:Addr)(fd:FuncData)(ps:List Str)(sp:Sp):Prop where
 len: ∀vs H Q E,sp vs H Q E->vs.length=ps.length
 run: ∀(A:Around) (outer:List Env) (s:Shared) (H:Hp) (args:Args) (us:List Value) (vs:List V) (Q:VK) (E:XK),kc k A->GG P w K mg base A outer s H->BindsTo s fd args (ps.zip us)->b8 vs us->sp vs H Q E ->
  pz (model P w) A (.call (.ref f) args) (CR CX outer P w H s Q E) s
theorem j4.mono{P:Program}{w:World}{K:av}{mg:Str->Option Value}{base:Heap}{CX:CXT}{j k:Nat}{f:Addr}{fd:FuncData}{ps:List Str}{sp:Sp}(F:j4 P w K mg base CX j f fd ps sp)(h:j<=k):
  j4 P w K mg base CX k f fd ps sp:=⟨F.len,λA outer s H args us vs Q E hr=>F.run A outer s H args us vs Q E (hr.mono h)⟩
section
variable {X:Cx}{pins:List (Addr×Obj)}{σ:St}{H:Hp}{s s':Shared}
theorem Inv.env0(I:Inv X pins σ H s):GG X.prog X.w X.K X.mg X.base X.A X.stack s H:=
 ⟨I.ok.frames,I.ok.mod,I.bs,aM I.ok.bsz I.sz,I.stack,I.stkFree,I.hok,I.bare⟩
theorem Inv.after{Q:VK}{u:Value}(I:Inv X pins σ H s)(h:CE X.stack X.prog X.w H s Q u s'):EP X pins σ Q u s':=by
 obtain⟨v,H',os,bare,un,hok,r,q⟩:=h
 obtain⟨hh,g,d,t,os'⟩:=s'
 obtain rfl:os'=s.os:=os
 exact⟨v,H',I.call (h':=hh) (g':=g) (d':=d) (t':=t) (ch:= []) un hok bare (λb z=>absurd z (by simp)),r,q⟩
end
noncomputable def zr(sp:Sp)(dvs:List V)(E:XK)(t:TA):TE:=λσ H Q=>t σ H λvs H1=>sp (vs++dvs) H1 Q E
noncomputable def Binds(K:av)(fd:FuncData)(ps:List Str)(ds:List Value):Prop:=
 ∀(s:Shared) (us:List Value),K.In s.heap->(us++ds).length=ps.length->BindsTo s fd ⟨us,[]⟩ (ps.zip (us++ds))
theorem Binds.all{K:av}{fd:FuncData}{ps:List Str}(h: ∀us:List Value,us.length=ps.length->bindArgs fd ⟨us,[]⟩=pure (ps.zip us)):Binds K fd ps []:=λs us _ hl=>by
 rw[cD]at hl ⊢
 exact .of_eq (h us hl)
noncomputable def vd(CX:CXT)(X:Cx)(E:XK):Prop:= ∀(pins:List (Addr×Obj)) (σ:St) (H:Hp) (s:Shared) (e:Value) (s':Shared),Inv X pins σ H s->CX X.stack H s E e s'->X.xe e s'
section
variable {X:Cx}{CX:CXT}{k:Nat}{f C:Addr}{fd:FuncData}{ps:List Str}{sp:Sp}{dvs:List V}{ds:List Value}{E:XK}{x m:Str}{p pos apos:Pos}{e o:Expr}{es:List Expr}{ta:TE}{t:TA}
theorem vp{pins:List (Addr×Obj)}{σ:St}{H:Hp}{s:Shared}{Q:VK}{us:List Value}{vs:List V}(F:j4 X.prog X.w X.K X.mg X.base CX k f fd ps sp)(hr:kc k X.A)(hb:Binds X.K fd ps ds)(hd:b8 dvs ds)(hx:vd CX X E)
  (I:Inv X pins σ H s) (r:b8 vs us) (h:sp (vs++dvs) H Q E):az (model X.prog X.w) X.A (call (.ref f) us) (EP X pins σ Q) X.xe s:=by
 have r2:b8 (vs++dvs) (us++ds):=r.append hd
 have hl:(us++ds).length=ps.length:=by rw[<- r2.length];exact F.len _ _ _ _ h
 refine wpAny_call (jj (F.run X.A X.stack s H ⟨us,[]⟩ (us++ds) (vs++dvs) Q E hr I.env0 (hb s us I.kIn hl) r2 h) λr s' hq =>?_)
 cases r with
 | error e=>exact hx pins σ H s e s' I hq
 | ok fl=>
   cases fl with
   | ret u=>exact I.after hq
   | next=>exact dr hq
   | brk=>exact dr hq
   | cont=>exact dr hq
theorem GI(F:j4 X.prog X.w X.K X.mg X.base CX k f fd ps sp)(hr:kc k X.A)(hg:Gl X x)(hm:X.mg x=some (.ref f))(hk:dk X.K (.ref f)=true)(hb:Binds X.K fd ps ds)(hd:b8 dvs ds)(hx:vd CX X E)
  (ha:PA X (e::es) t) (hdb:autoParam ((x == ("__debug__":Str))=false) au2._auto_1) (he:autoParam (starEach (e::es) X.env=(false,eval e X.env)::starEach es X.env) au1._auto_1) (hpl:autoParam ((backTo pos (starEach es X.env)).any (·.1)=false) au1._auto_1) :
  PE X (.Call (.Name x p) (e::es) [] pos) (zr sp dvs E t):=by
 intro pins s σ H Q I h
 refine dm (vE I hg hm ?_ hdb)
 refine Ei (h₀:=X.base) I.ok.mod.kin hk (thn (ha pos pins s σ H _ I h) λus s1 ⟨vs,H1,I1,r,q⟩=>⟨I1.kIn,?_⟩) he hpl
 exact vp F hr hb hd hx I1 r q
theorem Do(F:j4 X.prog X.w X.K X.mg X.base CX k f fd ps sp)(hr:kc k X.A)(hg:Gl X x)(hm:X.mg x=some (.ref f))(hk:dk X.K (.ref f)=true)(hb:Binds X.K fd ps ds)(hd:b8 dvs ds)(hx:vd CX X E)
  (hdb:autoParam ((x == ("__debug__":Str))=false) au2._auto_1):PE X (.Call (.Name x p) [] [] pos) (zr sp dvs E yN):=by
 intro pins s σ H Q I h
 refine dm (vE I hg hm ?_ hdb)
 exact PySem.W.callWith_K0 I.kIn hk (vp (us:= []) F hr hb hd hx I .nil h)
end
section
variable {X:Cx}{CX:CXT}{k:Nat}{f C:Addr}{fd:FuncData}{ps ks:List Str}{sp:Sp}{E:XK}{x m:Str}{p pos apos kpos:Pos}{e o:Expr}{es:List Expr}{kws:List Keyword}{te ta:TE}{t tk:TA}{nm:Option Str}
variable {g:List Value->List Value->List Value}{gV:List V->List V->List V}
end
structure bc(N P:List Str)(sc:Scope):Prop where
 kind:sc.kind = .function
 co:sc.isCoroutine=false
 gen:sc.isGenerator=false
 nd:N.Nodup
 pre:N.take P.length=P
 par: ∀x∈P,sc.names.lookup x=some .local\/sc.names.lookup x=some .cell
 nofree: ∀y∈sc.names,y.2≠.free
theorem uz{kindOf:Str->Option NameKind}{x:Str}: ∀{binds:List (Str×Value)}{m:Str->Option Value},(∀v,(x,v)∉binds)->bindL kindOf binds m x=m x
 | [],_,_=>rfl
 | (n,v)::r,m,h=>by
   unfold bindL
   rw[uz λw hw=>h w (aC _ hw)]
   split
   ·have:x≠n:=by rintro rfl;exact h v dG
    simp[this]
   ·rfl
theorem t7{kindOf:Str->Option NameKind}{x:Str}: ∀{binds:List (Str×Value)}{m:Str->Option Value},(∀v,(x,v)∉binds)->bindC kindOf binds m x=m x
 | [],_,_=>rfl
 | (n,v)::r,m,h=>by
   unfold bindC
   rw[t7 λw hw=>h w (aC _ hw)]
   split
   ·rfl
   ·have:x≠n:=by rintro rfl;exact h v dG
    simp[this]
theorem tX{kindOf:Str->Option NameKind}{x:Str}{v:Value}: ∀{P:List Str}{vs:List Value}{i:Nat}{m:Str->Option Value},P.Nodup->P[i]? = some x->vs[i]? = some v->kindOf x=some .local ->
  bindL kindOf (P.zip vs) m x=some v
 | [],_,_,_,_,h,_,_=>by simp at h
 | _::_,[],_,_,_,_,h,_=>by simp at h
 | p::P,w::vs,0,m,nd,h1,h2,hk=>by
   simp at h1 h2;subst h1;subst h2
   show bindL kindOf ((p,w)::P.zip vs) m p=_
   unfold bindL
   rw[uz λv hv=>(gO.mp nd).1 (vR hv).1,if_pos hk]
   simp
 | p::P,w::vs,i+1,m,nd,h1,h2,hk=>by
   show bindL kindOf ((p,w)::P.zip vs) m x=_
   unfold bindL
   exact tX (i:=i) (gO.mp nd).2 (by simpa using h1) (by simpa using h2) hk
theorem uE{kindOf:Str->Option NameKind}{x:Str}{v:Value}: ∀{P:List Str}{vs:List Value}{i:Nat}{m:Str->Option Value},P.Nodup->P[i]? = some x->vs[i]? = some v->kindOf x≠some .local ->
  bindC kindOf (P.zip vs) m x=some v
 | [],_,_,_,_,h,_,_=>by simp at h
 | _::_,[],_,_,_,_,h,_=>by simp at h
 | p::P,w::vs,0,m,nd,h1,h2,hk=>by
   simp at h1 h2;subst h1;subst h2
   show bindC kindOf ((p,w)::P.zip vs) m p=_
   unfold bindC
   rw[t7 λv hv=>(gO.mp nd).1 (vR hv).1,if_neg hk]
   simp
 | p::P,w::vs,i+1,m,nd,h1,h2,hk=>by
   show bindC kindOf ((p,w)::P.zip vs) m x=_
   unfold bindC
   exact uE (i:=i) (gO.mp nd).2 (by simpa using h1) (by simpa using h2) hk
noncomputable def start(N:List Str)(vs:List V):St:=vs.map some++aw (N.length - vs.length) none
noncomputable def yK(CX:CXT)(P:Program)(w:World)(K:av)(mg:Str->Option Value)(base:Heap)(N:List Str)(qual:Str)(scope:Scope)(f:Addr)(cd:Value)(A:Around)(outer:List Env)(s:Shared)(H:Hp)(E:XK):Cx where
 prog:=P
 w:=w
 K:=K
 mg:=mg
 base:=base
 A:=A.deeper (envOfC qual scope s.heap.objs.size f cd)
 N:=N
 s₀:=s
 H₀:=H
 env:=envOfC qual scope s.heap.objs.size f cd
 outer:=outer
 stack:=envOfC qual scope s.heap.objs.size f cd::outer
 ex:= []
 calm:=true
 fn:=λ_=>true
 pn:= []
 xe:=λe s'=>az (model P w) (A.deeper (envOfC qual scope s.heap.objs.size f cd)) (leaving (envOfC qual scope s.heap.objs.size f cd) e) (λ_ s''=>CX outer H s E e s'') (λe' s''=>CX outer H s E e' s'') s'
theorem wJ{sc:Scope}{n:Nat}{x:Str}(h:sc.names.lookup x=some .cell): ∃c,(cellsFrom n sc.names []).lookup x=some c:=by
 have q:=hG sc.names n [] (.inl h)
 exact gB.mp q
theorem A0{CX:CXT}{P:Program}{w:World}{K:av}{mg:Str->Option Value}{base:Heap}{N ps:List Str}{qual:Str}{scope:Scope}{f:Addr}{cd:Value}{A:Around}{outer:List Env}{s s1:Shared}{H:Hp}{E:XK}{us:List Value}{vs:List V}
  (S:bc N ps scope) (hd:A.handled=none) (e0:GG P w K mg base A outer s H) (hl:vs.length=ps.length) (r:b8 vs us)
  (x:InCallC s s.heap.objs.size (bindL (envOfC qual scope s.heap.objs.size f cd).kindOf (ps.zip us) λ_=>none) (cellsFrom (s.heap.objs.size+1) scope.names []) (bindC (envOfC qual scope s.heap.objs.size f cd).kindOf (ps.zip us) λ_=>none) s1):
  Inv (yK CX P w K mg base N qual scope f cd A outer s H E) [] (start N vs) H s1:=by
 have hpl:ps.length<=N.length:=by have:=congrArg oV S.pre;rw[iU]at this;omega
 obtain⟨h1,tk,rfl,hk⟩:=x.done
 have noA: ∀b:Addr,b∉(yK CX P w K mg base N qual scope f cd A outer s H E).ex:=λb z=>absurd (show b∈([]:List Addr) from z) (by simp)
 refine⟨⟨e0.mod,S.kind,rfl,rfl,aq _,λy z c h1 h2 =>?_,λy hy =>?_,λy c _ h =>?_,λ_=>hd,Around.frames_deeper e0.frames,.inr ⟨rfl,rfl⟩,λb z=>absurd z (noA b),e0.bs,e0.bsz,λb _ _=>noA b,λb z=>absurd z (noA b),e0.funs,e0.frf⟩,
  rfl,e0.bare,Un.kept hk,⟨_,x.toInCall.ns,λi y v h1 h2 h3 =>?_⟩,λy c h=>⟨_,x.cell y c h⟩,e0.hok.fresh (aq _),λy c h =>?_,λp hp=>absurd (show p∈([]:List (Addr×Obj)) from hp) (by simp),e0.hok.kept hk,?_⟩
 ·exact name_of_addr x.apart (b0 h1) (b0 h2)
 ·have hy:scope.names.lookup y=some .cell\/scope.names.lookup y=some .free:=hy
  rcases hy with hy |hy
  ·exact wJ hy
  ·exact absurd rfl (S.nofree _ (b0 hy))
 ·exact bG (x.above y c (b0 h))
 ·have hi:i<vs.length:=by
   unfold start at h2
   by_cases hi:i<vs.length
   ·exact hi
   ·rw[aG (by simpa using hi)]at h2
    rw[hJ]at h2
    split at h2 <;> cases h2
  have ha:vs[i]? = some v:=by
   unfold start at h2
   rw[bg (by simpa using hi),dP]at h2
   cases e:vs[i]? with
   | none=>rw[e]at h2;cases h2
   | some a=>rw[e]at h2;cases h2;rfl
  obtain⟨u,hu,rv⟩:=r.get ha
  have hp:ps[i]? = some y:=by
   rw[<- S.pre,List.getElem?_take_of_lt (by omega)];exact h1
  have ndP:ps.Nodup:=by rw[<- S.pre];exact S.nd.sublist (su _ _)
  refine⟨u,rv,?_⟩
  rcases S.par y (cb hp) with k |k
  ·exact .inl ⟨k,tX ndP hp hu k⟩
  ·obtain⟨c,e⟩:=wJ (n:=s.heap.objs.size+1) k
   refine .inr ⟨.inl k,c,e,?_⟩
   have q:=x.cell y c e
   rw[uE ndP hp hu (by show scope.names.lookup y≠_;rw[k];decide)]at q
   exact q
 ·exact e0.hok.fresh (bG (x.above y c (b0 h)))
 ·unfold start
  show _=N.length
  rw[bj,aA,ek]
  omega
theorem CH{CX:CXT}{P:Program}{w:World}{K:av}{mg:Str->Option Value}{base:Heap}{k:Nat}{f:Addr}{name qual:Str}{params:Arguments}{body:List Stmt}{scope:Scope}{dV kV doc pm cdv ct oc:Value}{an od:Option Addr}
  {osl:Array (Option Value)}{N ps:List Str}{sp:Sp} (lk:K.lookup f=some ⟨oc,od,.func (dE name qual params body scope dV kV doc pm an cdv ct),osl⟩) (hcd:nU K cdv qual=true) (S:bc N ps scope)
  (len: ∀vs H Q E,sp vs H Q E->vs.length=ps.length)
  (hbody: ∀(A:Around) (outer:List Env) (s:Shared) (H:Hp) (vs:List V) (Q:VK) (E:XK),kc k (A.deeper (envOfC qual scope s.heap.objs.size f cdv))->sp vs H Q E ->
   ∃t,PSs (yK CX P w K mg base N qual scope f cdv A outer s H E) body t/\t { nx:=λ_ H'=>Q .non H',rt:=Q } (start N vs) H):
  j4 P w K mg base CX (k+1) f (dE name qual params body scope dV kV doc pm an cdv ct) ps sp:=by
 refine⟨len,λA outer s H args us vs Q E hr e0 hb r hsp =>?_⟩
 have hl:=len _ _ _ _ hsp
 have KX:K.In s.heap:=e0.mod.kin.keeps λb o e=>(e0.bs b o e).1
 have lim:s.heap.NoLimit:=e0.mod.nolimit.keeps λb o e=>(e0.bs b o e).1
 have hkind: ∀y∈ps.zip us,scope.names.lookup y.1=some .local\/(scope.names.lookup y.1=some .cell/\((cellsFrom (s.heap.objs.size+1) scope.names []).lookup y.1).isSome=true):=fun⟨n,v⟩ hy=>by
  rcases S.par n (vR hy).1 with q |q
  ·exact .inl q
  ·exact .inr ⟨q,hG _ _ _ (.inl q)⟩
 refine codeAny_call_function hr.depth (KX _ _ lk) rfl S.co S.gen rfl (PySem.W.codeRec_of KX hcd) (hb _ _ _ _ ?_)
 refine wpAny_newFunctionEnv_cells S.kind hkind λenv he s1 x =>?_
 subst he
 refine⟨lim.keeps x.toInCall.keep,codeAny_func ?_⟩
 obtain⟨t,ht,hq⟩:=hbody A outer s H vs Q E (hr.deeper _) hsp
 have I:Inv (yK CX P w K mg base N qual scope f cdv A outer s H E) [] (start N vs) H s1:=A0 S hr.hd e0 hl r x
 refine cY (ht [] s1 (start N vs) H _ I hq) (λfl s' hs =>?_) λe s' hs=>hs
 have fin: ∀{σ':St}{H':Hp}{v:V}{u:Value},Inv (yK CX P w K mg base N qual scope f cdv A outer s H E) [] σ' H' s'->RelV v u->Q v H'->CE outer P w H s Q u s':=
  λ{σ' H' v u} J rv q=>⟨v,H',J.os,J.bare,J.base,J.hok,rv,q⟩
 cases fl with
 | ret u=>
   obtain⟨v,σ',H',J,rv,q⟩:=hs
   exact fin J rv q
 | next=>
   obtain⟨σ',H',J,q⟩:=hs
   exact fin (v:=V.non) (u:=da) J rfl q
 | brk=>
   obtain⟨_,_,_,q⟩:=hs
   exact dr q
 | cont=>
   obtain⟨_,_,_,q⟩:=hs
   exact dr q
end _L
namespace _L
open PySem PySem.Spec PyProof.Rows
section
variable {X:Cx}{x:Str}{p pos:Pos}{e:Expr}{es:List Expr}{t:TA}{id T:String}{r:List V->Hp->VK->Prop}
noncomputable def tCB(r:List V->Hp->VK->Prop)(t:TA):TE:=λσ H Q=>t σ H λvs H1=>r vs H1 Q
theorem jY (hc:gR X (.builtin id) r) (hg:Gl X x) (hm:X.mg x=none) (hv:bootBuiltins x=some (.builtin id)) (ha:PA X (e::es) t) (hn:autoParam (x≠"__name__") au2._auto_1) (hdb:autoParam ((x == ("__debug__":Str))=false) au2._auto_1)
  (he:autoParam (starEach (e::es) X.env=(false,eval e X.env)::starEach es X.env) au1._auto_1) (hpl:autoParam ((backTo pos (starEach es X.env)).any (·.1)=false) au1._auto_1):PE X (.Call (.Name x p) (e::es) [] pos) (tCB r t):=by
 intro pins s σ H Q I h
 refine dm (hC I hg hm hv ?_ hn hdb)
 exact gS (thn (ha pos pins s σ H _ I h) λus s1 ⟨vs,H1,I1,r1,q1⟩=>hc pins s1 σ H1 vs us Q I1 r1 q1) he hpl
theorem mN (hc:gR X (.type T) r) (hg:Gl X x) (hm:X.mg x=none) (hv:bootBuiltins x=some (.type T)) (ha:PA X (e::es) t) (hn:autoParam (x≠"__name__") au2._auto_1) (hdb:autoParam ((x == ("__debug__":Str))=false) au2._auto_1)
  (he:autoParam (starEach (e::es) X.env=(false,eval e X.env)::starEach es X.env) au1._auto_1) (hpl:autoParam ((backTo pos (starEach es X.env)).any (·.1)=false) au1._auto_1):PE X (.Call (.Name x p) (e::es) [] pos) (tCB r t):=by
 intro pins s σ H Q I h
 refine dm (hC I hg hm hv ?_ hn hdb)
 exact bN (thn (ha pos pins s σ H _ I h) λus s1 ⟨vs,H1,I1,r1,q1⟩=>hc pins s1 σ H1 vs us Q I1 r1 q1) he hpl
end
end _L
namespace HT
open PySem PyProof.Rows
section
open PySem.SeqAt
open PySem.AutoSeq1 (wpAny_loadPart')
open PySem.MeetsSeq PySem.MeetsSeq2 PySem.MeetsSeq3
end
section
variable {prog:Program}{w:World}{A:Around}{E:Value->Shared->Prop}{s:Shared}
theorem cat_tup{t b:Addr}{vs ws:List Value}{Q:Value->Shared->Prop}(ht:IsTup s.heap t vs.toArray)(hb:IsTup s.heap b ws.toArray)(hv:vs≠[])
  (h1:ws = []->Q (.ref t) s) (h2:ws ≠ []->Q (.ref s.heap.objs.size) { s with heap:=s.heap.push { cls := .type "tuple",data := .seq (vs++ws).toArray } })
  (hsz:vs.length+ws.length<=sizeLine):az (model prog w) A (binaryOp .Add (.ref t) (.ref b)) Q E s:=by
 obtain⟨⟨cls,dd,data,sl⟩,ho,hc,n,hd⟩:=id ht
 obtain⟨⟨cls2,dd2,data2,sl2⟩,ho2,hc2,n2,hd2⟩:=id hb
 simp only at hc hd hc2 hd2
 subst hc hd hc2 hd2
 have e:vs.toArray++ws.toArray=(vs++ws).toArray:=by simp
 by_cases hw:ws = []
 ·exact concat_meets ⟨_,ho,rfl⟩ ⟨_,ho2,rfl⟩ noFill_tuple_add seq_tuple_add mH lr (kE _ _)
   (tuple_addW1 t b vs.toArray ws.toArray n n2 dd dd2 sl sl2 (by simpa using hv) (by simp[hw])) ⟨ho,ho2,h1 hw⟩
 ·refine concat_meets ⟨_,ho,rfl⟩ ⟨_,ho2,rfl⟩ noFill_tuple_add seq_tuple_add mH lr (kE _ _)
   (tuple_addW2 t b vs.toArray ws.toArray n n2 dd dd2 sl sl2 (by simpa using hv) (by simpa using hw) (by rw[aF,aF];exact hsz)) ⟨ho,ho2,?_⟩
  rw[e]
  exact h2 hw
noncomputable def sIx(n d:Nat):Option Int->Nat
 | none=>d
 | some v=>if v<0 then(v+(n:Int)).toNat else min v.toNat n
theorem sIx_nat(n d k:Nat):sIx n d (some (k:Int))=min k n:=by
 show(if (k:Int)<0 then((k:Int)+(n:Int)).toNat else min (k:Int).toNat n)=min k n
 rw[if_neg (by omega),bL]
theorem JG(n d:Nat)(hd:d<=n)(o:Option Int):sIx n d o<=n:=by
 cases o with
 | none=>exact hd
 | some v=>
   show(if v<0 then(v+(n:Int)).toNat else min v.toNat n)<=n
   by_cases hv:v<0
   ·rw[if_pos hv];omega
   ·rw[if_neg hv];exact Nat.min_le_right _ _
theorem z6(v:Int)(n d:Nat):(if v<0 then max (v+(n:Int)) 0 else min v (n:Int))=((sIx n d (some v):Nat):Int):=by
 show(if v<0 then max (v+(n:Int)) 0 else min v (n:Int))=(((if v<0 then(v+(n:Int)).toNat else min v.toNat n):Nat):Int)
 by_cases hv:v<0
 ·simp only[if_pos hv];omega
 ·simp only[if_neg hv];omega
theorem zm(lo hi:Option Int)(n:Nat):jk lo hi 1 (n:Int)=(((sIx n 0 lo:Nat):Int),((sIx n n hi:Nat):Int)):=by
 have h1: ¬((1:Int)<0):=by decide
 unfold jk
 simp only[h1,if_false]
 refine Prod.ext ?_ ?_
 ·cases lo with
  | none=>rfl
  | some v=>exact z6 v n 0
 ·cases hi with
  | none=>rfl
  | some v=>exact z6 v n n
theorem yF(i j:Nat):fE (i:Int) (j:Int) 1=j - i:=by
 unfold fE
 have h1:(1:Int) > 0:=by decide
 simp only[h1,if_true,Int.ediv_one]
 split <;> omega
theorem rj{v:Value}{o:Option Int}{Q:Option Int->Shared->Prop}(p:IsPart v o)(h:Q o s):az (model prog w) A (Builtin.Slice.slicePartIndex v) Q E s:=by
 cases p with
 | none=>exact slicePart_none h
 | int i t=>exact slicePart_int h
theorem jZ{sl:Addr}{vl vu:Value}{lo hi:Option Int}{n:Nat}{Q:Int×Int×Nat->Shared->Prop}(hs:s.heap.IsSliceOf sl vl vu .none)(pl:IsPart vl lo)(pu:IsPart vu hi)
  (h:Q (((sIx n 0 lo:Nat):Int),1,sIx n n hi - sIx n 0 lo) s):az (model prog w) A (ql (.ref sl) (pure (n:Int))) Q E s:=by
 obtain⟨os,hos,hcs,hds⟩:=id hs
 unfold ql Builtin.Slice.sliceFields
 refine af (af (cy hos hds (x:=vl) rfl (af (cy hos hds (x:=vu) rfl (af (cy hos hds (x:= .none) rfl (aj ?_)))))))
 refine af (slicePart_none ?_)
 show az _ _ (if ((1:Int)==0)=true then _ else _) _ _ s
 rw[if_neg (by decide)]
 refine af (rj pl (af (rj pu (af (aj ?_)))))
 show az _ _ (match jk lo hi 1 (n:Int) with | (lo,hi)=>pure (lo,(1:Int),fE lo hi 1)) _ _ s
 rw[zm lo hi n]
 show az _ _ (pure (((sIx n 0 lo:Nat):Int),(1:Int),fE ((sIx n 0 lo:Nat):Int) ((sIx n n hi:Nat):Int) 1)) _ _ s
 rw[yF]
 exact aj h
theorem CL(xs:Array Value)(i k:Nat):((aE k).filterMap λ(m:Nat)=>xs[((i:Int)+(m:Int)*1).toNat]?).toArray=((xs.toList.drop i).take k).toArray:=by
 have e:(λ(m:Nat)=>xs[((i:Int)+(m:Int)*1).toNat]?)=λm=>xs[i+m]? := by
  funext m
  have:((i:Int)+(m:Int)*1).toNat=i+m:=by omega
  rw[this]
 rw[e]
 have:=pick_run xs i k
 rw[List.filterMap_map]at this
 have e2:((λx=>xs[x]?)∘λx=>i+x)=λm=>xs[i+m]? := rfl
 rw[e2]at this
 rw[this]
theorem getItem_tuple_cut{t sl:Addr}{items:Array Value}{vl vu:Value}{lo hi:Option Int}{Q:Value->Shared->Prop}(ht:IsTup s.heap t items)(hs:s.heap.IsSliceOf sl vl vu .none)(pl:IsPart vl lo)(pu:IsPart vu hi)
  (hw: ¬(sIx items.size 0 lo=0/\sIx items.size items.size hi=items.size))
  (h:Q (.ref s.heap.objs.size) { s with heap:=s.heap.push { cls := .type "tuple",data := .seq ((items.toList.drop (sIx items.size 0 lo)).take (sIx items.size items.size hi - sIx items.size 0 lo)).toArray } })
  (hsz:items.size<=sizeLine):az (model prog w) A (getItem (.ref t) (.ref sl)) Q E s:=by
 have htake:sizeOk (.seq ((items.toList.drop (sIx items.size 0 lo)).take (sIx items.size items.size hi - sIx items.size 0 lo)).toArray):=by
  show((items.toList.drop (sIx items.size 0 lo)).take (sIx items.size items.size hi - sIx items.size 0 lo)).toArray.size<=sizeLine
  rw[aF,iU,m6,cQ]
  omega
 have hj:sIx items.size items.size hi<=items.size:=JG _ _ (aq _) hi
 obtain⟨os,hos,hcs,hds⟩:=id hs
 have hTs:s.TypeIs (.ref sl) "slice":=⟨os,hos,hcs⟩
 unfold getItem
 try with_reducible refine df ?_
 first |refine af (aj ?_) |skip
 refine af (wpAny_sequenceKey ht.typeIs (by decide) ?_)
 refine af (bA (name:=dc "__getitem__") ht.typeIs en
  (bx en ht.typeIs entry_tuple_getitem ?_ (args_tuple_getitem _ _)))
 show az _ _ (qm (.ref t) >>= _) _ _ s
 refine af (tupleItemsOf_ ht ?_)
 refine af (gQ hTs ?_)
 rw[if_pos (by decide)]
 refine af (jZ hs pl pu ?_)
 have hno: ¬((((sIx items.size 0 lo:Nat):Int)==0&&(1:Int)==1&&(sIx items.size items.size hi - sIx items.size 0 lo)==items.size)=true):=by
  intro q
  rw[aB,aB]at q
  have q1:((sIx items.size 0 lo:Nat):Int)=0:=eq_of_beq q.1.1
  have q2:sIx items.size items.size hi - sIx items.size 0 lo=items.size:=eq_of_beq q.2
  exact hw ⟨by omega,by omega⟩
 show az _ _ (if (((sIx items.size 0 lo:Nat):Int)==0&&(1:Int)==1&&(sIx items.size items.size hi - sIx items.size 0 lo)==items.size)=true then _ else _) _ _ s
 rw[if_neg hno,CL]
 first
  | exact af (m:=dw _) (bf (aj ⟨_,rfl,aj h⟩) htake)
  | exact af (m:=dw _) (bf (af (aj (aj ⟨_,rfl,aj h⟩))) htake)
  | exact af (af (m:=dw _) (bf (aj (aj ⟨_,rfl,aj h⟩)) htake))
  | exact af (af (m:=dw _) (bf (aj ⟨_,rfl,aj h⟩) htake))
end
end HT
namespace _L
open PySem PySem.Spec PyProof.Rows
abbrev TO:=St->Hp->(Option Int->Hp->Prop)->Prop
noncomputable def PO(X:Cx)(e:Option Expr)(t:TO):Prop:=
 ∀(pins:List (Addr×Obj)) (s:Shared) (σ:St) (H:Hp) (Q:Option Int->Hp->Prop),Inv X pins σ H s->t σ H Q ->
  az (model X.prog X.w) X.A (evalPart e X.env) (λu s' =>∃o H',Inv X pins σ H' s'/\IsPart u o/\Q o H') X.xe s
noncomputable def zB:TO:=λ_ H Q=>Q none H
noncomputable def G7(t:TE):TO:=λσ H Q=>t σ H λx H1 =>∃i,x = .int i/\Q (some i) H1
section
variable {X:Cx}{e:Expr}{te:TE}{lo hi:Option Expr}{tl th:TO}{pos p2:Pos}
theorem Gj:PO X none zB:=by
 intro pins s σ H Q I h
 rw[evalPart_none]
 exact aj ⟨none,H,I,.none,h⟩
theorem EU(h:PE X e te):PO X (some e) (G7 te):=by
 intro pins s σ H Q I hw
 rw[evalPart_some]
 refine thn (h pins s σ H _ I hw) λu s1 ⟨x,H1,I1,r1,q1⟩ =>?_
 obtain⟨i,rfl,q⟩:=q1
 obtain⟨t,rfl⟩:=r1
 exact⟨some i,H1,I1,.int i t,q⟩
noncomputable def SlR(X:Cx)(r:V->Option Int->Option Int->Hp->VK->Prop):Prop:=
 ∀(pins:List (Addr×Obj)) (s:Shared) (σ:St) (H:Hp) (x:V) (v vl vu:Value) (lo hi:Option Int) (sl:Addr) (Q:VK),Inv X pins σ H s->RelV x v->s.heap.IsSliceOf sl vl vu .none->IsPart vl lo->IsPart vu hi->r x lo hi H Q ->
  ∃ T id,typeLookup (.type T) "__getitem__"=pure (some (.builtin id))/\s.TypeIs v T/\az (model X.prog X.w) X.A (getItem v (.ref sl)) (EP X pins σ Q) X.xe s
theorem SlR.or{r r':V->Option Int->Option Int->Hp->VK->Prop}(h:SlR X r)(h':SlR X r'):SlR X (λx lo hi H Q=>r x lo hi H Q\/r' x lo hi H Q):=by
 intro pins s σ H x v vl vu lo hi sl Q I rx hs pl pu q
 rcases q with q |q
 ·exact h pins s σ H x v vl vu lo hi sl Q I rx hs pl pu q
 ·exact h' pins s σ H x v vl vu lo hi sl Q I rx hs pl pu q
noncomputable def tSl(r:V->Option Int->Option Int->Hp->VK->Prop)(te:TE)(tl th:TO):TE:=λσ H Q=>te σ H λx H1=>tl σ H1 λl H2=>th σ H2 λu H3=>r x l u H3 Q
theorem Dq{r:V->Option Int->Option Int->Hp->VK->Prop}(hr:SlR X r)(he:PE X e te)(hl:PO X lo tl)(hu:PO X hi th):PE X (.Subscript e (.Slice lo hi none p2) pos) (tSl r te tl th):=by
 intro pins s σ H Q I h
 refine Subscript_ (thn (he pins s σ H _ I h) λv s1 ⟨x,H1,I1,r1,q1⟩ =>?_)
 refine wpAny_Slice (thn (hl pins s1 σ H1 _ I1 q1) λvl s2 ⟨l,H2,I2,pl,q2⟩=>thn (hu pins s2 σ H2 _ I2 q2) λvu s3 ⟨u,H3,I3,pu,q3⟩ =>?_)
 rw[evalPart_none]
 refine aj ?_
 have I4:Inv X pins σ H3 { s3 with heap:=s3.heap.push { cls := .type "slice",data := .fields #[vl,vu,.none] } }:=I3.kept (t':=s3.toks) fun b ob q=>ao _ q
 obtain⟨T,id,hT,ht,hg⟩:=hr pins { s3 with heap:=s3.heap.push { cls := .type "slice",data := .fields #[vl,vu,.none] } } σ H3 x v vl vu l u s3.heap.objs.size Q I4 r1 (Heap.IsSliceOf.new ..) pl pu q3
 show az (model X.prog X.w) X.A (subscriptTail e (.Slice lo hi none p2) v (.ref s3.heap.objs.size)) (EP X pins σ Q) X.xe { s3 with heap:=s3.heap.push { cls := .type "slice",data := .fields #[vl,vu,.none] } }
 exact tail_any (ops:= [.ref s3.heap.objs.size,v]) ht hT hg (by with_unfolding_all rfl)
noncomputable def xh(xs:List V)(lo hi:Option Int):List V:=(xs.drop (HT.sIx xs.length 0 lo)).take (HT.sIx xs.length xs.length hi - HT.sIx xs.length 0 lo)
theorem pC(xs:List V)(lo hi:Option Int):(xh xs lo hi).length<=xs.length:=by
 unfold xh
 rw[iU,m6]
 omega
noncomputable def Kp(K:av):V->Option Int->Option Int->Hp->VK->Prop:=λx lo hi H Q =>∃a xs,x = .ref a/\SqT K H a xs /\
 ¬(HT.sIx xs.length 0 lo=0/\HT.sIx xs.length xs.length hi=xs.length) /\ ∀p,H p=none->Q (.ref p) (upd H p (.tup (xh xs lo hi)))
theorem Jy:SlR X (Kp X.K):=by
 intro pins s σ H x v vl vu lo hi sl Q I rx hs pl pu h
 obtain⟨a,xs,rfl,hx,hw,q⟩:=h
 cases rx
 obtain⟨its,r,ht,hz⟩:=I.tuple hx
 have hlen:its.toArray.size=xs.length:=by rw[aF];exact r.length.symm
 refine⟨"tuple",_,PyProof.Rows.slot_tuple_getitem.lookup,ht.typeIs,?_⟩
 refine HT.getItem_tuple_cut ht hs pl pu (by rw[hlen];exact hw) ?_ (by rw[hlen];exact hz)
 rw[hlen]
 refine⟨.ref s.heap.objs.size,_,I.laid (t':=s.toks) (o:= .tup (xh xs lo hi)) (λb ob q=>ao _ q) (aq _) ?_,rfl,q _ (I.hok.fresh (aq _))⟩
 exact⟨aM (pC xs lo hi) hz,_,(r.drop (HT.sIx xs.length 0 lo)).take (HT.sIx xs.length xs.length hi - HT.sIx xs.length 0 lo),oW _ _,_,ay _ rfl,rfl⟩
noncomputable def Hn(K:av):R2:=λx y H Q =>∃a b xs ys,x = .ref a/\y = .ref b/\SqT K H a xs/\SqT K H b ys/\xs≠[]/\xs.length+ys.length<=sizeLine /\
 (ys = []->Q (.ref a) H)/\(ys≠[] -> ∀p,H p=none->Q (.ref p) (upd H p (.tup (xs++ys))))
theorem b8.nil_iff{xs:List V}{us:List Value}(r:b8 xs us):us = []↔xs = []:=by
 cases r with
 | nil=>simp
 | cons _ _=>simp
theorem F9:OpR X (binaryOp .Add) (Hn X.K):=by
 intro pins s σ H x y v u Q I rx ry h
 obtain⟨a,b,xs,ys,rfl,rfl,ha,hb,hx,hz,q1,q2⟩:=h
 cases rx
 cases ry
 obtain⟨its,r1,p1,_⟩:=I.tuple ha
 obtain⟨its2,r2,p2,_⟩:=I.tuple hb
 refine HT.cat_tup p1 p2 (λz=>hx (r1.nil_iff.mp z)) (λz=>⟨.ref a,H,I,rfl,q1 (r2.nil_iff.mp z)⟩) (λz =>?_) (by rw[<- r1.length,<- r2.length];exact hz)
 refine⟨.ref s.heap.objs.size,_,I.laid (t':=s.toks) (o:= .tup (xs++ys)) (λb ob q=>ao _ q) (aq _) ?_,rfl,q2 (λw=>z (r2.nil_iff.mpr w)) _ (I.hok.fresh (aq _))⟩
 exact⟨by rw[bj];exact hz,_,r1.append r2,oW _ _,_,ay _ rfl,rfl⟩
end
end _L
namespace _L
open PySem PySem.Spec PyProof.Rows
noncomputable def ixN(n:Nat)(i:Int):Option Nat:=if 0<=i then(if i<n then some i.toNat else none) else if -(n:Int)<=i then some (i+n).toNat else none
noncomputable def atI{α:Type}(xs:List α)(i:Int):Option α:=(ixN xs.length i).bind λj=>xs[j]?
theorem zy{n:Nat}{i:Int}{j:Nat}(h:ixN n i=some j):seqIndex? i n=some j/\j<n /\ -(n:Int)<=i/\i<n:=by
 unfold ixN at h
 by_cases h0:0<=i
 ·rw[if_pos h0]at h
  by_cases h1:i<n
  ·rw[if_pos h1]at h
   have e:i.toNat=j:=bz h
   exact⟨by rw[seqIndex_of h0 h1,e],by omega,by omega,h1⟩
  ·rw[if_neg h1]at h;cases h
 ·rw[if_neg h0]at h
  by_cases h1: -(n:Int)<=i
  ·rw[if_pos h1]at h
   have e:(i+n).toNat=j:=bz h
   exact⟨by rw[seqIndex_neg (by omega) h1,e],by omega,h1,by omega⟩
  ·rw[if_neg h1]at h;cases h
theorem vk{α:Type}{xs:List α}{i:Int}{v:α}(h:atI xs i=some v): ∃j,seqIndex? i xs.length=some j/\xs[j]? = some v/\j<xs.length /\ -(xs.length:Int)<=i/\i<xs.length:=by
 unfold atI at h
 cases e:ixN xs.length i with
 | none=>rw[e]at h;cases h
 | some j=>
   rw[e]at h
   obtain⟨h1,h2,h3,h4⟩:=zy e
   exact⟨j,h1,h,h2,h3,h4⟩
noncomputable def uI(b:Expr):Prop:= ∀o i,subscripted b false o i=operate [o,i] (getItem o i)
noncomputable def IxR(X:Cx)(r:R2):Prop:=
 ∀(value slice:Expr) (pins:List (Addr×Obj)) (s:Shared) (σ:St) (H:Hp) (x y:V) (v u:Value) (Q:VK),Inv X pins σ H s->RelV x v->RelV y u->r x y H Q ->
  subscripted slice false v u=operate [v,u] (getItem v u)->az (model X.prog X.w) X.A (subscriptTail value slice v u) (EP X pins σ Q) X.xe s
noncomputable def MtR(X:Cx)(id:String)(r:V->List V->Hp->VK->Prop):Prop:=
 ∀(pins:List (Addr×Obj)) (s:Shared) (σ:St) (H:Hp) (x:V) (xs:List V) (v:Value) (us:List Value) (Q:VK),Inv X pins σ H s->RelV x v->b8 xs us->r x xs H Q ->
  az (model X.prog X.w) X.A (call (.builtin id) (v::us)) (EP X pins σ Q) X.xe s
section
variable {X:Cx}{a b:Expr}{ta tb:TE}{pos:Pos}
theorem IxR.or{r r':R2}(h:IxR X r)(h':IxR X r'):IxR X (λx y H Q=>r x y H Q\/r' x y H Q):=by
 intro value slice pins s σ H x y v u Q I rx ry q hs
 rcases q with q |q
 ·exact h value slice pins s σ H x y v u Q I rx ry q hs
 ·exact h' value slice pins s σ H x y v u Q I rx ry q hs
theorem LM{r:R2}(hr:IxR X r)(ha:PE X a ta)(hb:PE X b tb)(hs:uI b):PE X (.Subscript a b pos) (tOp r ta tb):=by
 intro pins s σ H Q I h
 exact Subscript_ (HV ha hb I h λv u s2 x y H2 I2 rx ry q=>hr a b pins s2 σ H2 x y v u Q I2 rx ry q (hs _ _))
noncomputable def ML(K:av):R2:=λx y H Q =>∃p xs i v,x = .ref p/\y = .int i/\SqL K H p xs/\atI xs i=some v/\Q v H
noncomputable def Lo(K:av):R2:=λx y H Q =>∃p xs i v,x = .ref p/\y = .int i/\SqT K H p xs/\atI xs i=some v/\Q v H
noncomputable def K1:R2:=λx y H Q =>∃z i c,x = .str z/\y = .int i/\z.length<=sizeLine/\atI z.cps.toList i=some c/\Q (.str ⟨#[c]⟩) H
theorem EN:IxR X (ML X.K):=by
 intro value slice pins s σ H x y v u Q I rx ry h hs
 obtain⟨p,xs,i,z,rfl,rfl,hq,he,q⟩:=h
 cases rx
 obtain⟨t,rfl⟩:=ry
 obtain⟨its,r,pl,hz⟩:=I.list hq
 obtain⟨j,h1,h2,h3,h4,h5⟩:=vk he
 obtain⟨w,ew,rw'⟩:=r.get h2
 have hl:=r.length
 have hn:=nI
 have fin:EP X pins σ Q w s:=⟨z,H,I,rw',q⟩
 by_cases h0:0<=i
 ·have hj:i.toNat=j:=by
   rw[seqIndex_of h0 h5]at h1
   exact bz h1
  exact item_listR pl.isList h0 (by omega) (by rw[hj];simpa using ew) fin hs
 ·have hj:(i+(its.toArray.size:Int)).toNat=j:=by
   rw[seqIndex_neg (by omega) h4]at h1
   rw[aF,<- hl]
   exact bz h1
  exact subscriptTail_builtinR (x:=w) pl.isList.typeIs slot_list_getitem.lookup
   (wpAny_getItem_list_neg (Q:=λr s'=>r=w/\EP X pins σ Q r s') pl.isList (by omega) (by rw[aF] <;> omega) (by omega) (by rw[hj];simpa using ew) ⟨rfl,fin⟩) hs
theorem HK:IxR X (Lo X.K):=by
 intro value slice pins s σ H x y v u Q I rx ry h hs
 obtain⟨p,xs,i,z,rfl,rfl,hq,he,q⟩:=h
 cases rx
 obtain⟨t,rfl⟩:=ry
 obtain⟨its,r,pl,hz⟩:=I.tuple hq
 obtain⟨j,h1,h2,h3,h4,h5⟩:=vk he
 obtain⟨w,ew,rw'⟩:=r.get h2
 have hl:=r.length
 have hn:=nI
 have fin:EP X pins σ Q w s:=⟨z,H,I,rw',q⟩
 exact subscriptTail_builtinR (x:=w) pl.typeIs slot_tuple_getitem.lookup
  (getItem_tuple (j:=j) (Q:=λr s'=>r=w/\EP X pins σ Q r s') pl (by omega) (by omega) (by rw[aF,<- hl];exact h1) (by simpa using ew) ⟨rfl,fin⟩) hs
theorem IB:IxR X K1:=by
 intro value slice pins s σ H x y v u Q I rx ry h hs
 obtain⟨z,i,c,rfl,rfl,hz,he,q⟩:=h
 obtain⟨t,rfl⟩:=rx
 obtain⟨t',rfl⟩:=ry
 obtain⟨j,h1,h2,h3,h4,h5⟩:=vk he
 have hl:z.cps.toList.length=z.length:=by simp[Str.length]
 rw[hl]at h1 h4 h5
 have hn:=nI
 exact tail_any (typeIs_str s z t) slot_str_getitem.lookup (getItem_str (c:=c) (by
  have e1:decide (i < -(2 ^ 63:Int))=false:=decide_eq_false (by omega)
  have e2:decide (i >= 2 ^ 63)=false:=decide_eq_false (by omega)
  rw[e1,e2,Bool.or_false]) (by rw[h1];simpa using h2) ⟨.str ⟨#[c]⟩,H,I.tok _,⟨_,rfl⟩,q⟩) hs
noncomputable def rIx(K:av):R2:=λx y H Q=>ML K x y H Q\/Lo K x y H Q\/K1 x y H Q
theorem IK:IxR X (rIx X.K):=EN.or (HK.or IB)
theorem yy (its:List Value) (n j:Nat) (u:Value):cH (·.setIfInBounds j u) { cls := .type "list",data := .seq its.toArray n }={ cls := .type "list",data := .seq (its.set j u).toArray n }:=by
 simp[cH]
theorem Inv.lst{pins:List (Addr×Obj)}{σ:St}{H:Hp}{s:Shared}{p:Addr}{xs:List V}(I:Inv X pins σ H s)(h:H p=some (.lst xs)):
  ∃ (its:List Value) (n:Nat),b8 xs its/\s.heap.get? p=some { cls := .type "list",data := .seq its.toArray n }/\xs.length<=sizeLine:=by
 obtain⟨z,its,n,r,e⟩:=I.hok p _ h
 exact⟨its,n,r,e,z⟩
theorem Inv.lstUpd{pins:List (Addr×Obj)}{σ:St}{H:Hp}{s:Shared}{p:Addr}{xs ys:List V}{its its':List Value}{n n':Nat}{f:Obj->Obj}(I:Inv X pins σ H s)(h:H p=some (.lst xs))
  (ho:s.heap.get? p=some { cls := .type "list",data := .seq its.toArray n }) (hf:f { cls := .type "list",data := .seq its.toArray n }={ cls := .type "list",data := .seq its'.toArray n' }) (r:b8 ys its') (hz:ys.length<=sizeLine) (t:Nat) :
  Inv X pins σ (upd H p (.lst ys)) { s with heap:=s.heap.update p f,toks:=t }:=by
 have e:(s.heap.update p f).get? p=some { cls := .type "list",data := .seq its'.toArray n' }:=by
  rw[b3 f ho (by rw[hf] <;> rfl),hf]
 refine I.write (x:=p) (e:=p) (by rw[h];trivial) (.inl rfl) (λb u hb q=>(cg _ _ (cU hb)).trans q) ⟨_,e⟩ ?_
 exact⟨hz,its',n',r,e⟩
noncomputable def Hh:V->V->V->Hp->(Hp->Prop)->Prop:=λo i v H Q =>∃p xs k j,o = .ref p/\i = .int k/\H p=some (.lst xs)/\ixN xs.length k=some j/\Q (upd H p (.lst (xs.set j v)))
theorem set_list:Ie X Hh:=by
 intro pins s σ H o i v ov iv u Q I ro ri rv h
 obtain⟨p,xs,k,j,rfl,rfl,hp,hj,q⟩:=h
 cases ro
 obtain⟨t,rfl⟩:=ri
 obtain⟨its,n,r,ho,hz⟩:=I.lst hp
 obtain⟨h1,h2,h3,h4⟩:=zy hj
 have hl:=r.length
 have hn:=nI
 have I':Inv X pins σ (upd H p (.lst (xs.set j v))) { s with heap:=s.heap.update p (cH (·.setIfInBounds j u)) }:=
  I.lstUpd hp ho (yy its n j u) (r.set rv j) (by rw[fF];exact hz) s.toks
 by_cases h0:0<=k
 ·have hk:k.toNat=j:=by
   rw[seqIndex_of h0 h4]at h1
   exact bz h1
  exact PySem.W.ki_setAt ho h0 (by omega) (by rw[aF,<- hl];exact h4) (by rw[hk];exact⟨_,I',q⟩)
 ·have hk:(k+(its.toArray.size:Int)).toNat=j:=by
   rw[seqIndex_neg (by omega) h3]at h1
   rw[aF,<- hl]
   exact bz h1
  exact PySem.W.ki_setBack ho (by omega) (by rw[aF,<- hl];exact h3) (by omega) (by rw[hk];exact⟨_,I',q⟩)
theorem vv(lo hi:Option Int)(n:Nat):(sliceBounds lo hi none n).1=((HT.sIx n 0 lo:Nat):Int)/\(sliceBounds lo hi none n).2.1=((HT.sIx n n hi:Nat):Int)/\(sliceBounds lo hi none n).2.2=1:=by
 refine⟨?_,?_,rfl⟩
 ·cases lo with
  | none=>simp[sliceBounds,HT.sIx]
  | some i=>
    simp only[sliceBounds,HT.sIx,Option.getD_none,show(1:Int) > 0 by decide,if_true]
    by_cases h:i<0
    ·simp only[h,if_true] <;> omega
    ·simp only[h,if_false] <;> omega
 ·cases hi with
  | none=>simp[sliceBounds,HT.sIx]
  | some i=>
    simp only[sliceBounds,HT.sIx,Option.getD_none,show(1:Int) > 0 by decide,if_true]
    by_cases h:i<0
    ·simp only[h,if_true] <;> omega
    ·simp only[h,if_false] <;> omega
theorem tu(its:List Value)(lo hi:Option Int):slicePick its.toArray lo hi none=((its.drop (HT.sIx its.length 0 lo)).take (HT.sIx its.length its.length hi - HT.sIx its.length 0 lo)).toArray:=by
 obtain⟨h1,h2,h3⟩:=vv lo hi its.toArray.size
 unfold slicePick
 rw[h1,h2,h3]
 simp only[sliceRange_one,pick_run,aF] <;> rfl
noncomputable def Mt(K:av):V->Option Int->Option Int->Hp->VK->Prop:=λx lo hi H Q =>∃a xs,x = .ref a/\SqL K H a xs /\ ∀p,H p=none->Q (.ref p) (upd H p (.lst (xh xs lo hi)))
theorem FD:SlR X (Mt X.K):=by
 intro pins s σ H x v vl vu lo hi sl Q I rx hs pl pu h
 obtain⟨a,xs,rfl,hx,q⟩:=h
 cases rx
 obtain⟨its,r,ht,hz⟩:=I.list hx
 have hlen:=r.length
 refine⟨"list",_,slot_list_getitem.lookup,ht.isList.typeIs,?_⟩
 refine wpAny_getItem_list_slice ht.isList hs pl pu .none (by simp) ?_ (by rw[aF] <;> omega)
 rw[tu,<- hlen]
 refine⟨.ref s.heap.objs.size,_,I.laid (t':=s.toks) (o:= .lst (xh xs lo hi)) (λb ob q=>ao _ q) (aq _) ?_,rfl,q _ (I.hok.fresh (aq _))⟩
 exact⟨aM (pC xs lo hi) hz,_,0,(r.drop (HT.sIx xs.length 0 lo)).take (HT.sIx xs.length xs.length hi - HT.sIx xs.length 0 lo),ay _ rfl⟩
noncomputable def nq:V->Bool
 | .non=>true
 | .bl _=>true
 | .int _=>true
 | .str _=>true
 | _=>false
noncomputable def eqV:V->V->Bool
 | .non,.non=>true
 | .bl a,.bl b=>a==b
 | .bl a,.int b=>(if a then 1 else 0)==b
 | .int a,.bl b=>a==(if b then 1 else 0)
 | .int a,.int b=>a==b
 | .str a,.str b=>a==b
 | _,_=>false
theorem JB{A:Around}{s:Shared}{y x:V}{u v:Value}(ry:RelV y u)(rx:RelV x v)(fy:nq y=true)(fx:nq x=true):SeqAt.EqAt A s u v (eqV y x):=by
 cases y with
 | non=>
   cases ry
   cases x with
   | non=>cases rx;exact SeqAt.EqAt.same _
   | bl b=>cases rx;exact SeqAt.EqAt.none_bool b
   | int b=>obtain⟨t,rfl⟩:=rx;exact SeqAt.EqAt.none_int b t
   | str b=>obtain⟨t,rfl⟩:=rx;exact SeqAt.EqAt.none_str b t
   | _=>exact absurd (show false=true from fx) bE
 | bl a=>
   cases ry
   cases x with
   | non=>cases rx;exact SeqAt.EqAt.bool_none a
   | bl b=>cases rx;exact SeqAt.EqAt.bool_bool a b
   | int b=>obtain⟨t,rfl⟩:=rx;exact SeqAt.EqAt.bool_int a b t
   | str b=>obtain⟨t,rfl⟩:=rx;exact SeqAt.EqAt.bool_str a b t
   | _=>exact absurd (show false=true from fx) bE
 | int a=>
   obtain⟨t',rfl⟩:=ry
   cases x with
   | non=>cases rx;exact SeqAt.EqAt.int_none a t'
   | bl b=>cases rx;exact SeqAt.EqAt.int_bool a t' b
   | int b=>obtain⟨t,rfl⟩:=rx;exact SeqAt.EqAt.int_int a t' b t
   | str b=>obtain⟨t,rfl⟩:=rx;exact Au a t' b t
   | _=>exact absurd (show false=true from fx) bE
 | str a=>
   obtain⟨t',rfl⟩:=ry
   cases x with
   | non=>cases rx;exact SeqAt.EqAt.str_none a t'
   | bl b=>cases rx;exact SeqAt.EqAt.str_bool a t' b
   | int b=>obtain⟨t,rfl⟩:=rx;exact Av a t' b t
   | str b=>obtain⟨t,rfl⟩:=rx;exact SeqAt.EqAt.str_str a t' b t
   | _=>exact absurd (show false=true from fx) bE
 | _=>exact absurd (show false=true from fy) bE
noncomputable def eqU(x:V)(u:Value):Bool:=match u with
 | .none=>eqV .non x
 | .bool b=>eqV (.bl b) x
 | .int i _=>eqV (.int i) x
 | .str z _=>eqV (.str z) x
 | _=>false
theorem Ci{x y:V}{u:Value}(r:RelV y u)(f:nq y=true):eqU x u=eqV y x:=by
 cases y with
 | non=>cases r;rfl
 | bl b=>cases r;rfl
 | int i=>obtain⟨t,rfl⟩:=r;rfl
 | str z=>obtain⟨t,rfl⟩:=r;rfl
 | _=>exact absurd (show false=true from f) bE
theorem nZ{x:V}: ∀{xs:List V}{us:List Value},b8 xs us->xs.all nq=true->us.any (eqU x)=xs.any λy=>eqV y x
 | _,_,.nil,_=>rfl
 | y::xs,u::us,.cons r t,f=>by
   rw[bS,aB]at f
   rw[gM,gM,Ci r f.1,nZ t f.2]
theorem lK{A:Around}{s:Shared}{x:V}{v:Value}(rx:RelV x v)(fx:nq x=true): ∀{xs:List V}{us:List Value},b8 xs us->xs.all nq=true -> ∀u∈us,SeqAt.EqAt A s u v (eqU x u)
 | _,_,.nil,_=>λu hu=>by cases hu
 | y::xs,u::us,.cons r t,f=>λu' hu=>by
   rw[bS,aB]at f
   rcases aO.mp hu with rfl |hu
   ·rw[Ci r f.1];exact JB r rx f.1 fx
   ·exact lK rx fx t f.2 u' hu
noncomputable def inV(x:V)(xs:List V):Bool:=xs.any λy=>eqV y x
noncomputable def rIn(K:av)(neg:Bool):R2:=λx y H Q =>∃p xs,y = .ref p/\(SqL K H p xs\/SqT K H p xs)/\nq x=true/\xs.all nq=true/\Q (.bl (if neg then !inV x xs else inV x xs)) H
theorem AX:OpR X (compareOp .In) (rIn X.K false):=by
 intro pins s σ H x y v u Q I rx ry h
 obtain⟨p,xs,rfl,hq,fx,fs,q⟩:=h
 cases ry
 rcases hq with hq |hq
 ·obtain⟨its,r,pl,hz⟩:=I.list hq
  refine SeqAt.in_listAt (eqU x) pl.isList (λw hw=>lK rx fx r fs w (by simpa using hw)) ⟨.bl _,H,I,rfl,?_⟩
  rw[show its.toArray.any (eqU x)=its.any (eqU x) by simp,nZ r fs]
  exact q
 ·obtain⟨its,r,pl,hz⟩:=I.tuple hq
  refine SeqAt.in_tupleAt (eqU x) pl (λw hw=>lK rx fx r fs w (by simpa using hw)) ⟨.bl _,H,I,rfl,?_⟩
  rw[show its.toArray.any (eqU x)=its.any (eqU x) by simp,nZ r fs]
  exact q
theorem vB:OpR X (compareOp .NotIn) (rIn X.K true):=by
 intro pins s σ H x y v u Q I rx ry h
 obtain⟨p,xs,rfl,hq,fx,fs,q⟩:=h
 cases ry
 rcases hq with hq |hq
 ·obtain⟨its,r,pl,hz⟩:=I.list hq
  refine SeqAt.notIn_listAt (eqU x) pl.isList (λw hw=>lK rx fx r fs w (by simpa using hw)) ⟨.bl _,H,I,rfl,?_⟩
  rw[show its.toArray.any (eqU x)=its.any (eqU x) by simp,nZ r fs]
  exact q
 ·obtain⟨its,r,pl,hz⟩:=I.tuple hq
  refine SeqAt.notIn_tupleAt (eqU x) pl (λw hw=>lK rx fx r fs w (by simpa using hw)) ⟨.bl _,H,I,rfl,?_⟩
  rw[show its.toArray.any (eqU x)=its.any (eqU x) by simp,nZ r fs]
  exact q
theorem uP:gR X (.builtin "len") (fun xs H Q => ∃ p ys,xs = [.ref p]/\(SqL X.K H p ys\/SqT X.K H p ys)/\Q (.int ys.length) H):=by
 intro pins s σ H xs us Q I r h
 obtain⟨p,ys,rfl,hq,q⟩:=h
 obtain⟨u,rfl,rx⟩:=vals1 r
 cases rx
 have hn:=nI
 rcases hq with hq |hq
 ·obtain⟨its,r',pl,hz⟩:=I.list hq
  have hlen:=r'.length
  exact Calls.call_len_list pl.isList (by simp only[aF] <;> omega) ⟨.int ys.length,H,I.tok _,⟨s.toks+1,by rw[aF,hlen]⟩,q⟩
 ·obtain⟨its,r',pl,hz⟩:=I.tuple hq
  have hlen:=r'.length
  exact len_tuple pl (by simp only[aF] <;> omega) ⟨.int ys.length,H,I.tok _,⟨s.toks+1,by rw[aF,hlen]⟩,q⟩
theorem gR.or{f:Value}{r r':List V->Hp->VK->Prop}(h:gR X f r)(h':gR X f r'):gR X f (λxs H Q=>r xs H Q\/r' xs H Q):=by
 intro pins s σ H xs us Q I rs q
 rcases q with q |q
 ·exact h pins s σ H xs us Q I rs q
 ·exact h' pins s σ H xs us Q I rs q
theorem tE:gR X (.type "tuple") (fun xs H Q => ∃ p ys,xs = [.ref p]/\((SqL X.K H p ys /\ ∀ l,H l=none->Q (.ref l) (upd H l (.tup ys)))\/(SqT X.K H p ys/\Q (.ref p) H))):=by
 intro pins s σ H xs us Q I r h
 obtain⟨p,ys,rfl,h⟩:=h
 obtain⟨u,rfl,rx⟩:=vals1 r
 cases rx
 rcases h with⟨hq,q⟩ | ⟨hq,q⟩
 ·obtain⟨its,r',pl,hz⟩:=I.list hq
  have hlen:=r'.length
  refine call_tuple_list pl.isList (λh' kp =>?_) (by simp only[aF] <;> omega)
  have I1:Inv X pins σ H { s with heap:=h' }:=I.kept (t':=s.toks) kp
  have I2:Inv X pins σ (upd H h'.objs.size (.tup ys)) { s with heap:=h'.push { cls := .type "tuple",data := .seq its.toArray } }:=
   I1.laid (t':=s.toks) (λb o e=>ao _ e) (aq _) (show dY X.prog X.w _ _ _ (.tup ys) from⟨hz,its,r',oW _ _,_,ay _ rfl,rfl⟩)
  exact⟨.ref h'.objs.size,_,I2,rfl,q _ (I1.hok.fresh (aq _))⟩
 ·obtain⟨its,r',pl,hz⟩:=I.tuple hq
  exact call_tuple_same pl ⟨.ref p,H,I,rfl,q⟩
noncomputable def tyV(K:av)(T:String)(x:V)(H:Hp):Prop:=match x with
 | .str _=>T="str"
 | .int _=>T="int"
 | .ref p=>(T="list" /\ ∃ xs,SqL K H p xs)\/(T="tuple" /\ ∃ o,K.lookup p=some o/\o.cls = .type "tuple"/\o.dict=none) \/
   (T="dict"/\((∃ kvs,H p=some (.dK kvs)) \/ ∃ kvs,H p=some (.dT kvs)))\/(T="set" /\ ∃ S n,H p=some (.set S n))
 | _=>False
theorem DS{pins:List (Addr×Obj)}{σ:St}{H:Hp}{s:Shared}{T:String}{x:V}{v:Value}(I:Inv X pins σ H s)(r:RelV x v)(ty:tyV X.K T x H):
  s.TypeIs v T /\ ∀a,v = .ref a -> ∃ob,s.heap.get? a=some ob/\ob.dict=none:=by
 cases x with
 | str z=>
   obtain⟨t,rfl⟩:=r
   cases (show T="str" from ty)
   exact⟨typeIs_str s z t,λ_ e=>nomatch e⟩
 | int i=>
   obtain⟨t,rfl⟩:=r
   cases (show T="int" from ty)
   exact⟨typeIs_int s i t,λ_ e=>nomatch e⟩
 | ref p=>
   cases r
   rcases ty with⟨rfl,xs,hq⟩ | ⟨rfl,o,hk,hc,hd⟩ | ⟨rfl,hk⟩ | ⟨rfl,S,n,hk⟩
   ·obtain⟨its,_,pl,_⟩:=I.list hq
    refine⟨pl.isList.typeIs,λa e =>?_⟩
    cases e
    obtain⟨o,n,e,c,hd,_⟩:=pl
    exact⟨o,e,hd⟩
   ·refine⟨⟨o,I.kIn p o hk,hc⟩,λa e =>?_⟩
    cases e
    exact⟨o,I.kIn _ o hk,hd⟩
   ·have z: ∃o,s.heap.get? p=some o/\o.ExactDict:=by
     rcases hk with⟨kvs,hk⟩ | ⟨kvs,hk⟩
     ·obtain⟨_,_,_,_,o,_,_,e,ex,_⟩:=I.hok p _ hk
      exact⟨o,e,ex⟩
     ·obtain⟨_,_,_,_,o,_,_,e,ex,_⟩:=I.hok p _ hk
      exact⟨o,e,ex⟩
    obtain⟨o,e,ex⟩:=z
    refine⟨⟨o,e,ex.1⟩,λa e2 =>?_⟩
    cases e2
    exact⟨o,e,ex.2.1⟩
   ·obtain⟨o,_,_,_,e,ex,_⟩:=I.hok p _ hk
    refine⟨⟨o,e,ex.1⟩,λa e2 =>?_⟩
    cases e2
    exact⟨o,e,ex.2.1⟩
 | _=>exact dr ty
noncomputable def Lw(K:av)(T:String)(r:V->List V->Hp->VK->Prop)(to:TE):TE:=λσ H Q=>to σ H λx H1=>tyV K T x H1/\r x [] H1 Q
noncomputable def tBM(K:av)(T:String)(r:V->List V->Hp->VK->Prop)(to:TE)(t:TA):TE:=λσ H Q=>to σ H λx H1=>tyV K T x H1/\t σ H1 λxs H2=>r x xs H2 Q
variable {o e:Expr}{es:List Expr}{to:TE}{t:TA}{name:Str}{apos cpos:Pos}{T id:String}{r:V->List V->Hp->VK->Prop}
theorem Ig (pa:PlainAttrs T) (slot:Slot T name id) (hty:typeOf (.builtin id)=pure (.type "method_descriptor")) (hm:MtR X id r) (ho:PE X o to)
  (hbase:autoParam (attributeBase o name X.env (eval o X.env)=eval o X.env) au1._auto_1) (hline:autoParam ((apos.endLine==cpos.line)=true) au1._auto_1):PE X (.Call (.Attribute o name apos) [] [] cpos) (Lw X.K T r to):=by
 intro pins s σ H Q I h
 refine wpAny_Call_method0_late hbase hline (thn (ho pins s σ H _ I h) λv s1 ⟨x,H1,I1,r1,ty,q1⟩ =>?_)
 obtain⟨h1,h2⟩:=DS I1 r1 ty
 exact⟨T,id,pa,slot,hty,h1,h2,nk rfl (PySem.evalArgs_none (hm pins s1 σ H1 x [] v [] Q I1 r1 .nil q1))⟩
theorem GX (pa:PlainAttrs T) (slot:Slot T name id) (hty:typeOf (.builtin id)=pure (.type "method_descriptor")) (hm:MtR X id r) (ho:PE X o to) (ha:PA X (e::es) t)
  (hbase:autoParam (attributeBase o name X.env (eval o X.env)=eval o X.env) au1._auto_1)
  (hfew:autoParam (((backTo cpos (starEach (e::es) X.env)).all (λx => !x.1)&&(backToKw cpos (keywordEach [] X.env)).all (λx=>x.1.isSome)
   && decide ((e::es).length+([]:List Keyword).length+(if ([]:List Keyword).isEmpty then 0 else 1)<30))=true) au1._auto_1)
  (hline:autoParam ((apos.endLine==cpos.line)=true) au1._auto_1) (hs:autoParam (starEach (e::es) X.env=(false,eval e X.env)::starEach es X.env) au1._auto_1) (hplain:autoParam ((backTo cpos (starEach es X.env)).any (·.1)=false) au1._auto_1):
  PE X (.Call (.Attribute o name apos) (e::es) [] cpos) (tBM X.K T r to t):=by
 intro pins s σ H Q I h
 refine wpAny_Call_method_late hbase hfew hline rfl (thn (ho pins s σ H _ I h) λv s1 ⟨x,H1,I1,r1,ty,q1⟩ =>?_)
 obtain⟨h1,h2⟩:=DS I1 r1 ty
 refine⟨T,id,pa,slot,hty,h1,h2,?_⟩
 have hA:=ha cpos pins s1 σ H1 _ I1 q1
 rw[hs]at hA ⊢
 refine nk (by show(false||(backTo cpos (starEach es X.env)).any (·.1))=false;rw[hplain] <;> rfl) (oS ?_)
 exact thn hA λus s2 ⟨vs,H2,I2,r2,q2⟩=>hm pins s2 σ H2 x vs v us Q I2 r1 r2 q2
end
end _L
namespace _L
open PySem PySem.Spec PyProof.Rows
noncomputable def MtM(X:Cx)(id:String)(r:V->List V->Hp->VK->Prop):Prop:=
 ∀(pins:List (Addr×Obj)) (s:Shared) (σ:St) (H:Hp) (x:V) (xs:List V) (v:Value) (us:List Value) (Q:VK),Inv X pins σ H s->RelV x v->b8 xs us->r x xs H Q ->
  az (model X.prog X.w) X.A (call (.builtin id) (v::us)) (EP X pins σ Q) X.xe s
theorem b8.one: ∀{x:V}{us:List Value},b8 [x] us -> ∃u,us = [u]/\RelV x u:=by
 intro x us h
 cases h with |cons r t=>cases t;exact⟨_,rfl,r⟩
theorem b8.zero: ∀{us:List Value},b8 [] us->us = []
 | _,.nil=>rfl
theorem b8.dropLast{xs:List V}{us:List Value}(h:b8 xs us):b8 xs.dropLast us.dropLast:=by
 induction h with
 | nil=>exact .nil
 | cons r t ih=>
   cases t with
   | nil=>exact .nil
   | cons q t'=>exact .cons r ih
theorem b8.eraseIdx: ∀{xs:List V}{us:List Value} (i:Nat),b8 xs us->b8 (xs.eraseIdx i) (us.eraseIdx i)
 | _,_,_,.nil => .nil
 | _,_,0,.cons _ t=>t
 | _,_,i+1,.cons r t => .cons r (b8.eraseIdx i t)
theorem b8.rep{xs:List V}{us:List Value}(h:b8 xs us): ∀k:Nat,b8 (aw k xs).flatten (aw k us).flatten
 | 0 => .nil
 | k+1=>by
   rw[dy,dy,fO,fO]
   exact b8.append h (b8.rep h k)
theorem yx{α:Type}(l:List α):l.eraseIdx (l.length - 1)=l.dropLast:=by
 induction l with
 | nil=>rfl
 | cons a r ih=>
   cases r with
   | nil=>rfl
   | cons b r=>
     have e:(a::b::r).length - 1=((b::r).length - 1)+1:=by
      have h1:(a::b::r).length=r.length+2:=rfl
      have h2:(b::r).length=r.length+1:=rfl
      assumption
     rw[e,BH,ih]
     all_goals rfl
theorem ua{α:Type}: ∀(l:List α) (i:Nat),(l.eraseIdx i).length<=l.length
 | [],_=>aq _
 | _::_,0=>dh _
 | _::r,i+1=>Nat.succ_le_succ (ua r i)
section
variable {X:Cx}{pins:List (Addr×Obj)}{σ:St}{H:Hp}{s:Shared}{l b:Addr}{xs ys zs:List V}
theorem Inv.lset{its its':List Value}{n:Nat}{f:Array Value->Array Value}{t':Nat}(I:Inv X pins σ H s)(hH:H l=some (.lst xs))
  (e:s.heap.get? l=some { cls := .type "list",data := .seq its.toArray n }) (hf:f its.toArray=its'.toArray) (hv:b8 ys its') (hz:ys.length<=sizeLine) :
  Inv X pins σ (upd H l (.lst ys)) { s with heap:=s.heap.update l (cH f),toks:=t' }:=by
 have q:=Ej e f
 rw[hf]at q
 refine I.write (x:=l) (e:=l) (by rw[hH];exact trivial) (.inl rfl) (λb' u hb hu=>(cg s.heap (cH f) (cU hb)).trans hu) ⟨_,q⟩ ?_
 exact⟨hz,its',_,hv,q⟩
theorem Inv.lstM (I:Inv X pins σ H s) (hH:H l=some (.lst xs)):xs.length<=sizeLine /\ ∃ (its:List Value) (n:Nat),b8 xs its/\xs.length=its.length/\s.heap.get? l=some { cls := .type "list",data := .seq its.toArray n }:=by
 obtain⟨z,its,n,r,e⟩:=I.hok l _ hH
 exact⟨z,its,n,r,r.length,e⟩
end
section
variable {X:Cx}
noncomputable def zx:V->List V->Hp->VK->Prop:=λx vs H Q =>∃l xs y,x = .ref l/\vs = [y]/\H l=some (.lst xs)/\xs.length<sizeLine/\Q .non (upd H l (.lst (xs++[y])))
theorem AN:MtM X "list.append" zx:=by
 intro pins s σ H x vs v us Q I rx rv h
 obtain⟨l,xs,y,rfl,rfl,hH,hz,q⟩:=h
 cases rx
 obtain⟨u,rfl,ru⟩:=rv.one
 obtain⟨z,its,n,r,hl,e⟩:=I.lstM hH
 refine call_meets F.slot_list_append ⟨_,e,rfl⟩ F.entry_list_append (F.args_list_append_2 _ _) (PySem.list_append l its.toArray n u (by rw[aF];omega)) ⟨e,?_⟩
 refine⟨.non,_,I.lset (its':=its++[u]) hH e (by simp) (r.append (.cons ru .nil)) ?_,rfl,q⟩
 rw[bj,List.length_singleton]
 assumption
noncomputable def MY:V->List V->Hp->VK->Prop:=λx vs H Q =>∃l xs y,x = .ref l/\vs = []/\H l=some (.lst xs)/\xs[xs.length - 1]? = some y/\Q y (upd H l (.lst xs.dropLast))
theorem IA:MtM X "list.pop" MY:=by
 intro pins s σ H x vs v us Q I rx rv h
 obtain⟨l,xs,y,rfl,rfl,hH,hy,q⟩:=h
 cases rx
 have hus:=rv.zero
 subst hus
 obtain⟨z,its,n,r,hl,e⟩:=I.lstM hH
 obtain⟨u,hu,ru⟩:=r.get hy
 have hy':its.toArray[its.toArray.size - 1]? = some u:=by
  show its.toArray[its.length - 1]? = some u
  rw[<- fI,<- hl]
  exact hu
 refine call_meets F.slot_list_pop ⟨_,e,rfl⟩ F.entry_list_pop (F.args_list_pop_1 _) (MeetsSeq.list_pop_last l its.toArray n u hy' (by rw[aF];omega)) ⟨e,?_⟩
 refine⟨y,_,I.lset (its':=its.dropLast) hH e ?_ r.dropLast ?_,ru,q⟩
 ·show its.toArray.eraseIdxIfInBounds (its.toArray.size - 1)=its.dropLast.toArray
  rw[aF,tK,yx]
 ·rw[List.length_dropLast]
  omega
noncomputable def BW:V->List V->Hp->VK->Prop:=λx vs H Q =>∃l xs i k y,x = .ref l/\vs = [.int i]/\H l=some (.lst xs) /\ -(2 ^ 63)<=i/\i<2 ^ 63/\seqIndex? i xs.length=some k/\xs[k]? = some y/\Q y (upd H l (.lst (xs.eraseIdx k)))
theorem De:MtM X "list.pop" BW:=by
 intro pins s σ H x vs v us Q I rx rv h
 obtain⟨l,xs,i,k,y,rfl,rfl,hH,h1,h2,hk,hy,q⟩:=h
 cases rx
 obtain⟨u,rfl,ru⟩:=rv.one
 obtain⟨t,rfl⟩:=ru
 obtain⟨z,its,n,r,hl,e⟩:=I.lstM hH
 obtain⟨w,hw,rw'⟩:=r.get hy
 refine call_meets F.slot_list_pop ⟨_,e,rfl⟩ F.entry_list_pop (F.args_list_pop_2 _ _)
  (MeetsSeq.list_pop_at l its.toArray n i t k w (fitsIndex_both h1 h2) (by rw[aF,<- hl];exact hk) (by rw[<- fI];exact hw) (by rw[aF];omega)) ⟨e,?_⟩
 refine⟨y,_,I.lset (its':=its.eraseIdx k) hH e ?_ (r.eraseIdx k) ?_,rw',q⟩
 ·show its.toArray.eraseIdxIfInBounds k=(its.eraseIdx k).toArray
  rw[tK]
 ·have:=ua xs k
  exact aM (by assumption) (by assumption)
theorem len_rep{α:Type}(xs:List α)(k:Nat):(aw k xs).flatten.length=k*xs.length:=by
 induction k with
 | zero=>simp
 | succ k ih=>rw[dy,fO,bj,ih,tL,tN]
end
section
variable {prog:Program}{w:World}{A:Around}{E:Value->Shared->Prop}{s:Shared}
end
section
variable {X:Cx}
end
end _L
namespace Att
open PySem PySem.W PySem.Calls PyProof.Rows
theorem qg{P:Params}{h:Heap}: ∀(ns:List Int) (vs:List Value),WellAll P h vs (ns.map WData.int)->IntsAre vs ns:=by
 intro ns
 induction ns with
 | nil=>
   intro vs w
   rw[sv]at w
   cases w
   exact .nil
 | cons n ns ih=>
   intro vs w
   rw[bM]at w
   cases w with
   | cons a b=>
     cases a
     exact .cons _ _ (ih _ b)
theorem AQ{l:OpenLaw}{n:Nat}(hn:l.most=some n){P:Params}{h:Heap}{args:List WData}{vals:List Value}
  (hpre:l.row.toRowW.claim.pre args=true) (hwl:WellAll P h vals args):
  ∃ a vs ns,vals = [aU a]/\args = [WData.list (ns.map WData.int)]/\h.get? a=some { cls := .type "list",data := .seq vs.toArray }/\IntsAre vs ns/\ns.length<=n:=by
 have hsh:WShape.hasAll [] args [.list .int]=true:=(pre_splitW hpre).1
 have hc:l.pre.holds [] { args:=args }=true:=(pre_splitW hpre).2
 obtain⟨d,r,rfl,h1,h2⟩:=hasAllW_cons hsh
 obtain rfl:=hasAllW_nil h2
 obtain⟨xs,rfl,h3⟩:=hasW_list h1
 obtain⟨ns,rfl⟩:=items_int h3
 have hlen:ns.length<=n:=by
  unfold OpenLaw.pre at hc
  have h4:(WTm.not (.lt (.lit (.int (n:Int))) (.len (.arg 0)))).holds [] { args:= [.list (ns.map .int)] }=true:=by
   have h4:=(holds_andW hc).1
   rw[hn]at h4
   exact h4
  have h5:=condW_of h4 (w_not (w_lt w_lit (w_len_list (w_arg rfl))))
  rw[aA]at h5
  refine b6 λq =>?_
  have q':(n:Int)<((ns.length:Nat):Int):=by omega
  first
   | (rw[decide_eq_true q']at h5;exact absurd h5 (by decide))
   | (simp at h5;omega)
 cases hwl with
 | cons w1 w2=>
   cases w2
   cases w1 with
   | list ho hall=>exact⟨_,_,ns,rfl,rfl,ho,qg ns _ hall,hlen⟩
theorem Bx(l:OpenLaw)(args:List WData):l.row.toRowW.claim.post args (.bool true) args=true:=
 postW_of (r:=l.row.toRowW) (X:=(true==true))
  (show WShape.has [] (.bool true) .bool=true by first |rfl |decide |simp[WShape.has,WShape.arms,WShape.armsAll])
  (show(WTm.eq .res (.lit (.bool true))).value [] { args:=args,res:=some (.bool true),after:=args }=some (.bool (true==true)) from w_eq_bool (w_res rfl) w_lit) rfl
theorem attach_call{l:OpenLaw}{n:Nat}{q:Program}{loose:List Str}{XP:(Str->Option Value)->Heap->Prop}{YP:World->Heap->Prop}{d:DefRec}
  (hn:l.most=some n) (hdf:d.params.defaults = [])
  (call: ∀(w:World) (s₀ s₁:Shared) (mg mb:Str->Option Value) (fa:Addr) (o:Obj) (pm cd doc:Value) (a:Addr) (vs:List Value) (ns:List Int),
   Ground q loose [] XP w s₀ mg mb s₁.heap->YP w s₁.heap ->
   s₁.heap.get? fa=some o->o.data = .func (docDef d.name d.params d.body d.scope pm cd doc)->s₁.heap.CodeRec cd d.name->mg d.name=some (.ref fa) ->
   s₁.heap.get? a=some { cls := .type "list",data := .seq vs.toArray }->IntsAre vs ns->ns.length<=n->s₁.gens = #[] ->
   pz (model l.prog w) callerA (.call (.ref fa) ⟨[.ref a],[]⟩) (λr s'=>r = .ok (.ret (.bool true))/\OldK s₁.heap s'.heap/\s'.os=s₁.os/\AllBare s'.gens) s₁):
  WalkO q loose XP YP l.row.toRowW d [] (λf vs=>PySem.call f vs):=by
 intro w s₀ s₁ mg mb G Y fa o pm cd doc dV kV ho hd hcd hD hmg hg args vals as hpre hlay hrd hwl hlo
 obtain rfl:dV = .none:=Dflts.none hD hdf
 obtain rfl:kV = .none:=Dflts.noKw hD
 obtain⟨a,vs,ns,rfl,rfl,hobj,hints,hlen⟩:=AQ hn hpre hwl
 refine enter_call (jj (call w s₀ s₁ mg mb fa o pm cd doc a vs ns G Y ho (fd_plain hd) hcd hmg hobj hints hlen hg) λr s' hq =>?_)
 obtain⟨rfl,h2,h3,h4⟩:=hq
 exact⟨.inl ⟨.bool true,.bool true,[],rfl,λ_=>rfl,.bool true,Bx l _,λ_=>⟨jo,λ_ hm=>(nomatch hm)⟩⟩,h2,h3,h4⟩
section
variable {prog:Program}{w:World}{A:Around}{E:Value->Shared->Prop}{s:Shared}{K:Frag}
end
end Att
namespace _L
open PySem PySem.Spec PyProof.Rows
end _L
namespace _L
open PySem PySem.Spec PyProof.Rows
abbrev KOf{K:av}{h:Heap}(_:K.In h):av:=K
end _L
namespace _L
open PySem PySem.Spec PyProof.Rows
noncomputable def hZ(s:Stmt):Arguments:=match s with
 | .FunctionDef _ a _ _ _ _ _ _ _ _=>a
 | _=>{ posonlyargs:= [],args:= [],vararg:=none,kwonlyargs:= [],kw_defaults:= [],kwarg:=none,defaults:= [] }
noncomputable def aT(s:Stmt):List Stmt:=match s with
 | .FunctionDef _ _ b _ _ _ _ _ _ _=>b
 | _ =>[]
noncomputable def ax(s:Stmt):Scope:=match s with
 | .FunctionDef _ _ _ _ _ _ sc _ _ _=>sc
 | _=>{ kind:= .function,names:= [],isGenerator:=false,isCoroutine:=false }
abbrev CX0:CXT:=λ_ _ _ _ _ _=>False
abbrev E0:XK:=λ_ _ _=>False
theorem zY{X:Cx}:vd CX0 X E0:=λ_ _ _ _ _ _ _ h=>h.elim
structure Fun(K:av)(x qual:Str)(st:Stmt)(f:Addr)(fd:FuncData):Prop where
 ex: ∃(oc:Value) (od:Option Addr) (kV doc pm:Value) (an:Option Addr) (cdv ct:Value) (osl:Array (Option Value)),
  fd=dE x qual (hZ st) (aT st) (ax st) .none kV doc pm an cdv ct/\K.lookup f=some ⟨oc,od,.func fd,osl⟩/\nU K cdv qual=true
 kp:dk K (.ref f)=true
section
variable {P:Program}{w:World}{K:av}{mg:Str->Option Value}{base:Heap}
theorem Fun.ok{x qual:Str}{st:Stmt}{f:Addr}{fd:FuncData}{N ps:List Str}{k:Nat}{sp:Sp}(F:Fun K x qual st f fd)(S:bc N ps (ax st))(len: ∀vs H Q E,sp vs H Q E->vs.length=ps.length)
  (hbody: ∀(cdv:Value) (A:Around) (outer:List Env) (s:Shared) (H:Hp) (vs:List V) (Q:VK) (E:XK),kc k (A.deeper (envOfC qual (ax st) s.heap.objs.size f cdv))->sp vs H Q E ->
   ∃t,PSs (yK CX0 P w K mg base N qual (ax st) f cdv A outer s H E).nox (aT st) t/\t { nx:=λ_ H'=>Q .non H',rt:=Q } (start N vs) H):j4 P w K mg base CX0 (k+1) f fd ps sp:=by
 obtain⟨oc,od,kV,doc,pm,an,cdv,ct,osl,rfl,lk,hcd⟩:=F.ex
 refine CH lk hcd S len λA outer s H vs Q E hr hsp =>?_
 obtain⟨t,h,q⟩:=hbody cdv A outer s H vs Q E hr hsp
 exact⟨t,h.nox,q⟩
theorem Fun.binds{x qual:Str}{st:Stmt}{f:Addr}{fd:FuncData}{ps:List Str}(F:Fun K x qual st f fd)
  (h: ∀(kV doc pm:Value) (an:Option Addr) (cdv ct:Value) (us:List Value),us.length=ps.length->bindArgs (dE x qual (hZ st) (aT st) (ax st) .none kV doc pm an cdv ct) ⟨us,[]⟩=pure (ps.zip us)):Binds K fd ps []:=by
 obtain⟨oc,od,kV,doc,pm,an,cdv,ct,osl,rfl,lk,hcd⟩:=F.ex
 exact .all (h kV doc pm an cdv ct)
theorem Jd{x qual:Str}{st:Stmt}{f:Addr}{oc:Value}{od an:Option Addr}{osl:Array (Option Value)}{kV doc pm cdv ct:Value}(l:K.lookup f=some ⟨oc,od,.func (dE x qual (hZ st) (aT st) (ax st) .none kV doc pm an cdv ct),osl⟩)
  (c:nU K cdv qual=true) (k:dk K (.ref f)=true):Fun K x qual st f (dE x qual (hZ st) (aT st) (ax st) .none kV doc pm an cdv ct):=⟨⟨oc,od,kV,doc,pm,an,cdv,ct,osl,rfl,l,c⟩,k⟩
end
section
variable {X:Cx}
end
end _L
end
section
namespace PySem
namespace GR
theorem yM:typeLookup (.type "tuple") "__reversed__"=pure none:=by rw [typeLookup_type,builtinLookup_eq_fast];kernel_rfl
theorem wA:isSubtype (.type "tuple") (.type "dict")=pure false:=by rw [isSubtype_type];kernel_rfl
theorem uB:Manifest.owners.lookup (String.ofList ['d','e','s','r','e','v','e','r'].reverse)=some Manifest.sig_reversed:=by kernel_rfl
theorem fW:Slot "reversed" "__next__" "reversed.__next__":=
 .of (owner:="reversed") (n:="__next__") (by rw [typeLookup_type,builtinLookup_eq_fast];kernel_rfl) (by decide +kernel) (by decide +kernel) (by decide +kernel) (by first | exact .inl (by decide +kernel) | exact .inr (by decide +kernel)) (by rw [isSubtype_type];kernel_rfl)
theorem lM:entryFor table "reversed.__next__"=some Builtin.«reversed.__next__»:=entryFor_of_tree (by kernel_rfl)
theorem kP (a:Value):argsOk "reversed.__next__" ⟨[a],[]⟩:=by
 unfold argsOk;rw [signature?_of (id:="reversed.__next__") (n := ['_','_','t','x','e','n','_','_']) (o := ['d','e','s','r','e','v','e','r']) (by kernel_rfl) uB];kernel_rfl
theorem ny:Slot "reversed" "__iter__" "reversed.__iter__":=
 .of (owner:="reversed") (n:="__iter__") (by rw [typeLookup_type,builtinLookup_eq_fast];kernel_rfl) (by decide +kernel) (by decide +kernel) (by decide +kernel) (by first | exact .inl (by decide +kernel) | exact .inr (by decide +kernel)) (by rw [isSubtype_type];kernel_rfl)
theorem p7 (a:Value):argsOk "reversed.__iter__" ⟨[a],[]⟩:=by
 unfold argsOk;rw [signature?_of (id:="reversed.__iter__") (n := ['_','_','r','e','t','i','_','_']) (o := ['d','e','s','r','e','v','e','r']) (by kernel_rfl) uB];kernel_rfl
theorem qU:entryFor table "reversed.__iter__"=some Builtin.«dict_keyiterator.__iter__»:=
 entryFor_alias (id':="dict_keyiterator.__iter__") (by kernel_rfl) (by first | rfl | decide +kernel | (unfold vS;simp +decide [qJ])) (by decide +kernel) (by kernel_rfl)
theorem zF:mroOf (.type "reversed")=pure [.type "reversed",.type "object"]:=by rw [mroOf_type];kernel_rfl
theorem se:typeLookup (.type "reversed") "__new__"=pure (some (.builtin "reversed.__new__")):=by rw [typeLookup_type,builtinLookup_eq_fast];kernel_rfl
theorem tm:Slot "reversed" "__init__" "object.__init__":=
 .of (owner:="object") (n:="__init__") (by rw [typeLookup_type,builtinLookup_eq_fast];kernel_rfl) (by decide +kernel) (by decide +kernel) (by decide +kernel) (by first | exact .inl (by decide +kernel) | exact .inr (by decide +kernel)) (by rw [isSubtype_type];kernel_rfl)
theorem yX:TypeCalled "reversed" "reversed.__new__" "object.__init__":=
 ⟨by decide +kernel,by decide +kernel,⟨_,_,zF⟩,madeBy_type zF se (by decide +kernel),by decide +kernel,by rw[isSubtype_type];kernel_rfl,tm⟩
theorem qS (a:Value):checkTypeCall "reversed" ⟨[a],[]⟩=pure ():=by kernel_rfl
theorem sP (a:Value):checkBuiltinCall "reversed.__new__" ⟨[.type "reversed",a],[]⟩=pure ():=by kernel_rfl
theorem sX:entryFor table "reversed.__new__"=some Builtin.«reversed.__new__»:=entryFor_of_tree (by kernel_rfl)
theorem E2:isSubtype (.type "reversed") (.type "reversed")=pure true:=by rw [isSubtype_type];kernel_rfl
theorem ve (a:Value):nV "reversed" ⟨[.type "reversed",a],[]⟩=pure (.type "reversed",[a]):=by
 unfold nV;simp only[isType,E2,pure_bind,du,dH,if_false]
noncomputable def revT (t:Addr) (i:Int):Obj:={ cls := .type "reversed",data := .fields #[.ref t,rawInt i] }
noncomputable def IsRevT (h:Heap) (a t:Addr) (i:Int):Prop := ∃ o,h.get? a=some o/\o.cls = .type "reversed"/\o.data = .fields #[.ref t,rawInt i]
theorem IsRevT.typeIs {s:Shared}{a t:Addr}{i:Int} (x:IsRevT s.heap a t i):s.TypeIs (.ref a) "reversed":=let ⟨o,ho,hc,_⟩:=x;⟨o,ho,hc⟩
theorem IsRevT.at{h h':Heap}{a t:Addr}{i:Int}(x:IsRevT h a t i)(e: ∀o,h.get? a=some o->h'.get? a=some o):IsRevT h' a t i:=let ⟨o,ho,r⟩:=x;⟨o,e _ ho,r⟩
open PyProof.Rows in
theorem sY (t:Addr) (items:Array Value):Meets (Builtin.«reversed.__new__» ⟨[.type "reversed",.ref t],[]⟩) (fun _ R s=>IsTup s.heap t items/\(items.size:Int) < 2 ^ 63 /\
   R (.ok (.ret (.ref s.heap.objs.size))) { s with heap:=s.heap.push (revT t ((items.size:Int) - 1)),toks:=s.toks+1+1 }):=
 .of_wp λprog w A R s h=>by
  obtain⟨ht,hz,h⟩:=h;unfold Builtin.«reversed.__new__»;refine af (cP (ve _) ?_);(try dsimp only);refine af (cP (a:=()) (by first | rfl | kernel_rfl) ?_);refine af (cP (a:=()) (by first | rfl | kernel_rfl) ?_);(try dsimp only);refine af (kG ht.typeIs yM ?_);(try dsimp only);refine af ?_;show az _ _ (isInstance (.ref t) (.type "dict") >>= _) _ _ s;refine af (fC ht.typeIs wA ?_);rw [if_neg bE];show az _ _ (specialOf (.ref t) (dc "__getitem__") >>= _) _ _ s;refine af (kG ht.typeIs slot_tuple_getitem.lookup ?_);refine wpAny_ite ?_;rw [if_pos (by decide +kernel)];refine aj ?_;rw [if_neg (by decide)];refine af (len_tuple ht hz ?_);refine af (cP (a:=some (items.size:Int)) rfl ?_);refine af ?_;unfold Builtin.SmallTypes.newRecord;exact bf (aj ⟨_,rfl,h⟩)
section
variable {prog:Program}{w:World}{A:Around}{E:Value->Shared->Prop}{s:Shared}
open PyProof.Rows
theorem call_rev{t:Addr}{items:Array Value}{Q:Value->Shared->Prop}(ht:IsTup s.heap t items)(hz:(items.size:Int)<2 ^ 63)
  (h:Q (.ref s.heap.objs.size) { s with heap:=s.heap.push (revT t ((items.size:Int) - 1)),toks:=s.toks+1+1 }):az (model prog w) A (call (.type "reversed") [.ref t]) Q E s:=
 callType_new yX (by decide) (qS _) (sP _) (λobj=>qo obj _) sX (sY t items) ⟨ht,hz,⟨_,ay _ rfl,rfl⟩,h⟩
theorem next_rev_item{it t:Addr}{i:Nat}{items:Array Value}{x:Value}{Q:Option Value->Shared->Prop}(hit:IsRevT s.heap it t (i:Int))(ht:IsTup s.heap t items)(hx:items[i]? = some x)(hz:(items.size:Int)<2 ^ 63)
  (hQ: ∀h',IsRevT h' it t ((i:Int) - 1)->cf it s.heap h'->Q (some x) { s with heap:=h',toks:=s.toks+1 }):az (model prog w) A (pyNext (.ref it)) Q E s:=by
 obtain⟨o,ho,hc,hd⟩:=id hit
 have hi:i<items.size:=(Array.getElem?_eq_some_iff.mp hx).1
 unfold pyNext;refine af (eX (bA (name:=dc "__next__") hit.typeIs fW (bx fW hit.typeIs lM ?_ (kP _))));unfold Builtin.«reversed.__next__»;refine af (cP (a:=(aU it,[])) rfl ?_);(try dsimp only);refine af (cy ho hd (x := .ref t) rfl ?_);refine af (cy ho hd (x:=rawInt (i:Int)) rfl ?_);show az _ _ (if (i:Int) < 0 then _ else _) _ _ s;rw [if_neg (by omega)];refine af (kG ht.typeIs slot_tuple_getitem.lookup ?_);(try dsimp only);rw [if_neg (by simp)];refine af (wpAny_mkInt ?_);refine af (eX (getItem_tuple (j:=i) (x:=x) (s:={ s with toks:=s.toks+1 }) ht (by omega) (by omega) ?_ hx ?_))
 ·unfold seqIndex?
  simp
  omega
 ·refine af (cy (s:={ s with toks:=s.toks+1 }) ho hd (x:=rawInt (i:Int)) rfl ?_);refine af (mI (s:={ s with toks:=s.toks+1 }) ho hd (by simp) ?_);refine aj ⟨x,rfl,aj (hQ _ ?_ (eu ..))⟩
  exact⟨_,b3 _ ho (oU (fD hd _)),(Obj.cls_mapFields ..).trans hc,by
   rw[fD hd];simp⟩
theorem next_rev_end{it t:Addr}{Q:Option Value->Shared->Prop}(hh:A.handled=none)(hit:IsRevT s.heap it t (-1))
  (hQ: ∀h',oX it s.heap h'->Q none { s with heap:=h' }):az (model prog w) A (pyNext (.ref it)) Q E s:=by
 obtain⟨o,ho,hc,hd⟩:=id hit;unfold pyNext;refine af (eX (bA (name:=dc "__next__") hit.typeIs fW (bx fW hit.typeIs lM ?_ (kP _))));unfold Builtin.«reversed.__next__»;refine af (cP (a:=(aU it,[])) rfl ?_);(try dsimp only);refine af (cy ho hd (x := .ref t) rfl ?_);refine af (cy ho hd (x:=rawInt (-1)) rfl ?_);show az _ _ (if (-1:Int) < 0 then _ else _) _ _ s;rw [if_pos (by decide)];refine af (jO ?_);refine af ?_;show az _ _ (setField (.ref it) 1 (rawInt (-1)) >>= _) _ _ s;refine af (mI ho hd (by simp) ?_)
 have g1:=b3 (h:=s.heap) (a:=it) (Obj.mapFields (·.setIfInBounds 1 (rawInt (-1)))) ho (oU (fD hd _))
 have d1:=fD hd (·.setIfInBounds 1 (rawInt (-1)))
 refine mI g1 d1 (by simp) ?_;refine af ?_;show az _ _ (newExc (.type "StopIteration") [] >>= _) _ _ _;refine af ?_;simp only [newExc,newTuple];refine af (bf ?_ (by size_fits));refine af (m:=firstArgMember _ _) (cP (a:=da) (by first | rfl | (simp only [firstArgMember];rfl)) ?_);refine bf ?_ (by size_fits);simp only [raiseNew];refine af (uF ?_)
 first |rw[show A.in1.handled=none from hh] |rw[hh]
 refine af (aj (Aw ?_));refine af (fC (T:="StopIteration") (b:=true) ⟨_,ay _ rfl,rfl⟩ isSubtype_stop ?_);exact aj (hQ _ ((((eu ..).extBut.trans (eu ..).extBut).push _).push _))
theorem iter_rev{it t:Addr}{i:Int}{Q:Value->Shared->Prop}(hit:IsRevT s.heap it t i)(h:Q (.ref it) s):az (model prog w) A (pyIter (.ref it)) Q E s:=by
 refine xQ hit.typeIs ny (bx ny hit.typeIs qU ?_ (p7 _));show az _ _ (ret (.ref it)) _ _ s;exact aj ⟨_,rfl,"reversed",_,hit.typeIs,fW.lookup,h⟩
end
end GR
end PySem
namespace _L
open PySem PySem.Spec PyProof.Rows
noncomputable def Itv(K:av)(a:Addr)(n:Nat):It:=
 ⟨λi H =>∃xs x,SqT K H a xs/\xs.length=n/\xs.reverse[i]? = some x,λi H x H'=>H'=H /\ ∀xs,SqT K H a xs->xs.reverse[i]? = some x,λi H =>∃xs,SqT K H a xs/\xs.length=n/\n<=i⟩
theorem DJ{P:Program}{w:World}{K:av}{tg:Expr}(a it:Addr)(n:Nat):Turn P w K tg (Itv K a n) [it] it (λi h=>i<=n/\GR.IsRevT h it a ((n:Int) - 1 - (i:Nat))) where
 mem:=by simp
 obj:=λi h st b hb=>by
  have e:b=it:=by simpa using hb
  subst e;obtain⟨_,o,e,c,d⟩:=st;exact⟨o,e,λv z=>by rw[d]at z;cases z⟩
 keep:=λi h h' st k=>⟨st.1,st.2.at λo e=>k it (by simp) o e⟩
 item:=by
  intro X hP hw hK hc i pins s σ H E I hf st hg
  subst hP hw hK;obtain⟨xs,x,hq,hn,hx⟩:=hg;obtain⟨its,rv,p,hz⟩:=I.tuple hq
  have hl:=rv.length
  have hi:i<n:=by have:=(ak.mp hx).1;rw[pQ]at this;omega
  have hx':xs[n - 1 - i]? = some x:=by
   rw[List.getElem?_reverse (by omega),hn]at hx;exact hx
  obtain⟨u,hu,ru⟩:=rv.get hx';obtain⟨f0,f1,f2,f3,f4,f5⟩:=hf it (by simp)
  have hn63:=nI
  have st1:=st.2
  rw[show(n:Int) - 1 - (i:Nat)=((n - 1 - i:Nat):Int) by omega]at st1
  refine GR.next_rev_item st1 p (x:=u) (by simpa using hu) (by rw[aF];omega) λh' st' sb =>?_
  have I1:Inv X pins σ H { s with heap:=h',toks:=s.toks+1 }:=I.turned (t':=s.toks+1) (λb o hb e=>(sb.2 b hb).trans e) f0 f1 f3 f4 f5
  rw[show((n - 1 - i:Nat):Int) - 1=(n:Int) - 1 - ((i+1:Nat):Int) by omega]at st'
  obtain⟨o,e,c,d⟩:=id st';exact⟨u,rfl,zM (s:={ s with heap:=h',toks:=s.toks+1 }) e c d (by decide) ⟨x,H,I1,ru,⟨rfl,λys hy=>by rw[I.tuple_inj hy hq];exact hx⟩,⟨by assumption,st'⟩,λb hb=>(hf b hb).1⟩⟩
 done:=by
  intro X hP hw hK hc i pins s σ H E I hf st hg
  subst hP hw hK;obtain⟨xs,hq,hn,hx⟩:=hg;obtain⟨f0,f1,f2,f3,f4,f5⟩:=hf it (by simp)
  have st1:=st.2
  rw[show(n:Int) - 1 - (i:Nat) = -1 by have:=st.1;omega]at st1;exact GR.next_rev_end (I.ok.hd hc) st1 λh' eb=>⟨rfl,I.turned (t':=s.toks) (λb o hb e=>eb b o hb e) f0 f1 f3 f4 f5⟩
 self:=λ_ _ _ _ _ st h=>GR.iter_rev st.2 h
section
variable {X:Cx}{tg:Expr}
noncomputable def wD(K:av)(ta:TA):TI:=λσ H R=>ta σ H λvs H1 =>∃a xs,vs = [.ref a]/\SqT K H1 a xs/\R (Itv K a xs.length) H1
theorem IG {a:Expr}{ta:TA}{p pos:Pos} (hg:Gl X "reversed") (hm:X.mg "reversed"=none) (ha:PA X [a] ta) (hs:autoParam (starEach [a] X.env = [(false,eval a X.env)]) au1._auto_1):PI X tg (.Call (.Name "reversed" p) [a] [] pos) (wD X.K ta):=by
 intro pins s σ H R I h
 refine Call_ (hC I hg hm PyProof.Rows.boot_reversed (bN (thn (ha pos pins s σ H _ I h) λus s1 ⟨vs,H1,I1,r1,q1⟩ =>?_) hs rfl));obtain⟨b,xs,e,hq,q⟩:=q1;subst e
 cases r1 with
 | cons r rr=>
   cases rr
   cases r
   obtain⟨its,rv,pt,hz⟩:=I1.tuple hq
   have hl:=rv.length
   have hn63:=nI
   refine GR.call_rev pt (by rw[aF];omega) ?_
   have I2:Inv X pins σ H1 { s1 with heap:=s1.heap.push (GR.revT b ((its.toArray.size:Int) - 1)),toks:=s1.toks+1+1 }:=I1.kept λb o e=>ao _ e
   have st:GR.IsRevT (s1.heap.push (GR.revT b ((its.toArray.size:Int) - 1))) s1.heap.objs.size b ((xs.length:Int) - 1 - (0:Nat)):=⟨_,ay _ rfl,rfl,by
    show En #[.ref b,rawInt _]=_;rw[aF,hl];simp⟩
   refine GR.iter_rev st ?_;refine⟨s1.heap.objs.size,[s1.heap.objs.size],_,_,H1,rfl,I2,DJ b _ xs.length,⟨cR _,st⟩,λc hc =>?_,q⟩
   have e:c=s1.heap.objs.size:=by simpa using hc
   subst e;exact I1.fpOk (aq _) (I1.hok.fresh (aq _))
end
end _L
end
section
namespace PySem
namespace GE
open AutoSeq1 (wpAny_loadPart')
theorem yu (l:Addr) (items:Array Value) (n:Nat) (dct:Option Addr) (sl:Array (Option Value)):Meets (Builtin.«enumerate.__new__» ⟨[.type "enumerate",.ref l],[]⟩) (fun _ R s=>s.heap.get? l=some { cls := .type "tuple",dict:=dct,data := .seq items n,slots:=sl } /\
   R (.ok (.ret (.ref (s.heap.push { cls := .type "tuple_iterator",data := .fields #[.ref l,.int 0 0] }).objs.size))) { s with heap:=(s.heap.push { cls := .type "tuple_iterator",data := .fields #[.ref l,.int 0 0] }).push { cls := .type "enumerate",data := .fields #[.none,.bool false,.ref s.heap.objs.size,rawInt 0,.none,.none] } }):=
 .of_wp λprog w A R s h=>by
  obtain⟨hp,g,d,tk,os⟩:=s;obtain⟨hl,h⟩:=h;have hsub:=sub_enumerate;have hT:Heap.IsTuple (Shared.heap ⟨hp,g,d,tk,os⟩) l items:=⟨_,hl,rfl,n,rfl⟩
  wp_walk using dI hl
  refine wpAny_stack_any λst=>aj ?_;split
  ·rename_i c _ _ _ _ _
   cases (c == kd "enumerate") <;> (wp_walk using dI hl,mG hT;exact⟨_,rfl,h⟩)
  ·wp_walk using dI hl,mG hT;exact⟨_,rfl,h⟩
section
variable {prog:Program}{w:World}{A:Around}{E:Value->Shared->Prop}{s:Shared}
theorem yn{l:Addr}{items:Array Value}{Q:Value->Shared->Prop}(hT:s.heap.IsTuple l items)
  (h : ∀ h',IsEnum h' (s.heap.objs.size+1) s.heap.objs.size 0 .none->h'.IsTupleIter s.heap.objs.size l 0->h'.objs.size=s.heap.objs.size+2->(∀ b o,s.heap.get? b=some o->h'.get? b=some o)->Q (.ref (s.heap.objs.size+1)) { s with heap:=h' }):az (model prog w) A (call (.type "enumerate") [.ref l]) Q E s:=by
 obtain⟨⟨c,dct,dt,sl⟩,hl,hc,n,hd⟩:=hT;replace hc:c = .type "tuple":=hc;replace hd:dt = .seq items n:=hd;subst hc hd
 refine callType_new F.called_enumerate (by decide) (F.typeCall_enumerate_1 _) (F.newCall_enumerate_1 _) (λobj=>qo obj _) F.entry_enumerate_new (yu l items n dct sl) ⟨hl,?_⟩
 have hz:(s.heap.push { cls := .type "tuple_iterator",data := .fields #[.ref l,.int 0 0] }).objs.size=s.heap.objs.size+1:=bp ..;show _/\_;rw [hz]
 have he:IsEnum ((s.heap.push { cls := .type "tuple_iterator",data := .fields #[.ref l,.int 0 0] }).push { cls := .type "enumerate",data := .fields #[.none,.bool false,.ref s.heap.objs.size,rawInt 0,.none,.none] }) (s.heap.objs.size+1) s.heap.objs.size 0 .none:=by
  have:=ay (s.heap.push { cls := .type "tuple_iterator",data := .fields #[.ref l,.int 0 0] }) (o:={ cls := .type "enumerate",data := .fields #[.none,.bool false,.ref s.heap.objs.size,rawInt 0,.none,.none] }) rfl;rw [hz] at this;exact this
 refine⟨⟨_,he,rfl⟩,h _ he ⟨_,ao _ (ay _ rfl),rfl,rfl⟩ (by rw[bp,hz]) λb o x=>ao _ (ao _ x)⟩
theorem vU{it t:Addr}{i:Nat}{items:Array Value}{x:Value}{Q:Value->Shared->Prop}(hit:s.heap.IsTupleIter it t i)(ht:s.heap.IsTuple t items)(hx:items[i]? = some x)
  (hQ: ∀h',h'.IsTupleIter it t (i+1)->cf it s.heap h'->Q x { s with heap:=h' }):az (model prog w) A (eY (.ref it)) Q E s:=by
 obtain⟨o,ho,hc,hd⟩:=id hit;obtain⟨ol,hol,_,nl,hdl⟩:=ht;unfold eY
 refine af (bA (name:=dc "__next__") hit.typeIs gy (bx gy hit.typeIs Ax ?_ (zo _)))
 show az _ _ (field (.ref it) 0 >>= _) _ _ s;refine af (cy ho hd (x:= .ref t) rfl ?_);show az _ _ (if (aU t==da)=true then _ else _) _ _ s;rw[if_neg (show ¬((aU t==da)=true) from bE)]
 show az _ _ (field (.ref it) 1 >>= _) _ _ s;refine af (cy ho hd (x:= .int i 0) rfl ?_);show az _ _ (seqItems? (.ref t) >>= _) _ _ s;refine af (sk hol hdl ?_);simp only[bL,hx]
 refine af (mI ho hd (by simp) (aj ⟨x,rfl,aj (hQ _ ?_ (eu ..))⟩));exact⟨_,b3 _ ho (oU (fD hd _)),(Obj.cls_mapFields ..).trans hc,by rw[fD hd];simp[rawInt]⟩
theorem yT{it t:Addr}{i:Nat}{items:Array Value}{Q:Value->Shared->Prop}(hh:A.handled=none)(hit:s.heap.IsTupleIter it t i)(ht:s.heap.IsTuple t items)(hx:items[i]? = none)
  (hE : ∀ h' e,oX it s.heap h'->(∃ o,h'.get? e=some o/\o.cls = .type "StopIteration")->E (.ref e) { s with heap:=h' }):az (model prog w) A (eY (.ref it)) Q E s:=by
 obtain⟨o,ho,hc,hd⟩:=id hit;obtain⟨ol,hol,_,nl,hdl⟩:=ht;unfold eY
 refine af (bA (name:=dc "__next__") hit.typeIs gy (bx gy hit.typeIs Ax ?_ (zo _)))
 show az _ _ (field (.ref it) 0 >>= _) _ _ s;refine af (cy ho hd (x:= .ref t) rfl ?_);show az _ _ (if (aU t==da)=true then _ else _) _ _ s;rw[if_neg (show ¬((aU t==da)=true) from bE)]
 show az _ _ (field (.ref it) 1 >>= _) _ _ s;refine af (cy ho hd (x:= .int i 0) rfl ?_);show az _ _ (seqItems? (.ref t) >>= _) _ _ s;refine af (sk hol hdl ?_);simp only[bL,hx]
 refine af (jO (af (mI ho hd (by simp) ?_)));show az _ _ (newExc (.type "StopIteration") [] >>= _) _ _ _;refine af ?_;simp only [newExc,newTuple];refine af (bf ?_ (by size_fits))
 refine af (m:=firstArgMember _ _) (cP (a:=da) (by first |rfl | (simp only[firstArgMember];rfl)) ?_);refine bf ?_ (by size_fits);simp only[raiseNew];refine af (uF ?_)
 (first |rw[show A.in1.handled=none from hh] |rw[hh]);refine af (aj (Aw ?_));exact hE _ _ (((eu ..).extBut.push _).push _) ⟨_,ay _ rfl,rfl⟩
theorem ze{e it l:Addr}{i:Nat}{items:Array Value}{x old:Value}{Q:Value->Shared->Prop}(he:IsEnum s.heap e it i old)(hit:s.heap.IsTupleIter it l i)(hl:s.heap.IsTuple l items)(hx:items[i]? = some x)(hne:e≠it)
  (hQ : ∀ h',IsEnumOut h' e it ((i:Int)+1) x s.heap.objs.size->h'.IsTupleIter it l (i+1)->h'.get? s.heap.objs.size=some { cls := .type "tuple",data := .seq #[.int i s.toks,x] }->h'.objs.size=s.heap.objs.size+1 ->
   (∀b o,b≠e->b≠it->s.heap.get? b=some o->h'.get? b=some o)->Q (.ref s.heap.objs.size) { s with heap:=h',toks:=s.toks+1 }):az (model prog w) A (Builtin.«enumerate.__next__» ⟨[.ref e],[]⟩) (λfin s' =>∃v,fin = .done (.ret v)/\Q v s') E s:=by
 obtain⟨hp,g,d,tk,os⟩:=s;show az _ _ (field (.ref e) 2 >>= _) _ _ _;refine af (cy he rfl (x:= .ref it) rfl ?_);refine af (vU hit hl hx λh₁ hit₁ hs₁ =>?_)
 replace hs₁:cf it hp h₁:=hs₁;have he₁:IsEnum h₁ e it i old:=(hs₁.2 e hne).trans he;show az _ _ (field (.ref e) 3 >>= _) _ _ ⟨h₁,g,d,tk,os⟩;refine af (cy he₁ rfl (x:=rawInt i) rfl ?_)
 show az _ _ (field (.ref e) 4 >>= _) _ _ ⟨h₁,g,d,tk,os⟩;refine af (cy he₁ rfl (x:= .none) rfl ?_);show az _ _ (mkInt i >>= _) _ _ ⟨h₁,g,d,tk,os⟩;refine af (wpAny_mkInt ?_)
 show az _ _ (setField (.ref e) 3 (rawInt ((i:Int)+1)) >>= _) _ _ ⟨h₁,g,d,tk+1,os⟩;refine af (cn he₁ (by simp) λh₂ he₂ hs₂ =>?_);replace hs₂:cf e h₁ h₂:=hs₂;replace he₂:IsEnum h₂ e it ((i:Int)+1) old:=he₂
 show az _ _ (setField (.ref e) 4 .none >>= _) _ _ ⟨h₂,g,d,tk+1,os⟩;refine af (cn he₂ (by simp) λh₃ he₃ hs₃ =>?_);replace hs₃:cf e h₂ h₃:=hs₃;replace he₃:IsEnum h₃ e it ((i:Int)+1) old:=he₃
 show az _ _ (newTuple [.int i tk,x] >>= _) _ _ ⟨h₃,g,d,tk+1,os⟩;refine af (wpAny_newTuple ?_);have he₄:IsEnum (h₃.push { cls := .type "tuple",data := .seq #[.int i tk,x] }) e it ((i:Int)+1) old:=ao _ he₃
 generalize hh₄:h₃.push { cls := .type "tuple",data := .seq #[.int i tk,x] }=h₄ at he₄;have hsz:h₃.objs.size=hp.objs.size:=by rw [hs₃.1,hs₂.1,hs₁.1]
 have hel:e < hp.objs.size:=aD he;have ht₄:h₄.get? hp.objs.size=some { cls := .type "tuple",data := .seq #[.int i tk,x] }:=by rw [<- hh₄,<- hsz];exact ay _ rfl
 have hz₄:h₄.objs.size=hp.objs.size+1:=by rw[<- hh₄,bp,hsz]
 have hk₄: ∀b o,b≠e->b≠it->hp.get? b=some o->h₄.get? b=some o:=λb o hbe hbi hb=>by rw[<- hh₄];exact ao _ (hs₃.extBut b o hbe (hs₂.extBut b o hbe (hs₁.extBut b o hbi hb)))
 have hit₄:h₄.IsTupleIter it l (i+1):=by rw[<- hh₄];obtain⟨o,ho,r⟩:=(hit₁.extBut hs₂.extBut (cU hne)).extBut hs₃.extBut (cU hne);exact⟨o,ao _ ho,r⟩
 show az _ _ (kH (.ref e) >>= _) _ _ ⟨h₄,g,d,tk+1,os⟩;rw[hsz];clear hh₄ he₃ hs₃ he₂ hs₂ he₁ hs₁ hit₁ hsz h₃ h₂ h₁
 refine af ?_;unfold kH;refine af (cy he₄ rfl (x:= .none) rfl (aj ?_));simp only[if_true];refine af (jO ?_);refine af (cy he₄ rfl (x:=old) rfl ?_)
 refine af (cn he₄ (by simp) λh₅ he₅ hs₅ =>?_);replace hs₅:cf e h₄ h₅:=hs₅;replace he₅:IsEnum h₅ e it ((i:Int)+1) x:=he₅;show az _ _ (ke (.ref e) (.ref hp.objs.size) >>= _) _ _ ⟨h₅,g,d,tk+1,os⟩
 refine af ?_;unfold ke;refine af (cn he₅ (by simp) λh₆ he₆ hs₆ =>?_);replace hs₆:cf e h₅ h₆:=hs₆;replace he₆:IsEnumOut h₆ e it ((i:Int)+1) x hp.objs.size:=he₆
 refine cn he₆ (by simp) λh₇ he₇ hs₇ =>?_;replace hs₇:cf e h₆ h₇:=hs₇;replace he₇:IsEnumOut h₇ e it ((i:Int)+1) x hp.objs.size:=he₇;refine af (wpAny_letGo (aj ⟨_,rfl,hQ h₇ he₇ ?_ ?_ ?_ ?_⟩))
 ·exact((hit₄.extBut hs₅.extBut (cU hne)).extBut hs₆.extBut (cU hne)).extBut hs₇.extBut (cU hne)
 ·exact hs₇.extBut _ _ (cj hel) (hs₆.extBut _ _ (cj hel) (hs₅.extBut _ _ (cj hel) ht₄))
 ·rw[hs₇.1,hs₆.1,hs₅.1,hz₄]
 ·exact λb o hbe hbi hb=>hs₇.extBut b o hbe (hs₆.extBut b o hbe (hs₅.extBut b o hbe (hk₄ b o hbe hbi hb)))
theorem next_item{e it l:Addr}{i:Nat}{items:Array Value}{x old:Value}{Q:Option Value->Shared->Prop}(he:IsEnum s.heap e it i old)(hit:s.heap.IsTupleIter it l i)(hl:s.heap.IsTuple l items)(hx:items[i]? = some x)(hne:e≠it)
  (hQ : ∀ h',IsEnumOut h' e it ((i:Int)+1) x s.heap.objs.size->h'.IsTupleIter it l (i+1)->h'.get? s.heap.objs.size=some { cls := .type "tuple",data := .seq #[.int i s.toks,x] }->h'.objs.size=s.heap.objs.size+1 ->
   (∀b o,b≠e->b≠it->s.heap.get? b=some o->h'.get? b=some o)->Q (some (.ref s.heap.objs.size)) { s with heap:=h',toks:=s.toks+1 }):az (model prog w) A (pyNext (.ref e)) Q E s:=by
 have hT:s.TypeIs (.ref e) "enumerate":=⟨_,he,rfl⟩;unfold pyNext
 exact af (eX (bA (name:=dc "__next__") hT jq (bx jq hT F.entry_enumerate_next (ze he hit hl hx hne fun h' a b c d k=>aj (hQ h' a b c d k)) (Er _))))
theorem next_end{e it l:Addr}{i:Nat}{items:Array Value}{old:Value}{Q:Option Value->Shared->Prop}(hh:A.handled=none)(he:IsEnum s.heap e it i old)(hit:s.heap.IsTupleIter it l i)(hl:s.heap.IsTuple l items)(hx:items[i]? = none)
  (hQ: ∀h',oX it s.heap h'->Q none { s with heap:=h' }):az (model prog w) A (pyNext (.ref e)) Q E s:=by
 have hT:s.TypeIs (.ref e) "enumerate":=⟨_,he,rfl⟩;unfold pyNext
 refine af (eX (bA (name:=dc "__next__") hT jq (bx jq hT F.entry_enumerate_next ?_ (Er _))))
 show az _ _ (field (.ref e) 2 >>= _) _ _ _;refine af (cy he rfl (x:= .ref it) rfl ?_);refine af (yT hh hit hl hx λh' x he' hx' =>?_);obtain⟨o,ho,hc⟩:=hx'
 refine af (fC (T:="StopIteration") (b:=true) ⟨o,ho,hc⟩ isSubtype_stop ?_);exact aj (hQ _ he')
end
end GE
end PySem
namespace _L
open PySem PySem.Spec PyProof.Rows
theorem Inv.turnNew{X:Cx}{pins:List (Addr×Obj)}{σ:St}{H:Hp}{s:Shared}{h':Heap}{t':Nat}{fp:List Addr}{T:Addr}{o:HO}(I:Inv X pins σ H s)(hf: ∀b∈fp,sQ X pins H b)(k: ∀b u,b∉fp->s.heap.get? b=some u->h'.get? b=some u)
  (hT:s.heap.objs.size<=T) (new:dY X.prog X.w (upd H T o) h' T o):Inv X pins σ (upd H T o) { s with heap:=h',toks:=t' }:=by
 have hn:H T=none:=I.hok.fresh hT
 have neT: ∀b u,s.heap.get? b=some u->b≠T:=λb u e z=>absurd (ag (aD e) (by rw[z];exact hT)) (bZ _)
 have nfp: ∀b u,H b=some u->b∉fp:=λb u e z=>by rw[(hf b z).1]at e;cases e
 refine I.step (g':=s.gens) (d':=s.drawn) (ch:=fp) (λb hb=>⟨(hf b hb).2.2.2.1,(hf b hb).2.1,(hf b hb).2.2.2.2.1,(hf b hb).2.2.2.2.2⟩) (λb o _ _ hc e _=>k b o hc e) (λb o _ _ hc e _=>⟨o.slots,k b o hc e⟩)
  (λb o _ e n=>by rw[bR (neT b o e)];exact n) (λb o hc e=>⟨o,k b o hc e⟩) (λb xs e=>by rw[bR (bI e hn)];exact e) (λb o u e=>by rw[bR (bI e hn)];exact e) (λb ps e=>⟨#[],by rw[bR (bI e hn),e];simp⟩) (λm hm =>?_) (λb u e =>?_) I.bare
 ·obtain⟨o,es,ep,ho,r⟩:=hm
  exact⟨o,es,ep,k _ o (λz=>(hf _ z).2.1 rfl) ho,r⟩
 ·by_cases hb:b=T
  ·subst hb;rw[dn]at e;cases e;exact new
  ·rw[bR hb]at e
   refine(I.hok b u e).stay (λc v hc q=>k c v ?_ q) (λc q=>by rw[bR (bI q hn)];exact q) λc xs q=>by rw[bR (bI q hn)];exact q
   rcases hc with z |z
   ·rw[z];exact nfp b u e
   ·exact nfp c _ z
noncomputable def Ite(K:av)(a:Addr):It:=
 ⟨λi H =>∃xs x,SqT K H a xs/\xs[i]? = some x,λi H x H' =>∃T u,(∀xs,SqT K H a xs->xs[i]? = some u)/\H T=none/\x = .ref T/\H'=upd H T (.tup [.int i,u]),λi H =>∃xs,SqT K H a xs/\xs.length<=i⟩
theorem Bs{P:Program}{w:World}{K:av}{ts:List Expr}{kt:Nat}{pt:Pos}(a e it:Addr)(hne:e≠it):Turn P w K (.Tuple ts kt pt) (Ite K a) [e,it] e (λi h=>(∃old,IsEnum h e it (i:Nat) old)/\h.IsTupleIter it a i) where
 mem:=by simp
 obj:=λi h st b hb=>by
  obtain⟨⟨old,he⟩,o,ho,c,d⟩:=st
  rcases aO.mp hb with z |z
  ·subst z;exact⟨_,he,λv y=>by have y':En _=Data.cell v:=y;cases y'⟩
  ·have z:b=it:=by simpa using z
   subst z;exact⟨o,ho,λv y=>by rw[d]at y;cases y⟩
 keep:=λi h h' st k=>by
  obtain⟨⟨old,he⟩,o,ho,r⟩:=st
  exact⟨⟨old,k e (by simp) _ he⟩,o,k it (by simp) _ ho,r⟩
 item:=by
  intro X hP hw hK hc i pins s σ H E I hf st hg
  subst hP hw hK
  obtain⟨xs,x,hq,hx⟩:=hg
  obtain⟨its,rv,p,hz⟩:=I.tuple hq
  obtain⟨u,hu,ru⟩:=rv.get hx
  obtain⟨⟨old,he⟩,hit⟩:=st
  have hel:=aD he
  have hil:it<s.heap.objs.size:=by obtain⟨o,ho,_⟩:=hit;exact aD ho
  refine GE.next_item he hit (show s.heap.IsTuple a its.toArray from p) (x:=u) (by simpa using hu) hne λh' ho hit' hT hsz hk =>?_
  refine⟨_,rfl,wpAny_letOwnedTupleGo_enum (s:={ s with heap:=h',toks:=s.toks+1 }) ho λh2 he2 hs2 =>?_⟩
  have hT2:h2.get? s.heap.objs.size=some { cls := .type "tuple",data := .seq #[.int i s.toks,u] }:=(hs2.2 _ (cj hel)).trans hT
  have k: ∀b o,b ∉ [e,it]->s.heap.get? b=some o->h2.get? b=some o:=λb o hb eo=>by
   have hb1:b≠e:=λz=>hb (by simp[z])
   have hb2:b≠it:=λz=>hb (by simp[z])
   exact(hs2.2 b hb1).trans (hk b o hb1 hb2 eo)
  have new:dY X.prog X.w (upd H s.heap.objs.size (.tup [.int i,x])) h2 s.heap.objs.size (.tup [.int i,x]):=⟨by rw[sizeLine_eq];show 2<=16777216;decide,[.int i s.toks,u],.cons ⟨s.toks,rfl⟩ (.cons ru .nil),⟨_,hT2,rfl,_,rfl⟩,_,hT2,rfl⟩
  have it2:h2.IsTupleIter it a (i+1):=hit'.extBut hs2.extBut (cU hne)
  exact⟨.ref s.heap.objs.size,_,I.turnNew (t':=s.toks+1) hf k (aq _) new,rfl,⟨_,x,λys hy=>by rw[I.tuple_inj hy hq];exact hx,I.hok.fresh (aq _),rfl,rfl⟩,⟨⟨u,by simpa using he2⟩,it2⟩,λb hb=>by
   have hb0:=(hf b hb).1
   rw[bR (λz =>?_)]
   ·exact hb0
   ·rcases aO.mp hb with y |y
    ·exact absurd (y.symm.trans z) (aL hel)
    ·have y:b=it:=by simpa using y
     exact absurd (y.symm.trans z) (aL hil)⟩
 done:=by
  intro X hP hw hK hc i pins s σ H E I hf st hg
  subst hP hw hK
  obtain⟨xs,hq,hx⟩:=hg
  obtain⟨its,rv,p,hz⟩:=I.tuple hq
  obtain⟨⟨old,he⟩,hit⟩:=st
  obtain⟨f0,f1,f2,f3,f4,f5⟩:=hf it (by simp)
  have hl:=rv.length
  exact GE.next_end (I.ok.hd hc) he hit (show s.heap.IsTuple a its.toArray from p) (by simp;omega) λh' eb=>⟨rfl,I.turned (t':=s.toks) (λb o hb e=>eb b o hb e) f0 f1 f3 f4 f5⟩
 self:=λ_ _ _ _ _ st h=>by
  obtain⟨⟨old,he⟩,_⟩:=st
  exact wpAny_pyIter_enum he h
section
variable {X:Cx}
noncomputable def vA(K:av)(ta:TA):TI:=λσ H R=>ta σ H λvs H1=>(∃a xs,vs = [.ref a]/\SqT K H1 a xs/\R (Ite K a) H1)\/False
theorem Ft {a:Expr}{ta:TA}{p pos:Pos}{ts:List Expr}{kt:Nat}{pt:Pos} (hg:Gl X "enumerate") (hm:X.mg "enumerate"=none) (ha:PA X [a] ta) (hs:autoParam (starEach [a] X.env = [(false,eval a X.env)]) au1._auto_1):PI X (.Tuple ts kt pt) (.Call (.Name "enumerate" p) [a] [] pos) (vA X.K ta):=by
 intro pins s σ H R I h
 refine Call_ (hC I hg hm boot_enumerate (bN (thn (ha pos pins s σ H _ I h) λus s1 ⟨vs,H1,I1,r1,q1⟩ =>?_) hs rfl))
 rcases q1 with q1 |q1
 ·obtain⟨b,xs,e,hq,q⟩:=q1
  subst e
  cases r1 with
  | cons r rr=>
    cases rr
    cases r
    obtain⟨its,rv,pt,hz⟩:=I1.tuple hq
    refine GE.yn (show s1.heap.IsTuple b its.toArray from pt) λh' he hit hsz hk =>?_
    have I2:Inv X pins σ H1 { s1 with heap:=h',toks:=s1.toks }:=I1.kept hk
    refine wpAny_pyIter_enum (s:={ s1 with heap:=h' }) he ?_
    refine⟨s1.heap.objs.size+1,[s1.heap.objs.size+1,s1.heap.objs.size],_,_,H1,rfl,I2,Bs b _ _ (Nat.succ_ne_self _),⟨⟨_,he⟩,hit⟩,λc hc =>?_,q⟩
    rcases aO.mp hc with z |z
    ·subst z;exact I1.fpOk (dh _) (I1.hok.fresh (dh _))
    ·have z:c=s1.heap.objs.size:=by simpa using z
     subst z;exact I1.fpOk (aq _) (I1.hok.fresh (aq _))
 ·exact q1.elim
end
end _L
end
section
namespace PySem
namespace GE
section
variable {prog:Program}{w:World}{A:Around}{E:Value->Shared->Prop}{s:Shared}
end
section
variable {prog:Program}{w:World}{A:Around}{E:Value->Shared->Prop}{s:Shared}
end
end GE
end PySem
namespace _L
open PySem PySem.Spec PyProof.Rows
section
variable {X:Cx}
end
end _L
end
section
namespace _L
open PySem PyProof.Rows
noncomputable def CV(off:List Addr)(h h':Heap):Prop:= ∀b o,b∉off->h.get? b=some o->h'.get? b=some o
section
variable {prog:Program}{w:World}{A:Around}{E:Value->Shared->Prop}{s:Shared}{I S:Addr}{fp wr:List Addr}{n:Nat}{P:Nat->Value->Prop}{St:Nat->Heap->Prop}{h0:Heap}{v0:Value}{R:Result->Shared->Prop}
end
end _L
end
section
namespace _L
open PySem PyProof.Rows
noncomputable def oM(xs:Array Nat):Prop:=xs.toList.Pairwise (· < ·)
theorem oM.lt{xs:Array Nat}(r:oM xs){i j:Nat}(h:i<j)(hj:j<xs.size):xs[i]'(ck h hj)<xs[j]:=by
 have:=(List.pairwise_iff_getElem.mp r) i j (by simpa using ck h hj) (by simpa using hj) h
 simpa using this
theorem rN{xs:Array Nat}(r:oM xs){j:Nat}: ∀(f lo hi:Nat),lo<=hi->hi<=xs.size->hi - lo<=f->(∀i (h:i<xs.size),i<lo->xs[i]<j)->(∀i (h:i<xs.size),hi<=i->j<=xs[i]) ->
  gv xs j f lo hi<=xs.size/\(∀i (h:i<xs.size),i<gv xs j f lo hi->xs[i]<j) /\ ∀i (h:i<xs.size),gv xs j f lo hi<=i->j<=xs[i]
 | 0,lo,hi,h1,h2,h3,a,b=>by
   unfold gv
   have:lo=hi:=by omega
   subst this
   exact⟨h2,a,b⟩
 | f+1,lo,hi,h1,h2,h3,a,b=>by
   unfold gv
   by_cases h:lo<hi
   ·rw[if_pos h]
    dsimp only
    have hm:(lo+hi) / 2<xs.size:=by omega
    have em:xs.getD ((lo+hi) / 2) j=xs[(lo+hi) / 2]:=by simp[Array.getD,hm]
    rw[em]
    by_cases q:xs[(lo+hi) / 2]<j
    ·rw[if_pos q]
     refine rN r f _ _ (by omega) h2 (by omega) (λi hi' hl =>?_) b
     by_cases z:i=(lo+hi) / 2
     ·subst z;exact q
     ·exact ck (r.lt (show i<(lo+hi) / 2 by omega) hm) q
    ·rw[if_neg q]
     refine rN r f _ _ (by omega) (by exact bG (by assumption)) (by omega) a (λi hi' hl =>?_)
     by_cases z:i=(lo+hi) / 2
     ·subst z;exact b6 (by assumption)
     ·have:=r.lt (show(lo+hi) / 2<i by omega) hi'
      omega
   ·rw[if_neg h]
    have:lo=hi:=by omega
    subst this
    exact⟨h2,a,b⟩
theorem nL{xs:Array Nat}(r:oM xs)(j:Nat):aY xs j<=xs.size/\(∀i (h:i<xs.size),i<aY xs j->xs[i]<j) /\ ∀i (h:i<xs.size),aY xs j<=i->j<=xs[i]:=
 rN r _ _ _ (cR _) (aq _) (aq _) (λi _ h=>absurd h (Nat.not_lt_zero i)) λi h1 h2=>absurd h1 (Nat.not_lt.mpr h2)
theorem y7{xs:Array Nat}(r:oM xs){i:Nat}(hi:i<xs.size):aY xs (xs[i]+1)=i+1:=by
 obtain⟨h1,h2,h3⟩:=nL r (xs[i]+1)
 rcases Nat.lt_trichotomy (aY xs (xs[i]+1)) (i+1) with z |z |z
 ·have:=h3 i hi (by exact dR (by assumption));exact absurd (by assumption) (bZ _)
 ·exact z
 ·have hs:i+1<xs.size:=by exact ag (by assumption) (by assumption)
  have:=h2 (i+1) hs z
  have:=r.lt (show i<i+1 by exact aq _) hs
  omega
theorem yC{xs:Array Nat}(r:oM xs):aY xs 0=0:=by
 obtain⟨h1,h2,h3⟩:=nL r 0
 by_cases z:aY xs 0=0
 ·exact z
 ·have:=h2 0 (by omega) (by exact Nat.pos_of_ne_zero (by assumption));omega
theorem BY{xs:Array Nat}(r:oM xs){j:Nat}(h:xs[aY xs j]? ≠ some j):oM (SetTable.insertAt xs (aY xs j) j):=by
 obtain⟨h1,h2,h3⟩:=nL r j
 unfold oM
 rw[SetTable.toList_insertAt]
 have rl:xs.toList.Pairwise (· < ·):=r
 have lt: ∀x∈xs.toList.take (aY xs j),x<j:=λx hx=>by
  obtain⟨i,hi,rfl⟩:=pR hx
  rw[iU,cQ]at hi
  have:=h2 i (by omega) (by omega)
  simpa using this
 have gt: ∀x∈xs.toList.drop (aY xs j),j<x:=λx hx=>by
  obtain⟨i,hi,rfl⟩:=pR hx
  rw[m6,cQ]at hi
  have hb:aY xs j+i<xs.size:=by omega
  have:=h3 (aY xs j+i) hb (by omega)
  have e:(xs.toList.drop (aY xs j))[i]'(by rw[m6,cQ];exact hi)=xs[aY xs j+i]:=by simp
  rw[e]
  rcases Nat.lt_or_eq_of_le this with z |z
  ·exact z
  ·exfalso
   by_cases i0:i=0
   ·subst i0
    exact h (by rw[eA (by assumption)];simpa using z.symm)
   ·have a:=h3 (aY xs j) (by omega) (aq _)
    have b:=r.lt (show aY xs j<aY xs j+i by omega) hb
    omega
 refine List.pairwise_append.mpr ⟨rl.sublist (su _ _),List.pairwise_cons.mpr ⟨gt,rl.sublist (List.drop_sublist _ _)⟩,λa ha b hb =>?_⟩
 rcases aO.mp hb with rfl |hb
 ·exact lt a ha
 ·exact ck (lt a ha) (gt b hb)
structure jv(t:SetTable)(led:Bool):Prop where
 r:oM t.place
 d:t.dummies = #[]
 l:t.led=led
theorem jv.fresh(led:Bool):jv (.fresh 0 0 led) led:=⟨.nil,rfl,rfl⟩
theorem jv.stand{t:SetTable}{led:Bool}(n:Nat)(h:jv t led):jv (t.standIn n) led:=⟨by
 show(Array.range n).toList.Pairwise (· < ·)
 rw[Array.toList_range];exact nG,rfl,h.l⟩
theorem Fu{t:SetTable}{led:Bool}(h:jv t led)(j:Nat):t.slot j≠.dummy:=by
 have:xZ t.dummies j=false:=by rw[h.d];rfl
 unfold SetTable.slot
 dsimp only
 split
 ·exact λz=>by cases z
 ·rw[this];exact λz=>by cases z
theorem yz{t:SetTable}{j:Nat}(h:t.slot j = .empty):t.place[aY t.place j]? ≠ some j:=λz=>by
 unfold SetTable.slot at h
 dsimp only at h
 rw[if_pos (by rw[z];exact beq_self_eq_true _)]at h
 cases h
theorem wx{t:SetTable}{led:Bool}(ht:jv t led){hash:Nat->Int}{h:Int}: ∀(f:Nat) (p:SetTable.Probe) {j:Nat}{d:Option Nat},p.dummy=none->xR t hash h f p=some (.empty j d)->t.slot j = .empty/\d=none
 | 0,p,j,d,_,e=>by cases e
 | f+1,p,j,d,hd,e=>by
   unfold xR at e
   have adv:(t.advance p).dummy=none:=by unfold SetTable.advance;split <;> exact hd
   split at e
   ·rename_i q;cases e;exact⟨q,hd⟩
   ·rename_i q;exact absurd q (Fu ht _)
   ·split at e
    ·cases e
    ·exact wx ht f _ adv e
theorem AF{t:SetTable}{led:Bool}(ht:jv t led){h:Int}{j:Nat}{b:Bool}(e:t.freeSlot h=some (j,b)):t.place[aY t.place j]? ≠ some j:=by
 unfold SetTable.freeSlot at e
 split at e
 ·rename_i j' d q
  obtain⟨q1,q2⟩:=wx ht _ _ rfl q
  subst q2
  cases e
  exact yz q1
 ·cases e
theorem jv.put{t:SetTable}{led:Bool}(ht:jv t led){j:Nat}(h:t.place[aY t.place j]? ≠ some j):jv (t.put j).1 led:=by
 refine⟨BY ht.r h,?_,ht.l⟩
 show(if xZ t.dummies j then _ else t.dummies) = #[]
 rw[if_neg (by rw[ht.d];simp[xZ])];exact ht.d
theorem jv.orStand{t:SetTable}{led:Bool}(n:Nat)(h:jv t led):jv (t.orStandIn n) led:=by
 unfold SetTable.orStandIn
 split
 ·exact h
 ·exact h.stand n
theorem jv.lay{t:SetTable}{led:Bool}(ht:jv t led)(es:Array (Int×Value))(h:Int)(x:Value):jv (layNew t es h x).2.1 led:=by
 unfold layNew
 split
 ·rename_i j b e;exact(ht.put (AF ht e)).orStand _
 ·exact ht.stand _
theorem jv.relay{t:SetTable}{led:Bool}(ht:jv t led)(es:Array (Int×Value))(n:Nat):jv (relayAll t es n).2.1 led:=by
 unfold relayAll
 split
 ·rename_i t' order e
  dsimp only
  split
  ·unfold SetTable.relaid SetTable.laid at e
   simp only[bind,Option.bind]at e
   split at e
   ·cases e
   ·cases e
    refine⟨?_,rfl,ht.l⟩
    show List.Pairwise _ _
    rw[List.toList_toArray]
    refine fP.mpr (List.pairwise_filterMap.mpr (List.pairwise_lt_range.imp λ{a b} hab x hx y hy =>?_))
    obtain⟨_,_,rfl⟩:=fe.mp hx
    obtain⟨_,_,rfl⟩:=fe.mp hy
    exact hab
  ·exact ht.stand _
 ·exact ht.stand _
theorem gh{α:Type}: ∀(l:List α) (i:Nat) (h:i<l.length),(l[i]::l.eraseIdx i).Perm l
 | x::l,0,h => .refl _
 | x::l,i+1,h=>(List.Perm.swap x _ _).trans (.cons x (gh l i (by simpa using h)))
theorem zC{α:Type}{next:Nat->Nat}: ∀(f k:Nat) (left:List α) (out:Array α),f=left.length->(pickOrder.go next f k left out).toList.Perm (out.toList++left)
 | 0,k,left,out,h=>by
   rw[eV.mp h.symm]
   show out.toList.Perm (out.toList++[])
   rw[cD]
 | f+1,k,left,out,h=>by
   unfold pickOrder.go
   have hl:next k % left.length<left.length:=kI _ (by omega)
   rw[aX hl]
   dsimp only
   refine(zC f (k+1) _ _ (by rw[ya hl];omega)).trans ?_
   rw[Array.toList_push,aW]
   refine yb _ ?_
   exact gh left _ hl
theorem A7{α:Type}(next:Nat->Nat)(xs:Array α):(pickOrder next xs).toList.Perm xs.toList:=by
 have:=zC (next:=next) xs.size 0 xs.toList #[] (by simp)
 simpa [pickOrder]using this
theorem wp_choose{M:Model}{A:Around}{E:Value->Shared->Prop}{s:Shared}{src:Source}{n:Nat}{Q:Nat->Shared->Prop}(hn:n≠0)(h: ∀i d,i<n->Q i { s with drawn:=d }):az M A (choose src n) Q E s:=λΓ p _=>by
 unfold choose;rw[Sem.wp_choose];exact⟨hn,h _ _ (kI _ (Nat.pos_of_ne_zero hn))⟩
theorem wR{M:Model}{A:Around}{E:Value->Shared->Prop}{α:Type}: ∀(n:Nat) (xs:List α) (s:Shared) {Q:List α->Shared->Prop},n=xs.length->(∀l d,l.Perm xs->Q l { s with drawn:=d })->az M A (drawOrder n xs) Q E s
 | 0,xs,s,Q,hn,h=>by
   rw[eV.mp hn.symm]at h ⊢
   exact aj (h [] s.drawn (.refl _))
 | n+1,[],s,Q,hn,h=>by cases hn
 | n+1,x::xs,s,Q,hn,h=>by
   unfold drawOrder
   refine af (wp_choose (by simp) λi d hi =>?_)
   rw[aX hi];dsimp only
   refine af (wR n _ _ (by rw[ya hi];omega) λl d' hl=>aj ?_)
   exact h _ d' ((List.Perm.cons _ hl).trans (gh _ i hi))
noncomputable def JA:Value->Int
 | .int i _=>i
 | _=>0
theorem wM: ∀{vs:List Value},(∀v∈vs,∃i t,v = .int i t)->IntsAre vs (vs.map JA)
 | [],_ => .nil
 | v::vs,h=>by
   obtain⟨i,t,rfl⟩:=h v (by simp)
   exact .cons i t (wM λw hw=>h w (aC _ hw))
noncomputable def ll (es:Array (Int×Value)) (ep:Nat) (t:SetTable):Obj:={ cls := .type "set",dict:=none,data := .set es ep t,slots := #[] }
structure uR(prog:Program)(w:World)(led:Bool)(ns:List Int)(es:Array (Int×Value))(t:SetTable):Prop where
 fit:t.fits es.size=true
 tab:jv t led
 el:ElemsOf (intKind prog w) es.toList
 sm:es.size<scanBound
 pm:(es.toList.map λe=>JA e.2).Perm ns
noncomputable def rA(prog:Program)(w:World)(h:Heap)(a:Addr)(led:Bool)(ns:List Int):Prop:= ∃es ep t,h.get? a=some (ll es ep t)/\uR prog w led ns es t
section
variable {prog:Program}{w:World}{A:Around}{E:Value->Shared->Prop}{s:Shared}{led:Bool}{ns:List Int}
theorem uR.len{es:Array (Int×Value)}{t:SetTable}(h:uR prog w led ns es t):es.size=ns.length:=by have:=h.pm.length_eq;simpa using this
theorem uR.int{es:Array (Int×Value)}{t:SetTable}(h:uR prog w led ns es t){e:Int×Value}(he:e∈es.toList): ∃i u,e.2 = .int i u:=by
 obtain⟨⟨k,hk,_⟩,_⟩:=h.el e he
 obtain⟨u,hu⟩:=si (k:=k) (v:=e.2) hk
 exact⟨k,u,hu⟩
theorem uA{a:Addr}{es es':Array (Int×Value)}{ep:Nat}{t t':SetTable}{Q:Unit->Shared->Prop}(ho:s.heap.get? a=some (ll es ep t))(hz:es'.size<scanBound)
  (h: ∀h',cf a s.heap h'->h'.get? a=some (ll es' (ep+1) t')->Q () { s with heap:=h' }):az (model prog w) A (storeSet a es' t') Q E s:=by
 refine wpAny_storeSet_of ho rfl (h _ (eu ..) ?_) (fits_of_scanBound hz)
 have g:=b3 (Obj.putSet es' t') ho (by rw[putSet_of es' t' rfl];rfl)
 rw[putSet_of es' t' rfl]at g;exact g
theorem wY{g:Bool->Sem Unit}(hg: ∀(b:Bool) (s₁:Shared) (Q':Unit->Shared->Prop),Q' () s₁->az (model prog w) A (g b) Q' E s₁){a:Addr}{es es1:Array (Int×Value)}{ep:Nat}{t t2:SetTable}(ho:s.heap.get? a=some (ll es ep t))(he:uR prog w led ns es1 t2)
  {wd:Bool}{R:Option Bool->Shared->Prop} (h: ∀h',cf a s.heap h'->rA prog w h' a led ns->R (some true) { s with heap:=h' }):
  az (model prog w) A (storeSet a es1 t2 >>= λ_=>if (!wd&&t2.tooFull)=true then(g (relayAll t2 es1 (fK es1.size)).2.2 >>= λ_=>storeSet a (relayAll t2 es1 (fK es1.size)).1 (relayAll t2 es1 (fK es1.size)).2.1 >>= λ_=>pure (some true)) else pure (some true)) R E s:=by
 refine af (uA ho he.sm λh1 s1 g1 =>?_)
 split
 ·have hp:=relayAll_perm t2 es1 (fK es1.size);have hf:=relayAll_fits t2 es1 (fK es1.size);have ht:=he.tab.relay es1 (fK es1.size)
  have hsz:(relayAll t2 es1 (fK es1.size)).1.size=es1.size:=by have:=hp.length_eq;simpa using this
  refine af (hg _ _ _ (af (uA g1 (by rw[hsz];exact he.sm) λh2 s2 g2=>aj ?_)))
  exact h h2 (s1.trans s2) ⟨_,_,_,g2,hf,ht,he.el.perm hp,by rw[hsz];exact he.sm,(hp.map _).trans he.pm⟩
 ·exact aj (h h1 s1 ⟨_,_,_,g1,he⟩)
theorem Gw{a:Addr}{i:Int}{u:Tok}{Q:Bool->Shared->Prop}(hS:rA prog w s.heap a led ns)(hr:ns.length+1<scanBound)
  (h: ∀h',cf a s.heap h'->rA prog w h' a led (if i∈ns then ns else ns++[i]) -> ∀b,Q b { s with heap:=h' }):az (model prog w) A (setAddHashed a (.int i u) ((intKind prog w).hash i)) Q E s:=by
 obtain⟨es,ep,t,ho,he⟩:=hS
 have hkey:(intKind prog w).is i (.int i u)=true:=intKind_is _ _ _ _
 have hsc:(mF i u).scannable=true:=rfl
 have mem:i∈ns ↔ ∃e∈es.toList,(intKind prog w).is i e.2=true:=by
  rw[<- he.pm.mem_iff,aS]
  constructor
  ·rintro ⟨e,m,q⟩
   obtain⟨j,u',hu⟩:=he.int m
   rw[hu]at q
   have q:j=i:=q
   subst q
   exact⟨e,m,by rw[hu];exact intKind_is _ _ _ _⟩
  ·rintro ⟨e,m,q⟩
   obtain⟨u',hu⟩:=si (k:=i) (v:=e.2) q
   exact⟨e,m,by rw[hu];rfl⟩
 unfold setAddHashed setAddHashedIn;refine df (af (jl ho rfl he.fit ?_));dsimp only;rw[byScan_of hsc he.sm he.el];simp only[↓reduceIte]
 unfold setAddByScan;refine af (af (jO (af (wpAny_setScan_of hkey ho rfl he.fit he.el ?_))))
 cases hq:List.findIdx? (λe=>(intKind prog w).is i e.2) es.toList with
 | some j=>
   dsimp only
   obtain⟨hj,hpj,_⟩:=eB.mp hq
   have hin:i∈ns:=mem.mpr ⟨es.toList[j],eW hj,hpj⟩
   refine aj (aj ?_)
   rw[if_pos hin]at h
   exact h s.heap (Heap.SameBut.refl a s.heap) ⟨es,ep,t,ho,he⟩ _
 | none=>
   dsimp only
   have hin:i∉ns:=λz=>by
    obtain⟨e,m,q⟩:=mem.mp z
    have:=List.findIdx?_eq_none_iff.mp hq e m
    rw[q]at this;cases this
   rw[if_neg hin]at h
   have hp:=layNew_perm t es ((intKind prog w).hash i) (.int i u);have hf:=layNew_fits t es ((intKind prog w).hash i) (.int i u);have ht:=he.tab.lay es ((intKind prog w).hash i) (.int i u)
   generalize layNew t es ((intKind prog w).hash i) (.int i u)=L at hp hf ht ⊢
   obtain⟨es1,t1,wd,gave⟩:=L
   dsimp only at hp hf ht ⊢
   rw[Array.toList_push]at hp
   have hsz:es1.size=es.size+1:=by have:=hp.length_eq;simpa using this
   have he1:uR prog w led (ns++[i]) es1 t1:=⟨hf,ht,(he.el.push hkey hsc).perm hp,by rw[hsz,he.len];exact hr,(hp.map _).trans (by rw[b5];exact he.pm.append_right _)⟩
   have hg : ∀ (b:Bool) (s₁:Shared) (Q':Unit->Shared->Prop),Q' () s₁->az (model prog w) A (match b with | true=>rule "set.scan.the-table-gave-way" | false=>pure ()) Q' E s₁:=fun b s₁ Q' q=>by cases b <;> first | exact aj q | exact jO q
   refine af (hg _ _ _ ?_)
   have fin: ∀h',cf a s.heap h'->rA prog w h' a led (ns++[i])->Q true { s with heap:=h' }:=λh' x y=>h h' x y _
   split
   ·refine af ?_;rw[hashByValue_scannable 8 hsc];refine aj ?_
    refine wY (led:=led) (ns:=ns++[i]) hg ho ?_ λh' x y =>?_
    ·exact he1
    ·dsimp only;exact aj (fin h' x y)
   ·refine af (aj ?_);simp only[↓reduceIte]
    refine wY hg ho he1 λh' x y =>?_
    dsimp only;exact aj (fin h' x y)
noncomputable def ddp(l:List Int):List Int:=l.foldl (λacc x=>if x∈acc then acc else acc++[x]) []
theorem Df(l:List Int)(x:Int):ddp (l++[x])=if x∈ddp l then ddp l else ddp l++[x]:=by unfold ddp;rw[iA];rfl
theorem xn: ∀(l acc:List Int),(l.foldl (λacc x=>if x∈acc then acc else acc++[x]) acc).length<=acc.length+l.length
 | [],acc=>by simp
 | x::l,acc=>by
   have:=xn l (if x∈acc then acc else acc++[x])
   have h:(if x∈acc then acc else acc++[x]).length<=acc.length+1:=by split <;> simp
   simp only[jH,cu]
   omega
theorem Ai(l:List Int):(ddp l).length<=l.length:=by have:=xn l [];simpa [ddp]using this
theorem wb{R:Result->Shared->Prop}{I S:Addr}{fp wr:List Addr}{vs:List Int}{P:Nat->Value->Prop}{St:Nat->Heap->Prop}(W:Walks prog w A.in1 I fp wr vs.length P St)(hf:S∉fp)
  (hv: ∀i v,P i v -> ∃t,v = .int (vs.getD i 0) t) (hb:vs.length+1<scanBound): ∀(k i:Nat) (s:Shared),i+k=vs.length->St i s.heap->rA prog w s.heap S led (ddp (vs.take i)) ->
   (∀ h' tk,CV (S::wr) s.heap h'->rA prog w h' S led (ddp vs)->R (.ok (.ret .none)) { s with heap:=h',toks:=tk })->pz (model prog w) A (.builtin "set.update.loop" ⟨[.ref S,.ref I],[]⟩) R s:=by
 have hw:S∉wr:=λh=>hf (W.sub _ h)
 intro k
 induction k with
 | zero=>
   intro i s e st hS hR;refine cx lu ?_;rw[bP fG _];show az _ A.in1 (pyNext (.ref I) >>= _) _ _ s
   have e:i=vs.length:=e
   subst e
   refine af (W.done s _ _ st λh' tk hk =>?_);show az _ A.in1 (ret da) _ _ _;refine aj (hR h' tk (λb o hb e=>hk b o (λq=>hb (aC _ q)) e) ?_)
   rw[iV]at hS
   obtain⟨es,ep,t,ho,he⟩:=hS
   exact⟨es,ep,t,hk S _ hw ho,he⟩
 | succ k ih=>
   intro i s e st hS hR;refine cx lu ?_;rw[bP fG _];show az _ A.in1 (pyNext (.ref I) >>= _) _ _ s
   refine af (W.item i s _ _ (by omega) st λv h' tk hP st' hk =>?_)
   obtain⟨u,rfl⟩:=hv i v hP
   have hS':rA prog w h' S led (ddp (vs.take i)):=by
    obtain⟨es,ep,t,ho,he⟩:=hS
    exact⟨es,ep,t,hk S _ hw ho,he⟩
   have hl:=Ai (vs.take i)
   rw[iU]at hl
   have hi:i<vs.length:=by omega
   have ev:vs.getD i 0=vs[i]:=by simp[List.getD,hi]
   have tk1:ddp (vs.take (i+1))=if vs.getD i 0∈ddp (vs.take i) then ddp (vs.take i) else ddp (vs.take i)++[vs.getD i 0]:=by rw[sx,aX hi,ev];exact Df _ _
   show az _ A.in1 (holding [mF (vs.getD i 0) u] (setAdd S (.int (vs.getD i 0) u)) >>= _) _ _ _;refine af (df ?_);unfold setAdd;refine df (af ((intKind prog w).pyHash (k:=vs.getD i 0) (intKind_is _ _ _ _) ?_))
   refine Gw (led:=led) hS' (by omega) λh2 s2 hS2 b =>?_
   rw[<- tk1]at hS2
   refine aj ⟨plainId_quiet fG _,ih (i+1) _ (by omega) (W.frame _ _ _ st' λb hb o e =>?_) hS2 λh3 tk3 hd hS3=>hR h3 tk3 (λb o hb e=>hd b o hb ?_) hS3⟩
   ·rw[s2.2 b (λq:b=S=>hf (by rw[<- q];exact hb))];exact e
   ·rw[s2.2 b (λq:b=S=>hb (by rw[q];exact dG))];exact hk b o (λq=>hb (aC _ q)) e
theorem Fp (a:Value) {Q₁:Value->Shared->Prop} (h:Q₁ (.ref s.heap.objs.size) { s with heap:=s.heap.push (ll #[] 0 (.fresh 0 0 (!w.params.followText "set-order"))) }):pz (model prog w) A (.call (.builtin "set.__new__") ⟨[.type "set",a],[]⟩) (wants Q₁ E) s:=by
 refine BI ?_;show az _ A.in1 (do checkBuiltinCall "set.__new__" ⟨[.type "set",a],[]⟩;again (.builtin "set.__new__" ⟨[.type "set",a],[]⟩)) _ _ s
 refine af (cP (PySem.F.newCall_set_1 a) (aj ⟨plainId_quiet Ay _,cx PySem.F.entry_set_new ?_⟩));rw[bP Ay _];unfold Builtin.«set.__new__» Builtin.Frozenset.newClass
 have hsub:=sub_set_self
 obtain⟨hp,g,d,tk,os⟩:=s;dsimp only;wp_walk;refine jP (aj ?_);dsimp only;simp only[newObj];refine af (wpAny_alloc (aj ?_));exact aj h
set_option maxHeartbeats 8000000 in
theorem wm {l:Addr}{T:String}{items:Array Value}{nl:Nat}{vs:List Int}{Q:Value->Shared->Prop} (hT:T="list"\/T="tuple") (hh:A.handled=none) {od:Option Addr}{osl:Array (Option Value)} (hol:s.heap.get? l=some { cls := .type T,dict:=od,data := .seq items nl,slots:=osl }) (hi:IntsAre items.toList vs) (hb:vs.length+1 < scanBound)
  (h : ∀ (h':Heap) (tk:Nat),rA prog w h' s.heap.objs.size (!w.params.followText "set-order") (ddp vs)->CV [] s.heap h'->Q (.ref s.heap.objs.size) { s with heap:=h',toks:=tk }):az (model prog w) A (call (.type "set") [.ref l]) Q E s:=by
 obtain⟨c,tl,hmro⟩:=PySem.F.called_set.mro
 have hmade:=PySem.F.called_set.made;have hsub:=PySem.F.called_set.sub
 have hvl:items.size=vs.length:=by have:=hi.length;simpa using this
 refine wpAny_call (BI ?_);show az _ _ (callAny (.type "set") _) _ _ _;refine aj ⟨Code.quiet_builtin _ (by decide +kernel),cx PySem.F.entry_type_call ?_⟩;rw [Around.under_plain (weight_type_call_type "set" [.ref l] []) rfl]
 have h1:=PySem.F.called_set.notType;have h2:=PySem.F.called_set.canCreate;have hct:=PySem.F.typeCall_set_1 (.ref l)
 repeat (any_goals (first |assumption |wp_step))
 generalize hled:(!w.params.followText "set-order")=led at h
 refine jj (Fp (.ref l) (E:=E) (Q₁:=λobj s₁=>obj = .ref s.heap.objs.size/\s₁={ s with heap:=s.heap.push (ll #[] 0 (.fresh 0 0 led)) }) (by rw[hled];exact⟨rfl,rfl⟩)) λr s₁ hr =>?_
 cases r with
 | error e=>exact hr
 | ok fl=>
   cases fl with
   | ret obj=>
     obtain⟨rfl,rfl⟩:=hr
     generalize hg:s.heap.push (ll #[] 0 (.fresh 0 0 led))=g
     have gz:g.objs.size=s.heap.objs.size+1:=by rw[<- hg];exact bp ..
     have hS:g.get? s.heap.objs.size=some (ll #[] 0 (.fresh 0 0 led)):=by rw[<- hg];exact ay _ rfl
     have hk: ∀b o,s.heap.get? b=some o->g.get? b=some o:=λb o e=>by rw[<- hg];exact ao _ e
     have hTS:kY { s with heap:=g } (.ref s.heap.objs.size) "set":=⟨_,hS,rfl⟩
     have hli:=PySem.F.called_set.init.lookup;have hbi:=PySem.F.called_set.init.bind (.ref s.heap.objs.size)
     repeat (any_goals (first |assumption |wp_step))
     refine jj (codeAny_call_builtin (R:=wants (λr s₂=>r = .none /\ ∃h' tk,s₂={ s with heap:=h',toks:=tk }/\rA prog w h' s.heap.objs.size led (ddp vs)/\CV [] s.heap h') E) PySem.F.called_set.init.plain PySem.F.entry_set_init (check_set_init_1 hTS ?_)) λr₂ s₂ hr₂ =>?_
     ·have hol':=hk _ _ hol
      have hls:isSubtype (.type T) (.type "set")=pure false:=by rcases hT with rfl | rfl <;> first | exact PySem.F.sub_list_set | exact sub_tup_set
      have hlf:isSubtype (.type T) (.type "frozenset")=pure false:=by rcases hT with rfl | rfl <;> first | exact PySem.F.sub_list_frozenset | exact sub_tup_frz
      have hne:(kd T == kd "dict")=false:=by rcases hT with rfl | rfl <;> decide
      unfold Builtin.«set.__init__» noKeywords Builtin.Frozenset.updateFrom
      generalize hPI:pyIter=PI
      unfold ll at hS
      wp_walk
      subst hPI
      have lS: @Ek Nat _ l s.heap.objs.size:=aD hol
      have lI:l≠g.objs.size:=λq=>by have q': @Eq Nat l g.objs.size:=q;omega
      have hf:s.heap.objs.size ∉ [g.objs.size,l]:=λq=>by
       rcases aO.mp q with q |q
       ·have q': @Eq Nat s.heap.objs.size g.objs.size:=q;omega
       ·have q': @Eq Nat s.heap.objs.size l:=aQ.mp q;omega
      have hv: ∀(i:Nat) (v:Value),items[i]? = some v -> ∃t,v = .int (vs.getD i 0) t:=λi v hv=>PyProof.Rows.IntsAre.int_at hi i v (by rw[fI];exact hv)
      have hh3:A.in1.in1.in1.handled=none:=by simp[hh]
      have fr:uR prog w led (ddp []) #[] (.fresh 0 0 led):=⟨rfl,jv.fresh led,λe he=>by simp at he,by decide,by exact .refl _⟩
      have fin: ∀(io:Obj) (h':Heap),CV [s.heap.objs.size,g.objs.size] (g.push io) h'->CV [] s.heap h':=λio h' hd b o _ e=>by
       have lb: @Ek Nat _ b s.heap.objs.size:=aD e
       refine hd b o (λq =>?_) (ao _ (hk b o e))
       rcases aO.mp q with q |q
       ·have q': @Eq Nat b s.heap.objs.size:=q;omega
       ·have q': @Eq Nat b g.objs.size:=aQ.mp q;omega
      rcases hT with rfl |rfl
      ·have hl1:g.IsList l items:=⟨_,hol',rfl,nl,rfl⟩
       refine xP hl1 (af (jm ?_))
       have W:=Walks.list (prog:=prog) (w:=w) (A:=A.in1.in1.in1) hh3 g.objs.size l lI items
       rw[hvl]at W
       exact wb (led:=led) W hf hv hb vs.length 0 _ (by omega) ⟨⟨_,ay _ rfl,rfl,rfl⟩,hl1.push _⟩ ⟨_,_,_,ao _ hS,fr⟩ λh' tk hd hS'=>aj (aj ⟨rfl,h',tk,rfl,hS',fin _ h' hd⟩)
      ·have hl1:g.IsTuple l items:=⟨_,hol',rfl,nl,rfl⟩
       refine mG hl1 (af (jm ?_))
       have W:=Walks.tuple (prog:=prog) (w:=w) (A:=A.in1.in1.in1) hh3 g.objs.size l lI items
       rw[hvl]at W
       exact wb (led:=led) W hf hv hb vs.length 0 _ (by omega) ⟨⟨_,ay _ rfl,rfl,rfl⟩,hl1.push _⟩ ⟨_,_,_,ao _ hS,fr⟩ λh' tk hd hS'=>aj (aj ⟨rfl,h',tk,rfl,hS',fin _ h' hd⟩)
     ·cases r₂ with
      | error e=>exact hr₂
      | ok fl₂=>
        cases fl₂ with
        | ret r=>
          obtain⟨rfl,h',tk,rfl,hS',hd⟩:=hr₂
          repeat (any_goals (first |assumption |wp_step))
          exact h _ _ hS' hd
        | _=>exact hr₂.elim
   | _=>exact hr.elim
end
end _L
end
section
namespace PySem
namespace GS
theorem wj:Manifest.owners.lookup (String.ofList ['r','o','t','a','r','e','t','i','_','t','e','s'].reverse)=some Manifest.sig_set_iterator:=by kernel_rfl
theorem slot_si:Slot "set_iterator" "__next__" "set_iterator.__next__":=
 .of (owner:="set_iterator") (n:="__next__") (by rw [typeLookup_type,builtinLookup_eq_fast];kernel_rfl) (by decide +kernel) (by decide +kernel) (by decide +kernel) (by first | exact .inl (by decide +kernel) | exact .inr (by decide +kernel)) (by rw [isSubtype_type];kernel_rfl)
theorem entry_si:entryFor table "set_iterator.__next__"=some Builtin.«set_iterator.__next__»:=entryFor_of_tree (by kernel_rfl)
theorem args_si (a:Value):argsOk "set_iterator.__next__" ⟨[a],[]⟩:=by
 unfold argsOk;rw [signature?_of (id:="set_iterator.__next__") (n := ['_','_','t','x','e','n','_','_']) (o := ['r','o','t','a','r','e','t','i','_','t','e','s']) (by kernel_rfl) wj];kernel_rfl
theorem slot_sii:Slot "set_iterator" "__iter__" "set_iterator.__iter__":=
 .of (owner:="set_iterator") (n:="__iter__") (by rw [typeLookup_type,builtinLookup_eq_fast];kernel_rfl) (by decide +kernel) (by decide +kernel) (by decide +kernel) (by first | exact .inl (by decide +kernel) | exact .inr (by decide +kernel)) (by rw [isSubtype_type];kernel_rfl)
theorem args_sii (a:Value):argsOk "set_iterator.__iter__" ⟨[a],[]⟩:=by
 unfold argsOk;rw [signature?_of (id:="set_iterator.__iter__") (n := ['_','_','r','e','t','i','_','_']) (o := ['r','o','t','a','r','e','t','i','_','t','e','s']) (by kernel_rfl) wj];kernel_rfl
theorem entry_sii:entryFor table "set_iterator.__iter__"=some Builtin.«dict_keyiterator.__iter__»:=
 entryFor_alias (id':="dict_keyiterator.__iter__") (by kernel_rfl) (by first | rfl | decide +kernel | (unfold vS;simp +decide [qJ])) (by decide +kernel) (by kernel_rfl)
theorem entry_seti:entryFor table "set.__iter__"=some Builtin.«frozenset.__iter__»:=
 entryFor_alias (id':="frozenset.__iter__") (by kernel_rfl) (by first | rfl | decide +kernel | (unfold vS;simp +decide [qJ])) (by decide +kernel) (by kernel_rfl)
end GS
end PySem
namespace _L
open PySem PyProof.Rows
noncomputable def p8 (first:Value) (i:Nat) (a:Addr) (n ep:Nat):Obj:={ cls := .type "set_iterator",data := .fields #[first,rawInt i,.ref a,rawInt n,rawInt ep] }
section
variable {prog:Program}{w:World}{A:Around}{E:Value->Shared->Prop}{s:Shared}{I a:Addr}{es:Array (Int×Value)}{ep:Nat}{t:SetTable}
theorem xa{first:Value}{i n:Nat}{Q:Value->Shared->Prop}(h:s.heap.get? I=some (p8 first i a n ep))(q:Q (.ref I) s):az (model prog w) A (pyIter (.ref I)) Q E s:=by
 have hT:s.TypeIs (.ref I) "set_iterator":=⟨_,h,rfl⟩
 refine xQ hT GS.slot_sii (bx GS.slot_sii hT GS.entry_sii ?_ (GS.args_sii _));show az _ _ (ret (.ref I)) _ _ s;exact aj ⟨_,rfl,"set_iterator",_,hT,GS.slot_si.lookup,q⟩
noncomputable def rQ (w:World) (a:Addr) (ep:Nat) (es:Array (Int×Value)):List (Int×Value):=if w.params.followText "set-order"=true then (pickOrder (w.params.setOrder a ep) es).toList else es.toList
theorem mU:(rQ w a ep es).Perm es.toList:=by
 unfold rQ
 split
 ·exact A7 _ _
 ·exact .refl _
theorem zQ {slot i:Nat}{Q:Option (Value×Nat)->Shared->Prop} (ho:s.heap.get? a=some (ll es ep t)) (hf:t.fits es.size=true) (hr:oM t.place) (hl:w.params.followText "set-order"=false->t.led=true/\(t.plain=true\/es.size<=1)/\aY t.place slot=i)
  (hq : ∀ j,(w.params.followText "set-order"=false -> ∀ h:i < t.place.size,j=t.place[i]+1)->Q (((rQ w a ep es)[i]?).map fun e=>(e.2,j)) s):az (model prog w) A (setNext a slot i ep) Q E s:=by
 have hz:t.place.size=es.size:=by simp only[SetTable.fits,aB,beq_iff_eq]at hf;exact hf.1
 unfold setNext;refine af (jl ho rfl hf ?_);dsimp only;unfold setsByText;refine af (af (jP (aj ?_)))
 cases hb:w.params.followText "set-order" with
 | true=>
   have hb':(model prog w).w.params.followText "set-order"=true:=hb
   simp only[hb',if_true,bne_self_eq_false,dH,if_false]
   unfold setWalk;refine af (af (jl ho rfl hf ?_));(try dsimp only);unfold setsByText;refine af (af (jP (aj ?_)));simp only[hb',if_true];refine af (jP (aj (aj ?_)))
   have:=hq slot (λz=>by rw[hb]at z;cases z)
   unfold rQ at this
   rw[if_pos hb,fI]at this
   exact this
 | false=>
   have hb':(model prog w).w.params.followText "set-order"=false:=hb
   obtain⟨h1,h2,h3⟩:=hl hb
   simp only[hb',dH,if_false]
   refine wpAny_ite_split (λz =>?_) (λ_ =>?_)
   ·have z':(!t.plain&&decide (es.size > 1))=true:=z
    rw[aB]at z'
    rcases h2 with h2 |h2
    ·rw[h2]at z';exact absurd z'.1 (by decide)
    ·have:=of_decide_eq_true z'.2;omega
   ·refine af ?_;show az _ _ (if (!t.led && !es.isEmpty)=true then unsupported "set:maker-not-led" else pure ()) _ _ s;rw [h1,if_neg (by simp)];refine aj ?_;(try dsimp only);rw [h3]
    have ho':(rQ w a ep es)[i]? = es[i]? := by unfold rQ;rw[if_neg (by rw[hb];decide),fI]
    rw[ho']at hq
    by_cases hi:i<es.size
    ·have hi2:i<t.place.size:=by omega
     rw[eA hi,eA hi2]
     have:=hq (t.place[i]+1) (λ_ _=>rfl)
     rw[eA hi]at this
     exact aj this
    ·rw[BJ (by omega)]
     have:=hq 0 (λ_ h=>by omega)
     rw[BJ (by omega)]at this
     exact aj this
theorem yo{slot i:Nat}{v:Value}{Q:Option Value->Shared->Prop}(hI:s.heap.get? I=some (p8 (rawInt slot) i a es.size ep))(ho:s.heap.get? a=some (ll es ep t))(hf:t.fits es.size=true)(hr:oM t.place)
  (hl:w.params.followText "set-order"=false->t.led=true/\(t.plain=true\/es.size<=1)/\aY t.place slot=i) (hv:((rQ w a ep es)[i]?).map (·.2)=some v)
  (hQ : ∀ (h':Heap) (slot':Nat),h'.get? I=some (p8 (rawInt slot') (i+1) a es.size ep)->(w.params.followText "set-order"=false->aY t.place slot'=i+1)->cf I s.heap h'->Q (some v) { s with heap:=h' }):az (model prog w) A (pyNext (.ref I)) Q E s:=by
 have hT:s.TypeIs (.ref I) "set_iterator":=⟨_,hI,rfl⟩
 have hz:t.place.size=es.size:=by simp only[SetTable.fits,aB,beq_iff_eq]at hf;exact hf.1
 unfold pyNext;refine af (eX (bA (name:=dc "__next__") hT GS.slot_si (bx GS.slot_si hT GS.entry_si ?_ (GS.args_si _))));unfold Builtin.«set_iterator.__next__»;refine af (cP (a:=(aU I,[])) rfl ?_);(try dsimp only);refine af (so hI rfl ?_)
 show az _ _ (setEntries a >>= _) _ _ s;refine af (hU ho rfl hf ?_);rw[if_neg (by simp)];show az _ _ (setNext a ((slot:Int)).toNat ((i:Int)).toNat ((ep:Int)).toNat >>= _) _ _ s;rw[bL,bL,bL]
 refine af (zQ ho hf hr hl λj hj =>?_)
 obtain⟨e,he,rfl⟩:=fe.mp hv
 rw[he]
 have hi:i<es.size:=by have:=(ak.mp he).1;rw[(mU (w:=w) (a:=a) (ep:=ep) (es:=es)).length_eq]at this;simpa using this
 show az _ _ (setField (.ref I) 0 (rawInt j) >>= _) _ _ s;refine af (cn hI (by simp) λh1 g1 s1 =>?_);refine af (cn g1 (by simp) λh2 g2 s2 =>?_)
 refine aj ⟨_,rfl,aj (hQ h2 j ?_ (λhb =>?_) (s1.trans s2))⟩
 ·exact g2
 ·rw[hj hb (by omega)];exact y7 hr _
theorem AS{slot:Nat}{Q:Option Value->Shared->Prop}(hh:A.handled=none)(hI:s.heap.get? I=some (p8 (rawInt slot) es.size a es.size ep))(ho:s.heap.get? a=some (ll es ep t))(hf:t.fits es.size=true)(hr:oM t.place)
  (hl:w.params.followText "set-order"=false->t.led=true/\(t.plain=true\/es.size<=1)/\aY t.place slot=es.size) (hQ : ∀ h',oX I s.heap h'->Q none { s with heap:=h' }):az (model prog w) A (pyNext (.ref I)) Q E s:=by
 have hT:s.TypeIs (.ref I) "set_iterator":=⟨_,hI,rfl⟩
 unfold pyNext;refine af (eX (bA (name:=dc "__next__") hT GS.slot_si (bx GS.slot_si hT GS.entry_si ?_ (GS.args_si _))));unfold Builtin.«set_iterator.__next__»;refine af (cP (a:=(aU I,[])) rfl ?_);(try dsimp only);refine af (so hI rfl ?_)
 show az _ _ (setEntries a >>= _) _ _ s;refine af (hU ho rfl hf ?_);rw[if_neg (by simp)];show az _ _ (setNext a ((slot:Int)).toNat ((es.size:Int)).toNat ((ep:Int)).toNat >>= _) _ _ s;rw[bL,bL,bL]
 refine af (zQ ho hf hr hl λj hj =>?_)
 rw[fL (by rw[(mU (w:=w) (a:=a) (ep:=ep) (es:=es)).length_eq];simp)]
 show az _ _ (setField (.ref I) 2 .none >>= _) _ _ s;refine af (cn hI (by simp) λh1 g1 s1 =>?_)
 show az _ _ (newExc (.type "StopIteration") [] >>= _) _ _ _;refine af ?_;simp only [newExc,newTuple];refine af (bf ?_ (by size_fits));refine af (m:=firstArgMember _ _) (cP (a:=da) (by first | rfl | (simp only [firstArgMember];rfl)) ?_);refine bf ?_ (by size_fits);simp only [raiseNew];refine af (uF ?_)
 first |rw[show A.in1.handled=none from hh] |rw[hh]
 refine af (aj (Aw ?_));refine af (fC (T:="StopIteration") (b:=true) ⟨_,ay _ rfl,rfl⟩ isSubtype_stop ?_);exact aj (hQ _ ((s1.extBut.push _).push _))
noncomputable def tupI (idx:List Nat):Obj:={ cls := .type "tuple",data := .seq (idx.map fun (k:Nat)=>rawInt k).toArray }
theorem zf{F:Addr}{idx:List Nat}{i k:Nat}{e:Int×Value}{Q:Option Value->Shared->Prop}(hI:s.heap.get? I=some (p8 (.ref F) i a es.size ep))(ho:s.heap.get? a=some (ll es ep t))(hF:s.heap.get? F=some (tupI idx))(hf:t.fits es.size=true)(hk:idx[i]? = some k)(he:es[k]? = some e)
  (hQ: ∀h',h'.get? I=some (p8 (.ref F) (i+1) a es.size ep)->cf I s.heap h'->Q (some e.2) { s with heap:=h' }):az (model prog w) A (pyNext (.ref I)) Q E s:=by
 have hT:s.TypeIs (.ref I) "set_iterator":=⟨_,hI,rfl⟩
 unfold pyNext;refine af (eX (bA (name:=dc "__next__") hT GS.slot_si (bx GS.slot_si hT GS.entry_si ?_ (GS.args_si _))));unfold Builtin.«set_iterator.__next__»;refine af (cP (a:=(aU I,[])) rfl ?_);(try dsimp only);refine af (so hI rfl ?_)
 show az _ _ (setEntries a >>= _) _ _ s;refine af (hU ho rfl hf ?_);rw[if_neg (by simp)];show az _ _ (seqItems? (.ref F) >>= _) _ _ s;refine af (sk hF rfl ?_);(try dsimp only);rw[bL]
 have h1:((idx.map λ(k:Nat)=>rawInt k).toArray)[i]? = some (rawInt k):=by simp[hk]
 rw[h1];show az _ _ (setNextDrawn a ((k:Int)).toNat ((ep:Int)).toNat >>= _) _ _ s;rw[bL,bL];unfold setNextDrawn
 refine af (af (jl ho rfl hf ?_));dsimp only;rw[if_neg (by simp),he];refine aj ?_
 refine af (cn hI (by simp) λh2 g2 s2 =>?_)
 exact aj ⟨_,rfl,aj (hQ h2 g2 s2)⟩
theorem AU{F:Addr}{idx:List Nat}{Q:Option Value->Shared->Prop}(hh:A.handled=none)(hI:s.heap.get? I=some (p8 (.ref F) idx.length a es.size ep))(ho:s.heap.get? a=some (ll es ep t))(hF:s.heap.get? F=some (tupI idx))(hf:t.fits es.size=true)
  (hQ: ∀h',oX I s.heap h'->Q none { s with heap:=h' }):az (model prog w) A (pyNext (.ref I)) Q E s:=by
 have hT:s.TypeIs (.ref I) "set_iterator":=⟨_,hI,rfl⟩
 unfold pyNext;refine af (eX (bA (name:=dc "__next__") hT GS.slot_si (bx GS.slot_si hT GS.entry_si ?_ (GS.args_si _))));unfold Builtin.«set_iterator.__next__»;refine af (cP (a:=(aU I,[])) rfl ?_);(try dsimp only);refine af (so hI rfl ?_)
 show az _ _ (setEntries a >>= _) _ _ s;refine af (hU ho rfl hf ?_);rw[if_neg (by simp)];show az _ _ (seqItems? (.ref F) >>= _) _ _ s;refine af (sk hF rfl ?_);(try dsimp only);rw[bL]
 have h1:((idx.map λ(k:Nat)=>rawInt k).toArray)[idx.length]? = none:=by simp
 rw[h1];show az _ _ (setField (.ref I) 0 (rawInt 0) >>= _) _ _ s;refine af (cn hI (by simp) λh2 g2 s2 =>?_);refine af (cn g2 (by simp) λh3 g3 s3 =>?_)
 show az _ _ (newExc (.type "StopIteration") [] >>= _) _ _ _;refine af ?_;simp only [newExc,newTuple];refine af (bf ?_ (by size_fits));refine af (m:=firstArgMember _ _) (cP (a:=da) (by first | rfl | (simp only [firstArgMember];rfl)) ?_);refine bf ?_ (by size_fits);simp only [raiseNew];refine af (uF ?_)
 first |rw[show A.in1.handled=none from hh] |rw[hh]
 refine af (aj (Aw ?_));refine af (fC (T:="StopIteration") (b:=true) ⟨_,ay _ rfl,rfl⟩ isSubtype_stop ?_);exact aj (hQ _ (((s2.extBut.trans s3.extBut).push _).push _))
end
end _L
end
section
namespace _L
open PySem PyProof.Rows
section
variable {prog:Program}{w:World}{A:Around}{E:Value->Shared->Prop}{s:Shared}{I a:Addr}{es:Array (Int×Value)}{ep:Nat}{t:SetTable}
theorem Mm (hh:A.handled=none) (hne:a≠I) (hf:t.fits es.size=true) (hr:oM t.place) (hl:w.params.followText "set-order"=false->t.led=true/\(t.plain=true\/es.size<=1)) :
  Walks prog w A I [I,a] [I] es.size (fun i v=>((rQ w a ep es).map (·.2))[i]? = some v) (fun i h => ∃ slot:Nat,h.get? I=some (p8 (rawInt slot) i a es.size ep)/\h.get? a=some (ll es ep t)/\(w.params.followText "set-order"=false->aY t.place slot=i)) where
 sub:=λb hb=>by simp at hb;simp[hb]
 frame:=λ_ _ _ ⟨slot,g1,g2,g3⟩ hk=>⟨slot,hk I (by simp) _ g1,hk a (by simp) _ g2,g3⟩
 item:=λi s Q E hi ⟨slot,g1,g2,g3⟩ hQ=>by
  have hl2:i<(rQ w a ep es).length:=by rw[mU.length_eq];simpa using hi
  refine yo (v:=(rQ w a ep es)[i].2) g1 g2 hf hr (λhb=>⟨(hl hb).1,(hl hb).2,g3 hb⟩) (by rw[aX hl2];rfl) λh' slot' q1 q2 q3 =>?_
  exact hQ _ h' s.toks (by rw[dP,aX hl2];rfl) ⟨slot',q1,(q3.2 a hne).trans g2,q2⟩ λb o hb e=>(q3.2 b (λz=>hb (by simp[z]))).trans e
 done:=λs Q E ⟨slot,g1,g2,g3⟩ hQ=>AS hh g1 g2 hf hr (λhb=>⟨(hl hb).1,(hl hb).2,g3 hb⟩) λh' he'=>hQ h' s.toks λb o hb e=>he' b o (λz=>hb (by simp[z])) e
 self:=λ_ _ _ _ ⟨_,g1,_,_⟩ hQ=>xa g1 hQ
theorem vH: ∀(l:List Nat),(∀k∈l,k<es.size)->(l.filterMap λk=>(es[k]?).map (·.2))=l.map λk=>(es[k]?.getD default).2
 | [],_=>rfl
 | k::l,h=>by
   have hk:=h k (by simp)
   rw[List.filterMap_cons_some (b:=(es[k]?.getD default).2) (by simp[hk]),bM,vH l λj hj=>h j (aC _ hj)]
theorem Ed{idx:List Nat}{n:Nat}(hp:idx.Perm (aE n)):idx.length=n:=by have:=hp.length_eq;simpa using this
theorem Li{F:Addr}{idx:List Nat}(hh:A.handled=none)(hne:a≠I)(hnF:F≠I)(hf:t.fits es.size=true)(hp:idx.Perm (aE es.size)):
  Walks prog w A I [I,a,F] [I] es.size (λi v=>(idx.filterMap λk=>(es[k]?).map (·.2))[i]? = some v) (λi h=>h.get? I=some (p8 (.ref F) i a es.size ep)/\h.get? a=some (ll es ep t)/\h.get? F=some (tupI idx)) where
 sub:=λb hb=>by simp at hb;simp[hb]
 frame:=λ_ _ _ st hk=>⟨hk I (by simp) _ st.1,hk a (by simp) _ st.2.1,hk F (by simp) _ st.2.2⟩
 item:=λi s Q E hi st hQ=>by
  have hl:idx.length=es.size:=by have:=hp.length_eq;simpa using this
  have hi2:i<idx.length:=by omega
  have hk:idx[i]<es.size:=aI.mp (hp.mem_iff.mp (eW hi2))
  refine zf (k:=idx[i]) (e:=es[idx[i]]) st.1 st.2.1 st.2.2 hf (aX hi2) (eA hk) λh' q1 q3 =>?_
  refine hQ _ h' s.toks ?_ ⟨q1,(q3.2 a hne).trans st.2.1,(q3.2 F hnF).trans st.2.2⟩ λb o hb e=>(q3.2 b (λz=>hb (by simp[z]))).trans e
  have e:(idx.filterMap λk=>(es[k]?).map (·.2))=idx.map λk=>(es[k]?.getD default).2:=by
   exact vH idx λk hk'=>aI.mp (hp.mem_iff.mp hk')
  rw[e,dP,aX hi2]
  simp[hk]
 done:=λs Q E st hQ=>AU hh ((Ed hp).symm▸st.1) st.2.1 st.2.2 hf λh' he'=>hQ h' s.toks λb o hb e=>he' b o (λz=>hb (by simp[z])) e
 self:=λ_ _ _ _ st hQ=>xa st.1 hQ
theorem DI {ns:List Int}{Q:Value->Shared->Prop} (ho:s.heap.get? a=some (ll es ep t)) (he:uR prog w (!w.params.followText "set-order") ns es t) (hz:es.size<=sizeLine)
  (hQ: ∀(I:Addr) (fp:List Addr) (St:Nat->Heap->Prop) (L:List Value) h' d,(∀A':Around,A'.handled=none->Walks prog w A' I fp [I] es.size (λi v=>L[i]? = some v) St)->St 0 h'->(∀b∈fp,b<h'.objs.size)->L.Perm (es.toList.map (·.2))->(∀b o,s.heap.get? b=some o->h'.get? b=some o)->s.heap.objs.size<=I->(∀b∈fp,b=a\/s.heap.objs.size<=b)->Q (.ref I) { s with heap:=h',drawn:=d }):
  az (model prog w) A (pyIter (.ref a)) Q E s:=by
 have hT:s.TypeIs (.ref a) "set":=⟨_,ho,rfl⟩
 have la: @Ek Nat _ a s.heap.objs.size:=aD ho
 refine xQ hT Az (bx Az hT GS.entry_seti ?_ (PySem.F.args_set_iter_1 _));unfold Builtin.«frozenset.__iter__»;refine af (cP (a:=a) rfl ?_);unfold Builtin.Frozenset.sizeOf;refine af (af (hU ho rfl he.fit (aj ?_)))
 unfold setDrawn;refine af (af (jl ho rfl he.fit ?_));dsimp only;unfold setsByText;refine af (af (jP (aj (aj ?_))))
 have fin: ∀(first:Value) (h1:Heap) d (fp:List Addr) (St:Nat->Heap->Prop) (L:List Value),(∀b o,s.heap.get? b=some o->h1.get? b=some o) -> @LE.le Nat _ s.heap.objs.size h1.objs.size->(∀A':Around,A'.handled=none->Walks prog w A' h1.objs.size fp [h1.objs.size] es.size (λi v=>L[i]? = some v) St)->St 0 (h1.push (p8 first 0 a es.size ep)) ->
   (∀ b∈fp,b=h1.objs.size\/(@Ek Nat _ b h1.objs.size/\(b=a \/ @LE.le Nat _ s.heap.objs.size b)))->L.Perm (es.toList.map (·.2))->az (model prog w) A.in1 (setEpoch a >>= fun e=>newFields "set_iterator" [first,rawInt 0,.ref a,rawInt es.size,rawInt e] >>= fun v=>ret v) (fun f s' => ∃ v,f = .done (.ret v) /\ ∃ T' r,s'.TypeIs v T'/\typeLookup (.type T') (dc "__next__")=pure (some r)/\Q v s') E { s with heap:=h1,drawn:=d }:=by
  intro first h1 d fp St L hk hle W st hfp hL
  refine af (wpAny_setEpoch_of (s:={ s with heap:=h1,drawn:=d }) (hk _ _ ho) rfl he.fit ?_);unfold newFields;refine af (bf ?_ (by size_fits))
  have sz:(h1.push (p8 first 0 a es.size ep)).objs.size=h1.objs.size+1:=bp ..
  refine aj ⟨_,rfl,"set_iterator",_,⟨_,ay _ rfl,rfl⟩,GS.slot_si.lookup,hQ h1.objs.size fp St L _ d W st (fun b hb => ?_) hL (fun b o e=>ao _ (hk b o e)) hle fun b hb => ?_⟩
  ·show @Ek Nat _ b (h1.push (p8 first 0 a es.size ep)).objs.size
   rw[sz]
   rcases hfp b hb with z |z
   ·rw[z];exact bF _
   ·exact bY z.1
  ·rcases hfp b hb with z |z
   ·rw[z];exact .inr hle
   ·exact z.2
 have ne:a≠s.heap.objs.size:=aL la
 refine wpAny_ite_split (λz =>?_) (λz =>?_)
 ·have z':(!w.params.followText "set-order"&&(!t.plain&&decide (es.size > 1)))=true:=z
  refine af (wR _ _ _ (by simp) λidx d hp =>?_)
  have hl:idx.length=es.size:=by have:=hp.length_eq;simpa using this
  refine af (wpAny_newTuple ?_ (by rw[aA,hl];exact hz))
  have sz:(s.heap.push (tupI idx)).objs.size=s.heap.objs.size+1:=bp ..
  have n1:a≠(s.heap.push (tupI idx)).objs.size:=aL (by rw[sz];exact bY la)
  have n2:s.heap.objs.size≠(s.heap.push (tupI idx)).objs.size:=aL (by rw[sz];exact bF _)
  refine fin (.ref s.heap.objs.size) (s.heap.push (tupI idx)) d [(s.heap.push (tupI idx)).objs.size,a,s.heap.objs.size] _ (idx.filterMap λk=>(es[k]?).map (·.2)) (λb o e=>ao _ e) (by rw[sz];exact dh _) (λA' hh=>Li (ep:=ep) (t:=t) hh n1 n2 he.fit hp) ⟨ay _ rfl,ao _ (ao _ ho),ao _ (ay _ rfl)⟩ (λb hb =>?_) ?_
  ·rcases aO.mp hb with q |hb
   ·exact .inl q
   ·rcases aO.mp hb with q |hb
    ·exact .inr ⟨by rw[q,sz];exact bY la,.inl q⟩
    ·have q:=aQ.mp hb
     exact .inr ⟨by rw[q,sz];exact bF _,.inr (by rw[q];exact aq _)⟩
  ·rw[vH idx λk hk=>aI.mp (hp.mem_iff.mp hk)]
   refine(hp.map _).trans ?_
   rw[<- vH (aE es.size) λk hk=>aI.mp hk,<- List.map_filterMap,filterMap_getElem?_range]
 ·have z' : ¬ (!w.params.followText "set-order"&&(!t.plain&&decide (es.size > 1)))=true:=z
  refine af (aj ?_)
  refine fin (rawInt (0:Nat)) s.heap s.drawn [s.heap.objs.size,a] _ ((rQ w a ep es).map (·.2)) (λb o e=>e) (aq _) (λA' hh=>Mm (ep:=ep) hh ne he.fit he.tab.r λhb =>?_) ⟨0,ay _ rfl,ao _ ho,λ_=>yC he.tab.r⟩ (λb hb =>?_) (mU.map _)
  ·refine⟨by rw[he.tab.l,hb];rfl,?_⟩
   rw[hb]at z'
   by_cases p:t.plain=true
   ·exact .inl p
   ·right
    rw[Bool.not_eq_true]at p
    rw[p]at z'
    simpa using z'
  ·rcases aO.mp hb with q |hb
   ·exact .inl q
   ·have q:=aQ.mp hb
    exact .inr ⟨by rw[q];exact la,.inl q⟩
end
end _L
end
section
namespace _L
open PySem PySem.Spec PyProof.Rows
section
variable {κ:Type} [DecidableEq κ]
noncomputable def mD(kvs:List (κ×V))(k:κ):Option V:=(kvs.find? λkv=>decide (kv.1=k)).map (·.2)
noncomputable def putK(kvs:List (κ×V))(k:κ)(v:V):List (κ×V):=
 if (kvs.any λkv=>decide (kv.1=k))=true then kvs.map (λkv=>if kv.1=k then(kv.1,v) else kv) else kvs++[(k,v)]
theorem lC{p:κ×V}{r:List (κ×V)}{k:κ}(e:p.1=k):mD (p::r) k=some p.2:=by simp[mD,cm,e]
theorem lD{p:κ×V}{r:List (κ×V)}{k:κ}(e: ¬p.1=k):mD (p::r) k=mD r k:=by simp[mD,cm,e]
theorem wC(k:κ): ∀kvs:List (κ×V),(kvs.any λkv=>decide (kv.1=k))=(mD kvs k).isSome
 | []=>rfl
 | p::r=>by
   rw[gM]
   by_cases e:p.1=k
   ·simp only[lC e,decide_eq_true e,Bool.true_or,Es]
   ·rw[lD e,decide_eq_false e,Bool.false_or];exact wC k r
theorem mz(kvs:List (κ×V))(k:κ)(v:V):(putK kvs k v).length<=kvs.length+1:=by
 unfold putK
 split
 ·rw[aA];exact dh _
 ·rw[bj,cu,eJ];exact aq _
theorem sh.isSome_eq{o:Option V}{u:Option Value}(r:sh o u):o.isSome=u.isSome:=by
 cases o with
 | none=>cases u with
   | none=>rfl
   | some _=>exact(show False from r).elim
 | some _=>cases u with
   | none=>exact(show False from r).elim
   | some _=>rfl
theorem KV.val{kvs:List (κ×V)}{vs:List (κ×Value)}(r:KV kvs vs)(k:κ):sh (mD kvs k) (valueAt vs k):=by
 unfold KV at r
 induction r with
 | nil=>exact fh
 | @cons p q ps qs h t ih=>
   obtain⟨h1,h2⟩:=h
   by_cases e:p.1=k
   ·have e':q.1=k:=h1.symm.trans e
    have b:valueAt (q::qs) k=some q.2:=by simp[valueAt,cm,e']
    rw[lC e,b];exact h2
   ·have e': ¬q.1=k:=λz=>e (h1.trans z)
    have b:valueAt (q::qs) k=valueAt qs k:=by simp[valueAt,cm,e']
    rw[lD e,b];exact ih
theorem KV.any{kvs:List (κ×V)}{vs:List (κ×Value)}(r:KV kvs vs)(k:κ):(kvs.any λkv=>decide (kv.1=k))=vs.any λkv=>decide (kv.1=k):=by
 unfold KV at r
 induction r with
 | nil=>rfl
 | cons h t ih=>rw[gM,gM,ih,h.1]
theorem KV.repl{kvs:List (κ×V)}{vs:List (κ×Value)}(r:KV kvs vs)(k:κ){y:V}{u:Value}(ry:RelV y u):
  KV (kvs.map λkv=>if kv.1=k then(kv.1,y) else kv) (vs.map λkv=>if kv.1=k then(kv.1,u) else kv):=by
 unfold KV at r ⊢
 induction r with
 | nil=>exact .nil
 | @cons p q ps qs h t ih=>
   rw[bM,bM]
   refine .cons ?_ ih
   obtain⟨h1,h2⟩:=h
   by_cases e:p.1=k
   ·rw[if_pos e,if_pos (h1.symm.trans e)];exact⟨h1,ry⟩
   ·rw[if_neg e,if_neg (λz=>e (h1.trans z))];exact⟨h1,h2⟩
theorem KV.put{kvs:List (κ×V)}{vs:List (κ×Value)}(r:KV kvs vs)(k:κ){y:V}{u:Value}(ry:RelV y u):KV (putK kvs k y) (stored vs k u):=by
 unfold putK stored
 rw[r.any k]
 by_cases e:(vs.any λkv=>decide (kv.1=k))=true
 ·rw[if_pos e,if_pos e];exact r.repl k ry
 ·rw[if_neg e,if_neg e];exact Paired.snoc r ⟨rfl,ry⟩
theorem KV.length{kvs:List (κ×V)}{vs:List (κ×Value)}(r:KV kvs vs):kvs.length=vs.length:=xY r
end
theorem uy{P:Program}{w:World}{k:Key}{u:Value}(r:RelV (kV k) u):(dF P w).is k u=true:=by
 cases k with
 | inl i=>obtain⟨t,e⟩:=(show ∃t,u=mF i t from r);subst e;exact wu P w i t
 | inr x=>obtain⟨t,e⟩:=(show ∃t,u=tI x t from r);subst e;exact xm P w x t
theorem uj{P:Program}{w:World}: ∀{ks:List Key}{us:List Value},b8 (ks.map kV) us->ItemsAre (dF P w) ks us
 | [],_,r=>by rw[sv]at r;cases r;exact .nil
 | k::ks,_,r=>by
   rw[bM]at r
   cases r with
   | cons h t=>exact .cons (uy h) (uj t)
abbrev KT(H:Hp):List (List Key×V)->List (List Key×Addr×Value)->Prop:=Paired λp q=>p.1=q.1/\H q.2.1=some (.tup (p.1.map kV))/\RelV p.2 q.2.2
theorem KT.val{H:Hp}{kvs:List (List Key×V)}{xs:List (List Key×Addr×Value)}(r:KT H kvs xs)(k:List Key):sh (mD kvs k) ((atKey xs k).map (·.2)):=by
 induction r with
 | nil=>exact fh
 | @cons p q ps qs h t ih=>
   obtain⟨h1,_,h2⟩:=h
   by_cases e:p.1=k
   ·have e':q.1=k:=h1.symm.trans e
    have b:atKey (q::qs) k=some q.2:=by simp[atKey,cm,e']
    rw[lC e,b];exact h2
   ·have e': ¬q.1=k:=λz=>e (h1.trans z)
    have b:atKey (q::qs) k=atKey qs k:=by simp[atKey,cm,e']
    rw[lD e,b];exact ih
theorem KT.repl{H:Hp}{kvs:List (List Key×V)}{xs:List (List Key×Addr×Value)}(r:KT H kvs xs)(k:List Key){y:V}{u:Value}(ry:RelV y u):
  KT H (kvs.map λkv=>if kv.1=k then(kv.1,y) else kv) (xs.map (putAt k u)):=by
 induction r with
 | nil=>exact .nil
 | @cons p q ps qs h t ih=>
   rw[bM,bM]
   refine .cons ?_ ih
   obtain⟨h1,h2,h3⟩:=h
   unfold putAt
   by_cases e:p.1=k
   ·rw[if_pos e,if_pos (h1.symm.trans e)];exact⟨h1,h2,ry⟩
   ·rw[if_neg e,if_neg (λz=>e (h1.trans z))];exact⟨h1,h2,h3⟩
theorem KT.put{H:Hp}{kvs:List (List Key×V)}{xs:List (List Key×Addr×Value)}(r:KT H kvs xs)(k:List Key){b:Addr}{y:V}{u:Value}(hb:H b=some (.tup (k.map kV)))(ry:RelV y u):
  KT H (putK kvs k y) (storedH xs k b u):=by
 have e:(kvs.any λkv=>decide (kv.1=k))=(atKey xs k).isSome:=by
  rw[wC,(r.val k).isSome_eq,kJ]
 unfold putK storedH
 rw[e]
 by_cases q:(atKey xs k).isSome=true
 ·rw[if_pos q,if_pos q];exact r.repl k ry
 ·rw[if_neg q,if_neg q];exact Paired.snoc r ⟨rfl,hb,ry⟩
theorem KT.keeps{H H':Hp}{kvs:List (List Key×V)}{xs:List (List Key×Addr×Value)}(r:KT H kvs xs)(ht: ∀b ys,H b=some (.tup ys)->H' b=some (.tup ys)):KT H' kvs xs:=
 Paired.mapP r λ_ _ z=>⟨z.1,ht _ _ z.2.1,z.2.2⟩
section
variable {P:Program}{w:World}{H:Hp}{h:Heap}{a:Addr}
theorem Hl{u:HO}(ok:HOk P w H h)(e:Rd H a u):dY P w H h a u:=e.ok ok
theorem t8{kvs:List (Key×V)}(ok:HOk P w H h)(e:Rd H a (.dK kvs)):kvs.length<=sizeLine/\(a==sysModules)=false /\ ∃vs,KV kvs vs/\h.DictOf (dF P w) a vs:=
 show dY P w H h a (.dK kvs) from Hl ok e
theorem Hc{kvs:List (Key×V)}(ok:HOk P w H h)(e:H a=some (.dK kvs)):kvs.length<=sizeLine/\(a==sysModules)=false /\ ∃vs,KV kvs vs/\h.DictOf (dF P w) a vs:=t8 ok (.inl e)
theorem rJ{ks:List Key}(ok:HOk P w H h)(e:H a=some (.tup (ks.map kV))):(tupleKind (dF P w)).is h ks a:=by
 obtain⟨_,its,r,⟨o,h1,h2,n,h3⟩,_⟩:=(show dY P w H h a (.tup (ks.map kV)) from ok a _ e)
 exact⟨o,its.toArray,n,h1,h2,h3,by simpa using uj r⟩
theorem xF{kvs:List (List Key×V)}(ok:HOk P w H h)(e:Rd H a (.dT kvs)):kvs.length<=sizeLine/\(a==sysModules)=false /\
  ∃xs,KT H kvs xs/\h.DictOfH (tupleKind (dF P w)) a xs:=by
 obtain⟨z,y,xs,r,o,es,ep,h1,h2,h3,h4,h5⟩:=(show dY P w H h a (.dT kvs) from Hl ok e)
 refine⟨z,y,xs,r,o,es,ep,h1,h2,h3,h4,λx hx =>?_,h5⟩
 have all: ∀{l:List (List Key×V)}{m:List (List Key×Addr×Value)},KT H l m -> ∀x∈m,(tupleKind (dF P w)).is h x.1 x.2.1:=by
  intro l m q
  induction q with
  | nil=>intro x hx;exact nomatch hx
  | @cons p q ps qs hq t ih=>
    intro x hx
    rcases aO.mp hx with e |hx
    ·subst e
     exact rJ ok (by rw[<- hq.1];exact hq.2.1)
    ·exact ih x hx
 exact all r x hx
theorem M7{kvs:List (List Key×V)}(ok:HOk P w H h)(e:H a=some (.dT kvs)):kvs.length<=sizeLine/\(a==sysModules)=false /\
  ∃xs,KT H kvs xs/\h.DictOfH (tupleKind (dF P w)) a xs:=xF ok (.inl e)
end
noncomputable def sU(H:Hp)(a:Addr)(y:V)(r:Option V):Prop:=
 (∃kvs k,Rd H a (.dK kvs)/\y=kV k/\r=mD kvs k) \/ ∃kvs k b,Rd H a (.dT kvs)/\y = .ref b/\H b=some (.tup (k.map kV))/\r=mD kvs k
noncomputable def AM(H:Hp)(a:Addr)(y v:V)(H':Hp):Prop:=
 (∃kvs k,H a=some (.dK kvs)/\y=kV k/\kvs.length<sizeLine/\H'=upd H a (.dK (putK kvs k v))) \/
 ∃kvs k b,H a=some (.dT kvs)/\y = .ref b/\H b=some (.tup (k.map kV))/\kvs.length<sizeLine/\H'=upd H a (.dT (putK kvs k v))
theorem sU.k{H:Hp}{a:Addr}{kvs:List (Key×V)}{k:Key}(e:H a=some (.dK kvs)):sU H a (kV k) (mD kvs k):= .inl ⟨kvs,k,.inl e,rfl,rfl⟩
theorem sU.t{H:Hp}{a b:Addr}{kvs:List (List Key×V)}{k:List Key}(e:H a=some (.dT kvs))(eb:H b=some (.tup (k.map kV))):sU H a (.ref b) (mD kvs k):= .inr ⟨kvs,k,b,.inl e,rfl,eb,rfl⟩
theorem AM.k{H:Hp}{a:Addr}{kvs:List (Key×V)}{k:Key}{v:V}(e:H a=some (.dK kvs))(hl:kvs.length<sizeLine):AM H a (kV k) v (upd H a (.dK (putK kvs k v))):= .inl ⟨kvs,k,e,rfl,hl,rfl⟩
theorem AM.t{H:Hp}{a b:Addr}{kvs:List (List Key×V)}{k:List Key}{v:V}(e:H a=some (.dT kvs))(eb:H b=some (.tup (k.map kV)))(hl:kvs.length<sizeLine):
  AM H a (.ref b) v (upd H a (.dT (putK kvs k v))):= .inr ⟨kvs,k,b,e,rfl,eb,hl,rfl⟩
section
variable {X:Cx}{pins:List (Addr×Obj)}{σ:St}{H:Hp}{s:Shared}{a:Addr}{y v:V}{u r:Value}{o:Option V}{A:Around}{E:Value->Shared->Prop}
theorem Inv.big(I:Inv X pins σ H s):sysModules<s.heap.objs.size:=by
 have h:mainGlobals<s.heap.objs.size:=(I.mod.glob.keeps I.bk).lt
 exact ck (by decide) h
theorem BC{Q:Value->Shared->Prop}(hu:A.units+1<cLine)(I:Inv X pins σ H s)(g:sU H a y (some v))(ry:RelV y u)(h: ∀w' s',Inv X pins σ H s'->RelV v w'->Q w' s'):
  az (model X.prog X.w) A (getItem (.ref a) u) Q E s:=by
 rcases g with⟨kvs,k,e,ey,l⟩ | ⟨kvs,k,b,e,ey,eb,l⟩
 ·subst ey
  obtain⟨z,hd,vs,rel,dd⟩:=t8 I.hok e
  obtain⟨w',hw,rw'⟩:=sh.some_of (v:=v) (o:=valueAt vs k) (by rw[l];exact rel.val k)
  exact wpAny_getItem_of (uy ry) dd.mapOf hw (h w' _ (I.tok _) rw')
 ·subst ey
  cases (show u=aU b from ry)
  obtain⟨z,hd,xs,rel,dd⟩:=xF I.hok e
  obtain⟨w',hw,rw'⟩:=sh.some_of (v:=v) (o:=(atKey xs k).map (·.2)) (by rw[l];exact rel.val k)
  obtain⟨p,hp,hp2⟩:=fe.mp hw
  refine wpAny_getItem_heap (tupleKind_room_in1 hu) (rJ I.hok eb) dd hp ?_
  rw[hp2]
  exact h w' _ (I.tok _) rw'
theorem NZ{Q:Value->Shared->Prop}(hu:A.units+1<cLine)(I:Inv X pins σ H s)(g:sU H a y o)(ry:RelV y u)(h: ∀s',Inv X pins σ H s'->Q (.bool o.isSome) s'):
  az (model X.prog X.w) A (compareOp .In u (.ref a)) Q E s:=by
 rcases g with⟨kvs,k,e,ey,l⟩ | ⟨kvs,k,b,e,ey,eb,l⟩
 ·subst ey
  obtain⟨z,hd,vs,rel,dd⟩:=t8 I.hok e
  refine wpAny_in_of (uy ry) hd dd.mapOf ?_
  rw[<- (rel.val k).isSome_eq,<- l]
  exact h _ (I.tok _)
 ·subst ey
  cases (show u=aU b from ry)
  obtain⟨z,hd,xs,rel,dd⟩:=xF I.hok e
  refine wpAny_in_heap (tupleKind_room_in1 hu) (rJ I.hok eb) hd dd ?_
  have q:=(rel.val k).isSome_eq
  rw[kJ]at q
  rw[<- q,<- l]
  exact h _ (I.tok _)
theorem Fe{Q:Value->Shared->Prop}(hu:A.units+1<cLine)(I:Inv X pins σ H s)(g:sU H a y o)(ry:RelV y u)(h: ∀s',Inv X pins σ H s'->Q (.bool (!o.isSome)) s'):
  az (model X.prog X.w) A (compareOp .NotIn u (.ref a)) Q E s:=by
 rcases g with⟨kvs,k,e,ey,l⟩ | ⟨kvs,k,b,e,ey,eb,l⟩
 ·subst ey
  obtain⟨z,hd,vs,rel,dd⟩:=t8 I.hok e
  refine wpAny_notIn_of (uy ry) hd dd.mapOf ?_
  rw[<- (rel.val k).isSome_eq,<- l]
  exact h _ (I.tok _)
 ·subst ey
  cases (show u=aU b from ry)
  obtain⟨z,hd,xs,rel,dd⟩:=xF I.hok e
  refine wpAny_notIn_heap (tupleKind_room_in1 hu) (rJ I.hok eb) hd dd ?_
  have q:=(rel.val k).isSome_eq
  rw[kJ]at q
  rw[<- q,<- l]
  exact h _ (I.tok _)
theorem vh{h':Heap}{t':Nat}{ob:HO}(I:Inv X pins σ H s)(mu:Mut (H a))(hs:cf a s.heap h')(he: ∃q,h'.get? a=some q)(new:dY X.prog X.w (upd H a ob) h' a ob):
  Inv X pins σ (upd H a ob) { s with heap:=h',toks:=t' }:=
 I.write (x:=a) (e:=a) mu (.inl rfl) (λb q hb z=>(hs.2 b hb).trans z) he new
theorem B5{P:Program}{w:World}{H':Hp}{h':Heap}{kvs:List (Key×V)}{vs:List (Key×Value)}(z:kvs.length<=sizeLine)(hd:(a==sysModules)=false)(rel:KV kvs vs)(dd:h'.DictOf (dF P w) a vs):
  dY P w H' h' a (.dK kvs):=⟨z,hd,vs,rel,dd⟩
theorem Bz{H':Hp}{Q:Unit->Shared->Prop}(hu:A.units+1<cLine)(I:Inv X pins σ H s)(g:AM H a y v H')(ry:RelV y u)(rv:RelV v r)(h: ∀s',Inv X pins σ H' s'->Q () s'):
  az (model X.prog X.w) A (setItem (.ref a) u r) Q E s:=by
 rcases g with⟨kvs,k,e,ey,l,eH⟩ | ⟨kvs,k,b,e,ey,eb,l,eH⟩
 ·subst ey eH
  obtain⟨z,hd,vs,rel,dd⟩:=Hc I.hok e
  have hz:vs.length<=sizeLine:=by rw[<- rel.length];exact z
  have hl:(putK kvs k v).length<=sizeLine:=by have:=mz kvs k v;exact aM (by assumption) (by assumption)
  refine wpAny_setItem_pairs (hsz:=hz) (uy ry) dd λh' dd' hs=>h _ ?_
  have he: ∃q,h'.get? a=some q:=let ⟨q,_,_,hq,_⟩:=dd';⟨q,hq⟩
  exact vh I (by rw[e];exact fh) hs he (B5 hl hd (rel.put k rv) dd')
 ·subst ey eH
  cases (show u=aU b from ry)
  obtain⟨z,hd,xs,rel,dd⟩:=M7 I.hok e
  have hz:xs.length<=sizeLine:=by rw[<- xY rel];exact z
  have hl:(putK kvs k v).length<=sizeLine:=by have:=mz kvs k v;exact aM (by assumption) (by assumption)
  refine wpAny_setItem_heap (hsz:=hz) (tupleKind_room_in1 hu) (rJ I.hok eb) dd λh' dd' hs=>h _ ?_
  obtain⟨q,es,ep,hq,h2,h3,h4,_,h5⟩:=dd'
  refine vh I (by rw[e];exact fh) hs ⟨q,hq⟩ ⟨hl,hd,_,(rel.put k eb rv).keeps λc ys ec =>?_,q,es,ep,hq,h2,h3,h4,h5⟩
  rw[bR (ur ec e (λz=>nomatch z))]
  exact ec
end
section
variable {X:Cx}{pins:List (Addr×Obj)}{σ:St}{H:Hp}{s:Shared}{a:Addr}{kvs:List (Key×V)}{k:Key}{u:Value}{A:Around}{E:Value->Shared->Prop}
theorem Cr {Q:Value->Shared->Prop} (I:Inv X pins σ H s) (e:Rd H a (.dK kvs)) (h : ∀ t s',Inv X pins σ H s'->Q (.int kvs.length t) s'):az (model X.prog X.w) A (call (.builtin "len") [.ref a]) Q E s:=by
 obtain⟨z,hd,vs,rel,dd⟩:=t8 I.hok e
 refine call_len_dict hd dd (by rw[<- rel.length];rw[sizeLine_eq]at z;omega) ?_
 rw[<- rel.length]
 exact h _ _ (I.tok _)
end
theorem w6 {X:Cx}{pins:List (Addr×Obj)}{σ:St}{H:Hp}{s:Shared}{a:Addr}{y:V}{o:Option V} (I:Inv X pins σ H s) (g:sU H a y o):s.TypeIs (.ref a) "dict":=by
 rcases g with⟨kvs,k,e,_,_⟩ | ⟨kvs,k,b,e,_,_,_⟩
 ·obtain⟨_,_,vs,_,dd⟩:=t8 I.hok e
  exact dd.typeIs
 ·obtain⟨_,_,xs,_,dd⟩:=xF I.hok e
  exact dd.typeIs
section
variable {X:Cx}{o i e value:Expr}{pos pos' tpos:Pos}{td ty tv:TE}
end
theorem CY {P:Program}{w:World}{H:Hp} (h:Heap) (hb:sysModules < h.objs.size):dY P w H (h.push { cls := .type "dict",data := .dict #[] }) h.objs.size (.dK []):=
 ⟨cR _,beq_eq_false_iff_ne.mpr (cU (aL hb)),[],.nil,Heap.DictOf.new h⟩
section
variable {X:Cx}{pos:Pos}
end
noncomputable def yV:List (TE×TE)->St->Hp->(List (V×V)->Hp->Prop)->Prop
 | [],_,H,Q=>Q [] H
 | (tk,tv)::r,σ,H,Q=>tk σ H λx H1=>tv σ H1 λy H2=>yV r σ H2 λps H3=>Q ((x,y)::ps) H3
abbrev VV:List (V×V)->List (Value×Value)->Prop:=Paired λp q=>RelV p.1 q.1/\RelV p.2 q.2
noncomputable def PPs(X:Cx)(pos:Pos)(keys:List (Option Expr))(values:List Expr)(trs:List (TE×TE)):Prop:=
 ∀(pins:List (Addr×Obj)) (s:Shared) (σ:St) (H:Hp) (Q:List (V×V)->Hp->Prop),Inv X pins σ H s->yV trs σ H Q ->
  az (model X.prog X.w) X.A (evalPairs (pairTrees keys values X.env pos)) (λvs s' =>∃ps H',Inv X pins σ H' s'/\VV ps vs/\Q ps H') X.xe s
theorem EO{X:Cx}{pos:Pos}:PPs X pos [] [] []:=λpins s σ H Q I h=>pairTrees_nil_walk ⟨[],H,I,.nil,h⟩
theorem CU{X:Cx}{pos:Pos}{k v:Expr}{ks:List (Option Expr)}{vs:List Expr}{tk tv:TE}{trs:List (TE×TE)}(hk:PE X k tk)(hv:PE X v tv)(hr:PPs X pos ks vs trs):
  PPs X pos (some k::ks) (v::vs) ((tk,tv)::trs):=λpins s σ H Q I h=>
 pairTrees_cons_walk (thn (hk pins s σ H _ I h) λu s1 ⟨x,H1,I1,rx,q1⟩=>thn (hv pins s1 σ H1 _ I1 q1) λw2 s2 ⟨y,H2,I2,ry,q2⟩=>
  thn (hr pins s2 σ H2 _ I2 q2) λws s3 ⟨ps,H3,I3,rel,q3⟩=>⟨(x,y)::ps,H3,I3,.cons ⟨rx,ry⟩ rel,q3⟩)
noncomputable def pd(kvs more:List (Key×V)):List (Key×V):=more.foldl (λacc kv=>putK acc kv.1 kv.2) kvs
theorem KV.merge: ∀{more:List (Key×V)}{rs:List (Key×Value)}{kvs:List (Key×V)}{vs:List (Key×Value)},KV more rs->KV kvs vs->KV (pd kvs more) (merged vs rs):=by
 intro more rs kvs vs r
 unfold KV at r
 induction r generalizing kvs vs with
 | nil=>intro q;exact q
 | @cons p q ps qs h t ih=>
   intro r0
   have e:KV (putK kvs p.1 p.2) (stored vs q.1 q.2):=by
    have:=r0.put p.1 h.2
    rw[<- h.1];exact this
   exact ih e
theorem nz: ∀(more kvs:List (Key×V)),(pd kvs more).length<=kvs.length+more.length
 | [],kvs=>by show kvs.length<=kvs.length+0;exact aq _
 | p::r,kvs=>by
   have h1:=nz r (putK kvs p.1 p.2)
   have h2:=mz kvs p.1 p.2
   show(pd (putK kvs p.1 p.2) r).length<=_
   rw[cu];omega
theorem rW{P:Program}{w:World}: ∀{kvs:List (Key×V)}{ws:List (Value×Value)},VV (kvs.map λkv=>(kV kv.1,kv.2)) ws -> ∃rs,Carries (dF P w) ws rs/\KV kvs rs
 | [],_,r=>by rw[sv]at r;cases r;exact⟨[],fh,.nil⟩
 | p::kvs,_,r=>by
   rw[bM]at r
   cases r with
   | @cons a b as bs h t=>
     obtain⟨rs,c,q⟩:=rW (P:=P) (w:=w) t
     obtain⟨b1,b2⟩:=b
     exact⟨(p.1,b2)::rs,⟨uy h.1,rfl,c⟩,.cons ⟨rfl,h.2⟩ q⟩
noncomputable def Hk(trs:List (TE×TE)):TE:=λσ H Q =>∀p,H p=none->yV trs σ (upd H p (.dK [])) λps H2=>H2 p=some (.dK []) /\ ∃kvs:List (Key×V),ps=kvs.map (λkv=>(kV kv.1,kv.2))/\kvs.length<=15/\Q (.ref p) (upd H2 p (.dK (pd [] kvs)))
theorem GH{X:Cx}{pos:Pos}{keys:List (Option Expr)}{values:List Expr}{trs:List (TE×TE)}(h:PPs X pos keys values trs)(hall:keys.all (·.isSome)=true)(hl:keys.length=values.length)(h0:keys≠[])
  (h15:keys.length<=15):PE X (.Dict keys values pos) (Hk trs):=by
 intro pins s σ H Q I q
 have hn:=I.hok.fresh (aq s.heap.objs.size)
 have I1:=I.laid (a:=s.heap.objs.size) (o := .dK []) (h':=s.heap.push { cls := .type "dict",data := .dict #[] }) (t':=s.toks) (fun _ _ q=>ao _ q) (aq _) (CY s.heap I.big)
 refine wpAny_Dict_walk (knd:=dF X.prog X.w) hall hl h0 h15 (thn (h pins _ σ _ _ I1 (q _ hn)) λws s2 ⟨ps,H2,I2,rel,e,kvs,ep,lk,q2⟩ =>?_)
 subst ep
 obtain⟨rs,c,rk⟩:=rW (P:=X.prog) (w:=X.w) rel
 obtain⟨z,hd,vs0,r0,dd⟩:=Hc I2.hok e
 cases r0
 refine⟨rs,c,dd,λh' dd' hs=>⟨.ref s.heap.objs.size,_,?_,rfl,q2⟩⟩
 have hz:(pd [] kvs).length<=sizeLine:=by
  have h1:=nz kvs []
  rw[eJ]at h1
  rw[sizeLine_eq];omega
 have he: ∃q,h'.get? s.heap.objs.size=some q:=let ⟨q,_,_,hq,_⟩:=dd';⟨q,hq⟩
 exact vh I2 (by rw[e];exact fh) hs he (B5 hz hd (rk.merge .nil) dd')
section
variable {X:Cx}{pins:List (Addr×Obj)}{σ:St}{H:Hp}{s:Shared}{a:Addr}{y d:V}{u r:Value}{o:Option V}{A:Around}{E:Value->Shared->Prop}
end
section
variable {X:Cx}{o e f:Expr}{apos cpos:Pos}{td ty tx:TE}
end
section
variable {X:Cx}{pins:List (Addr×Obj)}{σ:St}{H:Hp}{s:Shared}{a:Addr}{kvs:List (Key×V)}{A:Around}{E:Value->Shared->Prop}
end
section
variable {X:Cx}{pins:List (Addr×Obj)}{σ:St}{H:Hp}{s:Shared}{a:Addr}{y:V}{u:Value}{A:Around}{E:Value->Shared->Prop}
end
end _L
namespace _L
open PySem PySem.Spec PyProof.Rows
section
variable {X:Cx}
theorem A9:gR X (.builtin "len") (fun xs H Q => ∃ a kvs,xs = [V.ref a]/\H a=some (.dK kvs)/\Q (.int kvs.length) H):=by
 intro pins s σ H xs us Q I r h
 obtain⟨a,kvs,rfl,ha,q⟩:=h
 obtain⟨u,rfl,ru⟩:=vals1 r
 cases ru
 exact Cr I (.inl ha) λt s' I'=>⟨.int kvs.length,H,I',⟨t,rfl⟩,q⟩
end
section
variable {κ:Type} [DecidableEq κ]
end
end _L
end
section
namespace PySem
open Sem (wp)
noncomputable def jw(env:Env):List (Str×NameKind)->List (Str×Addr)->List (Str×Addr)
 | [],acc=>acc
 | (n,k)::r,acc=>if k==.free then jw env r ((n,(env.cells.lookup n).getD 0)::acc) else jw env r acc
theorem kT{scope:Scope}{env:Env}(h: ∀y∈scope.names,y.2 = .free -> ∃c,env.cells.lookup y.1=some c):closureFor scope env=pure (jw env scope.names []):=by
 simp only[closureFor]
 have go: ∀(names:List (Str×NameKind)) (acc:List (Str×Addr)),(∀y∈names,y.2 = .free -> ∃c,env.cells.lookup y.1=some c) ->
   (forIn (m:=Sem) names acc λx r=>if (x.2==bw)=true then cellOf env x.1 >>= λa=>pure (gw ((x.1,a)::r)) else pure (gw r))=pure (jw env names acc):=by
  intro names
  induction names with
  | nil=>intro acc _;rfl
  | cons y r ih=>
    intro acc hy
    obtain⟨n,k⟩:=y
    rw[List.forIn_cons]
    by_cases hk:k = .free
    ·subst hk
     obtain⟨c,hc⟩:=hy (n,.free) dG rfl
     have e1:cellOf env n=pure c:=by unfold cellOf;rw[hc]
     have e2:jw env ((n,bw)::r) acc=jw env r ((n,c)::acc):=by
      show(if (bw==bw)=true then _ else _)=_
      rw[if_pos (by decide),hc];rfl
     rw[e2,<- ih _ λz hz=>hy z (aC _ hz)]
     simp only[beq_self_eq_true,if_true,e1]
     rfl
    ·have hb:(k==bw)=false:=by simpa using hk
     have e2:jw env ((n,k)::r) acc=jw env r acc:=by
      show(if (k==bw)=true then _ else _)=_
      rw[if_neg (by rw[hb];decide)]
     rw[e2,<- ih _ λz hz=>hy z (aC _ hz)]
     simp only[hb,dH,if_false]
     rfl
 exact(congrArg (λz=>z >>= pure) (go scope.names [] h)).trans rfl
theorem oz{env:Env}: ∀(names:List (Str×NameKind)) (acc:List (Str×Addr)),(∀y∈names,y.2 = .free -> ∃c,env.cells.lookup y.1=some c) -> ∀x c,(jw env names acc).lookup x=some c->env.cells.lookup x=some c\/acc.lookup x=some c
 | [],_,_,_,_,h => .inr h
 | (n,k)::r,acc,hy,x,c,h=>by
   unfold jw at h
   split at h
   ·rename_i hk
    have hk':k = .free:=by simpa using hk
    subst hk'
    obtain⟨d,hd⟩:=hy (n,.free) dG rfl
    rcases oz r _ (λz hz=>hy z (aC _ hz)) x c h with e |e
    ·exact .inl e
    ·rw[aN]at e
     cases hb:x==n with
     | true=>
       rw[hb]at e
       rw[beq_iff_eq.mp hb,hd]
       rw[hd]at e
       exact .inl e
     | false=>rw[hb]at e;exact .inr e
   ·exact oz r acc (λz hz=>hy z (aC _ hz)) x c h
theorem om{env:Env}{x:Str}: ∀(names:List (Str×NameKind)) (acc:List (Str×Addr)),(names.lookup x=some .free\/(acc.lookup x).isSome=true)->((jw env names acc).lookup x).isSome=true
 | [],_,h=>h.elim (λe=>by cases e) id
 | (y,k)::r,acc,h=>by
   unfold jw
   by_cases hk:(k==.free)=true
   ·rw[if_pos hk]
    refine om r ((y,(env.cells.lookup y).getD 0)::acc) ?_
    by_cases hy:(x==y)=true
    ·exact .inr (by rw[aN,hy];rfl)
    ·refine h.imp (λe =>?_) λe =>?_
     ·rw[aN]at e;simpa only [hy]using e
     ·rw[aN];simpa only [hy]using e
   ·rw[if_neg hk]
    refine om r acc ?_
    refine h.imp (λe =>?_) id
    rw[aN]at e
    cases hb:x==y with
    | true=>rw[hb]at e;cases e;exact absurd rfl hk
    | false=>rw[hb]at e;exact e
theorem eU: ∀(names:List (Str×NameKind)) (n:Nat) (acc:List (Str×Addr)),cellsFrom n names acc=cellsFrom n names []++acc
 | [],_,_=>rfl
 | (y,k)::r,n,acc=>by
   unfold cellsFrom
   split
   ·rw[eU r (n+1) ((y,n)::acc),eU r (n+1) [(y,n)],aW];rfl
   ·exact eU r n acc
theorem jM{x:Str}: ∀(names:List (Str×NameKind)) (n:Nat) (acc:List (Str×Addr)) (c:Addr),(cellsFrom n names acc).lookup x=some c->(∃k∈names,k.1=x/\k.2 = .cell)\/acc.lookup x=some c
 | [],_,_,_,h => .inr h
 | (y,k)::r,n,acc,c,h=>by
   unfold cellsFrom at h
   split at h
   ·rename_i hk
    rcases jM r _ _ c h with⟨z,hz,e⟩ |e
    ·exact .inl ⟨z,aC _ hz,e⟩
    ·rw[aN]at e
     cases hb:x==y with
     | true=>exact .inl ⟨(y,k),dG,(beq_iff_eq.mp hb).symm,by simpa using hk⟩
     | false=>rw[hb]at e;exact .inr e
   ·rcases jM r _ _ c h with⟨z,hz,e⟩ |e
    ·exact .inl ⟨z,aC _ hz,e⟩
    ·exact .inr e
section
variable {M:Model}{A:Around}{E:Value->Shared->Prop}{s:Shared}
theorem oo{scope:Scope}{globals:Addr}{cl:List (Str×Addr)}{qual:Str}{env:Env}{Q:Env->Shared->Prop}
  (hQ:Q { scope:=scope,locals:=s.heap.objs.size,globals:=globals,cells:=cellsFrom (s.heap.objs.size+1) scope.names cl,qual:=qual,func:=none,code:=env.code,frame:=env.frame,builtins:=env.builtins }
   { s with heap:=pushCells (s.heap.push { cls := .type "dict",data := .dict #[] }) scope.names }) :
  az M A (newFunctionEnv scope globals cl [] qual none .none (some env)) Q E s:=by
 simp only[newFunctionEnv,Es,if_true]
 refine af (wpAny_alloc ?_)
 refine af (wpAny_layCells _ (λname kind cells=>by cases hkc:kind==di <;> simp[hkc]) _ _ _ _ ?_)
 rw [show ({ s with heap:=s.heap.push { cls := .type "dict",data := .dict #[] } }:Shared).heap.objs.size=s.heap.objs.size+1 from bp ..]
 exact aj hQ
end
section
variable {prog:Program}{w:World}{A:Around}{R:Result->Shared->Prop}{s:Shared}
theorem lY{elt target iter:Expr}{ifs:List Expr}{scope:Scope}{pos:Pos}{it acc:Value}{env:Env}(I:Nat->Shared->Prop)
  (turn: ∀n s,I n s->az (model prog w) A (pyNext it) (λr s₁=>match r with
   | none=>R (.ok .next) s₁
   | some v=>az (model prog w) A (letOwnedTupleGo target it v) (λ_ s₁=>az (model prog w) A (assign target env v) (λ_ s₂=>
     az (model prog w) A (forIn ifs true λc r=>if r=true then do let ok <- isTrue c env (eval c env);pure (gw ok) else pure (gw r)) (λok s₃=>
      if ok=true then az (model prog w) A (eval elt env) (λx s₄=>
       az (model prog w) A (call (.builtin "list.append") [acc,x]) (fun _ s₅ => ∃ m,m < n/\I m s₅) (fun _ _=>False) s₄) (fun _ _=>False) s₃
      else ∃m,m<n/\I m s₃) (λ_ _=>False) s₂) (λ_ _=>False) s₁) (λ_ _=>False) s₁) (λ_ _=>False) s)
  (n:Nat) (h:I n s):
  pz (model prog w) A (.compLoop (.ListComp elt [⟨target,iter,ifs,0⟩] scope pos) 0 it acc env) R s:=by
 refine codeAny_loop rfl I (λn s hI =>?_) n h
 show az _ A ((compTurn (.ListComp elt [⟨target,iter,ifs,0⟩] scope pos) 0 it acc env).onRaise (λx=>do noteFrame x env;theTreesLotGoes x)) _ _ s
 refine wpAny_noted ?_
 rw[compTurn_list]
 refine af (wpAny_standAt (af (cY (turn n s hI) (λr s₁ h₁ =>?_) λ_ _ h'=>h'.elim)))
 cases r with
 | none=>exact aj h₁
 | some v=>
   refine af (cY h₁ (λ_ s₁ h₁ =>?_) λ_ _ h'=>h'.elim)
   refine af (cY h₁ (λ_ s₂ h₂=>af (cY h₂ (λok s₃ h₃ =>?_) λ_ _ h'=>h'.elim)) λ_ _ h'=>h'.elim)
   cases ok with
   | false=>exact aj ⟨rfl,h₃⟩
   | true=>
     exact af (af (cY h₃ (λx s₄ h₄=>af (cY h₄ (λ_ s₅ h₅=>aj (aj ⟨rfl,h₅⟩)) λ_ _ h'=>h'.elim)) λ_ _ h'=>h'.elim))
end
end PySem
end
section
namespace _G
open PySem
section
inductive U where
 | non |bl (b:Bool) |int (i:Int) |str (x:Str) |tup (us:List U) |ref (n:Nat) |obj (a:Addr)
 deriving Inhabited
inductive Cell where
 | lst (us:List U)
 | frz (us:List U)
 | dic (kvs:List (_L.Key×U))
 | dit (f:Bool) (kvs:List (List _L.Key×U))
 deriving Inhabited
abbrev Sto:=List Cell
abbrev Rho:=List (Option U)
abbrev Res(α:Type):=Option (α×Sto)
abbrev ME:=Rho->Sto->Res U
abbrev MT:=Rho->Sto->Res Bool
abbrev MA:=Rho->Sto->Res (List U)
abbrev MF:=List U->Sto->Res U
noncomputable def bnd{α β:Type}(r:Option (α×Sto))(k:α->Sto->Option β):Option β:=match r with
 | none=>none
 | some p=>k p.1 p.2
theorem aH{α β:Type}{a:α}{S:Sto}{k:α->Sto->Option β}:bnd (some (a,S)) k=k a S:=rfl
theorem aZ{α β:Type}{r:Option (α×Sto)}{k:α->Sto->Option β}{b:β}(h:bnd r k=some b): ∃a S,r=some (a,S)/\k a S=some b:=by
 cases r with
 | none=>cases h
 | some p=>exact⟨p.1,p.2,rfl,h⟩
noncomputable def big:Nat:=16777216
noncomputable def getL(S:Sto)(n:Nat):Option (List U):=match S[n]? with
 | some (.lst us)=>some us
 | some (.frz us)=>some us
 | some (.dic _)=>none
 | some (.dit _ _)=>none
 | none=>none
noncomputable def cut{α:Type}(xs:List α)(lo hi:Option Int):List α:=(xs.drop (HT.sIx xs.length 0 lo)).take (HT.sIx xs.length xs.length hi - HT.sIx xs.length 0 lo)
abbrev F2:=U->U->Sto->Res U
noncomputable def dq:F2:=λx y S=>match x,y with
 | .int i,.int j=>some (.int (i+j),S)
 | .tup xs,.tup ys=>if xs.length+ys.length<=big then some (.tup (xs++ys),S) else none
 | _,_=>none
noncomputable def kh:F2:=λx y S=>match x,y with
 | .int i,.int j=>some (.int (i - j),S)
 | _,_=>none
noncomputable def oC(i j:Int):Prop:=(-(2 ^ 64)<i/\i<2 ^ 64)\/(-(2 ^ 64)<j/\j<2 ^ 64)
noncomputable instance(i j:Int):Decidable (oC i j):=bJ _
noncomputable def zX(n:Nat)(k:Int):Prop:=0<=k/\k<1000/\0<n/\n<1000
noncomputable instance(n:Nat)(k:Int):Decidable (zX n k):=bJ _
noncomputable def gg:F2:=λx y S=>match x,y with
 | .int i,.int j=>if oC i j then some (.int (i*j),S) else none
 | .tup xs,.int k=>if zX xs.length k then some (.tup (aw k.toNat xs).flatten,S) else none
 | _,_=>none
noncomputable def uo(j:Int):Prop:=0<j/\j<1073741824
noncomputable instance(j:Int):Decidable (uo j):=bJ _
noncomputable def oDiv:F2:=λx y S=>match x,y with
 | .int i,.int j=>if uo j then some (.int (i / j),S) else none
 | _,_=>none
noncomputable def oMod:F2:=λx y S=>match x,y with
 | .int i,.int j=>if 0<j then some (.int (i % j),S) else none
 | _,_=>none
noncomputable def Ho(i j:Int):Prop:=0<=j/\j<=1000000/\i.natAbs<2 ^ 64
noncomputable instance(i j:Int):Decidable (Ho i j):=bJ _
noncomputable def uN:F2:=λx y S=>match x,y with
 | .int i,.int j=>if Ho i j then some (.int (i ^ j.toNat),S) else none
 | _,_=>none
noncomputable def A4(p:Int->Int->Bool):F2:=λx y S=>match x,y with
 | .int i,.int j=>some (.bl (p i j),S)
 | _,_=>none
abbrev oLt:F2:=A4 λi j=>decide (i<j)
abbrev oLe:F2:=A4 λi j=>decide (i<=j)
abbrev oGt:F2:=A4 λi j=>decide (j<i)
abbrev oGe:F2:=A4 λi j=>decide (j<=i)
noncomputable def dz(S:Sto):U->Option (List U)
 | .tup us=>some us
 | .ref n=>getL S n
 | _=>none
noncomputable def dZ{α β:Type}(f:α->Option β):List α->Option (List β)
 | []=>some []
 | x::xs=>(f x).bind λy=>(dZ f xs).map λys=>y::ys
noncomputable def toD(S:Sto):Nat->U->Option PyData
 | 0,_=>none
 | _+1,.non=>some .none
 | _+1,.bl b=>some (.bool b)
 | _+1,.int i=>some (.int i)
 | _+1,.str x=>if h9 (.str x)=true then some (.str x) else none
 | f+1,.tup us=>(dZ (toD S f) us).map .tuple
 | f+1,.ref n=>(getL S n).bind λus=>(dZ (toD S f) us).map .list
 | _+1,.obj _=>none
noncomputable def eqU(S:Sto)(x y:U):Option Bool:=(toD S 40 x).bind λa=>(toD S 40 y).map λb=>jS a b
noncomputable def oEq:F2:=λx y S=>(eqU S x y).map λb=>(.bl b,S)
noncomputable def oNe:F2:=λx y S=>(eqU S x y).map λb=>(.bl (!b),S)
noncomputable def keyOf:U->Option _L.Key
 | .int i=>some (.inl i)
 | .str x=>some (.inr x)
 | _=>none
noncomputable def ni{κ:Type} [DecidableEq κ] (kvs:List (κ×U)) (k:κ):Option U:=(kvs.find? λkv=>decide (kv.1=k)).map (·.2)
noncomputable def yB{κ:Type} [DecidableEq κ] (kvs:List (κ×U)) (k:κ) (u:U):List (κ×U):=
 if (kvs.any λkv=>decide (kv.1=k))=true then kvs.map (λkv=>if kv.1=k then(kv.1,u) else kv) else kvs++[(k,u)]
noncomputable def fJ(S:Sto):U->Option (List (_L.Key×U))
 | .ref n=>match S[n]? with
   | some (.dic kvs)=>some kvs
   | _=>none
 | _=>none
noncomputable def oIx:F2:=λx y S=>match fJ S x with
 | some kvs=>(keyOf y).bind λk=>(ni kvs k).map λu=>(u,S)
 | none=>match y with
   | .int i=>((dz S x).bind λus=>_L.atI us i).map λu=>(u,S)
   | _=>none
noncomputable def ae(i:Nat):ME:=λρ S=>match ρ[i]? with
 | some (some u)=>some (u,S)
 | _=>none
noncomputable def mC(u:U):ME:=λ_ S=>some (u,S)
noncomputable def m1(f:U->Sto->Res U)(a:ME):ME:=λρ S=>bnd (a ρ S) λx S1=>f x S1
noncomputable def m2(f:F2)(a b:ME):ME:=λρ S=>bnd (a ρ S) λx S1=>bnd (b ρ S1) λy S2=>f x y S2
noncomputable def ah:MA:=λ_ S=>some ([],S)
noncomputable def aa(a:ME)(r:MA):MA:=λρ S=>bnd (a ρ S) λx S1=>bnd (r ρ S1) λxs S2=>some (x::xs,S2)
noncomputable def dg(a:MA):ME:=λρ S=>bnd (a ρ S) λxs S1=>if xs.length<=big then some (.tup xs,S1) else none
noncomputable def fA(a:MA):ME:=λρ S=>bnd (a ρ S) λxs S1=>if xs.length<=big then some (.ref S1.length,S1++[.lst xs]) else none
noncomputable def mFn(f:MF)(a:MA):ME:=λρ S=>bnd (a ρ S) λxs S1=>f xs S1
noncomputable def iS:U->Sto->Res U:=λx S=>match x with
 | .int i=>some (.int (-i),S)
 | _=>none
noncomputable def yQ(c:MT)(a b:ME):ME:=λρ S=>bnd (c ρ S) λk S1=>if k then a ρ S1 else b ρ S1
noncomputable def uw:Option ME->Rho->Sto->Res (Option Int)
 | none=>λ_ S=>some (none,S)
 | some a=>λρ S=>bnd (a ρ S) λx S1=>match x with
   | .int i=>some (some i,S1)
   | _=>none
noncomputable def mSl(a:ME)(lo hi:Option ME):ME:=λρ S=>bnd (a ρ S) λx S1=>bnd (uw lo ρ S1) λl S2=>bnd (uw hi ρ S2) λh S3=>match x with
 | .tup us=>some (.tup (cut us l h),S3)
 | .ref n=>(getL S3 n).map λus=>(.ref S3.length,S3++[.lst (cut us l h)])
 | _=>none
noncomputable def cOf(a:ME):MT:=λρ S=>bnd (a ρ S) λx S1=>match x with
 | .bl b=>some (b,S1)
 | _=>none
noncomputable def ko(a b:MT):MT:=λρ S=>bnd (a ρ S) λk S1=>if k then b ρ S1 else some (false,S1)
noncomputable def cOr(a b:MT):MT:=λρ S=>bnd (a ρ S) λk S1=>if k then some (true,S1) else b ρ S1
noncomputable def nX(a:MT):MT:=λρ S=>bnd (a ρ S) λk S1=>some (!k,S1)
noncomputable def cTT:MT:=λ_ S=>some (true,S)
inductive Src where
 | imm (us:List U)
 | mut (n:Nat)
 | enl (n:Nat)
 | zlt (n:Nat) (us:List U)
abbrev MI:=Rho->Sto->Option (Src×Sto)
noncomputable def okR(i:Int):Prop:= -(2 ^ 62)<=i/\i<2 ^ 62
noncomputable instance(i:Int):Decidable (okR i):=bJ _
noncomputable def bh(i:Int)(n:Nat):List U:=(aE n).map λ(k:Nat) => .int (i+k)
noncomputable def iR1(a:MA):MI:=λρ S=>bnd (a ρ S) λxs S1=>match xs with
 | [.int j]=>if okR j then some (.imm (bh 0 j.toNat),S1) else none
 | _=>none
noncomputable def iR2(a:MA):MI:=λρ S=>bnd (a ρ S) λxs S1=>match xs with
 | [.int i,.int j]=>if okR i/\okR j then some (.imm (bh i (j - i).toNat),S1) else none
 | _=>none
noncomputable def dv(a:ME):MI:=λρ S=>bnd (a ρ S) λx S1=>match x with
 | .tup us=>some (.imm us,S1)
 | .ref n=>(getL S1 n).map λ_=>(.mut n,S1)
 | _=>none
noncomputable def w9(a:MA):MI:=λρ S=>bnd (a ρ S) λxs S1=>match xs with
 | [.tup us]=>some (.imm us.reverse,S1)
 | _=>none
noncomputable def iN(us:List U):List U:=us.mapIdx λi u => .tup [.int i,u]
noncomputable def pI(a:MA):MI:=λρ S=>bnd (a ρ S) λxs S1=>match xs with
 | [.tup us]=>some (.imm (iN us),S1)
 | _=>none
noncomputable def gp(t:MT)(e:ME)(ρ:Rho):List U->List U->Sto->Res (List U)
 | [],acc,S=>some (acc,S)
 | x::xs,acc,S=>bnd (t (ρ++[some x]) S) λk S1=>if k then bnd (e (ρ++[some x]) S1) λy S2=>gp t e ρ xs (acc++[y]) S2 else gp t e ρ xs acc S1
noncomputable def jE(t:MT)(e:ME)(ρ:Rho)(n:Nat):Nat->Nat->List U->Sto->Res (List U)
 | 0,_,_,_=>none
 | f+1,i,acc,S=>(getL S n).bind λus=>match us[i]? with
   | none=>some (acc,S)
   | some x=>bnd (t (ρ++[some x]) S) λk S1=>if k then bnd (e (ρ++[some x]) S1) λy S2=>jE t e ρ n f (i+1) (acc++[y]) S2 else jE t e ρ n f (i+1) acc S1
noncomputable def fuel:Nat:=100000
noncomputable def DG(t:MT)(e:ME)(ρ:Rho):Src->Sto->Res (List U)
 | .imm us,S=>gp t e ρ us [] S
 | .mut n,S=>jE t e ρ n fuel 0 [] S
 | _,_=>none
noncomputable def cq(it:MI)(t:MT)(e:ME):ME:=λρ S=>bnd (it ρ S) λsrc S1=>bnd (DG t e ρ src S1) λys S2=>if ys.length<big then some (.ref S2.length,S2++[.lst ys]) else none
inductive Fl where
 | nx |rt (u:U) |bk |ct
abbrev MS:=Rho->Sto->Option (Fl×Rho×Sto)
noncomputable def b7:MS:=λρ S=>some (.nx,ρ,S)
noncomputable def ba(a b:MS):MS:=λρ S=>match a ρ S with
 | some (.nx,ρ1,S1)=>b ρ1 S1
 | r=>r
noncomputable def bC(i:Nat)(e:ME):MS:=λρ S=>bnd (e ρ S) λx S1=>some (.nx,ρ.set i (some x),S1)
noncomputable def jb(o i e:ME):MS:=λρ S=>bnd (e ρ S) λx S1=>bnd (o ρ S1) λp S2=>bnd (i ρ S2) λj S3=>match p with
 | .ref n=>match S3[n]? with
   | some (.lst us)=>(match j with
     | .int k=>(_L.ixN us.length k).map λm=>(.nx,ρ,S3.set n (.lst (us.set m x)))
     | _=>none)
   | some (.dic kvs)=>(keyOf j).bind λk=>if kvs.length<big then some (.nx,ρ,S3.set n (.dic (yB kvs k x))) else none
   | _=>none
 | _=>none
noncomputable def fb(e:ME):MS:=λρ S=>bnd (e ρ S) λ_ S1=>some (.nx,ρ,S1)
noncomputable def bB(e:ME):MS:=λρ S=>bnd (e ρ S) λx S1=>some (.rt x,ρ,S1)
noncomputable def sIf(c:MT)(a b:MS):MS:=λρ S=>bnd (c ρ S) λk S1=>if k then a ρ S1 else b ρ S1
noncomputable def aft(r:Option (Fl×Rho×Sto))(k:MS):Option (Fl×Rho×Sto):=match r with
 | some (.nx,ρ1,S1)=>k ρ1 S1
 | some (.ct,ρ1,S1)=>k ρ1 S1
 | some (.bk,ρ1,S1)=>some (.nx,ρ1,S1)
 | r=>r
noncomputable def qb(i:Nat)(b:MS):List U->MS
 | [],ρ,S=>some (.nx,ρ,S)
 | x::xs,ρ,S=>aft (b (ρ.set i (some x)) S) (qb i b xs)
noncomputable def forL(i:Nat)(b:MS)(n:Nat):Nat->Nat->MS
 | 0,_,_,_=>none
 | f+1,k,ρ,S=>(getL S n).bind λus=>match us[k]? with
   | none=>some (.nx,ρ,S)
   | some x=>aft (b (ρ.set i (some x)) S) (forL i b n f (k+1))
noncomputable def NJ(i:Nat)(b:MS):Src->MS
 | .imm us=>qb i b us
 | .mut n=>forL i b n fuel 0
 | _=>λ_ _=>none
noncomputable def ft(i:Nat)(it:MI)(b:MS):MS:=λρ S=>bnd (it ρ S) λsrc S1=>NJ i b src ρ S1
noncomputable def whl(c:MT)(b:MS):Nat->MS
 | 0,_,_=>none
 | f+1,ρ,S=>bnd (c ρ S) λk S1=>if k then aft (b ρ S1) (whl c b f) else some (.nx,ρ,S1)
noncomputable def iE(c:MT)(b:MS):MS:=whl c b fuel
noncomputable def run(k n:Nat)(b:MS):MF:=λus S=>if us.length=k then match b (us.map some++aw (n - k) none) S with
  | some (.rt u,_,S1)=>some (u,S1)
  | some (.nx,_,S1)=>some (.non,S1)
  | _=>none
 else none
noncomputable def bK:MF:=λus S=>match us with
 | [x]=>(match fJ S x with
   | some kvs=>some (.int kvs.length,S)
   | none=>(dz S x).map λxs=>(.int xs.length,S))
 | _=>none
noncomputable def b9:MF:=λus S=>match us with
 | [x]=>(dz S x).map λxs=>(.tup xs,S)
 | _=>none
noncomputable def wW:MF:=λus S=>match us with
 | [.int i,.int j]=>some (.int (if j > i then j else i),S)
 | _=>none
noncomputable def pX:MF:=λus S=>match us with
 | [.int i,.int j]=>some (.int (if j<i then j else i),S)
 | _=>none
noncomputable def jN(it:MI):ME:=λρ S=>bnd (it ρ S) λsrc S1=>match src with
 | .imm us=>if us.length<=big then some (.ref S1.length,S1++[.lst us]) else none
 | _=>none
noncomputable def jz(it:MI):ME:=λρ S=>bnd (it ρ S) λsrc S1=>match src with
 | .imm us=>if us.length<=big then some (.tup us,S1) else none
 | _=>none
noncomputable def tyU(S:Sto):U->Option String
 | .non=>some "NoneType"
 | .bl _=>some "bool"
 | .int _=>some "int"
 | .str _=>some "str"
 | .tup _=>some "tuple"
 | .ref n=>match S[n]? with
   | some (.lst _)=>some "list"
   | some (.dic _)=>some "dict"
   | _=>none
 | .obj _=>none
noncomputable def Ju(d:PyData):Prop:=d.showable=true/\d.shown.length<=sizeLine
noncomputable instance(d:PyData):Decidable (Ju d):=bJ _
noncomputable def EY (t T:String):Bool:=t == T||(t == "bool"&&T == "int")
noncomputable def nR(T:String):U->Sto->Res U:=λx S=>(tyU S x).map λt=>(.bl (EY t T),S)
noncomputable def mML(f:Nat->List U->Sto->Res U)(o:ME)(a:MA):ME:=λρ S=>bnd (o ρ S) λp S1=>match p with
 | .ref n=>(getL S1 n).bind λ_=>bnd (a ρ S1) λxs S2=>f n xs S2
 | _=>none
noncomputable def d7:Nat->List U->Sto->Res U:=λn xs S=>match xs with
 | [x]=>match S[n]? with
   | some (.lst us)=>if us.length<big then some (.non,S.set n (.lst (us++[x]))) else none
   | _=>none
 | _=>none
noncomputable def jL:Nat->List U->Sto->Res U:=λn xs S=>match xs with
 | [.int i]=>match S[n]? with
   | some (.lst us)=>if okR i then(_L.ixN us.length i).bind λj=>us[j]?.map λy=>(y,S.set n (.lst (us.eraseIdx j))) else none
   | _=>none
 | _=>none
noncomputable def uU:Nat->List U->Sto->Res U:=λn xs S=>match xs with
 | []=>match S[n]? with
   | some (.lst us)=>us[us.length - 1]?.map λy=>(y,S.set n (.lst us.dropLast))
   | _=>none
 | _=>none
noncomputable def mMT(f:List U->List U->Sto->Res U)(o:ME)(a:MA):ME:=λρ S=>bnd (o ρ S) λp S1=>match p with
 | .tup us=>bnd (a ρ S1) λxs S2=>f us xs S2
 | _=>none
end
end _G
end
section
namespace _L
open PySem PySem.Spec PyProof.Rows
noncomputable def blk(X:Cx)(N':List Str)(scope:Scope)(s₂:Shared)(H₂:Hp)(fp:List Addr):Cx:=
 { X with
  N:=N'
  s₀:=s₂
  H₀:=H₂
  env:={ scope:=relabel scope X.env,locals:=s₂.heap.objs.size+1,globals:=X.env.globals,cells:=cellsFrom (s₂.heap.objs.size+2) scope.names (jw X.env scope.names []),qual:=X.env.qual,func:=none,code:=X.env.code,frame:=X.env.frame,builtins:=X.env.builtins }
  outer:=X.stack
  ex:=fp
  fn:=λx=>scope.names.lookup x==some .cell
  pn:= []
  xe:=λ_ _=>False }
structure iJ(X:Cx)(N':List Str)(scope:Scope)(xs:List Str):Prop where
 kind:scope.kind = .function
 nd:(scope.names.map (·.1)).Nodup
 free: ∀y∈scope.names,y.2 = .free->X.env.kindOf y.1=some .cell\/X.env.kindOf y.1=some .free
 own: ∀x∈xs,scope.names.lookup x=some .local\/scope.names.lookup x=some .cell
 ndN:N'.Nodup
 len:N'.length=X.N.length+xs.length
 last: ∀(j:Nat) (x:Str),xs[j]? = some x->N'[X.N.length+j]? = some x
 vis: ∀(i:Nat) (y:Str),i<X.N.length->N'[i]? = some y->(scope.names.lookup y=some .local\/scope.names.lookup y=some .cell\/scope.names.lookup y=some .free)->X.N[i]? = some y/\scope.names.lookup y=some .free
theorem gI{env:Env}: ∀{names:List (Str×NameKind)}{x:Str}{k:NameKind},
  (names.map λ(n,k)=>if (k==bw&&env.scope.kind==.function&&env.kindOf n==some .cell) then(n,di) else(n,k)).lookup x=some k ->
  names.lookup x=some k\/(names.lookup x=some .free/\k = .cell)
 | [],_,_,h=>by simp at h
 | (n,k')::r,x,k,h=>by
   have ih:= @gI env r x k
   have h':oY x ((if (k'==bw&&env.scope.kind==.function&&env.kindOf n==some .cell)=true then(n,di) else(n,k'))::(r.map λ(n,k)=>if (k==bw&&env.scope.kind==.function&&env.kindOf n==some .cell) then(n,di) else(n,k)))=some k:=h
   by_cases hc:(k'==bw&&env.scope.kind==.function&&env.kindOf n==some .cell)=true
   ·rw[if_pos hc]at h'
    rw[aN]at h' ⊢
    cases hx:x==n with
    | true=>
      rw[hx]at h'
      have hk:k' = .free:=by
       rw[aB,aB]at hc
       simpa using hc.1.1
      subst hk
      exact .inr ⟨rfl,(bz h').symm⟩
    | false=>rw[hx]at h';exact ih h'
   ·rw[if_neg hc]at h'
    rw[aN]at h' ⊢
    cases hx:x==n with
    | true=>rw[hx]at h';exact .inl h'
    | false=>rw[hx]at h';exact ih h'
theorem ki{env:Env}: ∀{names:List (Str×NameKind)}{x:Str},names.lookup x=some .cell ->
  (names.map λ(n,k)=>if (k==bw&&env.scope.kind==.function&&env.kindOf n==some .cell) then(n,di) else(n,k)).lookup x=some .cell
 | [],_,h=>by simp at h
 | (n,k')::r,x,h=>by
   have ih:= @ki env r x
   show oY x ((if (k'==bw&&env.scope.kind==.function&&env.kindOf n==some .cell)=true then(n,di) else(n,k'))::_)=_
   rw[aN]at h
   cases hx:x==n with
   | true=>
     rw[hx]at h
     cases h
     simp[aN,hx]
   | false=>
     rw[hx]at h
     by_cases hc:(k'==bw&&env.scope.kind==.function&&env.kindOf n==some .cell)=true
     ·rw[if_pos hc];simp only[aN,hx];exact ih h
     ·rw[if_neg hc];simp only[aN,hx];exact ih h
theorem km{env:Env}: ∀{names:List (Str×NameKind)}{x:Str},names.lookup x=some .free ->
  (names.map λ(n,k)=>if (k==bw&&env.scope.kind==.function&&env.kindOf n==some .cell) then(n,di) else(n,k)).lookup x=some .cell \/
  (names.map λ(n,k)=>if (k==bw&&env.scope.kind==.function&&env.kindOf n==some .cell) then(n,di) else(n,k)).lookup x=some .free
 | [],_,h=>by simp at h
 | (n,k')::r,x,h=>by
   have ih:= @km env r x
   show oY x ((if (k'==bw&&env.scope.kind==.function&&env.kindOf n==some .cell)=true then(n,di) else(n,k'))::_)=_\/oY x ((if (k'==bw&&env.scope.kind==.function&&env.kindOf n==some .cell)=true then(n,di) else(n,k'))::_)=_
   rw[aN]at h
   by_cases hc:(k'==bw&&env.scope.kind==.function&&env.kindOf n==some .cell)=true
   ·rw[if_pos hc]
    cases hx:x==n with
    | true=>exact .inl (by simp[aN,hx])
    | false=>
      rw[hx]at h
      simp only[aN,hx];exact ih h
   ·rw[if_neg hc]
    cases hx:x==n with
    | true=>rw[hx]at h;cases h;exact .inr (by simp[aN,hx])
    | false=>
      rw[hx]at h
      simp only[aN,hx];exact ih h
theorem oO{env:Env}: ∀{names:List (Str×NameKind)}{x:Str},names.lookup x=some .globalImplicit ->
  (names.map λ(n,k)=>if (k==bw&&env.scope.kind==.function&&env.kindOf n==some .cell) then(n,di) else(n,k)).lookup x=some .globalImplicit
 | [],_,h=>by simp at h
 | (n,k')::r,x,h=>by
   have ih:= @oO env r x
   show oY x ((if (k'==bw&&env.scope.kind==.function&&env.kindOf n==some .cell)=true then(n,di) else(n,k'))::_)=_
   rw[aN]at h
   cases hx:x==n with
   | true=>
     rw[hx]at h
     cases h
     simp[aN,hx]
   | false=>
     rw[hx]at h
     by_cases hc:(k'==bw&&env.scope.kind==.function&&env.kindOf n==some .cell)=true
     ·rw[if_pos hc];simp only[aN,hx];exact ih h
     ·rw[if_neg hc];simp only[aN,hx];exact ih h
theorem mX: ∀{names:List (Str×NameKind)}{x:Str}{k:NameKind},(names.map (·.1)).Nodup->(x,k)∈names->names.lookup x=some k
 | [],_,_,_,h=>by simp at h
 | (n,k')::r,x,k,nd,h=>by
   rw[bM,gO]at nd
   rw[aN]
   rcases aO.mp h with e |h2
   ·cases e;simp
   ·have hne:x≠n:=by
     intro e
     subst e
     exact nd.1 (aS.mpr ⟨(x,k),h2,rfl⟩)
    have hb:(x==n)=false:=beq_eq_false_iff_ne.mpr hne
    rw[hb]
    exact mX nd.2 h2
theorem j9{X:Cx}{scope:Scope}{n:Nat}(hf: ∀y∈scope.names,y.2 = .free -> ∃c,X.env.cells.lookup y.1=some c){x:Str}{c:Addr}
  (h:(cellsFrom n scope.names (jw X.env scope.names [])).lookup x=some c):(cellsFrom n scope.names []).lookup x=some c\/X.env.cells.lookup x=some c:=by
 rw[eU,qK]at h
 cases q:(cellsFrom n scope.names []).lookup x with
 | some d=>rw[q]at h;exact .inl h
 | none=>
   rw[q]at h
   have h':(jw X.env scope.names []).lookup x=some c:=h
   rcases oz scope.names [] hf x c h' with e |e
   ·exact .inr e
   ·cases e
section
variable {X:Cx}{pins:List (Addr×Obj)}{σ:St}{H₂:Hp}{s₂:Shared}{N':List Str}{scope:Scope}{xs:List Str}{fp:List Addr}
theorem iJ.frees(C:iJ X N' scope xs)(ok:X.Ok): ∀y∈scope.names,y.2 = .free -> ∃c,X.env.cells.lookup y.1=some c:=λy hy e=>ok.has y.1 (C.free y hy e)
theorem GM(C:iJ X N' scope xs){y:Str}{n:Nat}(h:scope.names.lookup y=some .cell\/scope.names.lookup y=some .free): ∃c,(cellsFrom n scope.names (jw X.env scope.names [])).lookup y=some c:=by
 refine gB.mp (hG scope.names n _ ?_)
 rcases h with h |h
 ·exact .inl h
 ·exact .inr (om scope.names [] (.inl h))
theorem Jw(I:Inv X pins σ H₂ s₂)(C:iJ X N' scope xs)(hfp: ∀b∈fp,sQ X pins H₂ b)(hlt: ∀b∈fp,b<s₂.heap.objs.size):(blk X N' scope s₂ H₂ fp).Ok:=by
 have own: ∀y c,(cellsFrom (s₂.heap.objs.size+2) scope.names []).lookup y=some c->s₂.heap.objs.size+2<=c:=λy c h=>by
  have ok:=cellsFrom_ok scope.names ((s₂.heap.push default).push default) (s₂.heap.objs.size+2) [] ⟨λ_ _ hm=>(nomatch hm),jo⟩ (by rw[bp,bp];exact aq _)
  rw[bp,bp]at ok
  exact(ok.empty y c (b0 h)).2
 have apart:(cellsFrom (s₂.heap.objs.size+2) scope.names []).Pairwise λx y=>x.2≠y.2:=by
  have ok:=cellsFrom_ok scope.names ((s₂.heap.push default).push default) (s₂.heap.objs.size+2) [] ⟨λ_ _ hm=>(nomatch hm),jo⟩ (by rw[bp,bp];exact aq _)
  rw[bp,bp]at ok
  exact ok.apart
 have old: ∀y c,X.env.cells.lookup y=some c->c<s₂.heap.objs.size:=λy c h=>by obtain⟨v,z⟩:=I.cell y c h;exact z.lt
 refine⟨I.ok.mod,C.kind,I.ok.glob,I.ok.blt,dh _,λy z c h1 h2 =>?_,λy hy =>?_,λy c hy h =>?_,I.ok.hd,I.ok.frames,.inl rfl,λb hb=>⟨?_,λy c h z =>?_⟩,I.bs,aM I.ok.bsz I.sz,λb o e hb =>?_,λb hb z =>?_,I.stack,I.stkFree⟩
 ·rcases j9 (C.frees I.ok) h1 with a |a <;> rcases j9 (C.frees I.ok) h2 with b |b
  ·exact name_of_addr apart (b0 a) (b0 b)
  ·exact absurd (ag (old z c b) (aM (jn _ 2) (own y c a))) (bZ _)
  ·exact absurd (ag (old y c a) (aM (jn _ 2) (own z c b))) (bZ _)
  ·exact I.ok.inj y z c a b
 ·have hy:(relabel scope X.env).names.lookup y=some .cell\/(relabel scope X.env).names.lookup y=some .free:=hy
  refine GM C ?_
  rcases hy with hy |hy
  ·rcases gI hy with e | ⟨e,_⟩
   ·exact .inl e
   ·exact .inr e
  ·rcases gI hy with e | ⟨e,_⟩
   ·exact .inr e
   ·exact .inr e
 ·have hy':scope.names.lookup y=some .cell:=by simpa [blk]using hy
  have h':(cellsFrom (s₂.heap.objs.size+2) scope.names (jw X.env scope.names [])).lookup y=some c:=h
  rw[eU,qK]at h'
  have q:=gB.mp (hG scope.names (s₂.heap.objs.size+2) [] (.inl hy'))
  obtain⟨d,hd⟩:=q
  rw[hd]at h'
  have e:d=c:=bz h'
  subst e
  have:=own y d hd
  show s₂.heap.objs.size<=d
  omega
 ·have:=hlt b hb
  exact aL (bY this)
 ·have:=hlt b hb
  rcases j9 (C.frees I.ok) h with a |a
  ·exact absurd (ag this (aM (jn _ 2) (z▸own y c a))) (bZ _)
  ·exact(hfp b hb).2.2.2.2.1 y c a z
 ·have z:=(hfp b hb).2.2.2.1
  rcases z with z |z
  ·exact I.ok.noex b o e z
  ·exact absurd (ag (aD e) (aM I.ok.bsz z)) (bZ _)
 ·rcases aO.mp (I.stkSub b z) with e |e
  ·exact(hfp b hb).2.1 e
  ·exact(hfp b hb).2.2.1 e
theorem Bi(I:Inv X pins σ H₂ s₂)(C:iJ X N' scope xs)(hfp: ∀b∈fp,sQ X pins H₂ b)(hlt: ∀b∈fp,b<s₂.heap.objs.size){lo do':Obj}(hdo:do'.data = .dict #[])(hdo2:do'.isFreed=false)(hlo:lo.isFreed=false):
  Inv (blk X N' scope s₂ H₂ fp) [] (σ++aw xs.length none) H₂ { s₂ with heap:=pushCells ((s₂.heap.push lo).push do') scope.names }:=by
 have sz:((s₂.heap.push lo).push do').objs.size=s₂.heap.objs.size+2:=by rw[bp,bp]
 have okc:=cellsFrom_ok scope.names ((s₂.heap.push lo).push do') (s₂.heap.objs.size+2) [] ⟨λ_ _ hm=>(nomatch hm),jo⟩ (by rw[sz];exact aq _)
 rw[sz]at okc
 have kp: ∀b o,s₂.heap.get? b=some o->(pushCells ((s₂.heap.push lo).push do') scope.names).get? b=some o:=λb o e=>pushCells_keeps _ _ b o (ao _ (ao _ e))
 have hL:(pushCells ((s₂.heap.push lo).push do') scope.names).get? (s₂.heap.objs.size+1)=some do':=pushCells_keeps _ _ _ _ (by
  have e:s₂.heap.objs.size+1=(s₂.heap.push lo).objs.size:=by rw[bp]
  rw[e];exact ay _ hdo2)
 refine⟨Jw I C hfp hlt,rfl,I.bare,Un.kept kp,⟨λ_=>none,⟨do',#[],_,hL,hdo,λe he=>by simp at he,λ_=>rfl⟩,λi y v h1 h2 h3 =>?_⟩,λy c h =>?_,I.hok.fresh (dh _),λy c h =>?_,λp hp=>absurd (show p∈([]:List (Addr×Obj)) from hp) (by simp),I.hok.kept kp,?_⟩
 ·have hi:i<X.N.length:=by
   by_cases hi:i<X.N.length
   ·exact hi
   ·rw[aG (by rw[I.len];exact b6 (by assumption)),hJ]at h2
    split at h2 <;> simp at h2
  rw[bg (by rw[I.len];exact hi)]at h2
  have hv:scope.names.lookup y=some .local\/scope.names.lookup y=some .cell\/scope.names.lookup y=some .free:=by
   rcases h3 with h3 |h3 |h3 <;> rcases gI h3 with e | ⟨e,e'⟩
   ·exact .inl e
   ·cases e'
   ·exact .inr (.inl e)
   ·exact .inr (.inr e)
   ·exact .inr (.inr e)
   ·cases e'
  obtain⟨hN,hfr⟩:=C.vis i y hi h1 hv
  have hmem:(y,bw)∈scope.names:=b0 hfr
  have hk:=C.free _ hmem rfl
  have vis:Vis X.env.scope y:= .inr hk
  obtain⟨m,hn,hl⟩:=I.loc
  obtain⟨u,r,l⟩:=hl i y v hN h2 vis
  refine⟨u,r,.inr ⟨km hfr,?_⟩⟩
  rcases l with⟨hk',_⟩ | ⟨_,c,hc,hcell⟩
  ·rcases hk with hk |hk
   ·rw[hk]at hk';cases hk'
   ·rw[hk]at hk';cases hk'
  ·have nown:(cellsFrom (s₂.heap.objs.size+2) scope.names []).lookup y=none:=by
    cases q:(cellsFrom (s₂.heap.objs.size+2) scope.names []).lookup y with
    | none=>rfl
    | some d=>
      rcases jM scope.names _ _ d q with⟨z,hz,e1,e2⟩ |e
      ·obtain⟨z1,z2⟩:=z
       simp only at e1 e2
       subst e1;subst e2
       exact absurd (mX C.nd hz) (by rw[hfr];simp)
      ·cases e
   obtain⟨d,hd⟩:=gB.mp (om (env:=X.env) (x:=y) scope.names [] (.inl hfr))
   have hd':X.env.cells.lookup y=some d:=by
    rcases oz scope.names [] (C.frees I.ok) y d hd with e |e
    ·exact e
    ·cases e
   rw[hc]at hd';cases hd'
   refine⟨c,?_,hcell.keeps kp⟩
   show(cellsFrom (s₂.heap.objs.size+2) scope.names (jw X.env scope.names [])).lookup y=some c
   rw[eU,qK,nown]
   exact hd
 ·rcases j9 (C.frees I.ok) h with a |a
  ·exact⟨none,(okc.empty y c (b0 a)).1⟩
  ·obtain⟨v,z⟩:=I.cell y c a
   exact⟨v,z.keeps kp⟩
 ·rcases j9 (C.frees I.ok) h with a |a
  ·exact I.hok.fresh (aM (jn _ 2) (okc.empty y c (b0 a)).2)
  ·exact I.freeC y c a
 ·show(σ++aw xs.length none).length=N'.length
  rw[bj,ek,I.len,C.len]
end
noncomputable def PTs(X:Cx)(ifs:List Expr)(t:TT):Prop:=
 ∀(pins:List (Addr×Obj)) (s:Shared) (σ:St) (H:Hp) (Q:Bool->Hp->Prop),Inv X pins σ H s->t σ H Q ->
  az (model X.prog X.w) X.A (forIn ifs true λc r=>if r=true then do let ok <- isTrue c X.env (eval c X.env);pure (gw ok) else pure (gw r)) (TP X pins σ Q) X.xe s
theorem ES{X:Cx}:PTs X [] (λ_ H Q=>Q true H):=λpins s σ H Q I h=>by
 rw[List.forIn_nil]
 exact aj ⟨H,I,h⟩
theorem Gc{X:Cx}{c:Expr}{t:TT}(h:PT X c t):PTs X [c] t:=λpins s σ H Q I q=>by
 rw[List.forIn_cons]
 simp only[if_true]
 refine af (af (thn (h pins s σ H Q I q) λb s1 e=>aj ?_))
 show az _ _ (forIn [] b _) _ _ _
 rw[List.forIn_nil]
 exact aj e
noncomputable def og(wi:TI)(tt:TT)(te:TE):TE:=λσ H Q=>wi σ H λJ H1 =>∃W:Nat->Nat->List V->Hp->Prop,(∃m,W 0 m [] H1) /\ ∀i m ys H,W i m ys H->ys.length<sizeLine /\
 ((J.stop i H /\ ∀D,H D=none->Q (.ref D) (upd H D (.lst ys))) \/
  (J.go i H /\ ∀x H',J.yld i H x H'->tt (σ++[some x]) H' λb H3=>if b=true then te (σ++[some x]) H3 λy H4 =>∃m',m'<m/\W (i+1) m' (ys++[y]) H4 else ∃m',m'<m/\W (i+1) m' ys H3))
theorem HOk.track{P:Program}{w:World}{H:Hp}{h:Heap}{a:Addr}{o:HO}(x:HOk P w H h)(hn:H a=none)(new:dY P w (upd H a o) h a o):HOk P w (upd H a o) h:=λb u e=>by
 by_cases hb:b=a
 ·subst hb;rw[dn]at e;cases e;exact new
 ·rw[bR hb]at e
  exact(x b u e).stay (λc v _ q=>q) (λc q=>by rw[bR (bI q hn)];exact q) λc xs q=>by rw[bR (bI q hn)];exact q
theorem HOk.but{P:Program}{w:World}{H:Hp}{h h':Heap}{a:Addr}(x:HOk P w H h)(hn:H a=none)(k: ∀b o,b≠a->h.get? b=some o->h'.get? b=some o):HOk P w H h':=λb u e=>by
 refine(x b u e).stay (λc v hc q=>k c v ?_ q) (λ_ q=>q) λ_ _ q=>q
 rcases hc with rfl |hc
 ·exact bI e hn
 ·exact bI hc hn
noncomputable def IL(gT:V->Hp->(St->Hp->Prop)->Prop)(wi:TI)(tt:TT)(te:TE):TE:=λσ H Q=>wi σ H λJ H1 =>∃W:Nat->Nat->List V->Hp->Prop,(∃m,W 0 m [] H1) /\ ∀i m ys H,W i m ys H->ys.length<sizeLine /\
 ((J.stop i H /\ ∀D,H D=none->Q (.ref D) (upd H D (.lst ys))) \/
  (J.go i H /\ ∀x H',J.yld i H x H'->gT x H' λτ H2=>tt (σ++τ) H2 λb H3=>if b=true then te (σ++τ) H3 λy H4 =>∃m',m'<m/\W (i+1) m' (ys++[y]) H4 else ∃m',m'<m/\W (i+1) m' ys H3))
noncomputable def gT1:V->Hp->(St->Hp->Prop)->Prop:=λv H Q=>Q [some v] H
section
variable {X:Cx}{N':List Str}{scope:Scope}{x:Str}{xs:List Str}{tg:Expr}{gT:V->Hp->(St->Hp->Prop)->Prop}{px pos:Pos}{elt iter:Expr}{ifs:List Expr}{wi:TI}{tt:TT}{te:TE}
theorem uk{use:Option (Value->Sem Unit)}{Qf:Value->Shared->Prop}(hc:X.calm=true)(C:iJ X N' scope xs)(hi:PI X tg iter wi)
  (ht: ∀s₂ H₂ fp,PTs (blk X N' scope s₂ H₂ fp) ifs tt) (he: ∀s₂ H₂ fp,PE (blk X N' scope s₂ H₂ fp) elt te) {pins:List (Addr×Obj)}{s:Shared}{σ:St}{H:Hp}{Q:VK} (I:Inv X pins σ H s) (h:IL gT wi tt te σ H Q)
  (htg: ∀(s₂:Shared) (H₂:Hp) (fp:List Addr) (pl:List (Addr×Obj)) (s:Shared) (H:Hp) (v:V) (u:Value) (Q:St->Hp->Prop),Inv (blk X N' scope s₂ H₂ fp) pl (σ++aw xs.length none) H s->RelV v u->gT v H Q ->
   az (model X.prog X.w) X.A (assign tg (blk X N' scope s₂ H₂ fp).env u) (λ_ s' =>∃τ H',τ.length=xs.length/\Inv (blk X N' scope s₂ H₂ fp) pl (σ++τ) H' s'/\Q τ H') (λ_ _=>False) s)
  (hfin: ∀(s':Shared) (L D:Addr) (H':Hp) (ml:Str->Option Value),s'.heap.Ns L ml->Inv X pins σ H' s'->H' L=none->L≠X.env.locals->X.s₀.heap.objs.size<=L->(∀y c,X.env.cells.lookup y=some c->c≠L)->(∀p∈X.pn++pins,p.1≠L) ->
   Q (.ref D) H'->compPost (model X.prog X.w) X.A X.xe use Qf (.ref D) L (.ok .next) s'):
  az (model X.prog X.w) X.A (eval iter X.env) (λxv s₁=>az (model X.prog X.w) X.A (pyIter xv) (λit s₂=>az (model X.prog X.w) X.A (newList []) (λacc s₃=>
   az (model X.prog X.w) X.A (newFunctionEnv scope X.env.globals (jw X.env scope.names []) [] X.env.qual none .none (some X.env)) (λcenv s₄=>
    pz (model X.prog X.w) X.A (.compStart (.ListComp elt [⟨tg,iter,ifs,0⟩] scope pos) 0 it acc { cenv with scope:=relabel scope X.env }) (compPost (model X.prog X.w) X.A X.xe use Qf acc cenv.locals) s₄) X.xe s₃) X.xe s₂) X.xe s₁) X.xe s:=by
 refine thn (hi pins s σ H _ I h) λv s1 h1=>thn h1 λitv s2 h2 =>?_
 obtain⟨it,fp,tn,J,H2,e,I2,T,st2,f2,W,⟨m0,w0⟩,turn⟩:=h2
 subst e
 have hlt: ∀b∈fp,b<s2.heap.objs.size:=λb hb=>by obtain⟨o,ho,_⟩:=T.obj _ _ st2 b hb;exact aD ho
 refine bf (oo ?_)
 dsimp only
 have I4:Inv (blk X N' scope s2 H2 fp) [] (σ++aw xs.length none) H2 { s2 with heap:=pushCells ((s2.heap.push { cls := .type "list",dict:=none,data := .seq ([]:List Value).toArray }).push { cls := .type "dict",data := .dict #[] }) scope.names }:=
  Bi I2 C f2 hlt rfl rfl rfl
 generalize hXb:blk X N' scope s2 H2 fp=Xb at I4
 have hD4:(pushCells ((s2.heap.push { cls := .type "list",dict:=none,data := .seq ([]:List Value).toArray }).push { cls := .type "dict",data := .dict #[] }) scope.names).get? s2.heap.objs.size=some { cls := .type "list",data := .seq ([]:List Value).toArray }:=
  pushCells_keeps _ _ _ _ (ao _ (ay _ rfl))
 have st4:tn 0 (pushCells ((s2.heap.push { cls := .type "list",dict:=none,data := .seq ([]:List Value).toArray }).push { cls := .type "dict",data := .dict #[] }) scope.names):=
  T.keep _ _ _ st2 λb hb o e=>pushCells_keeps _ _ b o (ao _ (ao _ e))
 have henv:({ scope:=relabel scope X.env,locals:=(s2.heap.push { cls := .type "list",dict:=none,data := .seq ([]:List Value).toArray }).objs.size,globals:=X.env.globals,cells:=cellsFrom ((s2.heap.push { cls := .type "list",dict:=none,data := .seq ([]:List Value).toArray }).objs.size+1) scope.names (jw X.env scope.names []),qual:=X.env.qual,func:=none,code:=X.env.code,frame:=X.env.frame,builtins:=X.env.builtins }:Env)=Xb.env:=by
  rw[<- hXb,bp];rfl
 generalize hs4:({ s2 with heap:=pushCells ((s2.heap.push { cls := .type "list",dict:=none,data := .seq ([]:List Value).toArray }).push { cls := .type "dict",data := .dict #[] }) scope.names }:Shared)=s4 at I4
 have hD4':s4.heap.get? s2.heap.objs.size=some { cls := .type "list",data := .seq ([]:List Value).toArray }:=by rw [<- hs4];exact hD4
 have st4':tn 0 s4.heap:=by rw[<- hs4];exact st4
 have hL:Xb.env.locals=s2.heap.objs.size+1:=by rw[<- hXb];rfl
 have hex:Xb.ex=fp:=by rw[<- hXb];rfl
 have hs0:Xb.s₀=s2:=by rw[<- hXb];rfl
 have hH0:Xb.H₀=H2:=by rw[<- hXb];rfl
 have hfs:Xb.fs=frs X.stack:=by rw[<- hXb];rfl
 have hpn:Xb.pn = []:=by rw[<- hXb];rfl
 have hK:Xb.K=X.K:=by rw[<- hXb];rfl
 have hP:Xb.prog=X.prog:=by rw[<- hXb];rfl
 have hw:Xb.w=X.w:=by rw[<- hXb];rfl
 have hA:Xb.A=X.A:=by rw[<- hXb];rfl
 have hxe:Xb.xe=λ_ _=>False:=by rw[<- hXb];rfl
 have hcb:Xb.calm=true:=by rw[<- hXb];exact hc
 have hNb:Xb.N=N':=by rw[<- hXb];rfl
 have hfn: ∀y,scope.names.lookup y=some .cell->Xb.fn y=true:=λy hy=>by rw[<- hXb];show(scope.names.lookup y==some .cell)=true;rw[hy];rfl
 have htb:PTs Xb ifs tt:=by rw[<- hXb];exact ht _ _ _
 have heb:PE Xb elt te:=by rw[<- hXb];exact he _ _ _
 have hgb: ∀(pl:List (Addr×Obj)) (s:Shared) (H:Hp) (v:V) (u:Value) (Q:St->Hp->Prop),Inv Xb pl (σ++aw xs.length none) H s->RelV v u->gT v H Q ->
   az (model X.prog X.w) X.A (assign tg Xb.env u) (λ_ s' =>∃τ H',τ.length=xs.length/\Inv Xb pl (σ++τ) H' s'/\Q τ H') (λ_ _=>False) s:=by
  rw[<- hXb];exact htg _ _ _
 have cellne: ∀y c,Xb.env.cells.lookup y=some c->c≠s2.heap.objs.size:=λy c e z=>by
  obtain⟨v,o,ho,hd⟩:=I4.cell y c e
  rw[z,hD4']at ho
  cases ho
  cases hd
 have stat: ∀{H':Hp}{pl:List (Addr×Obj)},(∀b∈fp,H' b=none)->(∀p∈pl,p.1=s2.heap.objs.size) -> ∀b∈fp,sQ Xb pl H' b:=λ{H' pl} hn hpl b hb=>by
  refine⟨hn b hb,?_,?_,.inl (by rw[hex];exact hb),λy c e z =>?_,λp hp z =>?_⟩
  ·rw[hL];exact aL (bY (hlt b hb))
  ·exact I4.ok.exfs b (by rw[hex];exact hb)
  ·exact(I4.ok.exf b (by rw[hex];exact hb)).2 y c e z
  ·rw[hpn]at hp
   have h1:=hpl p (by simpa using hp)
   have h2:=hlt b hb
   exact absurd h2 (by rw[<- z,h1];exact bZ _)
 have Dfs:s2.heap.objs.size∉Xb.fs:=by
  rw[hfs]
  intro z
  rcases aO.mp (I2.stkSub _ z) with e |e
  ·exact absurd I2.lt (by rw[<- e];exact bZ _)
  ·exact I2.nofs (aq _) e
 have fin : ∀ (s':Shared) (i m:Nat) (ys:List V) (its:List Value) (n:Nat) (H':Hp) (σ':St),Inv Xb [] σ' H' s'->H' s2.heap.objs.size=none->s'.heap.get? s2.heap.objs.size=some { cls := .type "list",data := .seq its.toArray n }->b8 ys its->ys.length < sizeLine ->
   (∀D,H' D=none->Q (.ref D) (upd H' D (.lst ys)))->compPost (model X.prog X.w) X.A X.xe use Qf (.ref s2.heap.objs.size) Xb.env.locals (.ok .next) s':=by
  intro s' i m ys its n H' σ' I' hDn hDo rv hz q
  obtain⟨ml,hml,_⟩:=I'.loc
  have kb: ∀b o,b≠Xb.env.locals->s'.heap.get? b=some o->s'.heap.get? b=some o:=λb o _ e=>e
  have hDL:s2.heap.objs.size≠Xb.env.locals:=by rw[hL];exact aL (bF _)
  have hok1:HOk X.prog X.w H' s'.heap:=by
   have:=I'.hok.but I'.free kb
   rw[hP,hw]at this;exact this
  have hok2:HOk X.prog X.w (upd H' s2.heap.objs.size (.lst ys)) s'.heap:=hok1.track hDn ⟨bG hz,its,n,rv,kb _ _ hDL hDo⟩
  have base:=I'.base
  rw[hs0,hH0,hex,hfs]at base
  have un:Un (frs X.stack) fp H2 (upd H' s2.heap.objs.size (.lst ys)) s2.heap s'.heap:=by
   have ltL: ∀b o,s2.heap.get? b=some o->b≠Xb.env.locals:=λb o e=>by rw[hL];exact aL (bY (aD e))
   have ltD: ∀b o,s2.heap.get? b=some o->b≠s2.heap.objs.size:=λb o e=>aL (aD e)
   refine⟨λb o e n hb hx=>kb b o (ltL b o e) (base.keep b o e n hb hx),λb o e n hb hx =>?_,λb o e n hx =>?_,λb o e hx =>?_,λb xs e =>?_,λb o u e =>?_,λb ps e =>?_⟩
   ·obtain⟨sl,q⟩:=base.slot b o e n hb hx
    exact⟨sl,kb b _ (ltL b o e) q⟩
   ·rw[bR (ltD b o e)];exact base.free b o e n hx
   ·obtain⟨o',q⟩:=base.there b o e hx
    exact⟨o',kb b _ (ltL b o e) q⟩
   ·have q:=base.tups b xs e
    rw[bR (bI q hDn)];exact q
   ·have q:=base.frzs b o u e
    rw[bR (bI q hDn)];exact q
   ·obtain⟨more,q⟩:=base.tbls b ps e
    exact⟨more,by rw[bR (bI q hDn)];exact q⟩
  have os:s'.os=s2.os:=by rw[I'.os,hs0]
  have If:=I2.call' (s':=s') os un hok2 I'.bare λb hb=>⟨(f2 b hb).2.2.2.1,(f2 b hb).2.1,(f2 b hb).2.2.2.2.1,(f2 b hb).2.2.2.2.2⟩
  refine hfin s' _ _ _ ml hml If ?_ ?_ ?_ ?_ ?_ (q _ hDn)
  ·rw[bR (cU hDL)];exact I'.free
  ·rw[hL];exact cj (bY I2.lt)
  ·rw[hL];exact fR I2.sz
  ·intro y c e z
   obtain⟨v,o,ho,_⟩:=I2.cell y c e
   have:=aD ho
   rw[z,hL]at this;exact absurd (Nat.lt_of_succ_lt this) (bZ _)
  ·intro p hp z
   have:=aD (I2.pin p hp).1
   rw[z,hL]at this;exact absurd (Nat.lt_of_succ_lt this) (bZ _)
 have loop: ∀it':Addr,it'=it->pz (model X.prog X.w) X.A (.compLoop (.ListComp elt [⟨tg,iter,ifs,0⟩] scope pos) 0 (.ref it') (.ref s2.heap.objs.size) Xb.env) (compPost (model X.prog X.w) X.A X.xe use Qf (.ref s2.heap.objs.size) Xb.env.locals) s4:=by
  rintro it' rfl
  refine lY (λn s' =>∃(i:Nat) (ys:List V) (its:List Value) (nn:Nat) (H':Hp),Inv Xb [] (σ++aw xs.length none) H' s'/\tn i s'.heap/\(∀b∈fp,H' b=none)/\H' s2.heap.objs.size=none /\
   s'.heap.get? s2.heap.objs.size=some { cls := .type "list",data := .seq its.toArray nn }/\b8 ys its/\W i n ys H') ?_ m0 ⟨0,[],[],_,H2,I4,st4',fun b hb=>(f2 b hb).1,I2.hok.fresh (aq _),hD4',.nil,w0⟩
  rintro n s3 ⟨i,ys,its,nn,H3,I3,st3,fr3,hD3,hDo3,rv3,w3⟩
  obtain⟨hz,turn⟩:=turn i n ys H3 w3
  have pinD: ∀{s':Shared}{H':Hp}{σ':St}{oD:Obj},Inv Xb [] σ' H' s'->H' s2.heap.objs.size=none->s'.heap.get? s2.heap.objs.size=some oD->(∀v,oD.data≠.cell v)->Inv Xb [(s2.heap.objs.size,oD)] σ' H' s':=λ{s' H' σ' oD} I' hn ho hd=>
   I'.pins_of λp hp=>by
    have e:p=(s2.heap.objs.size,oD):=by simpa using hp
    subst e
    exact⟨ho,hn,by rw[hL];show s2.heap.objs.size≠_;exact aL (bF _),Dfs,hd⟩
  have I3p:=pinD I3 hD3 hDo3 (λv z=>by cases z)
  have hpl : ∀ p ∈ [(s2.heap.objs.size,({ cls := .type "list",data := .seq its.toArray nn }:Obj))],p.1=s2.heap.objs.size:=fun p hp=>by
   have e:=aQ.mp hp
   rw[e]
  rcases turn with⟨stop,qn⟩ | ⟨go,step⟩
  ·have q:=T.done Xb hP hw hK hcb i _ s3 _ H3 (λ_ _=>False) I3p (stat fr3 hpl) st3 stop
   rw[hA]at q
   refine cY q (λr s5 ⟨hr,I5⟩ =>?_) λ_ _ z=>dr z
   subst hr
   exact fin s5 i n ys its nn H3 _ (I5.pins_of λp hp=>absurd hp (by simp)) hD3 (I5.pin _ (aR _ (aQ.mpr rfl))).1 rv3 hz qn
  ·have q:=T.item Xb hP hw hK hcb i _ s3 _ H3 (λ_ _=>False) I3p (stat fr3 hpl) st3 go
   rw[hA]at q
   refine cY q (λr s45 ⟨u,hr,h5⟩ =>?_) λ_ _ z=>dr z
   subst hr
   refine cY h5 (λ_ s5 ⟨y5,H5,I5,r5,yl5,st5,fr5⟩ =>?_) λ_ _ z=>dr z
   have hD5:=(I5.pin _ (aR _ (aQ.mpr rfl)))
   have I5':=I5.pinned (stat fr5 hpl) (T.obj _ _ st5)
   refine cY (hgb _ s5 H5 y5 _ _ I5' r5 (step y5 H5 yl5)) (λ_ s6 ⟨τ,H6,hτ,I6,q6⟩ =>?_) λ_ _ z=>dr z
   have qt:=htb _ s6 _ H6 _ I6 q6
   rw[hP,hw,hA,hxe]at qt
   refine cY qt (λb s7 ⟨H7,I7,q7⟩ =>?_) λ_ _ z=>dr z
   have again : ∀ {s8:Shared}{H8:Hp}{σ8:St},Inv Xb ([(s2.heap.objs.size,({ cls := .type "list",data := .seq its.toArray nn }:Obj))]++rF fp s5.heap) σ8 H8 s8->tn (i+1) s8.heap/\(∀ b∈fp,H8 b=none)/\H8 s2.heap.objs.size=none/\s8.heap.get? s2.heap.objs.size=some { cls := .type "list",data := .seq its.toArray nn }:=fun {s8 H8 σ8} I8=>by
    refine⟨T.keep _ _ _ st5 λb hb o e=>(I8.pin (b,o) (aR _ (aR _ (kB hb e)))).1,λb hb =>?_,?_,?_⟩
    ·obtain⟨o,e,d⟩:=T.obj _ _ st5 b hb
     exact(I8.pin (b,o) (aR _ (aR _ (kB hb e)))).2.1
    ·exact(I8.pin _ (aR _ (bo _ (aQ.mpr rfl)))).2.1
    ·exact(I8.pin _ (aR _ (bo _ (aQ.mpr rfl)))).1
   have forget: ∀{s8:Shared}{H8:Hp}{pl:List (Addr×Obj)},Inv Xb pl (σ++τ) H8 s8->Inv Xb [] (σ++aw xs.length none) H8 s8:=λ{s8 H8 pl} I8=>
    (I8.pins_of (pins':= []) λp hp=>absurd hp (by simp)).weak (by simp[hτ]) λj v hj=>by
     by_cases hjs:j<σ.length
     ·rw[bg hjs]at hj ⊢;exact hj
     ·rw[aG (by exact b6 (by assumption)),hJ]at hj
      split at hj <;> simp at hj
   cases b with
   | false=>
     have q7': ∃m',m'<n/\W (i+1) m' ys H7:=q7
     obtain⟨m',hm,w7⟩:=q7'
     obtain⟨a1,a2,a3,a4⟩:=again I7
     exact⟨m',hm,i+1,ys,its,nn,H7,forget I7,a1,a2,a3,a4,rv3,w7⟩
   | true=>
     have q7':te (σ++τ) H7 λy H4 =>∃m',m'<n/\W (i+1) m' (ys++[y]) H4:=q7
     have qe:=heb _ s7 _ H7 _ I7 q7'
     rw[hP,hw,hA,hxe]at qe
     refine cY qe (λuv s8 ⟨y8,H8,I8,r8,m',hm,w8⟩ =>?_) λ_ _ z=>dr z
     obtain⟨a1,a2,a3,a4⟩:=again I8
     have I9:=forget I8
     have hl3:=rv3.length
     refine call_meets F.slot_list_append ⟨_,a4,rfl⟩ F.entry_list_append (F.args_list_append_2 _ _) (PySem.list_append s2.heap.objs.size its.toArray nn uv (by rw[aF];omega)) ⟨a4,?_⟩
     have hup:=Ej a4 (·.push uv)
     have e1:(its.toArray.push uv)=(its++[uv]).toArray:=by simp
     rw[e1]at hup
     have I10:Inv Xb [] (σ++aw xs.length none) H8 { s8 with heap:=s8.heap.update s2.heap.objs.size (cH (·.push uv)) }:=
      I9.turned (t':=s8.toks) (λb' u hb hu=>(cg s8.heap (cH (·.push uv)) (cU hb)).trans hu) a3 (by rw[hL];exact aL (bF _)) (.inr (by rw[hs0];exact aq _)) cellne (λp hp=>by rw[hpn]at hp;exact absurd hp (by simp))
     refine⟨m',hm,i+1,ys++[y8],its++[uv],_,H8,I10,T.keep _ _ _ a1 λb hb o e =>?_,a2,a3,hup,rv3.append (.cons r8 .nil),w8⟩
     exact(cg s8.heap (cH (·.push uv)) (by first |exact cj (hlt b hb) |exact aL (hlt b hb))).trans e
 have start:=codeAny_compStart_list (loop it rfl) (T.self X.A 0 s4 _ _ st4' (loop it rfl))
 rw[henv]
 have eL:(s2.heap.push { cls := .type "list",dict:=none,data := .seq ([]:List Value).toArray }).objs.size=Xb.env.locals:=by rw [bp,hL]
 rw[eL]
 exact start
theorem Ab(C:iJ X N' scope [x]){σ:St}(s₂:Shared)(H₂:Hp)(fp:List Addr)(pl:List (Addr×Obj))(s:Shared)(H:Hp)(v:V)(u:Value)(Q:St->Hp->Prop)(I:Inv (blk X N' scope s₂ H₂ fp) pl (σ++aw [x].length none) H s)(r:RelV v u)(q:gT1 v H Q):
  az (model X.prog X.w) X.A (assign (.Name x px) (blk X N' scope s₂ H₂ fp).env u) (λ_ s' =>∃τ H',τ.length = [x].length/\Inv (blk X N' scope s₂ H₂ fp) pl (σ++τ) H' s'/\Q τ H') (λ_ _=>False) s:=by
 have hl:σ.length=X.N.length:=by
  have:=I.len
  rw[show(blk X N' scope s₂ H₂ fp).N=N' from rfl,C.len,bj,ek]at this
  omega
 have hlocx:Loc (blk X N' scope s₂ H₂ fp).env.scope x:=by
  rcases C.own x (by simp) with e |e
  ·exact .inl (lookup_relabel_local e)
  ·exact .inr (ki e)
 have hfx:(blk X N' scope s₂ H₂ fp).fn x=true\/(blk X N' scope s₂ H₂ fp).env.scope.names.lookup x=some .local:=by
  rcases C.own x (by simp) with e |e
  ·right;exact lookup_relabel_local e
  ·left;show(scope.names.lookup x==some .cell)=true;rw[e];rfl
 refine xO (oA I C.ndN (i:=X.N.length) (C.last 0 x rfl) hlocx r (λs6 I6 =>?_) hfx)
 have hset:(σ++aw [x].length none).set X.N.length (some v)=σ++[some v]:=by
  rw[<- hl,iT _ _ (aq _)];simp
 rw[hset]at I6
 exact⟨[some v],H,rfl,I6,q⟩
theorem GP(hc:X.calm=true)(C:iJ X N' scope [x])(hi:PI X (.Name x px) iter wi)
  (ht: ∀s₂ H₂ fp,PTs (blk X N' scope s₂ H₂ fp) ifs tt) (he: ∀s₂ H₂ fp,PE (blk X N' scope s₂ H₂ fp) elt te)
  (hs:autoParam (∀x,foldedSetIterable iter X.env x=pure x) au3._auto_1):
  PE X (.ListComp elt [⟨.Name x px,iter,ifs,0⟩] scope pos) (og wi tt te):=by
 intro pins s σ H Q I h
 rw[eval_ListComp]
 refine wpAny_comprehension_free (use:=none) (cl:=jw X.env scope.names []) rfl hs (kT (C.frees I.ok)) C.kind (λy hy e=>mX C.nd (by rw[<- e];exact hy)) ?_
 refine uk (gT:=gT1) hc C hi ht he I h (Ab C) λs' L D H' ml hml I' hn h1 h2 h3 h4 q =>?_
 exact⟨ml,hml,λh' hsb=>⟨.ref D,H',I'.turned (t':=s'.toks) (λb o hb e=>(hsb.2 b hb).trans e) hn h1 (.inr h2) h3 h4,rfl,q⟩⟩
theorem Gy{i:Nat}{y:Str}{py spos:Pos}(hN:X.N.Nodup)(hi':X.N[i]? = some y)(hy:Loc X.env.scope y)(hc:X.calm=true)(C:iJ X N' scope [x])(hi:PI X (.Name x px) iter wi)
  (ht: ∀s₂ H₂ fp,PTs (blk X N' scope s₂ H₂ fp) ifs tt) (he: ∀s₂ H₂ fp,PE (blk X N' scope s₂ H₂ fp) elt te)
  (hsw:swapsWith (.ListComp elt [⟨.Name x px,iter,ifs,0⟩] scope pos) (some (.Name y py)) spos.line X.env=pure true)
  (hs:autoParam (∀x,foldedSetIterable iter X.env x=pure x) au3._auto_1) (hf:autoParam (X.fn y=true\/X.env.scope.names.lookup y=some .local) au4._auto_1):
  PS X (.Assign [.Name y py] (.ListComp elt [⟨.Name x px,iter,ifs,0⟩] scope pos) spos) (BV (og wi tt te) (iO i)):=by
 intro pins s σ H D I h
 rw[exec_Assign_Name_used _ _ _ _ hsw]
 refine af (wpAny_standAt (af ?_))
 show az _ X.A (do let _ <- comprehension (.ListComp elt [⟨.Name x px,iter,ifs,0⟩] scope pos) scope X.env _ (newList []) false (eval iter X.env) (some (assign (.Name y py) X.env))) _ _ s
 refine af (cY (wpAny_comprehension_free (use:=some (assign (.Name y py) X.env)) (Q:=λ_ s'=>SP X pins D .next s') (cl:=jw X.env scope.names []) rfl hs (kT (C.frees I.ok)) C.kind (λy hy e=>mX C.nd (by rw[<- e];exact hy))
  (uk (gT:=gT1) (Q:=λv H1=>iO i v σ H1 D.nx) hc C hi ht he I h (Ab C) λs' L D' H' ml hml I' hn h1 h2 h3 h4 q =>?_)) (λ_ s' hq=>aj (aj hq)) λ_ _ e=>e)
 show az _ X.A (assign (.Name y py) X.env (.ref D')) _ _ _
 refine xO (ub (v:= .ref D') I' hN hi' hy rfl (λs6 I6 hsb =>?_) hf)
 obtain⟨a,hsb,ha⟩:=hsb
 have haL:L≠a:=by
  rcases ha with e |e
  ·rw[e];exact h1
  ·exact cU (h3 _ _ e)
 refine⟨ml,hml.sameBut hsb haL,λh' hsb' =>?_⟩
 exact⟨_,H',I6.turned (t':=s6.toks) (λb o hb e=>(hsb'.2 b hb).trans e) hn h1 (.inr h2) h3 h4,q⟩
end
end _L
end
section
namespace HT
open PySem PyProof.Rows
open PySem.SeqAt
open PySem.AutoSeq1 (wpAny_loadPart')
open PySem.MeetsSeq PySem.MeetsSeq2 PySem.MeetsSeq3
section
variable {prog:Program}{w:World}{A:Around}{E:Value->Shared->Prop}{s:Shared}
theorem getItem_tuple_whole{t sl:Addr}{items:Array Value}{vl vu:Value}{lo hi:Option Int}{Q:Value->Shared->Prop}(ht:IsTup s.heap t items)(hs:s.heap.IsSliceOf sl vl vu .none)(pl:IsPart vl lo)(pu:IsPart vu hi)
  (hw:sIx items.size 0 lo=0/\sIx items.size items.size hi=items.size)
  (h:Q (.ref t) s):az (model prog w) A (getItem (.ref t) (.ref sl)) Q E s:=by
 obtain⟨os,hos,hcs,hds⟩:=id hs
 have hTs:s.TypeIs (.ref sl) "slice":=⟨os,hos,hcs⟩
 unfold getItem
 try with_reducible refine df ?_
 first |refine af (aj ?_) |skip
 refine af (wpAny_sequenceKey ht.typeIs (by decide) ?_)
 refine af (bA (name:=dc "__getitem__") ht.typeIs en
  (bx en ht.typeIs entry_tuple_getitem ?_ (args_tuple_getitem _ _)))
 show az _ _ (qm (.ref t) >>= _) _ _ s
 refine af (tupleItemsOf_ ht ?_)
 refine af (gQ hTs ?_)
 rw[if_pos (by decide)]
 refine af (jZ hs pl pu ?_)
 rw[hw.1,hw.2]
 show az _ _ (if (((0:Nat):Int)==0&&(1:Int)==1&&(items.size - 0)==items.size)=true then _ else _) _ _ s
 rw[if_pos (by simp)]
 obtain⟨o,ho,hc,n,hd⟩:=id ht
 refine af (m:=qp _) ?_
 unfold qp
 refine af (gQ ⟨o,ho,hc⟩ (aj ?_))
 rw[if_pos (by decide)]
 refine af (jO ?_)
 first
  | exact aj ⟨_,rfl,aj h⟩
  | exact af (aj (aj ⟨_,rfl,aj h⟩))
theorem cat_tup0{t b:Addr}{ws:List Value}{Q:Value->Shared->Prop}(ht:IsTup s.heap t ([]:List Value).toArray)(hb:IsTup s.heap b ws.toArray)(h:Q (.ref b) s):az (model prog w) A (binaryOp .Add (.ref t) (.ref b)) Q E s:=by
 obtain⟨⟨cls,dd,data,sl⟩,ho,hc,n,hd⟩:=id ht
 obtain⟨⟨cls2,dd2,data2,sl2⟩,ho2,hc2,n2,hd2⟩:=id hb
 simp only at hc hd hc2 hd2
 subst hc hd hc2 hd2
 exact concat_meets ⟨_,ho,rfl⟩ ⟨_,ho2,rfl⟩ noFill_tuple_add seq_tuple_add mH lr (kE _ _)
   (tuple_addW0 t b #[] ws.toArray n n2 dd dd2 sl sl2 (by simp)) ⟨ho,ho2,h⟩
end
end HT
end
section
namespace _G
open PySem PySem.SeqAt
open PySem.AutoSeq1 (wpAny_loadPart')
open PySem.MeetsSeq PySem.MeetsSeq2 PySem.MeetsSeq3
theorem tF(l:Addr)(items:Array Value)(n:Nat)(dd:Option Addr)(sl:Array (Option Value))(x:Value)(e:Value->Bool)(j:Nat)(hj:j<items.size)
  (hit:e items[j]=true) (hno: ∀m (hm:m<items.size),m<j->e items[m]=false):
  Meets (Builtin.«tuple.index» ⟨[.ref l,x],[]⟩)
   (fun A R s=>s.heap.get? l=some { cls := .type "tuple",dict:=dd,data := .seq items n,slots:=sl }/\(∀ y,y∈items->EqAt A.in1 s y x (e y))/\R (.ok (.ret (.int j s.toks))) { s with toks:=s.toks+1 }):=
 .of_wp λprog w A R s h=>by
  obtain⟨hp,g,d,tk,os⟩:=s;obtain⟨hl,he,h⟩:=h
  simp only[Builtin.«tuple.index»,Std.Legacy.Range.forIn_eq_forIn_range']
  wp_walk using dI hl,wpAny_forIn_list _ (λrest b s'=>b.1=none/\s'=⟨hp,g,d,tk,os⟩ /\ ∃i,i<=j/\rest=bu i (items.size - i)) _
  case turn=>
   rintro y rest b s' ⟨hb,rfl,i,hij,hrest⟩
   have hlt:i<items.size:=by
    rcases Nat.lt_or_ge i items.size with q |q
    ·exact q
    ·exact aJ (by assumption) (by assumption)
   obtain⟨k,hk⟩ : ∃k,items.size - i=k+1:=⟨items.size - i - 1,by omega⟩
   rw[hk,uG]at hrest
   injection hrest with h1 h2
   subst h1
   have hg:items[y]? = some items[y]:=by simp[hlt]
   rw[hg]
   refine af (he _ (Array.getElem_mem hlt) prog w _ _ ?_)
   by_cases hyj:y=j
   ·subst hyj
    rw[hit]
    wp_walk
    exact⟨_,rfl,h⟩
   ·rw[hno y hlt (by exact hV (by assumption) (by assumption))]
    wp_walk
    exact⟨rfl,rfl,y+1,by exact hV (by assumption) (by assumption),by rw[h2];congr 1;omega⟩
  case fin=>
   rintro ⟨b1,b2⟩ s' ⟨hb,rfl,i,hij,hrest⟩
   exfalso
   have h3:=congrArg oV hrest
   simp at h3
   omega
  case h=>
   exact⟨rfl,rfl,0,cR _,by simp⟩
end _G
end
section
namespace _G
open PySem PySem.SeqAt
open PySem.AutoSeq1 (wpAny_loadPart')
open PySem.MeetsSeq PySem.MeetsSeq2 PySem.MeetsSeq3
theorem o8:fillsNumberSlot (.type "tuple") "mul"=pure false:=
 fillsNumberSlot_seq (id:="tuple.__mul__") (r:=some (.builtin "tuple.__rmul__")) F.slot_tuple_mul.lookup (by decide +kernel) F.slot_tuple_rmul.lookup (by decide +kernel)
theorem vG:seqRepeat? (.type "tuple")=pure (some (.builtin "tuple.__mul__")):=by
 unfold seqRepeat?
 rw [seqSlot_of (T:="tuple") (name:="__mul__") (id:="tuple.__mul__") F.slot_tuple_mul.lookup (by decide +kernel),seqSlot_of (T:="tuple") (name:="__rmul__") (id:="tuple.__rmul__") F.slot_tuple_rmul.lookup (by decide +kernel)]
 rfl
theorem rq(a:Int)(t:Tok)(l:Addr)(items:Array Value)(n:Nat)(dd:Option Addr)(sl:Array (Option Value)):
  Meets (Builtin.«int.__rmul__» ⟨[.int a t,.ref l],[]⟩) (fun _ R s=>s.heap.get? l=some { cls := .type "tuple",dict:=dd,data := .seq items n,slots:=sl }/\R (.ok (.ret Value.notImplemented)) s):=
 .of_wp λprog w A R s h=>by obtain⟨hp,g,d,tk,os⟩:=s;obtain⟨hl,h⟩:=h;wp_walk;exact⟨_,rfl,h⟩
theorem tq(l:Addr)(items:Array Value)(n:Nat)(dd:Option Addr)(sl:Array (Option Value))(t:Tok):
  Meets (Builtin.«tuple.__mul__» ⟨[.ref l,.int 1 t],[]⟩) (fun _ R s=>s.heap.get? l=some { cls := .type "tuple",dict:=dd,data := .seq items n,slots:=sl }/\R (.ok (.ret (aU l))) { s with toks:=s.toks }):=
 .of_wp λprog w A R s h=>by
  obtain⟨hp,g,d,tk,os⟩:=s;obtain⟨hl,h⟩:=h
  have f1:=qL
  have hno: ¬((decide ((1:Int) < -2 ^ 63)||decide ((1:Int) >= 2 ^ 63))=true):=by decide
  have hyes:(items.isEmpty||(1:Int)==1)=true:=by simp
  wp_walk using dI hl
  exact⟨_,rfl,h⟩
theorem yW(l:Addr)(items:Array Value)(n:Nat)(dd:Option Addr)(sl:Array (Option Value))(t:Tok)(he:items.isEmpty=false):
  Meets (Builtin.«tuple.__mul__» ⟨[.ref l,.int 0 t],[]⟩) (fun _ R s=>s.heap.get? l=some { cls := .type "tuple",dict:=dd,data := .seq items n,slots:=sl }/\R (.ok (.ret (aU s.heap.objs.size))) { s with heap:=s.heap.push { cls:=kd "tuple",data:=Et #[] },toks:=s.toks }):=
 .of_wp λprog w A R s h=>by
  obtain⟨hp,g,d,tk,os⟩:=s;obtain⟨hl,h⟩:=h
  have f1:=qL
  have hno: ¬((decide ((0:Int) < -2 ^ 63)||decide ((0:Int) >= 2 ^ 63))=true):=by decide
  have hno1: ¬((items.isEmpty||(0:Int)==1)=true):=by rw[he];decide
  have hyes:(decide ((0:Int)<=0)||items.isEmpty)=true:=by simp
  wp_walk using dI hl
  exact⟨_,rfl,h⟩
theorem ym(l:Addr)(items:Array Value)(n:Nat)(dd:Option Addr)(sl:Array (Option Value))(k:Int)(t:Tok)(h1: ¬(items.isEmpty||k==1)=true)(h0:0<k)(hk:k<1000)(hz:items.size<1000):
  Meets (Builtin.«tuple.__mul__» ⟨[.ref l,.int k t],[]⟩) (fun _ R s=>s.heap.get? l=some { cls := .type "tuple",dict:=dd,data := .seq items n,slots:=sl } /\
   R (.ok (.ret (aU s.heap.objs.size))) { s with heap:=s.heap.push { cls:=kd "tuple",data:=Et ((aw k.toNat items).foldl (· ++ ·) #[]) },toks:=s.toks }):=
 .of_wp λprog w A R s h=>by
  obtain⟨hp,g,d,tk,os⟩:=s;obtain⟨hl,h⟩:=h
  have f1:=qL
  have hno: ¬((decide (k < -2 ^ 63)||decide (k >= 2 ^ 63))=true):=by
   rw[vT,decide_eq_true_eq,decide_eq_true_eq];omega
  have he:items.isEmpty=false:=by
   cases q:items.isEmpty with
   | false=>rfl
   | true=>rw[q]at h1;simp at h1
  have hno2: ¬((decide (k<=0)||items.isEmpty)=true):=by
   rw[he,Bool.or_false,decide_eq_true_eq];omega
  have hp1:(items.size:Int)*k<=1000000:=by
   have a1:(items.size:Int)*k<=1000*k:=Int.mul_le_mul_of_nonneg_right (by omega) (by omega)
   omega
  have hm1: ¬((items.size:Int)*k > (2 ^ 63 - 1) / 8):=by omega
  have hm2: ¬(qr ((items.size:Int)*k)=true):=by
   unfold qr
   simp only[sizeLine_eq,decide_eq_true_eq,gt_iff_lt]
   omega
  have hsz:(yc (λx1 x2=>x1++x2) #[] (aw k.toNat items)).size<=sizeLine:=by
   have e: ∀(m:Nat) (a:Array Value),(yc (λx1 x2=>x1++x2) a (aw m items)).size=a.size+m*items.size:=by
    intro m
    induction m with
    | zero=>intro a;simp
    | succ m ih=>intro a;rw[dy,jH,ih];simp;rw[tL];omega
   rw[e]
   have a2:k.toNat*items.size<=1000*items.size:=gk _ (by omega)
   rw[sizeLine_eq]
   simp;omega
  wp_walk using dI hl
  rw[if_neg hno]
  wp_walk using dI hl
  rw[if_neg h1]
  wp_walk using dI hl
  rw[if_neg hm1]
  wp_walk using dI hl
  all_goals first |exact⟨_,rfl,h⟩ |skip
end _G
end
section
namespace _G
open PySem PySem.Spec _L
open PyProof.Rows hiding St
mutual
noncomputable def RU(H:Hp)(μ:List Addr):U->V->Prop
 | .non,v=>v = .non
 | .bl b,v=>v = .bl b
 | .int i,v=>v = .int i
 | .str x,v=>v = .str x
 | .tup us,v =>∃a vs,v = .ref a/\H a=some (.tup vs)/\RUs H μ us vs
 | .ref n,v =>∃a,v = .ref a/\μ[n]? = some a
 | .obj a,v=>v = .ref a
noncomputable def RUs(H:Hp)(μ:List Addr):List U->List V->Prop
 | [],vs=>vs = []
 | u::us,vs =>∃v r,vs=v::r/\RU H μ u v/\RUs H μ us r
end
structure br(H H':Hp):Prop where
 t: ∀a vs,H a=some (.tup vs)->H' a=some (.tup vs)
 f: ∀a o u,H a=some (.frz o u)->H' a=some (.frz o u)
noncomputable instance{H H':Hp}:CoeFun (br H H') λ_ =>∀a vs,H a=some (.tup vs)->H' a=some (.tup vs):=⟨br.t⟩
noncomputable def Pre(μ μ':List Addr):Prop:= ∃t,μ'=μ++t
theorem br.refl(H:Hp):br H H:=⟨λ_ _ h=>h,λ_ _ _ h=>h⟩
theorem br.trans{H H1 H2:Hp}(a:br H H1)(b:br H1 H2):br H H2:=⟨λc vs h=>b c vs (a c vs h),λc o u h=>b.f c o u (a.f c o u h)⟩
theorem Pre.refl(μ:List Addr):Pre μ μ:=⟨[],by simp⟩
theorem Pre.trans{μ μ1 μ2:List Addr}(a:Pre μ μ1)(b:Pre μ1 μ2):Pre μ μ2:=by
 obtain⟨t,rfl⟩:=a
 obtain⟨u,rfl⟩:=b
 exact⟨t++u,by simp⟩
theorem Pre.get{μ μ':List Addr}(p:Pre μ μ'){n:Nat}{a:Addr}(h:μ[n]? = some a):μ'[n]? = some a:=by
 obtain⟨t,rfl⟩:=p
 have hn:n<μ.length:=(ak.mp h).1
 rw[bg hn];exact h
theorem br.new{H:Hp}{p:Addr}{o:HO}(h:H p=none):br H (upd H p o):=⟨λa vs e=>by rw[bR (bI e h)];exact e,λa _ _ e=>by rw[bR (bI e h)];exact e⟩
theorem br.wr{H:Hp}{p:Addr}{xs ys:List V}(h:H p=some (.lst xs)):br H (upd H p (.lst ys)):=⟨λa vs e=>by
 rw[bR (ur e h (by intro z;cases z))];exact e,λa _ _ e=>by
 rw[bR (ur e h (by intro z;cases z))];exact e⟩
mutual
theorem RU.mono{H H':Hp}{μ μ':List Addr}(k:br H H')(p:Pre μ μ'): ∀(u:U) (v:V),RU H μ u v->RU H' μ' u v
 | .non,_,h=>by simpa [RU]using h
 | .bl _,_,h=>by simpa [RU]using h
 | .int _,_,h=>by simpa [RU]using h
 | .str _,_,h=>by simpa [RU]using h
 | .obj _,_,h=>by simpa [RU]using h
 | .ref n,v,h=>by
   simp only[RU]at h ⊢
   obtain⟨a,e,q⟩:=h
   exact⟨a,e,p.get q⟩
 | .tup us,v,h=>by
   simp only[RU]at h ⊢
   obtain⟨a,vs,e,q,r⟩:=h
   exact⟨a,vs,e,k a vs q,RUs.mono k p us vs r⟩
theorem RUs.mono{H H':Hp}{μ μ':List Addr}(k:br H H')(p:Pre μ μ'): ∀(us:List U) (vs:List V),RUs H μ us vs->RUs H' μ' us vs
 | [],_,h=>by simpa [RUs]using h
 | u::us,vs,h=>by
   simp only[RUs]at h ⊢
   obtain⟨v,r,e,a,b⟩:=h
   exact⟨v,r,e,RU.mono k p u v a,RUs.mono k p us r b⟩
end
section
variable {H:Hp}{μ:List Addr}
theorem RUs.nil:RUs H μ [] []:=by simp[RUs]
theorem RUs.cons{u:U}{us:List U}{v:V}{vs:List V}(a:RU H μ u v)(b:RUs H μ us vs):RUs H μ (u::us) (v::vs):=by
 simp only[RUs];exact⟨v,vs,rfl,a,b⟩
theorem RUs.inv{u:U}{us:List U}{vs:List V}(h:RUs H μ (u::us) vs): ∃v r,vs=v::r/\RU H μ u v/\RUs H μ us r:=by simpa only [RUs]using h
theorem RUs.nil_inv{vs:List V}(h:RUs H μ [] vs):vs = []:=by simpa only [RUs]using h
theorem RUs.len: ∀{us:List U}{vs:List V},RUs H μ us vs->us.length=vs.length
 | [],vs,h=>by rw[h.nil_inv];rfl
 | u::us,vs,h=>by
   obtain⟨v,r,rfl,_,b⟩:=h.inv
   simp[b.len]
theorem RUs.get: ∀{us:List U}{vs:List V}{i:Nat}{u:U},RUs H μ us vs->us[i]? = some u -> ∃v,vs[i]? = some v/\RU H μ u v
 | [],vs,i,u,h,e=>by simp at e
 | x::us,vs,0,u,h,e=>by
   obtain⟨v,r,rfl,a,b⟩:=h.inv
   simp at e;subst e
   exact⟨v,rfl,a⟩
 | x::us,vs,i+1,u,h,e=>by
   obtain⟨v,r,rfl,a,b⟩:=h.inv
   obtain⟨w,h1,h2⟩:=RUs.get (i:=i) b (by simpa using e)
   exact⟨w,by simpa using h1,h2⟩
theorem RUs.append: ∀{us ws:List U}{vs xs:List V},RUs H μ us vs->RUs H μ ws xs->RUs H μ (us++ws) (vs++xs)
 | [],ws,vs,xs,h,g=>by rw[h.nil_inv];exact g
 | u::us,ws,vs,xs,h,g=>by
   obtain⟨v,r,rfl,a,b⟩:=h.inv
   exact .cons a (b.append g)
theorem RUs.set{u:U}{v:V}(q:RU H μ u v): ∀{us:List U}{vs:List V} (i:Nat),RUs H μ us vs->RUs H μ (us.set i u) (vs.set i v)
 | [],vs,i,h=>by rw[h.nil_inv];simpa using RUs.nil
 | x::us,vs,0,h=>by
   obtain⟨w,r,rfl,a,b⟩:=h.inv
   exact .cons q b
 | x::us,vs,i+1,h=>by
   obtain⟨w,r,rfl,a,b⟩:=h.inv
   exact .cons a (RUs.set q i b)
theorem RUs.eraseIdx: ∀{us:List U}{vs:List V} (i:Nat),RUs H μ us vs->RUs H μ (us.eraseIdx i) (vs.eraseIdx i)
 | [],vs,i,h=>by rw[h.nil_inv];simpa using RUs.nil
 | x::us,vs,0,h=>by
   obtain⟨w,r,rfl,a,b⟩:=h.inv
   exact b
 | x::us,vs,i+1,h=>by
   obtain⟨w,r,rfl,a,b⟩:=h.inv
   exact .cons a (RUs.eraseIdx i b)
theorem RUs.drop: ∀{us:List U}{vs:List V} (i:Nat),RUs H μ us vs->RUs H μ (us.drop i) (vs.drop i)
 | us,vs,0,h=>h
 | [],vs,i+1,h=>by rw[h.nil_inv];simpa using RUs.nil
 | x::us,vs,i+1,h=>by
   obtain⟨w,r,rfl,a,b⟩:=h.inv
   exact RUs.drop i b
theorem RUs.take: ∀{us:List U}{vs:List V} (i:Nat),RUs H μ us vs->RUs H μ (us.take i) (vs.take i)
 | us,vs,0,h=>by simpa using RUs.nil
 | [],vs,i+1,h=>by rw[h.nil_inv];simpa using RUs.nil
 | x::us,vs,i+1,h=>by
   obtain⟨w,r,rfl,a,b⟩:=h.inv
   exact .cons a (RUs.take i b)
theorem RUs.dropLast{us:List U}{vs:List V}(h:RUs H μ us vs):RUs H μ us.dropLast vs.dropLast:=by
 rw[El,El,h.len];exact h.take _
theorem RUs.ints: ∀(ns:List Int),RUs H μ (ns.map U.int) (ns.map V.int)
 | [] => .nil
 | n::ns => .cons (by simp[RU]) (RUs.ints ns)
end
structure KX where
 K:av
 caps:List U
 capv:List V
 cds:List (Addr×Obj)
 tabs:List (Addr×Str)
noncomputable instance:Coe KX av:=⟨KX.K⟩
noncomputable def fz:HO:= .ext λ_=>True
noncomputable def yL(H:Hp)(P:Addr)(q:Str):Prop:= ∃ps:Array Value,H P=some (.tbl ps)/\TriplesOk ps.toList /\
 ∀pos cv,codeAmong pos ps.toList=some cv -> ∃c oc vs t,cv = .ref c/\H c=some (.frz oc fz)/\oc.data = .fields vs/\vs[1]? = some (.str q t)
structure HX(K:KX)(μ:List Addr)(H:Hp):Prop where
 cap:RUs H μ K.caps K.capv
 cds: ∀q∈K.cds,H q.1=some (.frz q.2 fz)
 tab: ∀q∈K.tabs,yL H q.1 q.2
theorem HX.upd{K:KX}{μ μ':List Addr}{H:Hp}{p:Addr}{o':HO}(h:HX K μ H)(kp:br H (upd H p o'))(pre:Pre μ μ')(nf: ∀o,H p=some o->(∀o' u,o≠.frz o' u) /\ ∀ps,o≠.tbl ps):HX K μ' (upd H p o'):=by
 have f: ∀a o u,H a=some (.frz o u)->_L.upd H p o' a=some (.frz o u):=λa o u e=>by
  rw[bR]
  ·exact e
  ·rintro rfl
   exact(nf _ e).1 o u rfl
 refine⟨RUs.mono kp pre _ _ h.cap,λq hq=>f _ _ _ (h.cds q hq),λq hq =>?_⟩
 obtain⟨ps,e,tr,al⟩:=h.tab q hq
 refine⟨ps,?_,tr,λpos cv hc =>?_⟩
 ·rw[bR]
  ·exact e
  ·intro z
   rw[z]at e
   exact(nf _ e).2 ps rfl
 ·obtain⟨c,oc,vs,t,e1,e2,e3,e4⟩:=al pos cv hc
  exact⟨c,oc,vs,t,e1,f _ _ _ e2,e3,e4⟩
noncomputable def dV{κ:Type}(kvs:List (κ×U))(vs:List V):List (κ×V):=(kvs.map (·.1)).zip vs
noncomputable def nr(K:KX)(H:Hp)(μ:List Addr)(a:Addr):Cell->Prop
 | .lst us =>∃vs,H a=some (.lst vs)/\RUs H μ us vs
 | .frz us =>∃vs,((∃o,H a=some (.frz o (.lst vs)))\/SqL K (λ_=>none) a vs)/\RUs H μ us vs
 | .dic kvs =>∃vs,H a=some (.dK (dV kvs vs))/\RUs H μ (kvs.map (·.2)) vs
 | .dit false kvs =>∃vs,H a=some (.dT (dV kvs vs))/\RUs H μ (kvs.map (·.2)) vs
 | .dit true kvs =>∃vs,(∃o,H a=some (.frz o (.dT (dV kvs vs))))/\RUs H μ (kvs.map (·.2)) vs
noncomputable def Cell.own:Cell->Bool
 | .frz _=>false
 | .dit f _ => !f
 | _=>true
structure HR(K:KX)(μ:List Addr)(S:Sto)(H:Hp):Prop where
 len:μ.length=S.length
 inj: ∀(n m:Nat) (c d:Cell),S[n]? = some c->S[m]? = some d->c.own=true->d.own=true->μ[n]? = μ[m]? -> n=m
 cell: ∀(n:Nat) (c:Cell) (a:Addr),S[n]? = some c->μ[n]? = some a->nr K H μ a c
 ext:HX K μ H
structure ER(H:Hp)(μ:List Addr)(ρ:Rho)(σ:St):Prop where
 len:ρ.length=σ.length
 get: ∀(i:Nat) (u:U),ρ[i]? = some (some u) -> ∃v,σ[i]? = some (some v)/\RU H μ u v
theorem ER.mono{H H':Hp}{μ μ':List Addr}{ρ:Rho}{σ:St}(e:ER H μ ρ σ)(k:br H H')(p:Pre μ μ'):ER H' μ' ρ σ:=
 ⟨e.len,λi u h=>let ⟨v,a,b⟩:=e.get i u h;⟨v,a,RU.mono k p u v b⟩⟩
theorem ER.set{H:Hp}{μ:List Addr}{ρ:Rho}{σ:St}(e:ER H μ ρ σ){u:U}{v:V}(r:RU H μ u v)(i:Nat):ER H μ (ρ.set i (some u)) (σ.set i (some v)):=by
 refine⟨by simpa using e.len,λj w h =>?_⟩
 by_cases hj:i=j
 ·subst hj
  rw[List.getElem?_set]at h
  simp only[if_true]at h
  split at h
  ·rename_i hl
   cases h
   refine⟨v,?_,r⟩
   rw[bq (by rw[<- e.len];exact hl)]
  ·cases h
 ·rw[aP hj]at h
  obtain⟨x,a,b⟩:=e.get j w h
  exact⟨x,by rw[aP hj];exact a,b⟩
theorem ER.push{H:Hp}{μ:List Addr}{ρ:Rho}{σ:St}(e:ER H μ ρ σ){u:U}{v:V}(r:RU H μ u v):ER H μ (ρ++[some u]) (σ++[some v]):=by
 refine⟨by simp[e.len],λj w h =>?_⟩
 by_cases hj:j<ρ.length
 ·rw[bg hj]at h
  obtain⟨x,a,b⟩:=e.get j w h
  exact⟨x,by rw[bg (by rw[<- e.len];exact hj)];exact a,b⟩
 ·have hj':j=ρ.length:=by
   have:=(ak.mp h).1
   simp at this;omega
  subst hj'
  rw[aG (aq _)]at h
  simp at h;subst h
  refine⟨v,?_,r⟩
  rw[e.len,aG (aq _)];simp
section
variable {K:KX}{H:Hp}{μ:List Addr}{S:Sto}
theorem nr.mono{H':Hp}{μ':List Addr}{a:Addr}{c:Cell}(h:nr K H μ a c)(k:br H H')(p:Pre μ μ')(l:c.own=true->H' a=H a)(f: ∀o u,H a=some (.frz o u)->H' a=some (.frz o u)):nr K H' μ' a c:=by
 cases c with
 | lst us=>
   obtain⟨vs,e,r⟩:=h
   exact⟨vs,(l rfl).trans e,RUs.mono k p us vs r⟩
 | dic kvs=>
   obtain⟨vs,e,r⟩:=h
   exact⟨vs,(l rfl).trans e,RUs.mono k p _ vs r⟩
 | dit b kvs=>
   cases b with
   | false=>
     obtain⟨vs,e,r⟩:=h
     exact⟨vs,(l rfl).trans e,RUs.mono k p _ vs r⟩
   | true=>
     obtain⟨vs,⟨o,e⟩,r⟩:=h
     exact⟨vs,⟨o,f o _ e⟩,RUs.mono k p _ vs r⟩
 | frz us=>
   obtain⟨vs,e,r⟩:=h
   refine⟨vs,?_,RUs.mono k p us vs r⟩
   rcases e with⟨o,e⟩ |e
   ·exact .inl ⟨o,f o _ e⟩
   ·exact .inr e
theorem nr.has{a:Addr}{c:Cell}(h:nr K H μ a c)(ho:c.own=true): ∃o,H a=some o/\(∀vs,o≠.tup vs)/\(∀o' u,o≠.frz o' u) /\ ∀ps,o≠.tbl ps:=by
 cases c with
 | lst us=>obtain⟨vs,e,r⟩:=h;exact⟨_,e,λ_ z=>(by cases z),λ_ _ z=>(by cases z),λ_ z=>(by cases z)⟩
 | dic kvs=>obtain⟨vs,e,r⟩:=h;exact⟨_,e,λ_ z=>(by cases z),λ_ _ z=>(by cases z),λ_ z=>(by cases z)⟩
 | dit b kvs=>
   cases b with
   | false=>obtain⟨vs,e,r⟩:=h;exact⟨_,e,λ_ z=>(by cases z),λ_ _ z=>(by cases z),λ_ z=>(by cases z)⟩
   | true=>cases ho
 | frz us=>cases ho
theorem br.wrG{H:Hp}{p:Addr}{o o':HO}(h:H p=some o)(ht: ∀vs,o≠.tup vs)(hf: ∀ob u,o≠.frz ob u):br H (upd H p o'):=⟨λa vs e=>by
 rw[bR (ur e h (cU (ht vs)))];exact e,λa ob u e=>by
 rw[bR (ur e h (cU (hf ob u)))];exact e⟩
theorem HR.get(h:HR K μ S H){n:Nat}{c:Cell}(e:S[n]? = some c): ∃a,μ[n]? = some a/\nr K H μ a c:=by
 have hn:n<μ.length:=by rw[h.len];exact(ak.mp e).1
 exact⟨μ[n],by simp[hn],h.cell n c _ e (by simp[hn])⟩
theorem HR.wrC(h:HR K μ S H){n:Nat}{c d:Cell}{a:Addr}{o':HO}(e:S[n]? = some c)(ea:μ[n]? = some a)(hc:c.own=true)(r:nr K (upd H a o') μ a d):HR K μ (S.set n d) (upd H a o'):=by
 obtain⟨o,e0,nt,nf,nb⟩:=(h.cell n _ a e ea).has hc
 have kp:br H (upd H a o'):=br.wrG e0 nt nf
 have hn:n<S.length:=(ak.mp e).1
 have pick: ∀(m:Nat) (c':Cell),(S.set n d)[m]? = some c'->c'.own=true -> ∃c'',S[m]? = some c''/\c''.own=true:=λm c' q hq=>by
  by_cases hm:n=m
  ·subst hm;exact⟨c,e,hc⟩
  ·rw[aP hm]at q;exact⟨c',q,hq⟩
 refine⟨by rw[fF];exact h.len,λi j u1 u2 q1 q2 o1 o2 q3 =>?_,λm c' b q1 q2 =>?_,h.ext.upd kp (Pre.refl _) λo1 q=>by rw[e0]at q;cases q;exact⟨nf,nb⟩⟩
 ·obtain⟨w1,z1,y1⟩:=pick i u1 q1 o1
  obtain⟨w2,z2,y2⟩:=pick j u2 q2 o2
  exact h.inj i j w1 w2 z1 z2 y1 y2 q3
 ·by_cases hm:n=m
  ·subst hm
   rw[bq hn]at q1
   cases q1
   rw[ea]at q2;cases q2
   exact r
  ·rw[aP hm]at q1
   refine(h.cell m c' b q1 q2).mono kp (Pre.refl _) (λhc' =>?_) λo u hf =>?_
   ·refine bR ?_
    rintro rfl
    exact hm (h.inj n m c c' e q1 hc hc' (ea.trans q2.symm))
   ·rw[bR (ur hf e0 (cU (nf o u)))];exact hf
theorem HR.wr(h:HR K μ S H){n:Nat}{us ws:List U}{vs:List V}{a:Addr}(e:S[n]? = some (.lst us))(ea:μ[n]? = some a)(r:RUs H μ ws vs):HR K μ (S.set n (.lst ws)) (upd H a (.lst vs)):=by
 obtain⟨vs0,e0,r0⟩:=h.cell n _ a e ea
 exact h.wrC e ea rfl ⟨vs,dn,RUs.mono (br.wr e0) (Pre.refl _) ws vs r⟩
theorem HR.newC(h:HR K μ S H){d:Cell}{p:Addr}{o':HO}(hp:H p=none)(hd:d.own=true)(r:nr K (upd H p o') (μ++[p]) p d):HR K (μ++[p]) (S++[d]) (upd H p o'):=by
 have kp:br H (upd H p o'):=br.new hp
 have pre:Pre μ (μ++[p]):=⟨[p],rfl⟩
 have old: ∀(n:Nat) (c:Cell),n<S.length->(S++[d])[n]? = some c->S[n]? = some c:=λn c hn q=>by rwa[bg hn]at q
 have last: ∀(n:Nat) (c:Cell),¬n<S.length->(S++[d])[n]? = some c->n=S.length:=λn c hn q=>by
  have:=(ak.mp q).1
  simp at this;omega
 have fresh: ∀(n:Nat) (c:Cell),S[n]? = some c->c.own=true -> ∀a,μ[n]? = some a->a≠p:=λn c q hc a qa=>by
  obtain⟨o,e,_⟩:=(h.cell n _ a q qa).has hc
  exact bI e hp
 have mulast:(μ++[p])[S.length]? = some p:=by rw[<- h.len,aG (aq _)];simp
 have muold: ∀(n:Nat),n<S.length->(μ++[p])[n]? = μ[n]? := λn hn=>bg (by rw[h.len];exact hn)
 refine⟨by simp[h.len],λi j u1 u2 q1 q2 o1 o2 q3 =>?_,λm c b q1 q2 =>?_,h.ext.upd kp pre λo1 q=>by rw[hp]at q;cases q⟩
 ·by_cases hi:i<S.length
  ·by_cases hj:j<S.length
   ·rw[muold i hi,muold j hj]at q3
    exact h.inj i j u1 u2 (old i _ hi q1) (old j _ hj q2) o1 o2 q3
   ·have e:=last j _ hj q2
    subst e
    obtain⟨a,ha,_⟩:=h.get (old i _ hi q1)
    rw[muold i hi,mulast,ha]at q3
    exact absurd (bz q3) (fresh i u1 (old i _ hi q1) o1 a ha)
  ·have e:=last i _ hi q1
   subst e
   by_cases hj:j<S.length
   ·obtain⟨a,ha,_⟩:=h.get (old j _ hj q2)
    rw[muold j hj,mulast,ha]at q3
    exact absurd (bz q3).symm (fresh j u2 (old j _ hj q2) o2 a ha)
   ·exact(last j _ hj q2).symm
 ·by_cases hm:m<S.length
  ·rw[muold m hm]at q2
   refine(h.cell m c b (old m c hm q1) q2).mono kp pre (λhc =>?_) λo u hf =>?_
   ·exact bR (fresh m c (old m _ hm q1) hc b q2)
   ·rw[bR (bI hf hp)];exact hf
  ·have e:=last m c hm q1
   subst e
   rw[mulast]at q2;cases q2
   rw[aG (aq _)]at q1
   simp at q1;subst q1
   exact r
theorem HR.new(h:HR K μ S H){us:List U}{vs:List V}{p:Addr}(hp:H p=none)(r:RUs H μ us vs):HR K (μ++[p]) (S++[.lst us]) (upd H p (.lst vs)):=
 h.newC hp rfl ⟨vs,dn,RUs.mono (br.new hp) ⟨[p],rfl⟩ us vs r⟩
theorem HR.tup(h:HR K μ S H){vs:List V}{p:Addr}(hp:H p=none):HR K μ S (upd H p (.tup vs)):=by
 have kp:br H (upd H p (.tup vs)):=br.new hp
 refine⟨h.len,h.inj,λm c b q1 q2=>(h.cell m c b q1 q2).mono kp (Pre.refl _) (λhc =>?_) λo u hf =>?_,h.ext.upd kp (Pre.refl _) λo1 q=>by rw[hp]at q;cases q⟩
 ·obtain⟨o,e,_⟩:=(h.cell m _ b q1 q2).has hc
  exact bR (bI e hp)
 ·rw[bR (bI hf hp)];exact hf
theorem HR.sq(h:HR K μ S H){n:Nat}{us:List U}(e:getL S n=some us): ∃a vs,μ[n]? = some a/\SqL K H a vs/\RUs H μ us vs:=by
 unfold getL at e
 split at e
 ·rename_i ws q
  cases e
  obtain⟨a,ha,vs,e1,r⟩:=h.get q
  exact⟨a,vs,ha,SqL.of e1,r⟩
 ·rename_i ws q
  cases e
  obtain⟨a,ha,vs,e1,r⟩:=h.get q
  refine⟨a,vs,ha,?_,r⟩
  rcases e1 with⟨o,e1⟩ |e1
  ·exact .inl (.inr ⟨o,e1⟩)
  ·rcases e1 with (e1 | ⟨o,e1⟩) |e1
   ·cases e1
   ·cases e1
   ·exact .inr e1
 ·cases e
 ·cases e
 ·cases e
end
noncomputable def Aft(K:KX)(μ:List Addr)(H:Hp)(u:U)(S':Sto)(Q:VK):Prop:= ∀μ' v H',Pre μ μ'->br H H'->HR K μ' S' H'->RU H' μ' u v->Q v H'
noncomputable def tM(K:KX)(m:ME):TE:=λσ H Q =>∃μ S ρ u S',HR K μ S H/\ER H μ ρ σ/\m ρ S=some (u,S')/\Aft K μ H u S' Q
noncomputable def tMT(K:KX)(m:MT):TT:=λσ H Q =>∃μ S ρ b S',HR K μ S H/\ER H μ ρ σ/\m ρ S=some (b,S') /\ ∀μ' H',Pre μ μ'->br H H'->HR K μ' S' H'->Q b H'
noncomputable def tMA(K:KX)(m:MA):TA:=λσ H Q =>∃μ S ρ us S',HR K μ S H/\ER H μ ρ σ/\m ρ S=some (us,S') /\ ∀μ' vs H',Pre μ μ'->br H H'->HR K μ' S' H'->RUs H' μ' us vs->Q vs H'
noncomputable def FlP(K:KX)(μ:List Addr)(H:Hp)(D:Ends):Fl×Rho×Sto->Prop
 | (.nx,ρ',S') =>∀μ' σ' H',Pre μ μ'->br H H'->HR K μ' S' H'->ER H' μ' ρ' σ'->D.nx σ' H'
 | (.bk,ρ',S') =>∀μ' σ' H',Pre μ μ'->br H H'->HR K μ' S' H'->ER H' μ' ρ' σ'->D.bk σ' H'
 | (.ct,ρ',S') =>∀μ' σ' H',Pre μ μ'->br H H'->HR K μ' S' H'->ER H' μ' ρ' σ'->D.ct σ' H'
 | (.rt u,_,S')=>Aft K μ H u S' D.rt
noncomputable def tMS(K:KX)(m:MS):TS:=λD σ H =>∃μ S ρ r,HR K μ S H/\ER H μ ρ σ/\m ρ S=some r/\FlP K μ H D r
theorem Aft.mono{K:KX}{μ μ1:List Addr}{H H1:Hp}{u:U}{S':Sto}{Q:VK}(a:Aft K μ H u S' Q)(p:Pre μ μ1)(k:br H H1):Aft K μ1 H1 u S' Q:=
 λμ' v H' p' k'=>a μ' v H' (p.trans p') (k.trans k')
theorem FlP.mono{K:KX}{μ μ1:List Addr}{H H1:Hp}{D:Ends}{r:Fl×Rho×Sto}(a:FlP K μ H D r)(p:Pre μ μ1)(k:br H H1):FlP K μ1 H1 D r:=by
 obtain⟨f,ρ',S'⟩:=r
 cases f with
 | nx=>exact λμ' σ' H' p' k'=>a μ' σ' H' (p.trans p') (k.trans k')
 | bk=>exact λμ' σ' H' p' k'=>a μ' σ' H' (p.trans p') (k.trans k')
 | ct=>exact λμ' σ' H' p' k'=>a μ' σ' H' (p.trans p') (k.trans k')
 | rt u=>exact Aft.mono a p k
end _G
end
section
namespace _G
open PySem PySem.Spec _L
open PyProof.Rows hiding St
section
variable {K:KX}{σ:St}{H:Hp}{Q:VK}
theorem pJ{A B:Prop}(h:A):if true=true then A else B:=by rw[if_pos rfl];exact h
theorem pB{A B:Prop}(h:B):if false=true then A else B:=by rw[if_neg bE];exact h
theorem Ly{i:Nat}(h:tM K (ae i) σ H Q):MQ i σ H Q:=by
 obtain⟨μ,S,ρ,u,S',hr,er,e,k⟩:=h
 unfold ae at e
 split at e
 ·rename_i w q
  cases e
  obtain⟨v,hv,ru⟩:=er.get i _ q
  exact⟨v,hv,k μ v H (Pre.refl _) (br.refl _) hr ru⟩
 ·cases e
theorem r_c{u:U}{v:V}(hv: ∀H μ,RU H μ u v)(h:tM K (mC u) σ H Q):tC v σ H Q:=by
 obtain⟨μ,S,ρ,u',S',hr,er,e,k⟩:=h
 cases e
 exact k μ v H (Pre.refl _) (br.refl _) hr (hv _ _)
noncomputable def OpU(K:KX)(r:R2)(f:F2):Prop:= ∀(μ:List Addr) (S:Sto) (H:Hp) (x y:U) (vx vy:V) (u:U) (S':Sto) (Q:VK),HR K μ S H->RU H μ x vx->RU H μ y vy->f x y S=some (u,S')->Aft K μ H u S' Q->r vx vy H Q
theorem uS{r:R2}{f:F2}{a b:ME}(o:OpU K r f)(h:tM K (m2 f a b) σ H Q):tOp r (tM K a) (tM K b) σ H Q:=by
 obtain⟨μ,S,ρ,u,S',hr,er,e,k⟩:=h
 obtain⟨x,S1,e1,e⟩:=aZ e
 obtain⟨y,S2,e2,e⟩:=aZ e
 refine⟨μ,S,ρ,x,S1,hr,er,e1,λμ1 vx H1 p1 k1 hr1 rx =>?_⟩
 refine⟨μ1,S1,ρ,y,S2,hr1,er.mono k1 p1,e2,λμ2 vy H2 p2 k2 hr2 ry =>?_⟩
 exact o μ2 S2 H2 x y vx vy u S' Q hr2 (RU.mono k2 p2 x vx rx) ry e (k.mono (p1.trans p2) (k1.trans k2))
noncomputable def UnU(K:KX)(r:V->Hp->VK->Prop)(f:U->Sto->Res U):Prop:= ∀(μ:List Addr) (S:Sto) (H:Hp) (x:U) (vx:V) (u:U) (S':Sto) (Q:VK),HR K μ S H->RU H μ x vx->f x S=some (u,S')->Aft K μ H u S' Q->r vx H Q
theorem N4{r:V->Hp->VK->Prop}{f:U->Sto->Res U}{a:ME}(o:UnU K r f)(h:tM K (m1 f a) σ H Q):tUn r (tM K a) σ H Q:=by
 obtain⟨μ,S,ρ,u,S',hr,er,e,k⟩:=h
 obtain⟨x,S1,e1,e⟩:=aZ e
 refine⟨μ,S,ρ,x,S1,hr,er,e1,λμ1 vx H1 p1 k1 hr1 rx =>?_⟩
 exact o μ1 S1 H1 x vx u S' Q hr1 rx e (k.mono p1 k1)
theorem Aft.now{μ:List Addr}{S:Sto}{u:U}{v:V}(k:Aft K μ H u S Q)(hr:HR K μ S H)(r:RU H μ u v):Q v H:=k μ v H (Pre.refl _) (br.refl _) hr r
theorem eh{μ:List Addr}{i:Int}:RU H μ (.int i) (.int i):=by simp[RU]
theorem iL{μ:List Addr}{b:Bool}:RU H μ (.bl b) (.bl b):=by simp[RU]
theorem uX{μ:List Addr}:RU H μ .non .non:=by simp[RU]
theorem iF{μ:List Addr}{us:List U}{vs:List V}{a:Addr}(e:H a=some (.tup vs))(r:RUs H μ us vs):RU H μ (.tup us) (.ref a):=by
 simp only[RU];exact⟨a,vs,rfl,e,r⟩
theorem yh{μ:List Addr}{n:Nat}{a:Addr}(e:μ[n]? = some a):RU H μ (.ref n) (.ref a):=by
 simp only[RU];exact⟨a,rfl,e⟩
theorem cz{μ:List Addr}{i:Int}{v:V}(h:RU H μ (.int i) v):v = .int i:=by simpa only [RU]using h
theorem i7{μ:List Addr}{b:Bool}{v:V}(h:RU H μ (.bl b) v):v = .bl b:=by simpa only [RU]using h
theorem gF{μ:List Addr}{us:List U}{v:V}(h:RU H μ (.tup us) v): ∃a vs,v = .ref a/\H a=some (.tup vs)/\RUs H μ us vs:=by simpa only [RU]using h
theorem gH{μ:List Addr}{n:Nat}{v:V}(h:RU H μ (.ref n) v): ∃a,v = .ref a/\μ[n]? = some a:=by simpa only [RU]using h
theorem z7{g:Int->Int->V}{f:F2}{k:Int->Int->U}(hf: ∀x y S u S',f x y S=some (u,S') -> ∃i j,x = .int i/\y = .int j/\u=k i j/\S'=S)(hg: ∀H μ i j,RU H μ (k i j) (g i j)):OpU K (rI0 g) f:=by
 intro μ S H x y vx vy u S' Q hr rx ry e a
 obtain⟨i,j,rfl,rfl,rfl,rfl⟩:=hf x y S u S' e
 exact⟨i,j,cz rx,cz ry,a.now hr (hg _ _ _ _)⟩
theorem yr{C:Int->Int->Prop}{g:Int->Int->V}{f:F2}{k:Int->Int->U}(hf: ∀x y S u S',f x y S=some (u,S') -> ∃i j,x = .int i/\y = .int j/\C i j/\u=k i j/\S'=S)(hg: ∀H μ i j,RU H μ (k i j) (g i j)):OpU K (rI C g) f:=by
 intro μ S H x y vx vy u S' Q hr rx ry e a
 obtain⟨i,j,rfl,rfl,c,rfl,rfl⟩:=hf x y S u S' e
 exact⟨i,j,cz rx,cz ry,c,a.now hr (hg _ _ _ _)⟩
theorem IV:OpU K (rI0 λi j => .int (i - j)) kh:=z7 (k:=λi j => .int (i - j)) (λx y S u S' h=>by
 unfold kh at h;split at h <;> simp at h;obtain⟨rfl,rfl⟩:=h;exact⟨_,_,rfl,rfl,rfl,rfl⟩) λ_ _ _ _=>eh
noncomputable def Hm(K:av):R2:=λx y H Q =>∃l k xs,x = .ref l/\y = .int k/\H l=some (.tup xs)/\zX xs.length k/\(k=1->Q (.ref l) H)/\(k≠1 -> ∀p,H p=none->Q (.ref p) (upd H p (.tup (aw k.toNat xs).flatten)))
theorem rO(its:List Value): ∀(m:Nat) (a:List Value),yc (λx1 x2=>x1++x2) a.toArray (aw m its.toArray)=(a++(aw m its).flatten).toArray
 | 0,a=>by simp
 | m+1,a=>by
   rw[dy,jH,List.append_toArray,rO its m (a++its),dy,fO,aW]
theorem RUs.rep{H:Hp}{μ:List Addr}{us:List U}{vs:List V}(r:RUs H μ us vs): ∀(m:Nat),RUs H μ (aw m us).flatten (aw m vs).flatten
 | 0=>by simpa using RUs.nil
 | m+1=>by
   rw[dy,fO,dy,fO]
   exact r.append (RUs.rep r m)
theorem F3{X:Cx}:OpR X (binaryOp .Mult) (Hm X.K):=by
 intro pins s σ H x y v u Q I rx ry h
 obtain⟨l,k,xs,rfl,rfl,hH,⟨h1,h2,h3,h4⟩,q1,q2⟩:=h
 cases (show v=aU l from rx)
 obtain⟨t,rfl⟩:=ry
 obtain⟨z,its,r,⟨⟨cls,dd,data,sl⟩,e,c,n,d⟩,_⟩:=I.hok l _ hH
 simp only at c d
 subst c d
 have hl:its.length=xs.length:=r.length.symm
 refine wpAny_binaryOp_repeat_ref (T:="tuple") (U:="int") (by decide) ⟨_,e,rfl⟩ (fun s'=>typeIs_int s' k t) o8 F.fills_int_mul F.slot_int_rmul vG F.slot_int_index.lookup
  (call_meets F.slot_int_rmul (typeIs_int s k t) F.entry_int_rmul (F.args_int_rmul_2 _ _) (rq k t l its.toArray n dd sl) ⟨e,rfl,⟨_,e,rfl⟩,?_⟩)
 by_cases hk:k=1
 ·subst hk
  exact call_meets xS ⟨_,e,rfl⟩ vO (tP _ _) (tq l its.toArray n dd sl t) ⟨e,⟨.ref l,H,I,rfl,q1 rfl⟩⟩
 ·by_cases hk0:k=0
  ·subst hk0
   refine call_meets xS ⟨_,e,rfl⟩ vO (tP _ _) (yW l its.toArray n dd sl t ?_) ⟨e,?_⟩
   ·cases its with
    | nil=>simp at hl;omega
    | cons a b=>rfl
   ·exact⟨.ref s.heap.objs.size,_,I.laid (t':=s.toks) (o:= .tup []) (λb ob q=>ao _ q) (aq _) ⟨cR _,[],.nil,oW _ _,_,ay _ rfl,rfl⟩,rfl,by simpa using q2 hk _ (I.hok.fresh (aq _))⟩
  refine call_meets xS ⟨_,e,rfl⟩ vO (tP _ _) (ym l its.toArray n dd sl k t ?_ (by omega) h2 (by rw[aF];omega)) ⟨e,?_⟩
  ·intro w
   rw[vT]at w
   rcases w with w |w
   ·have:its = []:=by simpa using w
    rw[this]at hl;simp at hl;omega
   ·exact hk (by simpa using w)
  ·rw[show(#[]:Array Value)=([]:List Value).toArray from rfl,rO its k.toNat [],eK]
   refine⟨.ref s.heap.objs.size,_,I.laid (t':=s.toks) (o:= .tup (aw k.toNat xs).flatten) (λb ob q=>ao _ q) (aq _) ?_,rfl,q2 hk _ (I.hok.fresh (aq _))⟩
   refine⟨?_,_,r.rep k.toNat,oW _ _,_,ay _ rfl,rfl⟩
   rw[len_rep,sizeLine_eq]
   have:k.toNat*xs.length<=1000*xs.length:=gk _ (by omega)
   omega
theorem Iu:OpU K (λx y H Q=>rI GF (λi j => .int (i*j)) x y H Q\/Hm K x y H Q) gg:=by
 intro μ S H x y vx vy u S' Q hr rx ry e a
 unfold gg at e
 split at e
 ·split at e
  ·rename_i hc
   simp at e;obtain⟨rfl,rfl⟩:=e
   exact .inl ⟨_,_,cz rx,cz ry,hc,a.now hr eh⟩
  ·cases e
 ·rename_i xs k
  split at e
  ·rename_i hc
   simp at e;obtain⟨rfl,rfl⟩:=e
   obtain⟨p,vs,rfl,hp,r1⟩:=gF rx
   refine .inr ⟨p,k,vs,rfl,cz ry,hp,by rw[<- r1.len];exact hc,λhk =>?_,λhk t ht =>?_⟩
   ·subst hk
    have e1:(aw (1:Int).toNat xs).flatten=xs:=by simp
    rw[e1]at a
    exact a.now hr (iF hp r1)
   ·exact a μ _ _ (Pre.refl _) (br.new ht) (hr.tup ht) (iF dn (RUs.mono (br.new ht) (Pre.refl _) _ _ (r1.rep _)))
  ·cases e
 ·cases e
theorem Ih:OpU K (rI Kv λi j => .int (i / j)) oDiv:=yr (k:=λi j => .int (i / j)) (λx y S u S' h=>by
 unfold oDiv at h;split at h
 ·split at h
  ·rename_i hc;simp at h;obtain⟨rfl,rfl⟩:=h;exact⟨_,_,rfl,rfl,hc,rfl,rfl⟩
  ·cases h
 ·cases h) λ_ _ _ _=>eh
theorem JC:OpU K (rI (λ_ j=>0<j) λi j => .int (i % j)) oMod:=yr (k:=λi j => .int (i % j)) (λx y S u S' h=>by
 unfold oMod at h;split at h
 ·split at h
  ·rename_i hc;simp at h;obtain⟨rfl,rfl⟩:=h;exact⟨_,_,rfl,rfl,hc,rfl,rfl⟩
  ·cases h
 ·cases h) λ_ _ _ _=>eh
theorem JJ:OpU K (rI Lp λi j => .int (i ^ j.toNat)) uN:=yr (k:=λi j => .int (i ^ j.toNat)) (λx y S u S' h=>by
 unfold uN at h;split at h
 ·split at h
  ·rename_i hc;simp at h;obtain⟨rfl,rfl⟩:=h;exact⟨_,_,rfl,rfl,hc,rfl,rfl⟩
  ·cases h
 ·cases h) λ_ _ _ _=>eh
theorem uV{p:Int->Int->Bool}:OpU K (rI0 λi j => .bl (p i j)) (A4 p):=z7 (k:=λi j => .bl (p i j)) (λx y S u S' h=>by
 unfold A4 at h;split at h <;> simp at h;obtain⟨rfl,rfl⟩:=h;exact⟨_,_,rfl,rfl,rfl,rfl⟩) λ_ _ _ _=>iL
noncomputable def Hy(K:av):R2:=λx y H Q =>∃a b ys,x = .ref a/\y = .ref b/\SqT K H a []/\SqT K H b ys/\Q (.ref b) H
theorem Fq{X:Cx}:OpR X (binaryOp .Add) (Hy X.K):=by
 intro pins s σ H x y v u Q I rx ry h
 obtain⟨a,b,ys,rfl,rfl,h1,h2,q⟩:=h
 cases (show v=aU a from rx)
 cases (show u=aU b from ry)
 obtain⟨its,r1,p1,_⟩:=I.tuple h1
 obtain⟨its2,r2,p2,_⟩:=I.tuple h2
 cases r1
 exact HT.cat_tup0 p1 p2 ⟨.ref b,H,I,rfl,q⟩
theorem HZ:OpU K (λx y H Q=>rI0 (λi j => .int (i+j)) x y H Q\/Hn K x y H Q\/Hy K x y H Q) dq:=by
 intro μ S H x y vx vy u S' Q hr rx ry e a
 unfold dq at e
 split at e
 ·simp at e;obtain⟨rfl,rfl⟩:=e
  exact .inl ⟨_,_,cz rx,cz ry,a.now hr eh⟩
 ·rename_i xs ys
  split at e
  ·rename_i hc
   simp at e;obtain⟨rfl,rfl⟩:=e
   obtain⟨p,vs,rfl,hp,r1⟩:=gF rx
   obtain⟨q,ws,rfl,hq,r2⟩:=gF ry
   by_cases hx:xs = []
   ·subst hx
    have hv:vs = []:=by have:=r1.len;exact dN (by simpa using this.symm)
    subst hv
    exact .inr (.inr ⟨p,q,ws,rfl,rfl,.inl (.inl hp),.inl (.inl hq),a.now hr (iF hq r2)⟩)
   refine .inr (.inl ⟨p,q,vs,ws,rfl,rfl,.inl (.inl hp),.inl (.inl hq),?_,?_,λz =>?_,λz t ht =>?_⟩)
   ·intro z;subst z;have:=r1.len;exact hx (dN (by simpa using this))
   ·have h1:=r1.len;have h2:=r2.len;unfold big at hc;rw[sizeLine_eq];omega
   ·subst z
    have:ys = []:=by have:=r2.len;exact dN (by simpa using this)
    subst this
    rw[cD]at a
    exact a.now hr (iF hp r1)
   ·refine a μ _ _ (Pre.refl _) (br.new ht) (hr.tup ht) ?_
    have kp:br H (upd H t (.tup (vs++ws))):=br.new ht
    exact iF dn ((RUs.mono kp (Pre.refl _) _ _ r1).append (RUs.mono kp (Pre.refl _) _ _ r2))
  ·cases e
 ·cases e
theorem HR.seq{μ:List Addr}{S:Sto}{x:U}{v:V}{us:List U}(hr:HR K μ S H)(r:RU H μ x v)(e:dz S x=some us): ∃a vs,v = .ref a/\(SqL K H a vs\/SqT K H a vs)/\RUs H μ us vs:=by
 unfold dz at e
 split at e
 ·cases e
  obtain⟨a,vs,rfl,h,q⟩:=gF r
  exact⟨a,vs,rfl,.inr (.inl (.inl h)),q⟩
 ·obtain⟨a,rfl,ha⟩:=gH r
  obtain⟨a',vs,ha',hs,q⟩:=hr.sq e
  rw[ha]at ha';cases ha'
  exact⟨a,vs,rfl,.inl hs,q⟩
 ·cases e
theorem FG{μ:List Addr}{us:List U}{vs:List V}{i:Int}{u:U}(r:RUs H μ us vs)(e:atI us i=some u): ∃v,atI vs i=some v/\RU H μ u v:=by
 unfold atI at e ⊢
 rw[<- r.len]
 cases q:ixN us.length i with
 | none=>rw[q]at e;cases e
 | some j=>
   rw[q]at e
   exact r.get e
theorem oH{μ:List Addr}{y:U}{v:V}{k:Key}(r:RU H μ y v)(e:keyOf y=some k):v=kV k:=by
 cases y <;> simp only[keyOf,gL,reduceCtorEq]at e <;> subst e <;> (simp only[RU]at r;exact r)
theorem Ad{κ:Type} [DecidableEq κ] {μ:List Addr}{k:κ}{u:U}: ∀{kvs:List (κ×U)}{vs:List V},RUs H μ (kvs.map (·.2)) vs->ni kvs k=some u -> ∃v,mD (dV kvs vs) k=some v/\RU H μ u v
 | [],vs,r,e=>by cases e
 | (j,x)::kvs,vs,r,e=>by
   obtain⟨v,r',rfl,a,b⟩:=r.inv
   show ∃w,mD ((j,v)::dV kvs r') k=some w/\_
   by_cases h:j=k
   ·rw[lC h]
    simp[ni,cm,h]at e
    subst e
    exact⟨v,rfl,a⟩
   ·rw[lD h]
    refine Ad b ?_
    simpa [ni,cm,h]using e
theorem qY{κ:Type} [DecidableEq κ] {k:κ}: ∀{kvs:List (κ×U)}{vs:List V},kvs.length=vs.length->(mD (dV kvs vs) k).isSome=(ni kvs k).isSome
 | [],vs,_=>by simp[dV,mD,ni]
 | (j,x)::kvs,[],h=>by simp at h
 | (j,x)::kvs,v::vs,h=>by
   show(mD ((j,v)::dV kvs vs) k).isSome=_
   by_cases hj:j=k
   ·rw[lC hj];simp[ni,cm,hj]
   ·rw[lD hj,qY (by simpa using h)];simp[ni,cm,hj]
theorem DN{κ:Type} [DecidableEq κ] {k:κ}: ∀{kvs:List (κ×U)}{vs:List V},kvs.length=vs.length->((dV kvs vs).any λkv=>decide (kv.1=k))=kvs.any λkv=>decide (kv.1=k)
 | [],vs,_=>by simp[dV]
 | (j,x)::kvs,[],h=>by simp at h
 | (j,x)::kvs,v::vs,h=>by
   show(((j,v)::dV kvs vs).any λkv=>decide (kv.1=k))=_
   rw[gM,gM,DN (by simpa using h)]
theorem Du{κ:Type}{kvs:List (κ×U)}{vs:List V}(h:kvs.length=vs.length):(dV kvs vs).length=kvs.length:=by
 simp[dV,h]
theorem zI{κ:Type} [DecidableEq κ] {μ:List Addr}{k:κ}{u:U}{v:V} (ru:RU H μ u v): ∀{kvs:List (κ×U)}{vs:List V},RUs H μ (kvs.map (·.2)) vs ->
  ∃ws,dV (kvs.map λkv=>if kv.1=k then(kv.1,u) else kv) ws=(dV kvs vs).map (λkv=>if kv.1=k then(kv.1,v) else kv)/\RUs H μ ((kvs.map λkv=>if kv.1=k then(kv.1,u) else kv).map (·.2)) ws
 | [],vs,r=>⟨[],by simp[dV],.nil⟩
 | (j,x)::kvs,vs,r=>by
   obtain⟨w,r',rfl,a,b⟩:=r.inv
   obtain⟨ws,e,q⟩:=zI ru b
   show ∃ws',dV ((if j=k then(j,u) else(j,x))::kvs.map λkv=>if kv.1=k then(kv.1,u) else kv) ws'=(if j=k then(j,v) else(j,w))::(dV kvs r').map (λkv=>if kv.1=k then(kv.1,v) else kv)/\RUs H μ (((if j=k then(j,u) else(j,x))::kvs.map λkv=>if kv.1=k then(kv.1,u) else kv).map (·.2)) ws'
   by_cases h:j=k
   ·rw[if_pos h,if_pos h]
    exact⟨v::ws,by rw[<- e];rfl,.cons ru q⟩
   ·rw[if_neg h,if_neg h]
    exact⟨w::ws,by rw[<- e];rfl,.cons a q⟩
theorem Gd{κ:Type} [DecidableEq κ] {μ:List Addr}{k:κ}{u:U}{v:V}{kvs:List (κ×U)}{vs:List V} (ru:RU H μ u v) (r:RUs H μ (kvs.map (·.2)) vs): ∃ws,dV (yB kvs k u) ws=putK (dV kvs vs) k v/\RUs H μ ((yB kvs k u).map (·.2)) ws:=by
 have hl:kvs.length=vs.length:=by have:=r.len;rwa[aA]at this
 unfold yB putK
 rw[DN hl]
 split
 ·exact zI ru r
 ·refine⟨vs++[v],?_,by rw[b5];exact r.append (.cons ru .nil)⟩
  unfold dV
  rw[b5,List.zip_append (by simpa using hl)]
  rfl
theorem HR.dic{μ:List Addr}{S:Sto}{x:U}{v:V}{kvs:List (Key×U)}(hr:HR K μ S H)(r:RU H μ x v)(e:fJ S x=some kvs): ∃a vs,v = .ref a/\H a=some (.dK (dV kvs vs))/\RUs H μ (kvs.map (·.2)) vs:=by
 unfold fJ at e
 split at e
 ·split at e
  ·rename_i q
   cases e
   obtain⟨a,rfl,ha⟩:=gH r
   obtain⟨vs,e1,r1⟩:=hr.cell _ _ a q ha
   exact⟨a,vs,rfl,e1,r1⟩
  ·cases e
 ·cases e
noncomputable def Lc:R2:=λx y H Q =>∃a v,x = .ref a/\sU H a y (some v)/\Q v H
noncomputable def NL(K:av):R2:=λx y H Q=>rIx K x y H Q\/Lc x y H Q
theorem J6{X:Cx}(hu:X.A.units+1<cLine):IxR X Lc:=by
 intro value slice pins s σ H x y v u Q I rx ry h hs
 obtain⟨a,w,rfl,g,q⟩:=h
 obtain rfl:v=aU a:=rx
 exact tail_any (w6 I g) PySem.F.slot_dict_getitem.lookup (BC hu I g ry λw' s3 I3 rw'=>⟨w,H,I3,rw',q⟩) hs
theorem L1:OpU K (NL K) oIx:=by
 intro μ S H x y vx vy u S' Q hr rx ry e a
 unfold oIx at e
 split at e
 ·rename_i kvs qd
  cases qk:keyOf y with
  | none=>rw[qk]at e;cases e
  | some kk=>
    rw[qk]at e
    simp only[ar]at e
    cases qv:ni kvs kk with
    | none=>rw[qv]at e;cases e
    | some w=>
      rw[qv]at e
      simp at e;obtain⟨rfl,rfl⟩:=e
      obtain⟨p,vs,rfl,hp,r⟩:=hr.dic rx qd
      obtain⟨v,hv,rv⟩:=Ad r qv
      rw[oH ry qk]
      exact .inr ⟨p,v,rfl,.inl ⟨_,kk,.inl hp,rfl,hv.symm⟩,a.now hr rv⟩
 split at e
 ·rename_i i
  refine .inl ?_
  cases q:dz S x with
  | none=>rw[q]at e;cases e
  | some us=>
    rw[q]at e
    simp only[ar]at e
    cases z:atI us i with
    | none=>rw[z]at e;cases e
    | some w=>
      rw[z]at e
      simp at e;obtain⟨rfl,rfl⟩:=e
      obtain⟨p,vs,rfl,hs,r⟩:=hr.seq rx q
      obtain⟨v,hv,rv⟩:=FG r z
      rcases hs with hs |hs
      ·exact .inl ⟨p,vs,i,v,rfl,cz ry,hs,hv,a.now hr rv⟩
      ·exact .inr (.inl ⟨p,vs,i,v,rfl,cz ry,hs,hv,a.now hr rv⟩)
 ·cases e
theorem IF:UnU K (rU λi => .int (-i)) iS:=by
 intro μ S H x vx u S' Q hr rx e a
 unfold iS at e
 split at e
 ·cases e
  exact⟨_,cz rx,a.now hr eh⟩
 ·cases e
theorem Mh{Q:List V->Hp->Prop}(h:tMA K ah σ H Q):yN σ H Q:=by
 obtain⟨μ,S,ρ,us,S',hr,er,e,k⟩:=h
 cases e
 exact k μ [] H (Pre.refl _) (br.refl _) hr .nil
theorem Iz{a:ME}{r:MA}{Q:List V->Hp->Prop}(h:tMA K (aa a r) σ H Q):rB (tM K a) (tMA K r) σ H Q:=by
 obtain⟨μ,S,ρ,us,S',hr,er,e,k⟩:=h
 obtain⟨x,S1,e1,e⟩:=aZ e
 obtain⟨xs,S2,e2,e⟩:=aZ e
 cases e
 refine⟨μ,S,ρ,x,S1,hr,er,e1,λμ1 vx H1 p1 k1 hr1 rx =>?_⟩
 refine⟨μ1,S1,ρ,xs,_,hr1,er.mono k1 p1,e2,λμ2 vs H2 p2 k2 hr2 rs =>?_⟩
 exact k μ2 _ H2 (p1.trans p2) (k1.trans k2) hr2 (.cons (RU.mono k2 p2 x vx rx) rs)
theorem KC{a:MA}(h:tM K (dg a) σ H Q):M5 (tMA K a) σ H Q:=by
 obtain⟨μ,S,ρ,u,S',hr,er,e,k⟩:=h
 obtain⟨xs,S1,e1,e⟩:=aZ e
 split at e
 ·rename_i hc
  cases e
  refine⟨μ,S,ρ,xs,_,hr,er,e1,λμ1 vs H1 p1 k1 hr1 rs=>⟨?_,λp hp =>?_⟩⟩
  ·have:=rs.len;unfold big at hc;rw[sizeLine_eq];omega
  ·exact k μ1 _ _ p1 (k1.trans (br.new hp)) (hr1.tup hp) (iF dn (RUs.mono (br.new hp) (Pre.refl _) _ _ rs))
 ·cases e
theorem jA{μ:List Addr}{S:Sto}{us:List U}{vs:List V}{p:Addr}(k:Aft K μ H (.ref S.length) (S++[.lst us]) Q)(hr:HR K μ S H)(rs:RUs H μ us vs)(hp:H p=none):Q (.ref p) (upd H p (.lst vs)):=by
 refine k (μ++[p]) _ _ ⟨[p],rfl⟩ (br.new hp) (hr.new hp rs) (yh ?_)
 rw[<- hr.len,aG (aq _)];simp
theorem Nf{a:MA}(h:tM K (fA a) σ H Q):Ks (tMA K a) σ H Q:=by
 obtain⟨μ,S,ρ,u,S',hr,er,e,k⟩:=h
 obtain⟨xs,S1,e1,e⟩:=aZ e
 split at e
 ·rename_i hc
  cases e
  refine⟨μ,S,ρ,xs,S1,hr,er,e1,λμ1 vs H1 p1 k1 hr1 rs=>⟨?_,λp hp =>?_⟩⟩
  ·have:=rs.len;unfold big at hc;rw[sizeLine_eq];omega
  ·exact jA (k.mono p1 k1) hr1 rs hp
 ·cases e
noncomputable def oE(K:KX)(r:List V->Hp->VK->Prop)(f:MF):Prop:= ∀(μ:List Addr) (S:Sto) (H:Hp) (us:List U) (vs:List V) (u:U) (S':Sto) (Q:VK),HR K μ S H->RUs H μ us vs->f us S=some (u,S')->Aft K μ H u S' Q->r vs H Q
theorem wc{r:List V->Hp->VK->Prop}{f:MF}{a:MA}(o:oE K r f)(h:tM K (mFn f a) σ H Q):tCB r (tMA K a) σ H Q:=by
 obtain⟨μ,S,ρ,u,S',hr,er,e,k⟩:=h
 obtain⟨xs,S1,e1,e⟩:=aZ e
 refine⟨μ,S,ρ,xs,S1,hr,er,e1,λμ1 vs H1 p1 k1 hr1 rs =>?_⟩
 exact o μ1 S1 H1 xs vs u S' Q hr1 rs e (k.mono p1 k1)
noncomputable def spM(K:KX)(m:MF):Sp:=λvs H Q _ =>∃μ S us u S',HR K μ S H/\RUs H μ us vs/\m us S=some (u,S')/\Aft K μ H u S' Q
theorem Dd{f:MF}{a:MA}{E:XK}(h:tM K (mFn f a) σ H Q):zr (spM K f) [] E (tMA K a) σ H Q:=by
 obtain⟨μ,S,ρ,u,S',hr,er,e,k⟩:=h
 obtain⟨xs,S1,e1,e⟩:=aZ e
 refine⟨μ,S,ρ,xs,S1,hr,er,e1,λμ1 vs H1 p1 k1 hr1 rs =>?_⟩
 show spM K f (vs++[]) H1 Q E
 rw[cD]
 exact⟨μ1,S1,xs,u,S',hr1,rs,e,k.mono p1 k1⟩
theorem HN:oE K (λxs H Q=>(∃p ys,xs = [.ref p]/\(SqL K H p ys\/SqT K H p ys)/\Q (.int ys.length) H) \/ ∃a kvs,xs = [V.ref a]/\H a=some (.dK kvs)/\Q (.int kvs.length) H) bK:=by
 intro μ S H us vs u S' Q hr rs e a
 unfold bK at e
 split at e
 ·rename_i x
  obtain⟨v,r,rfl,rx,rn⟩:=rs.inv
  rw[rn.nil_inv]
  split at e
  ·rename_i kvs qd
   cases e
   obtain⟨p,ws,rfl,hp,r'⟩:=hr.dic rx qd
   refine .inr ⟨p,_,rfl,hp,?_⟩
   have hl:kvs.length=ws.length:=by have:=r'.len;rwa[aA]at this
   rw[Du hl]
   exact a.now hr eh
  cases q:dz S x with
  | none=>rw[q]at e;cases e
  | some ws=>
    rw[q]at e;cases e
    obtain⟨p,ys,rfl,hs,r'⟩:=hr.seq rx q
    refine .inl ⟨p,ys,rfl,hs,?_⟩
    rw[<- r'.len]
    exact a.now hr eh
 ·cases e
theorem Dk:oE K (λxs H Q =>∃p ys,xs = [.ref p]/\((SqL K H p ys /\ ∀l,H l=none->Q (.ref l) (upd H l (.tup ys)))\/(SqT K H p ys/\Q (.ref p) H))) b9:=by
 intro μ S H us vs u S' Q hr rs e a
 unfold b9 at e
 split at e
 ·rename_i x
  obtain⟨v,r,rfl,rx,rn⟩:=rs.inv
  rw[rn.nil_inv]
  unfold dz at e
  split at e
  ·cases e
   obtain⟨p,ys,rfl,hp,r'⟩:=gF rx
   exact⟨p,ys,rfl,.inr ⟨.inl (.inl hp),a.now hr (iF hp r')⟩⟩
  ·rename_i n
   cases q:getL S n with
   | none=>rw[q]at e;cases e
   | some ws=>
     rw[q]at e;cases e
     obtain⟨p,rfl,hp⟩:=gH rx
     obtain⟨p',ys,hp',hs,r'⟩:=hr.sq q
     rw[hp]at hp';cases hp'
     refine⟨p,ys,rfl,.inl ⟨hs,λl hl =>?_⟩⟩
     exact a μ _ _ (Pre.refl _) (br.new hl) (hr.tup hl) (iF dn (RUs.mono (br.new hl) (Pre.refl _) _ _ r'))
  ·cases e
 ·cases e
theorem Kd:oE K (λxs H Q =>∃i j,xs = [.int i,.int j]/\Q (.int (if j > i then j else i)) H) wW:=by
 intro μ S H us vs u S' Q hr rs e a
 unfold wW at e
 split at e
 ·cases e
  obtain⟨v,r,rfl,rx,rs⟩:=rs.inv
  obtain⟨w,r,rfl,ry,rn⟩:=rs.inv
  rw[rn.nil_inv,cz rx,cz ry]
  exact⟨_,_,rfl,a.now hr eh⟩
 ·cases e
noncomputable def MD(K:av):List V->Hp->VK->Prop:=λxs H Q=>((∃i j,xs = [.int i,.int j]/\Q (.int (if j<i then j else i)) H))
theorem Bq {X:Cx} (hc:X.calm=true) (hu:X.A.units+64 < cLine):gR X (.builtin "min") (MD X.K):=by
 intro pins s σ H xs us Q I rs h
 exact Bh hc pins s σ H xs us Q I rs h
theorem Ij:oE K (MD K) pX:=by
 intro μ S H us vs u S' Q hr rs e a
 unfold pX at e
 split at e
 ·cases e
  obtain⟨v,r,rfl,rx,rs⟩:=rs.inv
  obtain⟨w,r,rfl,ry,rn⟩:=rs.inv
  rw[rn.nil_inv,cz rx,cz ry]
  exact⟨_,_,rfl,a.now hr eh⟩
 ·cases e
noncomputable def MtU(K:KX)(r:V->List V->Hp->VK->Prop)(f:Nat->List U->Sto->Res U):Prop:= ∀(μ:List Addr) (S:Sto) (H:Hp) (n:Nat) (p:Addr) (us:List U) (vs:List V) (u:U) (S':Sto) (Q:VK),HR K μ S H->μ[n]? = some p->RUs H μ us vs->f n us S=some (u,S')->Aft K μ H u S' Q->r (.ref p) vs H Q
theorem M3 {r:V->List V->Hp->VK->Prop}{f:Nat->List U->Sto->Res U}{o:ME}{a:MA} (m:MtU K r f) (h:tM K (mML f o a) σ H Q):tBM K "list" r (tM K o) (tMA K a) σ H Q:=by
 obtain⟨μ,S,ρ,u,S',hr,er,e,k⟩:=h
 obtain⟨x,S1,e1,e⟩:=aZ e
 split at e
 ·rename_i n
  cases q:getL S1 n with
  | none=>rw[q]at e;cases e
  | some ws=>
    rw[q]at e
    obtain⟨xs,S2,e2,e⟩:=aZ e
    refine⟨μ,S,ρ,_,S1,hr,er,e1,λμ1 vx H1 p1 k1 hr1 rx =>?_⟩
    obtain⟨p,rfl,hp⟩:=gH rx
    obtain⟨p',ys,hp',hs,r'⟩:=hr1.sq q
    rw[hp]at hp';cases hp'
    refine⟨.inl ⟨rfl,ys,hs⟩,μ1,S1,ρ,xs,S2,hr1,er.mono k1 p1,e2,λμ2 vs H2 p2 k2 hr2 rs =>?_⟩
    exact m μ2 S2 H2 n p xs vs u S' Q hr2 (p2.get hp) rs e (k.mono (p1.trans p2) (k1.trans k2))
 ·cases e
theorem KL {r:V->List V->Hp->VK->Prop}{f:Nat->List U->Sto->Res U}{o:ME} (m:MtU K r f) (h:tM K (mML f o ah) σ H Q):Lw K "list" r (tM K o) σ H Q:=by
 obtain⟨μ,S,ρ,u,S',hr,er,e,k⟩:=h
 obtain⟨x,S1,e1,e⟩:=aZ e
 split at e
 ·rename_i n
  cases q:getL S1 n with
  | none=>rw[q]at e;cases e
  | some ws=>
    rw[q]at e
    refine⟨μ,S,ρ,_,S1,hr,er,e1,λμ1 vx H1 p1 k1 hr1 rx =>?_⟩
    obtain⟨p,rfl,hp⟩:=gH rx
    obtain⟨p',ys,hp',hs,r'⟩:=hr1.sq q
    rw[hp]at hp';cases hp'
    exact⟨.inl ⟨rfl,ys,hs⟩,m μ1 S1 H1 n p [] [] u S' Q hr1 hp .nil e (k.mono p1 k1)⟩
 ·cases e
theorem yY{μ:List Addr}{S:Sto}{n:Nat}{us ws:List U}{vs:List V}{p:Addr}{u:U}{v:V}(k:Aft K μ H u (S.set n (.lst ws)) Q)(hr:HR K μ S H)(e:S[n]? = some (.lst us))(hp:μ[n]? = some p)(rs:RUs H μ ws vs)(ru:RU H μ u v):
  Q v (upd H p (.lst vs)):=by
 obtain⟨vs0,e0,_⟩:=hr.cell n _ p e hp
 exact k μ _ _ (Pre.refl _) (br.wr e0) (hr.wr e hp rs) (RU.mono (br.wr e0) (Pre.refl _) _ _ ru)
theorem Bv:MtU K zx d7:=by
 intro μ S H n p us vs u S' Q hr hp rs e a
 unfold d7 at e
 split at e
 ·split at e
  ·rename_i ws q
   split at e
   ·rename_i hc
    cases e
    obtain⟨v,r,rfl,rx,rn⟩:=rs.inv
    rw[rn.nil_inv]
    obtain⟨xs,e0,r0⟩:=hr.cell n _ p q hp
    refine⟨p,xs,v,rfl,rfl,e0,?_,yY a hr q hp (r0.append (.cons rx .nil)) uX⟩
    have:=r0.len;unfold big at hc;rw[sizeLine_eq];omega
   ·cases e
  ·cases e
 ·cases e
theorem IE{n:Nat}{i:Int}{j:Nat}(h:ixN n i=some j):j<n /\ -(n:Int)<=i/\i<n:=by
 unfold ixN at h
 split at h
 ·split at h
  ·cases h;omega
  ·cases h
 ·split at h
  ·cases h;omega
  ·cases h
theorem EL{n:Nat}{i:Int}{j:Nat}(h:ixN n i=some j):seqIndex? i n=some j:=by
 unfold ixN at h
 unfold seqIndex?
 split at h
 ·split at h
  ·cases h
   rename_i h0 h1
   simp only[show ¬i<0 by omega,if_false]
   first
    | (rw[if_pos (by omega)])
    | (simp;omega)
  ·cases h
 ·split at h
  ·cases h
   rename_i h0 h1
   simp only[show i<0 by omega,if_true]
   first
    | (rw[if_pos (by omega)])
    | (simp;omega)
  ·cases h
theorem J2:MtU K MY uU:=by
 intro μ S H n p us vs u S' Q hr hp rs e a
 unfold uU at e
 split at e
 ·split at e
  ·rename_i ws q
   cases z:ws[ws.length - 1]? with
   | none=>rw[z]at e;cases e
   | some y=>
     rw[z]at e;cases e
     rw[rs.nil_inv]
     obtain⟨xs,e0,r0⟩:=hr.cell n _ p q hp
     obtain⟨v,hv,rv⟩:=r0.get z
     exact⟨p,xs,v,rfl,rfl,e0,by rw[<- r0.len];exact hv,yY a hr q hp r0.dropLast rv⟩
  ·cases e
 ·cases e
theorem DP:MtU K BW jL:=by
 intro μ S H n p us vs u S' Q hr hp rs e a
 unfold jL at e
 split at e
 ·rename_i i
  split at e
  ·rename_i ws q
   split at e
   rotate_left
   ·cases e
   rename_i hR
   cases z:ixN ws.length i with
   | none=>rw[z]at e;cases e
   | some j=>
     rw[z]at e
     simp only[ar]at e
     cases z2:ws[j]? with
     | none=>rw[z2]at e;cases e
     | some y=>
       rw[z2]at e;cases e
       obtain⟨v,r,rfl,rx,rn⟩:=rs.inv
       rw[rn.nil_inv,cz rx]
       obtain⟨xs,e0,r0⟩:=hr.cell n _ p q hp
       obtain⟨w,hw,rw'⟩:=r0.get z2
       have hl:=IE z
       have hlen:=r0.len
       refine⟨p,xs,i,j,w,rfl,rfl,e0,?_,?_,?_,hw,yY a hr q hp (r0.eraseIdx j) rw'⟩
       ·have:=hR.1;omega
       ·have:=hR.2;omega
       ·rw[<- hlen];exact EL z
  ·cases e
 ·cases e
theorem zg{t:TE}{m:ME}{Q:Bool->Hp->Prop}(ht: ∀Q,tM K m σ H Q->t σ H Q)(h:tMT K (cOf m) σ H Q):BS t σ H Q:=by
 obtain⟨μ,S,ρ,b,S',hr,er,e,k⟩:=h
 obtain⟨x,S1,e1,e⟩:=aZ e
 split at e
 ·cases e
  refine ht _ ⟨μ,S,ρ,_,_,hr,er,e1,λμ1 vx H1 p1 k1 hr1 rx =>?_⟩
  exact⟨_,i7 rx,k μ1 H1 p1 k1 hr1⟩
 ·cases e
theorem Nu{t:TE}{m:ME}{Q:Bool->Hp->Prop}(ht: ∀Q,tM K m σ H Q->t σ H Q)(h:tMT K (cOf m) σ H Q):tB t σ H Q:=zg ht h
theorem Kt{a b:MT}{Q:Bool->Hp->Prop}(h:tMT K (ko a b) σ H Q):_L.Mv (tMT K a) (tMT K b) σ H Q:=by
 obtain⟨μ,S,ρ,c,S',hr,er,e,k⟩:=h
 obtain⟨x,S1,e1,e⟩:=aZ e
 refine⟨μ,S,ρ,x,S1,hr,er,e1,λμ1 H1 p1 k1 hr1 =>?_⟩
 cases x with
 | true=>exact pJ ⟨μ1,S1,ρ,c,S',hr1,er.mono k1 p1,e,λμ2 H2 p2 k2=>k μ2 H2 (p1.trans p2) (k1.trans k2)⟩
 | false=>
   have e':some (false,S1)=some (c,S'):=e
   cases e'
   exact pB (k μ1 H1 p1 k1 hr1)
theorem NY{a b:MT}{Q:Bool->Hp->Prop}(h:tMT K (cOr a b) σ H Q):_L.tOr (tMT K a) (tMT K b) σ H Q:=by
 obtain⟨μ,S,ρ,c,S',hr,er,e,k⟩:=h
 obtain⟨x,S1,e1,e⟩:=aZ e
 refine⟨μ,S,ρ,x,S1,hr,er,e1,λμ1 H1 p1 k1 hr1 =>?_⟩
 cases x with
 | true=>
   have e':some (true,S1)=some (c,S'):=e
   cases e'
   exact pJ (k μ1 H1 p1 k1 hr1)
 | false=>exact pB ⟨μ1,S1,ρ,c,S',hr1,er.mono k1 p1,e,λμ2 H2 p2 k2=>k μ2 H2 (p1.trans p2) (k1.trans k2)⟩
theorem LU{a:MT}{Q:Bool->Hp->Prop}(h:tMT K (nX a) σ H Q):_L.M2 (tMT K a) σ H Q:=by
 obtain⟨μ,S,ρ,c,S',hr,er,e,k⟩:=h
 obtain⟨x,S1,e1,e⟩:=aZ e
 cases e
 exact⟨μ,S,ρ,x,_,hr,er,e1,λμ1 H1 p1 k1 hr1=>k μ1 H1 p1 k1 hr1⟩
theorem L8{c:MT}{a b:ME}(h:tM K (yQ c a b) σ H Q):tIf (tMT K c) (tM K a) (tM K b) σ H Q:=by
 obtain⟨μ,S,ρ,u,S',hr,er,e,k⟩:=h
 obtain⟨x,S1,e1,e⟩:=aZ e
 refine⟨μ,S,ρ,x,S1,hr,er,e1,λμ1 H1 p1 k1 hr1 =>?_⟩
 cases x with
 | true=>exact pJ ⟨μ1,S1,ρ,u,S',hr1,er.mono k1 p1,e,k.mono p1 k1⟩
 | false=>exact pB ⟨μ1,S1,ρ,u,S',hr1,er.mono k1 p1,e,k.mono p1 k1⟩
section
variable {D:Ends}
theorem Cj(h:tMS K b7 D σ H):Eh D σ H:=by
 obtain⟨μ,S,ρ,r,hr,er,e,k⟩:=h
 cases e
 exact k μ σ H (Pre.refl _) (br.refl _) hr er
theorem Ms{a b:MS}(h:tMS K (ba a b) D σ H):L7 (tMS K a) (tMS K b) D σ H:=by
 obtain⟨μ,S,ρ,r,hr,er,e,k⟩:=h
 unfold ba at e
 split at e
 ·rename_i ρ1 S1 q
  refine⟨μ,S,ρ,_,hr,er,q,λμ1 σ1 H1 p1 k1 hr1 er1 =>?_⟩
  exact⟨μ1,S1,ρ1,r,hr1,er1,e,k.mono p1 k1⟩
 ·rename_i q
  refine⟨μ,S,ρ,r,hr,er,e,?_⟩
  obtain⟨f,ρ',S'⟩:=r
  cases f with
  | nx=>exact absurd e (q ρ' S')
  | bk=>exact k
  | ct=>exact k
  | rt u=>exact k
theorem G8{i:Nat}{m:ME}(h:tMS K (bC i m) D σ H):BV (tM K m) (iO i) D σ H:=by
 obtain⟨μ,S,ρ,r,hr,er,e,k⟩:=h
 obtain⟨x,S1,e1,e⟩:=aZ e
 cases e
 exact⟨μ,S,ρ,x,S1,hr,er,e1,λμ1 vx H1 p1 k1 hr1 rx=>k μ1 _ H1 p1 k1 hr1 ((er.mono k1 p1).set rx i)⟩
noncomputable def Mf:Eb:=λo i v H Q =>∃a H',o = .ref a/\AM H a i v H'/\Q H'
noncomputable def G6:Eb:=λo i v H Q=>Hh o i v H Q\/Mf o i v H Q
theorem FK{X:Cx}(hu:X.A.units+1<cLine):Ie X G6:=by
 intro pins s σ H o i v ov iv u Q I ro ri rv h
 rcases h with h | ⟨a,H',rfl,g,q⟩
 ·exact set_list pins s σ H o i v ov iv u Q I ro ri rv h
 ·obtain rfl:ov=aU a:=ro
  exact Bz hu I g ri rv λs4 I4=>⟨H',I4,q⟩
theorem E1{o i m:ME}(h:tMS K (jb o i m) D σ H):BV (tM K m) (K2 (tM K o) (tM K i) G6) D σ H:=by
 obtain⟨μ,S,ρ,r,hr,er,e,k⟩:=h
 obtain⟨x,S1,e1,e⟩:=aZ e
 obtain⟨p,S2,e2,e⟩:=aZ e
 obtain⟨j,S3,e3,e⟩:=aZ e
 cases p with
 | ref n=>
   simp only at e
   split at e
   ·rename_i us q
    split at e
    rotate_left
    ·cases e
    rename_i kk
    cases z:ixN us.length kk with
    | none=>rw[z]at e;cases e
    | some m'=>
      rw[z]at e;cases e
      refine⟨μ,S,ρ,x,S1,hr,er,e1,λμ1 vx H1 p1 k1 hr1 rx =>?_⟩
      refine⟨μ1,S1,ρ,_,S2,hr1,er.mono k1 p1,e2,λμ2 vo H2 p2 k2 hr2 ro =>?_⟩
      refine⟨μ2,S2,ρ,_,S3,hr2,er.mono (k1.trans k2) (p1.trans p2),e3,λμ3 vi H3 p3 k3 hr3 ri =>?_⟩
      obtain⟨a,rfl,ha⟩:=gH ro
      have ha3:=p3.get ha
      obtain⟨vs,e0,r0⟩:=hr3.cell n _ a q ha3
      have rx3:RU H3 μ3 x vx:=RU.mono (k2.trans k3) (p2.trans p3) _ _ rx
      refine .inl ⟨a,vs,kk,m',rfl,cz ri,e0,by rw[<- r0.len];exact z,?_⟩
      have kw:br H3 (upd H3 a (.lst (vs.set m' vx))):=br.wr e0
      exact k μ3 _ _ (p1.trans (p2.trans p3)) (k1.trans (k2.trans (k3.trans kw))) (hr3.wr q ha3 (r0.set rx3 m')) (er.mono (k1.trans (k2.trans (k3.trans kw))) (p1.trans (p2.trans p3)))
   ·rename_i kvs q
    cases qk:keyOf j with
    | none=>rw[qk]at e;cases e
    | some kk=>
      rw[qk]at e
      simp only[ar]at e
      split at e
      ·rename_i hz
       cases e
       refine⟨μ,S,ρ,x,S1,hr,er,e1,λμ1 vx H1 p1 k1 hr1 rx =>?_⟩
       refine⟨μ1,S1,ρ,_,S2,hr1,er.mono k1 p1,e2,λμ2 vo H2 p2 k2 hr2 ro =>?_⟩
       refine⟨μ2,S2,ρ,_,S3,hr2,er.mono (k1.trans k2) (p1.trans p2),e3,λμ3 vi H3 p3 k3 hr3 ri =>?_⟩
       obtain⟨a,rfl,ha⟩:=gH ro
       have ha3:=p3.get ha
       obtain⟨vs,e0,r0⟩:=hr3.cell n _ a q ha3
       have rx3:RU H3 μ3 x vx:=RU.mono (k2.trans k3) (p2.trans p3) _ _ rx
       have hl:kvs.length=vs.length:=by have:=r0.len;rwa[aA]at this
       obtain⟨ws,ew,rw'⟩:=Gd (k:=kk) rx3 r0
       have kw:br H3 (upd H3 a (.dK (putK (dV kvs vs) kk vx))):=br.wrG e0 (λ_ z=>by cases z) λ_ _ z=>by cases z
       refine .inr ⟨a,_,rfl,.inl ⟨_,kk,e0,oH ri qk,by rw[Du hl,sizeLine_eq];exact hz,rfl⟩,?_⟩
       exact k μ3 _ _ (p1.trans (p2.trans p3)) (k1.trans (k2.trans (k3.trans kw))) (hr3.wrC q ha3 rfl ⟨ws,by rw[ew];exact dn,RUs.mono kw (Pre.refl _) _ _ rw'⟩) (er.mono (k1.trans (k2.trans (k3.trans kw))) (p1.trans (p2.trans p3)))
      ·cases e
   ·cases e
 | _=>cases e
theorem Jk{m:ME}(h:tMS K (fb m) D σ H):GV (tM K m) D σ H:=by
 obtain⟨μ,S,ρ,r,hr,er,e,k⟩:=h
 obtain⟨x,S1,e1,e⟩:=aZ e
 cases e
 exact⟨μ,S,ρ,x,S1,hr,er,e1,λμ1 vx H1 p1 k1 hr1 rx=>k μ1 σ H1 p1 k1 hr1 (er.mono k1 p1)⟩
theorem LC{m:ME}(h:tMS K (bB m) D σ H):M9 (tM K m) D σ H:=by
 obtain⟨μ,S,ρ,r,hr,er,e,k⟩:=h
 obtain⟨x,S1,e1,e⟩:=aZ e
 cases e
 exact⟨μ,S,ρ,x,S1,hr,er,e1,k⟩
theorem Nl{c:MT}{a b:MS}(h:tMS K (sIf c a b) D σ H):LO (tMT K c) (tMS K a) (tMS K b) D σ H:=by
 obtain⟨μ,S,ρ,r,hr,er,e,k⟩:=h
 obtain⟨x,S1,e1,e⟩:=aZ e
 refine⟨μ,S,ρ,x,S1,hr,er,e1,λμ1 H1 p1 k1 hr1 =>?_⟩
 cases x with
 | true=>exact pJ ⟨μ1,S1,ρ,r,hr1,er.mono k1 p1,e,k.mono p1 k1⟩
 | false=>exact pB ⟨μ1,S1,ρ,r,hr1,er.mono k1 p1,e,k.mono p1 k1⟩
theorem mK{b:MS}{ρ:Rho}{S:Sto}{μ μ0:List Addr}{H0:Hp}{k:MS}{r:Fl×Rho×Sto}{N:St->Hp->Prop}(hr:HR K μ S H)(er:ER H μ ρ σ)(e:aft (b ρ S) k=some r)(p:Pre μ0 μ)(kp:br H0 H)(fl:FlP K μ0 H0 D r)
  (hN: ∀μ1 σ1 H1 ρ1 S1,Pre μ0 μ1->br H0 H1->HR K μ1 S1 H1->ER H1 μ1 ρ1 σ1->k ρ1 S1=some r->N σ1 H1):tMS K b { D with nx:=N,ct:=N,bk:=D.nx } σ H:=by
 unfold aft at e
 split at e
 ·rename_i ρ1 S1 q
  exact⟨μ,S,ρ,_,hr,er,q,λμ1 σ1 H1 p1 k1 hr1 er1=>hN μ1 σ1 H1 ρ1 S1 (p.trans p1) (kp.trans k1) hr1 er1 e⟩
 ·rename_i ρ1 S1 q
  exact⟨μ,S,ρ,_,hr,er,q,λμ1 σ1 H1 p1 k1 hr1 er1=>hN μ1 σ1 H1 ρ1 S1 (p.trans p1) (kp.trans k1) hr1 er1 e⟩
 ·rename_i ρ1 S1 q
  cases e
  exact⟨μ,S,ρ,_,hr,er,q,λμ1 σ1 H1 p1 k1 hr1 er1=>fl μ1 σ1 H1 (p.trans p1) (kp.trans k1) hr1 er1⟩
 ·rename_i q1 q2 q3
  refine⟨μ,S,ρ,r,hr,er,e,?_⟩
  obtain⟨f,ρ',S'⟩:=r
  cases f with
  | nx=>exact absurd e (q1 ρ' S')
  | ct=>exact absurd e (q2 ρ' S')
  | bk=>exact absurd e (q3 ρ' S')
  | rt u=>exact Aft.mono fl p kp
theorem drop_cons{α:Type}{l:List α}{i:Nat}{x:α}(h:l[i]? = some x):l.drop i=x::l.drop (i+1):=by
 obtain⟨hi,e⟩:=ak.mp h
 rw[kZ hi,e]
theorem Jv{i:Nat}{b:MS}{us:List U}{vs:List V}{ρ:Rho}{S:Sto}{μ:List Addr}{a:Addr}{r:Fl×Rho×Sto}(hr:HR K μ S H)(er:ER H μ ρ σ)(e:qb i b us ρ S=some r)(fl:FlP K μ H D r)(ha:H a=some (.tup vs))(ru:RUs H μ us vs):
  ∃W:Nat->Nat->St->Hp->Prop,(∃m,W 0 m σ H) /\ ∀k m σ H,W k m σ H ->
   ((Itt K a).stop k H/\D.nx σ H)\/((Itt K a).go k H /\ ∃N:St->Hp->Prop,(∀σ' H',N σ' H' -> ∃m',m'<m/\W (k+1) m' σ' H') /\ ∀x H',(Itt K a).yld k H x H'->iO i x σ H' λσ2 H2=>tMS K b { D with nx:=N,ct:=N,bk:=D.nx } σ2 H2):=by
 refine E7 (xs:=vs) (λk σ1 H1 =>∃μ1 S1 ρ1,Pre μ μ1/\br H H1/\HR K μ1 S1 H1/\ER H1 μ1 ρ1 σ1/\qb i b (us.drop k) ρ1 S1=some r) ⟨μ,S,ρ,Pre.refl _,br.refl _,hr,er,e⟩ ?_ ?_ ?_
 ·rintro k σ1 H1 _ ⟨μ1,S1,ρ1,p1,k1,_⟩
  exact .inl (.inl (k1 a vs ha))
 ·rintro k x σ1 H1 hx ⟨μ1,S1,ρ1,p1,k1,hr1,er1,e1⟩
  have hk:k<us.length:=by rw[ru.len];exact(ak.mp hx).1
  have hu:us[k]? = some us[k]:=by simp[hk]
  obtain⟨v,hv,rv⟩:=ru.get hu
  rw[hx]at hv;cases hv
  rw[drop_cons hu]at e1
  have rv1:RU H1 μ1 us[k] x:=RU.mono k1 p1 _ _ rv
  exact mK hr1 (er1.set rv1 i) e1 p1 k1 fl λμ2 σ2 H2 ρ2 S2 p2 k2 hr2 er2 e2=>⟨μ2,S2,ρ2,p2,k2,hr2,er2,e2⟩
 ·rintro σ1 H1 ⟨μ1,S1,ρ1,p1,k1,hr1,er1,e1⟩
  rw[<- ru.len,iW]at e1
  cases e1
  exact fl μ1 σ1 H1 p1 k1 hr1 er1
theorem DO{i:Nat}{b:MS}{lo:Int}{n:Nat}{ρ:Rho}{S:Sto}{μ:List Addr}{r:Fl×Rho×Sto}(hr:HR K μ S H)(er:ER H μ ρ σ)(e:qb i b (bh lo n) ρ S=some r)(fl:FlP K μ H D r):
  ∃W:Nat->Nat->St->Hp->Prop,(∃m,W 0 m σ H) /\ ∀k m σ H,W k m σ H ->
   ((Itr lo n).stop k H/\D.nx σ H)\/((Itr lo n).go k H /\ ∃N:St->Hp->Prop,(∀σ' H',N σ' H' -> ∃m',m'<m/\W (k+1) m' σ' H') /\ ∀x H',(Itr lo n).yld k H x H'->iO i x σ H' λσ2 H2=>tMS K b { D with nx:=N,ct:=N,bk:=D.nx } σ2 H2):=by
 refine Bp (λk σ1 H1 =>∃μ1 S1 ρ1,Pre μ μ1/\br H H1/\HR K μ1 S1 H1/\ER H1 μ1 ρ1 σ1/\qb i b ((bh lo n).drop k) ρ1 S1=some r) ⟨μ,S,ρ,Pre.refl _,br.refl _,hr,er,e⟩ ?_ ?_
 ·rintro k σ1 H1 hk ⟨μ1,S1,ρ1,p1,k1,hr1,er1,e1⟩
  have hu:(bh lo n)[k]? = some (.int (lo+k)):=by simp[bh,hk]
  rw[drop_cons hu]at e1
  exact mK hr1 (er1.set eh i) e1 p1 k1 fl λμ2 σ2 H2 ρ2 S2 p2 k2 hr2 er2 e2=>⟨μ2,S2,ρ2,p2,k2,hr2,er2,e2⟩
 ·rintro σ1 H1 ⟨μ1,S1,ρ1,p1,k1,hr1,er1,e1⟩
  have hl:(bh lo n).length=n:=by simp[bh]
  rw[List.drop_eq_nil_of_le (by exact tQ (by assumption))]at e1
  cases e1
  exact fl μ1 σ1 H1 p1 k1 hr1 er1
theorem I0{i:Nat}{b:MS}{n f:Nat}{ρ:Rho}{S:Sto}{μ:List Addr}{a:Addr}{r:Fl×Rho×Sto}(hr:HR K μ S H)(er:ER H μ ρ σ)(e:forL i b n f 0 ρ S=some r)(fl:FlP K μ H D r)(ha:μ[n]? = some a):
  ∃W:Nat->Nat->St->Hp->Prop,(∃m,W 0 m σ H) /\ ∀k m σ H,W k m σ H ->
   ((Itl K a).stop k H/\D.nx σ H)\/((Itl K a).go k H /\ ∃N:St->Hp->Prop,(∀σ' H',N σ' H' -> ∃m',m'<m/\W (k+1) m' σ' H') /\ ∀x H',(Itl K a).yld k H x H'->iO i x σ H' λσ2 H2=>tMS K b { D with nx:=N,ct:=N,bk:=D.nx } σ2 H2):=by
 refine⟨λk m σ1 H1 =>∃μ1 S1 ρ1,Pre μ μ1/\br H H1/\HR K μ1 S1 H1/\ER H1 μ1 ρ1 σ1/\forL i b n m k ρ1 S1=some r,⟨f,μ,S,ρ,Pre.refl _,br.refl _,hr,er,e⟩,?_⟩
 rintro k m σ1 H1 ⟨μ1,S1,ρ1,p1,k1,hr1,er1,e1⟩
 cases m with
 | zero=>cases e1
 | succ m=>
   unfold forL at e1
   cases q:getL S1 n with
   | none=>rw[q]at e1;cases e1
   | some us=>
     rw[q]at e1
     simp only[ar]at e1
     obtain⟨a',vs,ha',hs,rs⟩:=hr1.sq q
     rw[p1.get ha]at ha';cases ha'
     cases z:us[k]? with
     | none=>
       rw[z]at e1
       cases e1
       refine .inl ⟨⟨vs,hs,?_⟩,fl μ1 σ1 H1 p1 k1 hr1 er1⟩
       rw[<- rs.len];exact lg.mp z
     | some u=>
       rw[z]at e1
       obtain⟨v,hv,rv⟩:=rs.get z
       refine .inr ⟨⟨vs,v,hs,hv⟩,λσ2 H2 =>∃μ2 S2 ρ2,Pre μ μ2/\br H H2/\HR K μ2 S2 H2/\ER H2 μ2 ρ2 σ2/\forL i b n m (k+1) ρ2 S2=some r,λσ' H' w=>⟨m,bF _,w⟩,λx H' y =>?_⟩
       obtain⟨e',y⟩:=y
       subst e'
       have hx:=y vs hs
       rw[hv]at hx;cases hx
       exact mK hr1 (er1.set rv i) e1 p1 k1 fl λμ2 σ2 H2 ρ2 S2 p2 k2 hr2 er2 e2=>⟨μ2,S2,ρ2,p2,k2,hr2,er2,e2⟩
theorem FL{c:MT}{b:MS}(h:tMS K (iE c b) D σ H):B9 (tMT K c) (tMS K b) D σ H:=by
 obtain⟨μ,S,ρ,r,hr,er,e,fl⟩:=h
 refine⟨λm σ1 H1 =>∃μ1 S1 ρ1,Pre μ μ1/\br H H1/\HR K μ1 S1 H1/\ER H1 μ1 ρ1 σ1/\whl c b m ρ1 S1=some r,⟨fuel,μ,S,ρ,Pre.refl _,br.refl _,hr,er,e⟩,?_⟩
 rintro m σ1 H1 ⟨μ1,S1,ρ1,p1,k1,hr1,er1,e1⟩
 cases m with
 | zero=>cases e1
 | succ m=>
   unfold whl at e1
   obtain⟨x,S2,e2,e1⟩:=aZ e1
   refine⟨μ1,S1,ρ1,x,S2,hr1,er1,e2,λμ2 H2 p2 k2 hr2 =>?_⟩
   cases x with
   | true=>
     refine pJ ⟨λσ3 H3 =>∃μ3 S3 ρ3,Pre μ μ3/\br H H3/\HR K μ3 S3 H3/\ER H3 μ3 ρ3 σ3/\whl c b m ρ3 S3=some r,λσ' H' w=>⟨m,bF _,w⟩,?_⟩
     exact mK hr2 (er1.mono k2 p2) e1 (p1.trans p2) (k1.trans k2) fl λμ3 σ3 H3 ρ3 S3 p3 k3 hr3 er3 e3=>⟨μ3,S3,ρ3,p3,k3,hr3,er3,e3⟩
   | false=>
     have e':some (Fl.nx,ρ1,S2)=some r:=e1
     cases e'
     exact pB (fl μ2 σ1 H2 (p1.trans p2) (k1.trans k2) hr2 (er1.mono k2 p2))
end
end
end _G
end
section
namespace _G
open PySem PySem.Spec _L
open PyProof.Rows hiding St
section
variable {K:KX}{σ:St}{H:Hp}{Q:VK}{D:Ends}
theorem Hb{a:MA}{R:It->Hp->Prop}{μ:List Addr}{S S1:Sto}{ρ:Rho}{src:Src}(hr:HR K μ S H)(er:ER H μ ρ σ)(e:iR1 a ρ S=some (src,S1))
  (hR: ∀μ1 H1 n,Pre μ μ1->br H H1->HR K μ1 S1 H1->src = .imm (bh 0 n)->R (Itr 0 n) H1):wG (tMA K a) σ H R:=by
 obtain⟨xs,S2,e1,e⟩:=aZ e
 split at e
 ·rename_i j
  split at e
  ·rename_i hj
   cases e
   refine⟨μ,S,ρ,_,_,hr,er,e1,λμ1 vs H1 p1 k1 hr1 rs =>?_⟩
   obtain⟨v,r,rfl,rx,rn⟩:=rs.inv
   rw[rn.nil_inv,cz rx]
   exact⟨j,rfl,hj.1,hj.2,hR μ1 H1 _ p1 k1 hr1 rfl⟩
  ·cases e
 ·cases e
theorem G1{a:MA}{R:It->Hp->Prop}{μ:List Addr}{S S1:Sto}{ρ:Rho}{src:Src}(hr:HR K μ S H)(er:ER H μ ρ σ)(e:iR2 a ρ S=some (src,S1))
  (hR: ∀μ1 H1 lo n,Pre μ μ1->br H H1->HR K μ1 S1 H1->src = .imm (bh lo n)->R (Itr lo n) H1):xH (tMA K a) σ H R:=by
 obtain⟨xs,S2,e1,e⟩:=aZ e
 split at e
 ·rename_i i j
  split at e
  ·rename_i hj
   cases e
   refine⟨μ,S,ρ,_,_,hr,er,e1,λμ1 vs H1 p1 k1 hr1 rs =>?_⟩
   obtain⟨v,r,rfl,rx,rs⟩:=rs.inv
   obtain⟨w,r,rfl,ry,rn⟩:=rs.inv
   rw[rn.nil_inv,cz rx,cz ry]
   exact⟨i,j,rfl,⟨hj.1.1,hj.1.2,hj.2.1,hj.2.2⟩,hR μ1 H1 _ _ p1 k1 hr1 rfl⟩
  ·cases e
 ·cases e
theorem yE{a:ME}{R:It->Hp->Prop}{μ:List Addr}{S S1:Sto}{ρ:Rho}{src:Src}(hr:HR K μ S H)(er:ER H μ ρ σ)(e:dv a ρ S=some (src,S1))
  (hT: ∀μ1 H1 us p vs,Pre μ μ1->br H H1->HR K μ1 S1 H1->src = .imm us->H1 p=some (.tup vs)->RUs H1 μ1 us vs->R (Itt K p) H1)
  (hL: ∀μ1 H1 n p,Pre μ μ1->br H H1->HR K μ1 S1 H1->src = .mut n->μ1[n]? = some p->R (Itl K p) H1):t6 K (tM K a) σ H R\/BB K (tM K a) σ H R:=by
 obtain⟨x,S2,e1,e⟩:=aZ e
 split at e
 ·cases e
  refine .inr ⟨μ,S,ρ,_,_,hr,er,e1,λμ1 vx H1 p1 k1 hr1 rx =>?_⟩
  obtain⟨p,vs,rfl,hp,r⟩:=gF rx
  exact⟨p,rfl,⟨vs,.inl (.inl hp)⟩,hT μ1 H1 _ p vs p1 k1 hr1 rfl hp r⟩
 ·rename_i n
  cases q:getL S2 n with
  | none=>rw[q]at e;cases e
  | some ws=>
    rw[q]at e;cases e
    refine .inl ⟨μ,S,ρ,_,_,hr,er,e1,λμ1 vx H1 p1 k1 hr1 rx =>?_⟩
    obtain⟨p,rfl,hp⟩:=gH rx
    obtain⟨p',ys,hp',hs,r'⟩:=hr1.sq q
    rw[hp]at hp';cases hp'
    exact⟨p,rfl,⟨ys,hs⟩,hL μ1 H1 n p p1 k1 hr1 rfl hp⟩
 ·cases e
theorem L3{i:Nat}{a:MA}{b:MS}(h:tMS K (ft i (iR1 a) b) D σ H):sR (wG (tMA K a)) (iO i) (tMS K b) D σ H:=by
 obtain⟨μ,S,ρ,r,hr,er,e,fl⟩:=h
 obtain⟨src,S1,e1,e⟩:=aZ e
 refine Hb hr er e1 λμ1 H1 n p1 k1 hr1 hs =>?_
 subst hs
 exact DO hr1 (er.mono k1 p1) e (fl.mono p1 k1)
theorem Le{i:Nat}{a:MA}{b:MS}(h:tMS K (ft i (iR2 a) b) D σ H):sR (xH (tMA K a)) (iO i) (tMS K b) D σ H:=by
 obtain⟨μ,S,ρ,r,hr,er,e,fl⟩:=h
 obtain⟨src,S1,e1,e⟩:=aZ e
 refine G1 hr er e1 λμ1 H1 lo n p1 k1 hr1 hs =>?_
 subst hs
 exact DO hr1 (er.mono k1 p1) e (fl.mono p1 k1)
theorem N1{i:Nat}{a:ME}{b:MS}(h:tMS K (ft i (dv a) b) D σ H):sR (λσ H R=>t6 K (tM K a) σ H R\/BB K (tM K a) σ H R) (iO i) (tMS K b) D σ H:=by
 obtain⟨μ,S,ρ,r,hr,er,e,fl⟩:=h
 obtain⟨src,S1,e1,e⟩:=aZ e
 refine yE hr er e1 (λμ1 H1 us p vs p1 k1 hr1 hs hp rs =>?_) λμ1 H1 n p p1 k1 hr1 hs hp =>?_
 ·subst hs
  exact Jv hr1 (er.mono k1 p1) e (fl.mono p1 k1) hp rs
 ·subst hs
  exact I0 hr1 (er.mono k1 p1) e (fl.mono p1 k1) hp
theorem pb{t:MT}{e:ME}{ρ:Rho}: ∀{us acc ys:List U}{S S':Sto},gp t e ρ us acc S=some (ys,S')->acc.length<=ys.length
 | [],acc,ys,S,S',h=>by cases h;exact aq _
 | x::us,acc,ys,S,S',h=>by
   obtain⟨k,S1,e1,h⟩:=aZ h
   cases k with
   | true=>
     obtain⟨y,S2,e2,h⟩:=aZ (show bnd (e (ρ++[some x]) S1) (λy S2=>gp t e ρ us (acc++[y]) S2)=some (ys,S') from h)
     have:=pb h
     simp at this;exact bG (by assumption)
   | false=>exact pb (show gp t e ρ us acc S1=some (ys,S') from h)
theorem o6{t:MT}{e:ME}{ρ:Rho}{n:Nat}: ∀{f i:Nat}{acc ys:List U}{S S':Sto},jE t e ρ n f i acc S=some (ys,S')->acc.length<=ys.length
 | 0,i,acc,ys,S,S',h=>by cases h
 | f+1,i,acc,ys,S,S',h=>by
   unfold jE at h
   cases q:getL S n with
   | none=>rw[q]at h;cases h
   | some us=>
     rw[q]at h
     simp only[ar]at h
     cases z:us[i]? with
     | none=>rw[z]at h;cases h;exact aq _
     | some x=>
       rw[z]at h
       obtain⟨k,S1,e1,h⟩:=aZ h
       cases k with
       | true=>
         obtain⟨y,S2,e2,h⟩:=aZ (show bnd (e (ρ++[some x]) S1) (λy S2=>jE t e ρ n f (i+1) (acc++[y]) S2)=some (ys,S') from h)
         have:=o6 h
         simp at this;exact bG (by assumption)
       | false=>exact o6 (show jE t e ρ n f (i+1) acc S1=some (ys,S') from h)
noncomputable def xJ(J:It)(σ:St)(tt:TT)(te:TE)(H1:Hp)(Q:VK):Prop:= ∃W:Nat->Nat->List V->Hp->Prop,(∃m,W 0 m [] H1) /\ ∀i m ys H,W i m ys H->ys.length<sizeLine /\
 ((J.stop i H /\ ∀D,H D=none->Q (.ref D) (upd H D (.lst ys))) \/
  (J.go i H /\ ∀x H',J.yld i H x H'->tt (σ++[some x]) H' λb H3=>if b=true then te (σ++[some x]) H3 λy H4 =>∃m',m'<m/\W (i+1) m' (ys++[y]) H4 else ∃m',m'<m/\W (i+1) m' ys H3))
theorem uu{t:MT}{e:ME}{ρ':Rho}{σ':St}{H1:Hp}{μ1:List Addr}{S1 S':Sto}{au ys:List U}{acc:List V}{next:List U->Sto->Res (List U)}(W:List V->Hp->Prop)(hr1:HR K μ1 S1 H1)(er1:ER H1 μ1 ρ' σ')(ra:RUs H1 μ1 au acc)
  (e1:bnd (t ρ' S1) (λk S2=>if k then bnd (e ρ' S2) λy S3=>next (au++[y]) S3 else next au S2)=some (ys,S'))
  (hW: ∀μ2 S2 au2 acc2 H2,Pre μ1 μ2->br H1 H2->HR K μ2 S2 H2->RUs H2 μ2 au2 acc2->next au2 S2=some (ys,S')->W acc2 H2):
  tMT K t σ' H1 λb H3=>if b=true then tM K e σ' H3 λy H4=>W (acc++[y]) H4 else W acc H3:=by
 obtain⟨b,S2,e2,e1⟩:=aZ e1
 refine⟨μ1,S1,_,b,S2,hr1,er1,e2,λμ2 H2 p2 k2 hr2 =>?_⟩
 have ra2:=RUs.mono k2 p2 _ _ ra
 cases b with
 | true=>
   obtain⟨y',S3,e3,e1⟩:=aZ (show bnd (e ρ' S2) (λy S2=>next (au++[y]) S2)=some (ys,S') from e1)
   exact pJ ⟨μ2,S2,_,y',S3,hr2,er1.mono k2 p2,e3,λμ3 v3 H3 p3 k3 hr3 rv3=>hW μ3 S3 _ _ H3 (p2.trans p3) (k2.trans k3) hr3 ((RUs.mono k3 p3 _ _ ra2).append (.cons rv3 .nil)) e1⟩
 | false=>exact pB (hW μ2 S2 _ _ H2 p2 k2 hr2 ra2 e1)
theorem qM{J:It}{t:MT}{e:ME}{ρ:Rho}{us ys:List U}{μ:List Addr}{S S':Sto}(hr:HR K μ S H)(er:ER H μ ρ σ)(h:gp t e ρ us [] S=some (ys,S'))(hz:ys.length<big)(k:Aft K μ H (.ref S'.length) (S'++[.lst ys]) Q)
  (hstop: ∀H',br H H'->J.stop us.length H') (hgo: ∀(i:Nat) H',i<us.length->br H H'->J.go i H')
  (hy: ∀(i:Nat) H' x H'' (u:U),us[i]? = some u->br H H'->J.yld i H' x H''->H''=H'/\RU H μ u x):xJ J σ (tMT K t) (tM K e) H Q:=by
 have hz':ys.length<sizeLine:=by unfold big at hz;rw[sizeLine_eq];exact hz
 refine⟨λi m acc H1=>m=us.length - i/\i<=us.length /\ ∃μ1 S1 au,Pre μ μ1/\br H H1/\HR K μ1 S1 H1/\RUs H1 μ1 au acc/\gp t e ρ (us.drop i) au S1=some (ys,S'),⟨_,rfl,cR _,μ,S,[],Pre.refl _,br.refl _,hr,.nil,h⟩,?_⟩
 rintro i m acc H1 ⟨rfl,hi,μ1,S1,au,p1,k1,hr1,ra,e1⟩
 have hl:=pb e1
 have hl2:=ra.len
 refine⟨by omega,?_⟩
 by_cases hlt:i<us.length
 ·have hu:us[i]? = some us[i]:=by simp[hlt]
  rw[drop_cons hu]at e1
  refine .inr ⟨hgo i H1 hlt k1,λx H' y =>?_⟩
  obtain⟨rfl,rx⟩:=hy i H1 x H' us[i] hu k1 y
  have er1:ER H' μ1 (ρ++[some us[i]]) (σ++[some x]):=(er.mono k1 p1).push (RU.mono k1 p1 _ _ rx)
  exact uu (next:=gp t e ρ (us.drop (i+1))) (λacc H1 =>∃m',m'<us.length - i/\m'=us.length - (i+1)/\i+1<=us.length /\ ∃μ1 S1 au,Pre μ μ1/\br H H1/\HR K μ1 S1 H1/\RUs H1 μ1 au acc/\gp t e ρ (us.drop (i+1)) au S1=some (ys,S')) hr1 er1 ra e1 λμ2 S2 au2 acc2 H2 p2 k2 hr2 ra2 q=>⟨us.length - (i+1),by omega,rfl,hlt,μ2,S2,au2,p1.trans p2,k1.trans k2,hr2,ra2,q⟩
 ·have e:i=us.length:=by omega
  subst e
  rw[iW]at e1
  cases e1
  exact .inl ⟨hstop H1 k1,λD hD=>jA (k.mono p1 k1) hr1 ra hD⟩
theorem BR{t:MT}{e:ME}{ρ:Rho}{n f:Nat}{ys:List U}{μ:List Addr}{S S':Sto}{p:Addr}(hr:HR K μ S H)(er:ER H μ ρ σ)(h:jE t e ρ n f 0 [] S=some (ys,S'))(hz:ys.length<big)(k:Aft K μ H (.ref S'.length) (S'++[.lst ys]) Q)
  (hp:μ[n]? = some p):xJ (Itl K p) σ (tMT K t) (tM K e) H Q:=by
 have hz':ys.length<sizeLine:=by unfold big at hz;rw[sizeLine_eq];exact hz
 refine⟨λi m acc H1 =>∃μ1 S1 au,Pre μ μ1/\br H H1/\HR K μ1 S1 H1/\RUs H1 μ1 au acc/\jE t e ρ n m i au S1=some (ys,S'),⟨f,μ,S,[],Pre.refl _,br.refl _,hr,.nil,h⟩,?_⟩
 rintro i m acc H1 ⟨μ1,S1,au,p1,k1,hr1,ra,e1⟩
 have hl:=o6 e1
 have hl2:=ra.len
 refine⟨by omega,?_⟩
 cases m with
 | zero=>cases e1
 | succ m=>
   unfold jE at e1
   cases q:getL S1 n with
   | none=>rw[q]at e1;cases e1
   | some us=>
     rw[q]at e1
     simp only[ar]at e1
     obtain⟨a',vs,ha',hs,rs⟩:=hr1.sq q
     rw[p1.get hp]at ha';cases ha'
     cases z:us[i]? with
     | none=>
       rw[z]at e1
       cases e1
       exact .inl ⟨⟨vs,hs,by rw[<- rs.len];exact lg.mp z⟩,λD hD=>jA (k.mono p1 k1) hr1 ra hD⟩
     | some u=>
       rw[z]at e1
       obtain⟨v,hv,rv⟩:=rs.get z
       refine .inr ⟨⟨vs,v,hs,hv⟩,λx H' y =>?_⟩
       obtain⟨e',y⟩:=y
       subst e'
       have hx:=y vs hs
       rw[hv]at hx;cases hx
       exact uu (next:=jE t e ρ n m (i+1)) (λacc H1 =>∃m',m'<m+1 /\ ∃μ1 S1 au,Pre μ μ1/\br H H1/\HR K μ1 S1 H1/\RUs H1 μ1 au acc/\jE t e ρ n m' (i+1) au S1=some (ys,S')) hr1 ((er.mono k1 p1).push rv) ra e1 λμ2 S2 au2 acc2 H2 p2 k2 hr2 ra2 q=>⟨m,bF _,μ2,S2,au2,p1.trans p2,k1.trans k2,hr2,ra2,q⟩
theorem xi{lo:Int}{n:Nat}{t:MT}{e:ME}{ρ:Rho}{ys:List U}{μ:List Addr}{S S':Sto}(hr:HR K μ S H)(er:ER H μ ρ σ)(h:gp t e ρ (bh lo n) [] S=some (ys,S'))(hz:ys.length<big)(k:Aft K μ H (.ref S'.length) (S'++[.lst ys]) Q):
  xJ (Itr lo n) σ (tMT K t) (tM K e) H Q:=by
 have hl:(bh lo n).length=n:=by simp[bh]
 refine qM hr er h hz k (λH' _=>by rw[hl];exact aq _) (λi H' hi _=>by rw[hl]at hi;exact hi) λi H' x H'' u hu _ y =>?_
 obtain⟨rfl,rfl⟩:=y
 have hi:i<n:=by rw[<- hl];exact(ak.mp hu).1
 have e2:(bh lo n)[i]? = some (.int (lo+i)):=by simp[bh,hi]
 rw[e2]at hu;cases hu
 exact⟨rfl,eh⟩
theorem Cz{us:List U}{vs:List V}{p:Addr}{t:MT}{e:ME}{ρ:Rho}{ys:List U}{μ:List Addr}{S S':Sto}(hr:HR K μ S H)(er:ER H μ ρ σ)(h:gp t e ρ us [] S=some (ys,S'))(hz:ys.length<big)(k:Aft K μ H (.ref S'.length) (S'++[.lst ys]) Q)
  (hp:H p=some (.tup vs)) (rs:RUs H μ us vs):xJ (Itt K p) σ (tMT K t) (tM K e) H Q:=by
 refine qM hr er h hz k (λH' kp=>⟨vs,.inl (.inl (kp p vs hp)),by rw[rs.len];exact aq _⟩) (λi H' hi kp =>?_) λi H' x H'' u hu kp y =>?_
 ·have hi':i<vs.length:=by rw[<- rs.len];exact hi
  exact⟨vs,vs[i],.inl (.inl (kp p vs hp)),by simp[hi']⟩
 ·obtain⟨rfl,y⟩:=y
  obtain⟨v,hv,rv⟩:=rs.get hu
  have:=y vs (.inl (.inl (kp p vs hp)))
  rw[hv]at this;cases this
  exact⟨rfl,rv⟩
theorem MX{a:MA}{t:MT}{e:ME}(h:tM K (cq (iR1 a) t e) σ H Q):og (wG (tMA K a)) (tMT K t) (tM K e) σ H Q:=by
 obtain⟨μ,S,ρ,u,S',hr,er,e0,k⟩:=h
 obtain⟨src,S1,e1,e0⟩:=aZ e0
 obtain⟨ys,S2,e2,e0⟩:=aZ e0
 split at e0
 ·rename_i hz
  cases e0
  refine Hb hr er e1 λμ1 H1 n p1 k1 hr1 hs =>?_
  subst hs
  exact xi hr1 (er.mono k1 p1) e2 hz (k.mono p1 k1)
 ·cases e0
theorem KQ{a:MA}{t:MT}{e:ME}(h:tM K (cq (iR2 a) t e) σ H Q):og (xH (tMA K a)) (tMT K t) (tM K e) σ H Q:=by
 obtain⟨μ,S,ρ,u,S',hr,er,e0,k⟩:=h
 obtain⟨src,S1,e1,e0⟩:=aZ e0
 obtain⟨ys,S2,e2,e0⟩:=aZ e0
 split at e0
 ·rename_i hz
  cases e0
  refine G1 hr er e1 λμ1 H1 lo n p1 k1 hr1 hs =>?_
  subst hs
  exact xi hr1 (er.mono k1 p1) e2 hz (k.mono p1 k1)
 ·cases e0
theorem N0{a:ME}{t:MT}{e:ME}(h:tM K (cq (dv a) t e) σ H Q):og (λσ H R=>t6 K (tM K a) σ H R\/BB K (tM K a) σ H R) (tMT K t) (tM K e) σ H Q:=by
 obtain⟨μ,S,ρ,u,S',hr,er,e0,k⟩:=h
 obtain⟨src,S1,e1,e0⟩:=aZ e0
 obtain⟨ys,S2,e2,e0⟩:=aZ e0
 split at e0
 ·rename_i hz
  cases e0
  refine yE hr er e1 (λμ1 H1 us p vs p1 k1 hr1 hs hp rs =>?_) λμ1 H1 n p p1 k1 hr1 hs hp =>?_
  ·subst hs
   exact Cz hr1 (er.mono k1 p1) e2 hz (k.mono p1 k1) hp rs
  ·subst hs
   exact BR hr1 (er.mono k1 p1) e2 hz (k.mono p1 k1) hp
 ·cases e0
end
end _G
end
section
namespace _G
open PySem PySem.Spec _L
open PyProof.Rows hiding St
section
variable {K:KX}{σ:St}{H:Hp}{Q:VK}{D:Ends}
theorem RUs.revs{H:Hp}{μ:List Addr}: ∀{us:List U}{vs:List V},RUs H μ us vs->RUs H μ us.reverse vs.reverse
 | [],vs,r=>by rw[r.nil_inv];exact .nil
 | u::us,vs,r=>by
   obtain⟨v,vs,rfl,a,b⟩:=r.inv
   rw[sy,sy]
   exact(RUs.revs b).append (.cons a .nil)
theorem DA{a:MA}{R:It->Hp->Prop}{μ:List Addr}{S S1:Sto}{ρ:Rho}{src:Src}(hr:HR K μ S H)(er:ER H μ ρ σ)(e:w9 a ρ S=some (src,S1))
  (hR: ∀μ1 H1 us p vs,Pre μ μ1->br H H1->HR K μ1 S1 H1->src = .imm us.reverse->H1 p=some (.tup vs)->RUs H1 μ1 us vs->R (Itv K p vs.length) H1):wD K (tMA K a) σ H R:=by
 obtain⟨xs,S2,e1,e⟩:=aZ e
 split at e
 ·rename_i us
  cases e
  refine⟨μ,S,ρ,_,_,hr,er,e1,λμ1 vs H1 p1 k1 hr1 rs =>?_⟩
  obtain⟨v,r,rfl,rx,rn⟩:=rs.inv
  rw[rn.nil_inv]
  obtain⟨p,vs,rfl,hp,r⟩:=gF rx
  exact⟨p,vs,rfl,.inl (.inl hp),hR μ1 H1 _ p vs p1 k1 hr1 rfl hp r⟩
 ·cases e
theorem Dx{us:List U}{vs:List V}{p:Addr}{t:MT}{e:ME}{ρ:Rho}{ys:List U}{μ:List Addr}{S S':Sto}(hr:HR K μ S H)(er:ER H μ ρ σ)(h:gp t e ρ us.reverse [] S=some (ys,S'))(hz:ys.length<big)(k:Aft K μ H (.ref S'.length) (S'++[.lst ys]) Q)
  (hp:H p=some (.tup vs)) (rs:RUs H μ us vs):xJ (Itv K p vs.length) σ (tMT K t) (tM K e) H Q:=by
 have rr:=rs.revs
 have hl:=rr.len
 refine qM hr er h hz k (λH' kp=>⟨vs,.inl (.inl (kp p vs hp)),rfl,by rw[hl,pQ];exact aq _⟩) (λi H' hi kp =>?_) λi H' x H'' u hu kp y =>?_
 ·have hi':i<vs.reverse.length:=by rw[<- hl];exact hi
  exact⟨vs,vs.reverse[i],.inl (.inl (kp p vs hp)),rfl,aX hi'⟩
 ·obtain⟨rfl,y⟩:=y
  obtain⟨v,hv,rv⟩:=rr.get hu
  have:=y vs (.inl (.inl (kp p vs hp)))
  rw[hv]at this;cases this
  exact⟨rfl,rv⟩
theorem JL{a:MA}{t:MT}{e:ME}(h:tM K (cq (w9 a) t e) σ H Q):og (wD K (tMA K a)) (tMT K t) (tM K e) σ H Q:=by
 obtain⟨μ,S,ρ,u,S',hr,er,e0,k⟩:=h
 obtain⟨src,S1,e1,e0⟩:=aZ e0
 obtain⟨ys,S2,e2,e0⟩:=aZ e0
 split at e0
 ·rename_i hz
  cases e0
  refine DA hr er e1 λμ1 H1 us p vs p1 k1 hr1 hs hp rs =>?_
  subst hs
  exact Dx hr1 (er.mono k1 p1) e2 hz (k.mono p1 k1) hp rs
 ·cases e0
theorem Dg{i:Nat}{b:MS}{us:List U}{vs:List V}{ρ:Rho}{S:Sto}{μ:List Addr}{a:Addr}{r:Fl×Rho×Sto}(hr:HR K μ S H)(er:ER H μ ρ σ)(e:qb i b us.reverse ρ S=some r)(fl:FlP K μ H D r)(ha:H a=some (.tup vs))(ru:RUs H μ us vs):
  ∃W:Nat->Nat->St->Hp->Prop,(∃m,W 0 m σ H) /\ ∀k m σ H,W k m σ H ->
   ((Itv K a vs.length).stop k H/\D.nx σ H)\/((Itv K a vs.length).go k H /\ ∃N:St->Hp->Prop,(∀σ' H',N σ' H' -> ∃m',m'<m/\W (k+1) m' σ' H') /\ ∀x H',(Itv K a vs.length).yld k H x H'->iO i x σ H' λσ2 H2=>tMS K b { D with nx:=N,ct:=N,bk:=D.nx } σ2 H2):=by
 have rr:=ru.revs
 refine⟨λk m σ1 H1=>m+k=us.reverse.length /\ ∃μ1 S1 ρ1,Pre μ μ1/\br H H1/\HR K μ1 S1 H1/\ER H1 μ1 ρ1 σ1/\qb i b (us.reverse.drop k) ρ1 S1=some r,⟨us.reverse.length,rfl,μ,S,ρ,Pre.refl _,br.refl _,hr,er,e⟩,?_⟩
 rintro k m σ1 H1 ⟨hm,μ1,S1,ρ1,p1,k1,hr1,er1,e1⟩
 have hq:SqT K H1 a vs:= .inl (.inl (k1 a vs ha))
 cases m with
 | zero=>
   have hk:k=us.reverse.length:=by omega
   subst hk
   rw[iW]at e1
   cases e1
   exact .inl ⟨⟨vs,hq,rfl,by rw[rr.len,pQ];exact aq _⟩,fl μ1 σ1 H1 p1 k1 hr1 er1⟩
 | succ m=>
   have hk:k<us.reverse.length:=by omega
   have hu:us.reverse[k]? = some us.reverse[k]:=aX hk
   obtain⟨v,hv,rv⟩:=rr.get hu
   rw[drop_cons hu]at e1
   refine .inr ⟨⟨vs,v,hq,rfl,hv⟩,λσ2 H2 =>∃μ2 S2 ρ2,Pre μ μ2/\br H H2/\HR K μ2 S2 H2/\ER H2 μ2 ρ2 σ2/\qb i b (us.reverse.drop (k+1)) ρ2 S2=some r,λσ' H' w=>⟨m,bF _,by omega,w⟩,λx H' y =>?_⟩
   obtain⟨e',y⟩:=y
   subst e'
   have hx:=y vs hq
   rw[hv]at hx;cases hx
   exact mK hr1 (er1.set (RU.mono k1 p1 _ _ rv) i) e1 p1 k1 fl λμ2 σ2 H2 ρ2 S2 p2 k2 hr2 er2 e2=>⟨μ2,S2,ρ2,p2,k2,hr2,er2,e2⟩
theorem HP{i:Nat}{a:MA}{b:MS}(h:tMS K (ft i (w9 a) b) D σ H):sR (wD K (tMA K a)) (iO i) (tMS K b) D σ H:=by
 obtain⟨μ,S,ρ,r,hr,er,e,fl⟩:=h
 obtain⟨src,S1,e1,e⟩:=aZ e
 refine DA hr er e1 λμ1 H1 us p vs p1 k1 hr1 hs hp rs =>?_
 subst hs
 exact Dg hr1 (er.mono k1 p1) e (fl.mono p1 k1) hp rs
end
end _G
end
section
namespace _G
open PySem PySem.Spec _L
open PyProof.Rows hiding St
theorem PE.con{X:Cx}{e:Expr}{t t':TE}(h:PE X e t)(hm: ∀σ H Q,t' σ H Q->t σ H Q):PE X e t':=λpins s σ H Q I q=>h pins s σ H Q I (hm σ H Q q)
theorem PT.con{X:Cx}{e:Expr}{t t':TT}(h:PT X e t)(hm: ∀σ H Q,t' σ H Q->t σ H Q):PT X e t':=λpins s σ H Q I q=>h pins s σ H Q I (hm σ H Q q)
theorem PW.con{X:Cx}{e:Expr}{t t':TT}(h:PW X e t)(hm: ∀σ H Q,t' σ H Q->t σ H Q):PW X e t':=λwh pins s σ H Q I q=>h wh pins s σ H Q I (hm σ H Q q)
theorem PA.con{X:Cx}{e:List Expr}{t t':TA}(h:PA X e t)(hm: ∀σ H Q,t' σ H Q->t σ H Q):PA X e t':=λpos pins s σ H Q I q=>h pos pins s σ H Q I (hm σ H Q q)
theorem PS.con{X:Cx}{e:Stmt}{t t':TS}(h:PS X e t)(hm: ∀D σ H,t' D σ H->t D σ H):PS X e t':=λpins s σ H D I q=>h pins s σ H D I (hm D σ H q)
theorem PSs.con{X:Cx}{e:List Stmt}{t t':TS}(h:PSs X e t)(hm: ∀D σ H,t' D σ H->t D σ H):PSs X e t':=λpins s σ H D I q=>h pins s σ H D I (hm D σ H q)
theorem PTs.con{X:Cx}{e:List Expr}{t t':TT}(h:PTs X e t)(hm: ∀σ H Q,t' σ H Q->t σ H Q):PTs X e t':=λpins s σ H Q I q=>h pins s σ H Q I (hm σ H Q q)
theorem PI.or{X:Cx}{tg it:Expr}{w1 w2:TI}(h1:PI X tg it w1)(h2:PI X tg it w2):PI X tg it (λσ H R=>w1 σ H R\/w2 σ H R):=λpins s σ H R I q=>by
 rcases q with q |q
 ·exact h1 pins s σ H R I q
 ·exact h2 pins s σ H R I q
structure Mo where
 P:Program
 w:World
 K:KX
 mg:Str->Option Value
 base:Heap
 mkr:Option (Addr×Str)
noncomputable def sZ(ns:List (Str×NameKind))(x:Str):Bool:=match ns.lookup x with
 | some .local=>true
 | some .cell=>true
 | some .free=>true
 | _=>false
noncomputable def o4(ns:List (Str×NameKind))(x:Str):Bool:=match ns.lookup x with
 | some .local=>true
 | some .cell=>true
 | _=>false
noncomputable def ej(ns:List (Str×NameKind))(x:Str):Bool:=match ns.lookup x with
 | some .globalImplicit=>true
 | _=>false
structure Sc(M:Mo)(X:Cx)(k:Nat)(N:List Str)(ns:List (Str×NameKind)):Prop where
 hP:X.prog=M.P
 hw:X.w=M.w
 hK:X.K=M.K
 hm:X.mg=M.mg
 hb:X.base=M.base
 hN:X.N=N
 nd:N.Nodup
 calm:X.calm=true
 loc: ∀y,ns.lookup y=some .local->X.env.scope.names.lookup y=some .local
 cel: ∀y,ns.lookup y=some .cell->X.env.scope.names.lookup y=some .cell/\X.fn y=true
 fre: ∀y,ns.lookup y=some .free->X.env.scope.names.lookup y=some .cell\/X.env.scope.names.lookup y=some .free
 glo: ∀y,ns.lookup y=some .globalImplicit->X.env.scope.names.lookup y=some .globalImplicit
 room:kc k X.A
 own:PassesOwn (model X.prog X.w) X.A X.env X.xe
 cod: ∀c q,M.mkr=some (c,q)->X.env.code = .ref c/\X.env.qual=q
section
variable {M:Mo}{X:Cx}{k:Nat}{N:List Str}{ns:List (Str×NameKind)}
theorem Sc.vis(S:Sc M X k N ns){x:Str}(h:sZ ns x=true):Vis X.env.scope x:=by
 unfold sZ at h
 split at h
 ·rename_i e;exact .inl (S.loc x e)
 ·rename_i e;exact .inr (.inl (S.cel x e).1)
 ·rename_i e;exact .inr (S.fre x e)
 ·cases h
theorem Sc.lo(S:Sc M X k N ns){x:Str}(h:o4 ns x=true):Loc X.env.scope x/\(X.fn x=true\/X.env.scope.names.lookup x=some .local):=by
 unfold o4 at h
 split at h
 ·rename_i e;exact⟨.inl (S.loc x e),.inr (S.loc x e)⟩
 ·rename_i e;exact⟨.inr (S.cel x e).1,.inl (S.cel x e).2⟩
 ·cases h
theorem Sc.gl(S:Sc M X k N ns){x:Str}(h:ej ns x=true):Gl X x:=by
 unfold ej at h
 split at h
 ·rename_i e;exact S.glo x e
 ·cases h
variable {a b c e:Expr}{es:List Expr}{ma mb mc:ME}{mt:MT}{mas:MA}{pos p1 p2:Pos}{x:Str}
theorem MM (S:Sc M X k N ns) (i:Nat) (hi:N[i]? = some x) (hv:sZ ns x=true) (hd:(x == ("__debug__":Str))=false) (hcd:(x == ("__classdict__":Str))=false):PE X (.Name x pos) (tM M.K (ae i)):=
 PE.con (Co (by rw[S.hN];exact hi) (S.vis hv) hd hcd) λ_ _ _ h=>Ly h
theorem La{i:Int}{j}:PE X (.Constant (.int i) j pos) (tM M.K (mC (.int i))):=PE.con JQ λ_ _ _ h=>r_c (λ_ _=>eh) h
theorem NR{i:Bool}{j}:PE X (.Constant (.bool i) j pos) (tM M.K (mC (.bl i))):=PE.con K7 λ_ _ _ h=>r_c (λ_ _=>iL) h
theorem KG{j}:PE X (.Constant .none j pos) (tM M.K (mC .non)):=PE.con HG λ_ _ _ h=>r_c (λ_ _=>uX) h
theorem HS {u:U}{v:V}{g:Value} (S:Sc M X k N ns) (hg:ej ns x=true) (hm:M.mg x=some g) (r:RelV v g) (hv : ∀ H μ,RU H μ u v) (hd:(x == ("__debug__":Str))=false):PE X (.Name x pos) (tM M.K (mC u)):=
 PE.con (FB (S.gl hg) (by rw[S.hm];exact hm) r hd) λ_ _ _ h=>r_c hv h
theorem Mr(S:Sc M X k N ns)(ha:PE X a (tM M.K ma))(hb:PE X b (tM M.K mb)):PE X (.BinOp a .Add b pos) (tM M.K (m2 dq ma mb)):=
 PE.con (tU (Jg.or (OpR.or (S.hK▸F9) (S.hK▸Fq))) ha hb) λ_ _ _ h=>uS HZ h
theorem KM(ha:PE X a (tM M.K ma))(hb:PE X b (tM M.K mb)):PE X (.BinOp a .Sub b pos) (tM M.K (m2 kh ma mb)):=PE.con (tU JD ha hb) λ_ _ _ h=>uS IV h
theorem Ls(S:Sc M X k N ns)(ha:PE X a (tM M.K ma))(hb:PE X b (tM M.K mb)):PE X (.BinOp a .Mult b pos) (tM M.K (m2 gg ma mb)):=PE.con (tU (IW.or (S.hK▸F3)) ha hb) λ_ _ _ h=>uS Iu h
theorem MP(ha:PE X a (tM M.K ma))(hb:PE X b (tM M.K mb)):PE X (.BinOp a .FloorDiv b pos) (tM M.K (m2 oDiv ma mb)):=PE.con (tU ET ha hb) λ_ _ _ h=>uS Ih h
theorem Mu(ha:PE X a (tM M.K ma))(hb:PE X b (tM M.K mb)):PE X (.BinOp a .Mod b pos) (tM M.K (m2 oMod ma mb)):=PE.con (tU HY ha hb) λ_ _ _ h=>uS JC h
theorem KA(ha:PE X a (tM M.K ma))(hb:PE X b (tM M.K mb)):PE X (.BinOp a .Pow b pos) (tM M.K (m2 uN ma mb)):=PE.con (tU IP ha hb) λ_ _ _ h=>uS JJ h
theorem LZ(ha:PE X a (tM M.K ma)):PE X (.UnaryOp .USub a pos) (tM M.K (m1 iS ma)):=PE.con (Lv Ja ha) λ_ _ _ h=>N4 IF h
theorem NV(S:Sc M X k N ns)(ha:PE X a (tM M.K ma))(hb:PE X b (tM M.K mb))(hs:uI b):PE X (.Subscript a b pos) (tM M.K (m2 oIx ma mb)):=
 PE.con (LM (IxR.or (S.hK▸IK) (J6 (by have:=S.room.units;omega))) ha hb hs) λ_ _ _ h=>uS L1 h
theorem MW(hc:PT X c (tMT M.K mt))(ha:PE X a (tM M.K ma))(hb:PE X b (tM M.K mb)):PE X (.IfExp c a b pos) (tM M.K (yQ mt ma mb)):=PE.con (Dj hc ha hb) λ_ _ _ h=>L8 h
theorem LG:PA X [] (tMA M.K ah):=PA.con rK λ_ _ _ h=>Mh h
theorem JM(ha:PE X a (tM M.K ma))(hr:PA X es (tMA M.K mas))(hs:autoParam (starEach (a::es) X.env=(false,eval a X.env)::starEach es X.env) au1._auto_1):PA X (a::es) (tMA M.K (aa ma mas)):=
 PA.con (m4 ha hr hs) λ_ _ _ h=>Iz h
theorem Mc{x1}(h:PA X es (tMA M.K mas)):PE X (.Tuple es x1 pos) (tM M.K (dg mas)):=PE.con (Kg h) λ_ _ _ h=>KC h
theorem Lu(h:PA X es (tMA M.K mas)):PE X (.List es pos) (tM M.K (fA mas)):=PE.con (HE h) λ_ _ _ h=>Nf h
theorem Mi(ha:PT X a (tMT M.K mt)){mt':MT}(hb:PW X (.BoolOp .And (b::es) pos) (tMT M.K mt')):PW X (.BoolOp .And (a::b::es) pos) (tMT M.K (ko mt mt')):=PW.con (Ib ha hb) λ_ _ _ h=>Kt h
theorem Nq(ha:PT X a (tMT M.K mt)){mt':MT}(hb:PW X (.BoolOp .Or (b::es) pos) (tMT M.K mt')):PW X (.BoolOp .Or (a::b::es) pos) (tMT M.K (cOr mt mt')):=PW.con (KY ha hb) λ_ _ _ h=>NY h
theorem JO(ha:PT X a (tMT M.K mt)):PW X (.BoolOp .And [a] pos) (tMT M.K mt):=EM ha
theorem Lq(ha:PT X a (tMT M.K mt)):PW X (.BoolOp .Or [a] pos) (tMT M.K mt):=Jc ha
theorem LH(ha:PT X a (tMT M.K mt)):PT X (.UnaryOp .Not a pos) (tMT M.K (nX mt)):=PT.con (Ji ha) λ_ _ _ h=>LU h
theorem KR(ha:PE X a (tM M.K ma))(he:autoParam (∀whole,isTrue a X.env whole=(do let v <- whole;standAt a.pos;holding [v] (truthy v))) au3._auto_1):PT X a (tMT M.K (cOf ma)):=PT.con (JS ha he) λ_ _ _ h=>Nu (λ_ q=>q) h
theorem Cr (S:Sc M X k N ns) (hg:ej ns "len"=true) (hm:M.mg "len"=none) (ha:PA X (e::es) (tMA M.K mas)) (he:autoParam (starEach (e::es) X.env=(false,eval e X.env)::starEach es X.env) au1._auto_1) (hpl:autoParam ((backTo pos (starEach es X.env)).any (·.1)=false) au1._auto_1) :
  PE X (.Call (.Name "len" p1) (e::es) [] pos) (tM M.K (mFn bK mas)):=
 PE.con (jY (gR.or (S.hK▸uP) A9) (S.gl hg) (by rw[S.hm];exact hm) PySem.boot_len ha (by decide) (by decide) he hpl) λ_ _ _ h=>wc HN h
theorem FJ (S:Sc M X k N ns) (hg:ej ns "tuple"=true) (hm:M.mg "tuple"=none) (ha:PA X (e::es) (tMA M.K mas)) (he:autoParam (starEach (e::es) X.env=(false,eval e X.env)::starEach es X.env) au1._auto_1) (hpl:autoParam ((backTo pos (starEach es X.env)).any (·.1)=false) au1._auto_1) :
  PE X (.Call (.Name "tuple" p1) (e::es) [] pos) (tM M.K (mFn b9 mas)):=
 PE.con (mN (S.hK▸tE) (S.gl hg) (by rw[S.hm];exact hm) jT ha (by decide) (by decide) he hpl) λ_ _ _ h=>wc Dk h
theorem MK (S:Sc M X k N ns) (hg:ej ns "max"=true) (hm:M.mg "max"=none) (ha:PA X (e::es) (tMA M.K mas)) (he:autoParam (starEach (e::es) X.env=(false,eval e X.env)::starEach es X.env) au1._auto_1) (hpl:autoParam ((backTo pos (starEach es X.env)).any (·.1)=false) au1._auto_1) :
  PE X (.Call (.Name "max" p1) (e::es) [] pos) (tM M.K (mFn wW mas)):=
 PE.con (jY (A6 S.calm) (S.gl hg) (by rw[S.hm];exact hm) PyProof.Rows.boot_max ha (by decide) (by decide) he hpl) λ_ _ _ h=>wc Kd h
theorem KU (S:Sc M X k N ns) (hg:ej ns "min"=true) (hm:M.mg "min"=none) (ha:PA X (e::es) (tMA M.K mas)) (he:autoParam (starEach (e::es) X.env=(false,eval e X.env)::starEach es X.env) au1._auto_1) (hpl:autoParam ((backTo pos (starEach es X.env)).any (·.1)=false) au1._auto_1) :
  PE X (.Call (.Name "min" p1) (e::es) [] pos) (tM M.K (mFn pX mas)):=
 PE.con (jY (S.hK▸Bq S.calm (by have:=S.room.units;assumption)) (S.gl hg) (by rw[S.hm];exact hm) PyProof.Rows.boot_min ha (by decide) (by decide) he hpl) λ_ _ _ h=>wc Ij h
structure Fn(M:Mo)(x:Str)(k:Nat)(ps:List Str)(m:MF):Prop where
 ex: ∃(f:Addr) (fd:FuncData),M.mg x=some (.ref f)/\dk M.K (.ref f)=true/\Binds M.K fd ps []/\j4 M.P M.w M.K M.mg M.base CX0 k f fd ps (spM M.K m)
theorem IM {mf:MF}{ps:List Str}{k':Nat} (S:Sc M X k N ns) (F:Fn M x k' ps mf) (hk:k'<=k) (hg:ej ns x=true) (ha:PA X (e::es) (tMA M.K mas)) (hd:(x == ("__debug__":Str))=false) (he:autoParam (starEach (e::es) X.env=(false,eval e X.env)::starEach es X.env) au1._auto_1) (hpl:autoParam ((backTo pos (starEach es X.env)).any (·.1)=false) au1._auto_1) :
  PE X (.Call (.Name x p1) (e::es) [] pos) (tM M.K (mFn mf mas)):=by
 obtain⟨f,fd,hm,hkp,hb,F⟩:=F.ex
 rw[<- S.hP,<- S.hw,<- S.hK,<- S.hm,<- S.hb]at F
 rw[<- S.hm]at hm
 rw[<- S.hK]at hkp hb
 exact PE.con (GI F (S.room.mono hk) (S.gl hg) hm hkp hb .nil zY ha hd he hpl) λ_ _ _ h=>Dd h
theorem Ff {mf:MF}{ps:List Str}{k':Nat} (S:Sc M X k N ns) (F:Fn M x k' ps mf) (hk:k'<=k) (hg:ej ns x=true) (hd:(x == ("__debug__":Str))=false) :
  PE X (.Call (.Name x p1) [] [] pos) (tM M.K (mFn mf ah)):=by
 obtain⟨f,fd,hm,hkp,hb,F⟩:=F.ex
 rw[<- S.hP,<- S.hw,<- S.hK,<- S.hm,<- S.hb]at F
 rw[<- S.hm]at hm
 rw[<- S.hK]at hkp hb
 refine PE.con (Do F (S.room.mono hk) (S.gl hg) hm hkp hb .nil zY hd) λσ H Q h =>?_
 obtain⟨μ,S,ρ,u,S',hr,er,e,kk⟩:=h
 exact⟨μ,S,[],u,S',hr,.nil,e,kk⟩
theorem DD (S:Sc M X k N ns) (ho:PE X a (tM M.K ma)) (ha:PA X (e::es) (tMA M.K mas)) (hbase:autoParam (attributeBase a "append" X.env (eval a X.env)=eval a X.env) au1._auto_1)
  (hfew:autoParam (((backTo pos (starEach (e::es) X.env)).all (λx => !x.1)&&(backToKw pos (keywordEach [] X.env)).all (λx=>x.1.isSome)
   && decide ((e::es).length+([]:List Keyword).length+(if ([]:List Keyword).isEmpty then 0 else 1)<30))=true) au1._auto_1)
  (hline:autoParam ((p1.endLine==pos.line)=true) au1._auto_1) (hs:autoParam (starEach (e::es) X.env=(false,eval e X.env)::starEach es X.env) au1._auto_1) (hpl:autoParam ((backTo pos (starEach es X.env)).any (·.1)=false) au1._auto_1):
  PE X (.Call (.Attribute a "append" p1) (e::es) [] pos) (tM M.K (mML d7 ma mas)):=by
 exact PE.con (GX ls PySem.F.slot_list_append PySem.F.type_list_append AN ho ha hbase hfew hline hs hpl) λ_ _ _ h=>S.hK▸M3 Bv h
theorem Fc (S:Sc M X k N ns) (ho:PE X a (tM M.K ma)) (ha:PA X (e::es) (tMA M.K mas)) (hbase:autoParam (attributeBase a "pop" X.env (eval a X.env)=eval a X.env) au1._auto_1)
  (hfew:autoParam (((backTo pos (starEach (e::es) X.env)).all (λx => !x.1)&&(backToKw pos (keywordEach [] X.env)).all (λx=>x.1.isSome)
   && decide ((e::es).length+([]:List Keyword).length+(if ([]:List Keyword).isEmpty then 0 else 1)<30))=true) au1._auto_1)
  (hline:autoParam ((p1.endLine==pos.line)=true) au1._auto_1) (hs:autoParam (starEach (e::es) X.env=(false,eval e X.env)::starEach es X.env) au1._auto_1) (hpl:autoParam ((backTo pos (starEach es X.env)).any (·.1)=false) au1._auto_1):
  PE X (.Call (.Attribute a "pop" p1) (e::es) [] pos) (tM M.K (mML jL ma mas)):=by
 exact PE.con (GX ls AA AB De ho ha hbase hfew hline hs hpl) λ_ _ _ h=>S.hK▸M3 DP h
theorem K5 {tg:Expr} (S:Sc M X k N ns) (hg:ej ns "range"=true) (hm:M.mg "range"=none) (ha:PA X [a] (tMA M.K mas)) (hs:autoParam (starEach [a] X.env = [(false,eval a X.env)]) au1._auto_1):PI X tg (.Call (.Name "range" p1) [a] [] pos) (wG (tMA M.K mas)):=
 AR (S.gl hg) (by rw[S.hm];exact hm) ha hs
theorem K8 {tg:Expr} (S:Sc M X k N ns) (hg:ej ns "range"=true) (hm:M.mg "range"=none) (ha:PA X [a,b] (tMA M.K mas)) (hs:autoParam (starEach [a,b] X.env = [(false,eval a X.env),(false,eval b X.env)]) au1._auto_1) (hs2:autoParam (starEach [b] X.env = [(false,eval b X.env)]) au1._auto_1):PI X tg (.Call (.Name "range" p1) [a,b] [] pos) (xH (tMA M.K mas)):=
 Bo (S.gl hg) (by rw[S.hm];exact hm) ha hs hs2
theorem IX {tg:Expr} (S:Sc M X k N ns) (hg:ej ns "reversed"=true) (hm:M.mg "reversed"=none) (ha:PA X [a] (tMA M.K mas)) (hs:autoParam (starEach [a] X.env = [(false,eval a X.env)]) au1._auto_1):PI X tg (.Call (.Name "reversed" p1) [a] [] pos) (wD M.K (tMA M.K mas)):=
 S.hK▸IG (S.gl hg) (by rw[S.hm];exact hm) ha hs
theorem IT{tg:Expr}(S:Sc M X k N ns)(ha:PE X a (tM M.K ma)):PI X tg a (λσ H R=>t6 M.K (tM M.K ma) σ H R\/BB M.K (tM M.K ma) σ H R):=by
 have h:=PI.or (FA (tg:=tg) ha) (HA ha)
 rw[S.hK]at h
 exact h
noncomputable def uM(N N':List Str)(ns names:List (Str×NameKind))(xs:List Str):Bool:=
 decide ((names.map (·.1)).Nodup)&&names.all (λy=>if y.2==.free then(match ns.lookup y.1 with |some .cell=>true |some .free=>true |_=>false) else true)&&xs.all (o4 names)&&decide N'.Nodup &&
 (N'.length==N.length+xs.length)&&((aE xs.length).all λj=>N'[N.length+j]? == xs[j]?)&&(aE N.length).all λi=>match N'[i]? with
  | none=>true
  | some y=>if sZ names y then N[i]? == some y&&names.lookup y==some .free else true
noncomputable def m3(N N':List Str)(ns names:List (Str×NameKind))(x:Str):Bool:=uM N N' ns names [x]
theorem y3{N':List Str}{scope:Scope}{xs:List Str}(S:Sc M X k N ns)(hk:scope.kind = .function)(h:uM N N' ns scope.names xs=true):iJ X N' scope xs:=by
 unfold uM at h
 simp only[aB]at h
 obtain⟨⟨⟨⟨⟨⟨h1,h2⟩,h3⟩,h4⟩,h5⟩,h6⟩,h7⟩:=h
 refine⟨hk,of_decide_eq_true h1,λy hy e =>?_,λx hx =>?_,of_decide_eq_true h4,?_,λj x hj =>?_,λi y hi e hv =>?_⟩
 ·have:=cM.mp h2 y hy
  rw[if_pos (by rw[e];rfl)]at this
  split at this
  ·rename_i q;exact .inl (S.cel y.1 q).1
  ·rename_i q;exact S.fre y.1 q
  ·cases this
 ·have h3:=cM.mp h3 x hx
  unfold o4 at h3
  split at h3
  ·rename_i q;exact .inl q
  ·rename_i q;exact .inr q
  ·cases h3
 ·rw[S.hN];exact eq_of_beq h5
 ·have hl:=(ak.mp hj).1
  have:=cM.mp h6 j (aI.mpr hl)
  rw[S.hN,eq_of_beq this];exact hj
 ·rw[S.hN]at hi ⊢
  have:=cM.mp h7 i (aI.mpr hi)
  rw[e]at this
  simp only at this
  have hvb:sZ scope.names y=true:=by
   unfold sZ
   rcases hv with q |q |q <;> rw[q]
  rw[if_pos hvb,aB]at this
  exact⟨eq_of_beq this.1,eq_of_beq this.2⟩
theorem tW{N':List Str}{scope:Scope}(S:Sc M X k N ns)(hk:scope.kind = .function)(h:m3 N N' ns scope.names x=true):iJ X N' scope [x]:=y3 S hk h
theorem vg{N':List Str}{scope:Scope}{xs:List Str}(S:Sc M X k N ns)(C:iJ X N' scope xs)(s₂:Shared)(H₂:Hp)(fp:List Addr):Sc M (blk X N' scope s₂ H₂ fp) k N' scope.names where
 hP:=S.hP
 hw:=S.hw
 hK:=S.hK
 hm:=S.hm
 hb:=S.hb
 hN:=rfl
 nd:=C.ndN
 calm:=S.calm
 loc:=λy h=>lookup_relabel_local h
 cel:=λy h=>⟨ki h,by show(scope.names.lookup y==some .cell)=true;rw[h];rfl⟩
 fre:=λy h=>km h
 glo:=λy h=>oO h
 room:=S.room
 own:=Eu
 cod:=S.cod
theorem CI{N':List Str}{scope:Scope}{px:Pos}{iter elt:Expr}{ifs:List Expr}{wi:TI}{mi:MI}(S:Sc M X k N ns)(hk:scope.kind = .function)(ok:m3 N N' ns scope.names x=true)(hi:PI X (.Name x px) iter wi)
  (ht: ∀X',Sc M X' k N' scope.names->PTs X' ifs (tMT M.K mt)) (he: ∀X',Sc M X' k N' scope.names->PE X' elt (tM M.K mc)) (hr: ∀σ H Q,tM M.K (cq mi mt mc) σ H Q->og wi (tMT M.K mt) (tM M.K mc) σ H Q)
  (hs:autoParam (∀x,foldedSetIterable iter X.env x=pure x) au3._auto_1):PE X (.ListComp elt [⟨.Name x px,iter,ifs,0⟩] scope pos) (tM M.K (cq mi mt mc)):=by
 have C:=tW S hk ok
 exact PE.con (GP S.calm C hi (λs₂ H₂ fp=>ht _ (vg S C s₂ H₂ fp)) (λs₂ H₂ fp=>he _ (vg S C s₂ H₂ fp)) hs) hr
theorem IS:PTs X [] (tMT M.K cTT):=PTs.con ES λσ H Q h=>by
 obtain⟨μ,S,ρ,b,S',hr,er,e,kk⟩:=h
 cases e
 exact kk μ H (Pre.refl _) (br.refl _) hr
theorem Mg(h:PT X c (tMT M.K mt)):PTs X [c] (tMT M.K mt):=Gc h
variable {st:Stmt}{sts:List Stmt}{ms ms':MS}
theorem K4:PSs X [] (tMS M.K b7):=PSs.con F5 λ_ _ _ h=>Cj h
theorem Lx(h1:PS X st (tMS M.K ms))(h2:PSs X sts (tMS M.K ms')):PSs X (st::sts) (tMS M.K (ba ms ms')):=PSs.con (Ct h1 h2) λ_ _ _ h=>Ms h
theorem Kw(h1:PS X st (tMS M.K ms)):PSs X [st] (tMS M.K ms):=FT h1
theorem G9(S:Sc M X k N ns)(i:Nat)(hi:N[i]? = some x)(ho:o4 ns x=true)(he:PE X e (tM M.K ma))(hs:autoParam (swapsWith e (some (.Name x p1)) pos.line X.env=pure false) au1._auto_1):PS X (.Assign [.Name x p1] e pos) (tMS M.K (bC i ma)):=
 PS.con (IY (by rw[S.hN];exact S.nd) (by rw[S.hN];exact hi) (S.lo ho).1 he hs (S.lo ho).2) λ_ _ _ h=>G8 h
theorem FO(S:Sc M X k N ns)(ho:PE X a (tM M.K ma))(hi:PE X b (tM M.K mb))(he:PE X e (tM M.K mc))(hs:autoParam (swapsWithSole [.Subscript a b p1] e pos.line X.env=pure false) au1._auto_1)(hw:autoParam (swappedStores [.Subscript a b p1] e X.env=pure none) au1._auto_1)
  (h1:autoParam ((assignEach [.Subscript a b p1] X.env).map (·.2) = [assign (.Subscript a b p1) X.env]) au1._auto_1)
  (hasn:autoParam (∀v,assign (.Subscript a b p1) X.env v=(do
   let ov <- holding [v] (eval a X.env)
   let iv <- holding [v,ov] (eval b X.env)
   standAt p1
   holding [v,ov,iv] (setItem ov iv v)
   release [v,ov,iv] [])) au3._auto_1):PS X (.Assign [.Subscript a b p1] e pos) (tMS M.K (jb ma mb mc)):=
 PS.con (Hz he (Iq ho hi (FK (by have:=S.room.units;omega)) hasn) hs hw h1) λ_ _ _ h=>E1 h
theorem JT(he:PE X e (tM M.K ma))(hs:autoParam (swapsWith e none pos.line X.env=pure false) au1._auto_1):PS X (.Expr e pos) (tMS M.K (fb ma)):=PS.con (Fy he hs) λ_ _ _ h=>Jk h
theorem L9(he:PE X e (tM M.K ma)):PS X (.Return (some e) pos) (tMS M.K (bB ma)):=PS.con (Jz he) λ_ _ _ h=>LC h
theorem NF{sts':List Stmt}(hc:PT X c (tMT M.K mt))(ha:PSs X sts (tMS M.K ms))(hb:PSs X sts' (tMS M.K ms')):PS X (.If c sts sts' pos) (tMS M.K (sIf mt ms ms')):=PS.con (M6 hc ha hb) λ_ _ _ h=>Nl h
theorem Lg{iter:Expr}{wi:TI}{mi:MI}(S:Sc M X k N ns)(i:Nat)(hi:N[i]? = some x)(ho:o4 ns x=true)(hit:PI X (.Name x p1) iter wi)(hb:PSs X sts (tMS M.K ms))(hr: ∀D σ H,tMS M.K (ft i mi ms) D σ H->sR wi (iO i) (tMS M.K ms) D σ H)
  (hs:autoParam (∀x,foldedSetIterable iter X.env x=pure x) au3._auto_1):PS X (.For (.Name x p1) iter sts [] pos) (tMS M.K (ft i mi ms)):=
 PS.con (Ec S.own S.calm hit (zU (by rw[S.hN];exact S.nd) (by rw[S.hN];exact hi) (S.lo ho).1 (S.lo ho).2) hb hs) hr
theorem Ga(S:Sc M X k N ns)(hc:PT X c (tMT M.K mt))(hb:PSs X sts (tMS M.K ms)):PS X (.While c sts [] pos) (tMS M.K (iE mt ms)):=PS.con (CF S.own hc hb) λ_ _ _ h=>FL h
end
theorem Sc.def {M:Mo}{N ps:List Str}{qual:Str}{scope:Scope}{f:Addr}{cdv:Value}{A:Around}{outer:List Env}{s:Shared}{H:Hp}{E:XK}{k:Nat} (S:bc N ps scope) (hr:kc k (A.deeper (envOfC qual scope s.heap.objs.size f cdv))) (h0 : ∀ c q,M.mkr=some (c,q)->cdv = .ref c/\qual++".<locals>."=q) :
  Sc M (yK CX0 M.P M.w M.K M.mg M.base N qual scope f cdv A outer s H E).nox k N scope.names:=
 ⟨rfl,rfl,rfl,rfl,rfl,rfl,S.nd,rfl,λ_ h=>h,λ_ h=>⟨h,rfl⟩,λ_ h => .inr h,λ_ h=>h,hr,Eu,h0⟩
theorem Ba{H:Hp}{μ:List Addr}{N:List Str}{us:List U}{vs:List V}(r:RUs H μ us vs):ER H μ (us.map some++aw (N.length - us.length) none) (_L.start N vs):=by
 unfold _L.start
 refine⟨by simp[r.len],λi u h =>?_⟩
 by_cases hi:i<us.length
 ·rw[bg (by simpa using hi),dP]at h
  cases e:us[i]? with
  | none=>rw[e]at h;cases h
  | some w=>
    rw[e]at h;cases h
    obtain⟨v,hv,rv⟩:=r.get e
    refine⟨v,?_,rv⟩
    rw[bg (by simpa [<- r.len]using hi),dP,hv];rfl
 ·rw[aG (by simpa using hi)]at h
  rw[hJ]at h
  split at h <;> cases h
theorem BP{M:Mo}(h0:M.mkr=none){x qual:Str}{st:Stmt}{f:Addr}{fd:FuncData}{N ps:List Str}{k:Nat}{ms:MS}(F:Fun M.K x qual st f fd)(S:bc N ps (ax st))
  (hb: ∀X,Sc M X k N (ax st).names->PSs X (aT st) (tMS M.K ms)):j4 M.P M.w M.K M.mg M.base CX0 (k+1) f fd ps (spM M.K (run ps.length N.length ms)):=by
 refine F.ok S (λvs H Q E h =>?_) λcdv A outer s H vs Q E hr h=>⟨tMS M.K ms,hb _ (Sc.def S hr λc q h=>by rw[h0]at h;cases h),?_⟩
 ·obtain⟨μ,S',us,u,S'',hr,rs,e,_⟩:=h
  unfold run at e
  split at e
  ·rename_i hl;rw[<- rs.len];exact hl
  ·cases e
 ·obtain⟨μ,S1,us,u,S2,hr,rs,e,ka⟩:=h
  unfold run at e
  split at e
  ·rename_i hl
   have er:=Ba (N:=N) rs
   rw[hl]at er
   split at e
   ·rename_i w ρ' S3 q
    cases e
    exact⟨μ,S1,_,_,hr,er,q,ka⟩
   ·rename_i ρ' S3 q
    cases e
    exact⟨μ,S1,_,_,hr,er,q,λμ' σ' H' p' k' hr' er'=>ka μ' _ H' p' k' hr' uX⟩
   ·cases e
  ·cases e
end _G
end
section
namespace _G
open PySem PySem.Spec _L
open PyProof.Rows hiding St
mutual
inductive ph(K:av)(H:Hp):V->PyData->Prop where
 | non:ph K H .non .none
 | bl (b:Bool):ph K H (.bl b) (.bool b)
 | int (i:Int):ph K H (.int i) (.int i)
 | str (x:Str):ph K H (.str x) (.str x)
 | tup {a:Addr}{vs:List V}{ds:List PyData}:SqT K H a vs->kX K H vs ds->ph K H (.ref a) (.tuple ds)
 | lst {a:Addr}{vs:List V}{ds:List PyData}:SqL K H a vs->kX K H vs ds->ph K H (.ref a) (.list ds)
inductive kX(K:av)(H:Hp):List V->List PyData->Prop where
 | nil:kX K H [] []
 | cons {v:V}{vs:List V}{d:PyData}{ds:List PyData}:ph K H v d->kX K H vs ds->kX K H (v::vs) (d::ds)
end
section
variable {X:Cx}{pins:List (Addr×Obj)}{σ:St}{H:Hp}{s:Shared}
mutual
theorem ph.reads(I:Inv X pins σ H s): ∀{v:V}{d:PyData}{w:Value},ph X.K H v d->RelV v w -> ∃as,Reads s.heap w d as
 | _,_,_,.non,r=>⟨[],by cases (show _=da from r);exact .none⟩
 | _,_,_,.bl b,r=>⟨[],by cases (show _=xM b from r);exact .bool b⟩
 | _,_,_,.int i,r=>by
   obtain⟨t,e⟩:=(show ∃t,_=mF i t from r)
   subst e;exact⟨[],.int i t⟩
 | _,_,_,.str x,r=>by
   obtain⟨t,e⟩:=(show ∃t,_=tI x t from r)
   subst e;exact⟨[],.str x t⟩
 | _,_,_,.tup (a:=a) h rs,r=>by
   cases (show _=aU a from r)
   obtain⟨its,rv,⟨o,e,c,n,dt⟩,_⟩:=I.tuple h
   obtain⟨as,q⟩:=kX.reads I rs rv
   exact⟨as,.tuple e c dt q⟩
 | _,_,_,.lst (a:=a) h rs,r=>by
   cases (show _=aU a from r)
   obtain⟨its,rv,⟨o,n,e,c,dd,dt⟩,_⟩:=I.list h
   obtain⟨as,q⟩:=kX.reads I rs rv
   exact⟨a::as,.list e c dt q⟩
theorem kX.reads(I:Inv X pins σ H s): ∀{vs:List V}{ds:List PyData}{ws:List Value},kX X.K H vs ds->b8 vs ws -> ∃as,ReadsAll s.heap ws ds as
 | _,_,_,.nil,r=>by cases r;exact⟨[],.nil⟩
 | _,_,_,.cons h rs,r=>by
   cases r with
   | cons r1 r2=>
     obtain⟨as,q⟩:=ph.reads I h r1
     obtain⟨bs,q'⟩:=kX.reads I rs r2
     exact⟨as++bs,.cons q q'⟩
end
end
theorem oq{α β:Type}{f:α->Option β}{P:α->β->Prop}(hf: ∀x y,f x=some y->P x y): ∀{xs:List α}{ys:List β},dZ f xs=some ys->Paired P xs ys
 | [],ys,h=>by cases h;exact .nil
 | x::xs,ys,h=>by
   unfold dZ at h
   cases e:f x with
   | none=>rw[e]at h;cases h
   | some y=>
     rw[e]at h
     simp only[ar]at h
     cases e2:dZ f xs with
     | none=>rw[e2]at h;cases h
     | some zs=>
       rw[e2]at h;cases h
       exact .cons (hf x y e) (oq hf e2)
theorem qH{f:Nat}: ∀{us:List U}{ds:List PyData},Paired (λ(_:U) (d:PyData)=>d.canLay0=true/\d.depth<=f) us ds->kK ds=true/\jr ds<=f
 | _,_,.nil=>⟨by simp[kK],by simp[jr]⟩
 | _,_,.cons h t=>by
   obtain⟨a,b⟩:=qH t
   exact⟨by simp[kK,h.1,a],by simp only[jr];exact Nat.max_le.mpr ⟨h.2,b⟩⟩
section
variable {K:KX}{H:Hp}{μ:List Addr}{S:Sto}
theorem qC{f:Nat}(hr:HR K μ S H)(ih: ∀(u:U) (d:PyData),toD S f u=some d -> ∀v,RU H μ u v->ph K H v d): ∀{us:List U}{ds:List PyData},dZ (toD S f) us=some ds -> ∀{vs:List V},RUs H μ us vs->kX K H vs ds
 | [],ds,h,vs,r=>by cases h;rw[r.nil_inv];exact .nil
 | u::us,ds,h,vs,r=>by
   unfold dZ at h
   cases e:toD S f u with
   | none=>rw[e]at h;cases h
   | some y=>
     rw[e]at h
     simp only[ar]at h
     cases e2:dZ (toD S f) us with
     | none=>rw[e2]at h;cases h
     | some zs=>
       rw[e2]at h;cases h
       obtain⟨v,r',rfl,a,b⟩:=r.inv
       exact .cons (ih u y e v a) (qC hr ih e2 b)
theorem qA(hr:HR K μ S H): ∀(f:Nat) (u:U) (d:PyData),toD S f u=some d -> ∀v,RU H μ u v->ph K H v d
 | 0,u,d,h,v,r=>by cases u <;> cases h
 | f+1,.non,d,h,v,r=>by cases h;rw[show v = .non by simpa only [RU]using r];exact .non
 | f+1,.bl b,d,h,v,r=>by cases h;rw[i7 r];exact .bl b
 | f+1,.int i,d,h,v,r=>by cases h;rw[cz r];exact .int i
 | f+1,.str x,d,h,v,r=>by
   unfold toD at h
   split at h
   ·cases h;rw[show v = .str x by simpa only [RU]using r];exact .str x
   ·cases h
 | f+1,.tup us,d,h,v,r=>by
   unfold toD at h
   cases e:dZ (toD S f) us with
   | none=>rw[e]at h;cases h
   | some ds=>
     rw[e]at h;cases h
     obtain⟨a,vs,rfl,ha,rs⟩:=gF r
     exact .tup (.inl (.inl ha)) (qC hr (qA hr f) e rs)
 | f+1,.ref n,d,h,v,r=>by
   unfold toD at h
   cases e0:getL S n with
   | none=>rw[e0]at h;cases h
   | some us=>
     rw[e0]at h
     simp only[ar]at h
     cases e:dZ (toD S f) us with
     | none=>rw[e]at h;cases h
     | some ds=>
       rw[e]at h;cases h
       obtain⟨a,rfl,ha⟩:=gH r
       obtain⟨a',vs,ha',hs,rs⟩:=hr.sq e0
       rw[ha]at ha';cases ha'
       exact .lst hs (qC hr (qA hr f) e rs)
 | f+1,.obj a,d,h,v,r=>by cases h
end
theorem qI(S:Sto): ∀(f:Nat) (u:U) (d:PyData),toD S f u=some d->d.canLay0=true/\d.depth<=f
 | 0,u,d,h=>by cases u <;> cases h
 | f+1,.non,d,h=>by cases h;exact⟨by simp[h9],by simp[jI]⟩
 | f+1,.bl b,d,h=>by cases h;exact⟨by simp[h9],by simp[jI]⟩
 | f+1,.int i,d,h=>by cases h;exact⟨by simp[h9],by simp[jI]⟩
 | f+1,.str x,d,h=>by
   unfold toD at h
   split at h
   ·rename_i q;cases h;exact⟨q,by simp[jI]⟩
   ·cases h
 | f+1,.tup us,d,h=>by
   unfold toD at h
   cases e:dZ (toD S f) us with
   | none=>rw[e]at h;cases h
   | some ds=>
     rw[e]at h;cases h
     obtain⟨a,b⟩:=qH (oq (λx y q=>qI S f x y q) e)
     exact⟨by simpa [h9]using a,by simp only[jI];exact tR (by assumption)⟩
 | f+1,.ref n,d,h=>by
   unfold toD at h
   cases e0:getL S n with
   | none=>rw[e0]at h;cases h
   | some us=>
     rw[e0]at h
     simp only[ar]at h
     cases e:dZ (toD S f) us with
     | none=>rw[e]at h;cases h
     | some ds=>
       rw[e]at h;cases h
       obtain⟨a,b⟩:=qH (oq (λx y q=>qI S f x y q) e)
       exact⟨by simpa [h9]using a,by simp only[jI];exact tR (by assumption)⟩
 | f+1,.obj a,d,h=>by cases h
noncomputable def rY(K:av)(H:Hp)(v:V)(d:PyData):Prop:=ph K H v d/\d.canLay0=true/\d.depth<=40
noncomputable def Lb(K:av):R2:=λx y H Q =>∃a b,rY K H x a/\rY K H y b/\Q (.bl (jS a b)) H
noncomputable def MU(K:av):R2:=λx y H Q =>∃a b,rY K H x a/\rY K H y b/\Q (.bl (!jS a b)) H
theorem mT{K:av}{H:Hp}{v:V}{d:PyData}(h:rY K H v d):SeqAt.shaped d=true:=by
 unfold SeqAt.shaped
 rw[h.2.1,decide_eq_true (aM h.2.2 (by decide))];rfl
section
variable {X:Cx}
theorem JW(hu:X.A.units+64<cLine):OpR X (compareOp .Eq) (Lb X.K):=by
 intro pins s σ H x y v u Q I rx ry h
 obtain⟨a,b,ha,hb,q⟩:=h
 obtain⟨as,r1⟩:=ha.1.reads I rx
 obtain⟨bs,r2⟩:=hb.1.reads I ry
 exact SeqAt.compareEq_shaped r1 r2 (mT ha) (mT hb) hu ⟨.bl _,H,I,rfl,q⟩
theorem Jm(hu:X.A.units+64<cLine):OpR X (compareOp .NotEq) (MU X.K):=by
 intro pins s σ H x y v u Q I rx ry h
 obtain⟨a,b,ha,hb,q⟩:=h
 obtain⟨as,r1⟩:=ha.1.reads I rx
 obtain⟨bs,r2⟩:=hb.1.reads I ry
 exact SeqAt.compareNe_shaped r1 r2 (mT ha) (mT hb) hu ⟨.bl _,H,I,rfl,q⟩
end
section
variable {K:KX}{μ:List Addr}{S:Sto}{H:Hp}
theorem v9{u:U}{v:V}{d:PyData}(hr:HR K μ S H)(r:RU H μ u v)(h:toD S 40 u=some d):rY K H v d:=⟨qA hr 40 u d h v r,qI S 40 u d h⟩
theorem zR{x y:U}{b:Bool}(h:eqU S x y=some b): ∃a c,toD S 40 x=some a/\toD S 40 y=some c/\b=jS a c:=by
 unfold eqU at h
 cases e1:toD S 40 x with
 | none=>rw[e1]at h;cases h
 | some a=>
   rw[e1]at h
   simp only[ar]at h
   cases e2:toD S 40 y with
   | none=>rw[e2]at h;cases h
   | some c=>rw[e2]at h;cases h;exact⟨a,c,rfl,rfl,rfl⟩
theorem Kx:OpU K (Lb K) oEq:=by
 intro μ S H x y vx vy u S' Q hr rx ry e a
 unfold oEq at e
 cases q:eqU S x y with
 | none=>rw[q]at e;cases e
 | some b=>
   rw[q]at e;cases e
   obtain⟨d1,d2,e1,e2,rfl⟩:=zR q
   exact⟨d1,d2,v9 hr rx e1,v9 hr ry e2,a.now hr iL⟩
theorem Kz:OpU K (MU K) oNe:=by
 intro μ S H x y vx vy u S' Q hr rx ry e a
 unfold oNe at e
 cases q:eqU S x y with
 | none=>rw[q]at e;cases e
 | some b=>
   rw[q]at e;cases e
   obtain⟨d1,d2,e1,e2,rfl⟩:=zR q
   exact⟨d1,d2,v9 hr rx e1,v9 hr ry e2,a.now hr iL⟩
end
end _G
end
section
namespace _G
open PySem PySem.Spec _L
open PyProof.Rows hiding St
section
noncomputable def L5(K:av):V->Option Int->Option Int->Hp->VK->Prop:=λx lo hi H Q =>∃a xs,x = .ref a/\SqT K H a xs /\
 (HT.sIx xs.length 0 lo=0/\HT.sIx xs.length xs.length hi=xs.length)/\Q (.ref a) H
theorem CD{X:Cx}:SlR X (L5 X.K):=by
 intro pins s σ H x v vl vu lo hi sl Q I rx hs pl pu h
 obtain⟨a,xs,rfl,hx,hw,q⟩:=h
 cases rx
 obtain⟨its,r,ht,hz⟩:=I.tuple hx
 have hlen:its.toArray.size=xs.length:=by rw[aF];exact r.length.symm
 refine⟨"tuple",_,PyProof.Rows.slot_tuple_getitem.lookup,ht.typeIs,?_⟩
 exact HT.getItem_tuple_whole ht hs pl pu (by rw[hlen];exact hw) ⟨.ref a,H,I,rfl,q⟩
noncomputable def rSl(K:av):V->Option Int->Option Int->Hp->VK->Prop:=λx lo hi H Q=>Kp K x lo hi H Q\/(L5 K x lo hi H Q\/Mt K x lo hi H Q)
theorem JX{X:Cx}:SlR X (rSl X.K):=SlR.or Jy (SlR.or CD FD)
noncomputable def tO(K:KX):Option ME->TO
 | none=>zB
 | some m=>G7 (tM K m)
theorem As{H:Hp}{μ:List Addr}{us:List U}{vs:List V}(r:RUs H μ us vs)(lo hi:Option Int):RUs H μ (cut us lo hi) (xh vs lo hi):=by
 unfold cut xh
 rw[r.len]
 exact(r.drop _).take _
section
variable {K:KX}{σ:St}{H:Hp}{Q:VK}
theorem CJ{a:Option ME}{μ:List Addr}{S S1:Sto}{ρ:Rho}{o:Option Int}{Q:Option Int->Hp->Prop}(hr:HR K μ S H)(er:ER H μ ρ σ)(e:uw a ρ S=some (o,S1))
  (k: ∀μ1 H1,Pre μ μ1->br H H1->HR K μ1 S1 H1->Q o H1):tO K a σ H Q:=by
 cases a with
 | none=>cases e;exact k μ H (Pre.refl _) (br.refl _) hr
 | some m=>
   obtain⟨x,S2,e1,e⟩:=aZ (show bnd (m ρ S) (λx S1=>match x with
    | .int i=>some (some i,S1)
    | _=>none)=some (o,S1) from e)
   split at e
   ·cases e
    exact⟨μ,S,ρ,_,_,hr,er,e1,λμ1 v H1 p1 k1 hr1 rx=>⟨_,cz rx,k μ1 H1 p1 k1 hr1⟩⟩
   ·cases e
theorem E3{a:ME}{lo hi:Option ME}(h:tM K (mSl a lo hi) σ H Q):tSl (rSl K) (tM K a) (tO K lo) (tO K hi) σ H Q:=by
 obtain⟨μ,S,ρ,u,S',hr,er,e,k⟩:=h
 obtain⟨x,S1,e1,e⟩:=aZ e
 obtain⟨l,S2,e2,e⟩:=aZ e
 obtain⟨r,S3,e3,e⟩:=aZ e
 refine⟨μ,S,ρ,x,S1,hr,er,e1,λμ1 vx H1 p1 k1 hr1 rx =>?_⟩
 refine CJ hr1 (er.mono k1 p1) e2 λμ2 H2 p2 k2 hr2 =>?_
 refine CJ hr2 (er.mono (k1.trans k2) (p1.trans p2)) e3 λμ3 H3 p3 k3 hr3 =>?_
 have k':=k.mono (p1.trans (p2.trans p3)) (k1.trans (k2.trans k3))
 have rx3:=RU.mono (k2.trans k3) (p2.trans p3) _ _ rx
 cases x with
 | tup us=>
   cases e
   obtain⟨p,vs,rfl,hp,rs⟩:=gF rx3
   by_cases hw:HT.sIx vs.length 0 l=0/\HT.sIx vs.length vs.length r=vs.length
   ·refine .inr (.inl ⟨p,vs,rfl,.inl (.inl hp),hw,k'.now hr3 ?_⟩)
    have e4:cut us l r=us:=by
     unfold cut
     rw[rs.len,hw.1,hw.2]
     simp[<- rs.len]
    rw[e4]
    exact iF hp rs
   ·refine .inl ⟨p,vs,rfl,.inl (.inl hp),hw,λt ht =>?_⟩
    refine k' μ3 _ _ (Pre.refl _) (br.new ht) (hr3.tup ht) (iF dn (RUs.mono (br.new ht) (Pre.refl _) _ _ (As rs l r)))
 | ref n=>
   simp only at e
   cases q:getL S3 n with
   | none=>rw[q]at e;cases e
   | some us=>
     rw[q]at e;cases e
     obtain⟨p,rfl,hp⟩:=gH rx3
     obtain⟨p',vs,hp',hs,rs⟩:=hr3.sq q
     rw[hp]at hp';cases hp'
     exact .inr (.inr ⟨p,vs,rfl,hs,λt ht=>jA k' hr3 (As rs l r) ht⟩)
 | _=>cases e
end
section
variable {M:Mo}{X:Cx}{k:Nat}{N:List Str}{ns:List (Str×NameKind)}{a b c e:Expr}{es:List Expr}{ma mb mc:ME}{mt:MT}{mas:MA}{pos p1 p2:Pos}{x:Str}
inductive lG(M:Mo)(X:Cx):Option Expr->Option ME->Prop where
 | none:lG M X .none .none
 | some {e:Expr}{m:ME}:PE X e (tM M.K m)->lG M X (.some e) (.some m)
theorem lG.po{lo:Option Expr}{m:Option ME}(h:lG M X lo m):PO X lo (tO M.K m):=by
 cases h with
 | none=>exact Gj
 | some h=>exact EU h
theorem Gs{lo hi:Option Expr}{ml mh:Option ME}(S:Sc M X k N ns)(ha:PE X a (tM M.K ma))(hl:lG M X lo ml)(hh:lG M X hi mh):PE X (.Subscript a (.Slice lo hi none p2) pos) (tM M.K (mSl ma ml mh)):=
 PE.con (Dq (S.hK▸JX) ha hl.po hh.po) λ_ _ _ h=>E3 h
end
noncomputable def iH(a b:ME):ME:=λρ S=>bnd (a ρ S) λx S1=>match x with
 | .bl true=>b ρ S1
 | .bl false=>some (.bl false,S1)
 | _=>none
noncomputable def mOr(a b:ME):ME:=λρ S=>bnd (a ρ S) λx S1=>match x with
 | .bl true=>some (.bl true,S1)
 | .bl false=>b ρ S1
 | _=>none
noncomputable def zc:U->Sto->Res U:=λx S=>match x with
 | .bl b=>some (.bl (!b),S)
 | _=>none
section
variable {K:KX}{σ:St}{H:Hp}{Q:VK}
theorem J7{a b:ME}(h:tM K (iH a b) σ H Q):Hw (tM K a) (tM K b) σ H Q:=by
 obtain⟨μ,S,ρ,u,S',hr,er,e,k⟩:=h
 obtain⟨x,S1,e1,e⟩:=aZ e
 refine⟨μ,S,ρ,x,S1,hr,er,e1,λμ1 vx H1 p1 k1 hr1 rx =>?_⟩
 split at e
 ·exact⟨true,i7 rx,pJ ⟨μ1,S1,ρ,u,S',hr1,er.mono k1 p1,e,k.mono p1 k1⟩⟩
 ·cases e
  exact⟨false,i7 rx,pB (k μ1 _ H1 p1 k1 hr1 iL)⟩
 ·cases e
theorem K9{a b:ME}(h:tM K (mOr a b) σ H Q):K6 (tM K a) (tM K b) σ H Q:=by
 obtain⟨μ,S,ρ,u,S',hr,er,e,k⟩:=h
 obtain⟨x,S1,e1,e⟩:=aZ e
 refine⟨μ,S,ρ,x,S1,hr,er,e1,λμ1 vx H1 p1 k1 hr1 rx =>?_⟩
 split at e
 ·cases e
  exact⟨true,i7 rx,pJ (k μ1 _ H1 p1 k1 hr1 iL)⟩
 ·exact⟨false,i7 rx,pB ⟨μ1,S1,ρ,u,S',hr1,er.mono k1 p1,e,k.mono p1 k1⟩⟩
 ·cases e
theorem J5{a:ME}(h:tM K (m1 zc a) σ H Q):G4 (tM K a) σ H Q:=by
 obtain⟨μ,S,ρ,u,S',hr,er,e,k⟩:=h
 obtain⟨x,S1,e1,e⟩:=aZ e
 refine⟨μ,S,ρ,x,S1,hr,er,e1,λμ1 vx H1 p1 k1 hr1 rx =>?_⟩
 unfold zc at e
 split at e
 ·cases e
  exact⟨_,i7 rx,k μ1 _ H1 p1 k1 hr1 iL⟩
 ·cases e
end
section
variable {X:Cx}{a b:Expr}{ta:TA}{p pos:Pos}
noncomputable def GQ(ta:TA):TE:=λσ H Q=>ta σ H λvs H1 =>∃j:Int,vs = [.int j] /\ -(2 ^ 62)<=j/\j<2 ^ 62 /\ ∀r,H1 r=none->Q (.ref r) (upd H1 r (.rng 0 j))
noncomputable def Ef(ta:TA):TE:=λσ H Q=>ta σ H λvs H1 =>∃i j:Int,vs = [.int i,.int j]/\(-(2 ^ 62)<=i/\i<2 ^ 62 /\ -(2 ^ 62)<=j/\j<2 ^ 62) /\ ∀r,H1 r=none->Q (.ref r) (upd H1 r (.rng i j))
theorem wo{pins:List (Addr×Obj)}{σ:St}{H:Hp}{s:Shared}{Q:VK}{lo hi:Int}{t u v:Tok}{tk:Nat}(I:Inv X pins σ H s)(q: ∀r,H r=none->Q (.ref r) (upd H r (.rng lo hi))):
  EP X pins σ Q (.ref s.heap.objs.size) { s with heap:=s.heap.push { cls := .type "range",data := .fields #[.int lo t,.int hi u,.int 1 v] },toks:=tk }:=by
 refine⟨.ref s.heap.objs.size,_,I.laid (t':=tk) (o:= .rng lo hi) (λb ob q=>ao _ q) (aq _) ?_,rfl,q _ (I.hok.fresh (aq _))⟩
 exact⟨t,u,v,ay _ rfl⟩
theorem Gf (hg:Gl X "range") (hm:X.mg "range"=none) (ha:PA X [a] ta) (hs:autoParam (starEach [a] X.env = [(false,eval a X.env)]) au1._auto_1):PE X (.Call (.Name "range" p) [a] [] pos) (GQ ta):=by
 intro pins s σ H Q I h
 refine Call_ (hC I hg hm boot_range (bN (thn (ha pos pins s σ H _ I h) λus s1 ⟨vs,H1,I1,r1,q1⟩ =>?_) (by rw[hs];rfl) rfl))
 obtain⟨j,e,q1,q2,q⟩:=q1
 subst e
 cases r1 with
 | cons r rr=>
   cases rr
   obtain⟨t,rfl⟩:=r
   exact call_range_1 (wo I1 q)
theorem zZ (hg:Gl X "range") (hm:X.mg "range"=none) (ha:PA X [a,b] ta) (hs:autoParam (starEach [a,b] X.env = [(false,eval a X.env),(false,eval b X.env)]) au1._auto_1) (hs2:autoParam (starEach [b] X.env = [(false,eval b X.env)]) au1._auto_1) :
  PE X (.Call (.Name "range" p) [a,b] [] pos) (Ef ta):=by
 intro pins s σ H Q I h
 refine Call_ (hC I hg hm boot_range (bN (thn (ha pos pins s σ H _ I h) λus s1 ⟨vs,H1,I1,r1,q1⟩ =>?_) (by rw[hs,hs2]) (by rw[hs2];rfl)))
 obtain⟨i,j,e,⟨q1,q2,q3,q4⟩,q⟩:=q1
 subst e
 cases r1 with
 | cons r rr=>
   cases rr with
   | cons r' rr=>
     cases rr
     obtain⟨t,rfl⟩:=r
     obtain⟨t',rfl⟩:=r'
     exact call_range_2 (wo I1 q)
theorem uW: ∀{xs:List V}{us:List Value},xs.length=us.length->(∀(i:Nat) (x:V) (u:Value),xs[i]? = some x->us[i]? = some u->RelV x u)->b8 xs us
 | [],[],_,_ => .nil
 | [],_::_,h,_=>by simp at h
 | _::_,[],h,_=>by simp at h
 | x::xs,u::us,h,k => .cons (k 0 x u rfl rfl) (uW (by simpa using h) λi y w h1 h2=>k (i+1) y w (by simpa using h1) (by simpa using h2))
noncomputable def lh(i:Int)(n:Nat):List V:=(aE n).map λ(k:Nat) => .int (i+k)
theorem s9 (hc:X.calm=true):gR X (.type "list") (fun xs H Q => ∃ r lo hi,xs = [.ref r]/\H r=some (.rng lo hi)/\(-(2 ^ 62)<=lo/\lo < 2 ^ 62 /\ -(2 ^ 62)<=hi/\hi < 2 ^ 62)/\(hi - lo).toNat<=sizeLine /\ ∀ l,H l=none->Q (.ref l) (upd H l (.lst (lh lo (hi - lo).toNat)))):=by
 intro pins s σ H xs us Q I rs h
 obtain⟨r,lo,hi,rfl,hr,⟨h1,h2,h3,h4⟩,hz,q⟩:=h
 cases rs with
 | cons r1 rr=>
   cases rr
   cases (show _=aU r from r1)
   obtain⟨t,u,v,e⟩:=I.hok r _ hr
   have hn:dD lo hi 1=((hi - lo).toNat:Nat):=by rw[rangeSize_one];split <;> omega
   refine call_list_range (n:=(hi - lo).toNat) (I.ok.hd hc) e (small_one h1 h2 h3 h4) hn (by rw[sizeLine_eq]at hz;exact hz) λh' tk acc c' hk hl hacc =>?_
   obtain⟨hsz,hit⟩:=hacc
   refine⟨.ref s.heap.objs.size,_,I.laid (t':=tk) (o:= .lst (lh lo (hi - lo).toNat)) hk (aq _) ?_,rfl,q _ (I.hok.fresh (aq _))⟩
   refine⟨by rw[lh,aA,bD];exact hz,acc.toList,c',?_,by simpa using hl⟩
   refine uW (by rw[lh,aA,bD,cQ,hsz]) λi x w h5 h6 =>?_
   have hlt:i<(hi - lo).toNat:=by
    have:=(ak.mp h5).1
    rwa[lh,aA,bD]at this
   have hx:(lh lo (hi - lo).toNat)[i]? = some (.int (lo+i)):=by simp[lh,hlt]
   rw[hx]at h5;cases h5
   obtain⟨t',e'⟩:=hit i w (by simpa using h6)
   exact⟨t',by rw[e'];simp⟩
end
end
end _G
end
section
namespace _G
open PySem PySem.Spec _L
open PyProof.Rows hiding St
section
theorem Aa{H:Hp}{μ:List Addr}(i:Int)(n:Nat):RUs H μ (bh i n) (lh i n):=by
 unfold bh lh
 induction n with
 | zero=>simpa using RUs.nil
 | succ n ih=>rw[cZ,b5,b5];exact ih.append (.cons eh .nil)
section
variable {K:KX}{σ:St}{H:Hp}{Q:VK}
noncomputable def rLR:List V->Hp->VK->Prop:=λxs H Q =>∃r lo hi,xs = [.ref r]/\H r=some (.rng lo hi)/\(-(2 ^ 62)<=lo/\lo<2 ^ 62 /\ -(2 ^ 62)<=hi/\hi<2 ^ 62)/\(hi - lo).toNat<=sizeLine /\ ∀l,H l=none->Q (.ref l) (upd H l (.lst (lh lo (hi - lo).toNat)))
theorem HR.rng{μ:List Addr}{S:Sto}{p:Addr}{i j:Int}(h:HR K μ S H)(hp:H p=none):HR K μ S (upd H p (.rng i j)):=by
 have kp:br H (upd H p (.rng i j)):=br.new hp
 refine⟨h.len,h.inj,λm c b q1 q2=>(h.cell m c b q1 q2).mono kp (Pre.refl _) (λhc =>?_) λo u hf =>?_,h.ext.upd kp (Pre.refl _) λo1 q=>by rw[hp]at q;cases q⟩
 ·obtain⟨o,e,_⟩:=(h.cell m _ b q1 q2).has hc
  exact bR (bI e hp)
 ·rw[bR (bI hf hp)];exact hf
theorem Fj{μ:List Addr}{S1:Sto}{i j:Int}{r:Addr}(hr1:HR K μ S1 H)(ho:okR i/\okR j)(hz:(bh i (j - i).toNat).length<=big)(k:Aft K μ H (.ref S1.length) (S1++[.lst (bh i (j - i).toNat)]) Q)(hrn:H r=none):rLR [.ref r] (upd H r (.rng i j)) Q:=by
 refine⟨r,i,j,rfl,dn,⟨ho.1.1,ho.1.2,ho.2.1,ho.2.2⟩,?_,λl hl =>?_⟩
 ·unfold bh big at hz;rw[aA,bD]at hz;rw[sizeLine_eq];exact hz
 ·exact jA (k.mono (Pre.refl _) (br.new hrn)) (hr1.rng hrn) (Aa _ _) hl
theorem Dm{a:MA}(h:tM K (jN (iR2 a)) σ H Q):tCB rLR (rB (Ef (tMA K a)) yN) σ H Q:=by
 obtain⟨μ,S,ρ,u,S',hr,er,e,k⟩:=h
 obtain⟨src,S1,e1,e⟩:=aZ e
 obtain⟨xs,S2,e2,e1⟩:=aZ e1
 refine⟨μ,S,ρ,xs,S2,hr,er,e2,λμ1 vs H1 p1 k1 hr1 rs =>?_⟩
 split at e1
 ·rename_i i j
  split at e1
  ·rename_i hj
   cases e1
   simp only at e
   split at e
   ·rename_i hz
    cases e
    obtain⟨v,r,rfl,rx,rs⟩:=rs.inv
    obtain⟨w,r,rfl,ry,rn⟩:=rs.inv
    rw[rn.nil_inv,cz rx,cz ry]
    exact⟨i,j,rfl,⟨hj.1.1,hj.1.2,hj.2.1,hj.2.2⟩,λr hrn=>Fj hr1 hj hz (k.mono p1 k1) hrn⟩
   ·cases e
  ·cases e1
 ·cases e1
end
noncomputable def oj:List String := ["NoneType","bool","int","str","list","tuple","dict"]
noncomputable def kg:List String := ["bool","int","str","list","tuple","dict"]
theorem Jq(K:av){t T:String}(ht:t∈oj)(hT:T∈kg):PySem.W.kitOne K (.type t) (.type T)=some (EY t T):=by
 simp only[oj,kg,aO,List.not_mem_nil,or_false]at ht hT
 rcases ht with rfl |rfl |rfl |rfl |rfl |rfl |rfl <;> rcases hT with rfl |rfl |rfl |rfl |rfl |rfl <;> first |rfl |kernel_rfl
theorem CO {X:Cx}:gR X (.builtin "isinstance") (fun xs H Q => ∃ x t T,xs = [x,.ty T]/\nQ X.K H x (.type t)/\t∈oj/\T∈kg/\Q (.bl (EY t T)) H):=by
 intro pins s σ H xs us Q I rs h
 obtain⟨x,t,T,rfl,ty,ht,hT,q⟩:=h
 cases rs with
 | cons r1 rr=>
   cases rr with
   | cons r2 rr=>
     cases rr
     cases (show _=kd T from r2)
     exact Bk I r1 ty (Jq X.K ht hT) λtk=>⟨.bl _,H,I.tok _,rfl,q⟩
theorem M0{K:KX}{μ:List Addr}{S:Sto}{H:Hp}{x:U}{v:V}{t:String}(hr:HR K μ S H)(r:RU H μ x v)(e:tyU S x=some t):nQ K H v (.type t)/\t∈oj:=by
 unfold tyU at e
 split at e
 ·cases e;rw[show v = .non by simpa only [RU]using r];exact⟨.non,by decide⟩
 ·cases e;rw[i7 r];exact⟨.bl _,by decide⟩
 ·cases e;rw[cz r];exact⟨.int _,by decide⟩
 ·cases e;rw[show v = .str _ by simpa only [RU]using r];exact⟨.str _,by decide⟩
 ·cases e;obtain⟨a,vs,rfl,ha,_⟩:=gF r;exact⟨.tup ha,by decide⟩
 ·split at e
  ·rename_i q
   cases e
   obtain⟨a,rfl,ha⟩:=gH r
   obtain⟨vs,e1,_⟩:=hr.cell _ _ a q ha
   exact⟨.lst e1,by decide⟩
  ·rename_i q
   cases e
   obtain⟨a,rfl,ha⟩:=gH r
   obtain⟨vs,e1,_⟩:=hr.cell _ _ a q ha
   exact⟨.dK e1,by decide⟩
  ·cases e
 ·cases e
theorem L4{K:KX}{σ:St}{H:Hp}{Q:VK}{a:ME}{T:String}(hT:T∈kg)(h:tM K (m1 (nR T) a) σ H Q):
  tCB (λxs H Q =>∃x t T,xs = [x,.ty T]/\nQ K H x (.type t)/\t∈oj/\T∈kg/\Q (.bl (EY t T)) H) (rB (tM K a) (rB (tC (.ty T)) yN)) σ H Q:=by
 obtain⟨μ,S,ρ,u,S',hr,er,e,k⟩:=h
 obtain⟨x,S1,e1,e⟩:=aZ e
 refine⟨μ,S,ρ,x,S1,hr,er,e1,λμ1 vx H1 p1 k1 hr1 rx =>?_⟩
 unfold nR at e
 cases q:tyU S1 x with
 | none=>rw[q]at e;cases e
 | some t=>
   rw[q]at e;cases e
   obtain⟨ty,ht⟩:=M0 hr1 rx q
   exact⟨vx,t,T,rfl,ty,ht,hT,k μ1 _ H1 p1 k1 hr1 iL⟩
noncomputable def DT(S:Sto)(x:U)(us:List U):Option Nat:=(dZ (toD S 39) us).bind λds=>(toD S 40 x).bind λd=>ds.findIdx? λy=>jS y d
noncomputable def gd:List U->List U->Sto->Res U:=λus xs S=>match xs with
 | [x]=>(DT S x us).map λk=>(.int k,S)
 | _=>none
noncomputable def Iy(K:av)(to:TE)(t:TA):TE:=λσ H Q=>to σ H λx H1=>(∃p ys,x = .ref p/\H1 p=some (.tup ys))/\t σ H1 λxs H2 =>∃p ys v ds d j,x = .ref p/\xs = [v]/\H2 p=some (.tup ys) /\
 kX K H2 ys ds/\kK ds=true/\jr ds<=40/\rY K H2 v d/\ds.findIdx? (λy=>jS y d)=some j/\Q (.int j) H2
theorem Cm{X:Cx}{o e:Expr}{es:List Expr}{to:TE}{t:TA}{apos cpos:Pos}(hu:X.A.units+64<cLine)(ho:PE X o to)(ha:PA X (e::es) t)
  (hbase:autoParam (attributeBase o "index" X.env (eval o X.env)=eval o X.env) au1._auto_1)
  (hfew:autoParam (((backTo cpos (starEach (e::es) X.env)).all (λx => !x.1)&&(backToKw cpos (keywordEach [] X.env)).all (λx=>x.1.isSome)
   && decide ((e::es).length+([]:List Keyword).length+(if ([]:List Keyword).isEmpty then 0 else 1)<30))=true) au1._auto_1)
  (hline:autoParam ((apos.endLine==cpos.line)=true) au1._auto_1) (hs:autoParam (starEach (e::es) X.env=(false,eval e X.env)::starEach es X.env) au1._auto_1) (hplain:autoParam ((backTo cpos (starEach es X.env)).any (·.1)=false) au1._auto_1):
  PE X (.Call (.Attribute o "index" apos) (e::es) [] cpos) (Iy X.K to t):=by
 intro pins s σ H Q I h
 refine wpAny_Call_method_late hbase hfew hline rfl (thn (ho pins s σ H _ I h) λv s1 ⟨x,H1,I1,r1,⟨p,ys,hx,hp⟩,q1⟩ =>?_)
 subst hx
 cases (show v=aU p from r1)
 obtain⟨_,its,rv,⟨o1,e1,c1,n1,d1⟩,o2,e2,c2⟩:=I1.hok p _ hp
 refine⟨"tuple",_,PySem.F.plainAttrs_tuple,xT,PySem.F.type_tuple_index,⟨o1,e1,c1⟩,fun a ea=>by cases ea;exact⟨o2,e2,c2⟩,?_⟩
 have hA:=ha cpos pins s1 σ H1 _ I1 q1
 rw[hs]at hA ⊢
 refine nk (by show(false||(backTo cpos (starEach es X.env)).any (·.1))=false;rw[hplain] <;> rfl) (oS ?_)
 refine thn hA λus s2 ⟨vs,H2,I2,r2,q2⟩ =>?_
 obtain⟨p',ys',v',ds,d,j,hx,hxs,hp',rd,hl,hdp,hd,hj,q⟩:=q2
 cases hx
 subst hxs
 cases r2 with
 | cons ra rr=>
   cases rr
   obtain⟨_,its2,rv2,⟨⟨cls,dd,data,sl⟩,e3,c3,n3,d3⟩,_⟩:=I2.hok p _ hp'
   simp only at c3 d3
   subst c3 d3
   obtain⟨as,rds⟩:=rd.reads I2 rv2
   obtain⟨bs,rdv⟩:=hd.1.reads I2 ra
   have hlen:its2.length=ds.length:=SeqAt.ReadsAll.length _ _ _ rds
   have hjl:j<ds.length:=by
    obtain⟨h1,_⟩:=eB.mp hj
    exact h1
   have hmap:=SeqAt.readsAll_map ds _ _ hl rds
   have hget: ∀(m:Nat) (h1:m<its2.length) (h2:m<ds.length),SeqAt.readOf s2.heap its2[m]=ds[m]:=λm h1 h2=>by
    have:=congrArg (λl=>l[m]?) hmap
    simp[h1,h2]at this
    exact this
   have heq:=SeqAt.items_eqAt (A:=X.A) (vs:=its2.toArray) (by simpa using rds) rdv hl hd.2.1 (by have:=jQ (jr ds) d.depth;omega)
   obtain⟨h1,h2,h3⟩:=eB.mp hj
   refine call_meets xT ⟨_,e3,rfl⟩ PySem.F.entry_tuple_index (PySem.F.args_tuple_index_2 _ _)
    (tF p its2.toArray n3 dd sl _ (λy=>jS (SeqAt.readOf s2.heap y) d) j (by rw[aF];omega) ?_ ?_) ⟨e3,heq,?_⟩
   ·have:=hget j (by omega) hjl
    simp only[Ew,this];exact h2
   ·intro m hm hmj
    rw[aF]at hm
    have:=hget m hm (by exact ck (by assumption) (by assumption))
    simp only[Ew,this]
    simpa using h3 m hmj
   ·exact⟨.int j,H2,I2.tok _,⟨_,rfl⟩,q⟩
theorem Ge{K:KX}{σ:St}{H:Hp}{Q:VK}{o:ME}{a:MA}(h:tM K (mMT gd o a) σ H Q):Iy K (tM K o) (tMA K a) σ H Q:=by
 obtain⟨μ,S,ρ,u,S',hr,er,e,k⟩:=h
 obtain⟨x,S1,e1,e⟩:=aZ e
 refine⟨μ,S,ρ,x,S1,hr,er,e1,λμ1 vx H1 p1 k1 hr1 rx =>?_⟩
 cases x with
 | tup us=>
   obtain⟨xs,S2,e2,e⟩:=aZ e
   obtain⟨p,vs,rfl,hp,rs⟩:=gF rx
   refine⟨⟨p,vs,rfl,hp⟩,μ1,S1,ρ,xs,S2,hr1,er.mono k1 p1,e2,λμ2 ws H2 p2 k2 hr2 rws =>?_⟩
   unfold gd at e
   split at e
   ·rename_i x
    obtain⟨v,r,rfl,rx',rn⟩:=rws.inv
    rw[rn.nil_inv]
    cases q:DT S2 x us with
    | none=>rw[q]at e;cases e
    | some j=>
      rw[q]at e;cases e
      unfold DT at q
      cases q1:dZ (toD S' 39) us with
      | none=>rw[q1]at q;cases q
      | some ds=>
        rw[q1]at q
        simp only[ar]at q
        cases q2:toD S' 40 x with
        | none=>rw[q2]at q;cases q
        | some d=>
          rw[q2]at q
          simp only[ar]at q
          obtain⟨l1,l2⟩:=qH (oq (λx y z=>qI S' 39 x y z) q1)
          exact⟨p,vs,v,ds,d,j,rfl,rfl,k2 p vs hp,qC hr2 (qA hr2 39) q1 (RUs.mono k2 p2 _ _ rs),l1,by exact aM (by assumption) (by decide),v9 hr2 rx' q2,q,k μ2 _ H2 (p1.trans p2) (k1.trans k2) hr2 eh⟩
   ·cases e
 | _=>cases e
end
end _G
end
section
namespace _G
open PySem PySem.Spec _L
open PyProof.Rows hiding St
section
theorem Gu{h h':Heap}{o:Obj}(hk: ∀b x,b ∉ [h.objs.size]->(h.push o).get? b=some x->h'.get? b=some x): ∀b x,h.get? b=some x->h'.get? b=some x:=
 λb x e=>hk b x (λhm=>by rw[aQ.mp hm]at e;exact bZ _ (aD e)) (ao _ e)
theorem yR(bs:List Bool):((aE bs.length).all λi=>(bs[i]?).getD true)=bs.all id:=by
 rw[Bool.eq_iff_iff,cM,cM]
 constructor
 ·intro h b hb
  obtain⟨i,hi,rfl⟩:=pR hb
  have:=h i (aI.mpr hi)
  simpa [aX hi]using this
 ·intro h i hi
  have hi':=aI.mp hi
  simp only[aX hi',Option.getD_some]
  exact h _ (eW hi')
theorem AH{bs:List Bool}: ∀{us:List Value}{i:Nat}{v:Value},b8 (bs.map V.bl) us->us[i]? = some v -> ∃b,bs[i]? = some b/\v = .bool b:=λ{us i v} r h=>by
 have hl:=r.length
 rw[aA]at hl
 have hi:i<bs.length:=by rw[hl];exact(ak.mp h).1
 obtain⟨u,hu,ru⟩:=r.get (i:=i) (x:= .bl bs[i]) (by simp[hi])
 rw[h]at hu;cases hu
 exact⟨bs[i],by simp[hi],ru⟩
section
variable {X:Cx}
theorem Bc (hc:X.calm=true):gR X (.builtin "all") (fun xs H Q => ∃ (p:Addr) (bs:List Bool),xs = [.ref p]/\SqL X.K H p (bs.map V.bl)/\Q (.bl (bs.all id)) H):=by
 intro pins s σ H xs us Q I rs h
 obtain⟨p,bs,rfl,hS,q⟩:=h
 cases rs with
 | cons r1 rr=>
   cases rr
   cases (show _=aU p from r1)
   obtain⟨its,rv,pl,_⟩:=I.list hS
   have hl:=pl.isList
   have hlt:p<s.heap.objs.size:=by obtain⟨_,e,_⟩:=hl;exact aD e
   refine call_all_walk (xP hl ?_)
   refine⟨s.heap.objs.size,[s.heap.objs.size,p],[s.heap.objs.size],its.toArray.size,_,_,λi=>(bs[i]?).getD true,rfl,Walks.list (A:=X.A.in1) (I.ok.hd hc) _ p (aL hlt) its.toArray,
    ⟨⟨_,ay _ rfl,rfl,rfl⟩,hl.push _⟩,λi v s' Q' E' hP hQ =>?_,λh' tk hk =>?_⟩
   ·obtain⟨b,e,rfl⟩:=AH rv (by simpa using hP)
    simp only[e,Option.getD_some]at hQ
    exact dC hQ
   ·have e:((aE its.toArray.size).all λi=>(bs[i]?).getD true)=bs.all id:=by
     rw[aF,<- rv.length,aA];exact yR bs
    rw[e]
    exact⟨.bl _,H,I.kept (Gu hk),rfl,q⟩
end
noncomputable def lR:U->Option Bool
 | .bl b=>some b
 | _=>none
noncomputable def pe:MF:=λus S=>match us with
 | [.ref n]=>(getL S n).bind λxs=>(dZ lR xs).map λbs=>(.bl (bs.all id),S)
 | _=>none
theorem xC{H:Hp}{μ:List Addr}: ∀{us:List U}{vs:List V}{bs:List Bool},RUs H μ us vs->dZ lR us=some bs->vs=bs.map V.bl
 | [],vs,bs,r,e=>by cases e;rw[r.nil_inv];rfl
 | u::us,vs,bs,r,e=>by
   obtain⟨v,r',rfl,a,b⟩:=r.inv
   unfold dZ at e
   cases u with
   | bl x=>
     simp only[lR,ar]at e
     cases q:dZ lR us with
     | none=>rw[q]at e;cases e
     | some cs=>
       rw[q]at e;cases e
       rw[i7 a,xC b q];rfl
   | _=>cases e
section
variable {K:KX}
theorem ID:oE K (λxs H Q =>∃(p:Addr) (bs:List Bool),xs = [.ref p]/\SqL K H p (bs.map V.bl)/\Q (.bl (bs.all id)) H) pe:=by
 intro μ S H us vs u S' Q hr rs e a
 unfold pe at e
 split at e
 ·rename_i n
  obtain⟨v,r,rfl,rx,rn⟩:=rs.inv
  rw[rn.nil_inv]
  cases q:getL S n with
  | none=>rw[q]at e;cases e
  | some xs=>
    rw[q]at e
    simp only[ar]at e
    cases q2:dZ lR xs with
    | none=>rw[q2]at e;cases e
    | some bs=>
      rw[q2]at e;cases e
      obtain⟨p,rfl,hp⟩:=gH rx
      obtain⟨p',ys,hp',hs,r'⟩:=hr.sq q
      rw[hp]at hp';cases hp'
      rw[xC r' q2]at hs
      exact⟨p,bs,rfl,hs,a.now hr iL⟩
 ·cases e
end
end
end _G
end
section
namespace _G
open PySem PySem.Spec _L
open PyProof.Rows hiding St
section
noncomputable def eO:U->Option V
 | .non=>some .non
 | .bl b=>some (.bl b)
 | .int i=>some (.int i)
 | .str x=>some (.str x)
 | _=>none
noncomputable def oIn:F2:=λx y S=>match fJ S y with
 | some kvs=>(keyOf x).map λk=>(.bl (ni kvs k).isSome,S)
 | none=>(eO x).bind λvx=>(dz S y).bind λys=>(dZ eO ys).map λvs=>(.bl (inV vx vs),S)
noncomputable def gE:F2:=λx y S=>match fJ S y with
 | some kvs=>(keyOf x).map λk=>(.bl (!(ni kvs k).isSome),S)
 | none=>(eO x).bind λvx=>(dz S y).bind λys=>(dZ eO ys).map λvs=>(.bl (!inV vx vs),S)
theorem vf{H:Hp}{μ:List Addr}{u:U}{v w:V}(e:eO u=some v)(r:RU H μ u w):w=v/\nq v=true:=by
 cases u <;> simp only[eO,gL,reduceCtorEq]at e <;> subst e <;> exact⟨by simpa only [RU]using r,rfl⟩
theorem qT{H:Hp}{μ:List Addr}: ∀{us:List U}{vs ws:List V},dZ eO us=some vs->RUs H μ us ws->ws=vs/\vs.all nq=true
 | [],vs,ws,e,r=>by cases e;rw[r.nil_inv];exact⟨rfl,rfl⟩
 | u::us,vs,ws,e,r=>by
   obtain⟨v,r',rfl,a,b⟩:=r.inv
   unfold dZ at e
   cases q1:eO u with
   | none=>rw[q1]at e;cases e
   | some x=>
     cases q2:dZ eO us with
     | none=>rw[q1,q2]at e;cases e
     | some xs=>
       rw[q1,q2]at e;cases e
       obtain⟨e1,f1⟩:=vf q1 a
       obtain⟨e2,f2⟩:=qT q2 b
       exact⟨by rw[e1,e2],by rw[bS,f1,f2];rfl⟩
section
variable {K:KX}
noncomputable def EK(K:av)(neg:Bool):R2:=λy x H Q=>rIn K neg y x H Q \/ ∃a o,x = .ref a/\sU H a y o/\Q (.bl (if neg then !o.isSome else o.isSome)) H
theorem JE{X:Cx}(hu:X.A.units+1<cLine):OpR X (compareOp .In) (EK X.K false):=by
 intro pins s σ H x y v u Q I rx ry h
 rcases h with h | ⟨a,o,rfl,g,q⟩
 ·exact AX pins s σ H x y v u Q I rx ry h
 ·obtain rfl:u=aU a:=ry
  exact NZ hu I g rx λs3 I3=>⟨.bl o.isSome,H,I3,rfl,q⟩
theorem AG{X:Cx}(hu:X.A.units+1<cLine):OpR X (compareOp .NotIn) (EK X.K true):=by
 intro pins s σ H x y v u Q I rx ry h
 rcases h with h | ⟨a,o,rfl,g,q⟩
 ·exact vB pins s σ H x y v u Q I rx ry h
 ·obtain rfl:u=aU a:=ry
  exact Fe hu I g rx λs3 I3=>⟨.bl (!o.isSome),H,I3,rfl,q⟩
theorem Km:OpU K (EK K false) oIn:=by
 intro μ S H x y vx vy u S' Q hr rx ry e a
 unfold oIn at e
 split at e
 ·rename_i kvs qd
  cases qk:keyOf x with
  | none=>rw[qk]at e;cases e
  | some kk=>
    rw[qk]at e;cases e
    obtain⟨p,vs,rfl,hp,r⟩:=hr.dic ry qd
    have hl:kvs.length=vs.length:=by have:=r.len;rwa[aA]at this
    refine .inr ⟨p,_,rfl,.inl ⟨_,kk,.inl hp,oH rx qk,rfl⟩,?_⟩
    simp only[dH,if_false]
    rw[qY hl]
    exact a.now hr iL
 refine .inl ?_
 cases q1:eO x with
 | none=>rw[q1]at e;cases e
 | some fx=>
   cases q2:dz S y with
   | none=>rw[q1,q2]at e;cases e
   | some ys=>
     cases q3:dZ eO ys with
     | none=>rw[q1,q2]at e;simp only[ar,q3]at e;cases e
     | some vs=>
       rw[q1,q2]at e;simp only[ar,q3]at e;cases e
       obtain⟨rfl,f1⟩:=vf q1 rx
       obtain⟨p,zs,rfl,hs,r'⟩:=hr.seq ry q2
       obtain⟨rfl,f2⟩:=qT q3 r'
       exact⟨p,zs,rfl,hs,f1,f2,a.now hr iL⟩
theorem Dp:OpU K (EK K true) gE:=by
 intro μ S H x y vx vy u S' Q hr rx ry e a
 unfold gE at e
 split at e
 ·rename_i kvs qd
  cases qk:keyOf x with
  | none=>rw[qk]at e;cases e
  | some kk=>
    rw[qk]at e;cases e
    obtain⟨p,vs,rfl,hp,r⟩:=hr.dic ry qd
    have hl:kvs.length=vs.length:=by have:=r.len;rwa[aA]at this
    refine .inr ⟨p,_,rfl,.inl ⟨_,kk,.inl hp,oH rx qk,rfl⟩,?_⟩
    simp only[if_true]
    rw[qY hl]
    exact a.now hr iL
 refine .inl ?_
 cases q1:eO x with
 | none=>rw[q1]at e;cases e
 | some fx=>
   cases q2:dz S y with
   | none=>rw[q1,q2]at e;cases e
   | some ys=>
     cases q3:dZ eO ys with
     | none=>rw[q1,q2]at e;simp only[ar,q3]at e;cases e
     | some vs=>
       rw[q1,q2]at e;simp only[ar,q3]at e;cases e
       obtain⟨rfl,f1⟩:=vf q1 rx
       obtain⟨p,zs,rfl,hs,r'⟩:=hr.seq ry q2
       obtain⟨rfl,f2⟩:=qT q3 r'
       exact⟨p,zs,rfl,hs,f1,f2,a.now hr iL⟩
noncomputable def isU(x:U):U->Option Bool
 | .non=>(match x with
   | .non=>some true
   | .bl _=>some false
   | .tup _=>some false
   | .ref _=>some false
   | .int _=>some false
   | _=>none)
 | .bl j=>(match x with
   | .bl i=>some (i==j)
   | .non=>some false
   | _=>none)
 | _=>none
noncomputable def oIs:F2:=λx y S=>(isU x y).map λb=>(.bl b,S)
noncomputable def gC:F2:=λx y S=>(isU x y).map λb=>(.bl (!b),S)
noncomputable def rIs(neg:Bool):R2:=λx y H Q=>(∃i j,x = .bl i/\y = .bl j/\Q (.bl (if neg then i != j else i==j)) H)\/(∃i,x = .bl i/\y = .non/\Q (.bl neg) H) \/
 (∃j,x = .non/\y = .bl j/\Q (.bl neg) H)\/(x = .non/\y = .non/\Q (.bl (!neg)) H) \/
 (∃p,x = .ref p/\y = .non/\Q (.bl neg) H)\/(∃i,x = .int i/\y = .non/\Q (.bl neg) H)
theorem J1{X:Cx}:OpR X (compareOp .Is) (rIs false):=by
 intro pins s σ H x y v u Q I rx ry h
 rcases h with⟨i,j,rfl,rfl,q⟩ | ⟨i,rfl,rfl,q⟩ | ⟨j,rfl,rfl,q⟩ | ⟨rfl,rfl,q⟩ | ⟨p,rfl,rfl,q⟩ | ⟨i,rfl,rfl,q⟩
 ·cases rx;cases ry
  exact is_bool ⟨.bl _,H,I,rfl,q⟩
 ·cases rx;cases ry
  exact is_bool_none ⟨.bl _,H,I,rfl,q⟩
 ·cases rx;cases ry
  exact aj ⟨.bl _,H,I,rfl,q⟩
 ·cases rx;cases ry
  exact is_none_none ⟨.bl _,H,I,rfl,q⟩
 ·cases rx;cases ry
  exact aj ⟨.bl _,H,I,rfl,q⟩
 ·obtain⟨t,rfl⟩:=rx;cases ry
  exact aj ⟨.bl _,H,I,rfl,q⟩
theorem AI{X:Cx}:OpR X (compareOp .IsNot) (rIs true):=by
 intro pins s σ H x y v u Q I rx ry h
 rcases h with⟨i,j,rfl,rfl,q⟩ | ⟨i,rfl,rfl,q⟩ | ⟨j,rfl,rfl,q⟩ | ⟨rfl,rfl,q⟩ | ⟨p,rfl,rfl,q⟩ | ⟨i,rfl,rfl,q⟩
 ·cases rx;cases ry
  exact isnot_bool ⟨.bl _,H,I,rfl,q⟩
 ·cases rx;cases ry
  exact isnot_bool_none ⟨.bl _,H,I,rfl,q⟩
 ·cases rx;cases ry
  exact aj ⟨.bl _,H,I,rfl,q⟩
 ·cases rx;cases ry
  exact isnot_none_none ⟨.bl _,H,I,rfl,q⟩
 ·cases rx;cases ry
  exact aj ⟨.bl _,H,I,rfl,q⟩
 ·obtain⟨t,rfl⟩:=rx;cases ry
  exact aj ⟨.bl _,H,I,rfl,q⟩
theorem yI{H:Hp}{μ:List Addr}{v:V}(h:RU H μ .non v):v = .non:=by simpa only [RU]using h
theorem DY{neg:Bool}{μ:List Addr}{H:Hp}{x y:U}{vx vy:V}{b:Bool}{Q:VK}(rx:RU H μ x vx)(ry:RU H μ y vy)(e:isU x y=some b)(a:Q (.bl (if neg then !b else b)) H):rIs neg vx vy H Q:=by
 have hf:(if neg then !false else false)=neg:=by cases neg <;> rfl
 have ht:(if neg then !true else true) = !neg:=by cases neg <;> rfl
 cases y with
 | non=>
   have hy:=yI ry
   subst hy
   cases x with
   | non=>cases e;rw[ht]at a;exact .inr (.inr (.inr (.inl ⟨yI rx,rfl,a⟩)))
   | bl i=>cases e;rw[hf]at a;exact .inr (.inl ⟨_,i7 rx,rfl,a⟩)
   | tup us=>cases e;rw[hf]at a;obtain⟨p,_,rfl,_⟩:=gF rx;exact .inr (.inr (.inr (.inr (.inl ⟨_,rfl,rfl,a⟩))))
   | ref n=>cases e;rw[hf]at a;obtain⟨p,rfl,_⟩:=gH rx;exact .inr (.inr (.inr (.inr (.inl ⟨_,rfl,rfl,a⟩))))
   | int i=>cases e;rw[hf]at a;exact .inr (.inr (.inr (.inr (.inr ⟨_,cz rx,rfl,a⟩))))
   | _=>cases e
 | bl j=>
   have hy:=i7 ry
   subst hy
   cases x with
   | bl i=>cases e;exact .inl ⟨_,_,i7 rx,rfl,a⟩
   | non=>cases e;rw[hf]at a;exact .inr (.inr (.inl ⟨_,yI rx,rfl,a⟩))
   | _=>cases e
 | _=>cases e
theorem Ln:OpU K (rIs false) oIs:=by
 intro μ S H x y vx vy u S' Q hr rx ry e a
 unfold oIs at e
 cases q:isU x y with
 | none=>rw[q]at e;cases e
 | some b=>rw[q]at e;cases e;exact DY rx ry q (a.now hr iL)
theorem CP:OpU K (rIs true) gC:=by
 intro μ S H x y vx vy u S' Q hr rx ry e a
 unfold gC at e
 cases q:isU x y with
 | none=>rw[q]at e;cases e
 | some b=>rw[q]at e;cases e;exact DY rx ry q (a.now hr iL)
noncomputable def mCh(f g:F2)(a b c:ME):ME:=λρ S=>bnd (a ρ S) λx S1=>bnd (b ρ S1) λy S2=>bnd (f x y S2) λz S3=>match z with
 | .bl true=>bnd (c ρ S3) λw S4=>g y w S4
 | .bl false=>some (.bl false,S3)
 | _=>none
theorem Ar{σ:St}{H:Hp}{Q:VK}{r r':R2}{f g:F2}{a b c:ME}(o:OpU K r f)(o':OpU K r' g)(h:tM K (mCh f g a b c) σ H Q):yH r r' (tM K a) (tM K b) (tM K c) σ H Q:=by
 obtain⟨μ,S,ρ,u,S',hr,er,e,k⟩:=h
 obtain⟨x,S1,e1,e⟩:=aZ e
 obtain⟨y,S2,e2,e⟩:=aZ e
 obtain⟨z,S3,e3,e⟩:=aZ e
 refine⟨μ,S,ρ,x,S1,hr,er,e1,λμ1 vx H1 p1 k1 hr1 rx =>?_⟩
 refine⟨μ1,S1,ρ,y,S2,hr1,er.mono k1 p1,e2,λμ2 vy H2 p2 k2 hr2 ry =>?_⟩
 refine o μ2 S2 H2 x y vx vy z S3 _ hr2 (RU.mono k2 p2 x vx rx) ry e3 λμ3 vz H3 p3 k3 hr3 rz =>?_
 split at e
 ·refine⟨true,i7 rz,?_⟩
  rw[if_pos rfl]
  obtain⟨w,S4,e4,e⟩:=aZ e
  refine⟨μ3,S3,ρ,w,S4,hr3,er.mono ((k1.trans k2).trans k3) ((p1.trans p2).trans p3),e4,λμ4 vw H4 p4 k4 hr4 rw' =>?_⟩
  exact o' μ4 S4 H4 y w vy vw u S' Q hr4 (RU.mono (k3.trans k4) (p3.trans p4) y vy ry) rw' e (k.mono (((p1.trans p2).trans p3).trans p4) (((k1.trans k2).trans k3).trans k4))
 ·cases e
  refine⟨false,i7 rz,?_⟩
  rw[if_neg bE]
  exact k μ3 _ H3 ((p1.trans p2).trans p3) ((k1.trans k2).trans k3) hr3 iL
 ·cases e
end
noncomputable def kR(ns:List Int):List Int:=ns.mergeSort λi j=>decide (i<=j)
noncomputable def lO:U->Option Int
 | .int i=>some i
 | _=>none
noncomputable def y6(n:Nat):Prop:=n<64
noncomputable instance(n:Nat):Decidable (y6 n):=bJ _
noncomputable def nJ:_L.Key×U->Option Int
 | (.inl i,_)=>some i
 | _=>none
noncomputable def rR(S:Sto)(x:U):Option (List Int):=match fJ S x with
 | some kvs=>dZ nJ kvs
 | none=>(dz S x).bind λxs=>dZ lO xs
noncomputable def dW:MF:=λus S=>match us with
 | [x]=>(rR S x).bind λns=>if y6 ns.length then some (.ref S.length,S++[.lst ((kR ns).map U.int)]) else none
 | _=>none
theorem gX(ns:List Int):(kR ns).Perm ns:=List.mergeSort_perm _ _
theorem xt(ns:List Int):(kR ns).Pairwise (· <= ·):=by
 have h:=List.pairwise_mergeSort (le:=λ(i j:Int)=>decide (i<=j)) (λa b c h1 h2=>by simp at *;omega) (λa b=>by simp;omega) ns
 exact h.imp λh=>by simpa using h
theorem pG: ∀{as bs:List Int},as.Perm bs->as.Pairwise (· <= ·)->bs.Pairwise (· <= ·)->as=bs
 | [],bs,p,_,_=>by rw[List.nil_perm.mp p]
 | a::as,[],p,_,_=>by cases List.perm_nil.mp p
 | a::as,b::bs,p,h1,h2=>by
   rw[List.pairwise_cons]at h1 h2
   have e:a=b:=by
    have m1:a∈b::bs:=p.subset (by simp)
    have m2:b∈a::as:=p.symm.subset (by simp)
    rcases aO.mp m1 with e |m1
    ·exact e
    ·rcases aO.mp m2 with e |m2
     ·exact e.symm
     ·have:=h1.1 b m2;have:=h2.1 a m1;omega
   subst e
   rw[pG (List.perm_cons _ |>.mp p) h1.2 h2.2]
theorem oQ{ns ms:List Int}(p:ms.Perm ns)(h:ms.Pairwise (· <= ·)):ms=kR ns:=pG (p.trans (gX ns).symm) h (xt ns)
theorem qE{H:Hp}{μ:List Addr}: ∀{us:List U}{vs:List V}{ns:List Int},RUs H μ us vs->dZ lO us=some ns->vs=ns.map V.int
 | [],vs,ns,r,e=>by cases e;rw[r.nil_inv];rfl
 | u::us,vs,ns,r,e=>by
   obtain⟨v,r',rfl,a,b⟩:=r.inv
   unfold dZ at e
   cases u with
   | int x=>
     simp only[lO,ar]at e
     cases q:dZ lO us with
     | none=>rw[q]at e;cases e
     | some cs=>
       rw[q]at e;cases e
       rw[cz a,qE b q];rfl
   | _=>cases e
theorem intsAre_of: ∀{ns:List Int}{us:List Value},b8 (ns.map V.int) us->IntsAre us ns
 | [],us,r=>by cases r;exact .nil
 | n::ns,us,r=>by
   cases r with
   | cons a b=>
     obtain⟨t,rfl⟩:=a
     exact .cons n t (intsAre_of b)
theorem mV: ∀{ns:List Int}{us:List Value},IntsAre us ns->b8 (ns.map V.int) us
 | _,_,.nil => .nil
 | _,_,.cons n t r => .cons ⟨t,rfl⟩ (mV r)
theorem ix: ∀{ns:List Int}{us:List Value},IntsAre us ns->us.length=ns.length
 | _,_,.nil=>rfl
 | _,_,.cons n t r=>by simp[ix r]
theorem yZ {prog:Program}{w:World}{A:Around}{E:Value->Shared->Prop}{s:Shared}{Q:List Value->Shared->Prop} (it:Addr) {T:String}{o:Obj}{items:Array Value}{n:Nat} (hT:T="list"\/T="tuple")
  (ho:s.heap.get? it=some o) (hc:o.cls = .type T) (hd:o.data = .seq items n) (hsz:items.size<=sizeLine)
  (hQ: ∀h',(∀b o',s.heap.get? b=some o'->h'.get? b=some o')->s.heap.objs.size<=h'.objs.size->Q items.toList { s with heap:=h' }):
  az (model prog w) A (collect (.ref it)) Q E s:=by
 unfold collect
 refine af (jm (cx jt ?_))
 rw[bP ju _]
 show az _ A.in1 (newList [] >>= fun l=>again (.builtin "list.__iadd__" ⟨[l,.ref it],[]⟩)) _ _ s
 refine af (bf (aj ⟨plainId_quiet dX _,cx m7 ?_⟩))
 rw[bP dX _]
 have hS:(s.heap.push { cls := .type "list",data := .seq ([]:List Value).toArray }).get? s.heap.objs.size=some { cls := .type "list",data := .seq #[] 0 }:=ay _ rfl
 have hS₂:=b3 (cH (· ++ items)) hS rfl
 refine cY (wpAny_extend_seq (hsz:=hsz) (A:=A) (R:=fun r s'=>r = .ok (.ret (.ref s.heap.objs.size))/\s'={ s with heap:=(s.heap.push { cls := .type "list",data := .seq ([]:List Value).toArray }).update s.heap.objs.size (cH (· ++ items)) })
  (s:={ s with heap:=s.heap.push { cls := .type "list",data := .seq ([]:List Value).toArray } }) _ it _ 0 hT hS (ao _ ho) hc hd ⟨rfl,rfl⟩) (fun fin s' h => ?_) (fun e s' h=>absurd h.1 (by simp))
 have fin':az (model prog w) A (match aU s.heap.objs.size with
   | aU a=>do
     match (<- load a).data with
      | Et xs _=>pure xs.toList
      | _=>unsupported "internal:collect"
   | _=>unsupported "internal:collect") Q E { s with heap:=(s.heap.push { cls := .type "list",data := .seq ([]:List Value).toArray }).update s.heap.objs.size (cH (· ++ items)) }:=by
  show az _ A (load s.heap.objs.size >>= _) _ _ _
  refine af (vM hS₂ (aj ?_))
  show Q ((#[]:Array Value)++items).toList _
  rw[show((#[]:Array Value)++items).toList=items.toList by simp]
  exact hQ _ (λb o' hb=>(cg _ _ (cj (aD hb))).trans (ao _ hb)) (by rw[Heap.size_update,size_push'];exact dh _)
 cases fin with
 | done f=>
   obtain⟨e,rfl⟩:=h
   cases e
   exact fin'
 | again c'=>exact⟨h.1,jj h.2 λr s'' hr=>by obtain⟨rfl,rfl⟩:=hr;exact fin'⟩
theorem sf {prog:Program}{w:World}{A:Around}{E:Value->Shared->Prop}{s:Shared}{l:Addr}{T:String}{o:Obj}{n:Nat}{vs:List Value}{ns:List Int}{Q:Value->Shared->Prop} (hT:T="list"\/T="tuple")
  (ho:s.heap.get? l=some o) (hc:o.cls = .type T) (hd:o.data = .seq vs.toArray n) (hI:IntsAre vs ns) (h64:vs.length<64)
  (h: ∀(out:Array Value) (ns':List Int) (a:Addr) (e:Nat) (h':Heap),IntsAre out.toList ns'->ns'.Perm ns->ns'.Pairwise (· <= ·)->s.heap.objs.size<=a->(∀b o',s.heap.get? b=some o'->h'.get? b=some o') ->
   h'.get? a=some (seqObj "list" out e)->Q (.ref a) { s with heap:=h' }) :
  az (model prog w) A (call (.builtin "sorted") [.ref l]) Q E s:=by
 refine kM kind_sorted plain_sorted entry_sorted (args_sorted1 _) ?_
 unfold Builtin.«sorted»
 refine af (m:=checkCount "sorted" 1 1 _) (aj ?_)
 refine af (yZ l hT ho hc hd (by rw[aF,sizeLine_eq];omega) λh1 hk hle =>?_)
 refine af (wpAny_newList ?_)
 have hoL:(h1.push (seqObj "list" vs.toArray 0)).get? h1.objs.size=some (seqObj "list" vs.toArray 0):=ay _ rfl
 show az _ _ _ _ _ { s with heap:=h1.push (seqObj "list" vs.toArray 0) }
 refine af (df (bx slot_list_sort ⟨_,hoL,rfl⟩ entry_list_sort (list_sort_tree hoL hI h64 λout ns' a1 a2 a3=>⟨_,rfl,?_⟩) (args_list_sort _)))
 obtain⟨e,he⟩:=sortedHeap_at (out:=out) hoL
 exact aj ⟨_,rfl,h out ns' _ e _ a1 a2 a3 hle (λb o' hb=>by
  have hb1:=hk b o' hb
  have hlt:=aD hb1
  rw[sortedHeap_old (aL hlt) (by rw[size_push'];exact bY hlt),sD _ _ _ (aL hlt)]
  exact hb1) he⟩
theorem u0{prog:Program}{w:World}{A:Around}{E:Value->Shared->Prop}{s:Shared}{Q:List Value->Shared->Prop}{d:Addr}{vs:List (Key×Value)}{ep:Nat}(hh:A.handled=none)(hS:(d==sysModules)=false)(hm:s.heap.DictAt (dF prog w) d vs ep)(hn:vs.length<=sizeLine)
  (hQ: ∀s' acc,(∀b o,s.heap.get? b=some o->s'.heap.get? b=some o)->s'.gens=s.gens->s'.drawn=s.drawn->s'.os=s.os->ItemsOf (λi v =>∃k x,vs[i]? = some (k,x)/\(dF prog w).is k v=true) acc vs.length->s.heap.objs.size<=s'.heap.objs.size->Q acc.toList s'):az (model prog w) A (collect (.ref d)) Q E s:=by
 have hdl:d<s.heap.objs.size:=hm.lt_size
 let lo:Obj:={ cls := .type "list",data := .seq ([]:List Value).toArray }
 let io:Obj:={ cls := .type "dict_keyiterator",data := .fields #[.ref d,.int 0 0,.int vs.length 0,.int ep 0] }
 have hm1:(s.heap.push lo).DictAt (dF prog w) d vs ep:=hm.push lo
 have hT1:kY { s with heap:=s.heap.push lo } (.ref d) "dict":=hm1.dictOf.typeIs
 unfold collect
 refine af (jm (cx jt ?_))
 rw[bP ju _]
 show az _ A.in1 (newList [] >>= fun l=>again (.builtin "list.__iadd__" ⟨[l,.ref d],[]⟩)) _ _ s
 refine af (bf (aj ⟨plainId_quiet dX _,cx m7 ?_⟩))
 rw[bP dX _]
 show az _ A.in1 (eZ (.ref s.heap.objs.size) (.ref d) (.ref s.heap.objs.size)) _ _ _
 unfold eZ
 refine af (gQ hT1 ?_)
 have hne:fS (.ref s.heap.objs.size) (.ref d)=false:=by simp[fS];exact cj hdl
 rw[if_neg (by rw[hne];decide)]
 refine af (wpAny_pyIter_dict hS hm1 ?_)
 refine af (df ?_)
 unfold qu
 have hT2:kY { s with heap:=(s.heap.push lo).push io } (.ref d) "dict":=(hm1.push io).dictOf.typeIs
 refine af (kG hT2 PySem.F.slot_dict_len.lookup ?_)
 generalize hid:("dict.__len__":String)=id0
 wp_delta
 rw [show splitId id0=some ("dict","__len__") from by subst hid;decide +kernel]
 subst hid
 refine af (fC (b:=true) hT2 (by rw[isSubtype_type];kernel_rfl) ?_)
 simp only[du,dH,if_false]
 rw[if_pos (by decide +kernel)]
 refine af (gQ hT2 (aj ?_))
 rw[if_pos (by decide +kernel)]
 refine af (jO (af ?_))
 have hne2:s.heap.objs.size≠(s.heap.push lo).objs.size:=by rw[bp];exact aL (bF _)
 have hL1:((s.heap.push lo).push io).get? s.heap.objs.size=some lo:=ao _ (ay _ rfl)
 show az _ A.in1 (updateSeq s.heap.objs.size (·.push .none) >>= λ_=>updateSeq s.heap.objs.size (·.pop)) _ _ _
 refine af (pS hL1 rfl ?_)
 have hL2:=b3 (cH (·.push da)) hL1 rfl
 refine pS hL2 rfl ?_
 have hL3:=b3 (cH (·.pop)) hL2 rfl
 have oth: ∀b o,b≠s.heap.objs.size->((s.heap.push lo).push io).get? b=some o->((((s.heap.push lo).push io).update s.heap.objs.size (cH (·.push da))).update s.heap.objs.size (cH (·.pop))).get? b=some o:=
  λb o hb e=>(cg _ _ (cU hb)).trans ((cg _ _ (cU hb)).trans e)
 have hI:(s.heap.push lo).objs.size=s.heap.objs.size+1:=bp ..
 have hdI:d≠(s.heap.push lo).objs.size:=by rw[hI];exact aL (bY hdl)
 have W:=(Walks.dictKeys (prog:=prog) (w:=w) (A:=A.in1) (knd:=dF prog w) hh (s.heap.push lo).objs.size d hdI vs ep).toS
 have hSf:s.heap.objs.size ∉ [(s.heap.push lo).objs.size,d]:=by
  rw[hI]
  intro z
  rcases aO.mp z with z |z
  ·omega
  ·rw[aQ]at z;exact absurd z (cj hdl)
 have it0:((s.heap.push lo).push io).IsKeyIter (s.heap.push lo).objs.size d 0 vs.length ep:=⟨io,ay _ rfl,rfl,rfl⟩
 refine aj ⟨plainId_quiet F.plain_extend_loop _,codeAny_extend_loopS W hn s.heap.objs.size hSf _ vs.length 0 _ _ _ rfl (cR _) ?_ hL3 (ItemsOf.nil _) λs' acc' c' hmv hS' hacc =>?_⟩
 ·exact⟨it0.at λo e=>oth _ o (cU hne2) e,(hm1.push io).at' λo e=>oth _ o (aL hdl) e⟩
 ·show az _ A (load s.heap.objs.size >>= _) _ _ s'
  refine af (vM hS' (aj (hQ s' acc' (λb o e =>?_) hmv.gens hmv.drawn hmv.os hacc (bG (aD hS')))))
  have hb:b<s.heap.objs.size:=aD e
  refine hmv.heap b o ?_ (oth b o (aL hb) (ao _ (ao _ e)))
  rw[hI]
  intro z
  rcases aO.mp z with z |z
  ·exact absurd z (aL hb)
  ·rw[aQ]at z;exact absurd z (aL (bY hb))
theorem ui: ∀{l:List Value}{ns:List Int},l.length=ns.length->(∀(j:Nat) (v:Value),l[j]? = some v -> ∃i t,ns[j]? = some i/\v = .int i t)->IntsAre l ns
 | [],[],_,_ => .nil
 | [],_::_,h,_=>by simp at h
 | _::_,[],h,_=>by simp at h
 | v::l,n::ns,h,k=>by
   obtain⟨i,t,e,rfl⟩:=k 0 v rfl
   simp at e;subst e
   exact .cons n t (ui (by simpa using h) λj w hj=>by simpa using k (j+1) w (by simpa using hj))
theorem v8{prog:Program}{w:World}{A:Around}{E:Value->Shared->Prop}{s:Shared}{d:Addr}{vs:List (Key×Value)}{ns:List Int}{Q:Value->Shared->Prop}(hh:A.handled=none)(hS:(d==sysModules)=false)(hm:s.heap.DictOf (dF prog w) d vs)(hk:vs.map (·.1)=ns.map fB)(h64:ns.length<64)
  (h: ∀(out:Array Value) (ns':List Int) (a:Addr) (e:Nat) (h':Heap) (tk:Nat),IntsAre out.toList ns'->ns'.Perm ns->ns'.Pairwise (· <= ·)->s.heap.objs.size<=a->(∀b o',s.heap.get? b=some o'->h'.get? b=some o') ->
   h'.get? a=some (seqObj "list" out e)->Q (.ref a) { s with heap:=h',toks:=tk }) :
  az (model prog w) A (call (.builtin "sorted") [.ref d]) Q E s:=by
 obtain⟨ep,hm⟩:=hm.dictAt
 have hlen:vs.length=ns.length:=by have:=congrArg oV hk;simpa using this
 refine kM kind_sorted plain_sorted entry_sorted (args_sorted1 _) ?_
 unfold Builtin.«sorted»
 refine af (m:=checkCount "sorted" 1 1 _) (aj (af (u0 hh hS hm (by rw [hlen,sizeLine_eq];omega) fun s1 acc hk1 hg hdr hos hacc hle => ?_)))
 have hI:IntsAre acc.toList ns:=ui (by rw[<- hlen,<- hacc.1];simp) λj v hj=>by
  obtain⟨k,x,e,ik⟩:=hacc.2 j v (by simpa using hj)
  have e2:(vs.map (·.1))[j]? = some k:=by rw[dP,e];rfl
  rw[hk,dP]at e2
  cases q:ns[j]? with
  | none=>rw[q]at e2;cases e2
  | some i=>
    rw[q]at e2
    have e3:fB i=k:=bz e2
    subst e3
    rcases dO (show qP (fB i) v=true from ik) with⟨i',t,e4,e5⟩ | ⟨y,t,e4,_⟩
    ·cases e4;exact⟨_,t,rfl,e5⟩
    ·cases e4
 have hal:acc.toList.length<64:=by rw[ix hI];exact h64
 refine af (wpAny_newList ?_)
 have hoL:(s1.heap.push (seqObj "list" acc 0)).get? s1.heap.objs.size=some (seqObj "list" acc.toList.toArray 0):=ay _ rfl
 show az _ _ _ _ _ { s1 with heap:=s1.heap.push (seqObj "list" acc 0) }
 refine af (df (bx slot_list_sort ⟨_,hoL,rfl⟩ entry_list_sort (list_sort_tree hoL hI hal λout ns' a1 a2 a3=>⟨_,rfl,?_⟩) (args_list_sort _)))
 obtain⟨e,he⟩:=sortedHeap_at (out:=out) hoL
 have hq:=h out ns' _ e _ s1.toks a1 a2 a3 hle (λb o' hb=>by
  have hb1:=hk1 b o' hb
  have hlt:=aD hb1
  rw[sortedHeap_old (aL hlt) (by rw[size_push'];exact bY hlt),sD _ _ _ (aL hlt)]
  exact hb1) he
 rw[<- hg,<- hdr,<- hos]at hq
 exact aj ⟨_,rfl,hq⟩
section
variable {X:Cx}
noncomputable def zN(K:av):List V->Hp->VK->Prop:=λxs H Q =>∃(p:Addr) (ns:List Int),xs = [.ref p]/\((SqL K H p (ns.map V.int)\/SqT K H p (ns.map V.int)) \/ ∃kvs,H p=some (.dK kvs)/\kvs.map (·.1)=ns.map fB)/\ns.length<64 /\ ∀l,H l=none->Q (.ref l) (upd H l (.lst ((kR ns).map V.int)))
theorem FZ{kvs:List (Key×V)}{vs:List (Key×Value)}(h:KV kvs vs):vs.map (·.1)=kvs.map (·.1):=by
 induction h with
 | nil=>rfl
 | cons a _ ih=>rw[bM,bM,ih,a.1]
theorem wt (hc:X.calm=true):gR X (.builtin "sorted") (zN X.K):=by
 intro pins s σ H xs us Q I rs h
 obtain⟨p,ns,rfl,hS,h64,q⟩:=h
 cases rs with
 | cons r1 rr=>
   cases rr
   cases (show _=aU p from r1)
   have fin: ∀(out:Array Value) (ns':List Int) (a:Addr) (e:Nat) (h':Heap) (tk:Nat),IntsAre out.toList ns'->ns'.Perm ns->ns'.Pairwise (· <= ·)->s.heap.objs.size<=a->(∀b o',s.heap.get? b=some o'->h'.get? b=some o') ->
    h'.get? a=some (seqObj "list" out e)->EP X pins σ Q (.ref a) { s with heap:=h',toks:=tk }:=by
    intro out ns' a e h' tk a1 a2 a3 hle hk he
    have e':=oQ a2 a3
    subst e'
    refine⟨.ref a,_,I.laid (t':=tk) (o:= .lst ((kR ns).map V.int)) hk hle ?_,rfl,q _ (I.hok.fresh hle)⟩
    refine⟨by rw[aA,(gX ns).length_eq,sizeLine_eq];omega,out.toList,e,mV a1,?_⟩
    rw[he]
   rcases hS with (hS |hS) | ⟨kvs,hp,hks⟩
   ·obtain⟨its,rv,pl,_⟩:=I.list hS
    have hl:=pl.isList
    obtain⟨o,ho,hc,n,hd⟩:=hl
    have hI:=intsAre_of rv
    exact sf (.inl rfl) ho hc hd hI (by rw[ix hI];exact h64) λout ns' a e h'=>fin out ns' a e h' s.toks
   ·obtain⟨its,rv,pl,_⟩:=I.tuple hS
    obtain⟨o,ho,hc,n,hd⟩:=pl
    have hI:=intsAre_of rv
    exact sf (.inr rfl) ho hc hd hI (by rw[ix hI];exact h64) λout ns' a e h'=>fin out ns' a e h' s.toks
   ·obtain⟨_,hsm,vs,rel,dd⟩:=(show dY X.prog X.w H s.heap p (.dK kvs) from I.hok p _ hp)
    exact v8 (I.ok.hd hc) hsm dd (by rw[FZ rel];exact hks) h64 fin
end
section
variable {K:KX}
theorem oy{H:Hp}{μ:List Addr}: ∀ns:List Int,RUs H μ (ns.map U.int) (ns.map V.int)
 | [] => .nil
 | n::ns => .cons eh (oy ns)
theorem Aj: ∀{kvs:List (Key×U)}{vs:List V},kvs.length=vs.length->(dV kvs vs).map (·.1)=kvs.map (·.1)
 | [],_,_=>rfl
 | _::_,[],h=>by simp at h
 | kv::kvs,v::vs,h=>by
   show kv.1::(dV kvs vs).map (·.1)=kv.1::kvs.map (·.1)
   rw[Aj (by simpa using h)]
theorem uD: ∀{kvs:List (Key×U)}{ns:List Int},dZ nJ kvs=some ns->kvs.map (·.1)=ns.map fB
 | [],ns,h=>by cases h;rfl
 | (k,u)::kvs,ns,h=>by
   unfold dZ at h
   cases k with
   | inr x=>cases h
   | inl i=>
     simp only[nJ,ar]at h
     cases q:dZ nJ kvs with
     | none=>rw[q]at h;cases h
     | some ms=>
       rw[q]at h;cases h
       rw[bM,uD q];rfl
theorem AK:oE K (zN K) dW:=by
 intro μ S H us vs u S' Q hr rs e a
 unfold dW at e
 split at e
 ·rename_i x
  obtain⟨v,r,rfl,rx,rn⟩:=rs.inv
  rw[rn.nil_inv]
  cases q:rR S x with
  | none=>rw[q]at e;cases e
  | some ns=>
    rw[q]at e;simp only[ar]at e
    split at e
    rotate_left
    ·cases e
    rename_i hc
    cases e
    unfold rR at q
    split at q
    ·rename_i kvs qd
     obtain⟨p,ws,rfl,hp,r'⟩:=hr.dic rx qd
     have hl:kvs.length=ws.length:=by have:=r'.len;rwa[aA]at this
     exact⟨p,ns,rfl,.inr ⟨_,hp,by rw[Aj hl];exact uD q⟩,hc,λl hl=>jA a hr (oy _) hl⟩
    ·cases q1:dz S x with
     | none=>rw[q1]at q;cases q
     | some ws=>
       rw[q1]at q
       obtain⟨p,ys,rfl,hs,r'⟩:=hr.seq rx q1
       rw[qE r' q]at hs
       exact⟨p,ns,rfl,.inl hs,hc,λl hl=>jA a hr (oy _) hl⟩
 ·cases e
end
section
variable {X:Cx}
end
section
variable {K:KX}
end
end
end _G
end
section
namespace _G
open PySem PySem.Spec _L
open PyProof.Rows hiding St
theorem wQ {prog:Program}{w:World}{A:Around}{E:Value->Shared->Prop}{s:Shared}{a:Addr}{ns:List Int}{Q:List Value->Shared->Prop} (hh:A.handled=none) (hS:rA prog w s.heap a (!w.params.followText "set-order") ns)
  (hQ: ∀s' acc,(∀b o,s.heap.get? b=some o->b≠a->s'.heap.get? b=some o)->s'.gens=s.gens->s'.os=s.os->(∃ms,IntsAre acc ms/\ms.Perm ns)->s.heap.objs.size<=s'.heap.objs.size->Q acc s'):az (model prog w) A (collect (.ref a)) Q E s:=by
 obtain⟨es,ep,t,ho,he⟩:=hS
 have la: @Ek Nat _ a s.heap.objs.size:=aD ho
 let lo:Obj:={ cls := .type "list",data := .seq ([]:List Value).toArray }
 have hle:es.size<=sizeLine:=fits_of_scanBound he.sm
 have ho1:(s.heap.push lo).get? a=some (ll es ep t):=ao _ ho
 have hT1:kY { s with heap:=s.heap.push lo } (.ref a) "set":=⟨_,ho1,rfl⟩
 unfold collect;refine af (jm (cx jt ?_));rw [bP ju _];show az _ A.in1 (newList [] >>= fun l=>again (.builtin "list.__iadd__" ⟨[l,.ref a],[]⟩)) _ _ s
 refine af (bf (aj ⟨plainId_quiet dX _,cx m7 ?_⟩));rw[bP dX _];show az _ A.in1 (eZ (.ref s.heap.objs.size) (.ref a) (.ref s.heap.objs.size)) _ _ _
 unfold eZ;refine af (gQ hT1 ?_)
 have hne:fS (.ref s.heap.objs.size) (.ref a)=false:=by simp[fS];exact cj la
 rw[if_neg (by rw[hne];decide)]
 have sz:(s.heap.push lo).objs.size=s.heap.objs.size+1:=bp ..
 refine af (DI (s:={ s with heap:=s.heap.push lo }) ho1 he hle λI fp St L h' d W st hfp hL hk hI hfa =>?_)
 have hI: @LE.le Nat _ (s.heap.push lo).objs.size I:=hI
 refine af (df ?_);unfold qu
 have hT2:kY { s with heap:=h',drawn:=d } (.ref a) "set":=⟨_,hk _ _ ho1,rfl⟩
 refine af (kG hT2 PySem.F.slot_set_len.lookup ?_)
 generalize hid:("set.__len__":String)=id0
 wp_delta
 rw [show splitId id0=some ("set","__len__") from by subst hid;decide +kernel]
 subst hid
 refine af (fC (b:=true) hT2 (by rw[isSubtype_type];kernel_rfl) ?_);simp only[du,dH,if_false];rw[if_pos (by decide +kernel)];refine af (gQ hT2 (aj ?_));rw[if_pos (by decide +kernel)];refine af (jO (af ?_))
 have hL1:h'.get? s.heap.objs.size=some lo:=hk _ _ (ay _ rfl)
 show az _ A.in1 (updateSeq s.heap.objs.size (·.push .none) >>= λ_=>updateSeq s.heap.objs.size (·.pop)) _ _ _;refine af (pS hL1 rfl ?_)
 have hL2:=b3 (cH (·.push da)) hL1 rfl
 refine pS hL2 rfl ?_
 have hL3:=b3 (cH (·.pop)) hL2 rfl
 have oth: ∀b o,b≠s.heap.objs.size->h'.get? b=some o->((h'.update s.heap.objs.size (cH (·.push da))).update s.heap.objs.size (cH (·.pop))).get? b=some o:=λb o hb e=>(cg _ _ (cU hb)).trans ((cg _ _ (cU hb)).trans e)
 have hSf:s.heap.objs.size∉fp:=λz=>by
  rcases hfa _ z with q |q
  ·have q': @Eq Nat s.heap.objs.size a:=q;omega
  ·have q': @LE.le Nat _ (s.heap.push lo).objs.size s.heap.objs.size:=q;omega
 have hlen:L.length=es.size:=by have:=hL.length_eq;simpa using this
 refine aj ⟨plainId_quiet F.plain_extend_loop _,codeAny_extend_loopS (W A.in1 hh).toS hle s.heap.objs.size hSf _ es.size 0 _ _ _ rfl (cR _) ?_ hL3 (ItemsOf.nil _) λs' acc' c' hmv hS' hacc =>?_⟩
 ·exact(W A.in1 hh).frame _ _ _ st λb hb o e=>oth b o (λq=>hSf (q▸hb)) e
 ·show az _ A (load s.heap.objs.size >>= _) _ _ s'
  refine af (vM hS' (aj (hQ s' acc'.toList (λb o e hba =>?_) hmv.gens hmv.os ?_ (bG (aD hS')))))
  ·have hb: @Ek Nat _ b s.heap.objs.size:=aD e
   refine hmv.heap b o (λz =>?_) (oth b o (aL hb) (hk b o (ao _ e)))
   rcases aO.mp z with q |q
   ·have q': @Eq Nat b s.heap.objs.size:=q;omega
   ·have q': @Eq Nat b I:=aQ.mp q;omega
  ·have eL:acc'.toList=L:=by
    apply List.ext_getElem?
    intro j
    by_cases hj:j<es.size
    ·have h1:j<acc'.size:=by rw[hacc.1];exact hj
     have:=hacc.2 j acc'[j] (by simp[h1])
     rw[this];simp[h1]
    ·rw[fL (by rw[cQ,hacc.1];exact b6 (by assumption)),fL (by omega)]
   rw[eL]
   refine⟨L.map JA,wM λv hv =>?_,(hL.map _).trans (by rw[b4];exact he.pm)⟩
   obtain⟨e,hm,rfl⟩:=aS.mp (hL.mem_iff.mp hv)
   exact he.int hm
theorem yA {prog:Program}{w:World}{A:Around}{E:Value->Shared->Prop}{s:Shared}{d:Addr}{ns:List Int}{Q:Value->Shared->Prop} (hh:A.handled=none) (hS:rA prog w s.heap d (!w.params.followText "set-order") ns) (h64:ns.length < 64)
  (h: ∀(out:Array Value) (ns':List Int) (a:Addr) (e:Nat) (s':Shared),IntsAre out.toList ns'->ns'.Perm ns->ns'.Pairwise (· <= ·)->s.heap.objs.size<=a->(∀b o',s.heap.get? b=some o'->b≠d->s'.heap.get? b=some o')->s'.gens=s.gens->s'.os=s.os ->
   s'.heap.get? a=some (seqObj "list" out e)->Q (.ref a) s') :
  az (model prog w) A (call (.builtin "sorted") [.ref d]) Q E s:=by
 refine kM kind_sorted plain_sorted entry_sorted (args_sorted1 _) ?_
 unfold Builtin.«sorted»
 refine af (m:=checkCount "sorted" 1 1 _) (aj (af (wQ (A:=A.in1) hh hS fun s1 acc hk1 hg hos ⟨ms,hI,hp⟩ hle => ?_)))
 have hal:acc.length<64:=by rw[ix hI,hp.length_eq];exact h64
 refine af (wpAny_newList ?_)
 have hoL:(s1.heap.push (seqObj "list" acc.toArray 0)).get? s1.heap.objs.size=some (seqObj "list" acc.toArray 0):=ay _ rfl
 show az _ _ _ _ _ { s1 with heap:=s1.heap.push (seqObj "list" acc.toArray 0) }
 refine af (df (bx slot_list_sort ⟨_,hoL,rfl⟩ entry_list_sort (list_sort_tree hoL hI hal λout ns' a1 a2 a3=>⟨_,rfl,?_⟩) (args_list_sort _)))
 obtain⟨e,he⟩:=sortedHeap_at (out:=out) hoL
 exact aj ⟨_,rfl,h out ns' _ e _ a1 (a2.trans hp) a3 hle (λb o' hb hbd=>by
  have hb1:=hk1 b o' hb hbd
  have hlt:=aD hb1
  show(Heap.get? _ b)=_
  rw[sortedHeap_old (aL hlt) (by rw[size_push'];exact bY hlt),sD _ _ _ (aL hlt)]
  exact hb1) hg hos he⟩
section
noncomputable def GJ(n m:Nat):Prop:=n<4000/\m<64
noncomputable instance(n m:Nat):Decidable (GJ n m):=bJ _
noncomputable def bSS:MF:=λus S=>match us with
 | [x]=>((dz S x).bind λxs=>dZ lO xs).bind λns=>if GJ ns.length (ddp ns).length then some (.ref S.length,S++[.lst ((kR (ddp ns)).map U.int)]) else none
 | _=>none
end
noncomputable def rSS(K:av):List V->Hp->VK->Prop:=λxs H Q =>∃(p:Addr) (ns:List Int),xs = [.ref p]/\(SqL K H p (ns.map V.int)\/SqT K H p (ns.map V.int))/\GJ ns.length (ddp ns).length /\ ∀l,H l=none->Q (.ref l) (upd H l (.lst ((kR (ddp ns)).map V.int)))
theorem KB{K:KX}:oE K (rSS K) bSS:=by
 intro μ S H us vs u S' Q hr rs e a
 unfold bSS at e
 split at e
 ·rename_i x
  obtain⟨v,r,rfl,rx,rn⟩:=rs.inv
  rw[rn.nil_inv]
  cases q1:dz S x with
  | none=>rw[q1]at e;cases e
  | some ws=>
    rw[q1]at e
    simp only[ar]at e
    cases q:dZ lO ws with
    | none=>rw[q]at e;cases e
    | some ns=>
      rw[q]at e
      simp only[ar]at e
      split at e
      rotate_left
      ·cases e
      rename_i hc
      cases e
      obtain⟨p,ys,rfl,hs,r'⟩:=hr.seq rx q1
      rw[qE r' q]at hs
      exact⟨p,ns,rfl,hs,hc,λl hl=>jA a hr (oy _) hl⟩
 ·cases e
theorem Inv.drawn{X:Cx}{pins:List (Addr×Obj)}{σ:_L.St}{H:Hp}{s s':Shared}(I:Inv X pins σ H s)(h1:s'.heap=s.heap)(h2:s'.gens=s.gens)(h3:s'.os=s.os):Inv X pins σ H s':=by
 obtain⟨a,b,c,d,e⟩:=s'
 simp only at h1 h2 h3
 subst h1 h2 h3
 exact⟨I.ok,I.os,I.bare,I.base,I.loc,I.cell,I.free,I.freeC,I.pin,I.hok,I.len⟩
theorem Lz {X:Cx}{e:Expr}{t:TA}{p q rp pos:Pos} (hc:X.calm=true) (hg:Gl X "sorted") (hm:X.mg "sorted"=none) (hg2:Gl X "set") (hm2:X.mg "set"=none) (ha:PA X [e] t) (he:starEach [e] X.env=(false,eval e X.env)::starEach [] X.env):PE X (.Call (.Name "sorted" p) [.Call (.Name "set" q) [e] [] rp] [] pos) (tCB (rSS X.K) t):=by
 intro pins s σ H Q I h
 refine dm (hC I hg hm sH ?_ (by decide) (by decide))
 refine gS ?_ rfl rfl
 show az _ _ (spliced ((false,eval (.Call (.Name "set" q) [e] [] rp) X.env)::backTo pos (starEach [] X.env))) _ _ s
 refine qj (dm (hC I hg2 hm2 vP ?_ (by decide) (by decide)))
 refine bN (thn (ha rp pins s σ H _ I h) λus s1 ⟨vs,H1,I1,r1,q1⟩ =>?_) he rfl
 obtain⟨a,ns,rfl,hS,⟨hk1,hk2⟩,qq⟩:=q1
 cases r1 with
 | cons r1 rr=>
   cases rr
   cases (show _=aU a from r1)
   have hh:=I1.ok.hd hc
   have fin : ∀ (T:String) (items:Array Value) (nl:Nat) (od:Option Addr) (osl:Array (Option Value)),T="list"\/T="tuple"->s1.heap.get? a=some { cls := .type T,dict:=od,data := .seq items nl,slots:=osl }->IntsAre items.toList ns ->
     az (model X.prog X.w) X.A (call (.type "set") [.ref a]) (fun u s2=>az (model X.prog X.w) X.A (spliced (backTo pos (starEach [] X.env))) (fun us s3=>az (model X.prog X.w) X.A (call (.builtin "sorted") (u::us)) (EP X pins σ Q) X.xe s3) X.xe s2) X.xe s1:=by
    intro T items nl od osl hT hol hi
    refine wm hT hh hol hi (by unfold scanBound;exact aJ (by assumption) (by decide)) λh2 tk hset hold=>sj ?_
    refine yA (s:={ s1 with heap:=h2,toks:=tk }) hh hset hk2 λout ns' l ee s3 a1 a2 a3 hle hkp hgn hos hl =>?_
    have e':=oQ a2 a3
    subst e'
    have la: ∀b o,s1.heap.get? b=some o->s3.heap.get? b=some o:=λb o e=>hkp b o (hold b o (by simp) e) (aL (aD e))
    have lz:s1.heap.objs.size<=l:=by
     obtain⟨es,ep,t,g,_⟩:=hset
     have: @Ek Nat _ s1.heap.objs.size h2.objs.size:=aD g
     have z: @LE.le Nat _ h2.objs.size l:=hle
     exact bG (ag this z)
    have I3:=I1.laid (t':=s3.toks) (o:= .lst ((kR (ddp ns)).map V.int)) (h':=s3.heap) (a:=l) la lz ⟨by rw[aA,(gX _).length_eq,sizeLine_eq];omega,out.toList,ee,mV a1,by rw[hl]⟩
    exact⟨.ref l,_,Inv.drawn I3 rfl hgn hos,rfl,qq _ (I1.hok.fresh lz)⟩
   rcases hS with hS |hS
   ·obtain⟨its,rv,pl,_⟩:=I1.list hS
    obtain⟨⟨oc,od,odt,osl⟩,ho,hcl,n,hd⟩:=pl.isList
    simp only at hcl hd
    subst hcl hd
    exact fin "list" _ n _ _ (.inl rfl) ho (intsAre_of rv)
   ·obtain⟨its,rv,pl,_⟩:=I1.tuple hS
    obtain⟨⟨oc,od,odt,osl⟩,ho,hcl,n,hd⟩:=pl
    simp only at hcl hd
    subst hcl hd
    exact fin "tuple" _ n _ _ (.inr rfl) ho (intsAre_of rv)
end _G
end
section
namespace _G
open PySem PySem.Spec _L
open PyProof.Rows hiding St
section
noncomputable def Gm(n:Nat):Prop:=n<4000
noncomputable instance(n:Nat):Decidable (Gm n):=bJ _
noncomputable def bLS:MF:=λus S=>match us with
 | [x]=>((dz S x).bind λxs=>dZ lO xs).bind λns=>if Gm ns.length then some (.int (ddp ns).length,S) else none
 | _=>none
end
noncomputable def rLS(K:av):List V->Hp->VK->Prop:=λxs H Q =>∃(p:Addr) (ns:List Int),xs = [.ref p]/\(SqL K H p (ns.map V.int)\/SqT K H p (ns.map V.int))/\Gm ns.length/\Q (.int (ddp ns).length) H
theorem LY{K:KX}:oE K (rLS K) bLS:=by
 intro μ S H us vs u S' Q hr rs e a
 unfold bLS at e
 split at e
 ·rename_i x
  obtain⟨v,r,rfl,rx,rn⟩:=rs.inv
  rw[rn.nil_inv]
  cases q1:dz S x with
  | none=>rw[q1]at e;cases e
  | some ws=>
    rw[q1]at e
    simp only[ar]at e
    cases q:dZ lO ws with
    | none=>rw[q]at e;cases e
    | some ns=>
      rw[q]at e
      simp only[ar]at e
      split at e
      rotate_left
      ·cases e
      rename_i hc
      cases e
      obtain⟨p,ys,rfl,hs,r'⟩:=hr.seq rx q1
      rw[qE r' q]at hs
      exact⟨p,ns,rfl,hs,hc,a.now hr eh⟩
 ·cases e
theorem LB {X:Cx}{e:Expr}{t:TA}{p q rp pos:Pos} (hc:X.calm=true) (hg:Gl X "len") (hm:X.mg "len"=none) (hg2:Gl X "set") (hm2:X.mg "set"=none) (ha:PA X [e] t) (he:starEach [e] X.env=(false,eval e X.env)::starEach [] X.env):PE X (.Call (.Name "len" p) [.Call (.Name "set" q) [e] [] rp] [] pos) (tCB (rLS X.K) t):=by
 intro pins s σ H Q I h
 refine dm (hC I hg hm boot_len ?_ (by decide) (by decide))
 refine gS ?_ rfl rfl
 show az _ _ (spliced ((false,eval (.Call (.Name "set" q) [e] [] rp) X.env)::backTo pos (starEach [] X.env))) _ _ s
 refine qj (dm (hC I hg2 hm2 vP ?_ (by decide) (by decide)))
 refine bN (thn (ha rp pins s σ H _ I h) λus s1 ⟨vs,H1,I1,r1,q1⟩ =>?_) he rfl
 obtain⟨a,ns,rfl,hS,hk1,qq⟩:=q1
 have hk1:ns.length<4000:=hk1
 cases r1 with
 | cons r1 rr=>
   cases rr
   cases (show _=aU a from r1)
   have hh:=I1.ok.hd hc
   have fin : ∀ (T:String) (items:Array Value) (nl:Nat) (od:Option Addr) (osl:Array (Option Value)),T="list"\/T="tuple"->s1.heap.get? a=some { cls := .type T,dict:=od,data := .seq items nl,slots:=osl }->IntsAre items.toList ns ->
     az (model X.prog X.w) X.A (call (.type "set") [.ref a]) (fun u s2=>az (model X.prog X.w) X.A (spliced (backTo pos (starEach [] X.env))) (fun us s3=>az (model X.prog X.w) X.A (call (.builtin "len") (u::us)) (EP X pins σ Q) X.xe s3) X.xe s2) X.xe s1:=by
    intro T items nl od osl hT hol hi
    refine wm hT hh hol hi (by unfold scanBound;exact aJ (by assumption) (by decide)) λh2 tk hset hold=>sj ?_
    obtain⟨es,ep,tb,ho,he2⟩:=hset
    have hl:=he2.len
    have hd:=Ai ns
    refine call_len_set (s:={ s1 with heap:=h2,toks:=tk }) ho ⟨rfl,rfl,rfl⟩ rfl he2.fit (by omega) ?_
    have I2:Inv X pins σ H1 { s1 with heap:=h2,toks:=tk+1+1 }:=I1.kept λb o e=>hold b o (by simp) e
    refine⟨.int (ddp ns).length,H1,I2,⟨_,by rw[hl]⟩,qq⟩
   rcases hS with hS |hS
   ·obtain⟨its,rv,pl,_⟩:=I1.list hS
    obtain⟨⟨oc,od,odt,osl⟩,ho,hcl,n,hd⟩:=pl.isList
    simp only at hcl hd
    subst hcl hd
    exact fin "list" _ n _ _ (.inl rfl) ho (intsAre_of rv)
   ·obtain⟨its,rv,pl,_⟩:=I1.tuple hS
    obtain⟨⟨oc,od,odt,osl⟩,ho,hcl,n,hd⟩:=pl
    simp only at hcl hd
    subst hcl hd
    exact fin "tuple" _ n _ _ (.inr rfl) ho (intsAre_of rv)
end _G
end
section
namespace _G
open PySem PySem.Spec _L
open PyProof.Rows hiding St
section
section
variable {prog:Program}{w:World}{A:Around}{E:Value->Shared->Prop}{s:Shared}
end
section
variable {X:Cx}{e:Expr}{te:TE}{pos p2 p3 p4:Pos}{j:Nat}
end
section
variable {K:KX}{σ:St}{H:Hp}{Q:VK}
end
end
end _G
end
section
namespace _G
open PySem PySem.Spec _L
open PyProof.Rows hiding St
section
noncomputable def rD(k v:ME):ME:=λρ S=>bnd (k ρ (S++[.dic []])) λx S1=>bnd (v ρ S1) λy S2=>(keyOf x).bind λkk=>match S2[S.length]? with
 | some (.dic [])=>some (.ref S.length,S2.set S.length (.dic [(kk,y)]))
 | _=>none
section
variable {K:KX}{σ:St}{H:Hp}{Q:VK}
theorem EH{μ:List Addr}{S:Sto}{p:Addr}(hr:HR K μ S H)(hp:H p=none):HR K (μ++[p]) (S++[.dic []]) (upd H p (.dK [])):=
 hr.newC hp rfl ⟨[],dn,.nil⟩
theorem Gi{μ:List Addr}{S:Sto}{p:Addr}(hr:HR K μ S H):(μ++[p])[S.length]? = some p:=by
 rw[<- hr.len,aG (aq _)];simp
theorem JV{a b:ME}(h:tM K (rD a b) σ H Q):Hk [(tM K a,tM K b)] σ H Q:=by
 obtain⟨μ,S,ρ,u,S',hr,er,e,k⟩:=h
 intro p hp
 obtain⟨x,S1,e1,e⟩:=aZ e
 obtain⟨y,S2,e2,e⟩:=aZ e
 have pre:Pre μ (μ++[p]):=⟨[p],rfl⟩
 refine⟨μ++[p],S++[.dic []],ρ,x,S1,EH hr hp,er.mono (br.new hp) pre,e1,λμ1 vx H1 p1 k1 hr1 rx =>?_⟩
 refine⟨μ1,S1,ρ,y,S2,hr1,er.mono ((br.new hp).trans k1) (pre.trans p1),e2,λμ2 vy H2 p2 k2 hr2 ry =>?_⟩
 cases qk:keyOf x with
 | none=>rw[qk]at e;cases e
 | some kk=>
   rw[qk]at e
   simp only[ar]at e
   split at e
   ·rename_i q
    cases e
    have hm:=p2.get (p1.get (Gi hr (p:=p)))
    obtain⟨vs,e0,r0⟩:=hr2.cell _ _ p q hm
    have hv:vs = []:=r0.nil_inv
    subst hv
    have kw:br H2 (upd H2 p (.dK (pd [] [(kk,vy)]))):=br.wrG e0 (λ_ z=>by cases z) λ_ _ z=>by cases z
    refine⟨e0,[(kk,vy)],?_,by simp,?_⟩
    ·rw[oH (RU.mono k2 p2 _ _ rx) qk];rfl
    ·refine k μ2 _ _ (pre.trans (p1.trans p2)) ((br.new hp).trans (k1.trans (k2.trans kw))) (hr2.wrC q hm rfl ⟨[vy],by rw[dn];rfl,.cons (RU.mono kw (Pre.refl _) _ _ ry) .nil⟩) (yh hm)
   ·cases e
noncomputable def LV(i:Int):Prop:=i.natAbs.log2<1920
noncomputable instance(i:Int):Decidable (LV i):=bJ _
end
end
end _G
end
section
namespace _G
open PySem PySem.Spec _L
open PyProof.Rows hiding St
section
abbrev MG:=U->Rho->Sto->Option (Rho×Sto)
abbrev MGs:=List U->Rho->Sto->Option (Rho×Sto)
noncomputable def gN(i:Nat):MG:=λu ρ S=>some (ρ.set i (some u),S)
noncomputable def nA:MGs:=λus ρ S=>match us with
 | []=>some (ρ,S)
 | _=>none
noncomputable def eE(g:MG)(r:MGs):MGs:=λus ρ S=>match us with
 | []=>none
 | u::us=>(g u ρ S).bind λp=>r us p.1 p.2
noncomputable def gTp(n:Nat)(gs:MGs):MG:=λu ρ S=>match u with
 | .tup us=>if us.length=n then gs us ρ S else none
 | _=>none
noncomputable def tG(K:KX)(g:MG):TG:=λv σ H Q =>∃μ S ρ u r,HR K μ S H/\ER H μ ρ σ/\RU H μ u v/\g u ρ S=some r /\ ∀μ' σ' H',Pre μ μ'->br H H'->HR K μ' r.2 H'->ER H' μ' r.1 σ'->Q σ' H'
noncomputable def tGs(K:KX)(g:MGs):TGs:=λvs σ H Q =>∃μ S ρ us r,HR K μ S H/\ER H μ ρ σ/\RUs H μ us vs/\g us ρ S=some r /\ ∀μ' σ' H',Pre μ μ'->br H H'->HR K μ' r.2 H'->ER H' μ' r.1 σ'->Q σ' H'
theorem PG.con{X:Cx}{tg:Expr}{t u:TG}(h:PG X tg t)(k: ∀v σ H Q,u v σ H Q->t v σ H Q):PG X tg u:=λpins s σ H v w Q I r q=>h pins s σ H v w Q I r (k _ _ _ _ q)
theorem PGs.con{X:Cx}{tg:List Expr}{t u:TGs}(h:PGs X tg t)(k: ∀v σ H Q,u v σ H Q->t v σ H Q):PGs X tg u:=λpins s σ H v w Q I r q=>h pins s σ H v w Q I r (k _ _ _ _ q)
section
variable {K:KX}{σ:St}{H:Hp}{Q:St->Hp->Prop}{v:V}{D:Ends}
theorem ND{i:Nat}(h:tG K (gN i) v σ H Q):iO i v σ H Q:=by
 obtain⟨μ,S,ρ,u,r,hr,er,ru,e,k⟩:=h
 cases e
 exact k μ _ H (Pre.refl _) (br.refl _) hr (er.set ru i)
theorem J4{vs:List V}(h:tGs K nA vs σ H Q):Md vs σ H Q:=by
 obtain⟨μ,S,ρ,us,r,hr,er,rs,e,k⟩:=h
 cases us with
 | nil=>cases e;exact⟨rs.nil_inv,k μ _ H (Pre.refl _) (br.refl _) hr er⟩
 | cons u us=>cases e
theorem F4{g:MG}{gs:MGs}{vs:List V}(h:tGs K (eE g gs) vs σ H Q):Hd (tG K g) (tGs K gs) vs σ H Q:=by
 obtain⟨μ,S,ρ,us,r,hr,er,rs,e,k⟩:=h
 cases us with
 | nil=>cases e
 | cons u us=>
   obtain⟨v,vr,rfl,ra,rb⟩:=rs.inv
   cases q:g u ρ S with
   | none=>rw[show eE g gs (u::us) ρ S=(g u ρ S).bind λp=>gs us p.1 p.2 from rfl,q]at e;cases e
   | some p=>
     rw[show eE g gs (u::us) ρ S=(g u ρ S).bind λp=>gs us p.1 p.2 from rfl,q]at e
     refine⟨v,vr,rfl,μ,S,ρ,u,p,hr,er,ra,q,λμ1 σ1 H1 p1 k1 hr1 er1 =>?_⟩
     exact⟨μ1,p.2,p.1,us,r,hr1,er1,RUs.mono k1 p1 _ _ rb,e,λμ2 σ2 H2 p2 k2=>k μ2 σ2 H2 (p1.trans p2) (k1.trans k2)⟩
theorem MZ{n:Nat}{gs:MGs}(h:tG K (gTp n gs) v σ H Q):MN K n (tGs K gs) v σ H Q:=by
 obtain⟨μ,S,ρ,u,r,hr,er,ru,e,k⟩:=h
 unfold gTp at e
 split at e
 ·rename_i us
  split at e
  ·rename_i hl
   obtain⟨a,vs,rfl,ha,rs⟩:=gF ru
   exact⟨a,vs,rfl,.inl (.inl ha),by rw[<- rs.len];exact hl,μ,S,ρ,us,r,hr,er,rs,e,k⟩
  ·cases e
 ·cases e
end
end
end _G
end
section
namespace _G
open PySem PySem.Spec _L
open PyProof.Rows hiding St
section
noncomputable def nE(g:MG)(b:MS):List U->MS
 | [],ρ,S=>some (.nx,ρ,S)
 | x::xs,ρ,S=>(g x ρ S).bind λp=>aft (b p.1 p.2) (nE g b xs)
noncomputable def pK(g:MG)(b:MS)(n:Nat):Nat->Nat->MS
 | 0,_,_,_=>none
 | f+1,k,ρ,S=>(getL S n).bind λus=>match us[k]? with
   | none=>some (.nx,ρ,S)
   | some x=>(g x ρ S).bind λp=>aft (b p.1 p.2) (pK g b n f (k+1))
noncomputable def GT(g:MG)(b:MS)(n:Nat):Nat->Nat->MS
 | 0,_,_,_=>none
 | f+1,k,ρ,S=>(getL S n).bind λus=>match us[k]? with
   | none=>some (.nx,ρ,S)
   | some x=>(g (.tup [.int k,x]) ρ S).bind λp=>aft (b p.1 p.2) (GT g b n f (k+1))
noncomputable def GW(g:MG)(b:MS):Src->MS
 | .imm us=>nE g b us
 | .mut n=>pK g b n fuel 0
 | .enl n=>GT g b n fuel 0
 | _=>λ_ _=>none
noncomputable def nv(g:MG)(it:MI)(b:MS):MS:=λρ S=>bnd (it ρ S) λsrc S1=>GW g b src ρ S1
section
variable {K:KX}{σ:St}{H:Hp}{Q:VK}{D:Ends}
theorem rh{g:MG}{b:MS}{ρ:Rho}{S:Sto}{x:U}{v:V}{μ μ0:List Addr}{H0:Hp}{k:MS}{r:Fl×Rho×Sto}{N:St->Hp->Prop}(hr:HR K μ S H)(er:ER H μ ρ σ)(rx:RU H μ x v)(e:((g x ρ S).bind λp=>aft (b p.1 p.2) k)=some r)(p:Pre μ0 μ)(kp:br H0 H)(fl:FlP K μ0 H0 D r)
  (hN: ∀μ1 σ1 H1 ρ1 S1,Pre μ0 μ1->br H0 H1->HR K μ1 S1 H1->ER H1 μ1 ρ1 σ1->k ρ1 S1=some r->N σ1 H1):tG K g v σ H λσ2 H2=>tMS K b { D with nx:=N,ct:=N,bk:=D.nx } σ2 H2:=by
 cases q:g x ρ S with
 | none=>rw[q]at e;cases e
 | some y=>
   rw[q]at e
   exact⟨μ,S,ρ,x,y,hr,er,rx,q,λμ1 σ1 H1 p1 k1 hr1 er1=>mK hr1 er1 e (p.trans p1) (kp.trans k1) fl hN⟩
theorem EE{g:MG}{b:MS}{us:List U}{vs:List V}{ρ:Rho}{S:Sto}{μ:List Addr}{a:Addr}{r:Fl×Rho×Sto}(hr:HR K μ S H)(er:ER H μ ρ σ)(e:nE g b us ρ S=some r)(fl:FlP K μ H D r)(ha:H a=some (.tup vs))(ru:RUs H μ us vs):
  ∃W:Nat->Nat->St->Hp->Prop,(∃m,W 0 m σ H) /\ ∀k m σ H,W k m σ H ->
   ((Itt K a).stop k H/\D.nx σ H)\/((Itt K a).go k H /\ ∃N:St->Hp->Prop,(∀σ' H',N σ' H' -> ∃m',m'<m/\W (k+1) m' σ' H') /\ ∀x H',(Itt K a).yld k H x H'->tG K g x σ H' λσ2 H2=>tMS K b { D with nx:=N,ct:=N,bk:=D.nx } σ2 H2):=by
 refine⟨λk m σ1 H1=>m+k=us.length /\ ∃μ1 S1 ρ1,Pre μ μ1/\br H H1/\HR K μ1 S1 H1/\ER H1 μ1 ρ1 σ1/\nE g b (us.drop k) ρ1 S1=some r,⟨us.length,rfl,μ,S,ρ,Pre.refl _,br.refl _,hr,er,e⟩,?_⟩
 rintro k m σ1 H1 ⟨hm,μ1,S1,ρ1,p1,k1,hr1,er1,e1⟩
 have hq:SqT K H1 a vs:= .inl (.inl (k1 a vs ha))
 cases m with
 | zero=>
   have hk:k=us.length:=by omega
   subst hk
   rw[iW]at e1
   cases e1
   exact .inl ⟨⟨vs,hq,by rw[ru.len];exact aq _⟩,fl μ1 σ1 H1 p1 k1 hr1 er1⟩
 | succ m=>
   have hk:k<us.length:=by omega
   have hu:us[k]? = some us[k]:=by simp[hk]
   obtain⟨v,hv,rv⟩:=ru.get hu
   rw[drop_cons hu]at e1
   refine .inr ⟨⟨vs,v,hq,hv⟩,λσ2 H2 =>∃μ2 S2 ρ2,Pre μ μ2/\br H H2/\HR K μ2 S2 H2/\ER H2 μ2 ρ2 σ2/\nE g b (us.drop (k+1)) ρ2 S2=some r,λσ' H' w=>⟨m,bF _,by omega,w⟩,λx H' y =>?_⟩
   obtain⟨e',y⟩:=y
   subst e'
   have hx:=y vs hq
   rw[hv]at hx;cases hx
   exact rh hr1 er1 (RU.mono k1 p1 _ _ rv) e1 p1 k1 fl λμ2 σ2 H2 ρ2 S2 p2 k2 hr2 er2 e2=>⟨μ2,S2,ρ2,p2,k2,hr2,er2,e2⟩
theorem GA{g:MG}{b:MS}{n f:Nat}{ρ:Rho}{S:Sto}{μ:List Addr}{a:Addr}{r:Fl×Rho×Sto}(hr:HR K μ S H)(er:ER H μ ρ σ)(e:pK g b n f 0 ρ S=some r)(fl:FlP K μ H D r)(ha:μ[n]? = some a):
  ∃W:Nat->Nat->St->Hp->Prop,(∃m,W 0 m σ H) /\ ∀k m σ H,W k m σ H ->
   ((Itl K a).stop k H/\D.nx σ H)\/((Itl K a).go k H /\ ∃N:St->Hp->Prop,(∀σ' H',N σ' H' -> ∃m',m'<m/\W (k+1) m' σ' H') /\ ∀x H',(Itl K a).yld k H x H'->tG K g x σ H' λσ2 H2=>tMS K b { D with nx:=N,ct:=N,bk:=D.nx } σ2 H2):=by
 refine⟨λk m σ1 H1 =>∃μ1 S1 ρ1,Pre μ μ1/\br H H1/\HR K μ1 S1 H1/\ER H1 μ1 ρ1 σ1/\pK g b n m k ρ1 S1=some r,⟨f,μ,S,ρ,Pre.refl _,br.refl _,hr,er,e⟩,?_⟩
 rintro k m σ1 H1 ⟨μ1,S1,ρ1,p1,k1,hr1,er1,e1⟩
 cases m with
 | zero=>cases e1
 | succ m=>
   unfold pK at e1
   cases q:getL S1 n with
   | none=>rw[q]at e1;cases e1
   | some us=>
     rw[q]at e1
     simp only[ar]at e1
     obtain⟨a',vs,ha',hs,rs⟩:=hr1.sq q
     rw[p1.get ha]at ha';cases ha'
     cases z:us[k]? with
     | none=>
       rw[z]at e1
       cases e1
       refine .inl ⟨⟨vs,hs,?_⟩,fl μ1 σ1 H1 p1 k1 hr1 er1⟩
       rw[<- rs.len];exact lg.mp z
     | some u=>
       rw[z]at e1
       obtain⟨v,hv,rv⟩:=rs.get z
       refine .inr ⟨⟨vs,v,hs,hv⟩,λσ2 H2 =>∃μ2 S2 ρ2,Pre μ μ2/\br H H2/\HR K μ2 S2 H2/\ER H2 μ2 ρ2 σ2/\pK g b n m (k+1) ρ2 S2=some r,λσ' H' w=>⟨m,bF _,w⟩,λx H' y =>?_⟩
       obtain⟨e',y⟩:=y
       subst e'
       have hx:=y vs hs
       rw[hv]at hx;cases hx
       exact rh hr1 er1 rv e1 p1 k1 fl λμ2 σ2 H2 ρ2 S2 p2 k2 hr2 er2 e2=>⟨μ2,S2,ρ2,p2,k2,hr2,er2,e2⟩
theorem Hi{g:MG}{a:ME}{b:MS}(h:tMS K (nv g (dv a) b) D σ H):sR (λσ H R=>t6 K (tM K a) σ H R\/BB K (tM K a) σ H R) (tG K g) (tMS K b) D σ H:=by
 obtain⟨μ,S,ρ,r,hr,er,e,fl⟩:=h
 obtain⟨src,S1,e1,e⟩:=aZ e
 refine yE hr er e1 (λμ1 H1 us p vs p1 k1 hr1 hs hp rs =>?_) λμ1 H1 n p p1 k1 hr1 hs hp =>?_
 ·subst hs
  exact EE hr1 (er.mono k1 p1) e (fl.mono p1 k1) hp rs
 ·subst hs
  exact GA hr1 (er.mono k1 p1) e (fl.mono p1 k1) hp
theorem FR{a:MA}{R:It->Hp->Prop}{μ:List Addr}{S S1:Sto}{ρ:Rho}{src:Src}(hr:HR K μ S H)(er:ER H μ ρ σ)(e:pI a ρ S=some (src,S1))
  (hR: ∀μ1 H1 us p vs,Pre μ μ1->br H H1->HR K μ1 S1 H1->src = .imm (iN us)->H1 p=some (.tup vs)->RUs H1 μ1 us vs->R (Ite K p) H1):vA K (tMA K a) σ H R:=by
 obtain⟨xs,S2,e1,e⟩:=aZ e
 split at e
 ·rename_i us
  cases e
  refine⟨μ,S,ρ,_,_,hr,er,e1,λμ1 vs H1 p1 k1 hr1 rs =>?_⟩
  obtain⟨v,r,rfl,rx,rn⟩:=rs.inv
  rw[rn.nil_inv]
  obtain⟨p,vs,rfl,hp,r⟩:=gF rx
  exact .inl ⟨p,vs,rfl,.inl (.inl hp),hR μ1 H1 _ p vs p1 k1 hr1 rfl hp r⟩
 ·cases e
theorem Fb{g:MG}{b:MS}{us:List U}{vs:List V}{ρ:Rho}{S:Sto}{μ:List Addr}{a:Addr}{r:Fl×Rho×Sto}(hr:HR K μ S H)(er:ER H μ ρ σ)(e:nE g b (iN us) ρ S=some r)(fl:FlP K μ H D r)(ha:H a=some (.tup vs))(ru:RUs H μ us vs):
  ∃W:Nat->Nat->St->Hp->Prop,(∃m,W 0 m σ H) /\ ∀k m σ H,W k m σ H ->
   ((Ite K a).stop k H/\D.nx σ H)\/((Ite K a).go k H /\ ∃N:St->Hp->Prop,(∀σ' H',N σ' H' -> ∃m',m'<m/\W (k+1) m' σ' H') /\ ∀x H',(Ite K a).yld k H x H'->tG K g x σ H' λσ2 H2=>tMS K b { D with nx:=N,ct:=N,bk:=D.nx } σ2 H2):=by
 have hlen:(iN us).length=us.length:=by simp[iN]
 refine⟨λk m σ1 H1=>m+k=us.length /\ ∃μ1 S1 ρ1,Pre μ μ1/\br H H1/\HR K μ1 S1 H1/\ER H1 μ1 ρ1 σ1/\nE g b ((iN us).drop k) ρ1 S1=some r,⟨us.length,rfl,μ,S,ρ,Pre.refl _,br.refl _,hr,er,e⟩,?_⟩
 rintro k m σ1 H1 ⟨hm,μ1,S1,ρ1,p1,k1,hr1,er1,e1⟩
 have hq:SqT K H1 a vs:= .inl (.inl (k1 a vs ha))
 cases m with
 | zero=>
   have hk:k=(iN us).length:=by omega
   subst hk
   rw[iW]at e1
   cases e1
   exact .inl ⟨⟨vs,hq,by rw[hlen,ru.len];exact aq _⟩,fl μ1 σ1 H1 p1 k1 hr1 er1⟩
 | succ m=>
   have hk:k<us.length:=by omega
   have hu:us[k]? = some us[k]:=by simp[hk]
   obtain⟨v,hv,rv⟩:=ru.get hu
   have hu2:(iN us)[k]? = some (.tup [.int k,us[k]]):=by simp[iN,Ey,hk]
   rw[drop_cons hu2]at e1
   refine .inr ⟨⟨vs,v,hq,hv⟩,λσ2 H2 =>∃μ2 S2 ρ2,Pre μ μ2/\br H H2/\HR K μ2 S2 H2/\ER H2 μ2 ρ2 σ2/\nE g b ((iN us).drop (k+1)) ρ2 S2=some r,λσ' H' w=>⟨m,bF _,by omega,w⟩,λx H' y =>?_⟩
   obtain⟨T,u,hy,hT,rfl,rfl⟩:=y
   have hyk:=hy vs hq
   rw[hv]at hyk;cases hyk
   have kp:br H1 (upd H1 T (.tup [.int k,v])):=br.new hT
   have rx:RU (upd H1 T (.tup [.int k,v])) μ1 (.tup [.int k,us[k]]) (.ref T):=iF dn (.cons eh (.cons (RU.mono (k1.trans kp) p1 _ _ rv) .nil))
   exact rh (hr1.tup hT) (er1.mono kp (Pre.refl _)) rx e1 p1 (k1.trans kp) fl λμ2 σ2 H2 ρ2 S2 p2 k2 hr2 er2 e2=>⟨μ2,S2,ρ2,p2,k2,hr2,er2,e2⟩
theorem LF{g:MG}{a:MA}{b:MS}(h:tMS K (nv g (pI a) b) D σ H):sR (vA K (tMA K a)) (tG K g) (tMS K b) D σ H:=by
 obtain⟨μ,S,ρ,r,hr,er,e,fl⟩:=h
 obtain⟨src,S1,e1,e⟩:=aZ e
 refine FR hr er e1 (λμ1 H1 us p vs p1 k1 hr1 hs hp rs =>?_)
 subst hs
 exact Fb hr1 (er.mono k1 p1) e (fl.mono p1 k1) hp rs
end
end
end _G
end
section
namespace _G
open PySem PySem.Spec _L
open PyProof.Rows hiding St
section
section
variable {K:KX}{σ:St}{H:Hp}{Q:VK}
end
end
end _G
end
section
namespace _G
open PySem PySem.Spec _L
open PyProof.Rows hiding St
section
section
variable {prog:Program}{w:World}{A:Around}{E:Value->Shared->Prop}{s:Shared}
theorem tj{Q:List Value->Shared->Prop}{r:Addr}{a b c:Int}{t u v:Tok}{n:Nat}(hh:A.handled=none)(hr:IsRange s.heap r a b c t u v)(hsmall:mJ a b c=true)
  (hn:dD a b c=n) (hlen:n<=2 ^ 24)
  (hQ: ∀(h':Heap) (tk:Nat) (acc:Array Value),(∀b o,s.heap.get? b=some o->h'.get? b=some o)->s.heap.objs.size<=h'.objs.size->ItemsOf (λi v =>∃t,v = .int (a+i*c) t) acc n->Q acc.toList { s with heap:=h',toks:=tk }):
  az (model prog w) A (collect (.ref r)) Q E s:=by
 unfold collect
 refine af (jm (cx jt ?_))
 rw[bP ju _]
 show az _ A.in1 (newList [] >>= fun l=>again (.builtin "list.__iadd__" ⟨[l,.ref r],[]⟩)) _ _ s
 refine af (bf (aj ⟨plainId_quiet dX _,cx m7 ?_⟩))
 rw[bP dX _]
 have hS:(s.heap.push { cls := .type "list",data := .seq ([]:List Value).toArray }).get? s.heap.objs.size=some { cls := .type "list",data := .seq #[] 0 }:=ay _ rfl
 have lt: ∀b o,s.heap.get? b=some o->b≠s.heap.objs.size:=λb o e=>aL (aD e)
 refine cY (wpAny_extend_range (A:=A) (R:=λx s' =>∃h' tk acc c',x = .ok (.ret (.ref s.heap.objs.size))/\s'={ s with heap:=h',toks:=tk }/\(∀b o,s.heap.get? b=some o->h'.get? b=some o) /\
   h'.get? s.heap.objs.size=some { cls := .type "list",dict:=none,data := .seq acc c',slots := #[] }/\ItemsOf (fun i v => ∃ t,v = .int (a+i*c) t) acc n)
  (s:={ s with heap:=s.heap.push { cls := .type "list",data := .seq ([]:List Value).toArray } }) hh (ao _ hr) hsmall hn hlen s.heap.objs.size (.ref s.heap.objs.size) 0 hS
  λh' tk acc c' hk hS' hacc=>⟨h',tk,acc,c',rfl,rfl,λb o e=>hk b o (lt b o e) (ao _ e),hS',hacc⟩) (λfin s' h =>?_) (λe s' h=>by obtain⟨_,_,_,_,h,_⟩:=h;cases h)
 have fin': ∀x s',(∃h' tk acc c',x=(.ok (.ret (.ref s.heap.objs.size)):Result)/\s'={ s with heap:=h',toks:=tk }/\(∀b o,s.heap.get? b=some o->h'.get? b=some o) /\
   h'.get? s.heap.objs.size=some { cls := .type "list",dict:=none,data := .seq acc c',slots := #[] }/\ItemsOf (fun i v => ∃ t,v = .int (a+i*c) t) acc n)->x = .ok (.ret (.ref s.heap.objs.size))/\az (model prog w) A (match aU s.heap.objs.size with
   | aU a=>do
     match (<- load a).data with
      | Et xs _=>pure xs.toList
      | _=>unsupported "internal:collect"
   | _=>unsupported "internal:collect") Q E s':=by
  rintro x s' ⟨h',tk,acc,c',rfl,rfl,hk,hS',hacc⟩
  refine⟨rfl,?_⟩
  show az _ A (load s.heap.objs.size >>= _) _ _ _
  refine af (vM hS' (aj ?_))
  exact hQ h' tk acc hk (bG (aD hS')) hacc
 cases fin with
 | done f=>
   obtain⟨e,q⟩:=fin' _ _ h
   cases e
   exact q
 | again c'=>exact⟨h.1,jj h.2 λr s'' hr=>by
   obtain⟨e,q⟩:=fin' _ _ hr
   subst e
   exact q⟩
theorem mq{Q₁:Value->Shared->Prop}{r:Addr}{a b c:Int}{t u v:Tok}{n:Nat}(hh:A.handled=none)(hr:IsRange s.heap r a b c t u v)(hsmall:mJ a b c=true)
  (hn:dD a b c=n) (hlen:n<=2 ^ 24)
  (h : ∀ (h':Heap) (tk:Nat) (acc:Array Value),(∀ b o,s.heap.get? b=some o->h'.get? b=some o)->s.heap.objs.size<=h'.objs.size->ItemsOf (fun i v => ∃ t,v = .int (a+i*c) t) acc n->Q₁ (.ref h'.objs.size) { s with heap:=h'.push { cls := .type "tuple",data := .seq acc },toks:=tk }) :
  pz (model prog w) A (.call (.builtin "tuple.__new__") ⟨[.type "tuple",.ref r],[]⟩) (wants Q₁ E) s:=by
 refine BI ?_
 show az _ A.in1 (do checkBuiltinCall "tuple.__new__" ⟨[.type "tuple",.ref r],[]⟩;again (.builtin "tuple.__new__" ⟨[.type "tuple",.ref r],[]⟩)) _ _ s
 refine af (cP (F.newCall_tuple_1 _) (aj ⟨plainId_quiet F.plain_tuple_new _,cx F.entry_tuple_new ?_⟩))
 rw[bP F.plain_tuple_new _]
 have hsub:=sub_tuple_self
 have hinit:=init_tuple_lookup
 have hmh:=madeHere_tuple
 have hTI:s.TypeIs (.ref r) "range":=⟨_,hr,rfl⟩
 have hh1:A.in1.handled=none:=hh
 wp_walk using gQ hTI,tj hh1 hr hsmall hn hlen
 intro h' tk acc hk hle hacc
 show az _ _ (dw acc.toList.toArray >>= λv=>ret v) _ _ _
 unfold dw
 refine af (bf ?_ (by show acc.toList.toArray.size<=sizeLine;simp only[Array.toArray_toList];rw[hacc.1,sizeLine_eq];exact hlen))
 refine aj ?_
 have e:acc.toList.toArray=acc:=by simp
 rw[e]
 exact h h' tk acc hk hle hacc
theorem pq{Q:Value->Shared->Prop}{r:Addr}{a b c:Int}{t u v:Tok}{n:Nat}(hh:A.handled=none)(hr:IsRange s.heap r a b c t u v)(hsmall:mJ a b c=true)
  (hn:dD a b c=n) (hlen:n<=2 ^ 24)
  (h : ∀ (h':Heap) (tk:Nat) (acc:Array Value),(∀ b o,s.heap.get? b=some o->h'.get? b=some o)->s.heap.objs.size<=h'.objs.size->ItemsOf (fun i v => ∃ t,v = .int (a+i*c) t) acc n->Q (.ref h'.objs.size) { s with heap:=h'.push { cls := .type "tuple",data := .seq acc },toks:=tk }) :
  az (model prog w) A (call (.type "tuple") [.ref r]) Q E s:=by
 refine callType_codes (Q₁:=fun obj s₁=>s₁.TypeIs obj "tuple"/\Q obj s₁) F.called_tuple (F.typeCall_tuple_1 _) F.entry_object_init
  (mq hh hr hsmall hn hlen λh' tk acc hk hle hacc=>⟨⟨_,ay _ rfl,rfl⟩,h h' tk acc hk hle hacc⟩) λobj s₁ h₁ =>?_
 exact⟨h₁.1,qo obj _,object_init_meets F.called_tuple.init.lookup F.called_tuple.made (by decide) prog w A.in1 _ s₁ ⟨h₁.1,rfl,h₁.2⟩⟩
end
theorem mE {X:Cx} (hc:X.calm=true):gR X (.type "tuple") (fun xs H Q => ∃ r lo hi,xs = [.ref r]/\H r=some (.rng lo hi)/\(-(2 ^ 62)<=lo/\lo < 2 ^ 62 /\ -(2 ^ 62)<=hi/\hi < 2 ^ 62)/\(hi - lo).toNat<=sizeLine /\ ∀ l,H l=none->Q (.ref l) (upd H l (.tup (lh lo (hi - lo).toNat)))):=by
 intro pins s σ H xs us Q I rs h
 obtain⟨r,lo,hi,rfl,hr,⟨h1,h2,h3,h4⟩,hz,q⟩:=h
 cases rs with
 | cons r1 rr=>
   cases rr
   cases (show _=aU r from r1)
   obtain⟨t,u,v,e⟩:=I.hok r _ hr
   have hn:dD lo hi 1=((hi - lo).toNat:Nat):=by rw[rangeSize_one];split <;> omega
   refine pq (n:=(hi - lo).toNat) (I.ok.hd hc) e (small_one h1 h2 h3 h4) hn (by rw[sizeLine_eq]at hz;exact hz) λh' tk acc hk hle hacc =>?_
   obtain⟨hsz,hit⟩:=hacc
   refine⟨.ref h'.objs.size,_,I.laid (t':=tk) (o:= .tup (lh lo (hi - lo).toNat)) (λb o e=>ao _ (hk b o e)) hle ?_,rfl,q _ (I.hok.fresh hle)⟩
   refine⟨by rw[lh,aA,bD];exact hz,acc.toList,?_,oW _ _,_,ay _ rfl,rfl⟩
   refine uW (by rw[lh,aA,bD,cQ,hsz]) λi x w h5 h6 =>?_
   have hlt:i<(hi - lo).toNat:=by
    have:=(ak.mp h5).1
    rwa[lh,aA,bD]at this
   have hx:(lh lo (hi - lo).toNat)[i]? = some (.int (lo+i)):=by simp[lh,hlt]
   rw[hx]at h5;cases h5
   obtain⟨t',e'⟩:=hit i w (by simpa using h6)
   exact⟨t',by rw[e'];simp⟩
section
variable {K:KX}{σ:St}{H:Hp}{Q:VK}
noncomputable def rTR:List V->Hp->VK->Prop:=λxs H Q =>∃r lo hi,xs = [.ref r]/\H r=some (.rng lo hi)/\(-(2 ^ 62)<=lo/\lo<2 ^ 62 /\ -(2 ^ 62)<=hi/\hi<2 ^ 62)/\(hi - lo).toNat<=sizeLine /\ ∀l,H l=none->Q (.ref l) (upd H l (.tup (lh lo (hi - lo).toNat)))
theorem xD{μ:List Addr}{S1:Sto}{i j:Int}{r:Addr}(hr1:HR K μ S1 H)(ho:okR i/\okR j)(hz:(bh i (j - i).toNat).length<=big)(k:Aft K μ H (.tup (bh i (j - i).toNat)) S1 Q)(hrn:H r=none):rTR [.ref r] (upd H r (.rng i j)) Q:=by
 refine⟨r,i,j,rfl,dn,⟨ho.1.1,ho.1.2,ho.2.1,ho.2.2⟩,?_,λl hl =>?_⟩
 ·unfold bh big at hz;rw[aA,bD]at hz;rw[sizeLine_eq];exact hz
 ·have k2:=k.mono (Pre.refl _) (br.new hrn (o:= .rng i j))
  exact k2 μ _ _ (Pre.refl _) (br.new hl) ((hr1.rng hrn).tup hl) (iF dn (RUs.mono (br.new hl) (Pre.refl _) _ _ (Aa _ _)))
theorem EI{a:MA}(h:tM K (jz (iR1 a)) σ H Q):tCB rTR (rB (GQ (tMA K a)) yN) σ H Q:=by
 obtain⟨μ,S,ρ,u,S',hr,er,e,k⟩:=h
 obtain⟨src,S1,e1,e⟩:=aZ e
 obtain⟨xs,S2,e2,e1⟩:=aZ e1
 refine⟨μ,S,ρ,xs,S2,hr,er,e2,λμ1 vs H1 p1 k1 hr1 rs =>?_⟩
 split at e1
 ·rename_i j
  split at e1
  ·rename_i hj
   cases e1
   simp only at e
   split at e
   ·rename_i hz
    cases e
    obtain⟨v,r,rfl,rx,rn⟩:=rs.inv
    rw[rn.nil_inv,cz rx]
    refine⟨j,rfl,hj.1,hj.2,λr hrn =>?_⟩
    have ez:(j - 0).toNat=j.toNat:=by simp
    exact xD (i:=0) hr1 ⟨⟨by decide,by decide⟩,hj⟩ (by rw[ez];exact hz) (by rw[ez];exact k.mono p1 k1) hrn
   ·cases e
  ·cases e1
 ·cases e1
theorem Gr{a:MA}(h:tM K (jz (iR2 a)) σ H Q):tCB rTR (rB (Ef (tMA K a)) yN) σ H Q:=by
 obtain⟨μ,S,ρ,u,S',hr,er,e,k⟩:=h
 obtain⟨src,S1,e1,e⟩:=aZ e
 obtain⟨xs,S2,e2,e1⟩:=aZ e1
 refine⟨μ,S,ρ,xs,S2,hr,er,e2,λμ1 vs H1 p1 k1 hr1 rs =>?_⟩
 split at e1
 ·rename_i i j
  split at e1
  ·rename_i hj
   cases e1
   simp only at e
   split at e
   ·rename_i hz
    cases e
    obtain⟨v,r,rfl,rx,rs⟩:=rs.inv
    obtain⟨w,r,rfl,ry,rn⟩:=rs.inv
    rw[rn.nil_inv,cz rx,cz ry]
    exact⟨i,j,rfl,⟨hj.1.1,hj.1.2,hj.2.1,hj.2.2⟩,λr hrn=>xD hr1 hj hz (k.mono p1 k1) hrn⟩
   ·cases e
  ·cases e1
 ·cases e1
end
end
end _G
end
section
namespace _G
open PySem PySem.Spec _L
open PyProof.Rows hiding St
section
noncomputable def BU(i:Nat)(f:Addr)(φ:MF)(a:MA):ME:=λρ S=>match ρ[i]? with
 | some (some (.obj g))=>if g=f then mFn φ a ρ S else none
 | _=>none
end
structure Lam(M:Mo)(f:Addr)(k:Nat)(ps:List Str)(φ:MF):Prop where
 ex: ∃fd:FuncData,((∃(oc:Value) (od:Option Addr) (sl:Array (Option Value)),M.base.get? f=some ⟨oc,od,.func fd,sl⟩)\/dk M.K (.ref f)=true)/\Binds M.K fd ps []/\j4 M.P M.w M.K M.mg M.base CX0 k f fd ps (spM M.K φ)
section
variable {M:Mo}{X:Cx}{k:Nat}{N:List Str}{ns:List (Str×NameKind)}{e:Expr}{es:List Expr}{mas:MA}{x:Str}{p1 pos:Pos}
theorem FS{f:Addr}{φ:MF}{ps:List Str}{k':Nat}(S:Sc M X k N ns)(F:Lam M f k' ps φ)(hk:k'<=k)(i:Nat)(hi:N[i]? = some x)(hv:sZ ns x=true)(ha:PA X (e::es) (tMA M.K mas))
  (hd:(x == ("__debug__":Str))=false) (hcd:(x == ("__classdict__":Str))=false)
  (he:starEach (e::es) X.env=(false,eval e X.env)::starEach es X.env) (hpl:(backTo pos (starEach es X.env)).any (·.1)=false):
  PE X (.Call (.Name x p1) (e::es) [] pos) (tM M.K (BU i f φ mas)):=by
 obtain⟨fd,hf,hb,F⟩:=F.ex
 rw[<- S.hP,<- S.hw,<- S.hK,<- S.hm,<- S.hb]at F
 rw[<- S.hb,<- S.hK]at hf
 rw[<- S.hK]at hb
 intro pins s σ H Q I h
 obtain⟨μ,S0,ρ,u,S',hr,er,q,aft⟩:=h
 unfold BU at q
 split at q
 rotate_left
 ·cases q
 rename_i g hg
 split at q
 rotate_left
 ·cases q
 rename_i hgf
 subst hgf
 obtain⟨v,hσ,rv⟩:=er.get i _ hg
 have hv':v = .ref g:=by simpa only [RU]using rv
 subst hv'
 refine dm (thn (Co (X:=X) (by rw[S.hN];exact hi) (S.vis hv) hd hcd pins s σ H (λv H1=>v = .ref g/\H1=H) I ⟨_,hσ,rfl,rfl⟩) λw s1 ⟨v,H1,I1,r1,e1,e2⟩ =>?_)
 subst e1;subst e2
 obtain rfl:w=aU g:=r1
 have hc:zr (spM M.K φ) [] E0 (tMA M.K mas) σ H1 Q:=Dd ⟨μ,S0,ρ,u,S',hr,er,q,aft⟩
 have hA:=ha pos pins s1 σ H1 _ I1 hc
 rcases hf with⟨oc,od,sl,hf⟩ |hf
 rotate_left
 ·exact Ei (h₀:=X.base) I1.ok.mod.kin hf (thn hA λus s2 ⟨vs,H2,I2,r2,q2⟩=>⟨I2.kIn,vp F (S.room.mono hk) hb .nil zY I2 r2 q2⟩) he hpl
 rw[he]
 refine PySem.W.callWith_of (P:=λh=>h.get? g=some ⟨oc,od,.func fd,sl⟩) (by show((false||(backTo pos (starEach es X.env)).any (·.1))||false)=false;rw[hpl];rfl)
  (λh q=>⟨.frame,.inl rfl,(PySem.W.Looks.ld (part:=none) q).andThen .now⟩) (oS ?_)
 rw[he]at hA
 refine thn hA λus s2 ⟨vs,H2,I2,r2,q2⟩=>⟨I2.bk g _ hf,?_⟩
 exact vp F (S.room.mono hk) hb .nil zY I2 r2 q2
end
end _G
end
section
namespace _G
open PySem PySem.Spec _L
open PySem.W (envX kla_fn kla_obj CodeHd tabObj)
open PyProof.Rows hiding St
end _G
end
section
namespace _G
open PySem PySem.Spec _L
open PySem.W (envX kla_fn kla_obj CodeHd tabObj)
open PyProof.Rows hiding St
section
variable {K:KX}{H:Hp}{μ:List Addr}{S:Sto}
end
section
variable {X:Cx}{pins:List (Addr×Obj)}{σ:St}{H:Hp}{s:Shared}
end
end _G
end
section
namespace _G
open PySem PySem.Spec _L
open PySem.W (envX kla_fn kla_obj CodeHd tabObj)
open PyProof.Rows hiding St
noncomputable def kj (mg:Str->Option Value) (base:Heap):Prop := ∃ bm ob,mg "__builtins__"=some (.ref bm)/\bm≠builtinsNs/\base.get? bm=some ob/\ob.cls = .type "module"/\ob.dict=some builtinsNs/\ob.data = .plain
structure Mkr(M:Mo)(c P:Addr)(q:Str):Prop where
 hd: ∀h:Heap,M.K.K.In h->CodeHd h c P
 bl:kj M.mg M.base
 gP:mainGlobals≠P
 mem:(P,q)∈M.K.tabs
 un: ∀r∈M.K.tabs,r.1=P->r.2=q
noncomputable def KX.to(K:KX)(caps:List U)(capv:List V)(cds:List (Addr×Obj)):KX:=⟨K.K,caps,capv,cds,K.tabs⟩
noncomputable def Mo.to(M:Mo)(caps:List U)(capv:List V)(cds:List (Addr×Obj))(base:Heap):Mo:=⟨M.P,M.w,M.K.to caps capv cds,M.mg,base,none⟩
structure FnC(M:Mo)(x:Str)(k:Nat)(ps:List Str)(F:Addr->MF->MF):Prop where
 ex: ∃(f:Addr) (fd:FuncData),M.mg x=some (.ref f)/\dk M.K (.ref f)=true/\Binds M.K fd ps [] /\
  ∀(caps:List U) (capv:List V) (cds:List (Addr×Obj)) (base:Heap) (g:Addr) (j:Nat) (lps:List Str) (φ:MF),kj M.mg base->k<=j->Lam (M.to caps capv cds base) g j lps φ ->
   j4 M.P M.w M.K M.mg base CX0 (j+1) f fd ps (spM (M.K.to caps capv cds) (F g φ))
section
variable {M:Mo}{X:Cx}{k:Nat}{N:List Str}{ns:List (Str×NameKind)}{pins:List (Addr×Obj)}{σ:St}{H:Hp}{s:Shared}
end
end _G
end
section
namespace _G
open PySem PySem.Spec _L
open PyProof.Rows hiding St
noncomputable def Trc(e T:Addr)(cls:Value)(h:Heap):Prop:= ∃(oe:Obj) (vs:Array Value) (a0:Value) (oT:Obj) (ts:Array Value),h.get? e=some oe/\(oe.cls=cls/\vs[0]? = some a0)/\oe.data = .fields vs/\vs[1]? = some (.ref T)/\T≠e/\h.get? T=some oT/\oT.data = .fields ts/\ts[3]? = some .none
noncomputable def CX1(P:Program)(w:World):CXT:=λouter H s E ev s' =>∃(e T:Addr) (cls:Value) (H':Hp),ev = .ref e/\s'.os=s.os/\AllBare s'.gens/\Un (frs outer) [] H H' s.heap s'.heap/\HOk P w H' s'.heap/\Trc e T cls s'.heap/\s.heap.get? e=none/\s.heap.get? T=none/\H' e=none/\H' T=none/\E cls none H'
structure Left(fs:List Addr)(e T:Addr)(h h':Heap):Prop where
 keep: ∀b o,b∉fs->b≠e->b≠T->h.get? b=some o->h'.get? b=some o
 slot: ∀b o,b∈fs->h.get? b=some o -> ∃sl,h'.get? b=some { o with slots:=sl }
theorem Left.hok{P:Program}{w:World}{fs:List Addr}{e T:Addr}{H:Hp}{h h':Heap}(l:Left fs e T h h')(x:HOk P w H h)(hf: ∀b∈fs,H b=none)(he:H e=none)(hT:H T=none):HOk P w H h':=λa o q=>by
 refine(x a o q).stay (λb u hb e1 =>?_) (λ_ z=>z) λ_ _ z=>z
 have key: ∃o,H b=some o:=by
  rcases hb with rfl |z
  ·exact⟨_,q⟩
  ·exact⟨_,z⟩
 obtain⟨ob,key⟩:=key
 exact l.keep b u (λz=>by rw[hf b z]at key;cases key) (λz=>by rw[z,he]at key;cases key) (λz=>by rw[z,hT]at key;cases key) e1
section
variable {X:Cx}{pins:List (Addr×Obj)}{σ:St}{H H':Hp}{s s':Shared}
end
end _G
end
section
namespace _G
open PySem PySem.Spec _L
open PySem.W (envX kla_fn kla_obj CodeHd tabObj)
open PyProof.Rows hiding St
section
abbrev RF:=List U->Sto->Option (Nat×Sto)
noncomputable def kL(b:Nat->Bool)(is:List Nat):Cell:= .lst (is.map λi => .bl (b i))
noncomputable def LD(b:Nat->Bool):Sto:= [kL b [0,1,2],kL b [3,4,5],kL b [0,1,2,3,4,5,6]]
noncomputable def bQ(q:Nat)(j:Nat):Bool:=decide (q=j)||decide (j=7)
noncomputable def NN(rz:List Nat)(φ:MF)(ψ:RF)(S:Sto):Res U:=match φ [] S with
 | some r=>some (.non,r.2++LD λ_=>false)
 | none=>match ψ [] S with
   | some r=>if r.1∈rz then some (.ref (r.2.length+3),r.2++(LD (bQ r.1)++[.lst [.int r.1]])) else none
   | none=>none
noncomputable def NO(rz:List Nat)(g:Addr)(φ:MF)(ψ:RF):MF:=λus S=>match us with
 | [.obj a]=>if a=g then NN rz φ ψ S else none
 | _=>none
end
noncomputable def NM(cl:Nat->Addr)(K:KX)(μ:List Addr)(H:Hp)(C:Nat)(S':Sto)(E:XK):Prop:= ∀μ' H',Pre μ μ'->br H H'->HR K μ' S' H'->E (.ref (cl C)) none H'
noncomputable def spX(cl:Nat->Addr)(K:KX)(r:RF):Sp:=λvs H _ E =>∃μ S us C S',HR K μ S H/\RUs H μ us vs/\r us S=some (C,S')/\NM cl K μ H C S' E
structure FnX(M:Mo)(cl:Nat->Addr)(x:Str)(k:Nat)(ps:List Str)(r:RF):Prop where
 ex: ∃(f:Addr) (fd:FuncData),M.mg x=some (.ref f)/\dk M.K (.ref f)=true/\Binds M.K fd ps []/\j4 M.P M.w M.K M.mg M.base (CX1 M.P M.w) k f fd ps (spX cl M.K r)
structure Ni(M:Mo)(cl:Nat->Addr)(f:Addr)(k:Nat)(ps:List Str)(r:RF):Prop where
 ex: ∃fd:FuncData,((∃(oc:Value) (od:Option Addr) (sl:Array (Option Value)),M.base.get? f=some ⟨oc,od,.func fd,sl⟩)\/dk M.K (.ref f)=true)/\Binds M.K fd ps []/\j4 M.P M.w M.K M.mg M.base (CX1 M.P M.w) k f fd ps (spX cl M.K r)
structure FnR(M:Mo)(cl:Nat->Addr)(x:Str)(k:Nat)(rz:List Nat):Prop where
 ex : ∃ (f:Addr) (fd:FuncData),M.mg x=some (.ref f)/\dk M.K (.ref f)=true/\Binds M.K fd ["call"] [] /\
  ∀(caps:List U) (capv:List V) (cds:List (Addr×Obj)) (base:Heap) (g:Addr) (j:Nat) (φ:MF) (ψ:RF),kj M.mg base->k<=j->Lam (M.to caps capv cds base) g j [] φ->Ni (M.to caps capv cds base) cl g j [] ψ ->
   j4 M.P M.w M.K M.mg base CX0 (j+1) f fd ["call"] (spM (M.K.to caps capv cds) (NO rz g φ ψ))
section
variable {M:Mo}{X:Cx}{k:Nat}{N:List Str}{ns:List (Str×NameKind)}{pins:List (Addr×Obj)}{σ:St}{H:Hp}{s:Shared}{cl:Nat->Addr}{rz:List Nat}
end
end _G
end
section
namespace _G
open PySem PySem.Spec _L
open PySem.W (envX fnX fnMade CodeHd tabObj)
open PyProof.Rows hiding St
section
end
section
noncomputable def sml(i:Int):Prop:= -(2 ^ 64)<i/\i<2 ^ 64
noncomputable instance(i:Int):Decidable (sml i):=bJ _
end
section
variable {M:Mo}{X:Cx}{k:Nat}{N:List Str}{ns:List (Str×NameKind)}
end
section
variable {M:Mo}{X:Cx}{k:Nat}{N:List Str}{ns:List (Str×NameKind)}{pins:List (Addr×Obj)}{σ:St}{H:Hp}{s:Shared}
end
end _G
end
section
namespace _G
open PySem PySem.Spec _L
open PyProof.Rows hiding St
section
abbrev NS:=List (Str×NameKind)
structure Zt where
 R:List (Str×RF)
 F:List (Str×List Nat)
 cl:Nat->Addr
 nm:Str
noncomputable def z0:Zt:=⟨[],[],fun _=>0,"<lambda>"⟩
structure Tb where
 D:List (Str×MF)
 C:List (Str×U)
 L:List (Str×Addr×MF)
 H:List (Str×(Addr->MF->MF))
 mkr:Bool
 Z:Zt
noncomputable def Tb.bare(T:Tb):Tb:=⟨T.D,T.C,[],T.H,false,T.Z⟩
noncomputable def notStar:Expr->Bool
 | .Starred _ _=>false
 | _=>true
noncomputable def mZ:Expr->Bool
 | .ListComp _ _ _ _=>false
 | .SetComp _ _ _ _=>false
 | .DictComp _ _ _ _ _=>false
 | _=>true
noncomputable def iD:Expr->Bool
 | .Set _ _ _=>false
 | _=>true
noncomputable def oJ:Expr->Bool
 | .Slice _ _ _ _=>false
 | _=>true
noncomputable def baseOk:Expr->Bool
 | .Call (.Name _ _) [] [] _=>false
 | _=>true
noncomputable def plainT:Expr->Bool
 | .Name _ _=>true
 | .Call _ _ _ _=>true
 | .Subscript _ _ _=>true
 | .Constant _ _ _=>true
 | _=>false
noncomputable def dummy(N:List Str):Str:=⟨#[N.length+1]⟩
noncomputable def yS(N:List Str)(x:Str):List Str:=(N.map λy=>if y==x then dummy N else y)++[x]
noncomputable def fH (x:Str):Bool := !(x == ("__debug__":Str)) && !(x == ("__classdict__":Str))
noncomputable def slot(N:List Str)(x:Str):Option Nat:=N.findIdx? (· == x)
noncomputable def Io(g:Str):Option MF:=
 if g == ("len":Str) then some bK else if g == ("tuple":Str) then some b9
 else if g == ("max":Str) then some wW else if g == ("min":Str) then some pX else if g == ("all":Str) then some pe
 else if g == ("sorted":Str) then some dW    else none
noncomputable def j5:List Str := ["len","tuple","list","max","min","range","isinstance","bool","int","str","dict","all","any","sorted","reversed","zip","enumerate","set","sum","repr"]
noncomputable def Dr(t:Str):Option String:=
 if t == ("tuple":Str) then some "tuple" else if t == ("list":Str) then some "list" else if t == ("int":Str) then some "int"
 else if t == ("bool":Str) then some "bool" else if t == ("str":Str) then some "str" else if t == ("dict":Str) then some "dict" else none
noncomputable def Im:Operator->Option F2
 | .Add=>some dq
 | .Sub=>some kh
 | .Mult=>some gg
 | .FloorDiv=>some oDiv
 | .Mod=>some oMod
 | .Pow=>some uN
 | _=>none
noncomputable def xj:CmpOp->Option F2
 | .Lt=>some oLt
 | .LtE=>some oLe
 | .Gt=>some oGt
 | .GtE=>some oGe
 | .Eq=>some oEq
 | .NotEq=>some oNe
 | .In=>some oIn
 | .NotIn=>some gE
 | .Is=>some oIs
 | .IsNot=>some gC
noncomputable def qR(i:Nat)(e:ME):MS:=λρ S=>match ρ[i]? with
 | some (some (.int x))=>bnd (e ρ S) λy S1=>match y with
   | .int y=>some (.nx,ρ.set i (some (.int (x+y))),S1)
   | _=>none
 | _=>none
noncomputable def sNo:MS:=λ_ _=>none
noncomputable def KI:MS:=λρ S=>some (.bk,ρ,S)
noncomputable def MB:MS:=λρ S=>some (.ct,ρ,S)
noncomputable def Cf(name:Str)(ma:ME)(mas:MA):Option ME:=
 if name == ("append":Str) then some (mML d7 ma mas) else if name == ("pop":Str) then some (mML jL ma mas)
 else if name == ("index":Str) then some (mMT gd ma mas)
  else none
set_option genInjectivity false in
structure Rc where
 e:Tb->List Str->NS->Expr->Option ME
 c:Tb->List Str->NS->Str->List Expr->Option ME
 v:Tb->List Str->NS->Str->List Expr->Option ME
 o:Tb->List Str->NS->Option Expr->Option (Option ME)
 t:Tb->List Str->NS->Expr->Option MT
 l:Tb->List Str->NS->Bool->List Expr->Option MT
 f:Tb->List Str->NS->List Expr->Option MT
 a:Tb->List Str->NS->List Expr->Option MA
 i:Tb->List Str->NS->Expr->Option MI
 g:Tb->List Str->NS->Expr->Option MG
 gs:Tb->List Str->NS->List Expr->Option MGs
 s:Tb->List Str->NS->Stmt->Option MS
 b:Tb->List Str->NS->List Stmt->Option MS
section
variable (R:Rc) (T:Tb) (N:List Str) (ns:NS)
noncomputable def Lk:Const->Option ME
 | .int i=>some (mC (.int i))
 | .bool b=>some (mC (.bl b))
 | .none=>some (mC .non)
 | .str x=>some (mC (.str x))
 | _=>none
noncomputable def eUn(a:Expr):UnaryOp->Option ME
 | .USub=>(R.e T N ns a).map (m1 iS)
 | .Not=>(R.e T N ns a).map (m1 zc)
 | _=>none
noncomputable def eBo(op:BoolOp)(p:Pos):List Expr->Option ME
 | []=>none
 | [a]=>R.e T N ns a
 | a::b::r=>(R.e T N ns a).bind λma=>match op with
   | .And=>(R.e T N ns (.BoolOp .And (b::r) p)).map (iH ma)
   | .Or=>(R.e T N ns (.BoolOp .Or (b::r) p)).map (mOr ma)
noncomputable def eCm(a:Expr):List CmpOp->List Expr->Option ME
 | [op],[b]=>if iD b then(R.e T N ns a).bind λma=>(R.e T N ns b).bind λmb=>(xj op).map λf=>m2 f ma mb else none
 | [op,op'],[b,c]=>if iD b&&iD c then(R.e T N ns a).bind λma=>(R.e T N ns b).bind λmb=>(R.e T N ns c).bind λmc=>(xj op).bind λf=>(xj op').map λg=>mCh f g ma mb mc else none
 | _,_=>none
noncomputable def eSl(a:Expr)(lo hi:Option Expr):Option Expr->Option ME
 | none=>(R.e T N ns a).bind λma=>(R.o T N ns lo).bind λml=>(R.o T N ns hi).map (mSl ma ml)
 | some _=>none
noncomputable def eSb(a:Expr):Expr->Option ME
 | .Slice lo hi st _=>eSl R T N ns a lo hi st
 | b=>if oJ b then(R.e T N ns a).bind λma=>(R.e T N ns b).map (m2 oIx ma) else none
noncomputable def eDi:List (Option Expr)->List Expr->Option ME
 | [some a],[b]=>(R.e T N ns a).bind λma=>(R.e T N ns b).map (rD ma)
 | _,_=>none
noncomputable def eLn(elt it:Expr)(ifs:List Expr)(scope:Scope)(x:Str):Option ME:=
 (R.i T N ns it).bind λmi=>(R.f T (yS N x) scope.names ifs).bind λmt=>(R.e T (yS N x) scope.names elt).map (cq mi mt)
noncomputable def eLt(elt it:Expr)(ifs:List Expr)(scope:Scope):Expr->Option ME
 | .Name x _=>if scope.kind==.function&&m3 N (yS N x) ns scope.names x&&iD it then eLn R T N ns elt it ifs scope x else none
 | _=>none
noncomputable def eLc(elt:Expr)(scope:Scope):List Comprehension->Option ME
 | [c]=>if c.is_async=0 then eLt R T N ns elt c.iter c.ifs scope c.target else none
 | _=>none
noncomputable def eRg(g:Str):List Expr->Option ME
 | [a]=>if g == ("list":Str) then none else (R.a T N ns [a]).map fun m=>jz (iR1 m)
 | [a,b]=>if g == ("list":Str) then (R.a T N ns [a,b]).map fun m=>jN (iR2 m) else (R.a T N ns [a,b]).map fun m=>jz (iR2 m)
 | _=>none
noncomputable def eSS:List Expr->Option ME
 | [a]=>(R.a T N ns [a]).map (mFn bSS)
 | _=>none
noncomputable def eLS:List Expr->Option ME
 | [a]=>(R.a T N ns [a]).map (mFn bLS)
 | _=>none
noncomputable def eC1(g:Str):Expr->Option ME
 | .Call (.Name r q) rs [] rp=>if (g == ("list":Str)||g == ("tuple":Str))&&r == ("range":Str) then (if ej ns r then eRg R T N ns g rs else none) else if g == ("sorted":Str)&&r == ("set":Str) then (if ej ns r then eSS R T N ns rs else none) else if g == ("len":Str)&&r == ("set":Str) then (if ej ns r then eLS R T N ns rs else none) else R.c T N ns g [.Call (.Name r q) rs [] rp]
 | a=>R.c T N ns g [a]
noncomputable def eIs(g t:Str)(tp:Pos)(a:Expr):Option ME:=
 if g == ("isinstance":Str) then (if ej ns t&&notStar a then (Dr t).bind fun c=>(R.e T N ns a).map (m1 (nR c)) else none) else R.c T N ns g [a,.Name t tp]
noncomputable def eC2(g:Str)(a:Expr):Expr->Option ME
 | .Name t tp=>eIs R T N ns g t tp a
 | .Lambda _ _ _ _=>none
 | b=>R.c T N ns g [a,b]
noncomputable def eCf(g:Str):List Expr->Option ME
 | []=>(T.D.lookup g).map λmf=>mFn mf ah
 | [a]=>eC1 R T N ns g a
 | [a,b]=>eC2 R T N ns g a b
 | a::b::c::r=>R.c T N ns g (a::b::c::r)
noncomputable def eMe(o:Expr)(name:Str)(p q:Pos):List Expr->Option ME
 | []=>if baseOk o&&(p.endLine == q.line)&&name == ("pop":Str) then (R.e T N ns o).map fun mo=>mML uU mo ah else none
 | [a]=>if baseOk o&&(p.endLine==q.line)&&notStar a then(R.e T N ns o).bind λmo=>(R.a T N ns [a]).bind (Cf name mo) else none
 | _=>none
noncomputable def eCa(as:List Expr)(q:Pos):Expr->Option ME
 | .Name g _=>if ej ns g&&fH g then eCf R T N ns g as else R.v T N ns g as
 | .Attribute o name p=>eMe R T N ns o name p q as
 | _=>none
end
noncomputable def sE(R:Rc)(T:Tb):List Str->NS->Expr->Option ME:=λN ns e=>match e with
  | .Name x _=>if fH x then(if sZ ns x then(slot N x).map ae else if ej ns x then(T.C.lookup x).map mC else none) else none
  | .Constant c _ _=>Lk c
  | .BinOp a op b _=>(R.e T N ns a).bind λma=>(R.e T N ns b).bind λmb=>(Im op).map λf=>m2 f ma mb
  | .UnaryOp op a _=>eUn R T N ns a op
  | .BoolOp op vs p=>eBo R T N ns op p vs
  | .Compare a ops bs _=>eCm R T N ns a ops bs
  | .IfExp c a b _=>(R.t T N ns c).bind λmc=>(R.e T N ns a).bind λma=>(R.e T N ns b).map (yQ mc ma)
  | .Subscript a b _=>eSb R T N ns a b
  | .Dict ks vs _=>eDi R T N ns ks vs
  | .Tuple es _ _=>(R.a T N ns es).map dg
  | .List es _=>(R.a T N ns es).map fA
  | .ListComp elt gens scope _=>eLc R T N ns elt scope gens
  | .Call f as kws q=>if kws.isEmpty then eCa R T N ns as q f else none
  | _=>none
noncomputable def sC(R:Rc)(T:Tb):List Str->NS->Str->List Expr->Option ME:=λN ns g as=>(R.a T N ns as).bind λmas=>match Io g with
  | some mf=>some (mFn mf mas)
  | none=>(T.D.lookup g).map λmf=>mFn mf mas
noncomputable def sV(R:Rc)(T:Tb):List Str->NS->Str->List Expr->Option ME:=λN ns g as=>match as with
 | []=>none
 | a::as=>if sZ ns g&&fH g then(T.L.lookup g).bind λq=>(slot N g).bind λi=>(R.a T N ns (a::as)).map (BU i q.1 q.2) else none
noncomputable def sO(R:Rc)(T:Tb):List Str->NS->Option Expr->Option (Option ME):=λN ns o=>match o with
  | none=>some none
  | some e=>(R.e T N ns e).map some
noncomputable def sT(R:Rc)(T:Tb):List Str->NS->Expr->Option MT:=λN ns e=>match e with
  | .UnaryOp .Not a _=>(R.t T N ns a).map nX
  | .BoolOp .And vs _=>R.l T N ns true vs
  | .BoolOp .Or vs _=>R.l T N ns false vs
  | .Compare a ops bs _=>(eCm R T N ns a ops bs).map cOf
  | e=>if plainT e then(R.e T N ns e).map cOf else none
noncomputable def sL(R:Rc)(T:Tb):List Str->NS->Bool->List Expr->Option MT:=λN ns b vs=>match vs with
  | []=>none
  | [a]=>R.t T N ns a
  | a::r=>(R.t T N ns a).bind λma=>(R.l T N ns b r).map λmr=>if b then ko ma mr else cOr ma mr
noncomputable def sF(R:Rc)(T:Tb):List Str->NS->List Expr->Option MT:=λN ns ifs=>match ifs with
  | []=>some cTT
  | [c]=>R.t T N ns c
  | _=>none
noncomputable def sA(R:Rc)(T:Tb):List Str->NS->List Expr->Option MA:=λN ns es=>match es with
  | []=>some ah
  | e::r=>if notStar e then(R.e T N ns e).bind λm=>(R.a T N ns r).map (aa m) else none
noncomputable def sI(R:Rc)(T:Tb):List Str->NS->Expr->Option MI:=λN ns e=>match e with
  | .Call (.Name g q) as [] p=>
    if g == ("range":Str) then
     if ej ns g then match as with
      | [a]=>(R.a T N ns [a]).map iR1
      | [a,b]=>(R.a T N ns [a,b]).map iR2
      | _=>none
     else none
    else if g == ("reversed":Str) then
     if ej ns g then match as with
      | [a]=>(R.a T N ns [a]).map w9
      | _=>none
     else none
    else(R.e T N ns (.Call (.Name g q) as [] p)).map dv
  | e=>(R.e T N ns e).map dv
noncomputable def sG(R:Rc)(T:Tb):List Str->NS->Expr->Option MG:=λN ns e=>match e with
  | .Name x _=>if o4 ns x then(slot N x).map gN else none
  | .Tuple es _ _=>(R.gs T N ns es).map (gTp es.length)
  | _=>none
noncomputable def sGs(R:Rc)(T:Tb):List Str->NS->List Expr->Option MGs:=λN ns es=>match es with
  | []=>some nA
  | e::r=>if notStar e then(R.g T N ns e).bind λg=>(R.gs T N ns r).map (eE g) else none
noncomputable def eIt(R:Rc)(T:Tb)(N:List Str)(ns:NS)(e:Expr):Option MI:=match e with
  | .Call (.Name g q) [a] [] p=>if g == ("enumerate":Str) then (if ej ns g then (R.a T N ns [a]).map pI else none) else (R.e T N ns (.Call (.Name g q) [a] [] p)).map dv
  | e=>(R.e T N ns e).map dv
noncomputable def J0(R:Rc)(T:Tb)(N:List Str)(ns:NS)(y:Str)(elt it:Expr)(ifs:List Expr)(scope:Scope):Expr->Option MS
 | .Name x _=>
   if o4 ns y&&(scope.kind==.function&&m3 N (yS N x) ns scope.names x&&iD it) then
    (slot N y).bind λi=>(R.i T N ns it).bind λmi=>(R.f T (yS N x) scope.names ifs).bind λmt=>(R.e T (yS N x) scope.names elt).map λme=>bC i (cq mi mt me)
   else none
 | _=>none
noncomputable def M4(R:Rc)(T:Tb)(N:List Str)(ns:NS)(y:Str)(elt:Expr)(scope:Scope):List Comprehension->Option MS
 | [c]=>if c.is_async=0 then J0 R T N ns y elt c.iter c.ifs scope c.target else none
 | _=>none
noncomputable def Jb(R:Rc)(T:Tb)(N:List Str)(ns:NS)(x:Str):Expr->Option MS
 | .ListComp elt gens scope _=>M4 R T N ns x elt scope gens
 | e=>if o4 ns x&&mZ e then(slot N x).bind λi=>(R.e T N ns e).map (bC i) else none
noncomputable def JY(R:Rc)(T:Tb)(N:List Str)(ns:NS)(e:Expr):Expr->Option MS
  | .Name x _=>Jb R T N ns x e
  | .Subscript a b _=>if mZ e&&oJ b then(R.e T N ns a).bind λma=>(R.e T N ns b).bind λmb=>(R.e T N ns e).map (jb ma mb) else none
  | .Tuple ts kt pt=>none
  | _=>none
noncomputable def sAs(R:Rc)(T:Tb)(N:List Str)(ns:NS)(e:Expr):List Expr->Option MS
 | [t]=>JY R T N ns e t
 | _=>none
noncomputable def sAu(R:Rc)(T:Tb)(N:List Str)(ns:NS)(x:Str)(e:Expr):Operator->Option MS
  | .Add=>if o4 ns x then(slot N x).bind λi=>(R.e T N ns e).map (qR i) else none
  | _=>none
noncomputable def IC(R:Rc)(T:Tb)(N:List Str)(ns:NS)(op:Operator)(e:Expr):Expr->Option MS
 | .Name x _=>sAu R T N ns x e op
 | _=>none
noncomputable def sRt(R:Rc)(T:Tb)(N:List Str)(ns:NS):Option Expr->Option MS
 | some e=>(R.e T N ns e).map bB
 | none=>some (bB (mC .non))
noncomputable def sFo(R:Rc)(T:Tb)(N:List Str)(ns:NS)(it:Expr)(body:List Stmt):Expr->Option MS
  | .Name x _=>if o4 ns x&&iD it then(slot N x).bind λi=>(R.i T N ns it).bind λmi=>(R.b T N ns body).map (ft i mi) else none
  | .Tuple ts kt pt=>if iD it then(R.g T N ns (.Tuple ts kt pt)).bind λg=>(eIt R T N ns it).bind λmi=>(R.b T N ns body).map (nv g mi) else none
  | _=>none
noncomputable def HI(R:Rc)(T:Tb)(N:List Str)(ns:NS)(t it:Expr)(body:List Stmt):List Stmt->Option MS
 | []=>sFo R T N ns it body t
 | _=>none
noncomputable def sWh(R:Rc)(T:Tb)(N:List Str)(ns:NS)(c:Expr)(body:List Stmt):List Stmt->Option MS
 | []=>(R.t T N ns c).bind λmc=>(R.b T N ns body).map (iE mc)
 | _=>none
noncomputable def sS(R:Rc)(T:Tb):List Str->NS->Stmt->Option MS:=λN ns st=>match st with
  | .Assign ts e _=>sAs R T N ns e ts
  | .AugAssign t op e _=>IC R T N ns op e t
  | .Expr e _=>if mZ e then(R.e T N ns e).map fb else none
  | .Return o _=>sRt R T N ns o
  | .If c a b _=>(R.t T N ns c).bind λmc=>(R.b T N ns a).bind λma=>(R.b T N ns b).map (sIf mc ma)
  | .For t it body els _=>HI R T N ns t it body els
  | .While c body els _=>sWh R T N ns c body els
  | .Pass _=>some b7
  | .Break _=>some KI
  | .Raise _ _ _=>some sNo
  | .Continue _=>some MB
  | _=>none
section
variable (R:Rc) (T:Tb) (N:List Str) (ns:NS)
end
noncomputable def sB(R:Rc)(T:Tb):List Str->NS->List Stmt->Option MS:=λN ns sts=>match sts with
  | []=>some b7
  | [s]=>R.s T N ns s
  | s::r=>(R.s T N ns s).bind λms=>(R.b T N ns r).map (ba ms)
noncomputable def rc:Nat->Rc
 | 0=>⟨λ_ _ _ _=>none,λ_ _ _ _ _=>none,λ_ _ _ _ _=>none,λ_ _ _ _=>none,λ_ _ _ _=>none,λ_ _ _ _ _=>none,λ_ _ _ _=>none,λ_ _ _ _=>none,λ_ _ _ _=>none,λ_ _ _ _=>none,λ_ _ _ _=>none,λ_ _ _ _=>none,λ_ _ _ _=>none⟩
 | n+1=>⟨sE (rc n),sC (rc n),sV (rc n),sO (rc n),sT (rc n),sL (rc n),sF (rc n),sA (rc n),sI (rc n),sG (rc n),sGs (rc n),sS (rc n),sB (rc n)⟩
abbrev cE(T:Tb)(n:Nat):=(rc n).e T
abbrev cC(T:Tb)(n:Nat):=(rc n).c T
abbrev cV(T:Tb)(n:Nat):=(rc n).v T
abbrev cO(T:Tb)(n:Nat):=(rc n).o T
abbrev cT(T:Tb)(n:Nat):=(rc n).t T
abbrev cL(T:Tb)(n:Nat):=(rc n).l T
abbrev cF(T:Tb)(n:Nat):=(rc n).f T
abbrev cA(T:Tb)(n:Nat):=(rc n).a T
abbrev cI(T:Tb)(n:Nat):=(rc n).i T
abbrev cG(T:Tb)(n:Nat):=(rc n).g T
abbrev cGs(T:Tb)(n:Nat):=(rc n).gs T
abbrev cS(T:Tb)(n:Nat):=(rc n).s T
abbrev cB(T:Tb)(n:Nat):=(rc n).b T
end
end _G
end
section
namespace _G
open PySem PySem.Spec _L
open PyProof.Rows hiding St
section
variable {env:Env}{e a b o:Expr}{es:List Expr}{pos q:Pos}
theorem cK(h:notStar e=true)(es:List Expr)(env:Env):starEach (e::es) env=(false,eval e env)::starEach es env:=by
 cases e <;> first |rfl |cases h
theorem uT(pos:Pos)(env:Env): ∀{es:List Expr},es.all notStar=true->(backTo pos (starEach es env)).any (·.1)=false
 | [],_=>rfl
 | e::es,h=>by
   rw[bS,aB]at h
   rw[cK h.1]
   show(false||(backTo pos (starEach es env)).any (·.1))=false
   rw[uT pos env h.2];rfl
theorem Cd(h:plainT e=true)(env:Env): ∀whole,isTrue e env whole=(do let v <- whole;standAt e.pos;holding [v] (truthy v)):=by
 intro whole
 cases e <;> first |rfl |cases h
theorem qB(h:iD e=true)(env:Env): ∀x,foldedSetIterable e env x=pure x:=by
 intro x
 cases e <;> first |rfl |cases h
theorem uY(h:iD b=true)(op:CmpOp):behindInMarks op b=false:=by
 cases b <;> first |rfl |cases h
theorem Mw(h:oJ b=true):uI b:=by
 intro o i
 cases b <;> first |rfl |cases h
theorem qy(h:baseOk o=true)(name:Str)(env:Env):attributeBase o name env (eval o env)=eval o env:=by
 cases o with
 | Call f as ks p=>
   cases f with
   | Name x p=>
     cases as with
     | nil=>cases ks with
       | nil=>cases h
       | cons k ks=>rfl
     | cons a as=>rfl
   | _=>rfl
 | _=>rfl
theorem uQ(h:mZ e=true)(t:Option Expr)(line:Nat)(env:Env):swapsWith e t line env=pure false:=by
 cases e <;> first |rfl |cases h
theorem E8(h:mZ e=true)(t:Expr)(line:Nat)(env:Env):swapsWithSole [t] e line env=pure false:=by
 unfold swapsWithSole
 exact uQ h _ _ _
theorem yg(h:notStar a=true)(q:Pos)(env:Env):((backTo q (starEach [a] env)).all (λx => !x.1)&&(backToKw q (keywordEach [] env)).all (λx=>x.1.isSome)
   && decide ([a].length+([]:List Keyword).length+(if ([]:List Keyword).isEmpty then 0 else 1)<30))=true:=by
 rw[cK h];rfl
theorem JN(h:oJ b=true)(env:Env): ∀v,assign (.Subscript a b pos) env v=(do
   let ov <- holding [v] (eval a env)
   let iv <- holding [v,ov] (eval b env)
   standAt pos
   holding [v,ov,iv] (setItem ov iv v)
   release [v,ov,iv] []):=by
 intro v
 cases b <;> first |rfl |cases h
theorem wz(h:notStar e=true)(es:List Expr)(env:Env):assignEach (e::es) env=(false,assign e env)::assignEach es env:=by
 cases e <;> first |rfl |cases h
theorem Ac(env:Env): ∀es:List Expr,es.all notStar=true->(assignEach es env).length=es.length/\(assignEach es env).findIdx? (·.1)=none
 | [],_=>⟨rfl,rfl⟩
 | e::es,h=>by
   rw[bS,aB]at h
   obtain⟨a,b⟩:=Ac env es h.2
   rw[wz h.1]
   exact⟨by simp[a],by rw[List.findIdx?_cons];simp[b]⟩
theorem zl:swappedStores [.Subscript a b pos] e env=pure none:=by
 cases e <;> rfl
end
theorem gf{T:Tb}: ∀{n:Nat}{N:List Str}{ns:NS}{es:List Expr}{m:MA},cA T n N ns es=some m->es.all notStar=true
 | 0,_,_,_,_,h=>by simp[cA,rc]at h
 | n+1,_,_,[],_,h=>rfl
 | n+1,N,ns,e::es,m,h=>by
   simp only[cA,rc,sA]at h
   split at h
   ·rename_i hs
    cases e1:(rc n).e T N ns e with
    | none=>rw[e1]at h;cases h
    | some me=>
      rw[e1]at h
      simp only[ar]at h
      cases e2:(rc n).a T N ns es with
      | none=>rw[e2]at h;cases h
      | some mr=>rw[bS,hs,gf e2];rfl
   ·cases h
theorem xG{T:Tb}: ∀{n:Nat}{N:List Str}{ns:NS}{es:List Expr}{m:MGs},cGs T n N ns es=some m->es.all notStar=true
 | 0,_,_,_,_,h=>by simp[cGs,rc]at h
 | n+1,_,_,[],_,h=>rfl
 | n+1,N,ns,e::es,m,h=>by
   simp only[cGs,rc,sGs]at h
   split at h
   ·rename_i hs
    cases e1:(rc n).g T N ns e with
    | none=>rw[e1]at h;cases h
    | some me=>
      rw[e1]at h
      simp only[ar]at h
      cases e2:(rc n).gs T N ns es with
      | none=>rw[e2]at h;cases h
      | some mr=>rw[bS,hs,xG e2];rfl
   ·cases h
theorem slot_get{N:List Str}{x:Str}{i:Nat}(h:slot N x=some i):N[i]? = some x:=by
 unfold slot at h
 obtain⟨h1,h2,_⟩:=eB.mp h
 rw[aX h1,eq_of_beq h2]
theorem iR {x:Str} (h:fH x=true):(x == ("__debug__":Str))=false/\(x == ("__classdict__":Str))=false:=by
 unfold fH at h
 rw[aB]at h
 simpa using h
theorem bind_eq{α β:Type}{o:Option α}{f:α->Option β}{b:β}(h:o.bind f=some b): ∃a,o=some a/\f a=some b:=by
 cases o with
 | none=>cases h
 | some a=>exact⟨a,rfl,h⟩
theorem map_eq{α β:Type}{o:Option α}{f:α->β}{b:β}(h:o.map f=some b): ∃a,o=some a/\f a=b:=by
 cases o with
 | none=>cases h
 | some a=>exact⟨a,rfl,bz h⟩
section
variable {M:Mo}{X:Cx}{k:Nat}{N:List Str}{ns:NS}{a b c e:Expr}{es:List Expr}{ma mb mc:ME}{mt:MT}{mas:MA}{pos p1 p2:Pos}{x:Str}
theorem M1 (S:Sc M X k N ns) (hg:ej ns "all"=true) (hm:M.mg "all"=none) (ha:PA X (e::es) (tMA M.K mas)) (he:starEach (e::es) X.env=(false,eval e X.env)::starEach es X.env) (hpl:(backTo pos (starEach es X.env)).any (·.1)=false) :
  PE X (.Call (.Name "all" p1) (e::es) [] pos) (tM M.K (mFn pe mas)):=
 PE.con (jY (S.hK▸Bc S.calm) (S.gl hg) (by rw[S.hm];exact hm) PyProof.Rows.boot_all ha (by decide) (by decide) he hpl) λ_ _ _ h=>wc ID h
theorem Gx {ts:List Expr}{kt:Nat}{pt:Pos}{a:Expr} (S:Sc M X k N ns) (hg:ej ns "enumerate"=true) (hm:M.mg "enumerate"=none) (ha:PA X [a] (tMA M.K mas)) (hs:starEach [a] X.env = [(false,eval a X.env)]):PI X (.Tuple ts kt pt) (.Call (.Name "enumerate" p1) [a] [] pos) (vA M.K (tMA M.K mas)):=
 S.hK▸Ft (S.gl hg) (by rw[S.hm];exact hm) ha hs
theorem BX (S:Sc M X k N ns) (hg:ej ns "sorted"=true) (hm:M.mg "sorted"=none) (ha:PA X (e::es) (tMA M.K mas)) (he:starEach (e::es) X.env=(false,eval e X.env)::starEach es X.env) (hpl:(backTo pos (starEach es X.env)).any (·.1)=false) :
  PE X (.Call (.Name "sorted" p1) (e::es) [] pos) (tM M.K (mFn dW mas)):=
 PE.con (jY (S.hK▸wt S.calm) (S.gl hg) (by rw[S.hm];exact hm) sH ha (by decide) (by decide) he hpl) λ_ _ _ h=>wc AK h
theorem Nj {as:Expr}{q rp:Pos} (S:Sc M X k N ns) (hg:ej ns "sorted"=true) (hm:M.mg "sorted"=none) (hg2:ej ns "set"=true) (hm2:M.mg "set"=none) (ha:PA X [as] (tMA M.K mas)) (hs:notStar as=true) :
  PE X (.Call (.Name "sorted" p1) [.Call (.Name "set" q) [as] [] rp] [] pos) (tM M.K (mFn bSS mas)):=
 PE.con (S.hK▸Lz S.calm (S.gl hg) (by rw[S.hm];exact hm) (S.gl hg2) (by rw[S.hm];exact hm2) ha (by rw[cK hs])) λ_ _ _ h=>wc KB h
theorem NK {as:Expr}{q rp:Pos} (S:Sc M X k N ns) (hg:ej ns "len"=true) (hm:M.mg "len"=none) (hg2:ej ns "set"=true) (hm2:M.mg "set"=none) (ha:PA X [as] (tMA M.K mas)) (hs:notStar as=true) :
  PE X (.Call (.Name "len" p1) [.Call (.Name "set" q) [as] [] rp] [] pos) (tM M.K (mFn bLS mas)):=
 PE.con (S.hK▸LB S.calm (S.gl hg) (by rw[S.hm];exact hm) (S.gl hg2) (by rw[S.hm];exact hm2) ha (by rw[cK hs])) λ_ _ _ h=>wc LY h
theorem Cb{op:CmpOp}{f:F2}(S:Sc M X k N ns)(h:xj op=some f): ∃r,OpR X (compareOp op) r/\OpU M.K r f:=by
 cases op <;> simp only[xj,gL,reduceCtorEq]at h <;> subst h
 ·exact⟨_,S.hK▸JW S.room.units,Kx⟩
 ·exact⟨_,S.hK▸Jm S.room.units,Kz⟩
 ·exact⟨_,Lm,uV⟩
 ·exact⟨_,Mk,uV⟩
 ·exact⟨_,KE,uV⟩
 ·exact⟨_,Nb,uV⟩
 ·exact⟨_,J1,Ln⟩
 ·exact⟨_,AI,CP⟩
 ·exact⟨_,S.hK▸JE (by have:=S.room.units;omega),Km⟩
 ·exact⟨_,S.hK▸AG (by have:=S.room.units;omega),Dp⟩
theorem Je{N':List Str}{scope:Scope}{px py spos:Pos}{iter elt:Expr}{ifs:List Expr}{wi:TI}{mi:MI}{y:Str}(S:Sc M X k N ns)(i:Nat)(hy:N[i]? = some y)(ho:o4 ns y=true)(hk:scope.kind = .function)(ok:m3 N N' ns scope.names x=true)(hi:PI X (.Name x px) iter wi)
  (ht: ∀X',Sc M X' k N' scope.names->PTs X' ifs (tMT M.K mt)) (he: ∀X',Sc M X' k N' scope.names->PE X' elt (tM M.K mc)) (hr: ∀σ H Q,tM M.K (cq mi mt mc) σ H Q->og wi (tMT M.K mt) (tM M.K mc) σ H Q)
  (hs: ∀x,foldedSetIterable iter X.env x=pure x):PS X (.Assign [.Name y py] (.ListComp elt [⟨.Name x px,iter,ifs,0⟩] scope pos) spos) (tMS M.K (bC i (cq mi mt mc))):=by
 have C:=tW S hk ok
 have e: ∃b,swapsWith (.ListComp elt [⟨.Name x px,iter,ifs,0⟩] scope pos) (some (.Name y py)) spos.line X.env=pure b:=⟨_,rfl⟩
 obtain⟨b,e⟩:=e
 cases b with
 | true=>exact PS.con (Gy (by rw[S.hN];exact S.nd) (by rw[S.hN];exact hy) (S.lo ho).1 S.calm C hi (λs₂ H₂ fp=>ht _ (vg S C s₂ H₂ fp)) (λs₂ H₂ fp=>he _ (vg S C s₂ H₂ fp)) e hs (S.lo ho).2) λ_ _ _ h=>hr _ _ _ (G8 h)
 | false=>exact G9 S i hy ho (CI S hk ok hi ht he hr hs) e
theorem HM(ha:PE X a (tM M.K ma))(hb:PE X b (tM M.K mb)):PE X (.Dict [some a] [b] pos) (tM M.K (rD ma mb)):=
 PE.con (GH (CU ha hb EO) rfl rfl (by simp) (by simp)) λ_ _ _ h=>JV h
theorem DF {as bs:Expr}{q rp:Pos} (S:Sc M X k N ns) (hg:ej ns "list"=true) (hm:M.mg "list"=none) (hg2:ej ns "range"=true) (hm2:M.mg "range"=none) (ha:PA X [as,bs] (tMA M.K mas)) (hs:notStar as=true) (hs2:notStar bs=true) :
  PE X (.Call (.Name "list" p1) [.Call (.Name "range" q) [as,bs] [] rp] [] pos) (tM M.K (jN (iR2 mas))):=
 PE.con (mN (s9 S.calm) (S.gl hg) (by rw[S.hm];exact hm) PyProof.Rows.boot_list (m4 (zZ (S.gl hg2) (by rw[S.hm];exact hm2) ha (by rw[cK hs,cK hs2];rfl) (by rw[cK hs2];rfl)) rK) (by decide) (by decide)) λ_ _ _ h=>Dm h
theorem FH {as:Expr}{q rp:Pos} (S:Sc M X k N ns) (hg:ej ns "tuple"=true) (hm:M.mg "tuple"=none) (hg2:ej ns "range"=true) (hm2:M.mg "range"=none) (ha:PA X [as] (tMA M.K mas)) (hs:notStar as=true) :
  PE X (.Call (.Name "tuple" p1) [.Call (.Name "range" q) [as] [] rp] [] pos) (tM M.K (jz (iR1 mas))):=
 PE.con (mN (mE S.calm) (S.gl hg) (by rw[S.hm];exact hm) jT (m4 (Gf (S.gl hg2) (by rw[S.hm];exact hm2) ha (by rw[cK hs];rfl)) rK) (by decide) (by decide)) λ_ _ _ h=>EI h
theorem Fm {as bs:Expr}{q rp:Pos} (S:Sc M X k N ns) (hg:ej ns "tuple"=true) (hm:M.mg "tuple"=none) (hg2:ej ns "range"=true) (hm2:M.mg "range"=none) (ha:PA X [as,bs] (tMA M.K mas)) (hs:notStar as=true) (hs2:notStar bs=true) :
  PE X (.Call (.Name "tuple" p1) [.Call (.Name "range" q) [as,bs] [] rp] [] pos) (tM M.K (jz (iR2 mas))):=
 PE.con (mN (mE S.calm) (S.gl hg) (by rw[S.hm];exact hm) jT (m4 (zZ (S.gl hg2) (by rw[S.hm];exact hm2) ha (by rw[cK hs,cK hs2];rfl) (by rw[cK hs2];rfl)) rK) (by decide) (by decide)) λ_ _ _ h=>Gr h
theorem Kl {t:Str}{c:String} (S:Sc M X k N ns) (hg:ej ns "isinstance"=true) (hm:M.mg "isinstance"=none) (hg2:ej ns t=true) (hm2:M.mg t=none) (hb:bootBuiltins t=some (.type c)) (hc:c∈kg) (hn:t≠"__name__") (hd:(t == ("__debug__":Str))=false)
  (ha:PE X a (tM M.K ma)) (hs:notStar a=true):PE X (.Call (.Name "isinstance" p1) [a,.Name t p2] [] pos) (tM M.K (m1 (nR c) ma)):=by
 refine PE.con (jY CO (S.gl hg) (by rw[S.hm];exact hm) PyProof.Rows.boot_isinstance (m4 ha (m4 (Gp (v:= .ty c) (S.gl hg2) (by rw[S.hm];exact hm2) hb rfl hn hd) rK) (cK hs _ _)) (by decide) (by decide) (cK hs _ _) rfl) λ_ _ _ h =>?_
 rw[S.hK]
 exact L4 hc h
theorem Fd (S:Sc M X k N ns) (ho:PE X b (tM M.K mb)) (ha:PA X [a] (tMA M.K mas)) (hb:baseOk b=true) (hs:notStar a=true) (hl:(p1.endLine == pos.line)=true):PE X (.Call (.Attribute b "index" p1) [a] [] pos) (tM M.K (mMT gd mb mas)):=by
 refine PE.con (t:=Iy M.K (tM M.K mb) (tMA M.K mas)) ?_ λ_ _ _ h=>Ge h
 rw[<- S.hK]
 exact Cm S.room.units ho ha (qy hb _ _) (yg hs _ _) hl (cK hs _ _) rfl
theorem HJ (S:Sc M X k N ns) (ho:PE X b (tM M.K mb)) (hb:baseOk b=true) (hl:(p1.endLine == pos.line)=true):PE X (.Call (.Attribute b "pop" p1) [] [] pos) (tM M.K (mML uU mb ah)):=by
 exact PE.con (Ig ls AA AB IA ho (qy hb _ _) hl) λ_ _ _ h=>S.hK▸KL J2 h
section
variable {X:Cx}
end
theorem Nw{st:Stmt}:PS X st (tMS M.K sNo):=by
 intro pins s σ H D I h
 obtain⟨μ,S,ρ,r,hr,er,e,kk⟩:=h
 cases e
theorem MO{K:KX}{D:Ends}{σ:St}{H:Hp}{i:Nat}{m:ME}(h:tMS K (qR i m) D σ H):L0 i (tM K m) (ipI λi j=>i+j) D σ H:=by
 obtain⟨μ,S,ρ,r,hr,er,e,kk⟩:=h
 unfold qR at e
 split at e
 ·rename_i x q
  obtain⟨y,S1,e1,e⟩:=aZ e
  obtain⟨v,hv,rv⟩:=er.get i _ q
  refine⟨v,hv,μ,S,ρ,y,S1,hr,er,e1,λμ1 vy H1 p1 k1 hr1 ry =>?_⟩
  split at e
  ·rename_i z
   cases e
   exact⟨x,z,cz rv,cz ry,kk μ1 _ H1 p1 k1 hr1 ((er.mono k1 p1).set eh i)⟩
  ·cases e
 ·cases e
theorem M8(S:Sc M X k N ns)(i:Nat)(hi:N[i]? = some x)(ho:o4 ns x=true)(he:PE X e (tM M.K ma)):PS X (.AugAssign (.Name x p1) .Add e pos) (tMS M.K (qR i ma)):=
 PS.con (Ka (by rw[S.hN];exact S.nd) (by rw[S.hN];exact hi) (S.lo ho).1 he Kh (S.lo ho).2) λ_ _ _ h=>MO h
theorem LI:PS X (.Break pos) (tMS M.K KI):=PS.con DR λD σ H h=>by
 obtain⟨μ,S,ρ,r,hr,er,e,kk⟩:=h
 cases e
 exact kk μ σ H (Pre.refl _) (br.refl _) hr er
theorem MR:PS X (.Continue pos) (tMS M.K MB):=PS.con xc λD σ H h=>by
 obtain⟨μ,S,ρ,r,hr,er,e,kk⟩:=h
 cases e
 exact kk μ σ H (Pre.refl _) (br.refl _) hr er
theorem Ia:PS X (.Pass pos) (tMS M.K b7):=PS.con Fk λD σ H h=>Cj h
theorem JK:PS X (.Return none pos) (tMS M.K (bB (mC .non))):=PS.con FC λD σ H h=>by
 obtain⟨μ,S,ρ,r,hr,er,e,kk⟩:=h
 cases e
 exact kk μ _ H (Pre.refl _) (br.refl _) hr uX
theorem HD(ha:PE X a (tM M.K ma))(hb:PE X (.BoolOp .And (b::es) pos) (tM M.K mb)):PE X (.BoolOp .And (a::b::es) pos) (tM M.K (iH ma mb)):=PE.con (HQ ha hb) λ_ _ _ h=>J7 h
theorem Me(ha:PE X a (tM M.K ma))(hb:PE X (.BoolOp .Or (b::es) pos) (tM M.K mb)):PE X (.BoolOp .Or (a::b::es) pos) (tM M.K (mOr ma mb)):=PE.con (LQ ha hb) λ_ _ _ h=>K9 h
theorem Js(ha:PE X a (tM M.K ma)):PE X (.UnaryOp .Not a pos) (tM M.K (m1 zc ma)):=PE.con (Jx ha) λ_ _ _ h=>J5 h
end
end _G
end
section
namespace _G
open PySem PySem.Spec _L
open PyProof.Rows hiding St
section
variable {M:Mo}{cl:Nat->Addr}{k n fu:Nat}{N:List Str}{ns:NS}{X:Cx}{E:XK}
end
end _G
end
section
namespace _G
open PySem PySem.Spec _L
open PyProof.Rows hiding St
structure TOk(M:Mo)(T:Tb)(k:Nat):Prop where
 D: ∀x mf,T.D.lookup x=some mf -> ∃k' ps,k'<=k/\Fn M x k' ps mf
 C: ∀x u,T.C.lookup x=some u -> ∃g v,M.mg x=some g/\RelV v g /\ ∀H μ,RU H μ u v
 B: ∀x∈j5,M.mg x=none
 L: ∀x q,T.L.lookup x=some q -> ∃k' ps,k'<=k/\Lam M q.1 k' ps q.2
 mkr:T.mkr=true -> ∃c q P,M.mkr=some (c,q)/\Mkr M c P (q++T.Z.nm)
 Z: ∀x r,T.Z.R.lookup x=some r -> ∃k' ps,k'<=k/\FnX M T.Z.cl x k' ps r
noncomputable def GOk(M:Mo)(T:Tb)(k:Nat):Prop:=TOk M T k/\(T.mkr=true -> ∃j,j+2<=k/\(∀x F,T.H.lookup x=some F -> ∃k' ps,k'<=j+1/\FnC M x k' ps F)/\(∀x rz,T.Z.F.lookup x=some rz -> ∃k',k'<=j+1/\FnR M T.Z.cl x k' rz) /\ ∀caps capv cds base,kj M.mg base->TOk (M.to caps capv cds base) T.bare j)
noncomputable def IOk(M:Mo)(X:Cx)(tg it:Expr)(mi:MI):Prop:= ∃wi,PI X tg it wi /\
 (∀i ms D σ H,tMS M.K (ft i mi ms) D σ H->sR wi (iO i) (tMS M.K ms) D σ H) /\
 (∀mt mc σ H Q,tM M.K (cq mi mt mc) σ H Q->og wi (tMT M.K mt) (tM M.K mc) σ H Q)
structure Snd(M:Mo)(T:Tb)(k n:Nat):Prop where
 e: ∀N ns e m,cE T n N ns e=some m -> ∀X,Sc M X k N ns->PE X e (tM M.K m)
 c: ∀N ns g as m,cC T n N ns g as=some m->ej ns g=true->fH g=true -> ∀a r,as=a::r -> ∀X p1 pos,Sc M X k N ns->PE X (.Call (.Name g p1) as [] pos) (tM M.K m)
 v: ∀N ns g as m,cV T n N ns g as=some m -> ∀a r,as=a::r -> ∀X p1 pos,Sc M X k N ns->PE X (.Call (.Name g p1) as [] pos) (tM M.K m)
 v0: ∀N ns g m,cV T n N ns g []≠some m
 o: ∀N ns o m,cO T n N ns o=some m -> ∀X,Sc M X k N ns->lG M X o m
 t: ∀N ns e m,cT T n N ns e=some m -> ∀X,Sc M X k N ns->PT X e (tMT M.K m)
 l: ∀N ns b vs m pos,cL T n N ns b vs=some m -> ∀X,Sc M X k N ns->PW X (.BoolOp (if b then .And else .Or) vs pos) (tMT M.K m)
 f: ∀N ns vs m,cF T n N ns vs=some m -> ∀X,Sc M X k N ns->PTs X vs (tMT M.K m)
 a: ∀N ns es m,cA T n N ns es=some m -> ∀X,Sc M X k N ns->PA X es (tMA M.K m)
 i: ∀N ns tg it m,cI T n N ns it=some m -> ∀X,Sc M X k N ns->IOk M X tg it m
 g: ∀N ns e m,cG T n N ns e=some m -> ∀X,Sc M X k N ns->PG X e (tG M.K m)
 gs: ∀N ns es m,cGs T n N ns es=some m -> ∀X,Sc M X k N ns->PGs X es (tGs M.K m)
 s: ∀N ns st m,cS T n N ns st=some m -> ∀X,Sc M X k N ns->PS X st (tMS M.K m)
 b: ∀N ns sts m,cB T n N ns sts=some m -> ∀X,Sc M X k N ns->PSs X sts (tMS M.K m)
theorem fc{α:Type}{x:α}{P:Prop}(h:(none:Option α)=some x):P:=by cases h
theorem Nk(M:Mo)(T:Tb)(k:Nat):Snd M T k 0:=
 ⟨λ_ _ _ _ h=>fc h,λ_ _ _ _ _ h=>fc h,λ_ _ _ _ _ h=>fc h,λ_ _ _ _ h=>fc h,λ_ _ _ _ h=>fc h,λ_ _ _ _ h=>fc h,λ_ _ _ _ _ _ h=>fc h,λ_ _ _ _ h=>fc h,λ_ _ _ _ h=>fc h,λ_ _ _ _ _ h=>fc h,λ_ _ _ _ h=>fc h,λ_ _ _ _ h=>fc h,λ_ _ _ _ h=>fc h,λ_ _ _ _ h=>fc h⟩
section
variable {M:Mo}{T:Tb}{k n:Nat}
theorem JR{N:List Str}{ns:NS}{X:Cx}{a b:Expr}{ma mb:ME}{op:Operator}{f:F2}{pos:Pos}(h:Im op=some f)(S:Sc M X k N ns)(ha:PE X a (tM M.K ma))(hb:PE X b (tM M.K mb)):PE X (.BinOp a op b pos) (tM M.K (m2 f ma mb)):=by
 cases op <;> simp only[Im,gL,reduceCtorEq]at h <;> subst h
 ·exact Mr S ha hb
 ·exact KM ha hb
 ·exact Ls S ha hb
 ·exact Mu ha hb
 ·exact KA ha hb
 ·exact MP ha hb
theorem J3{N:List Str}{ns:NS}{X:Cx}{a b:Expr}{ma mb:ME}{op:CmpOp}{f:F2}{pos:Pos}(h:xj op=some f)(S:Sc M X k N ns)(ha:PE X a (tM M.K ma))(hb:PE X b (tM M.K mb))(hs:iD b=true):
  PE X (.Compare a [op] [b] pos) (tM M.K (m2 f ma mb))/\PT X (.Compare a [op] [b] pos) (tMT M.K (cOf (m2 f ma mb))):=by
 obtain⟨r,ho,ou⟩:=Cb S h
 exact⟨PE.con (Gv ho ha hb (uY hs _)) λ_ _ _ h=>uS ou h,PT.con (FU ho ha hb (uY hs _)) λ_ _ _ h=>zg (λ_ q=>uS ou q) h⟩
theorem DW{N:List Str}{ns:NS}{X:Cx}{a b c:Expr}{ma mb mc:ME}{op op':CmpOp}{f g:F2}{pos:Pos}(h:xj op=some f)(h':xj op'=some g)(S:Sc M X k N ns)(ha:PE X a (tM M.K ma))(hb:PE X b (tM M.K mb))(hc:PE X c (tM M.K mc))(hs:iD c=true):
  PE X (.Compare a [op,op'] [b,c] pos) (tM M.K (mCh f g ma mb mc))/\PT X (.Compare a [op,op'] [b,c] pos) (tMT M.K (cOf (mCh f g ma mb mc))):=by
 obtain⟨r,ho,ou⟩:=Cb S h
 obtain⟨r',ho',ou'⟩:=Cb S h'
 have hm:lastMarks [op,op'] [b,c]=false:=uY hs _
 exact⟨PE.con (DV ho ho' ha hb hc hm) λ_ _ _ h=>Ar ou ou' h,PT.con (DB ho ho' ha hb hc hm) λ_ _ _ h=>zg (λ_ q=>Ar ou ou' q) h⟩
theorem Jh {t:Str}{c:String} (h:Dr t=some c):bootBuiltins t=some (.type c)/\c∈kg/\t≠"__name__"/\(t == ("__debug__":Str))=false/\t∈j5:=by
 unfold Dr at h
 repeat' split at h
 all_goals first
  | cases h
    done
  | (rename_i q
     cases h
     rw[eq_of_beq q]
     exact⟨by decide +kernel,by decide,by decide +kernel,by decide +kernel,by decide +kernel⟩)
theorem GO{N:List Str}{ns:NS}{X:Cx}{g:Str}{e:Expr}{es:List Expr}{mas:MA}{p1 pos:Pos}{mf:MF}(O:TOk M T k)(h:Io g=some mf)(hg:ej ns g=true)(S:Sc M X k N ns)(ha:PA X (e::es) (tMA M.K mas))(hs:(e::es).all notStar=true):
  PE X (.Call (.Name g p1) (e::es) [] pos) (tM M.K (mFn mf mas)):=by
 rw[bS,aB]at hs
 have he:=cK hs.1 es X.env
 have hp:=uT pos X.env hs.2
 unfold Io at h
 repeat' split at h
 all_goals first
  | (cases h;done)
  | (rename_i q
     cases h
     rw[eq_of_beq q]at hg ⊢
     first
      | exact Cr S hg (O.B _ (by decide +kernel)) ha he hp
      | exact FJ S hg (O.B _ (by decide +kernel)) ha he hp
      | exact MK S hg (O.B _ (by decide +kernel)) ha he hp
      | exact KU S hg (O.B _ (by decide +kernel)) ha he hp
      | exact M1 S hg (O.B _ (by decide +kernel)) ha he hp
      | exact BX S hg (O.B _ (by decide +kernel)) ha he hp)
theorem FY{N:List Str}{ns:NS}{X:Cx}{name:Str}{a o:Expr}{mo m:ME}{mas:MA}{p1 pos:Pos}(h:Cf name mo mas=some m)(S:Sc M X k N ns)(ho:PE X o (tM M.K mo))(ha:PA X [a] (tMA M.K mas))(hb:baseOk o=true)(hl:(p1.endLine==pos.line)=true)(hs:notStar a=true):
  PE X (.Call (.Attribute o name p1) [a] [] pos) (tM M.K m):=by
 unfold Cf at h
 repeat' split at h
 all_goals first
  | (cases h;done)
  | (rename_i q
     cases h
     rw[eq_of_beq q]
     first
      | exact DD S ho ha (qy hb _ _) (yg hs _ _) hl (cK hs _ _) rfl
      | exact Fc S ho ha (qy hb _ _) (yg hs _ _) hl (cK hs _ _) rfl
      | exact Fd S ho ha hb hs hl)
end
end _G
end
section
namespace _G
open PySem PySem.Spec _L
open PyProof.Rows hiding St
section
variable {M:Mo}{T:Tb}{k n:Nat}
theorem GOk.of(O:TOk M T k)(h:T.mkr=false):GOk M T k:=⟨O,λz=>by rw[h]at z;cases z⟩
theorem Kr(O:TOk M T k)(R:Snd M T k n): ∀N ns g as m,cV T (n+1) N ns g as=some m -> ∀a r,as=a::r -> ∀X p1 pos,Sc M X k N ns->PE X (.Call (.Name g p1) as [] pos) (tM M.K m):=by
 intro N ns g as m h a r e X p1 pos S
 subst e
 simp only[cV,rc,sV]at h
 split at h
 ·rename_i hs
  rw[aB]at hs
  obtain⟨q,e1,h⟩:=bind_eq h
  obtain⟨i,e2,h⟩:=bind_eq h
  obtain⟨mas,e3,rfl⟩:=map_eq h
  obtain⟨k',ps,hk,F⟩:=O.L _ _ e1
  have hst:=gf e3
  rw[bS,aB]at hst
  obtain⟨n1,n2⟩:=iR hs.2
  exact FS S F hk i (slot_get e2) hs.1 (R.a _ _ _ _ e3 X S) n1 n2 (cK hst.1 _ _) (uT _ _ hst.2)
 ·cases h
section
variable {N:List Str}{ns:NS}{X:Cx}{m:ME}
theorem Fw{c:Const}{j}{pos:Pos}(h:Lk c=some m):PE X (.Constant c j pos) (tM M.K m):=by
 cases c <;> first | (cases h;done) |skip
 all_goals cases h
 all_goals first |exact La |exact NR |exact KG |exact PE.con Jn λ_ _ _ q=>r_c (λ_ _=>by simp only[RU]) q
theorem Jr(R:Snd M T k n){op:UnaryOp}{a:Expr}{pos:Pos}(h:eUn (rc n) T N ns a op=some m)(S:Sc M X k N ns):PE X (.UnaryOp op a pos) (tM M.K m):=by
 cases op <;> first | (cases h;done) |skip
 all_goals obtain⟨ma,e1,rfl⟩:=map_eq h
 all_goals first |exact LZ (R.e _ _ _ _ e1 X S) |exact Js (R.e _ _ _ _ e1 X S)
theorem HC(R:Snd M T k n){op:BoolOp}{vs:List Expr}{p:Pos}(h:eBo (rc n) T N ns op p vs=some m)(S:Sc M X k N ns):PE X (.BoolOp op vs p) (tM M.K m):=by
 unfold eBo at h
 split at h
 ·cases h
 ·exact Jp (R.e _ _ _ _ h X S)
 ·obtain⟨ma,e1,h⟩:=bind_eq h
  cases op
  ·obtain⟨mb,e2,rfl⟩:=map_eq h
   exact HD (R.e _ _ _ _ e1 X S) (R.e _ _ _ _ e2 X S)
  ·obtain⟨mb,e2,rfl⟩:=map_eq h
   exact Me (R.e _ _ _ _ e1 X S) (R.e _ _ _ _ e2 X S)
theorem CQ(R:Snd M T k n){a:Expr}{ops:List CmpOp}{bs:List Expr}{pos:Pos}(h:eCm (rc n) T N ns a ops bs=some m)(S:Sc M X k N ns):PE X (.Compare a ops bs pos) (tM M.K m)/\PT X (.Compare a ops bs pos) (tMT M.K (cOf m)):=by
 unfold eCm at h
 split at h
 ·split at h
  ·rename_i hs
   obtain⟨ma,e1,h⟩:=bind_eq h
   obtain⟨mb,e2,h⟩:=bind_eq h
   obtain⟨f,e3,rfl⟩:=map_eq h
   exact J3 e3 S (R.e _ _ _ _ e1 X S) (R.e _ _ _ _ e2 X S) hs
  ·cases h
 ·split at h
  ·rename_i hs
   rw[aB]at hs
   obtain⟨ma,e1,h⟩:=bind_eq h
   obtain⟨mb,e2,h⟩:=bind_eq h
   obtain⟨mc,e3,h⟩:=bind_eq h
   obtain⟨f,e4,h⟩:=bind_eq h
   obtain⟨g,e5,rfl⟩:=map_eq h
   exact DW e4 e5 S (R.e _ _ _ _ e1 X S) (R.e _ _ _ _ e2 X S) (R.e _ _ _ _ e3 X S) hs.2
  ·cases h
 ·cases h
theorem IQ(R:Snd M T k n){a b:Expr}{pos:Pos}(h:eSb (rc n) T N ns a b=some m)(S:Sc M X k N ns):PE X (.Subscript a b pos) (tM M.K m):=by
 unfold eSb at h
 split at h
 ·rename_i lo hi st p
  cases st with
  | none=>
    obtain⟨ma,e1,h⟩:=bind_eq h
    obtain⟨ml,e2,h⟩:=bind_eq h
    obtain⟨mh,e3,rfl⟩:=map_eq h
    exact Gs S (R.e _ _ _ _ e1 X S) (R.o _ _ _ _ e2 X S) (R.o _ _ _ _ e3 X S)
  | some s=>
    cases h
 ·split at h
  ·rename_i hs
   obtain⟨ma,e1,h⟩:=bind_eq h
   obtain⟨mb,e2,rfl⟩:=map_eq h
   exact NV S (R.e _ _ _ _ e1 X S) (R.e _ _ _ _ e2 X S) (Mw hs)
  ·cases h
theorem Jf(R:Snd M T k n){ks:List (Option Expr)}{vs:List Expr}{pos:Pos}(h:eDi (rc n) T N ns ks vs=some m)(S:Sc M X k N ns):PE X (.Dict ks vs pos) (tM M.K m):=by
 unfold eDi at h
 split at h
 ·obtain⟨ma,e1,h⟩:=bind_eq h
  obtain⟨mb,e2,rfl⟩:=map_eq h
  exact HM (R.e _ _ _ _ e1 X S) (R.e _ _ _ _ e2 X S)
 ·cases h
theorem Jj(O:TOk M T k)(R:Snd M T k n){elt it:Expr}{ifs:List Expr}{scope:Scope}{x:Str}{px pos:Pos}(h:eLn (rc n) T N ns elt it ifs scope x=some m)(S:Sc M X k N ns)(hk:scope.kind = .function)(ok:m3 N (yS N x) ns scope.names x=true)(hs:iD it=true):
  PE X (.ListComp elt [⟨.Name x px,it,ifs,0⟩] scope pos) (tM M.K m):=by
 unfold eLn at h
 obtain⟨mi,e1,h⟩:=bind_eq h
 obtain⟨mt,e2,h⟩:=bind_eq h
 obtain⟨mc,e3,rfl⟩:=map_eq h
 obtain⟨wi,h1,_,h3⟩:=R.i _ _ _ _ _ e1 X S
 exact CI S hk ok h1 (λX' S'=>R.f _ _ _ _ e2 X' S') (λX' S'=>R.e _ _ _ _ e3 X' S') (h3 mt mc) (qB hs _)
theorem Jl(O:TOk M T k)(R:Snd M T k n){elt:Expr}{scope:Scope}{gens:List Comprehension}{pos:Pos}(h:eLc (rc n) T N ns elt scope gens=some m)(S:Sc M X k N ns):PE X (.ListComp elt gens scope pos) (tM M.K m):=by
 unfold eLc at h
 split at h
 rotate_left
 ·cases h
 rename_i c
 obtain⟨tg,it,ifs,ia⟩:=c
 split at h
 rotate_left
 ·cases h
 rename_i h0
 have h0':ia=0:=h0
 subst h0'
 have h:eLt (rc n) T N ns elt it ifs scope tg=some m:=h
 unfold eLt at h
 split at h
 ·split at h
  ·rename_i hs
   rw[aB,aB]at hs
   exact Jj O R h S (eq_of_beq hs.1.1) hs.1.2 hs.2
  ·cases h
 ·cases h
theorem Ke (O:TOk M T k) (R:Snd M T k n) {g:Str}{rs:List Expr}{p1 q rp pos:Pos} (h:eRg (rc n) T N ns g rs=some m) (S:Sc M X k N ns) (hl:g="list"\/g="tuple") (hg:ej ns g=true) (hr:ej ns "range"=true) :
  PE X (.Call (.Name g p1) [.Call (.Name "range" q) rs [] rp] [] pos) (tM M.K m):=by
 unfold eRg at h
 split at h
 ·rcases hl with rfl |rfl
  ·rw[if_pos (by decide +kernel)]at h
   cases h
  ·rw[if_neg (by decide +kernel)]at h
   obtain⟨ma,e1,rfl⟩:=map_eq h
   have hst:=gf e1
   simp only[bS,fj,eN]at hst
   exact FH S hg (O.B _ (by decide +kernel)) hr (O.B _ (by decide +kernel)) (R.a _ _ _ _ e1 X S) hst
 ·rcases hl with rfl |rfl
  ·rw[if_pos (by decide +kernel)]at h
   obtain⟨ma,e1,rfl⟩:=map_eq h
   have hst:=gf e1
   simp only[bS,fj,eN,aB]at hst
   exact DF S hg (O.B _ (by decide +kernel)) hr (O.B _ (by decide +kernel)) (R.a _ _ _ _ e1 X S) hst.1 hst.2
  ·rw[if_neg (by decide +kernel)]at h
   obtain⟨ma,e1,rfl⟩:=map_eq h
   have hst:=gf e1
   simp only[bS,fj,eN,aB]at hst
   exact Fm S hg (O.B _ (by decide +kernel)) hr (O.B _ (by decide +kernel)) (R.a _ _ _ _ e1 X S) hst.1 hst.2
 ·cases h
theorem HL(Gk:GOk M T k)(R:Snd M T k n)(RA: ∀M T k,GOk M T k->Snd M T k n){g:Str}{as:List Expr}{p1 pos:Pos}(h:eCf (rc n) T N ns g as=some m)(S:Sc M X k N ns)(hg:ej ns g=true)(hn:fH g=true):
  PE X (.Call (.Name g p1) as [] pos) (tM M.K m):=by
 have O:=Gk.1
 unfold eCf at h
 split at h
 ·obtain⟨mf,e1,rfl⟩:=map_eq h
  obtain⟨k',ps,hk,F⟩:=O.D _ _ e1
  exact Ff S F hk hg (iR hn).1
 ·unfold eC1 at h
  split at h
  ·split at h
   ·rename_i hl
    rw[aB,vT]at hl
    split at h
    ·rename_i hr
     rw[eq_of_beq hl.2]at hr ⊢
     exact Ke O R h S (hl.1.imp eq_of_beq eq_of_beq) hg hr
    ·cases h
   ·split at h
    ·rename_i hl
     rw[aB]at hl
     split at h
     ·rename_i hr
      rw[eq_of_beq hl.2]at hr ⊢
      rw[eq_of_beq hl.1]at hg ⊢
      unfold eSS at h
      split at h
      ·obtain⟨ma,e1,rfl⟩:=map_eq h
       have hst:=gf e1
       simp only[bS,fj,eN]at hst
       exact Nj S hg (O.B _ (by decide +kernel)) hr (O.B _ (by decide +kernel)) (R.a _ _ _ _ e1 X S) hst
      ·cases h
     ·cases h
    ·split at h
     ·rename_i hl
      rw[aB]at hl
      split at h
      ·rename_i hr
       rw[eq_of_beq hl.2]at hr ⊢
       rw[eq_of_beq hl.1]at hg ⊢
       unfold eLS at h
       split at h
       ·obtain⟨ma,e1,rfl⟩:=map_eq h
        have hst:=gf e1
        simp only[bS,fj,eN]at hst
        exact NK S hg (O.B _ (by decide +kernel)) hr (O.B _ (by decide +kernel)) (R.a _ _ _ _ e1 X S) hst
       ·cases h
      ·cases h
     ·exact R.c _ _ _ _ _ h hg hn _ _ rfl X _ _ S
  ·exact R.c _ _ _ _ _ h hg hn _ _ rfl X _ _ S
 ·unfold eC2 at h
  split at h
  ·unfold eIs at h
   split at h
   ·rename_i hl
    split at h
    ·rename_i ht
     obtain⟨c,e1,h⟩:=bind_eq h
     obtain⟨ma,e2,rfl⟩:=map_eq h
     obtain⟨c1,c2,c3,c4,c5⟩:=Jh e1
     rw[aB]at ht
     rw[eq_of_beq hl]at hg ⊢
     exact Kl S hg (O.B _ (by decide +kernel)) ht.1 (O.B _ c5) c1 c2 c3 c4 (R.e _ _ _ _ e2 X S) ht.2
    ·cases h
   ·exact R.c _ _ _ _ _ h hg hn _ _ rfl X _ _ S
  ·cases h
  ·exact R.c _ _ _ _ _ h hg hn _ _ rfl X _ _ S
 ·exact R.c _ _ _ _ _ h hg hn _ _ rfl X _ _ S
theorem II(R:Snd M T k n){o:Expr}{name:Str}{p q:Pos}{as:List Expr}(h:eMe (rc n) T N ns o name p q as=some m)(S:Sc M X k N ns):PE X (.Call (.Attribute o name p) as [] q) (tM M.K m):=by
 unfold eMe at h
 split at h
 ·split at h
  ·rename_i hs
   rw[aB,aB]at hs
   obtain⟨mo,e1,rfl⟩:=map_eq h
   rw[eq_of_beq hs.2]
   exact HJ S (R.e _ _ _ _ e1 X S) hs.1.1 hs.1.2
  ·cases h
 ·split at h
  ·rename_i hs
   rw[aB,aB]at hs
   obtain⟨mo,e1,h⟩:=bind_eq h
   obtain⟨mas,e2,h⟩:=bind_eq h
   exact FY h S (R.e _ _ _ _ e1 X S) (R.a _ _ _ _ e2 X S) hs.1.1 hs.1.2 hs.2
  ·cases h
 ·cases h
end
theorem Kq(Gk:GOk M T k)(R:Snd M T k n)(RA: ∀M T k,GOk M T k->Snd M T k n): ∀N ns e m,cE T (n+1) N ns e=some m -> ∀X,Sc M X k N ns->PE X e (tM M.K m):=by
 have O:=Gk.1
 intro N ns e m h X S
 have h:sE (rc n) T N ns e=some m:=h
 cases e with
 | Name x p=>
   have h:(if fH x then(if sZ ns x then(slot N x).map ae else if ej ns x then(T.C.lookup x).map mC else none) else none)=some m:=h
   split at h
   ·rename_i hn
    obtain⟨n1,n2⟩:=iR hn
    split at h
    ·rename_i hv
     obtain⟨i,e1,rfl⟩:=map_eq h
     exact MM S i (slot_get e1) hv n1 n2
    ·split at h
     ·rename_i hg
      obtain⟨u,e1,rfl⟩:=map_eq h
      obtain⟨g,v,hm,r,hv⟩:=O.C _ _ e1
      exact HS S hg hm r hv n1
     ·cases h
   ·cases h
 | Constant c j p=>exact Fw h
 | BinOp a op b p=>
   obtain⟨ma,e1,h⟩:=bind_eq (show((rc n).e T N ns a).bind _=some m from h)
   obtain⟨mb,e2,h⟩:=bind_eq h
   obtain⟨f,e3,rfl⟩:=map_eq h
   exact JR e3 S (R.e _ _ _ _ e1 X S) (R.e _ _ _ _ e2 X S)
 | UnaryOp op a p=>exact Jr R h S
 | BoolOp op vs p=>exact HC R h S
 | Compare a ops bs p=>exact(CQ R h S).1
 | IfExp c a b p=>
   obtain⟨mc,e1,h⟩:=bind_eq (show((rc n).t T N ns c).bind _=some m from h)
   obtain⟨ma,e2,h⟩:=bind_eq h
   obtain⟨mb,e3,rfl⟩:=map_eq h
   exact MW (R.t _ _ _ _ e1 X S) (R.e _ _ _ _ e2 X S) (R.e _ _ _ _ e3 X S)
 | Subscript a b p=>exact IQ R h S
 | Dict ks vs p=>exact Jf R h S
 | Tuple es j p=>
   obtain⟨ma,e1,rfl⟩:=map_eq (show((rc n).a T N ns es).map dg=some m from h)
   exact Mc (R.a _ _ _ _ e1 X S)
 | List es p=>
   obtain⟨ma,e1,rfl⟩:=map_eq (show((rc n).a T N ns es).map fA=some m from h)
   exact Lu (R.a _ _ _ _ e1 X S)
 | ListComp elt gens scope p=>exact Jl Gk.1 R h S
 | Call f as kws q=>
   have h:(if kws.isEmpty then eCa (rc n) T N ns as q f else none)=some m:=h
   cases kws with
   | cons w ws=>cases h
   | nil=>
     have h:eCa (rc n) T N ns as q f=some m:=h
     unfold eCa at h
     split at h
     ·split at h
      ·rename_i hs
       rw[aB]at hs
       exact HL Gk R RA h S hs.1 hs.2
      ·cases as with
       | nil=>exact absurd h (R.v0 _ _ _ _)
       | cons a r=>exact R.v _ _ _ _ _ h _ _ rfl X _ _ S
     ·exact II R h S
     ·cases h
 | _=>cases h
theorem Ky(O:TOk M T k)(R:Snd M T k n): ∀N ns g as m,cC T (n+1) N ns g as=some m->ej ns g=true->fH g=true -> ∀a r,as=a::r -> ∀X p1 pos,Sc M X k N ns->PE X (.Call (.Name g p1) as [] pos) (tM M.K m):=by
 intro N ns g as m h hg hn a r e X p1 pos S
 subst e
 simp only[cC,rc,sC]at h
 obtain⟨mas,e1,h⟩:=bind_eq h
 have hst:=gf e1
 split at h
 ·rename_i mf hb
  cases h
  exact GO O hb hg S (R.a _ _ _ _ e1 X S) hst
 ·obtain⟨mf,e2,rfl⟩:=map_eq h
  obtain⟨k',ps,hk,F⟩:=O.D _ _ e2
  rw[bS,aB]at hst
  exact IM S F hk hg (R.a _ _ _ _ e1 X S) (iR hn).1 (cK hst.1 _ _) (uT _ _ hst.2)
theorem KW(R:Snd M T k n): ∀N ns o m,cO T (n+1) N ns o=some m -> ∀X,Sc M X k N ns->lG M X o m:=by
 intro N ns o m h X S
 simp only[cO,rc,sO]at h
 split at h
 ·cases h;exact .none
 ·obtain⟨me,e1,rfl⟩:=map_eq h
  exact .some (R.e _ _ _ _ e1 X S)
theorem Ll(R:Snd M T k n): ∀N ns e m,cT T (n+1) N ns e=some m -> ∀X,Sc M X k N ns->PT X e (tMT M.K m):=by
 intro N ns e m h X S
 simp only[cT,rc,sT]at h
 split at h
 ·obtain⟨ma,e1,rfl⟩:=map_eq h
  exact LH (R.t _ _ _ _ e1 X S)
 ·exact PW.pt (R.l _ _ true _ _ _ h X S)
 ·exact PW.pt (R.l _ _ false _ _ _ h X S)
 ·obtain⟨mc,e1,rfl⟩:=map_eq h
  exact(CQ R e1 S).2
 ·split at h
  ·rename_i hs
   obtain⟨ma,e1,rfl⟩:=map_eq h
   exact KR (R.e _ _ _ _ e1 X S) (Cd hs _)
  ·cases h
theorem Mj(R:Snd M T k n): ∀N ns b vs m pos,cL T (n+1) N ns b vs=some m -> ∀X,Sc M X k N ns->PW X (.BoolOp (if b then .And else .Or) vs pos) (tMT M.K m):=by
 intro N ns b vs m pos h X S
 simp only[cL,rc,sL]at h
 split at h
 ·cases h
 ·cases b
  ·exact Lq (R.t _ _ _ _ h X S)
  ·exact JO (R.t _ _ _ _ h X S)
 ·rename_i a r hr
  obtain⟨ma,e1,h⟩:=bind_eq h
  obtain⟨mr,e2,rfl⟩:=map_eq h
  cases r with
  | nil=>exact(hr rfl).elim
  | cons c r=>
    have h2:=R.l _ _ b _ _ pos e2 X S
    cases b
    ·exact Nq (R.t _ _ _ _ e1 X S) h2
    ·exact Mi (R.t _ _ _ _ e1 X S) h2
theorem Ld(R:Snd M T k n): ∀N ns vs m,cF T (n+1) N ns vs=some m -> ∀X,Sc M X k N ns->PTs X vs (tMT M.K m):=by
 intro N ns vs m h X S
 simp only[cF,rc,sF]at h
 split at h
 ·cases h;exact IS
 ·exact Mg (R.t _ _ _ _ h X S)
 ·cases h
theorem LR(R:Snd M T k n): ∀N ns es m,cA T (n+1) N ns es=some m -> ∀X,Sc M X k N ns->PA X es (tMA M.K m):=by
 intro N ns es m h X S
 simp only[cA,rc,sA]at h
 split at h
 ·cases h;exact LG
 ·split at h
  ·rename_i hs
   obtain⟨ma,e1,h⟩:=bind_eq h
   obtain⟨mr,e2,rfl⟩:=map_eq h
   exact JM (R.e _ _ _ _ e1 X S) (R.a _ _ _ _ e2 X S) (cK hs _ _)
  ·cases h
theorem Cw{N:List Str}{ns:NS}{X:Cx}{tg e:Expr}{m:ME}(S:Sc M X k N ns)(h:PE X e (tM M.K m)):IOk M X tg e (dv m):=
 ⟨_,IT S h,λ_ _ _ _ _ q=>N1 q,λ_ _ _ _ _ q=>N0 q⟩
theorem Ml(O:TOk M T k)(R:Snd M T k n): ∀N ns tg it m,cI T (n+1) N ns it=some m -> ∀X,Sc M X k N ns->IOk M X tg it m:=by
 intro N ns tg it m h X S
 simp only[cI,rc,sI]at h
 split at h
 ·split at h
  ·rename_i hr
   split at h
   ·rename_i hg
    rw[eq_of_beq hr]at hg ⊢
    split at h
    ·obtain⟨ma,e1,rfl⟩:=map_eq h
     have hst:=gf e1
     simp only[bS,fj,eN]at hst
     exact⟨_,K5 S hg (O.B _ (by decide +kernel)) (R.a _ _ _ _ e1 X S) (cK hst _ _),λ_ _ _ _ _ q=>L3 q,λ_ _ _ _ _ q=>MX q⟩
    ·obtain⟨ma,e1,rfl⟩:=map_eq h
     have hst:=gf e1
     simp only[bS,fj,eN,aB]at hst
     exact⟨_,K8 S hg (O.B _ (by decide +kernel)) (R.a _ _ _ _ e1 X S) (by rw[cK hst.1,cK hst.2];rfl) (by rw[cK hst.2];rfl),λ_ _ _ _ _ q=>Le q,λ_ _ _ _ _ q=>KQ q⟩
    ·cases h
   ·cases h
  ·split at h
   ·rename_i hr
    split at h
    ·rename_i hg
     rw[eq_of_beq hr]at hg ⊢
     split at h
     ·obtain⟨ma,e1,rfl⟩:=map_eq h
      have hst:=gf e1
      simp only[bS,fj,eN]at hst
      exact⟨_,IX S hg (O.B _ (by decide +kernel)) (R.a _ _ _ _ e1 X S) (cK hst _ _),λ_ _ _ _ _ q=>HP q,λ_ _ _ _ _ q=>JL q⟩
     ·cases h
    ·cases h
   ·obtain⟨ma,e1,rfl⟩:=map_eq h
    exact Cw S (R.e _ _ _ _ e1 X S)
 ·obtain⟨ma,e1,rfl⟩:=map_eq h
  exact Cw S (R.e _ _ _ _ e1 X S)
theorem MC(R:Snd M T k n): ∀N ns e m,cG T (n+1) N ns e=some m -> ∀X,Sc M X k N ns->PG X e (tG M.K m):=by
 intro N ns e m h X S
 simp only[cG,rc,sG]at h
 split at h
 ·split at h
  ·rename_i hs
   obtain⟨i,e1,rfl⟩:=map_eq h
   exact PG.con (zU (by rw[S.hN];exact S.nd) (by rw[S.hN];exact slot_get e1) (S.lo hs).1 (S.lo hs).2) λ_ _ _ _ q=>ND q
  ·cases h
 ·obtain⟨gs,e1,rfl⟩:=map_eq h
  obtain⟨h1,h2⟩:=Ac X.env _ (xG e1)
  refine PG.con (HW S.calm (R.gs _ _ _ _ e1 X S) h1 h2) λ_ _ _ _ q =>?_
  rw[S.hK]
  exact MZ q
 ·cases h
theorem Jo(R:Snd M T k n): ∀N ns es m,cGs T (n+1) N ns es=some m -> ∀X,Sc M X k N ns->PGs X es (tGs M.K m):=by
 intro N ns es m h X S
 simp only[cGs,rc,sGs]at h
 split at h
 ·cases h;exact PGs.con Gq λ_ _ _ _ q=>J4 q
 ·split at h
  ·rename_i hs
   obtain⟨g,e1,h⟩:=bind_eq h
   obtain⟨gs,e2,rfl⟩:=map_eq h
   exact PGs.con (DC (R.g _ _ _ _ e1 X S) (R.gs _ _ _ _ e2 X S) (by rw[wz hs];rfl)) λ_ _ _ _ q=>F4 q
  ·cases h
theorem Ii(O:TOk M T k)(R:Snd M T k n){N:List Str}{ns:NS}{it:Expr}{mi:MI}{X:Cx}{ts:List Expr}{kt:Nat}{pt:Pos}(h:eIt (rc n) T N ns it=some mi)(S:Sc M X k N ns):
  ∃wi,PI X (.Tuple ts kt pt) it wi /\ ∀g mb D σ H,tMS M.K (nv g mi mb) D σ H->sR wi (tG M.K g) (tMS M.K mb) D σ H:=by
 unfold eIt at h
 split at h
 ·split at h
  ·rename_i hr
   split at h
   ·rename_i hg
    rw[eq_of_beq hr]at hg ⊢
    obtain⟨ma,e1,rfl⟩:=map_eq h
    have hst:=gf e1
    simp only[bS,fj,eN]at hst
    exact⟨_,Gx S hg (O.B _ (by decide +kernel)) (R.a _ _ _ _ e1 X S) (cK hst _ _),λ_ _ _ _ _ q=>LF q⟩
   ·cases h
  ·obtain⟨ma,e1,rfl⟩:=map_eq h
   exact⟨_,IT S (R.e _ _ _ _ e1 X S),λ_ _ _ _ _ q=>Hi q⟩
 ·obtain⟨ma,e1,rfl⟩:=map_eq h
  exact⟨_,IT S (R.e _ _ _ _ e1 X S),λ_ _ _ _ _ q=>Hi q⟩
theorem ED{N:List Str}{ns:NS}{X:Cx}{m:MS}(R:Snd M T k n){y:Str}{elt it tg:Expr}{ifs:List Expr}{scope:Scope}{p1:Pos}{p2 p3:Pos}(h:J0 (rc n) T N ns y elt it ifs scope tg=some m)(S:Sc M X k N ns):
  PS X (.Assign [.Name y p1] (.ListComp elt [⟨tg,it,ifs,0⟩] scope p2) p3) (tMS M.K m):=by
 unfold J0 at h
 split at h
 ·split at h
  ·rename_i hs
   rw[aB,aB,aB]at hs
   obtain⟨i,e0,h⟩:=bind_eq h
   obtain⟨mi,e1,h⟩:=bind_eq h
   obtain⟨mt,e2,h⟩:=bind_eq h
   obtain⟨mc,e3,rfl⟩:=map_eq h
   obtain⟨wi,h1,_,h3⟩:=R.i _ _ _ _ _ e1 X S
   exact Je S i (slot_get e0) hs.1 (eq_of_beq hs.2.1.1) hs.2.1.2 h1 (λX' S'=>R.f _ _ _ _ e2 X' S') (λX' S'=>R.e _ _ _ _ e3 X' S') (h3 mt mc) (qB hs.2.2 _)
  ·cases h
 ·cases h
theorem Fz{N:List Str}{ns:NS}{X:Cx}{m:MS}(R:Snd M T k n){x:Str}{e:Expr}{p1:Pos}{p3:Pos}(h:Jb (rc n) T N ns x e=some m)(S:Sc M X k N ns):PS X (.Assign [.Name x p1] e p3) (tMS M.K m):=by
 unfold Jb at h
 split at h
 ·unfold M4 at h
  split at h
  ·rename_i c
   obtain⟨tg,it,ifs,ia⟩:=c
   split at h
   ·rename_i h0
    have h0':ia=0:=h0
    subst h0'
    exact ED R h S
   ·cases h
  ·cases h
 ·split at h
  ·rename_i hs
   rw[aB]at hs
   obtain⟨i,e1,h⟩:=bind_eq h
   obtain⟨me,e2,rfl⟩:=map_eq h
   exact G9 S i (slot_get e1) hs.1 (R.e _ _ _ _ e2 X S) (uQ hs.2 _ _ _)
  ·cases h
theorem E5{N:List Str}{ns:NS}{X:Cx}{m:MS}(R:Snd M T k n){t e:Expr}{p3:Pos}(h:JY (rc n) T N ns e t=some m)(S:Sc M X k N ns):PS X (.Assign [t] e p3) (tMS M.K m):=by
 unfold JY at h
 split at h
 ·exact Fz R h S
 ·split at h
  ·rename_i hs
   rw[aB]at hs
   obtain⟨ma,e1,h⟩:=bind_eq h
   obtain⟨mb,e2,h⟩:=bind_eq h
   obtain⟨me,e3,rfl⟩:=map_eq h
   exact FO S (R.e _ _ _ _ e1 X S) (R.e _ _ _ _ e2 X S) (R.e _ _ _ _ e3 X S) (E8 hs.1 _ _ _) zl rfl (JN hs.2 _)
  ·cases h
 ·cases h
 ·cases h
theorem IU{N:List Str}{ns:NS}{X:Cx}{m:MS}(R:Snd M T k n){x:Str}{e:Expr}{op:Operator}{p1:Pos}{p3:Pos}(h:sAu (rc n) T N ns x e op=some m)(S:Sc M X k N ns):PS X (.AugAssign (.Name x p1) op e p3) (tMS M.K m):=by
 unfold sAu at h
 split at h
 ·split at h
  ·rename_i hs
   obtain⟨i,e1,h⟩:=bind_eq h
   obtain⟨me,e2,rfl⟩:=map_eq h
   exact M8 S i (slot_get e1) hs (R.e _ _ _ _ e2 X S)
  ·cases h
 ·cases h
theorem HB{N:List Str}{ns:NS}{X:Cx}{m:MS}(O:TOk M T k)(R:Snd M T k n){t it:Expr}{body:List Stmt}{p3:Pos}(h:sFo (rc n) T N ns it body t=some m)(S:Sc M X k N ns):PS X (.For t it body [] p3) (tMS M.K m):=by
 unfold sFo at h
 split at h
 ·split at h
  ·rename_i hs
   rw[aB]at hs
   obtain⟨i,e1,h⟩:=bind_eq h
   obtain⟨mi,e2,h⟩:=bind_eq h
   obtain⟨mb,e3,rfl⟩:=map_eq h
   obtain⟨wi,h1,h2,_⟩:=R.i _ _ _ _ _ e2 X S
   exact Lg S i (slot_get e1) hs.1 h1 (R.b _ _ _ _ e3 X S) (h2 i mb) (qB hs.2 _)
  ·cases h
 ·rename_i ts kt pt
  split at h
  ·rename_i hs
   obtain⟨g,e1,h⟩:=bind_eq h
   obtain⟨mi,e2,h⟩:=bind_eq h
   obtain⟨mb,e3,rfl⟩:=map_eq h
   obtain⟨wi,h1,h2⟩:=Ii O R (ts:=ts) (kt:=kt) (pt:=pt) e2 S
   exact PS.con (Ec S.own S.calm h1 (R.g _ _ _ _ e1 X S) (R.b _ _ _ _ e3 X S) (qB hs _)) λ_ _ _ q=>h2 _ _ _ _ _ q
  ·cases h
 ·cases h
theorem MH(O:TOk M T k)(R:Snd M T k n): ∀N ns st m,cS T (n+1) N ns st=some m -> ∀X,Sc M X k N ns->PS X st (tMS M.K m):=by
 intro N ns st m h X S
 have h:sS (rc n) T N ns st=some m:=h
 cases st with
 | Assign ts e p=>
   have h:sAs (rc n) T N ns e ts=some m:=h
   unfold sAs at h
   split at h
   ·exact E5 R h S
   ·cases h
 | AugAssign t op e p=>
   have h:IC (rc n) T N ns op e t=some m:=h
   unfold IC at h
   split at h
   ·exact IU R h S
   ·cases h
 | Expr e p=>
   have h:(if mZ e then((rc n).e T N ns e).map fb else none)=some m:=h
   split at h
   ·rename_i hs
    obtain⟨me,e2,rfl⟩:=map_eq h
    exact JT (R.e _ _ _ _ e2 X S) (uQ hs _ _ _)
   ·cases h
 | Return o p=>
   have h:sRt (rc n) T N ns o=some m:=h
   unfold sRt at h
   split at h
   ·obtain⟨me,e2,rfl⟩:=map_eq h
    exact L9 (R.e _ _ _ _ e2 X S)
   ·cases h;exact JK
 | If c a b p=>
   obtain⟨mc,e1,h⟩:=bind_eq h
   obtain⟨ma,e2,h⟩:=bind_eq h
   obtain⟨mb,e3,rfl⟩:=map_eq h
   exact NF (R.t _ _ _ _ e1 X S) (R.b _ _ _ _ e2 X S) (R.b _ _ _ _ e3 X S)
 | For t it body els p=>
   have h:HI (rc n) T N ns t it body els=some m:=h
   unfold HI at h
   split at h
   ·exact HB O R h S
   ·cases h
 | While c body els p=>
   have h:sWh (rc n) T N ns c body els=some m:=h
   unfold sWh at h
   split at h
   ·obtain⟨mc,e1,h⟩:=bind_eq h
    obtain⟨mb,e2,rfl⟩:=map_eq h
    exact Ga S (R.t _ _ _ _ e1 X S) (R.b _ _ _ _ e2 X S)
   ·cases h
 | Pass p=>
   cases h;exact Ia
 | Break p=>
   cases h;exact LI
 | Raise a b p=>
   cases h;exact Nw
 | Continue p=>
   cases h;exact MR
 | _=>cases h
theorem LA(Gk:GOk M T k)(R:Snd M T k n)(RA: ∀M T k,GOk M T k->Snd M T k n): ∀N ns sts m,cB T (n+1) N ns sts=some m -> ∀X,Sc M X k N ns->PSs X sts (tMS M.K m):=by
 intro N ns sts m h X S
 simp only[cB,rc,sB]at h
 split at h
 ·cases h;exact K4
 ·exact Kw (R.s _ _ _ _ h X S)
 ·obtain⟨ma,e1,h⟩:=bind_eq h
  obtain⟨mr,e2,rfl⟩:=map_eq h
  exact Lx (R.s _ _ _ _ e1 X S) (R.b _ _ _ _ e2 X S)
theorem snd: ∀n M T k,GOk M T k->Snd M T k n
 | 0,M,T,k,_=>Nk M T k
 | n+1,M,T,k,Gk=>by
   have RA:=snd n
   have R:=RA M T k Gk
   exact⟨Kq Gk R RA,Ky Gk.1 R,Kr Gk.1 R,λN ns g m h=>(by cases (show(none:Option ME)=some m from h)),KW R,Ll R,Mj R,Ld R,LR R,Ml Gk.1 R,MC R,Jo R,MH Gk.1 R,LA Gk R RA⟩
theorem CH{x qual:Str}{st:Stmt}{f:Addr}{fd:FuncData}{N ps:List Str}{ms:MS}{fu:Nat}(O:TOk M T k)(h0:M.mkr=none)(h1:T.mkr=false)(F:Fun M.K x qual st f fd)(S:bc N ps (ax st))(hm:M.mg x=some (.ref f))(hb:Binds M.K fd ps [])
  (h:cB T fu N (ax st).names (aT st)=some ms):Fn M x (k+1) ps (run ps.length N.length ms):=
 ⟨f,fd,hm,F.2,hb,BP h0 F S λX S'=>(snd fu M T k (.of O h1)).b _ _ _ _ h X S'⟩
end
end _G
end
section
namespace _G
open PySem PySem.Spec _L
open PyProof.Rows hiding St
structure Def(K:av)(x:Str)(st:Stmt):Prop where
 ex: ∃f fd,gc K mainGlobals x=some (some (.ref f))/\Fun K x x st f fd
theorem bX{K:av}{x:Str}{st:Stmt}{f:Addr}{od an:Option Addr}{sl:Array (Option Value)}{oc kV doc pm cd ct:Value}(a:gc K mainGlobals x=some (some (.ref f)))
  (l:K.lookup f=some ⟨oc,od,.func (dE x x (hZ st) (aT st) (ax st) .none kV doc pm an cd ct),sl⟩) (c:nU K cd x=true) (k:dk K (.ref f)=true):Def K x st:=
 ⟨f,_,a,Jd l c k⟩
section
variable {M:Mo}{T:Tb}{k:Nat}{h:Heap}{x:Str}{st:Stmt}{N ps:List Str}{ms:MS}{fu:Nat}
theorem Def.fn(O:TOk M T k)(h0:M.mkr=none)(h1:T.mkr=false)(X:M.K.K.In h)(Gn:h.Ns mainGlobals M.mg)(D:Def M.K x st)(S:bc N ps (ax st))
  (hb: ∀(kV doc pm:Value) (an:Option Addr) (cdv ct:Value) (us:List Value),us.length=ps.length->bindArgs (dE x x (hZ st) (aT st) (ax st) .none kV doc pm an cdv ct) ⟨us,[]⟩=pure (ps.zip us))
  (hc:cB T fu N (ax st).names (aT st)=some ms):Fn M x (k+1) ps (run ps.length N.length ms):=by
 obtain⟨f,fd,a,F⟩:=D.ex
 exact CH O h0 h1 F S (iP X Gn a) (F.binds hb) hc
theorem Fn.lam{j:Nat}{a:Addr}{mf:MF}(F:Fn M x j ps mf)(ha:M.mg x=some (.ref a)):Lam M a j ps mf:=by
 obtain⟨f,fd,h1,h2,h3,h4⟩:=F.ex
 have e:f=a:=by rw[h1]at ha;injection ha with ha;injection ha
 subst e
 exact⟨fd,.inr h2,h3,h4⟩
noncomputable def pW(p n:Nat)(ms:MF->MS):Nat->MF
 | 0=>λ_ _=>none
 | i+1=>run p n (ms (pW p n ms i))
theorem Fn.mono{j:Nat}{mf:MF}(F:Fn M x j ps mf)(hj:j<=k):Fn M x k ps mf:=by
 obtain⟨f,fd,a,b,c,d⟩:=F.ex
 exact⟨f,fd,a,b,c,d.mono hj⟩
theorem TOk.mono{j:Nat}(O:TOk M T k)(hj:k<=j):TOk M T j where
 Z:=λy r hy=>let ⟨k',ps',hk,F'⟩:=O.Z y r hy;⟨k',ps',aM hk hj,F'⟩
 D:=λy g hy=>let ⟨k',ps',hk,F'⟩:=O.D y g hy;⟨k',ps',aM hk hj,F'⟩
 C:=O.C
 B:=O.B
 L:=λy q hy=>let ⟨k',ps',hk,F'⟩:=O.L y q hy;⟨k',ps',aM hk hj,F'⟩
 mkr:=O.mkr
theorem TOk.cons{j:Nat}{mf:MF}(O:TOk M T k)(F:Fn M x j ps mf)(hj:k<=j):TOk M ⟨(x,mf)::T.D,T.C,T.L,T.H,T.mkr,T.Z⟩ j where
 D:=λy g hy=>by
  rw[aN]at hy
  cases e:y==x with
  | true=>rw[e]at hy;cases hy;rw[eq_of_beq e];exact⟨j,ps,aq _,F⟩
  | false=>
    rw[e]at hy
    obtain⟨k',ps',hk,F'⟩:=O.D y g hy
    exact⟨k',ps',aM hk hj,F'⟩
 C:=O.C
 B:=O.B
 L:=(O.mono hj).L
 mkr:=O.mkr
 Z:=(O.mono hj).Z
theorem TOk.fv{a:Addr}(O:TOk M T k)(ha:M.mg x=some (.ref a)):TOk M ⟨T.D,(x,.obj a)::T.C,T.L,T.H,T.mkr,T.Z⟩ k where
 D:=O.D
 C:=λy u hy=>by
  rw[aN]at hy
  cases e:y==x with
  | true=>
    rw[e]at hy;cases hy;rw[eq_of_beq e]
    exact⟨_,.ref a,ha,rfl,λ_ _=>by simp only[RU]⟩
  | false=>rw[e]at hy;exact O.C y u hy
 B:=O.B
 L:=O.L
 mkr:=O.mkr
 Z:=O.Z
theorem TOk.lam{j:Nat}{a:Addr}{y:Str}{φ:MF}(O:TOk M T k)(F:Lam M a j ps φ)(hj:j<=k):TOk M ⟨T.D,T.C,[(y,a,φ)],T.H,T.mkr,T.Z⟩ k where
 D:=O.D
 C:=O.C
 B:=O.B
 L:=λz q hz=>by
  rw[aN]at hz
  cases e:z==y with
  | true=>rw[e]at hz;cases hz;exact⟨j,ps,hj,F⟩
  | false=>rw[e]at hz;cases hz
 mkr:=O.mkr
 Z:=O.Z
theorem Def.fnR{msR:MF->MS}(O:TOk M T k)(h0:M.mkr=none)(h1:T.mkr=false)(X:M.K.K.In h)(Gn:h.Ns mainGlobals M.mg)(D:Def M.K x st)(S:bc N ps (ax st))
  (hb: ∀(kV doc pm:Value) (an:Option Addr) (cdv ct:Value) (us:List Value),us.length=ps.length->bindArgs (dE x x (hZ st) (aT st) (ax st) .none kV doc pm an cdv ct) ⟨us,[]⟩=pure (ps.zip us))
  (hc: ∀ψ,cB ⟨(x,ψ)::T.D,T.C,T.L,T.H,T.mkr,T.Z⟩ fu N (ax st).names (aT st)=some (msR ψ)): ∀i,Fn M x (k+i) ps (pW ps.length N.length msR i)
 | 0=>by
   obtain⟨f,fd,a,F⟩:=D.ex
   refine⟨f,fd,iP X Gn a,F.2,F.binds hb,?_,?_⟩
   ·rintro vs H Q E ⟨μ,S,us,u,S',_,_,e,_⟩
    cases e
   ·rintro A outer s H args us vs Q E _ _ _ _ ⟨μ,S,us,u,S',_,_,e,_⟩
    cases e
 | i+1=>D.fn (T:=⟨(x,pW ps.length N.length msR i)::T.D,T.C,T.L,T.H,T.mkr,T.Z⟩) (k:=k+i) (O.cons (Def.fnR O h0 h1 X Gn D S hb hc i) (by omega)) h0 h1 X Gn S hb (hc _)
theorem TOk.setH{Hs:List (Str×(Addr->MF->MF))}(O:TOk M T k):TOk M ⟨T.D,T.C,T.L,Hs,T.mkr,T.Z⟩ k:=⟨O.D,O.C,O.B,O.L,O.mkr,O.Z⟩
theorem TOk.con{i:Int}(O:TOk M T k)(X:M.K.K.In h)(Gn:h.Ns mainGlobals M.mg)(a: ∃t,gc M.K mainGlobals x=some (some (.int i t))):TOk M ⟨T.D,(x,.int i)::T.C,T.L,T.H,T.mkr,T.Z⟩ k where
 D:=O.D
 C:=λy u hy=>by
  rw[aN]at hy
  cases e:y==x with
  | true=>
    rw[e]at hy;cases hy;rw[eq_of_beq e]
    obtain⟨t,a⟩:=a
    exact⟨_,.int i,iP X Gn a,⟨t,rfl⟩,λ_ _=>eh⟩
  | false=>rw[e]at hy;exact O.C y u hy
 B:=O.B
 L:=O.L
 mkr:=O.mkr
 Z:=O.Z
theorem TOk.nil{Fs:List (Str×List Nat)}{cl:Nat->Addr}{nm:Str}(X:M.K.K.In h)(Gn:h.Ns mainGlobals M.mg)(B: ∀x∈j5,gc M.K mainGlobals x=some none):TOk M ⟨[],[],[],[],false,⟨[],Fs,cl,nm⟩⟩ 0 where
 D:=λy g hy=>by cases hy
 C:=λy g hy=>by cases hy
 B:=λy hy=>PySem.W.mg_none_of X Gn (B y hy)
 L:=λy g hy=>by cases hy
 mkr:=λh=>by cases h
 Z:=λy g hy=>by cases hy
theorem Def.fnC{y:Str}{msC:Addr->MF->MS}(O: ∀caps capv cds base,kj M.mg base->TOk (M.to caps capv cds base) T k)(h1:T.mkr=false)(hL:T.L = [])(X:M.K.K.In h)(Gn:h.Ns mainGlobals M.mg)(D:Def M.K x st)(S:bc N ps (ax st))
  (hb: ∀(kV doc pm:Value) (an:Option Addr) (cdv ct:Value) (us:List Value),us.length=ps.length->bindArgs (dE x x (hZ st) (aT st) (ax st) .none kV doc pm an cdv ct) ⟨us,[]⟩=pure (ps.zip us))
  (hc: ∀g φ,cB ⟨T.D,T.C,[(y,g,φ)],T.H,T.mkr,T.Z⟩ fu N (ax st).names (aT st)=some (msC g φ)):FnC M x k ps λg φ=>run ps.length N.length (msC g φ):=by
 obtain⟨f,fd,a,F⟩:=D.ex
 refine⟨f,fd,iP X Gn a,F.2,F.binds hb,λcaps capv cds base g j lps φ hbb hkj lam =>?_⟩
 have O':TOk (M.to caps capv cds base) ⟨T.D,T.C,[(y,g,φ)],T.H,T.mkr,T.Z⟩ j:=by
  have O1:=(O caps capv cds base hbb).mono hkj
  refine⟨O1.D,O1.C,O1.B,λz q hz =>?_,(λhm=>by rw[h1]at hm;cases hm),O1.Z⟩
  rw[aN]at hz
  cases e:z==y with
  | true=>rw[e]at hz;cases hz;exact⟨j,lps,aq _,lam⟩
  | false=>rw[e]at hz;cases hz
 exact BP (M:=M.to caps capv cds base) rfl F S λX' S'=>(snd fu _ _ _ (.of O' h1)).b _ _ _ _ (hc g φ) X' S'
end
section
variable {M:Mo}{T:Tb}{k:Nat}{h:Heap}{x:Str}{st:Stmt}{N ps:List Str}{ms:MS}{fu:Nat}{c P:Addr}
end
section
variable {M:Mo}
theorem vJ{Hs:List (Str×(Addr->MF->MF))}{j k:Nat}(h: ∀y F,Hs.lookup y=some F -> ∃k' ps,k'<=j/\FnC M y k' ps F)(hj:j<=k): ∀y F,Hs.lookup y=some F -> ∃k' ps,k'<=k/\FnC M y k' ps F:=λy F hy=>
 let ⟨k',ps,a,b⟩:=h y F hy;⟨k',ps,aM a hj,b⟩
theorem Fo{Hs:List (Str×(Addr->MF->MF))}{i j k:Nat}{x:Str}{F0:Addr->MF->MF}{ps:List Str}(h: ∀y F,Hs.lookup y=some F -> ∃k' ps,k'<=j/\FnC M y k' ps F)(F1:FnC M x i ps F0)(hi:i<=k)(hj:j<=k): ∀y F,((x,F0)::Hs).lookup y=some F -> ∃k' ps,k'<=k/\FnC M y k' ps F:=λy F hy=>by
 rw[aN]at hy
 cases e:y==x with
 | true=>rw[e]at hy;cases hy;rw[eq_of_beq e];exact⟨i,ps,hi,F1⟩
 | false=>rw[e]at hy;exact vJ h hj y F hy
end
theorem JI {l:m8}{w:World}{K:av}{h:Heap}{mg:Str->Option Value}{fa:Addr}{st:Stmt}{N:List Str}{ms:MS}{fu k:Nat}{T:Tb} (X:K.In h) (Gn:h.Ns mainGlobals mg) (hfa:mg "law"=some (.ref fa))
  (D:Def K "law" st) (S:bc N ["script"] (ax st))
  (hb : ∀ (kV doc pm:Value) (an:Option Addr) (cdv ct:Value) (us:List Value),us.length = ["script"].length->bindArgs (dE "law" "law" (hZ st) (aT st) (ax st) .none kV doc pm an cdv ct) ⟨us,[]⟩=pure ((["script"]:List Str).zip us))
  {tabs:List (Addr×Str)} (h1:T.mkr=false) (hO: ∀base:Heap,kj mg base->TOk ⟨l.prog,w,⟨K,[],[],[],tabs⟩,mg,base,none⟩ T k) (hc:cB T fu N (ax st).names (aT st)=some ms):
  ∃ fd:FuncData,(∀ (s:Shared) (v:Value),BindsTo s fd ⟨[v],[]⟩ [("script",v)]) /\ ∀ base:Heap,K.In base->base.Ns mainGlobals mg->kj mg base->j4 l.prog w K mg base CX0 (k+1) fa fd ["script"] (spM ⟨K,[],[],[],tabs⟩ (run 1 N.length ms)):=by
 obtain⟨f,fd,a,F⟩:=D.ex
 have e:=hfa.symm.trans (iP X Gn a)
 cases e
 refine⟨fd,λs v =>?_,λbase _ _ hbb=>BP (M:=⟨l.prog,w,⟨K,[],[],[],tabs⟩,mg,base,none⟩) rfl F S λX' S'=>(snd fu _ _ _ (.of (hO base hbb) h1)).b _ _ _ _ hc X' S'⟩
 obtain⟨oc,od,kV,doc,pm,an,cdv,ct,osl,rfl,lk,hcd⟩:=F.ex
 exact .of_eq (hb kV doc pm an cdv ct [v] rfl)
theorem KZ{K:av}{tabs:List (Addr×Str)}{H:Hp}{a:Addr}{ns:List Int}{m:MF}(hT: ∀q∈tabs,yL H q.1 q.2)(hS:SqL K H a (ns.map V.int))(hm: ∀S:Sto,S.length=1->getL S 0=some (ns.map U.int) -> ∃S',m [.ref 0] S=some (.bl true,S')):
  spM ⟨K,[],[],[],tabs⟩ m [.ref a] H (λv _=>v = .bl true) λ_ _ _=>False:=by
 have key: ∃c:Cell,nr ⟨K,[],[],[],tabs⟩ H [a] a c/\getL [c] 0=some (ns.map U.int):=by
  rcases hS with (h | ⟨o,h⟩) |h
  ·exact⟨.lst (ns.map U.int),⟨_,h,RUs.ints ns⟩,rfl⟩
  ·exact⟨.frz (ns.map U.int),⟨_,.inl ⟨o,h⟩,RUs.ints ns⟩,rfl⟩
  ·exact⟨.frz (ns.map U.int),⟨_,.inr (.inr h),RUs.ints ns⟩,rfl⟩
 obtain⟨c,hc,hg⟩:=key
 obtain⟨S',e⟩:=hm [c] rfl hg
 refine⟨[a],[c],[.ref 0],.bl true,S',⟨rfl,λn m us ws q1 q2 _ _ _ =>?_,λn c' b q1 q2 =>?_,⟨.nil,λq hq=>(nomatch hq),hT⟩⟩,.cons (yh rfl) .nil,e,λμ' v H' _ _ _ r=>i7 r⟩
 ·have h1:=(ak.mp q1).1
  have h2:=(ak.mp q2).1
  simp at h1 h2;omega
 ·have h1:=(ak.mp q1).1
  simp at h1;subst h1
  cases q1;cases q2
  exact hc
end _G
end
section
namespace _G
open PySem PySem.Spec _L
open PySem.W (CodeHd tabObj tabIn)
open PyProof.Rows hiding St
noncomputable def xk(K:av)(tabs:List (Addr×Str))(a:Addr)(o:Obj)(xs:List V):Hp:=λb=>
 if b∈tabs.map (·.1) then some (.tbl #[]) else if b=a/\K.lookup a=none then some (.frz o (.lst xs)) else none
section
variable {P:Program}{w:World}{K:av}{mg mb:Str->Option Value}{k:Nat}{fa a:Addr}{fd:FuncData}{x:Str}{sp:Sp}{s:Shared}{vs:List Value}{ns:List Int}{tabs:List (Addr×Str)}
theorem GN (kx:K.In s.heap) (hns:s.heap.Ns mainGlobals mg) (hb:s.heap.Ns builtinsNs mb) (hbb : ∀ x:Str,x≠"__name__"->mb x=bootBuiltins x) (hlim:s.heap.NoLimit) (hbm:kj mg s.heap) (hg:s.gens = #[])
  (ha:s.heap.get? a=some { cls := .type "list",data := .seq vs.toArray }) (hi:IntsAre vs ns) (hl:ns.length<=sizeLine) (hr:kc k callerA)
  (hT: ∀r∈tabs,K.lookup r.1=none /\ ∃c,s.heap.TableAt c r.1 #[])
  (F: ∀base:Heap,K.In base->base.Ns mainGlobals mg->kj mg base->j4 P w K mg base CX0 k fa fd [x] sp) (hbind: ∀(s:Shared) (u:Value),BindsTo s fd ⟨[u],[]⟩ [(x,u)])
  (hsp: ∀H:Hp,(∀r∈tabs,yL H r.1 r.2)->SqL K H a (ns.map V.int)->sp [.ref a] H (λv _=>v = .bl true) λ_ _ _=>False):
  pz (model P w) callerA (.call (.ref fa) ⟨[.ref a],[]⟩) (λr s'=>r = .ok (.ret (.bool true))/\OldK s.heap s'.heap/\s'.os=s.os/\AllBare s'.gens) s:=by
 have rv:=mV hi
 have lenV:=hi.length
 let o:Obj:={ cls := .type "list",data := .seq vs.toArray }
 let H:=xk K tabs a o (ns.map V.int)
 have hH:H=xk K tabs a o (ns.map V.int):=rfl
 have tab: ∀b,b∈tabs.map (·.1)->H b=some (.tbl #[])/\K.lookup b=none /\ ∃c,s.heap.TableAt c b #[]:=λb hb=>by
  obtain⟨r,hr,e⟩:=aS.mp hb
  subst e
  exact⟨if_pos hb,hT r hr⟩
 have anot:a∉tabs.map (·.1):=λz=>by
  obtain⟨_,_,c,ht⟩:=tab a z
  have e:=ht.2
  rw[ha]at e
  cases e
 have Hof: ∀b u,H b=some u->(b∈tabs.map (·.1)/\u = .tbl #[])\/(b=a/\K.lookup a=none/\u = .frz o (.lst (ns.map V.int))):=λb u e=>by
  rw[hH]at e
  unfold xk at e
  split at e
  ·rename_i z;cases e;exact .inl ⟨z,rfl⟩
  ·split at e
   ·rename_i z;cases e;exact .inr ⟨z.1,z.2,rfl⟩
   ·cases e
 have nodic: ∀{b:Addr}{o:Obj}{es:Array DictEntry}{ep:Nat},s.heap.get? b=some o->o.data = .dict es ep->H b=none:=λ{b o' es ep} e d=>by
  cases q:H b with
  | none=>rfl
  | some u=>
    rcases Hof b u q with⟨z,_⟩ | ⟨z,_⟩
    ·obtain⟨_,_,c,ht⟩:=tab b z
     have e2:=ht.2
     rw[e]at e2;cases e2;cases d
    ·subst z
     rw[ha]at e;cases e;cases d
 have nsK: ∀{b:Addr}{m:Str->Option Value},s.heap.Ns b m->(vq s.heap H).Ns b m:=λ{b m} ⟨o,es,ep,e,d,r⟩=>⟨o,es,ep,rg e (nodic e d),d,r⟩
 have hKb:K.In (vq s.heap H):=λb o' e=>rg (kx b o' e) (by
  cases q:H b with
  | none=>rfl
  | some u=>
    rcases Hof b u q with⟨z,_⟩ | ⟨z,z2,_⟩
    ·rw[(tab b z).2.1]at e;cases e
    ·rw[z,z2]at e;cases e)
 have hok:HOk P w H s.heap:=λb u e=>by
  rcases Hof b u e with⟨z,rfl⟩ | ⟨rfl,z2,rfl⟩
  ·obtain⟨_,_,c,ht⟩:=tab b z
   exact ht.2
  ·exact⟨ha,by rw[aA];exact hl,vs,_,rv,ha⟩
 have hS:SqL K H a (ns.map V.int):=by
  cases hk:K.lookup a with
  | some o'=>
    have e:=kx a o' hk
    rw[ha]at e
    cases e
    exact .inr ⟨_,vs.toArray,_,hk,rfl,rfl,rfl,by rw[aF,lenV];exact hl,by simpa using rv⟩
  | none=>exact .inl (.inr ⟨o,by show xk K tabs a o (ns.map V.int) a=_;unfold xk;rw[if_neg anot,if_pos ⟨rfl,hk⟩]⟩)
 have hM:Mod K mg (vq s.heap H):=⟨hKb,nsK hns,⟨mb,nsK hb,hbb⟩,let ⟨mc,h1,h2⟩:=hlim;⟨mc,nsK h1,h2⟩⟩
 have e0:GG P w K mg (vq s.heap H) callerA [] s H:=⟨rfl,hM,λb o e=>FV e,tQ (AO _ _),trivial,λb hb=>absurd (show b∈([]:List Addr) from hb) (by simp),hok,.of_eq hg⟩
 have hBb:kj mg (vq s.heap H):=by
  obtain⟨bm,ob,e1,e2,e3,e4,e5,e6⟩:=hbm
  refine⟨bm,ob,e1,e2,rg e3 ?_,e4,e5,e6⟩
  cases q:H bm with
  | none=>rfl
  | some u=>
    rcases Hof bm u q with⟨z,_⟩ | ⟨z,_⟩
    ·obtain⟨_,_,c,ht⟩:=tab bm z
     have e:=ht.2
     rw[e3]at e;cases e;cases e6
    ·rw[z,ha]at e3;cases e3;cases e6
 have hTR: ∀r∈tabs,yL H r.1 r.2:=λr hr=>⟨#[],(tab r.1 (aS.mpr ⟨r,hr,rfl⟩)).1,trivial,λpos cv h=>by cases h⟩
 refine jj ((F _ hKb (nsK hns) hBb).run callerA [] s H ⟨[.ref a],[]⟩ [.ref a] [.ref a] _ _ hr e0 (hbind s (.ref a)) (.cons rfl .nil) (hsp H hTR hS)) λr s' h =>?_
 cases r with
 | error e=>exact h.elim
 | ok fl=>
   cases fl with
   | next=>exact dr h
   | brk=>exact dr h
   | cont=>exact dr h
   | ret u=>
     obtain⟨v,H',os,bare,un,hok',r',q⟩:=h
     have q':v = .bl true:=q
     subst q'
     obtain rfl:u=xM true:=r'
     refine⟨rfl,⟨λb o' e =>?_,λb o' e=>un.there b o' e (by simp)⟩,os,bare⟩
     cases q:H b with
     | none=>exact .inl (un.keep b o' e q (by intro z;exact absurd (show b∈([]:List Addr) from z) (by simp)) (by simp))
     | some u=>
       rcases Hof b u q with⟨z,rfl⟩ | ⟨rfl,_,rfl⟩
       ·obtain⟨_,_,c,ht⟩:=tab b z
        obtain⟨more,e2⟩:=un.tbls b #[] q
        have e3:s'.heap.get? b=some { cls:= .none,data:= .fields (#[]++more) }:=hok' b _ e2
        have e4:=ht.2
        rw[e]at e4
        cases e4
        exact .inr (.inl ⟨ht.isCodeTable,rfl,#[],more,rfl,e3⟩)
       ·obtain⟨e2,_⟩:=hok' b _ (un.frzs b _ _ q)
        rw[ha]at e
        cases e
        exact .inl e2
end
theorem Cp{l:m8}{n k:Nat}{q:Program}{loose:List Str}{XP:(Str->Option Value)->Heap->Prop}{YP:World->Heap->Prop}{d:DefRec}{K:Params->av}{x:Str}
  (hn:l.most=some n) (hn2:n<=sizeLine) (hdf:d.params.defaults = []) (hr:kc k callerA) (hY: ∀(w:World) (h:Heap),YP w h->(K w.params).In h)
  (F: ∀(w:World) (mg:Str->Option Value) (fa:Addr) (h:Heap),(K w.params).In h->h.Ns mainGlobals mg->mg d.name=some (.ref fa) -> ∃(tabs:List (Addr×Str)) (fd:FuncData) (sp:Sp),
   (∀r∈tabs,(K w.params).lookup r.1=none /\ ∃x d c,(recsOf q).find? (λe=>e.name==x)=some d/\tabIn (K w.params) x=some (c,r.1)) /\
   (∀(s:Shared) (u:Value),BindsTo s fd ⟨[u],[]⟩ [(x,u)])/\(∀base:Heap,(K w.params).In base->base.Ns mainGlobals mg->kj mg base->j4 l.prog w (K w.params) mg base CX0 k fa fd [x] sp) /\
   ∀(H:Hp) (a:Addr) (ns:List Int),ns.length<=n->(∀r∈tabs,yL H r.1 r.2)->SqL (K w.params) H a (ns.map V.int)->sp [.ref a] H (λv _=>v = .bl true) λ_ _ _=>False):
  PySem.W.WalkO q loose XP YP l.row.toRowW d [] (λf vs=>PySem.call f vs):=by
 refine Att.attach_call hn hdf λw s₀ s₁ mg mb fa o pm cd doc a vs ns G Y ho hd hcd hmg hobj hints hlen hg =>?_
 have kx:=hY w _ Y
 obtain⟨tabs,fd,sp,hT,hb,hF,hsp⟩:=F w mg fa _ kx G.T.g hmg
 refine GN (tabs:=tabs) kx G.T.g G.T.b G.T.builtins G.T.nolimit G.T.bmain hg hobj hints (aM hlen hn2) hr (λr hr =>?_) hF hb λH h1 h2=>hsp H a ns hlen h1 h2
 obtain⟨h1,x',d',c,h2,h3⟩:=hT r hr
 obtain⟨h4,h5⟩:=PySem.W.tab_of G.T kx h2 h3
 exact⟨h1,c,h4.tab h5⟩
end _G
end
section
namespace _G
open PySem PySem.Spec _L
theorem usC{p:List Value->Prop}{n:Nat}(h: ∀a us,us.length=n->p (a::us)): ∀us:List Value,us.length=n+1->p us:=λus hl=>by
 cases us with
 | nil=>cases hl
 | cons a us=>exact h a us (Nat.succ.inj hl)
theorem us1{p:List Value->Prop}(h: ∀a,p [a]): ∀us:List Value,us.length=1->p us:=usC λa us hl=>dN hl▸h a
theorem us2{p:List Value->Prop}(h: ∀a b,p [a,b]): ∀us:List Value,us.length=2->p us:=usC λa=>us1 (h a)
theorem us3{p:List Value->Prop}(h: ∀a b c,p [a,b,c]): ∀us:List Value,us.length=3->p us:=usC λa=>us2 (h a)
theorem us4{p:List Value->Prop}(h: ∀a b c d,p [a,b,c,d]): ∀us:List Value,us.length=4->p us:=usC λa=>us3 (h a)
theorem us5{p:List Value->Prop}(h: ∀a b c d e,p [a,b,c,d,e]): ∀us:List Value,us.length=5->p us:=usC λa=>us4 (h a)
noncomputable def Bd(x:Str)(st:Stmt)(ps:List Str):Prop:= ∀(kV doc pm:Value) (an:Option Addr) (cdv ct:Value) (us:List Value),us.length=ps.length->bindArgs (dE x x (hZ st) (aT st) (ax st) .none kV doc pm an cdv ct) ⟨us,[]⟩=pure (ps.zip us)
structure Ch(P:Program)(w:World)(K:av)(mg:Str->Option Value)(tabs:List (Addr×Str))(T:Tb)(k:Nat):Prop where
 o: ∀(caps:List U) (capv:List V) (cds:List (Addr×Obj)) (base:Heap),kj mg base->TOk ⟨P,w,⟨K,caps,capv,cds,tabs⟩,mg,base,none⟩ T k
 h: ∀(caps:List U) (capv:List V) (cds:List (Addr×Obj)) (base:Heap),kj mg base -> ∀y F,T.H.lookup y=some F -> ∃k' ps,k'<=k/\FnC ⟨P,w,⟨K,caps,capv,cds,tabs⟩,mg,base,none⟩ y k' ps F
 r: ∀(caps:List U) (capv:List V) (cds:List (Addr×Obj)) (base:Heap),kj mg base -> ∀y rz,T.Z.F.lookup y=some rz -> ∃k',k'<=k/\FnR ⟨P,w,⟨K,caps,capv,cds,tabs⟩,mg,base,none⟩ T.Z.cl y k' rz
theorem Al{M:Mo}{Fs:List (Str×List Nat)}{cl:Nat->Addr}{j k:Nat}(h: ∀y rz,Fs.lookup y=some rz -> ∃k',k'<=j/\FnR M cl y k' rz)(hj:j<=k): ∀y rz,Fs.lookup y=some rz -> ∃k',k'<=k/\FnR M cl y k' rz:=λy rz hy=>
 let ⟨k',a,b⟩:=h y rz hy;⟨k',aM a hj,b⟩
section
variable {P:Program}{w:World}{K:av}{mg:Str->Option Value}{tabs:List (Addr×Str)}{T T':Tb}{k j:Nat}{h:Heap}{x:Str}{st:Stmt}{N ps:List Str}{ms:MS}{fu:Nat}
theorem Ch.mono(c:Ch P w K mg tabs T k)(hj:k<=j):Ch P w K mg tabs T j:=⟨λa b d e f=>(c.o a b d e f).mono hj,λa b d e f=>vJ (c.h a b d e f) hj,λa b d e f=>Al (c.r a b d e f) hj⟩
theorem Ch.dfn(c:Ch P w K mg tabs T k)(O: ∀(caps:List U) (capv:List V) (cds:List (Addr×Obj)) (base:Heap),kj mg base->TOk ⟨P,w,⟨K,caps,capv,cds,tabs⟩,mg,base,none⟩ T' k)(h1:T'.mkr=false)(X:K.In h)(Gn:h.Ns mainGlobals mg)(D:Def K x st)(S:bc N ps (ax st))(hb:Bd x st ps)
  (hc:cB T' fu N (ax st).names (aT st)=some ms):Ch P w K mg tabs ⟨(x,run ps.length N.length ms)::T.D,T.C,T.L,T.H,T.mkr,T.Z⟩ (k+1):=
 ⟨λa b d e f=>(c.o a b d e f).cons (D.fn (M:=⟨P,w,⟨K,a,b,d,tabs⟩,mg,e,none⟩) (O a b d e f) rfl h1 X Gn S hb hc) (dh k),λa b d e f=>vJ (c.h a b d e f) (dh k),λa b d e f=>Al (c.r a b d e f) (dh k)⟩
theorem Ch.cls{y:Str}{msC:Addr->MF->MS}(c:Ch P w K mg tabs T k)(h1:T.mkr=false)(hL:T.L = [])(X:K.In h)(Gn:h.Ns mainGlobals mg)(D:Def K x st)(S:bc N ps (ax st))(hb:Bd x st ps)
  (hc: ∀g φ,cB ⟨T.D,T.C,[(y,g,φ)],T.H,T.mkr,T.Z⟩ fu N (ax st).names (aT st)=some (msC g φ)):Ch P w K mg tabs ⟨T.D,T.C,T.L,(x,λg φ=>run ps.length N.length (msC g φ))::T.H,T.mkr,T.Z⟩ k:=
 ⟨λa b d e f=>(c.o a b d e f).setH,λa b d e f=>Fo (c.h a b d e f) (D.fnC (M:=⟨P,w,⟨K,a,b,d,tabs⟩,mg,e,none⟩) c.o h1 hL X Gn S hb hc) (aq k) (aq k),c.r⟩
end
end _G
end
section
namespace _W
open PySem PySem.Spec _L _G
section
noncomputable def fV:MS:=ba (sIf (cOf (m2 oLt (ae 1) (mFn bK (aa (ae 0) ah)))) (bB (m2 oIx (ae 0) (ae 1))) b7) (bB (mC (.int 0)))
noncomputable def hX:MF:=run 2 2 fV
noncomputable def jG:MS:=ba (bC 2 (mFn hX (aa (ae 0) (aa (ae 1) ah)))) (ba (sIf (cOf (m2 oGe (ae 2) (m2 uN (mC (.int 10)) (mC (.int 18))))) (bB (fA (aa (m2 kh (ae 2) (m2 uN (mC (.int 10)) (mC (.int 18)))) (aa (mC (.bl true)) ah)))) b7) (bB (fA (aa (m2 oMod (ae 2) (mC (.int 2147483647))) (aa (mC (.bl false)) ah)))))
noncomputable def jB:MF:=run 2 3 jG
noncomputable def kD:MS:=ba (sIf (cOf (m2 oIx (ae 0) (mC (.int 1)))) (ba (bC 2 (m2 oMod (m2 oIx (ae 0) (mC (.int 0))) (ae 1))) (ba (jb (ae 0) (mC (.int 0)) (m2 oDiv (m2 oIx (ae 0) (mC (.int 0))) (ae 1))) (bB (ae 2)))) b7) (ba (jb (ae 0) (mC (.int 0)) (m2 oMod (m2 dq (m2 gg (m2 oIx (ae 0) (mC (.int 0))) (mC (.int 48271))) (mC (.int 29))) (mC (.int 2147483647)))) (ba (bC 3 (m2 oMod (m2 dq (m2 dq (m2 gg (m2 oIx (ae 0) (mC (.int 0))) (m2 oIx (ae 0) (mC (.int 0)))) (m2 gg (mC (.int 39373)) (m2 oIx (ae 0) (mC (.int 0))))) (mC (.int 7))) (mC (.int 2147483629)))) (ba (bC 3 (m2 oMod (m2 dq (m2 gg (ae 3) (ae 3)) (m2 gg (mC (.int 16807)) (ae 3))) (mC (.int 2147483587)))) (bB (m2 oMod (m2 oDiv (ae 3) (mC (.int 8))) (ae 1))))))
noncomputable def aK:MF:=run 2 4 kD
noncomputable def lJ:MS:=bB (mFn b9 (aa (cq (iR1 (aa (ae 0) ah)) cTT (mFn b9 (aa (cq (iR1 (aa (ae 0) ah)) cTT (m2 oMod (m2 dq (ae 1) (ae 2)) (ae 0))) ah))) ah))
noncomputable def cc:MF:=run 1 1 lJ
noncomputable def nP:MS:=ba (bC 2 (mFn bK (aa (ae 1) ah))) (ba (bC 3 (fA ah)) (ba (ft 4 (iR1 (aa (m2 gg (mFn bK (aa (ae 0) ah)) (ae 2)) ah)) (ba (bC 5 (fA ah)) (ba (ft 6 (iR1 (aa (m2 gg (mFn bK (aa (ae 0) ah)) (ae 2)) ah)) (ba (bC 7 (m2 oIx (m2 oIx (ae 0) (m2 oDiv (ae 4) (ae 2))) (m2 oDiv (ae 6) (ae 2)))) (fb (mML d7 (ae 5) (aa (m2 dq (m2 gg (ae 7) (ae 2)) (m2 oIx (m2 oIx (ae 1) (m2 oMod (ae 4) (ae 2))) (m2 oMod (ae 6) (ae 2)))) ah))))) (fb (mML d7 (ae 3) (aa (mFn b9 (aa (ae 5) ah)) ah)))))) (bB (mFn b9 (aa (ae 3) ah)))))
noncomputable def i4:MF:=run 2 8 nP
noncomputable def mx:MS:=bB (mFn b9 (aa (cq (dv (ae 1)) cTT (mFn b9 (aa (cq (dv (ae 1)) cTT (mMT gd (ae 1) (aa (m2 oIx (m2 oIx (ae 0) (ae 2)) (ae 3)) ah))) ah))) ah))
noncomputable def gm:MF:=run 2 2 mx
noncomputable def lX:MS:=ba (bC 2 (jN (iR2 (aa (mC (.int 1)) (aa (ae 1) ah))))) (bB (m2 dq (dg (aa (mC (.int 0)) ah)) (mFn b9 (aa (cq (iR1 (aa (m2 kh (ae 1) (mC (.int 1))) ah)) cTT (mML jL (ae 2) (aa (mFn aK (aa (ae 0) (aa (mFn bK (aa (ae 2) ah)) ah))) ah))) ah))))
noncomputable def gn:MF:=run 2 3 lX
end
end _W
end
section
namespace _W
structure Grp(m:Nat)(T:Nat->Nat->Nat):Prop where
 pos:0<m
 cl: ∀i j,i<m->j<m->T i j<m
 l0: ∀i,i<m->T 0 i=i
 r0: ∀i,i<m->T i 0=i
 inv: ∀i,i<m -> ∃j,j<m/\T i j=0/\T j i=0
 as: ∀i j k,i<m->j<m->k<m->T (T i j) k=T i (T j k)
noncomputable def d0(n:Nat):Nat->Nat->Nat:=λi j=>(i+j) % n
theorem mQ{n:Nat}(h:0<n):Grp n (d0 n) where
 pos:=h
 cl:=λi j _ _=>kI _ h
 l0:=λi hi=>by unfold d0;rw[d5];exact vQ hi
 r0:=λi hi=>by unfold d0;rw[Em];exact vQ hi
 inv:=λi hi=>by
  by_cases h0:i=0
  ·subst h0;exact⟨0,h,by simp[d0],by simp[d0]⟩
  ·refine⟨n - i,by omega,?_,?_⟩ <;> unfold d0
   ·rw[show i+(n - i)=n by omega,Nat.mod_self]
   ·rw[show n - i+i=n by omega,Nat.mod_self]
 as:=λi j k _ _ _=>by
  unfold d0
  rw[Nat.mod_add_mod,Nat.add_mod_mod,Nat.add_assoc]
noncomputable def kU(m:Nat)(A B:Nat->Nat->Nat):Nat->Nat->Nat:=λi j=>A (i / m) (j / m)*m+B (i % m) (j % m)
theorem yl{m a b:Nat}(hb:b<m):(a*m+b) / m=a/\(a*m+b) % m=b:=by
 have hm:0<m:=by omega
 constructor
 ·rw[eM,Nat.mul_add_div hm,Nat.div_eq_of_lt hb];rfl
 ·rw[eM,Nat.mul_add_mod,vQ hb]
theorem BN{k m:Nat}{A B:Nat->Nat->Nat}(ga:Grp k A)(gb:Grp m B):Grp (k*m) (kU m A B):=by
 have hm:=gb.pos
 have dl: ∀i,i<k*m->i / m<k:=λi hi=>jx (by rw[eM];exact hi)
 have rl: ∀i,i % m<m:=λi=>kI _ hm
 have lt: ∀a b,a<k->b<m->a*m+b<k*m:=λa b ha hb=>by
  have:(a+1)*m<=k*m:=gk m ha
  rw[Nat.add_mul]at this;omega
 refine⟨Nat.mul_pos ga.pos hm,λi j hi hj=>lt _ _ (ga.cl _ _ (dl i hi) (dl j hj)) (gb.cl _ _ (rl i) (rl j)),λi hi =>?_,λi hi =>?_,λi hi =>?_,λi j l hi hj hl =>?_⟩
 ·unfold kU;rw[Nat.zero_div,Nat.zero_mod,ga.l0 _ (dl i hi),gb.l0 _ (rl i),eM];exact Nat.div_add_mod i m
 ·unfold kU;rw[Nat.zero_div,Nat.zero_mod,ga.r0 _ (dl i hi),gb.r0 _ (rl i),eM];exact Nat.div_add_mod i m
 ·obtain⟨a,ha,a1,a2⟩:=ga.inv _ (dl i hi)
  obtain⟨b,hb,b1,b2⟩:=gb.inv _ (rl i)
  obtain⟨p1,p2⟩:=yl (a:=a) hb
  refine⟨a*m+b,lt a b ha hb,?_,?_⟩ <;> unfold kU <;> rw[p1,p2]
  ·rw[a1,b1];simp
  ·rw[a2,b2];simp
 ·unfold kU
  obtain⟨p1,p2⟩:=yl (a:=A (i / m) (j / m)) (gb.cl _ _ (rl i) (rl j))
  obtain⟨q1,q2⟩:=yl (a:=A (j / m) (l / m)) (gb.cl _ _ (rl j) (rl l))
  rw[p1,p2,q1,q2,ga.as _ _ _ (dl i hi) (dl j hj) (dl l hl),gb.as _ _ _ (rl i) (rl j) (rl l)]
structure Ord(m:Nat)(o p:Nat->Nat):Prop where
 ol: ∀i,i<m->o i<m
 pl: ∀i,i<m->p i<m
 po: ∀i,i<m->p (o i)=i
 op: ∀i,i<m->o (p i)=i
 o0:o 0=0
noncomputable def jg(T:Nat->Nat->Nat)(o p:Nat->Nat):Nat->Nat->Nat:=λi j=>p (T (o i) (o j))
theorem AZ{m:Nat}{T:Nat->Nat->Nat}{o p:Nat->Nat}(g:Grp m T)(h:Ord m o p):Grp m (jg T o p):=by
 have p0:p 0=0:=by have:=h.po 0 g.pos;rwa[h.o0]at this
 refine⟨g.pos,λi j hi hj=>h.pl _ (g.cl _ _ (h.ol i hi) (h.ol j hj)),λi hi =>?_,λi hi =>?_,λi hi =>?_,λi j k hi hj hk =>?_⟩
 ·unfold jg;rw[h.o0,g.l0 _ (h.ol i hi),h.po i hi]
 ·unfold jg;rw[h.o0,g.r0 _ (h.ol i hi),h.po i hi]
 ·obtain⟨j,hj,a,b⟩:=g.inv _ (h.ol i hi)
  refine⟨p j,h.pl j hj,?_,?_⟩ <;> unfold jg <;> rw[h.op j hj]
  ·rw[a,p0]
  ·rw[b,p0]
 ·unfold jg
  rw[h.op _ (g.cl _ _ (h.ol i hi) (h.ol j hj)),h.op _ (g.cl _ _ (h.ol j hj) (h.ol k hk)),g.as _ _ _ (h.ol i hi) (h.ol j hj) (h.ol k hk)]
end _W
end
section
namespace _W
theorem gh{α:Type}: ∀(l:List α) (i:Nat) (h:i<l.length),(l[i]::l.eraseIdx i).Perm l
 | x::l,0,_=>by simp
 | x::l,i+1,h=>by
   have h':i<l.length:=by simpa using h
   have:=gh l i h'
   simp only[List.getElem_cons_succ,BH]
   exact(List.Perm.swap _ _ _).trans (this.cons x)
theorem EZ{l:List Nat}(nd:l.Nodup){i:Nat}(h:i<l.length):l.idxOf l[i]=i:=by
 have h1:l.idxOf l[i]<l.length:=lx.mpr (eW h)
 have h2:=List.getElem_idxOf h1
 exact(List.getElem_inj nd).mp h2
structure pf(m:Nat)(l:List Nat):Prop where
 perm:l.Perm (aE m)
 z:l[0]? = some 0
noncomputable def oF(l:List Nat):Nat->Nat:=λi=>l.getD i 0
noncomputable def pF(l:List Nat):Nat->Nat:=λx=>l.idxOf x
section
variable {m:Nat}{l:List Nat}
theorem pf.len(h:pf m l):l.length=m:=by have:=h.perm.length_eq;simpa using this
theorem pf.nd(h:pf m l):l.Nodup:=h.perm.nodup_iff.mpr uH
theorem pf.mem(h:pf m l){x:Nat}:x∈l↔x<m:=by rw[h.perm.mem_iff,aI]
theorem pf.get(h:pf m l){i:Nat}(hi:i<m):l[i]? = some (oF l i):=by
 have hl:i<l.length:=by rw[h.len];exact hi
 simp[oF,hl]
theorem pf.ord(h:pf m l):Ord m (oF l) (pF l) where
 ol:=λi hi=>h.mem.mp (cb (h.get hi))
 pl:=λx hx=>by
  have:=lx.mpr (h.mem.mpr hx)
  rw[h.len]at this;exact this
 po:=λi hi=>by
  have hl:i<l.length:=by rw[h.len];exact hi
  have e:oF l i=l[i]:=by simp[oF,hl]
  unfold pF;rw[e];exact EZ h.nd hl
 op:=λx hx=>by
  have h1:=lx.mpr (h.mem.mpr hx)
  have h2:=List.getElem_idxOf h1
  unfold oF pF
  rw[yd,aX h1,h2];rfl
 o0:=by
  unfold oF
  rw[yd,h.z];rfl
end
theorem AJ{m:Nat}{xs:List Nat}(hm:0<m)(h:xs.Perm (bu 1 (m - 1))):pf m (0::xs):=by
 refine⟨?_,rfl⟩
 have e:aE m=0::bu 1 (m - 1):=by
  rw[Ez]
  have:m=(m - 1)+1:=by omega
  rw[this,uG]
  simp
 rw[e]
 exact h.cons 0
end _W
end
section
namespace _W
section
variable {m:Nat}{T:Nat->Nat->Nat}
theorem Grp.cancel(g:Grp m T){a b c:Nat}(ha:a<m)(hb:b<m)(hc:c<m)(h:T a b=T a c):b=c:=by
 obtain⟨i,hi,h1,h2⟩:=g.inv a ha
 have e1:T i (T a b)=b:=by rw[<- g.as i a b hi ha hb,h2,g.l0 b hb]
 have e2:T i (T a c)=c:=by rw[<- g.as i a c hi ha hc,h2,g.l0 c hc]
 rw[<- e1,<- e2,h]
theorem Grp.inv1(g:Grp m T){i:Nat}(hi:i<m): ∃j,j<m/\T i j=0/\T j i=0 /\ ∀k,k<m->T i k=0->k=j:=by
 obtain⟨j,hj,h1,h2⟩:=g.inv i hi
 exact⟨j,hj,h1,h2,λk hk h=>g.cancel hi hk hj (h.trans h1.symm)⟩
noncomputable def pw(T:Nat->Nat->Nat)(x:Nat):Nat->Nat
 | 0=>0
 | n+1=>T (pw T x n) x
theorem eS(g:Grp m T){x:Nat}(hx:x<m): ∀n,pw T x n<m
 | 0=>g.pos
 | n+1=>g.cl _ _ (eS g hx n) hx
theorem kA(g:Grp m T){x:Nat}(hx:x<m)(a:Nat): ∀b,pw T x (a+b)=T (pw T x a) (pw T x b)
 | 0=>by show pw T x a=T (pw T x a) 0;rw[g.r0 _ (eS g hx a)]
 | b+1=>by
   show T (pw T x (a+b)) x=T (pw T x a) (T (pw T x b) x)
   rw[kA g hx a b,g.as _ _ _ (eS g hx a) (eS g hx b) hx]
theorem FI(g:Grp m T){x a b:Nat}(hx:x<m)(hab:a<=b)(h:pw T x a=pw T x b):pw T x (b - a)=0:=by
 have e:b=a+(b - a):=by omega
 rw[e,kA g hx]at h
 have e2:T (pw T x a) 0=T (pw T x a) (pw T x (b - a)):=by rw[g.r0 _ (eS g hx a)];exact h
 exact(g.cancel (eS g hx a) g.pos (eS g hx _) e2).symm
end
theorem mn: ∀(m:Nat) (l:List Nat),l.Nodup->(∀x∈l,x<m)->l.length<=m
 | 0,l,_,h=>by
   cases l with
   | nil=>simp
   | cons x l=>exact absurd (h x (by simp)) (by omega)
 | m+1,l,nd,h=>by
   have h1:=mn m (l.erase m) (nd.erase m) λx hx=>by
    have hx2:=(List.Nodup.mem_erase_iff nd).mp hx
    have:=h x hx2.2
    have:=hx2.1
    omega
   have h2:l.length<=(l.erase m).length+1:=by
    rw[List.length_erase]
    split <;> omega
   omega
theorem J9{m:Nat}{f:Nat->Nat}(h: ∀i,i<=m->f i<m): ∃i j,i<j/\j<=m/\f i=f j:=by
 apply cJ
 intro no
 have inj: ∀i j,i<j->j<=m->f i≠f j:=λi j h1 h2 e=>no ⟨i,j,h1,h2,e⟩
 have nd:((aE (m+1)).map f).Nodup:=by
  rw[eg,fP]
  refine jy ?_ (nG (n:=m+1))
  intro a b ha hb hab
  exact inj a b hab (by have:=aI.mp hb;exact dR (by assumption))
 have:=mn m _ nd (λx hx=>by
  obtain⟨i,hi,rfl⟩:=aS.mp hx
  exact h i (by have:=aI.mp hi;exact dR (by assumption)))
 simp at this
 exact absurd (by assumption) (bZ _)
theorem least{P:Nat->Prop}: ∀n,P n -> ∃k,k<=n/\P k /\ ∀j,j<k -> ¬P j:=by
 intro n
 induction n using Nat.strongRecOn with
 | ind n ih=>
   intro h
   by_cases hx: ∃j,j<n/\P j
   ·obtain⟨j,hj,hp⟩:=hx
    obtain⟨k,h1,h2,h3⟩:=ih j hj hp
    exact⟨k,by omega,h2,h3⟩
   ·exact⟨n,aq _,h,λj hj hp=>hx ⟨j,hj,hp⟩⟩
theorem Grp.ord{m:Nat}{T:Nat->Nat->Nat}(g:Grp m T){x:Nat}(hx:x<m): ∃n,1<=n/\n<=m/\pw T x n=0 /\ ∀k,1<=k->k<n->pw T x k≠0:=by
 obtain⟨a,b,h1,h2,h3⟩:=J9 (m:=m) (f:=pw T x) λi _=>eS g hx i
 have h4:=FI g hx (bG h1) h3
 obtain⟨n,k1,⟨k2,k3⟩,k4⟩:=least (P:=λn=>1<=n/\pw T x n=0) (b - a) ⟨by omega,h4⟩
 exact⟨n,k2,by omega,k3,λj j1 j2 j3=>k4 j j2 ⟨j1,j3⟩⟩
theorem idx_map{f:Nat->Nat}{x:Nat}: ∀(n s k:Nat),s<=k->k<s+n->f k=x->(∀j,s<=j->j<k->f j≠x)->((bu s n).map f).idxOf x=k - s
 | 0,s,k,h1,h2,_,_=>by omega
 | n+1,s,k,h1,h2,hp,hn=>by
   rw[uG,bM,List.idxOf_cons]
   by_cases hs:s=k
   ·subst hs;simp[hp]
   ·have hb:(f s==x)=false:=by simpa using hn s (aq _) (by exact hV (by assumption) (by assumption))
    rw[hb]
    simp only[cond_false]
    rw[idx_map n (s+1) k (by exact hV (by assumption) (by assumption)) (by omega) hp λj h1 h2=>hn j (by exact bG (by assumption)) h2]
    omega
end _W
end
section
namespace _W
open _L _G
noncomputable def Ex(S S':Sto):Prop:= ∃t,S'=S++t
theorem Ex.refl(S:Sto):Ex S S:=⟨[],by simp⟩
theorem Ex.trans{S S1 S2:Sto}(a:Ex S S1)(b:Ex S1 S2):Ex S S2:=by
 obtain⟨t,rfl⟩:=a
 obtain⟨u,rfl⟩:=b
 exact⟨t++u,by simp⟩
theorem Ex.push(S:Sto)(c:Cell):Ex S (S++[c]):=⟨[c],rfl⟩
theorem Ex.get{S S':Sto}(h:Ex S S'){n:Nat}(hn:n<S.length):S'[n]? = S[n]? := by
 obtain⟨t,rfl⟩:=h
 exact bg hn
theorem Ex.some{S S':Sto}(h:Ex S S'){n:Nat}{c:Cell}(e:S[n]? = some c):S'[n]? = some c:=by
 rw[h.get (ak.mp e).1];exact e
theorem Ex.len{S S':Sto}(h:Ex S S'):S.length<=S'.length:=by
 obtain⟨t,rfl⟩:=h
 simp
noncomputable def lj(n:Nat)(S:Sto):Prop:= ∃s b,S[n]? = some (.lst [.int s,.bl b])
structure Stp(n:Nat)(S S':Sto):Prop where
 len:S.length<=S'.length
 same: ∀m,m<S.length->m≠n->S'[m]? = S[m]?
 st:lj n S'
theorem Stp.refl{n:Nat}{S:Sto}(h:lj n S):Stp n S S:=⟨aq _,λ_ _ _=>rfl,h⟩
theorem Stp.trans{n:Nat}{S S1 S2:Sto}(a:Stp n S S1)(b:Stp n S1 S2):Stp n S S2:=
 ⟨aM a.len b.len,λm h1 h2=>(b.same m (ag h1 a.len) h2).trans (a.same m h1 h2),b.st⟩
theorem lj.lt{n:Nat}{S:Sto}(h:lj n S):n<S.length:=by
 obtain⟨s,b,e⟩:=h
 exact(ak.mp e).1
theorem lj.ex{n:Nat}{S S':Sto}(h:lj n S)(e:Ex S S'):lj n S':=by
 obtain⟨s,b,q⟩:=h
 exact⟨s,b,e.some q⟩
theorem Stp.ex{n:Nat}{S S':Sto}(h:lj n S)(e:Ex S S'):Stp n S S':=⟨e.len,λm h1 _=>e.get h1,h.ex e⟩
theorem Stp.some{n:Nat}{S S':Sto}(h:Stp n S S'){m:Nat}{c:Cell}(hm:m≠n)(e:S[m]? = some c):S'[m]? = some c:=by
 rw[h.same m (ak.mp e).1 hm];exact e
theorem zO{n:Nat}{S:Sto}{many:Int}(h:lj n S)(hm:0<many)(hm2:many<1073741824):
  ∃r S',aK [.ref n,.int many] S=some (.int r,S')/\0<=r/\r<many/\Stp n S S'/\S'.length=S.length:=by
 obtain⟨s,b,e⟩:=h
 have hn:=(ak.mp e).1
 have hd:uo many:=⟨hm,hm2⟩
 have hd8:uo 8:=⟨by decide,by decide⟩
 cases b with
 | true=>
   refine⟨s % many,S.set n (.lst [.int (s / many),.bl true]),?_,xU _ (by omega),sr _ hm,⟨by simp,λm h1 h2=>by rw[aP (cU h2)],⟨s / many,true,by rw[bq hn]⟩⟩,by simp⟩
   simp[aK,_G.run,kD,ba,sIf,cOf,m2,ae,mC,bnd,oIx,fJ,dz,getL,e,atI,ixN,bC,oMod,oDiv,hm,hd,jb,bB]
 | false=>
   have b1: ∀x m:Int,0<m->m<4294967296->oC (x % m) (x % m):=λx m h1 h2=>by
    have h3:=xU x (show m≠0 by omega)
    have h4:=sr x h1
    exact .inl ⟨by omega,by omega⟩
   have hg: ∀c:Cell,(S.set n c)[n]? = Option.some c:=λc=>bq hn
   have k1:oC s 48271:= .inr ⟨by decide,by decide⟩
   have k2:=b1 (s*48271+29) 2147483647 (by decide) (by decide)
   generalize hs1:(s*48271+29) % 2147483647=s1 at k2
   have k3:oC 39373 s1:= .inl ⟨by decide,by decide⟩
   have k4:=b1 (s1*s1+39373*s1+7) 2147483629 (by decide) (by decide)
   generalize hm1:(s1*s1+39373*s1+7) % 2147483629=m1 at k4
   have k5:oC 16807 m1:= .inl ⟨by decide,by decide⟩
   refine⟨(m1*m1+16807*m1) % 2147483587 / 8 % many,S.set n (.lst [.int s1,.bl false]),?_,xU _ (by omega),sr _ hm,⟨by simp,λm h1 h2=>by rw[aP (cU h2)],⟨s1,false,by rw[bq hn]⟩⟩,by simp⟩
   simp[aK,_G.run,kD,ba,sIf,cOf,m2,ae,mC,bnd,oIx,fJ,dz,getL,e,atI,ixN,bC,oMod,oDiv,dq,gg,hm,hd,jb,bB,b7,hg,k1,k2,k3,k4,k5,hs1,hm1,hd8]
end _W
end
section
namespace _W
open _L _G
section
theorem oh{i:Nat}{b:MS}(P:Nat->Rho->Sto->Prop): ∀(us:List U) (k:Nat) (ρ:Rho) (S:Sto),P k ρ S ->
  (∀(j:Nat) (u:U) (ρ:Rho) (S:Sto),us[j]? = some u->P (k+j) ρ S -> ∃ρ' S',b (ρ.set i (some u)) S=some (.nx,ρ',S')/\P (k+j+1) ρ' S') ->
  ∃ρ' S',qb i b us ρ S=some (.nx,ρ',S')/\P (k+us.length) ρ' S'
 | [],k,ρ,S,h,_=>⟨ρ,S,rfl,h⟩
 | u::us,k,ρ,S,h,st=>by
   obtain⟨ρ1,S1,e1,h1⟩:=st 0 u ρ S rfl h
   obtain⟨ρ2,S2,e2,h2⟩:=oh P us (k+1) ρ1 S1 h1 λj v ρ S hj hp=>by
    have:=st (j+1) v ρ S (by simpa using hj) (by rw[show k+(j+1)=k+1+j by omega];exact hp)
    rw[show k+(j+1)+1=k+1+j+1 by omega]at this
    exact this
   refine⟨ρ2,S2,?_,by rw[show k+(u::us).length=k+1+us.length by simp;omega];exact h2⟩
   show aft (b (ρ.set i (some u)) S) (qb i b us)=_
   rw[e1];exact e2
theorem mP{e:ME}{ρ:Rho}(g:Nat->U)(P:Nat->Sto->Prop): ∀(us:List U) (k:Nat) (acc:List U) (S:Sto),P k S ->
  (∀(j:Nat) (u:U) (S:Sto),us[j]? = some u->P (k+j) S -> ∃S',e (ρ++[some u]) S=some (g (k+j),S')/\P (k+j+1) S') ->
  ∃S',gp cTT e ρ us acc S=some (acc++(aE us.length).map (λj=>g (k+j)),S')/\P (k+us.length) S'
 | [],k,acc,S,h,_=>⟨S,by simp[gp],h⟩
 | u::us,k,acc,S,h,st=>by
   obtain⟨S1,e1,h1⟩:=st 0 u S rfl h
   obtain⟨S2,e2,h2⟩:=mP g P us (k+1) (acc++[g k]) S1 h1 λj v S hj hp=>by
    have:=st (j+1) v S (by simpa using hj) (by rw[show k+(j+1)=k+1+j by omega];exact hp)
    rw[show k+(j+1)+1=k+1+j+1 by omega,show k+(j+1)=k+1+j by omega]at this
    exact this
   refine⟨S2,?_,by rw[show k+(u::us).length=k+1+us.length by simp;omega];exact h2⟩
   show bnd (cTT (ρ++[some u]) S) _=_
   simp only[cTT,aH,if_true]
   rw[e1]
   simp only[aH,Em]
   rw[e2]
   simp only[aW,gL,Prod.mk.injEq,and_true]
   rw[cu,BK,bM,b4]
   simp only[List.singleton_append,Em,List.append_cancel_left_eq,List.cons.injEq,true_and]
   apply bt
   intro j _
   simp only[Function.comp]
   congr 1;omega
noncomputable def A1(n:Nat)(g:Nat->U):U:= .tup ((aE n).map g)
theorem mM{n:Nat}(h:n<big):okR (n:Int):=by
 unfold big at h
 exact⟨by exact kN _,by omega⟩
theorem nu{ρ:Rho}{S S0:Sto}{a:ME}{u:U}(ha:a ρ S=some (u,S0)):aa a ah ρ S=some ([u],S0):=by
 simp only[aa,ah,ha,aH]
theorem JH{ρ:Rho}{S S0:Sto}{a:MA}{j:Int}(ha:a ρ S=some ([.int j],S0))(h:okR j):iR1 a ρ S=some (.imm (bh 0 j.toNat),S0):=by
 unfold iR1
 rw[ha]
 exact if_pos h
theorem mL{ρ:Rho}{S S0:Sto}{a:ME}{n:Nat}(ha:a ρ S=some (.int n,S0))(h:n<big):iR1 (aa a ah) ρ S=some (.imm (bh 0 n),S0):=by
 rw[JH (nu ha) (mM h),bL]
theorem mY{ρ:Rho}{S S0 S1:Sto}{it:MI}{t:MT}{e:ME}{us ys:List U}(hi:it ρ S=some (.imm us,S0))(h:gp t e ρ us [] S0=some (ys,S1))(hz:ys.length<big):cq it t e ρ S=some (.ref S1.length,S1++[.lst ys]):=by
 simp only[cq,hi,aH,DG,h]
 exact if_pos hz
theorem dS{ρ:Rho}{S S1:Sto}{a:ME}{ys:List U}(h:a ρ S=some (.ref S1.length,S1++[.lst ys])):mFn b9 (aa a ah) ρ S=some (.tup ys,S1++[.lst ys]):=by
 unfold mFn
 rw[nu h]
 show(dz (S1++[Cell.lst ys]) (.ref S1.length)).map _=_
 have:dz (S1++[Cell.lst ys]) (.ref S1.length)=some ys:=by
  show getL (S1++[Cell.lst ys]) S1.length=_
  unfold getL
  rw[aG (aq _)]
  simp
 rw[this];rfl
theorem GU{ρ:Rho}{S S0:Sto}{a e:ME}{n:Nat}(ha:a ρ S=some (.int n,S0))(hn:n<big)(g:Nat->U)(P:Nat->Sto->Prop)(h0:P 0 S0)
  (hs: ∀(j:Nat) (S:Sto),j<n->P j S -> ∃S',e (ρ++[some (.int j)]) S=some (g j,S')/\P (j+1) S'):
  ∃S',mFn b9 (aa (cq (iR1 (aa a ah)) cTT e) ah) ρ S=some (A1 n g,S'++[.lst ((aE n).map g)])/\P n S':=by
 obtain⟨S1,e1,h1⟩:=mP (e:=e) (ρ:=ρ) g P (bh 0 n) 0 [] S0 h0 λj u S hj hp=>by
  have hl:j<n:=by have:=(ak.mp hj).1;simpa [bh]using this
  have hu:(bh 0 n)[j]? = some (.int j):=by simp[bh,hl]
  rw[hu]at hj;cases hj
  simpa using hs j S hl (by simpa using hp)
 have hlen:(bh 0 n).length=n:=by simp[bh]
 simp only[hlen,d5,eK]at e1 h1
 exact⟨S1,dS (mY (mL ha hn) e1 (by rw[aA,bD];exact hn)),h1⟩
theorem LL{ρ:Rho}{S S0:Sto}{a e:ME}{us:List U}(ha:a ρ S=some (.tup us,S0))(hn:us.length<big)(g:Nat->U)(P:Nat->Sto->Prop)(h0:P 0 S0)
  (hs: ∀(j:Nat) (u:U) (S:Sto),us[j]? = some u->P j S -> ∃S',e (ρ++[some u]) S=some (g j,S')/\P (j+1) S'):
  ∃S',mFn b9 (aa (cq (dv a) cTT e) ah) ρ S=some (A1 us.length g,S'++[.lst ((aE us.length).map g)])/\P us.length S':=by
 obtain⟨S1,e1,h1⟩:=mP (e:=e) (ρ:=ρ) g P us 0 [] S0 h0 λj u S hj hp=>by
  simpa using hs j u S hj (by simpa using hp)
 simp only[d5,eK]at e1 h1
 exact⟨S1,dS (mY (it:=dv a) (us:=us) (by unfold dv;rw[ha];rfl) e1 (by rw[aA,bD];exact hn)),h1⟩
noncomputable def ng(m:Nat)(T:Nat->Nat->Nat)(i:Nat):U:=A1 m λj => .int (T i j)
noncomputable def tab(m:Nat)(T:Nat->Nat->Nat):U:=A1 m (ng m T)
theorem tY{α:Type}{f:Nat->α}{m i:Nat}(h:i<m):atI ((aE m).map f) (i:Int)=some (f i):=by
 simp[atI,ixN,h]
theorem n9{n:Nat}{S:Sto}(h:0<n)(hn:n<big): ∃S',cc [.int n] S=some (tab n (d0 n),S')/\Ex S S':=by
 have key: ∃S',mFn b9 (aa (cq (iR1 (aa (ae 0) ah)) cTT (mFn b9 (aa (cq (iR1 (aa (ae 0) ah)) cTT (m2 oMod (m2 dq (ae 1) (ae 2)) (ae 0))) ah))) ah) [some (.int n)] S=some (A1 n (ng n (d0 n)),S'++[.lst ((aE n).map (ng n (d0 n)))])/\Ex S S':=by
  refine GU (S0:=S) (by simp[ae]) hn _ (λ_ S'=>Ex S S') (Ex.refl S) λi S1 hi hx =>?_
  obtain⟨S2,e2,h2⟩:=GU (ρ:= [some (.int n),some (.int i)]) (S:=S1) (S0:=S1) (a:=ae 0) (e:=m2 oMod (m2 dq (ae 1) (ae 2)) (ae 0)) (n:=n) (by simp[ae]) hn (λj => .int (d0 n i j)) (λ_ S'=>S'=S1) rfl λj S' hj hx=>by
   refine⟨S',?_,hx⟩
   have h0:(0:Int)<n:=by omega
   simp only[m2,ae,List.cons_append,eK,List.getElem?_cons_succ,List.getElem?_cons_zero,aH,dq,oMod,h0,if_true,d0,Int.natCast_emod,Int.natCast_add]
  subst h2
  exact⟨S2++[_],e2,hx.trans (Ex.push _ _)⟩
 obtain⟨S',e,hx⟩:=key
 refine⟨S'++[.lst ((aE n).map (ng n (d0 n)))],?_,hx.trans (Ex.push _ _)⟩
 simp only[cc,_G.run,lJ,bB,cu,eJ,bM,sv,Nat.sub_self,List.replicate_zero,cD,if_true,e,aH,tab]
end
end _W
end
section
namespace _W
open _L _G
section
theorem AV{n:Nat}(h:0<n)(h2:n<1000):uo (n:Int):=⟨by omega,by omega⟩
theorem EX{i j:Int}(h1: -1000000000<=i)(h2:i<=1000000000):oC i j:= .inl ⟨by omega,by omega⟩
theorem Br{n:Nat}{j:Int}(h:n<1000000):oC (n:Int) j:=EX (by exact kN _) (by omega)
noncomputable def Agr(L:List Nat)(ρ0 ρ:Rho):Prop:=ρ.length=ρ0.length /\ ∀i,i∉L->ρ[i]? = ρ0[i]?
theorem Agr.refl(L:List Nat)(ρ:Rho):Agr L ρ ρ:=⟨rfl,λ_ _=>rfl⟩
theorem Agr.set{L:List Nat}{ρ0 ρ:Rho}{i:Nat}{v:Option U}(h:Agr L ρ0 ρ)(hi:i∈L):Agr L ρ0 (ρ.set i v):=
 ⟨by rw[fF];exact h.1,λj hj=>by rw[aP (by rintro rfl;exact hj hi)];exact h.2 j hj⟩
structure Sm(b:Nat)(S0 S:Sto):Prop where
 len:S0.length<=S.length
 same: ∀m,m<b->S[m]? = S0[m]?
theorem Sm.trans{b:Nat}{S0 S1 S2:Sto}(a:Sm b S0 S1)(c:Sm b S1 S2):Sm b S0 S2:=⟨aM a.len c.len,λm h=>(c.same m h).trans (a.same m h)⟩
theorem Sm.ex{b:Nat}{S0 S:Sto}(h:Ex S0 S)(hb:b<=S0.length):Sm b S0 S:=⟨h.len,λm hm=>h.get (ag hm hb)⟩
theorem Sm.set{b n:Nat}{S0 S:Sto}{c:Cell}(h:Sm b S0 S)(hn:b<=n):Sm b S0 (S.set n c):=
 ⟨by rw[fF];exact h.len,λm hm=>by rw[aP (by omega)];exact h.same m hm⟩
structure Wr(r:Nat)(S S':Sto):Prop where
 len:S.length<=S'.length
 same: ∀m,m<S.length->m≠r->S'[m]? = S[m]?
theorem Wr.trans{r:Nat}{S S1 S2:Sto}(a:Wr r S S1)(b:Wr r S1 S2):Wr r S S2:=
 ⟨aM a.len b.len,λm h1 h2=>(b.same m (ag h1 a.len) h2).trans (a.same m h1 h2)⟩
theorem Wr.refl(r:Nat)(S:Sto):Wr r S S:=⟨aq _,λ_ _ _=>rfl⟩
theorem Wr.set(r:Nat)(S:Sto)(c:Cell):Wr r S (S.set r c):=⟨by simp,λm _ h=>aP (cU h)⟩
theorem Wr.sm{r b:Nat}{S S':Sto}(h:Wr r S S')(hb:b<=r)(hr:b<=S.length):Sm b S S':=⟨h.len,λm hm=>h.same m (by exact ag (by assumption) (by assumption)) (by omega)⟩
theorem qz{ρ:Rho}{i:Nat}{v:Option U}(h:i<ρ.length):(ρ.set i v)[i]? = some v:=bq h
theorem var_eq{ρ:Rho}{S:Sto}{i:Nat}{u:U}(h:ρ[i]? = some (some u)):ae i ρ S=some (u,S):=by simp only[ae,h]
theorem Dy{ρ:Rho}{S:Sto}{i:Nat}{a:ME}{n:Nat}{b:MS}(ha:a ρ S=some (.int n,S))(h:n<big):ft i (iR1 (aa a ah)) b ρ S=qb i b (bh 0 n) ρ S:=by
 unfold ft
 rw[mL ha h]
 rfl
theorem mS{ρ:Rho}{S:Sto}{i:Nat}{a:ME}{n:Nat}{b:MS}(ha:a ρ S=some (.int n,S))(h:n<big)(P:Nat->Rho->Sto->Prop)(h0:P 0 ρ S)
  (st: ∀(j:Nat) (ρ:Rho) (S:Sto),j<n->P j ρ S -> ∃ρ' S',b (ρ.set i (some (.int j))) S=some (.nx,ρ',S')/\P (j+1) ρ' S'):
  ∃ρ' S',ft i (iR1 (aa a ah)) b ρ S=some (.nx,ρ',S')/\P n ρ' S':=by
 rw[Dy ha h]
 obtain⟨ρ',S',e,q⟩:=oh (i:=i) (b:=b) P (bh 0 n) 0 ρ S h0 λj u ρ S hj hp=>by
  have hl:j<n:=by have:=(ak.mp hj).1;simpa [bh]using this
  have hu:(bh 0 n)[j]? = some (.int j):=by simp[bh,hl]
  rw[hu]at hj;cases hj
  simpa using st j ρ S hl (by simpa using hp)
 have hlen:(bh 0 n).length=n:=by simp[bh]
 rw[hlen,d5]at q
 exact⟨ρ',S',e,q⟩
theorem append_eq{ρ:Rho}{S S1:Sto}{o a:ME}{r:Nat}{u:U}{row:List U}(ho:o ρ S=some (.ref r,S))(ha:a ρ S=some (u,S1))(hr:S[r]? = some (Cell.lst row))(hr1:S1[r]? = some (Cell.lst row))(hl:row.length<big):
  fb (mML d7 o (aa a ah)) ρ S=some (.nx,ρ,S1.set r (Cell.lst (row++[u]))):=by
 simp only[fb,mML,ho,aH,getL,hr,ar,nu ha,d7,hr1,hl,if_true]
theorem rH{ρ:Rho}{S:Sto}{a:ME}{r:Nat}{row:List U}(ha:a ρ S=some (.ref r,S))(hr:S[r]? = some (Cell.lst row)):mFn b9 (aa a ah) ρ S=some (.tup row,S):=by
 simp only[mFn,nu ha,aH,b9,dz,getL,hr,bb]
theorem build{fs rs is js:Nat}{L:List Nat}{ρ0:Rho}{S0:Sto}{bIn:MS}{a:ME}{m:Nat}{T:Nat->Nat->Nat}(hm:m<big)(h1:rs∈L)(h2:is∈L)(h3:js∈L)(h4:fs∉L)(d1:rs≠is)(d2:js≠is)(d3:js≠rs)
  (l1:rs<ρ0.length) (l2:is<ρ0.length) (l3:js<ρ0.length) (hf:ρ0[fs]? = some (some (.ref S0.length)))
  (ha: ∀ρ S,Agr L ρ0 ρ->Sm S0.length S0 S->a ρ S=some (.int m,S))
  (hb: ∀(i j r:Nat) (ρ:Rho) (S:Sto) (row:List U),i<m->j<m->Agr L ρ0 ρ->ρ[is]? = some (some (.int i))->ρ[js]? = some (some (.int j))->ρ[rs]? = some (some (.ref r))->Sm S0.length S0 S->S0.length<r->S[r]? = some (Cell.lst row)->row.length<big ->
   ∃ρ' S',bIn ρ S=some (.nx,ρ',S')/\Agr L ρ0 ρ'/\ρ'[is]? = some (some (.int i))/\ρ'[rs]? = some (some (.ref r))/\Wr r S S'/\S'[r]? = some (Cell.lst (row++[.int (T i j)]))):
  ∃ρ' S',ft is (iR1 (aa a ah)) (ba (bC rs (fA ah)) (ba (ft js (iR1 (aa a ah)) bIn) (fb (mML d7 (ae fs) (aa (mFn b9 (aa (ae rs) ah)) ah))))) ρ0 (S0++[Cell.lst []])=some (.nx,ρ',S') /\
   Agr L ρ0 ρ'/\Sm S0.length S0 S'/\S'[S0.length]? = some (Cell.lst ((aE m).map (ng m T))):=by
 have s0:Sm S0.length S0 (S0++[Cell.lst []]):=Sm.ex (Ex.push _ _) (aq _)
 refine mS (P:=λk ρ S=>Agr L ρ0 ρ/\Sm S0.length S0 S/\S0.length<S.length/\S[S0.length]? = some (Cell.lst ((aE k).map (ng m T)))) (ha _ _ (Agr.refl _ _) s0) hm ⟨Agr.refl _ _,s0,by simp,by rw[aG (aq _)];simp⟩ ?_ |>.imp λρ' h=>h.imp λS' h=>⟨h.1,h.2.1,h.2.2.1,h.2.2.2.2⟩
 rintro i ρ S hi ⟨g1,g2,g3,g4⟩
 have r0:S.length<(S++[Cell.lst ([]:List U)]).length:=by simp
 have e0:bC rs (fA ah) (ρ.set is (some (.int i))) S=some (.nx,(ρ.set is (some (.int i))).set rs (some (.ref S.length)),S++[Cell.lst []]):=by
  have hz:([]:List U).length<=big:=cR _
  simp only[bC,fA,ah,aH,hz,if_true]
 have ga:Agr L ρ0 ((ρ.set is (some (.int i))).set rs (some (.ref S.length))):=(g1.set h2).set h1
 have gs:Sm S0.length S0 (S++[Cell.lst ([]:List U)]):=g2.trans (Sm.ex (Ex.push _ _) g2.len)
 obtain⟨ρ1,S1,e1,q1,q2,q3,q4,q5⟩:=mS (b:=bIn) (i:=js) (P:=λk ρ1 S1=>Agr L ρ0 ρ1/\ρ1[is]? = some (some (.int i))/\ρ1[rs]? = some (some (.ref S.length))/\Wr S.length (S++[Cell.lst ([]:List U)]) S1/\S1[S.length]? = some (Cell.lst ((aE k).map λj => .int (T i j))))
  (ha _ _ ga gs) hm ⟨ga,by rw[aP d1,qz (by rw[g1.1];exact l2)],by rw[qz (by rw[fF,g1.1];exact l1)],Wr.refl _ _,by rw[aG (aq _)];simp⟩ (by
   rintro j ρ1 S1 hj ⟨q1,q2,q3,q4,q5⟩
   have sm1:Sm S0.length S0 S1:=gs.trans (q4.sm (bG g3) (by simp;omega))
   obtain⟨ρ2,S2,f1,f2,f3,f4,f5,f6⟩:=hb i j S.length (ρ1.set js (some (.int j))) S1 _ hi hj (q1.set h3) (by rw[aP d2];exact q2) (qz (by rw[q1.1];exact l3)) (by rw[aP d3];exact q3) sm1 g3 q5 (by rw[aA,bD];exact ck (by assumption) (by assumption))
   exact⟨ρ2,S2,f1,f2,f3,f4,q4.trans f5,by rw[f6,cZ,b5];rfl⟩)
 have g5:S1[S0.length]? = some (Cell.lst ((aE i).map (ng m T))):=by
  rw[q4.same _ (by simp;exact fR (by assumption)) (by exact aL (by assumption)),(Ex.push S _).get g3];exact g4
 have sm1:Sm S0.length S0 S1:=gs.trans (q4.sm (bG g3) (by simp;omega))
 have hfv:ae fs ρ1 S1=some (.ref S0.length,S1):=var_eq (by rw[q1.2 fs h4];exact hf)
 have e2:=append_eq (o:=ae fs) hfv (rH (a:=ae rs) (var_eq q3) q5) g5 g5 (by rw[aA,bD];exact ck (by assumption) (by assumption))
 refine⟨ρ1,S1.set S0.length (Cell.lst ((aE (i+1)).map (ng m T))),?_,q1,sm1.set (aq _),?_,?_⟩
 ·simp only[ba,e0,e1,e2]
  rw[cZ,b5];rfl
 ·rw[fF];have:=q4.len;simp at this;exact ck (by assumption) (by assumption)
 ·exact bq (by have:=q4.len;simp at this;exact ck (by assumption) (by assumption))
end
end _W
end
section
namespace _W
open _L _G
section
theorem aV{a b:MS}{ρ ρ1:Rho}{S S1:Sto}(h:a ρ S=some (.nx,ρ1,S1)):ba a b ρ S=b ρ1 S1:=by simp only[ba,h]
theorem bV{e:ME}{ρ:Rho}{S S1:Sto}{u:U}(h:e ρ S=some (u,S1)):bB e ρ S=some (.rt u,ρ,S1):=by simp only[bB,h,aH]
theorem bT{e:ME}{ρ:Rho}{S S1:Sto}{u:U}{i:Nat}(h:e ρ S=some (u,S1)):bC i e ρ S=some (.nx,ρ.set i (some u),S1):=by simp only[bC,h,aH]
theorem z9{ρ:Rho}{S:Sto}:fA ah ρ S=some (.ref S.length,S++[Cell.lst []]):=by
 have hz:([]:List U).length<=big:=cR _
 simp only[fA,ah,aH,hz,if_true]
theorem bW{k n:Nat}{b:MS}{us:List U}{S S1:Sto}{u:U}{ρ:Rho}(hl:us.length=k)(h:b (us.map some++aw (n - k) none) S=some (.rt u,ρ,S1)):_G.run k n b us S=some (u,S1):=by
 simp only[_G.run,hl,if_true,h]
theorem Sm.toEx{S S':Sto}(h:Sm S.length S S'):Ex S S':=by
 refine⟨S'.drop S.length,List.ext_getElem? λi =>?_⟩
 by_cases hi:i<S.length
 ·rw[bg hi];exact h.same i hi
 ·rw[aG (by exact b6 (by assumption)),List.getElem?_drop];congr 1;omega
end
end _W
end
section
namespace _W
open _L _G
section
section
variable {ρ:Rho}{S S1 S2:Sto}{a b:ME}
theorem op2{f:F2}{x y:U}{r:Res U}(ha:a ρ S=some (x,S1))(hb:b ρ S1=some (y,S2))(h:f x y S2=r):m2 f a b ρ S=r:=by simp only[m2,ha,hb,aH,h]
theorem yJ{us:List U}{z:Int}{u:U}(ha:a ρ S=some (.tup us,S1))(hb:b ρ S1=some (.int z,S2))(h:atI us z=some u):m2 oIx a b ρ S=some (u,S2):=op2 ha hb (by simp only[oIx,fJ,dz,ar,h,bb])
theorem JU{n:Nat}{us:List U}{z:Int}{u:U}(ha:a ρ S=some (.ref n,S1))(hb:b ρ S1=some (.int z,S2))(hn:S2[n]? = some (Cell.lst us))(h:atI us z=some u):m2 oIx a b ρ S=some (u,S2):=op2 ha hb (by simp only[oIx,fJ,dz,getL,hn,ar,h,bb])
theorem KJ{x y:Int}(ha:a ρ S=some (.int x,S1))(hb:b ρ S1=some (.int y,S2)):m2 dq a b ρ S=some (.int (x+y),S2):=op2 ha hb rfl
theorem xg{x y:Int}(ha:a ρ S=some (.int x,S1))(hb:b ρ S1=some (.int y,S2)):m2 kh a b ρ S=some (.int (x - y),S2):=op2 ha hb rfl
theorem Mx{x y:Int}(ha:a ρ S=some (.int x,S1))(hb:b ρ S1=some (.int y,S2))(h:oC x y):m2 gg a b ρ S=some (.int (x*y),S2):=op2 ha hb (if_pos h)
theorem LS{x y:Int}(ha:a ρ S=some (.int x,S1))(hb:b ρ S1=some (.int y,S2))(h:uo y):m2 oDiv a b ρ S=some (.int (x / y),S2):=op2 ha hb (if_pos h)
theorem Hj{x y:Int}(ha:a ρ S=some (.int x,S1))(hb:b ρ S1=some (.int y,S2))(h:0<y):m2 oMod a b ρ S=some (.int (x % y),S2):=op2 ha hb (if_pos h)
theorem c_i{z:Int}:mC (.int z) ρ S=some (.int z,S):=rfl
theorem nD{us:List U}(ha:a ρ S=some (.tup us,S1)):mFn bK (aa a ah) ρ S=some (.int us.length,S1):=by
 simp only[mFn,nu ha,aH,bK,fJ,dz,bb]
theorem len_tab{m:Nat}{T:Nat->Nat->Nat}(ha:a ρ S=some (tab m T,S1)):mFn bK (aa a ah) ρ S=some (.int m,S1):=by
 rw[nD (us:=(aE m).map (ng m T)) ha,aA,bD]
theorem iG{m i:Nat}{T:Nat->Nat->Nat}(hi:i<m)(ha:a ρ S=some (tab m T,S1))(hb:b ρ S1=some (.int i,S2)):m2 oIx a b ρ S=some (ng m T i,S2):=yJ ha hb (tY hi)
theorem iY{m i j:Nat}{T:Nat->Nat->Nat}(hj:j<m)(ha:a ρ S=some (ng m T i,S1))(hb:b ρ S1=some (.int j,S2)):m2 oIx a b ρ S=some (.int (T i j),S2):=yJ ha hb (tY hj)
theorem B0{x y:Nat}(ha:a ρ S=some (.int x,S1))(hb:b ρ S1=some (.int y,S2))(h:0<y)(h2:y<1000):m2 oDiv a b ρ S=some (.int (x / y:Nat),S2):=by rw[LS ha hb (AV h h2),Int.natCast_ediv]
theorem Ae{x y:Nat}(ha:a ρ S=some (.int x,S1))(hb:b ρ S1=some (.int y,S2))(h:0<y):m2 oMod a b ρ S=some (.int (x % y:Nat),S2):=by rw[Hj ha hb (by omega),Int.natCast_emod]
theorem Cq{x y:Nat}(ha:a ρ S=some (.int x,S1))(hb:b ρ S1=some (.int y,S2))(h:x<1000000):m2 gg a b ρ S=some (.int (x*y:Nat),S2):=by rw[Mx ha hb (Br h),Int.natCast_mul]
theorem add_n{x y:Nat}(ha:a ρ S=some (.int x,S1))(hb:b ρ S1=some (.int y,S2)):m2 dq a b ρ S=some (.int (x+y:Nat),S2):=by rw[KJ ha hb,Int.natCast_add]
end
theorem Agr.of{L:List Nat}{ρ0 ρ:Rho}{i:Nat}{v:Option U}(h:Agr L ρ0 ρ)(hi:i∉L)(e:ρ0[i]? = some v):ρ[i]? = some v:=(h.2 i hi).trans e
noncomputable def IJ:MS:=ba (bC 7 (m2 oIx (m2 oIx (ae 0) (m2 oDiv (ae 4) (ae 2))) (m2 oDiv (ae 6) (ae 2)))) (fb (mML d7 (ae 5) (aa (m2 dq (m2 gg (ae 7) (ae 2)) (m2 oIx (m2 oIx (ae 1) (m2 oMod (ae 4) (ae 2))) (m2 oMod (ae 6) (ae 2)))) ah)))
theorem F8{k m:Nat}{A B:Nat->Nat->Nat}{S:Sto}(hk:0<k)(hk2:k<1000)(hm:0<m)(hm2:m<1000)(ca: ∀i j,i<k->j<k->A i j<k): ∃S',i4 [tab k A,tab m B] S=some (tab (k*m) (kU m A B),S')/\Ex S S':=by
 have hkm:k*m<1000000:=by
  calc k*m<=999*m:=gk m (by exact dR (by assumption))
   _<=999*999:=qw 999 (by exact dR (by assumption))
   _<1000000:=by decide
 have hbig:k*m<big:=by unfold big;exact ag (by assumption) (by decide)
 have dl: ∀i,i<k*m->i / m<k:=λi hi=>jx (by rw[eM];exact hi)
 have rl: ∀i,i % m<m:=λi=>kI _ hm
 obtain⟨ρ1,S1,e1,q1,q2,q3⟩:=build (fs:=3) (rs:=5) (is:=4) (js:=6) (L:= [4,5,6,7]) (ρ0:= [some (tab k A),some (tab m B),some (.int m),some (.ref S.length),none,none,none,none]) (S0:=S) (bIn:=IJ) (a:=m2 gg (mFn bK (aa (ae 0) ah)) (ae 2)) (m:=k*m) (T:=kU m A B)
  hbig (by decide) (by decide) (by decide) (by decide) (by decide) (by decide) (by decide) (by simp) (by simp) (by simp) rfl
  (λρ S' g s=>Cq (len_tab (var_eq (g.of (by decide) rfl))) (var_eq (g.of (by decide) rfl)) (by exact ag (by assumption) (by decide)))
  (λi j r ρ S' row hi hj g gi gj gr s hr he hl=>by
   have v0: ∀S',ae 0 ρ S'=some (tab k A,S'):=λS'=>var_eq (g.of (by decide) rfl)
   have v2: ∀S',ae 2 ρ S'=some (.int m,S'):=λS'=>var_eq (g.of (by decide) rfl)
   have e7:m2 oIx (m2 oIx (ae 0) (m2 oDiv (ae 4) (ae 2))) (m2 oDiv (ae 6) (ae 2)) ρ S'=some (.int (A (i / m) (j / m)),S'):=
    iY (dl j hj) (iG (dl i hi) (v0 _) (B0 (var_eq gi) (v2 _) hm hm2)) (B0 (var_eq gj) (v2 _) hm hm2)
   have hlen:ρ.length=8:=g.1
   have g':Agr [4,5,6,7] _ (ρ.set 7 (some (.int (A (i / m) (j / m))))):=g.set (by decide)
   have w2: ∀S',ae 2 (ρ.set 7 (some (.int (A (i / m) (j / m))))) S'=some (.int m,S'):=λS'=>var_eq (g'.of (by decide) rfl)
   have w1: ∀S',ae 1 (ρ.set 7 (some (.int (A (i / m) (j / m))))) S'=some (tab m B,S'):=λS'=>var_eq (g'.of (by decide) rfl)
   have w7: ∀S',ae 7 (ρ.set 7 (some (.int (A (i / m) (j / m))))) S'=some (.int (A (i / m) (j / m)),S'):=λS'=>var_eq (qz (by omega))
   have n4:(ρ.set 7 (some (.int (A (i / m) (j / m)))))[4]? = some (some (.int i)):=by rw[aP (by decide)];exact gi
   have n5:(ρ.set 7 (some (.int (A (i / m) (j / m)))))[5]? = some (some (.ref r)):=by rw[aP (by decide)];exact gr
   have n6:(ρ.set 7 (some (.int (A (i / m) (j / m)))))[6]? = some (some (.int j)):=by rw[aP (by decide)];exact gj
   have hA:A (i / m) (j / m)<1000000:=ck (ca _ _ (dl i hi) (dl j hj)) (by exact ag (by assumption) (by decide))
   have ev:m2 dq (m2 gg (ae 7) (ae 2)) (m2 oIx (m2 oIx (ae 1) (m2 oMod (ae 4) (ae 2))) (m2 oMod (ae 6) (ae 2))) (ρ.set 7 (some (.int (A (i / m) (j / m))))) S'=some (.int (kU m A B i j:Nat),S'):=
    add_n (Cq (w7 _) (w2 _) hA) (iY (rl j) (iG (rl i) (w1 _) (Ae (var_eq n4) (w2 _) hm)) (Ae (var_eq n6) (w2 _) hm))
   exact⟨_,_,(aV (bT e7)).trans (append_eq (var_eq n5) ev he he hl),g',n4,n5,Wr.set _ _ _,bq (ak.mp he).1⟩)
 have e2:mFn b9 (aa (ae 3) ah) ρ1 S1=some (tab (k*m) (kU m A B),S1):=rH (var_eq (q1.of (by decide) rfl)) q3
 refine⟨S1,bW (ρ:=ρ1) rfl ?_,q2.toEx⟩
 show nP [some (tab k A),some (tab m B),none,none,none,none,none,none] S=_
 exact(aV (bT (len_tab (var_eq rfl)))).trans ((aV (bT z9)).trans ((aV e1).trans (bV e2)))
end
end _W
end
section
namespace _W
open _L _G
section
end
end _W
end
section
namespace _W
open _L _G
section
theorem tZ{e:ME}{ρ:Rho}(P:List U->Sto->Prop): ∀(us acc:List U) (S:Sto),P acc S ->
  (∀(k:Nat) (acc':List U) (u:U) (S:Sto),us[k]? = some u->acc'.length=acc.length+k->P acc' S -> ∃v S',e (ρ++[some u]) S=some (v,S')/\P (acc'++[v]) S') ->
  ∃ys S',gp cTT e ρ us acc S=some (ys,S')/\P ys S'/\ys.length=acc.length+us.length
 | [],acc,S,h,_=>⟨acc,S,rfl,h,by simp⟩
 | u::us,acc,S,h,st=>by
   obtain⟨v,S1,e1,h1⟩:=st 0 acc u S rfl (by simp) h
   obtain⟨ys,S2,e2,h2,h3⟩:=tZ P us (acc++[v]) S1 h1 λk acc' w S hk hl hp=>st (k+1) acc' w S (by simpa using hk) (by simp at hl;omega) hp
   refine⟨ys,S2,?_,h2,by simp at h3 ⊢;omega⟩
   show bnd (cTT (ρ++[some u]) S) _=_
   simp only[cTT,aH,if_true]
   rw[e1]
   exact e2
theorem Bf{ρ:Rho}{S S0:Sto}{a e:ME}{n:Nat}(ha:a ρ S=some (.int n,S0))(hn:n<big)(P:List U->Sto->Prop)(h0:P [] S0)
  (hs: ∀(k:Nat) (acc:List U) (S:Sto),k<n->acc.length=k->P acc S -> ∃v S',e (ρ++[some (.int k)]) S=some (v,S')/\P (acc++[v]) S'):
  ∃ys S',mFn b9 (aa (cq (iR1 (aa a ah)) cTT e) ah) ρ S=some (.tup ys,S'++[.lst ys])/\P ys S'/\ys.length=n:=by
 obtain⟨ys,S1,e1,h1,h2⟩:=tZ (e:=e) (ρ:=ρ) P (bh 0 n) [] S0 h0 λk acc u S hk hl hp=>by
  have hlt:k<n:=by have:=(ak.mp hk).1;simpa [bh]using this
  have hu:(bh 0 n)[k]? = some (.int k):=by simp[bh,hlt]
  rw[hu]at hk;cases hk
  exact hs k acc S hlt (by simpa using hl) hp
 have hlen:(bh 0 n).length=n:=by simp[bh]
 rw[hlen]at h2
 simp only[eJ,d5]at h2
 exact⟨ys,S1,dS (mY (mL ha hn) e1 (by rw[h2];exact hn)),h1,h2⟩
theorem Stp.set{n r:Nat}{S S':Sto}{c:Cell}(h:Stp n S S')(hr:S.length<=r)(hn:r≠n):Stp n S (S'.set r c):=by
 refine⟨by rw[fF];exact h.len,λm h1 h2=>by rw[aP (by omega)];exact h.same m h1 h2,?_⟩
 obtain⟨s,b,e⟩:=h.st
 exact⟨s,b,by rw[aP hn];exact e⟩
theorem Stp.step{n:Nat}{S S1 S2:Sto}(a:Stp n S S1)(e:Ex S1 S2):Stp n S S2:=a.trans (Stp.ex a.st e)
theorem bO{f:MF}{ρ:Rho}{S S1 S2:Sto}{a b:ME}{x y:U}{r:Res U}(ha:a ρ S=some (x,S1))(hb:b ρ S1=some (y,S2))(h:f [x,y] S2=r):mFn f (aa a (aa b ah)) ρ S=r:=by
 simp only[mFn,aa,ah,ha,hb,aH,h]
theorem iM{f:MF}{ρ:Rho}{S S1:Sto}{a:ME}{x:U}{r:Res U}(ha:a ρ S=some (x,S1))(h:f [x] S1=r):mFn f (aa a ah) ρ S=r:=by
 simp only[mFn,nu ha,aH,h]
theorem zJ{ρ:Rho}{S:Sto}{a:ME}{r:Nat}{us:List U}(ha:a ρ S=some (.ref r,S))(hr:S[r]? = some (Cell.lst us)):mFn bK (aa a ah) ρ S=some (.int us.length,S):=
 iM ha (by simp only[bK,fJ,dz,getL,hr,bb])
theorem tS{α β:Type}(f:α->β): ∀(l:List α) (j:Nat),(l.map f).eraseIdx j=(l.eraseIdx j).map f
 | [],_=>rfl
 | _::_,0=>rfl
 | x::l,j+1=>by simp[tS f l j]
noncomputable def ai(l:List Nat):List U:=l.map λ(x:Nat)=>U.int x
theorem wV{ρ:Rho}{S S1:Sto}{o a:ME}{r:Nat}{l:List Nat}{j:Nat}(ho:o ρ S=some (.ref r,S))(ha:a ρ S=some (.int j,S1))(hr:S[r]? = some (Cell.lst (ai l)))(hr1:S1[r]? = some (Cell.lst (ai l)))(hj:j<l.length)(hl:l.length<big):
  mML jL o (aa a ah) ρ S=some (.int l[j],S1.set r (Cell.lst (ai (l.eraseIdx j)))):=by
 have hok:okR (j:Int):=mM (by exact ck (by assumption) (by assumption))
 have hx:ixN (ai l).length (j:Int)=some j:=by
  have:(ai l).length=l.length:=by simp[ai]
  rw[this];simp[ixN,hj]
 have hg:(ai l)[j]? = some (.int l[j]):=by simp[ai,hj]
 have he:(ai l).eraseIdx j=ai (l.eraseIdx j):=tS _ _ _
 simp only[mML,ho,aH,getL,hr,ar,nu ha,jL,hr1,hok,if_true,hx,hg,bb,he]
theorem uC{ρ:Rho}{S:Sto}{a b:ME}{i j:Int}(ha:a ρ S=some (.int i,S))(hb:b ρ S=some (.int j,S))(h1:okR i)(h2:okR j)(hz:(bh i (j - i).toNat).length<=big):jN (iR2 (aa a (aa b ah))) ρ S=some (.ref S.length,S++[Cell.lst (bh i (j - i).toNat)]):=by
 have e:iR2 (aa a (aa b ah)) ρ S=some (.imm (bh i (j - i).toNat),S):=by
  unfold iR2
  simp only[aa,ah,ha,hb,aH]
  exact if_pos ⟨h1,h2⟩
 simp only[jN,e,aH,hz,if_true]
theorem cat_t{ρ:Rho}{S S1 S2:Sto}{a b:ME}{xs ys:List U}(ha:a ρ S=some (.tup xs,S1))(hb:b ρ S1=some (.tup ys,S2))(hz:xs.length+ys.length<=big):m2 dq a b ρ S=some (.tup (xs++ys),S2):=op2 ha hb (by simp only[dq,hz,if_true])
theorem kr(m:Nat)(hm:0<m):bh 1 ((m:Int) - 1).toNat=ai (bu 1 (m - 1)):=by
 have e:((m:Int) - 1).toNat=m - 1:=by omega
 rw[e]
 unfold bh ai
 rw[AC,b4]
 apply bt
 intro k _
 simp
theorem B6{n m:Nat}{S:Sto}(h:lj n S)(hm:0<m)(hm2:m<1000): ∃l S',gn [.ref n,.int m] S=some (.tup (ai l),S')/\Stp n S S'/\pf m l:=by
 have hn:=h.lt
 have hbig:m<big:=by unfold big;exact ag (by assumption) (by decide)
 have e0:jN (iR2 (aa (mC (.int 1)) (aa (ae 1) ah))) [some (.ref n),some (.int m),none] S=some (.ref S.length,S++[Cell.lst (ai (bu 1 (m - 1)))]):=by
  rw[uC (i:=1) (j:=m) rfl (var_eq rfl) ⟨by decide,by decide⟩ (mM hbig) (by rw[kr m hm,ai,aA,kf];exact aM (kO m 1) (bG hbig)),kr m hm]
 have st0:Stp n S (S++[Cell.lst (ai (bu 1 (m - 1)))]):=Stp.ex h (Ex.push _ _)
 obtain⟨ys,S1,e1,⟨tk,rem,rfl,q1,q2,q3⟩,e2⟩:=Bf (ρ:= [some (.ref n),some (.int m),some (.ref S.length)]) (S:=S++[Cell.lst (ai (bu 1 (m - 1)))]) (S0:=S++[Cell.lst (ai (bu 1 (m - 1)))])
  (a:=m2 kh (ae 1) (mC (.int 1))) (e:=mML jL (ae 2) (aa (mFn aK (aa (ae 0) (aa (mFn bK (aa (ae 2) ah)) ah))) ah)) (n:=m - 1)
  (by rw[xg (var_eq rfl) c_i];congr 3;exact(Int.natCast_sub hm).symm) (aJ (kO m 1) hbig)
  (λacc S' =>∃tk rem:List Nat,acc=ai tk/\S'[S.length]? = some (Cell.lst (ai rem))/\(tk++rem).Perm (bu 1 (m - 1))/\Stp n S S')
  ⟨[],bu 1 (m - 1),rfl,by rw[aG (aq _)];simp,by simp,st0⟩
  (by
   rintro k acc S' hk hl ⟨tk,rem,rfl,q1,q2,q3⟩
   have htk:tk.length=k:=by simpa [ai]using hl
   have hrem:rem.length=m - 1 - k:=by
    have:=q2.length_eq
    rw[bj,kf,htk]at this
    rw[<- this,Nat.add_sub_cancel_left]
   have hr0:0<rem.length:=by rw[hrem];exact Nat.sub_pos_of_lt hk
   have hr1:rem.length<1000:=by rw[hrem];exact aJ (aM (kO _ _) (kO _ _)) hm2
   obtain⟨r,S2,t1,t2,t3,t4,t5⟩:=zO (many:=(rem.length:Int)) q3.st (gA.mpr hr0) (by omega)
   obtain⟨j,rfl⟩:=BL t2
   have hj:j<rem.length:=gA.mp t3
   have ho: ∀S',ae 2 ([some (U.ref n),some (.int m),some (.ref S.length)]++[some (.int k)]) S'=some (.ref S.length,S'):=λS'=>var_eq rfl
   have hv: ∀S',ae 0 ([some (U.ref n),some (.int m),some (.ref S.length)]++[some (.int k)]) S'=some (.ref n,S'):=λS'=>var_eq rfl
   have hlen:mFn bK (aa (ae 2) ah) ([some (U.ref n),some (.int m),some (.ref S.length)]++[some (.int k)]) S'=some (.int rem.length,S'):=by
    rw[zJ (ho _) q1];simp[ai]
   have q1':S2[S.length]? = some (Cell.lst (ai rem)):=t4.some (by exact cj (by assumption)) q1
   refine⟨_,_,wV (ho _) (bO (hv _) hlen t1) q1 q1' hj (by unfold big;exact ag hr1 (by decide)),tk++[rem[j]],rem.eraseIdx j,by simp[ai],?_,?_,?_⟩
   ·exact bq (ak.mp q1').1
   ·refine EA ?_ q2
    rw[aW]
    exact(gh rem j hj).append_left tk
   ·exact(q3.trans t4).set (aq _) (by exact cj (by assumption)))
 have hrem:rem = []:=by
  have:=q2.length_eq
  simp[ai]at this e2
  exact dN (by omega)
 subst hrem
 rw[cD]at q2
 refine⟨0::tk,S1++[Cell.lst (ai tk)],bW (ρ:= [some (.ref n),some (.int m),some (.ref S.length)]) rfl ?_,q3.step (Ex.push _ _),AJ hm q2⟩
 show lX [some (.ref n),some (.int m),none] S=_
 refine(aV (bT e0)).trans (bV ?_)
 have ez:dg (aa (mC (.int 0)) ah) [some (.ref n),some (.int m),some (.ref S.length)] (S++[Cell.lst (ai (bu 1 (m - 1)))])=some (.tup [.int 0],S++[Cell.lst (ai (bu 1 (m - 1)))]):=by
  have hb1:1<=big:=by decide
  simp[dg,nu (show mC (.int 0) _ _=some (U.int 0,S++[Cell.lst (ai (bu 1 (m - 1)))]) from rfl),aH,hb1]
 exact cat_t ez e1 (by simp[ai]at e2 ⊢;omega)
theorem F6{S:Sto}{f:Nat}{i:Int}:toD S (f+1) (.int i)=some (.int i):=rfl
theorem rT{S:Sto}{f:Nat}: ∀(l:List Nat),dZ (toD S (f+1)) (ai l)=some (l.map λ(x:Nat)=>gU x)
 | []=>rfl
 | x::l=>by
   show(toD S (f+1) (.int x)).bind _=_
   rw[F6]
   simp only[ar]
   rw[show List.map (λ(x:Nat)=>U.int x) l=ai l from rfl,rT l]
   rfl
theorem wK(x:Nat): ∀(l:List Nat),x∈l->(l.map λ(x:Nat)=>gU x).findIdx? (λy=>gW y (.int x))=some (l.idxOf x)
 | [],h=>by simp at h
 | y::l,h=>by
   have e:gW (.int y) (.int x)=decide (y=x):=by
    simp[gW]
    by_cases hxy:y=x
    ·subst hxy;simp
    ·have: ¬((y:Int)=x):=by omega
     simp[hxy,this]
   rw[bM,List.findIdx?_cons,e,List.idxOf_cons]
   by_cases hxy:y=x
   ·subst hxy;simp
   ·have hm:x∈l:=by
     rcases aO.mp h with z |z
     ·exact absurd z.symm hxy
     ·exact z
    have hb:(y==x)=false:=by simpa using hxy
    rw[wK x l hm]
    simp[hxy,hb]
theorem Fg{S:Sto}{x:Nat}{l:List Nat}(h:x∈l):DT S (.int x) (ai l)=some (l.idxOf x):=by
 unfold DT
 rw[rT l]
 simp only[ar]
 rw[show toD S 40 (.int x)=some (.int x) from rfl]
 exact wK x l h
theorem xl{ρ:Rho}{S S1:Sto}{o a:ME}{l:List Nat}{x:Nat}(ho:o ρ S=some (.tup (ai l),S))(ha:a ρ S=some (.int x,S1))(h:x∈l):mMT gd o (aa a ah) ρ S=some (.int (l.idxOf x:Nat),S1):=by
 simp only[mMT,ho,aH,nu ha,gd,Fg h,bb]
 rfl
theorem q9{l:List Nat}{j:Nat}{u:U}(h:(ai l)[j]? = some u):j<l.length/\u = .int (oF l j):=by
 have hl:j<l.length:=by have:=(ak.mp h).1;simpa [ai]using this
 have:(ai l)[j]? = some (.int l[j]):=by simp[ai,hl]
 rw[this]at h;cases h
 exact⟨hl,by simp[oF,hl]⟩
theorem bU(l:List Nat):(ai l).length=l.length:=by simp[ai]
theorem CA{m:Nat}{T:Nat->Nat->Nat}{l:List Nat}{S:Sto}(hm:m<big)(g: ∀i j,i<m->j<m->T i j<m)(ho:pf m l): ∃S',gm [tab m T,.tup (ai l)] S=some (tab m (jg T (oF l) (pF l)),S')/\Ex S S':=by
 have hlen:=ho.len
 obtain⟨S1,e1,h1⟩:=LL (ρ:= [some (tab m T),some (.tup (ai l))]) (S:=S) (S0:=S) (a:=ae 1) (us:=ai l) (e:=mFn b9 (aa (cq (dv (ae 1)) cTT (mMT gd (ae 1) (aa (m2 oIx (m2 oIx (ae 0) (ae 2)) (ae 3)) ah))) ah))
  (var_eq rfl) (by rw[bU,hlen];exact hm) (ng m (jg T (oF l) (pF l))) (λ_ S'=>Ex S S') (Ex.refl _) (by
   intro i u S' hu hx
   obtain⟨hi,rfl⟩:=q9 hu
   rw[hlen]at hi
   obtain⟨S2,e2,h2⟩:=LL (ρ:= [some (tab m T),some (.tup (ai l)),some (.int (oF l i))]) (S:=S') (S0:=S') (a:=ae 1) (us:=ai l) (e:=mMT gd (ae 1) (aa (m2 oIx (m2 oIx (ae 0) (ae 2)) (ae 3)) ah))
    (var_eq rfl) (by rw[bU,hlen];exact hm) (λj => .int (jg T (oF l) (pF l) i j)) (λ_ S''=>S''=S') rfl (by
     intro j u S'' hu hx
     obtain⟨hj,rfl⟩:=q9 hu
     rw[hlen]at hj
     refine⟨S'',?_,hx⟩
     exact xl (var_eq rfl) (iY (ho.ord.ol j hj) (iG (ho.ord.ol i hi) (var_eq rfl) (var_eq rfl)) (var_eq rfl)) (ho.mem.mpr (g _ _ (ho.ord.ol i hi) (ho.ord.ol j hj))))
   subst h2
   rw[bU,hlen]at e2
   exact⟨_,e2,hx.trans (Ex.push _ _)⟩)
 rw[bU,hlen]at e1
 exact⟨_,bW (ρ:= [some (tab m T),some (.tup (ai l))]) rfl (show mx [some (tab m T),some (.tup (ai l))] S=_ from bV e1),h1.trans (Ex.push _ _)⟩
end
end _W
end
section
namespace _W
open _L _G
section
theorem NW{ρ:Rho}{S S1 S2:Sto}{a b:ME}{x y:Int}(ha:a ρ S=some (.int x,S1))(hb:b ρ S1=some (.int y,S2)):m2 oEq a b ρ S=some (.bl (x==y),S2):=op2 ha hb rfl
theorem CK{ρ:Rho}{S S1 S2:Sto}{a b:ME}{x y:Int}(ha:a ρ S=some (.int x,S1))(hb:b ρ S1=some (.int y,S2)):m2 oGt a b ρ S=some (.bl (decide (y<x)),S2):=op2 ha hb rfl
theorem of_eq{ρ:Rho}{S S1:Sto}{a:ME}{b:Bool}(h:a ρ S=some (.bl b,S1)):cOf a ρ S=some (b,S1):=by simp only[cOf,h,aH]
theorem or_eq{ρ:Rho}{S S1 S2:Sto}{a b:MT}{x y:Bool}(ha:a ρ S=some (x,S1))(hb:b ρ S1=some (y,S2))(e:x=true->S2=S1):cOr a b ρ S=some (x||y,S2):=by
 cases x
 ·simp[cOr,ha,hb,aH]
 ·simp[cOr,ha,aH,e rfl]
theorem p9{c:MT}{a b:MS}{ρ:Rho}{S S1:Sto}(h:c ρ S=some (true,S1)):sIf c a b ρ S=a ρ S1:=by simp[sIf,h,aH]
theorem gG{c:MT}{a b:MS}{ρ:Rho}{S S1:Sto}(h:c ρ S=some (false,S1)):sIf c a b ρ S=b ρ S1:=by simp[sIf,h,aH]
theorem jf{n m:Nat}{S:Sto}(h:lj n S)(hm:0<m)(hm2:m<1000): ∃r S',aK [.ref n,.int m] S=some (.int (r:Nat),S')/\r<m/\Stp n S S':=by
 obtain⟨r,S',e,h1,h2,h3,_⟩:=zO (many:=(m:Int)) h (by omega) (by omega)
 obtain⟨r,rfl⟩:=BL h1
 exact⟨r,S',e,by omega,h3⟩
section
variable {n most way:Nat}{S0 S:Sto}{ρ:Rho}
theorem Ea{ρ:Rho}{S S1 S2:Sto}{a b:ME}{x y:U}(ha:a ρ S=some (x,S1))(hb:b ρ S1=some (y,S2)):fA (aa a (aa b ah)) ρ S=some (.ref S2.length,S2++[Cell.lst [x,y]]):=by
 have hz:2<=big:=by decide
 simp[fA,aa,ah,aH,ha,hb,hz]
end
end
end _W
end
section
namespace _W
open _L _G
section
noncomputable def Scr(ns:List Int)(S:Sto):Prop:=getL S 0=some (ns.map U.int)
theorem Scr.ex{ns:List Int}{S S':Sto}(h:Scr ns S)(e: ∀c,S[0]? = some c->S'[0]? = some c):Scr ns S':=by
 unfold Scr getL at h ⊢
 split at h
 ·rename_i us q;rw[e _ q];exact h
 ·rename_i us q;rw[e _ q];exact h
 all_goals cases h
theorem Scr.lt{ns:List Int}{S:Sto}(h:Scr ns S):0<S.length:=by
 unfold Scr getL at h
 split at h
 ·rename_i q;exact(ak.mp q).1
 ·rename_i q;exact(ak.mp q).1
 all_goals cases h
theorem fk{α:Type}(S:List α)(c:α):(S++[c])[S.length]? = some c:=by
 rw[aG (aq _)];simp
theorem KD{ρ:Rho}{S S1 S2:Sto}{a b:ME}{x y:Int}(ha:a ρ S=some (.int x,S1))(hb:b ρ S1=some (.int y,S2)):m2 oLt a b ρ S=some (.bl (decide (x<y)),S2):=op2 ha hb rfl
theorem KN{ρ:Rho}{S S1 S2:Sto}{a b:ME}{x y:Int}(ha:a ρ S=some (.int x,S1))(hb:b ρ S1=some (.int y,S2)):m2 oGe a b ρ S=some (.bl (decide (y<=x)),S2):=op2 ha hb rfl
theorem Hr{S:Sto}{r:Nat}{us:List U}(h:getL S r=some us):fJ S (.ref r)=none:=by
 unfold getL at h
 show(match S[r]? with
  | some (.dic kvs)=>some kvs
  | _=>none)=none
 split at h <;> rename_i q <;> first | (cases h;done) | (rw[q])
theorem G2{ρ:Rho}{S:Sto}{a:ME}{r:Nat}{us:List U}(ha:a ρ S=some (.ref r,S))(hr:getL S r=some us):mFn bK (aa a ah) ρ S=some (.int us.length,S):=
 iM ha (by simp only[bK,Hr hr,dz,hr,bb])
theorem NC{ρ:Rho}{S S1 S2:Sto}{a b:ME}{n:Nat}{us:List U}{z:Int}{u:U}(ha:a ρ S=some (.ref n,S1))(hb:b ρ S1=some (.int z,S2))(hn:getL S2 n=some us)(h:atI us z=some u):m2 oIx a b ρ S=some (u,S2):=op2 ha hb (by simp only[oIx,Hr hn,dz,hn,ar,h,bb])
theorem oR{α:Type}{us:List α}{k:Nat}{u:α}(h:us[k]? = some u):atI us (k:Int)=some u:=by
 have hk:k<us.length:=(ak.mp h).1
 simp[atI,ixN,hk]
 exact(ak.mp h).2
theorem FE{ns:List Int}{S:Sto}{k:Nat}(h:Scr ns S): ∃z,hX [.ref 0,.int k] S=some (.int z,S):=by
 have hc:=of_eq (KD (ρ:= [some (.ref 0),some (.int k)]) (S:=S) (a:=ae 1) (b:=mFn bK (aa (ae 0) ah)) (var_eq rfl) (G2 (var_eq rfl) h))
 rw[aA]at hc
 cases hb:decide ((k:Int)<ns.length) with
 | true=>
   rw[hb]at hc
   have hk:k<ns.length:=by simpa using hb
   have e:=NC (ρ:= [some (.ref 0),some (.int k)]) (S:=S) (a:=ae 0) (b:=ae 1) (var_eq rfl) (var_eq rfl) h (oR (k:=k) (u:= .int ns[k]) (by simp[hk]))
   refine⟨ns[k],bW (ρ:= [some (.ref 0),some (.int k)]) rfl ?_⟩
   show fV [some (.ref 0),some (.int k)] S=_
   unfold fV ba
   rw[p9 hc,bV e]
 | false=>
   rw[hb]at hc
   refine⟨0,bW (ρ:= [some (.ref 0),some (.int k)]) rfl ?_⟩
   show fV [some (.ref 0),some (.int k)] S=_
   exact(aV ((gG hc).trans rfl)).trans (bV c_i)
theorem Hu{ρ:Rho}{S:Sto}:m2 uN (mC (.int 10)) (mC (.int 18)) ρ S=some (.int (10 ^ (18:Int).toNat),S):=op2 rfl rfl (if_pos ⟨by decide,by decide,by decide⟩)
theorem Cu{ns:List Int}{S:Sto}{k:Nat}(h:Scr ns S): ∃S',jB [.ref 0,.int k] S=some (.ref S.length,S')/\Ex S S'/\lj S.length S':=by
 obtain⟨z,e1⟩:=FE (k:=k) h
 have e2:bC 2 (mFn hX (aa (ae 0) (aa (ae 1) ah))) [some (.ref 0),some (.int k),none] S=some (.nx,[some (.ref 0),some (.int k),some (.int z)],S):=bT (bO (var_eq rfl) (var_eq rfl) e1)
 have hc:=of_eq (KN (ρ:= [some (.ref 0),some (.int k),some (.int z)]) (S:=S) (a:=ae 2) (var_eq rfl) Hu)
 generalize hp:(10:Int) ^ (18:Int).toNat=p at hc
 have hpe: ∀ρ (S:Sto),m2 uN (mC (.int 10)) (mC (.int 18)) ρ S=some (.int p,S):=λρ S=>by rw[Hu,hp]
 cases hb:decide (p<=z) with
 | true=>
   rw[hb]at hc
   have e3:=Ea (ρ:= [some (.ref 0),some (.int k),some (.int z)]) (S:=S) (a:=m2 kh (ae 2) (m2 uN (mC (.int 10)) (mC (.int 18)))) (b:=mC (.bl true)) (xg (var_eq rfl) (hpe _ _)) rfl
   refine⟨_,bW (ρ:= [some (.ref 0),some (.int k),some (.int z)]) rfl ?_,Ex.push _ _,⟨z - p,true,fk _ _⟩⟩
   show jG [some (.ref 0),some (.int k),none] S=_
   refine(aV e2).trans ?_
   unfold ba
   rw[p9 hc,bV e3]
 | false=>
   rw[hb]at hc
   have e3:=Ea (ρ:= [some (.ref 0),some (.int k),some (.int z)]) (S:=S) (a:=m2 oMod (ae 2) (mC (.int 2147483647))) (b:=mC (.bl false)) (Hj (var_eq rfl) c_i (by decide)) rfl
   refine⟨_,bW (ρ:= [some (.ref 0),some (.int k),some (.int z)]) rfl ?_,Ex.push _ _,⟨z % 2147483647,false,fk _ _⟩⟩
   show jG [some (.ref 0),some (.int k),none] S=_
   exact(aV e2).trans ((aV ((gG hc).trans rfl)).trans (bV e3))
theorem wH{i n:Nat}{b:MS}(us:List U)(P:Nat->Rho->Sto->Prop)(hl: ∀k ρ S,P k ρ S->getL S n=some us)
  (st: ∀(k:Nat) (u:U) (ρ:Rho) (S:Sto),us[k]? = some u->P k ρ S -> ∃ρ' S',b (ρ.set i (some u)) S=some (.nx,ρ',S')/\P (k+1) ρ' S'):
  ∀(f k:Nat) (ρ:Rho) (S:Sto),k<=us.length->us.length - k<f->P k ρ S -> ∃ρ' S',forL i b n f k ρ S=some (.nx,ρ',S')/\P us.length ρ' S'
 | 0,k,ρ,S,h1,h2,_=>by omega
 | f+1,k,ρ,S,h1,h2,hp=>by
   unfold forL
   rw[hl k ρ S hp]
   simp only[ar]
   by_cases hk:k<us.length
   ·have hu:us[k]? = some us[k]:=by simp[hk]
    obtain⟨ρ1,S1,e1,p1⟩:=st k us[k] ρ S hu hp
    obtain⟨ρ2,S2,e2,p2⟩:=wH us P hl st f (k+1) ρ1 S1 (by assumption) (by omega) p1
    refine⟨ρ2,S2,?_,p2⟩
    simp only[hu,aft,e1,e2]
   ·have:k=us.length:=by omega
    subst this
    exact⟨ρ,S,by simp,hp⟩
theorem JZ{i n:Nat}{b:MS}{e:ME}{ρ:Rho}{S S1:Sto}{us:List U}(he:e ρ S=some (.ref n,S1))(hu:us.length<100000)(P:Nat->Rho->Sto->Prop)(h0:P 0 ρ S1)(hl: ∀k ρ S,P k ρ S->getL S n=some us)
  (st: ∀(k:Nat) (u:U) (ρ:Rho) (S:Sto),us[k]? = some u->P k ρ S -> ∃ρ' S',b (ρ.set i (some u)) S=some (.nx,ρ',S')/\P (k+1) ρ' S'):
  ∃ρ' S',ft i (dv e) b ρ S=some (.nx,ρ',S')/\P us.length ρ' S':=by
 obtain⟨ρ',S',e1,p1⟩:=wH us P hl st fuel 0 ρ S1 (cR _) (by unfold fuel;assumption) h0
 refine⟨ρ',S',?_,p1⟩
 unfold ft dv
 rw[he]
 simp only[aH,hl 0 ρ S1 h0,bb]
 exact e1
theorem vt{i:Nat}{b:MS}{e:ME}{ρ:Rho}{S S1:Sto}{us:List U}(he:e ρ S=some (.tup us,S1))(P:Nat->Rho->Sto->Prop)(h0:P 0 ρ S1)
  (st: ∀(k:Nat) (u:U) (ρ:Rho) (S:Sto),us[k]? = some u->P k ρ S -> ∃ρ' S',b (ρ.set i (some u)) S=some (.nx,ρ',S')/\P (k+1) ρ' S'):
  ∃ρ' S',ft i (dv e) b ρ S=some (.nx,ρ',S')/\P us.length ρ' S':=by
 obtain⟨ρ',S',e1,p1⟩:=oh (i:=i) (b:=b) P us 0 ρ S1 h0 λj u ρ S hj hp=>by simpa using st j u ρ S hj (by simpa using hp)
 rw[d5]at p1
 refine⟨ρ',S',?_,p1⟩
 unfold ft dv
 rw[he]
 exact e1
noncomputable def bH(T:Nat->Nat->Nat)(w:List Nat):Nat:=w.foldl T 0
noncomputable def plc(T:Nat->Nat->Nat)(w:List Nat):List Nat:=(aE (w.length+1)).map λk=>bH T (w.take k)
theorem zw{m:Nat}{T:Nat->Nat->Nat}(hp:0<m)(cl: ∀i j,i<m->j<m->T i j<m){w:List Nat}(hw: ∀x∈w,x<m):bH T w<m:=by
 unfold bH
 have: ∀(w:List Nat) (a:Nat),a<m->(∀x∈w,x<m)->w.foldl T a<m:=by
  intro w
  induction w with
  | nil=>intro a ha _;exact ha
  | cons x w ih=>intro a ha h;exact ih _ (cl a x ha (h x (by simp))) λy hy=>h y (by simp[hy])
 exact this w 0 hp hw
theorem uh{T:Nat->Nat->Nat}{w:List Nat}{k x:Nat}(h:w[k]? = some x):bH T (w.take (k+1))=T (bH T (w.take k)) x:=by
 unfold bH
 rw[sx,h]
 simp
theorem DE{α:Type}{f:Nat->α}{k:Nat}:atI ((aE (k+1)).map f) (-1)=some (f k):=by
 have e:ixN ((aE (k+1)).map f).length (-1)=some k:=by
  rw[aA,bD]
  unfold ixN
  rw[if_neg (by decide),if_pos (by omega)]
  congr 1;omega
 unfold atI
 rw[e]
 simp
theorem mw{l:List Nat}{k:Nat}{u:U}(h:(ai l)[k]? = some u): ∃x,l[k]? = some x/\u = .int x:=by
 obtain⟨hk,rfl⟩:=q9 h
 exact⟨oF l k,by simp[oF,hk],rfl⟩
theorem HF{ρ:Rho}{S:Sto}:m1 iS (mC (.int 1)) ρ S=some (.int (-1),S):=rfl
end
end _W
end
section
namespace _W
open _L _G
section
theorem rf: ∀(a b:List Nat),fM (a.map λ(x:Nat)=>gU x) (b.map λ(x:Nat)=>gU x)=decide (a=b)
 | [],[]=>by simp[fM]
 | [],_::_=>by simp[fM]
 | _::_,[]=>by simp[fM]
 | x::a,y::b=>by
   simp only[bM,fM,gW,rf a b]
   by_cases h:x=y
   ·subst h;simp
   ·have: ¬((x:Int)=y):=by omega
    simp[h,this]
theorem w4{S:Sto}{f:Nat}{l:List Nat}:toD S (f+2) (.tup (ai l))=some (.tuple (l.map λ(x:Nat)=>gU x)):=by
 show(dZ (toD S (f+1)) (ai l)).map _=_
 rw[rT l];rfl
theorem Aq{S:Sto}{a b:List Nat}:_G.eqU S (.tup (ai a)) (.tup (ai b))=some (decide (a=b)):=by
 unfold _G.eqU
 rw[w4 (f:=38),w4 (f:=38)]
 simp only[ar,bb,gW,rf]
theorem yp{ρ:Rho}{S S1 S2:Sto}{a b:ME}{x y:List Nat}(ha:a ρ S=some (.tup (ai x),S1))(hb:b ρ S1=some (.tup (ai y),S2)):m2 oNe a b ρ S=some (.bl (!decide (x=y)),S2):=
 op2 ha hb (by simp only[oNe,Aq,bb])
theorem isT {ρ:Rho}{S S1:Sto}{a:ME}{us:List U} (ha:a ρ S=some (.tup us,S1)):m1 (nR "tuple") a ρ S=some (.bl true,S1):=by
 simp only[m1,ha,aH,nR,tyU,bb]
 rfl
theorem not_eq{ρ:Rho}{S S1:Sto}{c:MT}{b:Bool}(h:c ρ S=some (b,S1)):nX c ρ S=some (!b,S1):=by simp only[nX,h,aH]
theorem E4{ρ:Rho}{S S1 S2 S3:Sto}{a b c:ME}{x y z:U}(ha:a ρ S=some (x,S1))(hb:b ρ S1=some (y,S2))(hc:c ρ S2=some (z,S3)):fA (aa a (aa b (aa c ah))) ρ S=some (.ref S3.length,S3++[Cell.lst [x,y,z]]):=by
 have hq:3<=big:=by decide
 simp[fA,aa,ah,aH,ha,hb,hc,hq]
theorem Ca{ns:List Int}{S:Sto}{ρ:Rho}{c:Nat}(h:Scr ns S)(hv:ρ[0]? = some (some (.ref 0)))(hl:ns.length<=63): ∃q:Nat,q<1000/\mFn wW (aa (mC (.int 1)) (aa (mFn pX (aa (mFn bK (aa (ae 0) ah)) (aa (mC (.int c)) ah))) ah)) ρ S=some (.int q,S):=by
 have e1:mFn pX (aa (mFn bK (aa (ae 0) ah)) (aa (mC (.int c)) ah)) ρ S=some (.int (if (c:Int)<(ns.map U.int).length then(c:Int) else(ns.map U.int).length),S):=bO (G2 (var_eq hv) h) c_i rfl
 have e2:=bO (f:=wW) (a:=mC (.int 1)) (S:=S) (ρ:=ρ) c_i e1 rfl
 rw[aA]at e2
 refine⟨max 1 (min ns.length c),Nat.max_lt.mpr ⟨by decide,aJ (aM (jQ _ _) hl) (by decide)⟩,?_⟩
 rw[e2]
 show some (U.int (if (if (c:Int)<ns.length then(c:Int) else ns.length) > 1 then(if (c:Int)<ns.length then(c:Int) else ns.length) else 1),S)=_
 have:(if (if (c:Int)<ns.length then(c:Int) else ns.length) > 1 then(if (c:Int)<ns.length then(c:Int) else ns.length) else 1)=((max 1 (min ns.length c):Nat):Int):=by
  by_cases h:(c:Int)<ns.length
  ·rw[Nat.min_eq_right (bG (gA.mp h)),if_pos h]
   split
   ·rename_i h1;rw[Nat.max_eq_right (bG (gA.mp h1))]
   ·rename_i h1;rw[Nat.max_eq_left (b6 λz=>h1 (gA.mpr z))];rfl
  ·rw[xV (b6 λz=>h (gA.mpr z)),if_neg h]
   split
   ·rename_i h1;rw[Nat.max_eq_right (bG (gA.mp h1))]
   ·rename_i h1;rw[Nat.max_eq_left (b6 λz=>h1 (gA.mpr z))];rfl
 rw[this]
theorem zd{ρ:Rho}{S S0:Sto}{a e:ME}{n:Nat}(ha:a ρ S=some (.int n,S0))(hn:n<big)(g:Nat->U)(P:Nat->Sto->Prop)(h0:P 0 S0)
  (hs: ∀(j:Nat) (S:Sto),j<n->P j S -> ∃S',e (ρ++[some (.int j)]) S=some (g j,S')/\P (j+1) S'):
  ∃S',cq (iR1 (aa a ah)) cTT e ρ S=some (.ref S'.length,S'++[.lst ((aE n).map g)])/\P n S':=by
 obtain⟨S1,e1,h1⟩:=mP (e:=e) (ρ:=ρ) g P (bh 0 n) 0 [] S0 h0 λj u S hj hp=>by
  have hl:j<n:=by have:=(ak.mp hj).1;simpa [bh]using this
  have hu:(bh 0 n)[j]? = some (.int j):=by simp[bh,hl]
  rw[hu]at hj;cases hj
  simpa using hs j S hl (by simpa using hp)
 have hlen:(bh 0 n).length=n:=by simp[bh]
 simp only[hlen,d5,eK]at e1 h1
 exact⟨S1,mY (mL ha hn) e1 (by rw[aA,bD];exact hn),h1⟩
theorem FM{ρ:Rho}{S:Sto}{a b:ME}{i j:Nat}(ha:a ρ S=some (.int i,S))(hb:b ρ S=some (.int j,S))(hi:i<big)(hj:j<big):iR2 (aa a (aa b ah)) ρ S=some (.imm (bh i (j - i)),S):=by
 unfold iR2
 simp only[aa,ah,ha,hb,aH]
 rw[if_pos ⟨mM hi,mM hj⟩]
 congr 4
 omega
theorem rZ{ρ:Rho}{S S1 S2:Sto}{a b:ME}{x y:Nat}(ha:a ρ S=some (.int x,S1))(hb:b ρ S1=some (.int y,S2)):m2 oEq a b ρ S=some (.bl (decide (x=y)),S2):=by
 rw[NW ha hb]
 congr 3
 by_cases h:x=y
 ·subst h;simp
 ·have: ¬((x:Int)=y):=by omega
  simp[h,this]
theorem zk{ρ:Rho}{S S1 S2:Sto}{a b:ME}{x y:Nat}(ha:a ρ S=some (.int x,S1))(hb:b ρ S1=some (.int y,S2)):m2 oNe a b ρ S=some (.bl (!decide (x=y)),S2):=by
 rw[op2 (f:=oNe) ha hb rfl]
 show some (U.bl (!((x:Int)==y)),S2)=_
 congr 4
 by_cases h:x=y
 ·subst h;simp
 ·have: ¬((x:Int)=y):=by omega
  simp[h,this]
end
end _W
end
section
namespace _W
open _L _G
section
theorem vD{a b:MS}{ρ ρ1:Rho}{S S1:Sto}{u:U}(h:a ρ S=some (.rt u,ρ1,S1)):ba a b ρ S=some (.rt u,ρ1,S1):=by simp only[ba,h]
theorem Ee{m:Nat}{T:Nat->Nat->Nat}{i:Nat}:ng m T i = .tup (ai ((aE m).map (T i))):=by
 unfold ng A1 ai
 rw[b4];rfl
noncomputable def G3:MS:=ba (bC 2 (mC (.int 0))) (ba (ft 3 (dv (ae 1)) (bC 2 (m2 oIx (m2 oIx (ae 0) (ae 2)) (ae 3)))) (bB (ae 2)))
theorem E6{m:Nat}{T:Nat->Nat->Nat}{w:List Nat}{S:Sto}(g:Grp m T)(hw: ∀x∈w,x<m):_G.run 2 4 G3 [tab m T,.tup (ai w)] S=some (.int (bH T w),S):=by
 obtain⟨ρ1,S1,e1,⟨x,rfl⟩,rfl⟩:=vt (i:=3) (b:=bC 2 (m2 oIx (m2 oIx (ae 0) (ae 2)) (ae 3))) (e:=ae 1) (ρ:= [some (tab m T),some (.tup (ai w)),some (.int 0),none]) (S:=S) (S1:=S) (us:=ai w) (var_eq rfl)
  (λk ρ S'=>(∃x,ρ = [some (tab m T),some (.tup (ai w)),some (.int (bH T (w.take k))),x])/\S'=S) ⟨⟨none,rfl⟩,rfl⟩ (by
   rintro k u ρ S' hu ⟨⟨x,rfl⟩,rfl⟩
   obtain⟨y,hy,rfl⟩:=mw hu
   have hym:y<m:=hw y (cb hy)
   have hpm:bH T (w.take k)<m:=zw g.pos g.cl λz hz=>hw z (EB hz)
   refine⟨_,_,bT (iY hym (iG hpm (var_eq rfl) (var_eq rfl)) (var_eq rfl)),⟨some (.int y),?_⟩,rfl⟩
   rw[uh hy];rfl)
 rw[bU,iV]at e1
 exact bW (ρ:= [some (tab m T),some (.tup (ai w)),some (.int (bH T w)),x]) rfl (show G3 [some (tab m T),some (.tup (ai w)),none,none] S1=_ from(aV (bT rfl)).trans ((aV e1).trans (bV (var_eq rfl))))
theorem mv{T:Nat->Nat->Nat}{x:Nat}: ∀n,bH T (aw n x)=pw T x n
 | 0=>rfl
 | n+1=>by
   rw[oZ]
   unfold bH
   rw[iA]
   show T (yc T 0 (aw n x)) x=T (pw T x n) x
   rw[<- mv n];rfl
noncomputable def unT(m:Nat)(T:Nat->Nat->Nat)(i:Nat):Nat:=((aE m).map (T i)).idxOf 0
theorem kn{m:Nat}{T:Nat->Nat->Nat}(g:Grp m T){i:Nat}(hi:i<m):unT m T i<m/\T i (unT m T i)=0/\T (unT m T i) i=0 /\ ∀k,k<m->T i k=0->k=unT m T i:=by
 obtain⟨j,hj,h1,h2,h3⟩:=g.inv1 hi
 have e:unT m T i=j:=by
  unfold unT
  rw[Ez,idx_map (k:=j) m 0 (cR _) (by omega) h1 λk _ hk h0=>by have:=h3 k (by exact ck (by assumption) (by assumption)) h0;omega]
  omega
 rw[e];exact⟨hj,h1,h2,h3⟩
theorem Jt{m:Nat}{T:Nat->Nat->Nat}(g:Grp m T){i:Nat}(hi:i<m):0∈(aE m).map (T i):=by
 obtain⟨h1,h2,_⟩:=kn g hi
 exact aS.mpr ⟨unT m T i,aI.mpr h1,h2⟩
theorem wF{ρ:Rho}{S S1:Sto}{a:ME}{u:U}(ha:a ρ S=some (u,S1)):dg (aa a ah) ρ S=some (.tup [u],S1):=by
 have hb1:1<=big:=by decide
 simp[dg,nu ha,aH,hb1]
theorem LX{ρ:Rho}{S S1 S2:Sto}{a b:ME}{x y:Bool}(ha:a ρ S=some (.bl x,S1))(hb:b ρ S1=some (.bl y,S2)):m2 oNe a b ρ S=some (.bl (!(x==y)),S2):=op2 ha hb rfl
theorem or_false{ρ:Rho}{S S1 S2:Sto}{a b:MT}(ha:a ρ S=some (false,S1))(hb:b ρ S1=some (false,S2)):cOr a b ρ S=some (false,S2):=by
 rw[or_eq ha hb (by intro z;cases z)];rfl
end
end _W
end
section
namespace _W
open _L _G
section
noncomputable def dJ(l:List Nat):List Int:=l.map λ(x:Nat)=>(x:Int)
noncomputable def srt(l:List Nat):List Nat:=(kR (dJ l)).map pT
theorem rP(l:List Nat):(kR (dJ l)).map U.int=ai (srt l):=by
 unfold ai srt
 rw[b4]
 apply bt
 intro i hi
 have hm:=(gX (dJ l)).mem_iff.mp hi
 obtain⟨x,_,rfl⟩:=aS.mp hm
 rfl
theorem nN: ∀l:List Nat,(dJ l).map pT=l
 | []=>rfl
 | x::l=>by
   show pT (x:Int)::(dJ l).map pT=x::l
   rw[nN l];rfl
theorem jW(l:List Nat):(srt l).Perm l:=by
 have h:=(gX (dJ l)).map pT
 rw[nN]at h
 exact h
theorem pk{a b:List Nat}(p:a.Perm b):srt a=srt b:=by
 unfold srt
 rw[oQ ((gX (dJ a)).trans (p.map _)) (xt _)]
 rfl
theorem mR{l:List Nat}{x:Nat}:x∈srt l↔x∈l:=(jW l).mem_iff
theorem kl(l:List Nat):(srt l).length=l.length:=(jW l).length_eq
theorem i8: ∀(l:List Nat),dZ lO (ai l)=some (dJ l)
 | []=>rfl
 | x::l=>by
   show(lO (.int x)).bind _=_
   simp only[lO,ar]
   rw[show List.map (λ(x:Nat)=>U.int x) l=ai l from rfl,i8 l]
   rfl
theorem qV{S:Sto}{x:U}{l:List Nat}(h:rR S x=some (dJ l))(hl:l.length<64):dW [x] S=some (.ref S.length,S++[.lst (ai (srt l))]):=by
 have ok:y6 (dJ l).length:=by unfold dJ;rw[aA];exact hl
 simp only[dW,h,ar,ok,if_true,rP]
theorem wy{ρ:Rho}{S S1:Sto}{a:ME}{n:Nat}{l:List Nat}(ha:a ρ S=some (.ref n,S1))(hn:S1[n]? = some (Cell.lst (ai l)))(hl:l.length<64):mFn dW (aa a ah) ρ S=some (.ref S1.length,S1++[.lst (ai (srt l))]):=
 iM ha (qV (by simp only[rR,fJ,hn,dz,getL,ar,i8]) hl)
noncomputable def wk(m:List (_L.Key×U))(k:_L.Key):Bool:=(ni m k).isSome
theorem wU{m:List (_L.Key×U)}{k:_L.Key}:wk m k=true ↔ ∃kv∈m,kv.1=k:=by
 unfold wk ni
 rw[kJ,List.find?_isSome]
 simp
theorem FF{ρ:Rho}{S S1 S2:Sto}{a b:ME}{x:Int}{r:Nat}{kvs:List (_L.Key×U)}(ha:a ρ S=some (.int x,S1))(hb:b ρ S1=some (.ref r,S2))(hr:S2[r]? = some (Cell.dic kvs)):cOf (m2 gE a b) ρ S=some (!wk kvs (.inl x),S2):=
 of_eq (op2 ha hb (by simp only[gE,fJ,hr,keyOf,bb,wk]))
section
variable {m:Nat}{T:Nat->Nat->Nat}{t n:Nat}
end
end
end _W
end
section
namespace _W
open _L _G
section
open PySem in
open PySem in
open PySem in
open PySem in
open PySem in
open PySem in
open PySem in
open PySem in
open PySem in
open PySem in
open PySem in
open PySem in
open PySem in
open PySem in
open PySem in
theorem q0{f:MF}{ρ:Rho}{S S1 S2 S3:Sto}{a b c:ME}{x y z:U}{r:Res U}(ha:a ρ S=some (x,S1))(hb:b ρ S1=some (y,S2))(hc:c ρ S2=some (z,S3))(h:f [x,y,z] S3=r):mFn f (aa a (aa b (aa c ah))) ρ S=r:=by
 simp only[mFn,aa,ah,ha,hb,hc,aH,h]
end
end _W
end
section
namespace _W
open _L _G
section
theorem qD{c:MT}{b:MS}(P:Nat->Rho->Sto->Prop)(Q:Rho->Sto->Prop)
  (hc: ∀μ ρ S,P μ ρ S -> ∃k S1,c ρ S=some (k,S1)/\(k=false->Q ρ S1)/\(k=true -> ∃ρ' S' μ',μ'<μ/\b ρ S1=some (.nx,ρ',S')/\P μ' ρ' S')):
  ∀(f μ:Nat) (ρ:Rho) (S:Sto),μ<f->P μ ρ S -> ∃ρ' S',whl c b f ρ S=some (.nx,ρ',S')/\Q ρ' S'
 | 0,μ,ρ,S,h,_=>by omega
 | f+1,μ,ρ,S,h,hp=>by
   obtain⟨k,S1,e,q1,q2⟩:=hc μ ρ S hp
   unfold whl
   rw[e]
   simp only[aH]
   cases k with
   | false=>exact⟨ρ,S1,by simp,q1 rfl⟩
   | true=>
     obtain⟨ρ1,S2,μ1,hl,e1,p1⟩:=q2 rfl
     obtain⟨ρ2,S3,e2,q⟩:=qD P Q hc f μ1 ρ1 S2 (by omega) p1
     exact⟨ρ2,S3,by simp only[if_true,aft,e1,e2],q⟩
section
variable {S x:Sto}{c e c' e':Cell}
theorem h0:(S++[c,e]++x)[S.length]? = some c:=by rw[aW,aG (aq _)];simp
theorem h1:(S++[c,e]++x)[S.length+1]? = some e:=by rw[aW,aG (by exact dh _)];simp
theorem t0:(S++[c,e]++x).set S.length c'=S++[c',e]++x:=by
 rw[aW,iT _ _ (aq _),Nat.sub_self,aW];rfl
theorem t1:(S++[c,e]++x).set (S.length+1) e'=S++[c,e']++x:=by
 rw[aW,iT _ _ (by exact dh _),show S.length+1 - S.length=1 by omega,aW];rfl
end
theorem EF{ρ:Rho}{S:Sto}{o:ME}{r:Nat}{l:List Nat}{h:Nat}(ho:o ρ S=some (.ref r,S))(hr:S[r]? = some (Cell.lst (ai (l++[h])))):mML uU o ah ρ S=some (.int h,S.set r (Cell.lst (ai l))):=by
 simp only[mML,ho,aH,getL,hr,ar,ah,uU]
 simp[ai,List.dropLast_concat]
inductive Rch(T:Nat->Nat->Nat)(ths:List Nat):Nat->Prop where
 | zero:Rch T ths 0
 | step {x y:Nat}:Rch T ths x->y∈ths->Rch T ths (T x y)
structure Dfs(m:Nat)(T:Nat->Nat->Nat)(ths:List Nat)(ks:List Nat)(C:Nat->Prop):Prop where
 nd:ks.Nodup
 lt: ∀x∈ks,x<m
 z:0∈ks
 rc: ∀x∈ks,Rch T ths x
 cl: ∀x∈ks,C x \/ ∀y∈ths,T x y∈ks
section
variable {m:Nat}{T:Nat->Nat->Nat}{ths ks st:List Nat}
theorem Dfs.all(d:Dfs m T ths ks λ_=>False){x:Nat}:x∈ks↔Rch T ths x:=by
 refine⟨d.rc x,λh =>?_⟩
 induction h with
 | zero=>exact d.z
 | step _ hy ih=>exact((d.cl _ ih).resolve_left id) _ hy
theorem Dfs.len(d:Dfs m T ths ks C):ks.length<=m:=mn m ks d.nd d.lt
theorem vb{a b:List Nat}(ha:a.Nodup)(hb:b.Nodup)(h: ∀x,x∈a↔x∈b):a.Perm b:=(ye ha hb).mpr λx=>h x
noncomputable def tryD(T:Nat->Nat->Nat)(h y:Nat)(p:List Nat×List Nat):List Nat×List Nat:=if T h y∈p.1 then p else(p.1++[T h y],p.2++[T h y])
structure Inn(m:Nat)(T:Nat->Nat->Nat)(ths:List Nat)(h k:Nat)(p:List Nat×List Nat)(μ:Nat):Prop where
 d:Dfs m T ths p.1 λx=>x∈p.2\/x=h
 sub: ∀x∈p.2,x∈p.1
 hk:h∈p.1
 hh: ∀y∈ths.take k,T h y∈p.1
 ms:2*(m - p.1.length)+p.2.length<=μ
theorem Inn.try{h k μ y:Nat}{p:List Nat×List Nat}(g:Grp m T)(ht: ∀x∈ths,x<m)(n:Inn m T ths h k p μ)(hy:ths[k]? = some y):Inn m T ths h (k+1) (tryD T h y p) μ:=by
 have hym:y∈ths:=cb hy
 have htk:ths.take (k+1)=ths.take k++[y]:=by rw[sx,hy];rfl
 unfold tryD
 split
 ·rename_i hin
  refine⟨n.d,n.sub,n.hk,λz hz =>?_,n.ms⟩
  rw[htk]at hz
  rcases be.mp hz with hz |hz
  ·exact n.hh z hz
  ·simp at hz;rw[hz];exact hin
 ·rename_i hin
  have nd:(p.1++[T h y]).Nodup:=by
   rw[fQ]
   exact⟨n.d.nd,by simp,λa ha b hb=>by simp at hb;rintro rfl;exact hin (hb▸ha)⟩
  have hlt:T h y<m:=g.cl _ _ (n.d.lt h n.hk) (ht y hym)
  have lt: ∀x∈p.1++[T h y],x<m:=λx hx=>by
   rcases be.mp hx with hx |hx
   ·exact n.d.lt x hx
   ·simp at hx;omega
  refine⟨⟨nd,lt,bo _ n.d.z,λx hx =>?_,λx hx =>?_⟩,λx hx =>?_,bo _ n.hk,λz hz =>?_,?_⟩
  ·rcases be.mp hx with hx |hx
   ·exact n.d.rc x hx
   ·simp at hx;rw[hx];exact .step (n.d.rc h n.hk) hym
  ·rcases be.mp hx with hx |hx
   ·rcases n.d.cl x hx with (c |c) |c
    ·exact .inl (.inl (bo _ c))
    ·exact .inl (.inr c)
    ·exact .inr λy hy=>bo _ (c y hy)
   ·exact .inl (.inl (aR _ hx))
  ·rcases be.mp hx with hx |hx
   ·exact bo _ (n.sub x hx)
   ·exact aR _ hx
  ·rw[htk]at hz
   rcases be.mp hz with hz |hz
   ·exact bo _ (n.hh z hz)
   ·simp at hz;rw[hz];exact aR _ (by simp)
  ·have:=mn m _ nd lt
   have:=n.ms
   simp only[bj,cu,eJ]at *
   omega
structure y4(m:Nat)(T:Nat->Nat->Nat)(ths ks st:List Nat)(μ:Nat):Prop where
 d:Dfs m T ths ks λx=>x∈st
 sub: ∀x∈st,x∈ks
 ms:2*(m - ks.length)+st.length<=μ
theorem y4.start(hm:0<m):y4 m T ths [0] [0] (2*m):=
 ⟨⟨by simp,by simpa using hm,by simp,λx hx=>by simp at hx;rw[hx];exact .zero,λx hx => .inl hx⟩,λx hx=>hx,by simp;omega⟩
theorem y4.pop{h μ:Nat}(s:y4 m T ths ks (st++[h]) (μ+1)):Inn m T ths h 0 (ks,st) μ:=
 ⟨⟨s.d.nd,s.d.lt,s.d.z,s.d.rc,λx hx=>(s.d.cl x hx).imp (λc=>by simpa using c) id⟩,λx hx=>s.sub x (bo _ hx),s.sub h (by simp),by simp,by have:=s.ms;simp only[bj,cu,eJ]at this;show 2*(m - ks.length)+st.length<=μ;exact dR (by assumption)⟩
theorem Inn.done{h μ:Nat}{p:List Nat×List Nat}(n:Inn m T ths h ths.length p μ):y4 m T ths p.1 p.2 μ:=
 ⟨⟨n.d.nd,n.d.lt,n.d.z,n.d.rc,λx hx=>by
  rcases n.d.cl x hx with (c |c) |c
  ·exact .inl c
  ·subst c;exact .inr λy hy=>n.hh y (by rw[iV];exact hy)
  ·exact .inr c⟩,n.sub,n.ms⟩
end
end
end _W
end
section
namespace _W
open _L _G
section
section
variable {m:Nat}{T:Nat->Nat->Nat}{ths:List Nat}{S x:Sto}{v:U}
noncomputable def spR(m:Nat)(T:Nat->Nat->Nat)(v:U)(S:Sto)(r:List (Option U)):Rho:= [some (tab m T),some v,some (.ref S.length),some (.ref (S.length+1))]++r
noncomputable def Wk(S:Sto)(v:U)(ths:List Nat):Prop:=v = .tup (ai ths) \/ ∃r,v = .ref r/\S[r]? = some (.lst (ai ths))/\ths.length<1000
noncomputable def Ce:MT:=cOf (m2 oGt (mFn bK (aa (ae 3) ah)) (mC (.int 0)))
theorem Inn.st_le{h k μ:Nat}{p:List Nat×List Nat}(n:Inn m T ths h k p μ)(hμ:μ<1000)(hm:m<64):p.1.length<big/\p.2.length<big:=by
 have:=n.ms
 have:=n.d.len
 unfold big
 omega
theorem ow{α:Type}: ∀{l:List α},l≠[] -> ∃a b,l=a++[b]
 | l,h=>⟨l.dropLast,l.getLast h,(List.dropLast_concat_getLast h).symm⟩
theorem G5{ρ:Rho}{S S1:Sto}{a:ME}{x:U}(ha:a ρ S=some (x,S1)):fA (aa a ah) ρ S=some (.ref S1.length,S1++[Cell.lst [x]]):=by
 have hq:1<=big:=by decide
 simp[fA,aa,ah,aH,ha,hq]
end
end
end _W
end
section
namespace _W
open _L _G
section
open PySem in
open PySem in
open PySem in
open PySem in
theorem u9{l:List Nat}{x:Nat}:inV (.int x) (l.map λ(y:Nat)=>V.int y)=decide (x∈l):=by
 unfold inV
 rw[List.any_map]
 by_cases h:x∈l
 ·rw[decide_eq_true h,List.any_eq_true]
  exact⟨x,h,beq_self_eq_true (x:Int)⟩
 ·rw[decide_eq_false h,List.any_eq_false]
  intro y hy
  have q:y≠x:=λe=>h (e▸hy)
  show ¬(((y:Int)==(x:Int))=true)
  exact λz=>q (Int.ofNat.inj (eq_of_beq z))
theorem mW: ∀(l:List Nat),dZ eO (ai l)=some (l.map λ(y:Nat)=>V.int y)
 | []=>rfl
 | x::l=>by
   show(eO (.int x)).bind _=_
   simp only[eO,ar]
   have:=mW l
   unfold ai at this
   rw[this];rfl
noncomputable def atM:MS:=bB (jz (iR1 (aa (mFn bK (aa (ae 0) ah)) ah)))
theorem LP{m:Nat}{T:Nat->Nat->Nat}{S:Sto}(hm:m<1000):_G.run 1 1 atM [tab m T] S=some (.tup (ai (aE m)),S):=by
 refine bW (ρ:= [some (tab m T)]) rfl (bV ?_)
 have e1:=mL (ρ:= [some (tab m T)]) (S:=S) (a:=mFn bK (aa (ae 0) ah)) (n:=m) (len_tab (var_eq rfl)) (by unfold big;exact ag (by assumption) (by decide))
 have e2:bh 0 m=ai (aE m):=by
  unfold bh ai
  apply bt
  intro k _
  simp
 rw[e2]at e1
 have hz:(ai (aE m)).length<=big:=by rw[bU,bD];unfold big;omega
 show jz (iR1 (aa (mFn bK (aa (ae 0) ah)) ah)) [some (tab m T)] S=_
 simp only[jz,e1,aH,hz,if_true]
section
variable {m:Nat}{T:Nat->Nat->Nat}{part:List Nat}{S:Sto}
end
end
end _W
end
section
namespace _W
open _L _G
section
theorem nO{t:MT}{e:ME}{ρ:Rho}{n:Nat}{S:Sto}{us:List U}{p:U->Bool}{f:U->U}(hu:getL S n=some us)(ht: ∀u∈us,t (ρ++[some u]) S=some (p u,S))(he: ∀u∈us,p u=true->e (ρ++[some u]) S=some (f u,S)):
  ∀(k i:Nat) (acc:List U),i<=us.length->us.length - i<k->jE t e ρ n k i acc S=some (acc++((us.drop i).filter p).map f,S)
 | 0,i,acc,h1,h2=>by omega
 | k+1,i,acc,h1,h2=>by
   unfold jE
   rw[hu]
   simp only[ar]
   by_cases hi:i<us.length
   ·have hd:us.drop i=us[i]::us.drop (i+1):=kZ hi
    have hm:us[i]∈us:=eW hi
    rw[aX hi]
    simp only
    rw[ht _ hm]
    simp only[aH]
    rw[hd]
    cases hp:p us[i] with
    | true=>
      rw[if_pos rfl,he _ hm hp]
      simp only[aH]
      rw[nO hu ht he k (i+1) _ (by assumption) (by omega),m9 hp]
      simp
    | false=>
      rw[if_neg bE,nO hu ht he k (i+1) _ (by assumption) (by omega),nc (by rw[hp];decide)]
   ·rw[fL (by exact b6 (by assumption)),BM (by exact b6 (by assumption))]
    simp
theorem AY{t:MT}{e a:ME}{ρ:Rho}{n:Nat}{S S1:Sto}{us:List U}{p:U->Bool}{f:U->U}(ha:a ρ S=some (.ref n,S1))(hu:S1[n]? = some (Cell.lst us))(hl:us.length<1000)(ht: ∀u∈us,t (ρ++[some u]) S1=some (p u,S1))(he: ∀u∈us,p u=true->e (ρ++[some u]) S1=some (f u,S1)):
  cq (dv a) t e ρ S=some (.ref S1.length,S1++[.lst ((us.filter p).map f)]):=by
 have hg:getL S1 n=some us:=by unfold getL;rw[hu]
 have hi:dv a ρ S=some (.mut n,S1):=by simp only[dv,ha,aH,hg,bb]
 have e1:=nO hg ht he fuel 0 [] (cR _) (by unfold fuel;exact ag (by assumption) (by decide))
 rw[yf,eK]at e1
 simp only[cq,hi,aH,DG,e1]
 refine if_pos ?_
 have:=nW p us
 rw[aA];unfold big;exact aJ (by assumption) (ag (by assumption) (by decide))
theorem kq{t:MT}{e:ME}{ρ:Rho}{S:Sto}{p:U->Bool}{f:U->U}: ∀(us acc:List U),(∀u∈us,t (ρ++[some u]) S=some (p u,S))->(∀u∈us,p u=true->e (ρ++[some u]) S=some (f u,S)) ->
  gp t e ρ us acc S=some (acc++(us.filter p).map f,S)
 | [],acc,_,_=>by simp[gp]
 | u::us,acc,ht,he=>by
   unfold gp
   rw[ht u (by simp)]
   simp only[aH]
   cases hp:p u with
   | true=>
     rw[if_pos rfl,he u (by simp) hp]
     simp only[aH]
     rw[kq us _ (λv hv=>ht v (aC _ hv)) (λv hv=>he v (aC _ hv)),m9 hp]
     simp
   | false=>
     rw[if_neg bE,kq us _ (λv hv=>ht v (aC _ hv)) (λv hv=>he v (aC _ hv)),nc (by rw[hp];decide)]
theorem Bw{t:MT}{e a:ME}{ρ:Rho}{S S1:Sto}{us:List U}{p:U->Bool}{f:U->U}(ha:a ρ S=some (.tup us,S1))(hl:us.length<big)(ht: ∀u∈us,t (ρ++[some u]) S1=some (p u,S1))(he: ∀u∈us,p u=true->e (ρ++[some u]) S1=some (f u,S1)):
  cq (dv a) t e ρ S=some (.ref S1.length,S1++[.lst ((us.filter p).map f)]):=by
 have hi:dv a ρ S=some (.imm us,S1):=by simp only[dv,ha,aH]
 have e1:=kq us [] ht he
 rw[eK]at e1
 refine mY hi e1 ?_
 have:=nW p us
 rw[aA];exact aJ (by assumption) (by assumption)
theorem rL{t:MT}{e a:ME}{ρ:Rho}{S S1:Sto}{l:List Nat}{p:Nat->Bool}{f:Nat->U}(ha:a ρ S=some (.tup (ai l),S1))(hl:l.length<big)(ht: ∀x∈l,t (ρ++[some (.int x)]) S1=some (p x,S1))(he: ∀x∈l,p x=true->e (ρ++[some (.int x)]) S1=some (f x,S1)):
  cq (dv a) t e ρ S=some (.ref S1.length,S1++[.lst ((l.filter p).map f)]):=by
 have nat: ∀u∈ai l,∃x∈l,u = .int (x:Nat):=λu hu=>by
  obtain⟨x,hx,rfl⟩:=aS.mp hu;exact⟨x,hx,rfl⟩
 let g:U->Nat:=λu=>match u with | .int i=>i.toNat |_=>0
 have gx: ∀x:Nat,g (.int x)=x:=λx=>by simp[g]
 have h:=Bw (t:=t) (e:=e) (p:=λu=>p (g u)) (f:=λu=>f (g u)) ha (by rw[bU];exact hl) (λu hu=>by
  obtain⟨x,hx,rfl⟩:=nat u hu
  rw[gx];exact ht x hx) (λu hu hp=>by
  obtain⟨x,hx,rfl⟩:=nat u hu
  rw[gx]at hp ⊢;exact he x hx hp)
 rw[h]
 have:((ai l).filter λu=>p (g u)).map (λu=>f (g u))=(l.filter p).map f:=by
  unfold ai
  rw[List.filter_map,b4]
  have e1:(λu=>p (g u))∘(λ(x:Nat)=>U.int x)=p:=by funext x;simp[gx]
  have e2:(λu=>f (g u))∘(λ(x:Nat)=>U.int x)=f:=by funext x;simp[gx]
  rw[e1,e2]
 rw[this]
theorem uq{t:MT}{e a:ME}{ρ:Rho}{S S1:Sto}{l:List Nat}{p:Nat->Bool}{f:Nat->U}(ha:a ρ S=some (.tup (ai l),S1))(hl:l.length<1000)(ht: ∀x∈l,t (ρ++[some (.int x)]) S1=some (p x,S1))(he: ∀x∈l,p x=true->e (ρ++[some (.int x)]) S1=some (f x,S1)):
  cq (dv a) t e ρ S=some (.ref S1.length,S1++[.lst ((l.filter p).map f)]):=
 rL ha (by unfold big;exact ag (by assumption) (by decide)) ht he
theorem FP{ρ:Rho}{S S1 S2:Sto}{a b:ME}{x:Nat}{l:List Nat}(ha:a ρ S=some (.int x,S1))(hb:b ρ S1=some (.tup (ai l),S2)):cOf (m2 oIn a b) ρ S=some (decide (x∈l),S2):=by
 refine of_eq (op2 ha hb ?_)
 simp only[oIn,fJ,eO,ar,dz,mW,bb,u9]
theorem zG{ρ:Rho}{S S1 S2:Sto}{a b:ME}{x:Nat}{l:List Nat}(ha:a ρ S=some (.int x,S1))(hb:b ρ S1=some (.tup (ai l),S2)):cOf (m2 gE a b) ρ S=some (!decide (x∈l),S2):=by
 refine of_eq (op2 ha hb ?_)
 simp only[gE,fJ,eO,ar,dz,mW,bb,Option.some_or,u9]
theorem Eg{ρ:Rho}{S S1 S2:Sto}{a b:ME}{x y:U}(ha:a ρ S=some (x,S1))(hb:b ρ S1=some (y,S2)):dg (aa a (aa b ah)) ρ S=some (.tup [x,y],S2):=by
 have hb2:2<=big:=by decide
 simp[dg,aa,ah,ha,hb,aH,hb2]
theorem ku{m:Nat}{T:Nat->Nat->Nat}{S:Sto}(g:Grp m T){i:Nat}(hi:i<m):_G.run 2 2 (bB (mMT gd (m2 oIx (ae 0) (ae 1)) (aa (mC (.int 0)) ah))) [tab m T,.int i] S=some (.int (unT m T i),S):=by
 have h0:=Jt g hi
 have e:=iG (ρ:= [some (tab m T),some (.int i)]) (S:=S) (a:=ae 0) (b:=ae 1) hi (var_eq rfl) (var_eq rfl)
 rw[Ee]at e
 exact bW (ρ:= [some (tab m T),some (.int i)]) rfl (bV (xl (x:=0) e c_i h0))
section
variable {m:Nat}{T:Nat->Nat->Nat}{st left:List Nat}{S:Sto}
noncomputable def goM:MS:=ba (bC 4 (cq (dv (ae 1)) cTT (dg (aa (ae 5) (aa (m2 oIx (m2 oIx (ae 0) (ae 2)) (ae 5)) ah))))) (bB (cq (dv (ae 4)) (cOf (m2 oIn (m2 oIx (ae 5) (mC (.int 1))) (ae 3))) (ae 5)))
noncomputable def prU(T:Nat->Nat->Nat)(h s:Nat):U:= .tup [.int s,.int (T h s:Nat)]
noncomputable def gos(T:Nat->Nat->Nat)(st:List Nat)(h:Nat)(left:List Nat):List Nat:=st.filter λs=>decide (T h s∈left)
theorem y0{h:Nat}(hh:h<m)(hs: ∀s∈st,s<m)(hl:st.length<1000): ∃r S',_G.run 4 5 goM [tab m T,.tup (ai st),.int h,.tup (ai left)] S=some (.ref r,S')/\Ex S S'/\S.length<=r/\S'[r]? = some (.lst ((gos T st h left).map (prU T h))):=by
 have e1:=uq (t:=cTT) (e:=dg (aa (ae 5) (aa (m2 oIx (m2 oIx (ae 0) (ae 2)) (ae 5)) ah))) (ρ:= [some (tab m T),some (.tup (ai st)),some (.int h),some (.tup (ai left)),none]) (S:=S) (a:=ae 1) (l:=st) (p:=λ_=>true) (f:=prU T h) (var_eq rfl) hl (λx _=>rfl) (λx hx _=>Eg (var_eq rfl) (iY (T:=T) (i:=h) (j:=x) (hs x hx) (iG hh (var_eq rfl) (var_eq rfl)) (var_eq rfl)))
 rw[pU.mpr (λ_ _=>rfl)]at e1
 have e2:=AY (t:=cOf (m2 oIn (m2 oIx (ae 5) (mC (.int 1))) (ae 3))) (e:=ae 5) (ρ:= [some (tab m T),some (.tup (ai st)),some (.int h),some (.tup (ai left)),some (.ref S.length)]) (S:=S++[.lst (st.map (prU T h))]) (a:=ae 4) (us:=st.map (prU T h)) (p:=λu=>match u with | .tup [_,.int i]=>decide (i.toNat∈left) |_=>false) (f:=λu=>u) (var_eq rfl) (fk _ _) (by rw[aA];exact hl) (by
  intro u hu
  obtain⟨s,hs,rfl⟩:=aS.mp hu
  have:m2 oIx (ae 5) (mC (.int 1)) ([some (tab m T),some (.tup (ai st)),some (.int h),some (.tup (ai left)),some (.ref S.length)]++[some (prU T h s)]) (S++[.lst (st.map (prU T h))])=some (.int (T h s:Nat),S++[.lst (st.map (prU T h))]):=yJ (us:= [.int s,.int (T h s:Nat)]) (var_eq rfl) c_i rfl
  rw[FP this (var_eq rfl)]
  simp[prU]) (by
  intro u hu _
  obtain⟨s,hs,rfl⟩:=aS.mp hu
  exact var_eq rfl)
 refine⟨_,_,bW (ρ:= [some (tab m T),some (.tup (ai st)),some (.int h),some (.tup (ai left)),some (.ref S.length)]) rfl (show goM [some (tab m T),some (.tup (ai st)),some (.int h),some (.tup (ai left)),none] S=_ from(aV (bT e1)).trans (bV e2)),⟨_,by rw[aW]⟩,by simp,?_⟩
 rw[fk]
 congr 2
 unfold gos
 rw[List.map_id',List.filter_map]
 congr 1
theorem A8{h:Nat}(hh:h<m)(hs: ∀s∈st,s<m)(hl:st.length<1000): ∃r S',_G.run 4 5 goM [tab m T,.tup (ai st),.int h,.tup (ai left)] S=some (.ref r,S')/\Ex S S'/\S'[r]? = some (.lst ((gos T st h left).map (prU T h))):=let ⟨r,S',a,b,_,c⟩:=y0 (left:=left) (S:=S) hh hs hl;⟨r,S',a,b,c⟩
noncomputable def abM:MS:=bB (mFn b9 (aa (cq (dv (ae 0)) (cOf (m2 oNe (ae 2) (ae 1))) (ae 2)) ah))
theorem BD{x:Nat}(hl:left.length<1000): ∃S',_G.run 2 2 abM [.tup (ai left),.int x] S=some (.tup (ai (left.filter λy => !decide (y=x))),S')/\Ex S S':=by
 have e1:=uq (t:=cOf (m2 oNe (ae 2) (ae 1))) (e:=ae 2) (ρ:= [some (.tup (ai left)),some (.int x)]) (S:=S) (a:=ae 0) (l:=left) (p:=λy => !decide (y=x)) (f:=λy => .int y) (var_eq rfl) hl (λy _=>of_eq (zk (var_eq rfl) (var_eq rfl))) (λy _ _=>var_eq rfl)
 exact⟨_,bW (ρ:= [some (.tup (ai left)),some (.int x)]) rfl (bV (dS e1)),Ex.push _ _⟩
noncomputable def N3:MS:=bB (jz (iR2 (aa (mC (.int 1)) (aa (mFn bK (aa (ae 0) ah)) ah))))
theorem FN(hm:0<m)(hm2:m<1000):_G.run 1 1 N3 [tab m T] S=some (.tup (ai (bu 1 (m - 1))),S):=by
 refine bW (ρ:= [some (tab m T)]) rfl (bV ?_)
 have e1:=FM (ρ:= [some (tab m T)]) (S:=S) (a:=mC (.int 1)) (b:=mFn bK (aa (ae 0) ah)) (i:=1) (j:=m) c_i (len_tab (var_eq rfl)) (by decide) (by unfold big;exact ag (by assumption) (by decide))
 have e2:bh (1:Nat) (m - 1)=ai (bu 1 (m - 1)):=by
  unfold bh ai
  rw[AC,b4]
  apply bt
  intro k _
  simp
 rw[e2]at e1
 have hz:(ai (bu 1 (m - 1))).length<=big:=by rw[bU,kf];unfold big;omega
 show jz (iR2 (aa (mC (.int 1)) (aa (mFn bK (aa (ae 0) ah)) ah))) [some (tab m T)] S=_
 simp only[jz,e1,aH,hz,if_true]
noncomputable def rmM:MS:=sIf (cOf (m2 oGt (mFn bK (aa (ae 0) ah)) (ae 1))) sNo b7
theorem Cs{k n:Nat}{b:MS}{us:List U}{S S1:Sto}{ρ:Rho}(hl:us.length=k)(h:b (us.map some++aw (n - k) none) S=some (.nx,ρ,S1)):_G.run k n b us S=some (.non,S1):=by
 unfold _G.run
 rw[if_pos hl,h]
theorem BA{k:Nat}(h:m<=k):_G.run 2 2 rmM [tab m T,.int (k:Nat)] S=some (.non,S):=by
 refine Cs (ρ:= [some (tab m T),some (.int (k:Nat))]) rfl ?_
 have ec:cOf (m2 oGt (mFn bK (aa (ae 0) ah)) (ae 1)) [some (tab m T),some (.int (k:Nat))] S=some (decide ((k:Int)<m),S):=of_eq (CK (len_tab (var_eq rfl)) (var_eq rfl))
 rw[decide_eq_false (by omega)]at ec
 exact gG ec
noncomputable def leF(T:Nat->Nat->Nat)(st:List Nat)(last:Nat->Option (List Nat)):Nat->Nat->List Nat->Option (List Nat)
 | 0,h,_=>last h
 | k+1,h,left=>(gos T st h left).findSome? λs=>(leF T st last k (T h s) (left.filter λy => !decide (y=T h s))).map λw=>s::w
noncomputable def Di:Option (List Nat)->U
 | none => .non
 | some l => .tup (ai l)
noncomputable def Bm(ψ:MF):MS:=ba (bC 7 (mFn ψ (aa (ae 0) (aa (ae 1) (aa (ae 6) (aa (mFn (_G.run 2 2 abM) (aa (ae 3) (aa (ae 6) ah))) (aa (ae 4) ah))))))) (sIf (cOf (m2 gC (ae 7) (mC .non))) (bB (m2 dq (dg (aa (ae 5) ah)) (ae 7))) b7)
noncomputable def leM(g:dQ)(φ:MF)(ψ:MF):MS:=ba (sIf (cOf (m2 oEq (mFn bK (aa (ae 3) ah)) (mC (.int 0)))) (bB (BU 4 g φ (aa (ae 0) (aa (ae 1) (aa (ae 2) ah))))) b7) (ba (nv (gTp 2 (eE (gN 5) (eE (gN 6) nA))) (dv (mFn (_G.run 4 5 goM) (aa (ae 0) (aa (ae 1) (aa (ae 2) (aa (ae 3) ah)))))) (Bm ψ)) (bB (mC .non)))
theorem Ht{f:MF}{ρ:Rho}{S S1 S2 S3 S4 S5:Sto}{a b c d e:ME}{x y z v w:U}{r:Res U}(ha:a ρ S=some (x,S1))(hb:b ρ S1=some (y,S2))(hc:c ρ S2=some (z,S3))(hd:d ρ S3=some (v,S4))(he:e ρ S4=some (w,S5))(h:f [x,y,z,v,w] S5=r):mFn f (aa a (aa b (aa c (aa d (aa e ah))))) ρ S=r:=by
 simp only[mFn,aa,ah,ha,hb,hc,hd,he,aH,h]
theorem Hq{f:MF}{ρ:Rho}{S S1 S2 S3 S4:Sto}{a b c d:ME}{x y z v:U}{r:Res U}(ha:a ρ S=some (x,S1))(hb:b ρ S1=some (y,S2))(hc:c ρ S2=some (z,S3))(hd:d ρ S3=some (v,S4))(h:f [x,y,z,v] S4=r):mFn f (aa a (aa b (aa c (aa d ah)))) ρ S=r:=by
 simp only[mFn,aa,ah,ha,hb,hc,hd,aH,h]
theorem za{ρ:Rho}{S S1 S2:Sto}{a b:ME}{x y:List Nat}(ha:a ρ S=some (.tup (ai x),S1))(hb:b ρ S1=some (.tup (ai y),S2))(hl:x.length+y.length<=big):m2 dq a b ρ S=some (.tup (ai (x++y)),S2):=by
 refine op2 ha hb ?_
 simp only[dq]
 rw[if_pos (by rw[bU,bU];exact hl)]
 simp[ai]
theorem zT{ρ:Rho}{S S1 S2:Sto}{a b:ME}{x y:List Nat}(ha:a ρ S=some (.tup (ai x),S1))(hb:b ρ S1=some (.tup (ai y),S2))(hl:x.length+y.length<1000):m2 dq a b ρ S=some (.tup (ai (x++y)),S2):=
 za ha hb (by unfold big;omega)
theorem Cg{x:Nat}(nd:left.Nodup)(h:x∈left):(left.filter λy => !decide (y=x)).length+1=left.length:=by
 have e:(left.filter λy => !decide (y=x))=left.erase x:=by
  rw[List.Nodup.erase_eq_filter nd]
  apply List.filter_congr
  intro y _
  by_cases z:y=x <;> simp[z]
 rw[e,AD h]
 have:=List.length_pos_of_mem h
 omega
theorem Af{last:Nat->Option (List Nat)}{B:Nat}(hB: ∀h w,last h=some w->w.length<=B): ∀(k h:Nat) (left w:List Nat),leF T st last k h left=some w->w.length<=k+B
 | 0,h,left,w,e=>by have:=hB h w e;omega
 | k+1,h,left,w,e=>by
   unfold leF at e
   obtain⟨s,_,e⟩:=List.exists_of_findSome?_eq_some e
   cases q:leF T st last k (T h s) (left.filter λy => !decide (y=T h s)) with
   | none=>rw[q]at e;cases e
   | some v=>
     rw[q]at e;cases e
     have:=Af hB k _ _ _ q
     simp only[cu];omega
theorem MV{last:Nat->Option (List Nat)}{g:dQ}{φ:MF}(gr:Grp m T)(hs: ∀s∈st,s<m)(hsl:st.length<1000)(hm:m<500)(hB: ∀h w,last h=some w->w.length<=1)
  (hφ: ∀h (S:Sto),h<m->φ [tab m T,.tup (ai st),.int (h:Nat)] S=some (Di (last h),S)): ∀(k n h:Nat) (left:List Nat) (S:Sto),k<n->left.length=k->left.Nodup->(∀x∈left,x<m)->h<m ->
  ∃S',pW 5 8 (leM g φ) n [tab m T,.tup (ai st),.int (h:Nat),.tup (ai left),.obj g] S=some (Di (leF T st last k h left),S')/\Ex S S':=by
 intro k
 induction k with
 | zero=>
   intro n h left S hn hl nd hlt hh
   obtain⟨n,rfl⟩ : ∃j,n=j+1:=⟨n - 1,by omega⟩
   have h0:left = []:=eV.mp hl
   subst h0
   refine⟨S,bW (ρ:= [some (tab m T),some (.tup (ai st)),some (.int (h:Nat)),some (.tup (ai [])),some (.obj g),none,none,none]) rfl ?_,Ex.refl _⟩
   have ec:cOf (m2 oEq (mFn bK (aa (ae 3) ah)) (mC (.int 0))) [some (tab m T),some (.tup (ai st)),some (.int (h:Nat)),some (.tup (ai [])),some (.obj g),none,none,none] S=some (true,S):=of_eq (rZ (x:=0) (y:=0) (nD (us:= []) (var_eq rfl)) c_i)
   refine vD ((p9 ec).trans (bV ?_))
   show(if g=g then mFn φ (aa (ae 0) (aa (ae 1) (aa (ae 2) ah))) _ _ else none)=_
   rw[if_pos rfl]
   exact q0 (var_eq rfl) (var_eq rfl) (var_eq rfl) (hφ h S hh)
 | succ k ih=>
   intro n h left S hn hl nd hlt hh
   obtain⟨n,rfl⟩ : ∃j,n=j+1:=⟨n - 1,by omega⟩
   have hb:=mn m left nd hlt
   have ec:cOf (m2 oEq (mFn bK (aa (ae 3) ah)) (mC (.int 0))) [some (tab m T),some (.tup (ai st)),some (.int (h:Nat)),some (.tup (ai left)),some (.obj g),none,none,none] S=some (false,S):=by
    have:=of_eq (rZ (ρ:= [some (tab m T),some (.tup (ai st)),some (.int (h:Nat)),some (.tup (ai left)),some (.obj g),none,none,none]) (S:=S) (a:=mFn bK (aa (ae 3) ah)) (b:=mC (.int 0)) (x:=(ai left).length) (y:=0) (nD (var_eq rfl)) c_i)
    rw[this,decide_eq_false (by rw[bU];omega)]
   obtain⟨r,S1,e1,x1,hr⟩:=A8 (T:=T) (st:=st) (left:=left) (S:=S) hh hs hsl
   have hgl:(gos T st h left).length<1000:=aJ (nW _ _) hsl
   have loop: ∀(f i:Nat) (a b c:Option U) (S2:Sto),i<=(gos T st h left).length->(gos T st h left).length - i<f->Ex S1 S2 ->
     ∃ρ' S3,Ex S1 S3/\pK (gTp 2 (eE (gN 5) (eE (gN 6) nA))) (Bm (pW 5 8 (leM g φ) n)) r f i [some (tab m T),some (.tup (ai st)),some (.int (h:Nat)),some (.tup (ai left)),some (.obj g),a,b,c] S2 =
      some (match ((gos T st h left).drop i).findSome? λs=>(leF T st last k (T h s) (left.filter λy => !decide (y=T h s))).map λw=>s::w with
       | none => .nx
       | some w => .rt (.tup (ai w)),ρ',S3):=by
    intro f
    induction f with
    | zero=>intro i a b c S2 h1 h2;omega
    | succ f ihf=>
      intro i a b c S2 h1 h2 x2
      unfold pK
      have hg:getL S2 r=some ((gos T st h left).map (prU T h)):=by unfold getL;rw[x2.some hr]
      rw[hg]
      simp only[ar]
      by_cases hi:i<(gos T st h left).length
      ·rw[dP,aX hi,kZ hi]
       have hsm:(gos T st h left)[i]∈gos T st h left:=eW hi
       generalize (gos T st h left)[i]=s at hsm
       obtain⟨hs1,hs2⟩:=eI.mp hsm
       have hs2:T h s∈left:=of_decide_eq_true hs2
       have hsT:T h s<m:=gr.cl h s hh (hs s hs1)
       obtain⟨S4,e4,x4⟩:=BD (left:=left) (x:=T h s) (S:=S2) (by exact aJ (by assumption) (ag (by assumption) (by decide)))
       obtain⟨S5,e5,x5⟩:=ih n (T h s) (left.filter λy => !decide (y=T h s)) S4 (by exact dR (by assumption)) (by have:=Cg nd hs2;omega) (nd.filter _) (λx hx=>hlt x (eI.mp hx).1) hsT
       have e6:bC 7 (mFn (pW 5 8 (leM g φ) n) (aa (ae 0) (aa (ae 1) (aa (ae 6) (aa (mFn (_G.run 2 2 abM) (aa (ae 3) (aa (ae 6) ah))) (aa (ae 4) ah)))))) [some (tab m T),some (.tup (ai st)),some (.int (h:Nat)),some (.tup (ai left)),some (.obj g),some (.int s),some (.int (T h s:Nat)),c] S2=_:=bT (Ht (var_eq rfl) (var_eq rfl) (var_eq rfl) (bO (var_eq rfl) (var_eq rfl) e4) (var_eq rfl) e5)
       simp only[bb,ar]
       show ∃ρ' S3,Ex S1 S3/\aft (Bm (pW 5 8 (leM g φ) n) [some (tab m T),some (.tup (ai st)),some (.int (h:Nat)),some (.tup (ai left)),some (.obj g),some (.int s),some (.int (T h s:Nat)),c] S2) _=_
       cases q:leF T st last k (T h s) (left.filter λy => !decide (y=T h s)) with
       | none=>
         rw[q]at e6
         have ei:Bm (pW 5 8 (leM g φ) n) [some (tab m T),some (.tup (ai st)),some (.int (h:Nat)),some (.tup (ai left)),some (.obj g),some (.int s),some (.int (T h s:Nat)),c] S2=some (.nx,[some (tab m T),some (.tup (ai st)),some (.int (h:Nat)),some (.tup (ai left)),some (.obj g),some (.int s),some (.int (T h s:Nat)),some .non],S5):=(aV e6).trans ((gG (of_eq (op2 (f:=gC) (var_eq rfl) rfl rfl))).trans rfl)
         rw[ei]
         obtain⟨ρ',S3,x3,e3⟩:=ihf (i+1) (some (.int s)) (some (.int (T h s:Nat))) (some .non) S5 (by assumption) (by omega) ((x2.trans x4).trans x5)
         refine⟨ρ',S3,x3,?_⟩
         simp only[aft]
         rw[e3]
         simp only[jR,q,Option.map_none]
       | some w=>
         rw[q]at e6
         have hw:=Af hB k _ _ _ q
         have ei:Bm (pW 5 8 (leM g φ) n) [some (tab m T),some (.tup (ai st)),some (.int (h:Nat)),some (.tup (ai left)),some (.obj g),some (.int s),some (.int (T h s:Nat)),c] S2=some (.rt (.tup (ai (s::w))),[some (tab m T),some (.tup (ai st)),some (.int (h:Nat)),some (.tup (ai left)),some (.obj g),some (.int s),some (.int (T h s:Nat)),some (.tup (ai w))],S5):=(aV e6).trans ((p9 (of_eq (op2 (f:=gC) (var_eq rfl) rfl rfl))).trans (bV (zT (x:= [s]) (y:=w) (wF (var_eq rfl)) (var_eq rfl) (by simp;omega))))
         rw[ei]
         refine⟨[some (tab m T),some (.tup (ai st)),some (.int (h:Nat)),some (.tup (ai left)),some (.obj g),some (.int s),some (.int (T h s:Nat)),some (.tup (ai w))],S5,(x2.trans x4).trans x5,?_⟩
         simp only[aft,jR,q,bb]
      ·rw[fL (by rw[aA];exact b6 (by assumption)),BM (by exact b6 (by assumption))]
       exact⟨[some (tab m T),some (.tup (ai st)),some (.int (h:Nat)),some (.tup (ai left)),some (.obj g),a,b,c],S2,x2,by simp⟩
   obtain⟨ρ',S3,x3,e3⟩:=loop fuel 0 none none none S1 (cR _) (by unfold fuel;exact ag (by assumption) (by decide)) (Ex.refl _)
   rw[yf]at e3
   have ef:nv (gTp 2 (eE (gN 5) (eE (gN 6) nA))) (dv (mFn (_G.run 4 5 goM) (aa (ae 0) (aa (ae 1) (aa (ae 2) (aa (ae 3) ah)))))) (Bm (pW 5 8 (leM g φ) n)) [some (tab m T),some (.tup (ai st)),some (.int (h:Nat)),some (.tup (ai left)),some (.obj g),none,none,none] S=some (match (gos T st h left).findSome? λs=>(leF T st last k (T h s) (left.filter λy => !decide (y=T h s))).map λw=>s::w with
       | none => .nx
       | some w => .rt (.tup (ai w)),ρ',S3):=by
    show bnd (dv _ _ _) _=_
    have hg:getL S1 r=some ((gos T st h left).map (prU T h)):=by unfold getL;rw[hr]
    rw[show dv (mFn (_G.run 4 5 goM) (aa (ae 0) (aa (ae 1) (aa (ae 2) (aa (ae 3) ah))))) [some (tab m T),some (.tup (ai st)),some (.int (h:Nat)),some (.tup (ai left)),some (.obj g),none,none,none] S=some (.mut r,S1) by
     simp only[dv,Hq (f:=_G.run 4 5 goM) (ρ:= [some (tab m T),some (.tup (ai st)),some (.int (h:Nat)),some (.tup (ai left)),some (.obj g),none,none,none]) (a:=ae 0) (b:=ae 1) (c:=ae 2) (d:=ae 3) (var_eq rfl) (var_eq rfl) (var_eq rfl) (var_eq rfl) e1,aH,hg,bb]]
    simp only[aH,GW]
    exact e3
   refine⟨S3,?_,x1.trans x3⟩
   show pW 5 8 (leM g φ) (n+1) _ S=some (Di (List.findSome? _ _),S3)
   cases q:(gos T st h left).findSome? λs=>(leF T st last k (T h s) (left.filter λy => !decide (y=T h s))).map λw=>s::w with
   | none=>
     rw[q]at ef
     exact bW (ρ:=ρ') rfl ((aV (gG ec)).trans ((aV ef).trans (bV rfl)))
   | some w=>
     rw[q]at ef
     exact bW (ρ:=ρ') rfl ((aV (gG ec)).trans (vD ef))
end
end
end _W
end
section
namespace _W
open _L _G
section
abbrev Nod:=List Nat×List Nat
noncomputable def eR(th:List Nat):Nat:=(th.getLast?).getD 0
theorem ky{l:List Nat}{x:Nat}:eR (l++[x])=x:=by simp[eR]
theorem GB{th:List Nat}(h:th≠[]):atI (ai th) (-1)=some (.int (eR th:Nat)):=by
 obtain⟨l,x,rfl⟩:=ow h
 rw[ky]
 have hl:(ai (l++[x])).length=l.length+1:=by simp[ai]
 unfold atI
 have:_L.ixN (ai (l++[x])).length (-1)=some l.length:=by
  rw[hl];unfold _L.ixN
  rw[if_neg (by decide),if_pos (by omega)]
  congr 1;omega
 rw[this]
 simp[ai]
theorem wa{m:Nat}{th:List Nat}(h:th≠[])(hl: ∀x∈th,x<m):eR th<m:=by
 obtain⟨l,x,rfl⟩:=ow h
 rw[ky];exact hl x (by simp)
noncomputable def kids(T:Nat->Nat->Nat)(st:List Nat)(p:Nod):List Nod:=(st.filter λs => !decide (T (eR p.2) s∈p.2)).map λs=>(p.1++[s],p.2++[T (eR p.2) s])
noncomputable def uZ(T:Nat->Nat->Nat)(st:List Nat)(L:Nod->List (List Nat)):Nat->Nod->List (List Nat)
 | 0,p=>L p
 | k+1,p=>(kids T st p).flatMap (uZ T st L k)
section
variable {m:Nat}{T:Nat->Nat->Nat}{st:List Nat}{S x:Sto}{F:List (List Nat)}{ln:List Nod}{ρ:Rho}
end
noncomputable def Ha(b:Nat):Nat->Nat
 | 0=>1
 | k+1=>1+b*Ha b k
noncomputable def msr(b m:Nat)(ln:List Nod):Nat:=(ln.map λp=>Ha b (m - 1 - p.1.length)).sum
noncomputable def rest(T:Nat->Nat->Nat)(st:List Nat)(L:Nod->List (List Nat))(m:Nat)(ln:List Nod):List (List Nat):=ln.reverse.flatMap λp=>uZ T st L (m - 1 - p.1.length) p
section
variable {m:Nat}{T:Nat->Nat->Nat}{st:List Nat}{L:Nod->List (List Nat)}{ln:List Nod}{p:Nod}
end
end
end _W
end
section
namespace _W
open _L _G
section
theorem yD{ρ:Rho}{S S0:Sto}{i:Nat}{a:ME}{n:Nat}{b:MS}(ha:a ρ S=some (.int n,S0))(h:n<big)(P:Nat->Rho->Sto->Prop)(h0:P 0 ρ S0)
  (hs: ∀(j:Nat) (ρ:Rho) (S:Sto),j<n->P j ρ S -> ∃ρ' S',b (ρ.set i (some (.int j))) S=some (.nx,ρ',S')/\P (j+1) ρ' S'):
  ∃ρ' S',ft i (iR1 (aa a ah)) b ρ S=some (.nx,ρ',S')/\P n ρ' S':=by
 obtain⟨ρ',S',e1,p1⟩:=oh (i:=i) (b:=b) P (bh 0 n) 0 ρ S0 h0 λj u ρ S hj hp=>by
  have hl:j<n:=by have:=(ak.mp hj).1;simpa [bh]using this
  have hu:(bh 0 n)[j]? = some (.int j):=by simp[bh,hl]
  rw[hu]at hj;cases hj
  simpa using hs j ρ S hl (by simpa using hp)
 have hlen:(bh 0 n).length=n:=by simp[bh]
 rw[hlen,d5]at p1
 refine⟨ρ',S',?_,p1⟩
 unfold ft
 rw[mL ha h]
 exact e1
theorem Ku{ρ:Rho}{S S1 S2:Sto}{a b:ME}{x y:Nat}(ha:a ρ S=some (.int x,S1))(hb:b ρ S1=some (.int y,S2)):mFn pX (aa a (aa b ah)) ρ S=some (.int (min x y:Nat),S2):=by
 refine bO ha hb ?_
 show some (U.int (if (y:Int)<x then(y:Int) else x),S2)=_
 congr 3
 split <;> omega
noncomputable def zz:MS:=fb (mML d7 (ae 4) (aa (mML jL (ae 3) (aa (mFn aK (aa (ae 0) (aa (mFn bK (aa (ae 3) ah)) ah))) ah)) ah))
noncomputable def DQ:MS:=ba (bC 3 (jN (iR2 (aa (mC (.int 1)) (aa (mFn bK (aa (ae 1) ah)) ah))))) (ba (bC 4 (fA ah)) (ba (ft 5 (iR1 (aa (mFn pX (aa (mFn bK (aa (ae 3) ah)) (aa (m2 dq (mC (.int 1)) (mFn aK (aa (ae 0) (aa (ae 2) ah)))) ah))) ah)) zz) (bB (mFn b9 (aa (mFn dW (aa (ae 4) ah)) ah)))))
theorem AL{n m most:Nat}{T:Nat->Nat->Nat}{S:Sto}(h:lj n S)(g:Grp m T)(hm:m<60)(hmo:0<most)(hmo2:most<60): ∃w S',_G.run 3 6 DQ [.ref n,tab m T,.int (most:Nat)] S=some (.tup (ai w),S')/\Stp n S S'/\(∀x∈w,x<m)/\w.length<=most/\w.length<60/\w.Nodup/\(∀x∈w,x≠0)/\(1<m->w≠[])/\srt w=w:=by
 have hp:=g.pos
 have hbig:m<big:=by unfold big;exact ag (by assumption) (by decide)
 have hn:=h.lt
 have hne1:S.length+1≠n:=cj (bY hn)
 have hm1:m - 1<60:=aJ (kO m 1) hm
 have e1:jN (iR2 (aa (mC (.int 1)) (aa (mFn bK (aa (ae 1) ah)) ah))) [some (.ref n),some (tab m T),some (.int (most:Nat)),none,none,none] S=some (.ref S.length,S++[Cell.lst (ai (bu 1 (m - 1)))]):=by
  rw[uC (i:=1) (j:=m) rfl (len_tab (var_eq rfl)) ⟨by decide,by decide⟩ (mM hbig) (by rw[kr m (by assumption),bU,kf];exact aM (kO m 1) (bG hbig)),kr m (by assumption)]
 have e2:fA ah [some (.ref n),some (tab m T),some (.int (most:Nat)),some (.ref S.length),none,none] (S++[Cell.lst (ai (bu 1 (m - 1)))])=some (.ref (S.length+1),S++[Cell.lst (ai (bu 1 (m - 1)))]++[Cell.lst []]):=z9.trans (by simp)
 generalize hS2:S++[Cell.lst (ai (bu 1 (m - 1)))]++[Cell.lst []]=S2 at e2
 have x2:Ex S S2:=⟨_,by rw[<- hS2,aW]⟩
 have g3:S2[S.length]? = some (Cell.lst (ai (bu 1 (m - 1)))):=by rw[<- hS2,aW,aG (aq _)];simp
 have g4:S2[S.length+1]? = some (Cell.lst (ai [])):=by rw[<- hS2,aW,aG (by exact dh _)];simp[ai]
 have st2:Stp n S S2:=Stp.ex h x2
 obtain⟨r,S3,e3,hr,st3⟩:=jf (m:=most) st2.st hmo (by exact ag (by assumption) (by decide))
 have hlen:(bu 1 (m - 1)).length=m - 1:=by simp
 have e4:mFn pX (aa (mFn bK (aa (ae 3) ah)) (aa (m2 dq (mC (.int 1)) (mFn aK (aa (ae 0) (aa (ae 2) ah)))) ah)) [some (.ref n),some (tab m T),some (.int (most:Nat)),some (.ref S.length),some (.ref (S.length+1)),none] S2=some (.int (min (m - 1) (1+r):Nat),S3):=by
  refine Ku (x:=m - 1) (y:=1+r) ?_ (add_n (x:=1) (y:=r) c_i (bO (var_eq rfl) (var_eq rfl) e3))
  have:=zJ (ρ:= [some (.ref n),some (tab m T),some (.int (most:Nat)),some (.ref S.length),some (.ref (S.length+1)),none]) (S:=S2) (a:=ae 3) (var_eq rfl) g3
  rw[this,bU,hlen]
 obtain⟨ρ5,S5,e5,a5,l5,w5,rfl,q3,q4,q5,q6,q7,q8,st5⟩:=yD (i:=5) (b:=zz) e4 (aJ (aM (jQ _ _) (kO m 1)) hbig)
  (λk ρ S' =>∃a l w,ρ = [some (.ref n),some (tab m T),some (.int (most:Nat)),some (.ref S.length),some (.ref (S.length+1)),a]/\S'[S.length]? = some (Cell.lst (ai l))/\S'[S.length+1]? = some (Cell.lst (ai w))/\l.length+k=m - 1/\w.length=k/\(∀x∈l,x<m)/\(w++l).Perm (bu 1 (m - 1))/\Stp n S S')
  ⟨none,bu 1 (m - 1),[],rfl,st3.some (by exact cj (by assumption)) g3,st3.some hne1 g4,by rw[hlen];rfl,rfl,λx hx=>Nat.lt_of_lt_of_eq (iB.mp hx).2 (Nat.add_sub_cancel' hp),by simp,st2.trans st3⟩ (by
   rintro k ρ S' hk ⟨a,l,w,rfl,c3,c4,hl,hw,lt1,lt2,st⟩
   have hlp:0<l.length:=Nat.lt_of_add_lt_add_right (by rw[d5,hl];exact ag hk (jQ _ _))
   have hll:l.length<60:=aJ (aM (jn _ k) (tQ hl)) hm1
   have hkk:k<60:=aJ (aM (Nat.le_add_left k _) (tQ hl)) hm1
   obtain⟨q,S6,e6,hq,st6⟩:=jf (m:=l.length) st.st hlp (ag hll (by decide))
   have c3':=st6.some (by exact cj (by assumption)) c3
   have c4':=st6.some hne1 c4
   have el:mFn bK (aa (ae 3) ah) [some (.ref n),some (tab m T),some (.int (most:Nat)),some (.ref S.length),some (.ref (S.length+1)),some (.int k)] S'=some (.int (l.length:Nat),S'):=by
    have:=zJ (ρ:= [some (.ref n),some (tab m T),some (.int (most:Nat)),some (.ref S.length),some (.ref (S.length+1)),some (.int k)]) (S:=S') (a:=ae 3) (var_eq rfl) c3
    rw[this,bU]
   have ep:=wV (ρ:= [some (.ref n),some (tab m T),some (.int (most:Nat)),some (.ref S.length),some (.ref (S.length+1)),some (.int k)]) (o:=ae 3) (a:=mFn aK (aa (ae 0) (aa (mFn bK (aa (ae 3) ah)) ah))) (r:=S.length) (j:=q) (l:=l) (var_eq rfl) (bO (var_eq rfl) el e6) c3 c3' hq (by unfold big;exact ag hll (by decide))
   have hin:l[q]∈l:=eW hq
   generalize hx:l[q]=xv at ep hin
   have lS:S.length<S6.length:=(ak.mp c3').1
   have c4'':(S6.set S.length (Cell.lst (ai (l.eraseIdx q))))[S.length+1]? = some (Cell.lst (ai w)):=by rw[aP (by exact aL (bF _))];exact c4'
   have ea:=append_eq (ρ:= [some (.ref n),some (tab m T),some (.int (most:Nat)),some (.ref S.length),some (.ref (S.length+1)),some (.int k)]) (o:=ae 4) (r:=S.length+1) (var_eq rfl) ep c4 c4'' (by rw[bU,hw];unfold big;exact ag hkk (by decide))
   refine⟨_,_,ea,some (.int k),l.eraseIdx q,w++[xv],rfl,?_,?_,?_,by simp[hw],λz hz=>lt1 z (List.mem_of_mem_eraseIdx hz),?_,?_⟩
   ·rw[aP (by exact Nat.succ_ne_self _)]
    exact bq lS
   ·rw[bq (ak.mp c4'').1]
    simp[ai]
   ·rw[List.length_eraseIdx,if_pos hq,<- hl,<- Nat.add_assoc,Nat.add_right_comm,Nat.sub_add_cancel hlp]
   ·rw[aW]
    refine EA (yb w ?_) lt2
    show(xv::l.eraseIdx q).Perm l
    rw[<- hx]
    exact gh l q hq
   ·exact((st.trans st6).set (by exact aq _) (by exact cj (by assumption))).set (by exact dh _) hne1)
 have hw:w5.length<60:=by rw[q6];exact aJ (jQ _ _) hm1
 have e6:=dS (wy (ρ:= [some (.ref n),some (tab m T),some (.int (most:Nat)),some (.ref S.length),some (.ref (S.length+1)),a5]) (S:=S5) (a:=ae 4) (var_eq rfl) q4 (by exact ag (by assumption) (by decide)))
 refine⟨srt w5,_,bW (ρ:= [some (.ref n),some (tab m T),some (.int (most:Nat)),some (.ref S.length),some (.ref (S.length+1)),a5]) rfl (show DQ [some (.ref n),some (tab m T),some (.int (most:Nat)),none,none,none] S=_ from(aV (bT e1)).trans ((aV (bT e2)).trans ((aV e5).trans (bV e6)))),st5.step (Ex.push _ _),λx hx =>?_,?_,?_,?_,λx hx =>?_,λh1 z =>?_,pk (jW w5)⟩
 ·exact Nat.lt_of_lt_of_eq (iB.mp (q8.mem_iff.mp (bo l5 (mR.mp hx)))).2 (Nat.add_sub_cancel' hp)
 ·rw[kl,q6];exact aM (Nat.min_le_right _ _) (by rw[tN];exact hr)
 ·rw[kl];assumption
 ·rw[(jW w5).nodup_iff]
  have:=q8.nodup_iff.mpr sJ
  exact(fQ.mp this).1
 ·have:=iB.mp (q8.mem_iff.mp (bo l5 (mR.mp hx)));omega
 ·have:w5.length=0:=by rw[<- kl,z];rfl
  omega
theorem B3{α:Type}{xs:List α}{k:Nat}:cut xs none (some (k:Int))=xs.take k:=by
 have h1:HT.sIx xs.length 0 none=0:=rfl
 have h2:HT.sIx xs.length xs.length (some (k:Int))=min k xs.length:=HT.sIx_nat _ _ k
 unfold cut
 rw[h1,h2,yf,Nat.sub_zero]
 by_cases h:k<=xs.length
 ·rw[xV h]
 ·rw[Nat.min_eq_right (by omega),iC (aq _),iC (by omega)]
section
variable {m:Nat}{T:Nat->Nat->Nat}{st:List Nat}{S:Sto}
noncomputable def HU(T:Nat->Nat->Nat)(st:List Nat)(p:Nod):List (List Nat):=(st.filter λs=>decide (T (eR p.2) s=0)).map λs=>p.1++[s]
end
end
end _W
end
section
namespace _W
open _L _G
section
theorem Ex.set{S S':Sto}{r:Nat}{c:Cell}(h:Ex S S')(hr:S.length<=r):Ex S (S'.set r c):=by
 obtain⟨t,rfl⟩:=h
 exact⟨t.set (r - S.length) c,by rw[iT _ _ hr]⟩
section
variable {m:Nat}{T:Nat->Nat->Nat}{st:List Nat}
noncomputable def pM(m:Nat)(T:Nat->Nat->Nat)(st:List Nat)(h:Nat):Option (List Nat):=if unT m T h∈st then some [unT m T h] else none
end
open PySem in
open PySem in
section
variable {m:Nat}{T:Nat->Nat->Nat}{st:List Nat}{S:Sto}
noncomputable def unM:MS:=bB (mMT gd (m2 oIx (ae 0) (ae 1)) (aa (mC (.int 0)) ah))
end
end
end _W
end
section
namespace _W
open _L _G
section
abbrev Rds:=List (Nat×List Nat)
noncomputable def kF(ks:Rds):List Nat:=ks.map Prod.fst
noncomputable def eF(ks:Rds):List (_L.Key×U):=ks.map λp=>(fB (p.1:Int),U.tup (ai p.2))
theorem DL{ks:Rds}{x:Nat}:wk (eF ks) (.inl (x:Int))=decide (x∈kF ks):=by
 have:wk (eF ks) (.inl (x:Int))=true↔x∈kF ks:=by
  rw[wU]
  unfold eF kF
  constructor
  ·rintro ⟨kv,hm,e⟩
   obtain⟨y,hy,rfl⟩:=aS.mp hm
   have e':(y.1:Int)=x:=BG e
   exact aS.mpr ⟨y,hy,by omega⟩
  ·intro h
   obtain⟨y,hy,rfl⟩:=aS.mp h
   exact⟨_,aS.mpr ⟨y,hy,rfl⟩,rfl⟩
 by_cases h:x∈kF ks
 ·rw[this.mpr h];simp[h]
 ·cases q:wk (eF ks) (.inl (x:Int)) with
  | true=>exact absurd (this.mp q) h
  | false=>simp[h]
theorem Mq{ks:Rds}{x:Nat}{w:List Nat}(h:x∉kF ks):yB (eF ks) (.inl (x:Int)) (.tup (ai w))=eF (ks++[(x,w)]):=by
 unfold yB
 rw[if_neg]
 ·simp[eF]
 ·intro z
  obtain⟨kv,hm,e⟩:=List.any_eq_true.mp z
  have:wk (eF ks) (.inl (x:Int))=true:=wU.mpr ⟨kv,hm,of_decide_eq_true e⟩
  rw[DL]at this
  exact h (of_decide_eq_true this)
theorem A5(ks:Rds):(eF ks).length=ks.length:=by simp[eF]
theorem r9: ∀(ks:Rds),dZ nJ (eF ks)=some (dJ (kF ks))
 | []=>rfl
 | x::l=>by
   show(nJ (fB (x.1:Int),U.tup (ai x.2))).bind _=_
   simp only[nJ,ar]
   rw[show List.map (λ(p:Nat×List Nat)=>(fB (p.1:Int),U.tup (ai p.2))) l=eF l from rfl,r9 l]
   rfl
noncomputable def g8(ks:Rds)(x:Nat):List Nat:=((ks.find? λp=>decide (p.1=x)).map Prod.snd).getD []
theorem G0{x:Nat}: ∀{ks:Rds},x∈kF ks->ni (eF ks) (.inl (x:Int))=some (.tup (ai (g8 ks x)))
 | [],h=>by simp[kF]at h
 | p::ks,h=>by
   unfold ni g8 eF
   rw[bM,cm,cm]
   by_cases e:p.1=x
   ·have:(fB (p.1:Int):_L.Key) = .inl (x:Int):=by rw[e]
    simp[e]
   ·have e1: ¬((fB (p.1:Int):_L.Key) = .inl (x:Int)):=λz=>e (by have:=BG z;omega)
    simp only[decide_eq_false e,decide_eq_false e1]
    have h':x∈kF ks:=by
     rcases aO.mp (show x∈p.1::kF ks from h) with z |z
     ·exact absurd z.symm e
     ·exact z
    exact G0 (ks:=ks) h'
theorem nK{x:Nat}: ∀{ks:Rds},x∈kF ks->(x,g8 ks x)∈ks
 | [],h=>by simp[kF]at h
 | p::ks,h=>by
   unfold g8
   rw[cm]
   by_cases e:p.1=x
   ·rw[decide_eq_true e]
    show(x,p.2)∈p::ks
    rw[<- e];exact dG
   ·have h':x∈kF ks:=by
     rcases aO.mp (show x∈p.1::kF ks from h) with z |z
     ·exact absurd z.symm e
     ·exact z
    rw[decide_eq_false e]
    exact aC _ (nK (ks:=ks) h')
structure Rd(T:Nat->Nat->Nat)(ths:List Nat)(ks:Rds):Prop where
 go: ∀p∈ks,bH T p.2=p.1
 by': ∀p∈ks,∀y∈p.2,y∈ths
 len: ∀p∈ks,p.2.length<ks.length
section
variable {m:Nat}{T:Nat->Nat->Nat}{ths:List Nat}{S x:Sto}{v:U}
noncomputable def ff(S:Sto)(p:Rds×List Nat)(x:Sto):Sto:=S++[.dic (eF p.1),.lst (ai p.2)]++x
noncomputable def yP(T:Nat->Nat->Nat)(h y:Nat)(p:Rds×List Nat):Rds×List Nat:=if T h y∈kF p.1 then p else(p.1++[(T h y,g8 p.1 h++[y])],p.2++[T h y])
noncomputable def cvR(p:Rds×List Nat):List Nat×List Nat:=(kF p.1,p.2)
theorem Gg{h y:Nat}{p:Rds×List Nat}:cvR (yP T h y p)=tryD T h y (cvR p):=by
 by_cases e:T h y∈kF p.1
 ·rw[yP,if_pos e,tryD,if_pos (show T h y∈(cvR p).1 from e)]
 ·rw[yP,if_neg e,tryD,if_neg (show ¬T h y∈(cvR p).1 from e)]
  simp[cvR,kF]
theorem Gb{h y:Nat}{p:Rds×List Nat}(hr:Rd T ths p.1)(hh:h∈kF p.1)(hy:y∈ths):Rd T ths (yP T h y p).1:=by
 unfold yP
 split
 ·exact hr
 ·have hm:=nK hh
  refine⟨λq hq =>?_,λq hq =>?_,λq hq =>?_⟩
  ·rcases be.mp hq with hq |hq
   ·exact hr.go q hq
   ·simp at hq;subst hq
    show bH T (g8 p.1 h++[y])=T h y
    have:=hr.go _ hm
    unfold bH at this ⊢
    rw[iA,this];rfl
  ·rcases be.mp hq with hq |hq
   ·exact hr.by' q hq
   ·simp at hq;subst hq
    intro z hz
    rcases be.mp hz with hz |hz
    ·exact hr.by' _ hm z hz
    ·simp at hz;rw[hz];exact hy
  ·rw[bj]
   rcases be.mp hq with hq |hq
   ·have:=hr.len q hq;simp;exact fR (by assumption)
   ·simp at hq;subst hq
    have:=hr.len _ hm
    simp at this ⊢;assumption
theorem Ny{ρ:Rho}{S S1 S2:Sto}{a b:ME}{r:Nat}{y:Nat}{kvs:List (_L.Key×U)}{u:U}(ha:a ρ S=some (.ref r,S1))(hb:b ρ S1=some (.int (y:Nat),S2))(hr:S2[r]? = some (Cell.dic kvs))(h:ni kvs (.inl (y:Int))=some u):m2 oIx a b ρ S=some (u,S2):=
 op2 ha hb (by simp only[oIx,fJ,hr,keyOf,ar,h,bb])
theorem LW{ρ:Rho}{S:Sto}{o i e:ME}{r:Nat}{z:Int}{u:U}{kvs:List (_L.Key×U)}(he:e ρ S=some (u,S))(ho:o ρ S=some (.ref r,S))(hi:i ρ S=some (.int z,S))(hr:S[r]? = some (Cell.dic kvs))(hl:kvs.length<big):jb o i e ρ S=some (.nx,ρ,S.set r (.dic (yB kvs (.inl z) u))):=by
 simp only[jb,he,aH,ho,hi,hr,keyOf,ar,hl,if_true]
noncomputable def o9:MS:=ba (bC 6 (m2 oIx (m2 oIx (ae 0) (ae 4)) (ae 5))) (sIf (cOf (m2 gE (ae 6) (ae 2))) (ba (jb (ae 2) (ae 6) (m2 dq (m2 oIx (ae 2) (ae 4)) (dg (aa (ae 5) ah)))) (fb (mML d7 (ae 3) (aa (ae 6) ah)))) b7)
noncomputable def Hv:MS:=ba (bC 4 (mML uU (ae 3) ah)) (ft 5 (dv (ae 1)) o9)
noncomputable def zS:MS:=ba (bC 2 (rD (mC (.int 0)) (dg ah))) (ba (bC 3 (fA (aa (mC (.int 0)) ah))) (ba (iE Ce Hv) (bB (ae 2))))
noncomputable def spM:MS:=bB (mFn b9 (aa (mFn dW (aa (mFn (_G.run 2 7 zS) (aa (ae 0) (aa (ae 1) ah))) ah)) ah))
theorem By{c:Option U}{h y:Nat}{p:Rds×List Nat}(hh:h<m)(hy:y<m)(hk:h∈kF p.1)(hr:Rd T ths p.1)(l1:p.1.length<1000)(l2:p.2.length<big):
  o9 (spR m T v S [some (.int h),some (.int y),c]) (ff S p x)=some (.nx,spR m T v S [some (.int h),some (.int y),some (.int (T h y:Nat))],ff S (yP T h y p) x):=by
 have e6:m2 oIx (m2 oIx (ae 0) (ae 4)) (ae 5) (spR m T v S [some (.int h),some (.int y),c]) (ff S p x)=some (.int (T h y:Nat),ff S p x):=iY hy (iG hh (var_eq rfl) (var_eq rfl)) (var_eq rfl)
 refine(aV (bT e6)).trans ?_
 show sIf _ _ _ (spR m T v S [some (.int h),some (.int y),some (.int (T h y:Nat))]) (ff S p x)=_
 have ec:=FF (ρ:=spR m T v S [some (.int h),some (.int y),some (.int (T h y:Nat))]) (a:=ae 6) (b:=ae 2) (x:=T h y) (var_eq rfl) (var_eq rfl) (show(ff S p x)[S.length]? = _ from h0)
 rw[DL]at ec
 unfold yP
 by_cases hin:T h y∈kF p.1
 ·rw[if_pos hin]
  rw[decide_eq_true hin]at ec
  exact gG ec
 ·rw[if_neg hin]
  rw[decide_eq_false hin]at ec
  refine(p9 ec).trans ?_
  have hrl:=hr.len _ (nK hk)
  have ea:m2 dq (m2 oIx (ae 2) (ae 4)) (dg (aa (ae 5) ah)) (spR m T v S [some (.int h),some (.int y),some (.int (T h y:Nat))]) (ff S p x)=some (.tup (ai (g8 p.1 h++[y])),ff S p x):=zT (x:=g8 p.1 h) (y:= [y]) (Ny (y:=h) (var_eq rfl) (var_eq rfl) (show(ff S p x)[S.length]? = _ from h0) (G0 hk)) (wF (var_eq rfl)) (by simp at hrl ⊢;exact aJ (by assumption) (by assumption))
  have e1:=LW (o:=ae 2) (i:=ae 6) ea (var_eq rfl) (var_eq rfl) (show(ff S p x)[S.length]? = _ from h0) (by rw[A5];unfold big;exact ag (by assumption) (by decide))
  rw[Mq hin,show(ff S p x).set S.length (.dic (eF (p.1++[(T h y,g8 p.1 h++[y])])))=ff S (p.1++[(T h y,g8 p.1 h++[y])],p.2) x from t0]at e1
  refine(aV e1).trans ?_
  have e2:=append_eq (ρ:=spR m T v S [some (.int h),some (.int y),some (.int (T h y:Nat))]) (o:=ae 3) (a:=ae 6) (var_eq rfl) (var_eq rfl) (show(ff S (p.1++[(T h y,g8 p.1 h++[y])],p.2) x)[S.length+1]? = _ from h1) h1 (by rw[bU];exact l2)
  rw[show(ff S (p.1++[(T h y,g8 p.1 h++[y])],p.2) x).set (S.length+1) _=S++[.dic (eF (p.1++[(T h y,g8 p.1 h++[y])])),_]++x from t1]at e2
  rw[e2]
  simp[ff,ai]
theorem F7{a b c:Option U}{h μ:Nat}{p:Rds×List Nat}(g:Grp m T)(hm:m<64)(hμ:μ<1000)(ht: ∀z∈ths,z<m)(hv:Wk S v ths)(n:Inn m T ths h 0 (cvR p) μ)(hr:Rd T ths p.1):
  ∃b' c' q,ft 5 (dv (ae 1)) o9 (spR m T v S [some (.int h),b,c]) (ff S p x)=some (.nx,spR m T v S [some (.int h),b',c'],ff S q x)/\Inn m T ths h ths.length (cvR q) μ/\Rd T ths q.1:=by
 have hh:h<m:=n.d.lt h n.hk
 have stp: ∀(k:Nat) (u:U) (ρ:Rho) (S':Sto),(ai ths)[k]? = some u->(∃b c q,S'=ff S q x/\ρ=spR m T v S [some (.int h),b,c]/\Inn m T ths h k (cvR q) μ/\Rd T ths q.1) -> ∃ρ' S'',o9 (ρ.set 5 (some u)) S'=some (.nx,ρ',S'') /\ ∃b c q,S''=ff S q x/\ρ'=spR m T v S [some (.int h),b,c]/\Inn m T ths h (k+1) (cvR q) μ/\Rd T ths q.1:=by
  rintro k u ρ S' hu ⟨b,c,q,rfl,rfl,q3,q4⟩
  obtain⟨y,hy,rfl⟩:=mw hu
  have l:=q3.st_le hμ hm
  have hym:=cb hy
  have l1:q.1.length<1000:=by have:=q3.d.len;simp only[cvR,kF,aA]at this;exact aJ (by assumption) (ag (by assumption) (by decide))
  refine⟨_,_,By (S:=S) (x:=x) (v:=v) (c:=c) hh (ht y hym) q3.hk q4 l1 l.2,_,_,_,rfl,rfl,?_,Gb q4 q3.hk hym⟩
  rw[Gg]
  exact q3.try g ht hy
 rcases hv with rfl | ⟨r,rfl,hr1,hl⟩
 ·obtain⟨ρ',S',e,b',c',q,rfl,rfl,q3,q4⟩:=vt (i:=5) (b:=o9) (e:=ae 1) (ρ:=spR m T (.tup (ai ths)) S [some (.int h),b,c]) (S:=ff S p x) (us:=ai ths) (var_eq rfl) _ ⟨b,c,p,rfl,rfl,n,hr⟩ stp
  rw[bU]at q3
  exact⟨b',c',q,e,q3,q4⟩
 ·have hrl:=(ak.mp hr1).1
  obtain⟨ρ',S',e,b',c',q,rfl,rfl,q3,q4⟩:=JZ (i:=5) (b:=o9) (e:=ae 1) (ρ:=spR m T (.ref r) S [some (.int h),b,c]) (S:=ff S p x) (us:=ai ths) (var_eq rfl) (by rw[bU];exact ag (by assumption) (by decide)) _ ⟨b,c,p,rfl,rfl,n,hr⟩
   (by
    rintro k ρ S' ⟨b,c,q,rfl,_⟩
    unfold getL ff
    rw[aW,bg hrl,hr1]) stp
  rw[bU]at q3
  exact⟨b',c',q,e,q3,q4⟩
theorem BQ(g:Grp m T)(hm:m<64)(ht: ∀z∈ths,z<m)(hv:Wk S v ths): ∃ks S',_G.run 2 7 zS [tab m T,v] S=some (.ref S.length,S')/\Ex S S'/\S'[S.length]? = some (.dic (eF ks))/\Dfs m T ths (kF ks) (λ_=>False)/\Rd T ths ks:=by
 have hp:=g.pos
 obtain⟨ρ',S1,e1,⟨r,ks,x,rfl,rfl,d,hr⟩⟩:=qD (c:=Ce) (b:=Hv) (λμ ρ S' =>∃a b c p x,ρ=spR m T v S [a,b,c]/\S'=ff S p x/\y4 m T ths (kF p.1) p.2 μ/\μ<1000/\Rd T ths p.1)
  (λρ S' =>∃r ks x,ρ=spR m T v S r/\S'=ff S (ks,[]) x/\Dfs m T ths (kF ks) (λ_=>False)/\Rd T ths ks) (by
  rintro μ ρ S' ⟨a,b,c,p,x,rfl,rfl,s,hμ,hr⟩
  have ec:Ce (spR m T v S [a,b,c]) (ff S p x)=some (decide ((0:Int)<(ai p.2).length),ff S p x):=of_eq (CK (zJ (var_eq rfl) h1) c_i)
  refine⟨_,_,ec,λhf =>?_,λhf =>?_⟩
  ·have h2:p.2 = []:=by
    have:=of_decide_eq_false hf
    rw[bU]at this
    exact eV.mp (by omega)
   refine⟨_,p.1,x,rfl,by rw[<- h2],?_,hr⟩
   have:=s.d
   rw[h2]at this
   exact⟨this.nd,this.lt,this.z,this.rc,λx hx=>(this.cl x hx).imp (by simp) id⟩
  ·have h2:p.2≠[]:=λe=>by rw[e]at hf;simp[ai]at hf
   obtain⟨st,h,e⟩:=ow h2
   obtain⟨ks,s2⟩:=p
   subst e
   cases μ with
   | zero=>have:=s.ms;simp at this
   | succ μ=>
   have e4:bC 4 (mML uU (ae 3) ah) (spR m T v S [a,b,c]) (ff S (ks,st++[h]) x)=some (.nx,spR m T v S [some (.int h),b,c],ff S (ks,st) x):=by
    rw[bT (i:=4) (EF (ρ:=spR m T v S [a,b,c]) (S:=ff S (ks,st++[h]) x) (o:=ae 3) (r:=S.length+1) (var_eq rfl) h1)]
    rw[show(ff S (ks,st++[h]) x).set (S.length+1) (Cell.lst (ai st))=ff S (ks,st) x from t1]
    rfl
   obtain⟨b',c',q,e5,i,hq⟩:=F7 (S:=S) (x:=x) (a:=a) (b:=b) (c:=c) (p:=(ks,st)) g hm (by exact bG (by assumption)) ht hv s.pop hr
   exact⟨_,_,μ,bF _,(aV e4).trans e5,_,_,_,q,x,rfl,rfl,i.done,by exact bG (by assumption),hq⟩) fuel (2*m) (spR m T v S [none,none,none]) (ff S ([(0,[])],[0]) []) (by unfold fuel;omega) ⟨_,_,_,([(0,[])],[0]),[],rfl,rfl,y4.start hp,by omega,⟨λp hp=>by simp at hp;subst hp;rfl,λp hp=>by simp at hp;subst hp;simp,λp hp=>by simp at hp;subst hp;simp⟩⟩
 refine⟨ks,_,bW (ρ:=spR m T v S r) rfl ?_,?_,(show(ff S (ks,[]) x)[S.length]? = _ from h0),d,hr⟩
 ·show zS [some (tab m T),some v,none,none,none,none,none] S=_
  have ed:rD (mC (.int 0)) (dg ah) [some (tab m T),some v,none,none,none,none,none] S=some (.ref S.length,S++[.dic (eF [(0,[])])]):=by
   simp[rD,mC,dg,ah,aH,keyOf,eF,ai]
  refine(aV (bT ed)).trans ((aV (bT (G5 c_i))).trans ?_)
  refine(aV (ρ1:=spR m T v S r) (S1:=ff S (ks,[]) x) ?_).trans (bV (var_eq rfl))
  rw[<- e1]
  simp[iE,ff,spR,ai]
 ·unfold ff;rw[aW];exact⟨_,rfl⟩
theorem Ki(g:Grp m T)(hm:m<64)(ht: ∀z∈ths,z<m)(hv:Wk S v ths): ∃ks S',_G.run 2 2 spM [tab m T,v] S=some (.tup (ai (srt ks)),S')/\Ex S S'/\Dfs m T ths ks λ_=>False:=by
 obtain⟨ks,S1,e1,x1,q1,d,_⟩:=BQ (v:=v) g hm ht hv
 have hl:(kF ks).length<64:=aJ d.len hm
 have e2:mFn dW (aa (mFn (_G.run 2 7 zS) (aa (ae 0) (aa (ae 1) ah))) ah) [some (tab m T),some v] S=some (.ref S1.length,S1++[.lst (ai (srt (kF ks)))]):=iM (bO (var_eq rfl) (var_eq rfl) e1) (qV (by simp only[rR,fJ,q1,r9]) hl)
 exact⟨kF ks,_,bW (ρ:= [some (tab m T),some v]) rfl (bV (dS e2)),x1.trans (Ex.push _ _),d⟩
theorem Kk(g:Grp m T)(hm:m<64)(ht: ∀z∈ths,z<m): ∃ks S',_G.run 2 2 spM [tab m T,.tup (ai ths)] S=some (.tup (ai (srt ks)),S')/\Ex S S'/\Dfs m T ths ks λ_=>False:=Ki g hm ht (.inl rfl)
end
end
end _W
end
section
namespace _W
open _L _G
section
theorem pE{α β γ:Sort _}{f:α->β->γ}{a a':α}{b b':β}(h1:a=a')(h2:b=b'):f a b=f a' b':=by rw[h1,h2]
section
variable {m:Nat}{T:Nat->Nat->Nat}
abbrev Lt(m:Nat)(w:List Nat):Prop:= ∀x∈w,x<m
theorem Lt.app{a b:List Nat}(ha:Lt m a)(hb:Lt m b):Lt m (a++b):=λx hx=>(be.mp hx).elim (ha x) (hb x)
theorem Lt.tk{a:List Nat}(ha:Lt m a)(k:Nat):Lt m (a.take k):=λx hx=>ha x (EB hx)
theorem lW(g:Grp m T){w:List Nat}(hw:Lt m w):bH T w<m:=zw g.pos g.cl hw
theorem qG(g:Grp m T): ∀(w:List Nat) (x:Nat),x<m->Lt m w->w.foldl T x=T x (bH T w)
 | [],x,hx,_=>by show x=T x 0;rw[g.r0 x hx]
 | y::w,x,hx,h=>by
   have hy:y<m:=h y (by simp)
   have hw:Lt m w:=λz hz=>h z (aC _ hz)
   show w.foldl T (T x y)=T x (w.foldl T (T 0 y))
   rw[qG g w _ (g.cl x y hx hy) hw,g.l0 y hy,qG g w y hy hw,g.as x y _ hx hy (lW g hw)]
theorem lU(g:Grp m T){a b:List Nat}(ha:Lt m a)(hb:Lt m b):bH T (a++b)=T (bH T a) (bH T b):=by
 show(a++b).foldl T 0=_
 rw[iA]
 exact qG g b _ (lW g ha) hb
theorem m5(g:Grp m T){x:Nat}{w:List Nat}(hx:x<m)(hw:Lt m w):bH T (x::w)=T x (bH T w):=by
 show w.foldl T (T 0 x)=_
 rw[g.l0 x hx];exact qG g w x hx hw
theorem gZ{w:List Nat}{x:Nat}:bH T (w++[x])=T (bH T w) x:=by unfold bH;rw[iA];rfl
theorem jF(g:Grp m T){x:Nat}(hx:x<m):unT m T x<m:=(kn g hx).1
theorem yt(g:Grp m T){x:Nat}(hx:x<m):T x (unT m T x)=0:=(kn g hx).2.1
theorem KP(g:Grp m T){x:Nat}(hx:x<m):T (unT m T x) x=0:=(kn g hx).2.2.1
theorem wO(g:Grp m T){x y:Nat}(hx:x<m)(hy:y<m)(h:T x y=0):y=unT m T x:=(kn g hx).2.2.2 y hy h
theorem z3(g:Grp m T){x:Nat}(hx:x<m):unT m T (unT m T x)=x:=(wO g (jF g hx) hx (KP g hx)).symm
theorem CM(g:Grp m T){x y:Nat}(hx:x<m)(hy:y<m):unT m T (T x y)=T (unT m T y) (unT m T x):=by
 have h1:=jF g hx
 have h2:=jF g hy
 refine(wO g (g.cl _ _ hx hy) (g.cl _ _ h2 h1) ?_).symm
 rw[g.as x y _ hx hy (g.cl _ _ h2 h1),<- g.as y _ _ hy h2 h1,yt g hy,g.l0 _ h1,yt g hx]
theorem Mn(g:Grp m T):unT m T 0=0:=(wO g g.pos g.pos (g.l0 0 g.pos)).symm
noncomputable def bk(m:Nat)(T:Nat->Nat->Nat)(w:List Nat):List Nat:=w.reverse.map (unT m T)
theorem GZ(g:Grp m T){w:List Nat}(hw:Lt m w):Lt m (bk m T w):=λx hx=>by
 obtain⟨y,hy,rfl⟩:=aS.mp hx
 exact jF g (hw y (d6.mp hy))
theorem yG{w:List Nat}:(bk m T w).length=w.length:=by simp[bk]
theorem vF(g:Grp m T): ∀{w:List Nat},Lt m w->bH T (bk m T w)=unT m T (bH T w)
 | [],_=>(Mn g).symm
 | x::w,h=>by
   have hx:x<m:=h x (by simp)
   have hw:Lt m w:=λz hz=>h z (aC _ hz)
   have e:bk m T (x::w)=bk m T w++[unT m T x]:=by simp[bk]
   rw[e,gZ,vF g hw,m5 g hx hw,CM g hx (lW g hw)]
theorem xB(g:Grp m T){x:Nat}{w:List Nat}(hx:x<m)(hw:Lt m w):plc T (x::w)=0::(plc T w).map (T x):=by
 unfold plc
 rw[cu,BK,bM,b4,b4]
 refine pE rfl (bt λk _ =>?_)
 show bH T (x::w.take k)=_
 exact m5 g hx (hw.tk k)
theorem lL{w:List Nat}{x:Nat}:plc T (w++[x])=plc T w++[T (bH T w) x]:=by
 unfold plc
 rw[bj,cu,eJ,cZ,b5]
 refine pE (bt λk hk =>?_) ?_
 ·have:=aI.mp hk
  rw[fg (by exact dR (by assumption))]
 ·show [bH T ((w++[x]).take (w.length+1))]=_
  rw[iC (by simp),gZ]
theorem ox{w:List Nat}:(plc T w).length=w.length+1:=by simp[plc]
theorem jJ(g:Grp m T){w:List Nat}(hw:Lt m w):Lt m (plc T w):=λx hx=>by
 obtain⟨k,_,rfl⟩:=aS.mp hx
 exact lW g (hw.tk k)
theorem Dt(g:Grp m T): ∀{w:List Nat},Lt m w->plc T (bk m T w)=(plc T w).reverse.map (T (unT m T (bH T w)))
 | [],_=>by
   show [0] = [T (unT m T 0) 0]
   rw[Mn g,g.l0 0 g.pos]
 | x::w,h=>by
   have hx:x<m:=h x (by simp)
   have hw:Lt m w:=λz hz=>h z (aC _ hz)
   have e:bk m T (x::w)=bk m T w++[unT m T x]:=by simp[bk]
   have hc:=lW g hw
   have hu:=jF g hc
   have hux:=jF g hx
   rw[e,lL,Dt g hw,xB g hx hw,vF g hw,m5 g hx hw,CM g hx hc,sy,b5,<- List.map_reverse,b4]
   refine pE (bt λy hy =>?_) ?_
   ·have hy:y<m:=jJ g hw y (d6.mp hy)
    show _=T (T (unT m T (bH T w)) (unT m T x)) (T x y)
    rw[g.as _ _ _ hu hux (g.cl _ _ hx hy),<- g.as _ _ _ hux hx hy,KP g hx,g.l0 y hy]
   ·show _ = [T (T (unT m T (bH T w)) (unT m T x)) 0]
    rw[g.r0 _ (g.cl _ _ hu hux)]
noncomputable def pre(T:Nat->Nat->Nat)(w:List Nat):List Nat:=(aE w.length).map λk=>bH T (w.take k)
theorem iQ{w:List Nat}:plc T w=pre T w++[bH T w]:=by
 unfold plc pre
 rw[cZ,b5]
 simp
theorem zD{w:List Nat}:(pre T w).length=w.length:=by simp[pre]
theorem pre_app(g:Grp m T){a b:List Nat}(ha:Lt m a)(hb:Lt m b):pre T (a++b)=pre T a++(pre T b).map (T (bH T a)):=by
 unfold pre
 rw[bj,List.range_add,b5,b4,b4]
 refine pE (bt λk hk =>?_) (bt λk hk =>?_)
 ·have:=aI.mp hk
  rw[fg (by exact bG (by assumption))]
 ·show bH T ((a++b).take (a.length+k))=T (bH T a) (bH T (b.take k))
  rw[List.take_append,iC (by omega),show a.length+k - a.length=k by omega]
  exact lU g ha (hb.tk k)
structure All(m:Nat)(l:List Nat):Prop where
 nd:l.Nodup
 lt:Lt m l
 len:l.length=m
theorem All.mem{l:List Nat}(h:All m l){x:Nat}(hx:x<m):x∈l:=by
 apply cJ
 intro z
 have:=mn m (x::l) (gO.mpr ⟨z,h.nd⟩) (λy hy=>(aO.mp hy).elim (λe=>e▸hx) (h.lt y))
 have:=h.len
 simp at *
 omega
theorem All.perm{l:List Nat}(h:All m l):l.Perm (aE m):=
 (ye h.nd uH).mpr λx=>⟨λhx=>aI.mpr (h.lt x hx),λhx=>h.mem (aI.mp hx)⟩
theorem All.of{l:List Nat}(h:l.Perm (aE m)):All m l:=
 ⟨h.nodup_iff.mpr uH,λx hx=>aI.mp (h.mem_iff.mp hx),by have:=h.length_eq;simpa using this⟩
theorem All.map{f:Nat->Nat}{l:List Nat}(h:All m l)(lt: ∀x,x<m->f x<m)(inj: ∀x y,x<m->y<m->f x=f y->x=y):All m (l.map f):=by
 refine⟨?_,λx hx =>?_,by simp[h.len]⟩
 ·rw[eg,fP]
  exact jy (λha hb hab e=>hab (inj _ _ (h.lt _ ha) (h.lt _ hb) e)) (eg.mp h.nd)
 ·obtain⟨y,hy,rfl⟩:=aS.mp hx
  exact lt y (h.lt y hy)
theorem All.left(g:Grp m T){a:Nat}{l:List Nat}(ha:a<m)(h:All m l):All m (l.map (T a)):=
 h.map (λx hx=>g.cl a x ha hx) λx y hx hy e=>g.cancel ha hx hy e
abbrev Way(m:Nat)(T:Nat->Nat->Nat)(w:List Nat):Prop:=All m (plc T w)
structure Rnd(m:Nat)(T:Nat->Nat->Nat)(w:List Nat):Prop where
 home:bH T w=0
 all:All m (pre T w)
theorem ot{w:List Nat}:eR (plc T w)=bH T w:=by rw[iQ,ky]
end
theorem vm{ρ:Rho}{S S1 S2:Sto}{a b:ME}{x y:Bool}(ha:a ρ S=some (.bl x,S1))(hb:x=true->b ρ S1=some (.bl y,S2))(hf:x=false->S2=S1):iH a b ρ S=some (.bl (x&&y),S2):=by
 cases x with
 | true=>simp only[iH,ha,aH,hb rfl,qx]
 | false=>simp only[iH,ha,aH,hf rfl,Bool.false_and]
theorem nT{ρ:Rho}{S S1 S2:Sto}{a b:ME}{x y:Bool}(ha:a ρ S=some (.bl x,S1))(hb:b ρ S1=some (.bl y,S2))(x1:Ex S S1)(x2:Ex S1 S2): ∃S',iH a b ρ S=some (.bl (x&&y),S')/\Ex S S':=by
 cases x with
 | true=>exact⟨S2,vm ha (λ_=>hb) (λz=>by cases z),x1.trans x2⟩
 | false=>exact⟨S1,vm (y:=y) ha (λz=>by cases z) (λ_=>rfl),x1⟩
theorem xq{α:Type}{f:α->Bool}: ∀l:List α,dZ lR (l.map λx=>U.bl (f x))=some (l.map f)
 | []=>rfl
 | x::l=>by
   show(lR (U.bl (f x))).bind _=_
   simp only[lR,ar]
   rw[xq l]
   rfl
theorem yj{α:Type}{ρ:Rho}{S S1:Sto}{a:ME}{r:Nat}{f:α->Bool}{l:List α}(ha:a ρ S=some (.ref r,S1))(hr:S1[r]? = some (.lst (l.map λx=>U.bl (f x)))):mFn pe (aa a ah) ρ S=some (.bl (l.all f),S1):=by
 refine iM ha ?_
 simp only[pe,getL,hr,ar,xq,bb]
 congr 2
 simp[List.all_map,Function.comp_def]
theorem NQ{ρ:Rho}{S S1 S2:Sto}{a b:ME}{x y:List Nat}(ha:a ρ S=some (.tup (ai x),S1))(hb:b ρ S1=some (.tup (ai y),S2)):m2 oEq a b ρ S=some (.bl (decide (x=y)),S2):=
 op2 ha hb (by simp only[oEq,Aq,bb])
theorem xy{ρ:Rho}{S S1:Sto}{a:ME}{l:List Nat}(ha:a ρ S=some (.tup (ai l),S1))(hl:l.length<64):mFn dW (aa a ah) ρ S=some (.ref S1.length,S1++[.lst (ai (srt l))]):=
 iM ha (qV (by simp only[rR,fJ,dz,ar,i8]) hl)
theorem A3(m:Nat):srt (aE m)=aE m:=by
 have h:dJ (aE m)=kR (dJ (aE m)):=oQ (List.Perm.refl _) (by
  unfold dJ
  rw[fP]
  exact(nG (n:=m)).imp λh=>by omega)
 unfold srt
 rw[<- h];exact nN _
theorem Ak{m:Nat}{l:List Nat}:decide (srt l=aE m)=true↔All m l:=by
 rw[decide_eq_true_iff]
 constructor
 ·intro h
  exact All.of ((jW l).symm.trans (by rw[h]))
 ·intro h
  rw[pk h.perm,A3]
section
variable {m:Nat}{T:Nat->Nat->Nat}{st w:List Nat}{S:Sto}
noncomputable def nbM:MS:=bB (iH (m1 (nR "int") (ae 0)) (iH (m1 zc (m1 (nR "bool") (ae 0))) (mCh oLe oLt (mC (.int 0)) (ae 0) (ae 1))))
theorem Lj{x n:Nat}:_G.run 2 2 nbM [.int (x:Nat),.int (n:Nat)] S=some (.bl (decide (x<n)),S):=by
 refine bW (ρ:= [some (.int (x:Nat)),some (.int (n:Nat))]) rfl (bV ?_)
 have h1:m1 (nR "int") (ae 0) [some (.int (x:Nat)),some (.int (n:Nat))] S=some (.bl true,S):=rfl
 have h2:m1 zc (m1 (nR "bool") (ae 0)) [some (.int (x:Nat)),some (.int (n:Nat))] S=some (.bl true,S):=rfl
 have h3:mCh oLe oLt (mC (.int 0)) (ae 0) (ae 1) [some (.int (x:Nat)),some (.int (n:Nat))] S=some (.bl (decide (x<n)),S):=by
  have v0:ae 0 [some (.int (x:Nat)),some (.int (n:Nat))] S=some (.int (x:Nat),S):=rfl
  have v1:ae 1 [some (.int (x:Nat)),some (.int (n:Nat))] S=some (.int (n:Nat),S):=rfl
  have l:oLe (.int 0) (.int (x:Nat)) S=some (.bl true,S):=by
   show some (U.bl (decide ((0:Int)<=(x:Int))),S)=_
   rw[decide_eq_true (by exact kN _)]
  have l2:oLt (.int (x:Nat)) (.int (n:Nat)) S=some (.bl (decide (x<n)),S):=by
   show some (U.bl (decide ((x:Int)<(n:Int))),S)=_
   congr 2
   simp
  simp only[mCh,mC,aH,v0,l,v1,l2]
 exact vm h1 (λ_=>vm h2 (λ_=>h3) (λz=>by cases z)) (λz=>by cases z)
noncomputable def DH:MS:=bB (iH (m1 (nR "tuple") (ae 0)) (mFn pe (aa (cq (dv (ae 0)) cTT (mFn (_G.run 2 2 nbM) (aa (ae 2) (aa (ae 1) ah)))) ah)))
theorem rG{ρ:Rho}{S:Sto}{e a:ME}{l:List Nat}{f:Nat->U}(ha:a ρ S=some (.tup (ai l),S))(hl:l.length<10000000)(he: ∀x∈l,e (ρ++[some (.int x)]) S=some (f x,S)):cq (dv a) cTT e ρ S=some (.ref S.length,S++[.lst (l.map f)]):=by
 have h:=rL (t:=cTT) (e:=e) (ρ:=ρ) (S:=S) (a:=a) (l:=l) (p:=λ_=>true) (f:=f) ha (by unfold big;exact ag (by assumption) (by decide)) (λ_ _=>rfl) (λx hx _=>he x hx)
 rwa[pU.mpr (λ_ _=>rfl)]at h
theorem Cv{n:Nat}(hl:w.length<10000000): ∃S',_G.run 2 2 DH [.tup (ai w),.int (n:Nat)] S=some (.bl (w.all λx=>decide (x<n)),S')/\Ex S S':=by
 have h1:m1 (nR "tuple") (ae 0) [some (.tup (ai w)),some (.int (n:Nat))] S=some (.bl true,S):=isT (var_eq rfl)
 have h2:=rG (e:=mFn (_G.run 2 2 nbM) (aa (ae 2) (aa (ae 1) ah))) (ρ:= [some (.tup (ai w)),some (.int (n:Nat))]) (S:=S) (a:=ae 0) (l:=w) (f:=λx => .bl (decide (x<n))) (var_eq rfl) hl (λx _=>bO (var_eq rfl) (var_eq rfl) Lj)
 obtain⟨S',e,x⟩:=nT h1 (yj h2 (fk _ _)) (Ex.refl _) (Ex.push _ _)
 exact⟨S',bW (ρ:= [some (.tup (ai w)),some (.int (n:Nat))]) rfl (bV (e.trans (by rw[qx]))),x⟩
noncomputable def wbM:MS:=bB (iH (mFn (_G.run 2 2 DH) (aa (ae 2) (aa (mFn bK (aa (ae 0) ah)) ah))) (mFn pe (aa (cq (dv (ae 2)) cTT (m2 oIn (ae 3) (ae 1))) ah)))
theorem NG{ρ:Rho}{S S1 S2:Sto}{a b:ME}{x:Nat}{l:List Nat}(ha:a ρ S=some (.int x,S1))(hb:b ρ S1=some (.tup (ai l),S2)):m2 oIn a b ρ S=some (.bl (decide (x∈l)),S2):=
 op2 ha hb (by simp only[oIn,fJ,eO,ar,dz,mW,bb,u9])
theorem Hg(hl:w.length<10000000)(hw:Lt m w): ∃S',_G.run 3 3 wbM [tab m T,.tup (ai st),.tup (ai w)] S=some (.bl (w.all λx=>decide (x∈st)),S')/\Ex S S':=by
 obtain⟨S1,e1,x1⟩:=Cv (S:=S) (n:=m) hl
 have ht:(w.all λx=>decide (x<m))=true:=cM.mpr λx hx=>decide_eq_true (hw x hx)
 rw[ht]at e1
 have h1:mFn (_G.run 2 2 DH) (aa (ae 2) (aa (mFn bK (aa (ae 0) ah)) ah)) [some (tab m T),some (.tup (ai st)),some (.tup (ai w))] S=some (.bl true,S1):=bO (var_eq rfl) (len_tab (var_eq rfl)) e1
 have h2:=rG (e:=m2 oIn (ae 3) (ae 1)) (ρ:= [some (tab m T),some (.tup (ai st)),some (.tup (ai w))]) (S:=S1) (a:=ae 2) (l:=w) (f:=λx => .bl (decide (x∈st))) (var_eq rfl) hl (λx _=>NG (var_eq rfl) (var_eq rfl))
 obtain⟨S',e,x⟩:=nT h1 (yj h2 (fk _ _)) x1 (Ex.push _ _)
 exact⟨S',bW (ρ:= [some (tab m T),some (.tup (ai st)),some (.tup (ai w))]) rfl (bV (e.trans (by rw[qx]))),x⟩
noncomputable def B1:MS:=bB (m2 oEq (mFn b9 (aa (mFn dW (aa (ae 1) ah)) ah)) (mFn (_G.run 1 1 atM) (aa (ae 0) ah)))
theorem BZ{l:List Nat}(hm:m<1000)(hl:l.length<64): ∃S',_G.run 2 2 B1 [tab m T,.tup (ai l)] S=some (.bl (decide (srt l=aE m)),S')/\Ex S S':=
 ⟨_,bW (ρ:= [some (tab m T),some (.tup (ai l))]) rfl (bV (NQ (dS (xy (var_eq rfl) hl)) (iM (var_eq rfl) (LP hm)))),Ex.push _ _⟩
noncomputable def plM:MS:=ba (bC 2 (fA (aa (mC (.int 0)) ah))) (ba (ft 3 (dv (ae 1)) (fb (mML d7 (ae 2) (aa (m2 oIx (m2 oIx (ae 0) (m2 oIx (ae 2) (m1 iS (mC (.int 1))))) (ae 3)) ah)))) (bB (mFn b9 (aa (ae 2) ah))))
theorem Ap(g:Grp m T)(hw:Lt m w)(hl:w.length<10000000): ∃S',_G.run 2 4 plM [tab m T,.tup (ai w)] S=some (.tup (ai (plc T w)),S')/\Ex S S':=by
 have hone:fA (aa (mC (.int 0)) ah) [some (tab m T),some (.tup (ai w)),none,none] S=some (.ref S.length,S++[Cell.lst [.int 0]]):=G5 rfl
 obtain⟨ρ1,S1,e1,⟨x,rfl⟩,q1,q2⟩:=vt (i:=3) (b:=fb (mML d7 (ae 2) (aa (m2 oIx (m2 oIx (ae 0) (m2 oIx (ae 2) (m1 iS (mC (.int 1))))) (ae 3)) ah))) (e:=ae 1)
  (ρ:= [some (tab m T),some (.tup (ai w)),some (.ref S.length),none]) (S:=S++[Cell.lst [.int 0]]) (S1:=S++[Cell.lst [.int 0]]) (us:=ai w) (var_eq rfl)
  (λk ρ S'=>(∃x,ρ = [some (tab m T),some (.tup (ai w)),some (.ref S.length),x])/\Ex S S'/\S'[S.length]? = some (Cell.lst (ai ((aE (k+1)).map λi=>bH T (w.take i)))))
  ⟨⟨none,rfl⟩,Ex.push _ _,by rw[fk];simp[ai,bH]⟩
  (by
   rintro k u ρ S' hu ⟨⟨x,rfl⟩,q1,q2⟩
   obtain⟨y,hy,rfl⟩:=mw hu
   have hym:y<m:=hw y (cb hy)
   have hpm:bH T (w.take k)<m:=lW g (hw.tk k)
   have hlast:atI (ai ((aE (k+1)).map λi=>bH T (w.take i))) (-1)=some (.int (bH T (w.take k))):=by
    unfold ai
    rw[b4]
    exact DE
   have ev:m2 oIx (m2 oIx (ae 0) (m2 oIx (ae 2) (m1 iS (mC (.int 1))))) (ae 3) [some (tab m T),some (.tup (ai w)),some (.ref S.length),some (.int y)] S'=some (.int (T (bH T (w.take k)) y),S'):=
    iY hym (iG hpm (var_eq rfl) (JU (var_eq rfl) HF q2 hlast)) (var_eq rfl)
   have hkl:k<w.length:=(ak.mp hy).1
   refine⟨_,_,append_eq (var_eq rfl) ev q2 q2 (by simp[ai];unfold big;exact aJ (by assumption) (ag (by assumption) (by decide))),⟨_,rfl⟩,q1.set (aq _),?_⟩
   rw[bq (ak.mp q2).1]
   rw[cZ (n:=k+1),b5]
   simp[ai,uh hy])
 rw[bU]at q2
 refine⟨S1,bW (ρ:= [some (tab m T),some (.tup (ai w)),some (.ref S.length),x]) rfl ?_,q1⟩
 show plM [some (tab m T),some (.tup (ai w)),none,none] S=_
 exact(aV (bT hone)).trans ((aV e1).trans (bV (rH (var_eq rfl) q2)))
noncomputable def gtM:MS:=bB (iH (mFn (_G.run 2 2 DH) (aa (ae 1) (aa (mFn bK (aa (ae 0) ah)) ah))) (mFn (_G.run 2 2 B1) (aa (ae 0) (aa (mFn (_G.run 2 4 plM) (aa (ae 0) (aa (ae 1) ah))) ah))))
theorem Kj(g:Grp m T)(hm:m<1000)(hw:Lt m w)(hl:w.length<63): ∃S',_G.run 2 2 gtM [tab m T,.tup (ai w)] S=some (.bl (decide (srt (plc T w)=aE m)),S')/\Ex S S':=by
 obtain⟨S1,e1,x1⟩:=Cv (S:=S) (n:=m) (w:=w) (by exact ag (by assumption) (by decide))
 have ht:(w.all λx=>decide (x<m))=true:=cM.mpr λx hx=>decide_eq_true (hw x hx)
 rw[ht]at e1
 obtain⟨S2,e2,x2⟩:=Ap (S:=S1) g hw (by exact ag (by assumption) (by decide))
 obtain⟨S3,e3,x3⟩:=BZ (T:=T) (S:=S2) (l:=plc T w) hm (by rw[ox];exact aJ (by assumption) (by decide))
 obtain⟨S',e,x⟩:=nT (ρ:= [some (tab m T),some (.tup (ai w))]) (a:=mFn (_G.run 2 2 DH) (aa (ae 1) (aa (mFn bK (aa (ae 0) ah)) ah))) (b:=mFn (_G.run 2 2 B1) (aa (ae 0) (aa (mFn (_G.run 2 4 plM) (aa (ae 0) (aa (ae 1) ah))) ah))) (bO (var_eq rfl) (len_tab (var_eq rfl)) e1) (bO (var_eq rfl) (bO (var_eq rfl) (var_eq rfl) e2) e3) x1 (x2.trans x3)
 exact⟨S',bW (ρ:= [some (tab m T),some (.tup (ai w))]) rfl (bV (e.trans (by rw[qx]))),x⟩
noncomputable def iwM:MS:=bB (iH (mFn (_G.run 3 3 wbM) (aa (ae 0) (aa (ae 1) (aa (ae 2) ah)))) (mFn (_G.run 2 2 gtM) (aa (ae 0) (aa (ae 2) ah))))
theorem Mz(g:Grp m T)(hm:m<1000)(hw:Lt m w)(hl:w.length<63): ∃S',_G.run 3 3 iwM [tab m T,.tup (ai st),.tup (ai w)] S=some (.bl ((w.all λx=>decide (x∈st))&&decide (srt (plc T w)=aE m)),S')/\Ex S S':=by
 obtain⟨S1,e1,x1⟩:=Hg (S:=S) (T:=T) (st:=st) (by exact ag (by assumption) (by decide)) hw
 obtain⟨S2,e2,x2⟩:=Kj (S:=S1) g hm hw hl
 obtain⟨S',e,x⟩:=nT (ρ:= [some (tab m T),some (.tup (ai st)),some (.tup (ai w))]) (a:=mFn (_G.run 3 3 wbM) (aa (ae 0) (aa (ae 1) (aa (ae 2) ah)))) (b:=mFn (_G.run 2 2 gtM) (aa (ae 0) (aa (ae 2) ah))) (q0 (var_eq rfl) (var_eq rfl) (var_eq rfl) e1) (bO (var_eq rfl) (var_eq rfl) e2) x1 x2
 exact⟨S',bW (ρ:= [some (tab m T),some (.tup (ai st)),some (.tup (ai w))]) rfl (bV e),x⟩
theorem NI(g:Grp m T)(hm:m<1000)(hw:Lt m w)(hl:w.length<63)(hs: ∀x∈w,x∈st)(h:Way m T w): ∃S',_G.run 3 3 iwM [tab m T,.tup (ai st),.tup (ai w)] S=some (.bl true,S')/\Ex S S':=by
 obtain⟨S',e,x⟩:=Mz (S:=S) (st:=st) g hm hw hl
 refine⟨S',?_,x⟩
 rw[e,Ak.mpr h,cM.mpr λx hx=>decide_eq_true (hs x hx)]
 rfl
theorem xo(hne:True):atI (ai (plc T w)) (-1)=some (.int (bH T w:Nat)):=by
 have:=GB (th:=plc T w) (by rw[iQ];simp)
 rw[ot]at this
 exact this
theorem Dz{α:Type}{xs:List α}{y:α}:cut (xs++[y]) none (some (-1))=xs:=by
 unfold cut
 have h1:HT.sIx (xs++[y]).length 0 none=0:=rfl
 have h2:HT.sIx (xs++[y]).length (xs++[y]).length (some (-1))=xs.length:=by
  unfold HT.sIx
  simp
  omega
 rw[h1,h2]
 simp
theorem z8{ρ:Rho}{S S1:Sto}{a:ME}{l:List Nat}{x:Nat}(ha:a ρ S=some (.tup (ai (l++[x])),S1)):mSl a none (some (m1 iS (mC (.int 1)))) ρ S=some (.tup (ai l),S1):=by
 have e:ai (l++[x])=ai l++[.int x]:=by simp[ai]
 rw[e]at ha
 have n1:m1 iS (mC (.int 1)) ρ S1=some (.int (-1),S1):=rfl
 simp only[mSl,ha,aH,uw,n1,Dz]
noncomputable def crM:MS:=ba (bC 2 (mFn (_G.run 2 4 plM) (aa (ae 0) (aa (ae 1) ah)))) (bB (iH (m2 oEq (m2 oIx (ae 2) (m1 iS (mC (.int 1)))) (mC (.int 0))) (mFn (_G.run 2 2 B1) (aa (ae 0) (aa (mSl (ae 2) none (some (m1 iS (mC (.int 1))))) ah)))))
theorem My(g:Grp m T)(hm:m<1000)(hw:Lt m w)(hl:w.length<63): ∃S',_G.run 2 3 crM [tab m T,.tup (ai w)] S=some (.bl (decide (bH T w=0)&&decide (srt (pre T w)=aE m)),S')/\Ex S S':=by
 obtain⟨S1,e1,x1⟩:=Ap (S:=S) g hw (by exact ag (by assumption) (by decide))
 obtain⟨S2,e2,x2⟩:=BZ (T:=T) (S:=S1) (l:=pre T w) hm (by rw[zD];exact ag (by assumption) (by decide))
 have h1:m2 oEq (m2 oIx (ae 2) (m1 iS (mC (.int 1)))) (mC (.int 0)) [some (tab m T),some (.tup (ai w)),some (.tup (ai (plc T w)))] S1=some (.bl (decide (bH T w=0)),S1):=rZ (y:=0) (yJ (var_eq rfl) HF (xo trivial)) c_i
 have h2:mFn (_G.run 2 2 B1) (aa (ae 0) (aa (mSl (ae 2) none (some (m1 iS (mC (.int 1))))) ah)) [some (tab m T),some (.tup (ai w)),some (.tup (ai (plc T w)))] S1=some (.bl (decide (srt (pre T w)=aE m)),S2):=bO (var_eq rfl) (z8 (l:=pre T w) (x:=bH T w) (by rw[<- iQ];exact var_eq rfl)) e2
 obtain⟨S',e,x⟩:=nT h1 h2 (Ex.refl _) x2
 refine⟨S',bW (ρ:= [some (tab m T),some (.tup (ai w)),some (.tup (ai (plc T w)))]) rfl ?_,x1.trans x⟩
 show crM [some (tab m T),some (.tup (ai w)),none] S=_
 exact(aV (bT (bO (var_eq rfl) (var_eq rfl) e1))).trans (bV e)
noncomputable def irM:MS:=bB (iH (mFn (_G.run 3 3 wbM) (aa (ae 0) (aa (ae 1) (aa (ae 2) ah)))) (iH (m2 oGe (mFn bK (aa (ae 2) ah)) (mC (.int 2))) (mFn (_G.run 2 3 crM) (aa (ae 0) (aa (ae 2) ah)))))
theorem Mp(g:Grp m T)(hm:m<1000)(hw:Lt m w)(hl:w.length<63): ∃S',_G.run 3 3 irM [tab m T,.tup (ai st),.tup (ai w)] S=some (.bl ((w.all λx=>decide (x∈st))&&(decide (2<=w.length)&&(decide (bH T w=0)&&decide (srt (pre T w)=aE m)))),S')/\Ex S S':=by
 obtain⟨S1,e1,x1⟩:=Hg (S:=S) (T:=T) (st:=st) (by exact ag (by assumption) (by decide)) hw
 have h2:m2 oGe (mFn bK (aa (ae 2) ah)) (mC (.int 2)) [some (tab m T),some (.tup (ai st)),some (.tup (ai w))] S1=some (.bl (decide (2<=w.length)),S1):=by
  have:=KN (ρ:= [some (tab m T),some (.tup (ai st)),some (.tup (ai w))]) (S:=S1) (a:=mFn bK (aa (ae 2) ah)) (b:=mC (.int 2)) (nD (var_eq rfl)) c_i
  rw[this,bU]
  congr 2
  simp
  omega
 obtain⟨S2,e2,x2⟩:=My (S:=S1) g hm hw hl
 obtain⟨S3,e3,x3⟩:=nT (ρ:= [some (tab m T),some (.tup (ai st)),some (.tup (ai w))]) (b:=mFn (_G.run 2 3 crM) (aa (ae 0) (aa (ae 2) ah))) h2 (bO (var_eq rfl) (var_eq rfl) e2) (Ex.refl _) x2
 obtain⟨S',e,x⟩:=nT (ρ:= [some (tab m T),some (.tup (ai st)),some (.tup (ai w))]) (a:=mFn (_G.run 3 3 wbM) (aa (ae 0) (aa (ae 1) (aa (ae 2) ah)))) (q0 (var_eq rfl) (var_eq rfl) (var_eq rfl) e1) e3 x1 x3
 exact⟨S',bW (ρ:= [some (tab m T),some (.tup (ai st)),some (.tup (ai w))]) rfl (bV e),x⟩
theorem Nx(g:Grp m T)(hm:m<1000)(hw:Lt m w)(hl:w.length<63)(h2:2<=w.length)(hs: ∀x∈w,x∈st)(h:Rnd m T w): ∃S',_G.run 3 3 irM [tab m T,.tup (ai st),.tup (ai w)] S=some (.bl true,S')/\Ex S S':=by
 obtain⟨S',e,x⟩:=Mp (S:=S) (st:=st) g hm hw hl
 refine⟨S',?_,x⟩
 rw[e,Ak.mpr h.all,cM.mpr λx hx=>decide_eq_true (hs x hx),decide_eq_true h2,decide_eq_true h.home]
 rfl
noncomputable def usM:MS:=bB (mFn b9 (aa (mFn dW (aa (cq (dv (ae 1)) cTT (mFn (_G.run 2 2 unM) (aa (ae 0) (aa (ae 2) ah)))) ah)) ah))
theorem KF(g:Grp m T)(hs:Lt m st)(hl:st.length<64): ∃S',_G.run 2 2 usM [tab m T,.tup (ai st)] S=some (.tup (ai (srt (st.map (unT m T)))),S')/\Ex S S':=by
 have h:=rG (e:=mFn (_G.run 2 2 unM) (aa (ae 0) (aa (ae 2) ah))) (ρ:= [some (tab m T),some (.tup (ai st))]) (S:=S) (a:=ae 1) (l:=st) (f:=λx => .int (unT m T x:Nat)) (var_eq rfl) (by exact ag (by assumption) (by decide)) (λx hx=>bO (var_eq rfl) (var_eq rfl) (ku g (hs x hx)))
 rw[show(st.map λx=>U.int (unT m T x:Nat))=ai (st.map (unT m T)) by simp[ai]]at h
 exact⟨_,bW (ρ:= [some (tab m T),some (.tup (ai st))]) rfl (bV (dS (wy h (fk _ _) (by rw[aA];exact hl)))),(Ex.push _ _).trans (Ex.push _ _)⟩
noncomputable def bkM:MS:=bB (mFn b9 (aa (cq (w9 (aa (ae 1) ah)) cTT (mFn (_G.run 2 2 unM) (aa (ae 0) (aa (ae 2) ah)))) ah))
theorem KH(g:Grp m T)(hw:Lt m w)(hl:w.length<10000000): ∃S',_G.run 2 2 bkM [tab m T,.tup (ai w)] S=some (.tup (ai (bk m T w)),S')/\Ex S S':=by
 have hi:w9 (aa (ae 1) ah) [some (tab m T),some (.tup (ai w))] S=some (.imm (ai w.reverse),S):=by
  have v:ae 1 [some (tab m T),some (.tup (ai w))] S=some (.tup (ai w),S):=rfl
  simp only[w9,aa,ah,v,aH]
  simp[ai]
 have h1: ∀u∈ai w.reverse,mFn (_G.run 2 2 unM) (aa (ae 0) (aa (ae 2) ah)) ([some (tab m T),some (.tup (ai w))]++[some u]) S=some ((λu=>match u with | .int i => .int (unT m T i.toNat:Nat) |_ => .non) u,S):=λu hu=>by
  obtain⟨x,hx,rfl⟩:=aS.mp hu
  have hx:=hw x (d6.mp hx)
  have:=bO (f:=_G.run 2 2 unM) (ρ:= [some (tab m T),some (.tup (ai w)),some (.int x)]) (S:=S) (a:=ae 0) (b:=ae 2) (var_eq rfl) (var_eq rfl) (ku g hx)
  simpa using this
 have h2:=kq (t:=cTT) (e:=mFn (_G.run 2 2 unM) (aa (ae 0) (aa (ae 2) ah))) (ρ:= [some (tab m T),some (.tup (ai w))]) (S:=S) (p:=λ_=>true) (f:=λu=>match u with | .int i => .int (unT m T i.toNat:Nat) |_ => .non) (ai w.reverse) [] (λ_ _=>rfl) (λu hu _=>h1 u hu)
 rw[pU.mpr (λ_ _=>rfl),eK]at h2
 have h3:(ai w.reverse).map (λu=>match u with | .int i=>U.int (unT m T i.toNat:Nat) |_ => .non)=ai (bk m T w):=by
  unfold ai bk
  rw[b4,b4]
  apply bt
  intro x _
  simp
 rw[h3]at h2
 exact⟨_,bW (ρ:= [some (tab m T),some (.tup (ai w))]) rfl (bV (dS (mY hi h2 (by rw[bU,yG];unfold big;exact ag (by assumption) (by decide))))),Ex.push _ _⟩
end
end
end _W
end
section
namespace _W
open _L _G
section
section
variable {m:Nat}{T:Nat->Nat->Nat}
theorem Lt.one{s:Nat}(hs:s<m):Lt m [s]:=λx hx=>by rw[aQ.mp hx];exact hs
noncomputable def thr(m:Nat)(T:Nat->Nat->Nat)(p:List Nat)(s:Nat):Nat->List Nat
 | 0=>p
 | j+1=>thr m T p s j++[s]++(if j % 2=0 then bk m T p else p)
noncomputable def tkn(m:Nat)(T:Nat->Nat->Nat)(s:Nat)(P:List Nat):Nat:=((aE m).find? λk=>decide (pw T s (k+1)∈P)).getD 0+1
theorem j7(g:Grp m T){s:Nat}{P:List Nat}(hs:s<m)(h0:0∈P):1<=tkn m T s P/\tkn m T s P<=m/\pw T s (tkn m T s P)∈P /\ ∀k,1<=k->k<tkn m T s P->pw T s k∉P:=by
 obtain⟨n,n1,n2,n3,_⟩:=g.ord hs
 unfold tkn
 cases q:(aE m).find? λk=>decide (pw T s (k+1)∈P) with
 | none=>
   have:=List.find?_eq_none.mp q (n - 1) (aI.mpr (by omega))
   rw[show n - 1+1=n by omega,n3]at this
   simp[h0]at this
 | some i=>
   obtain⟨i1,i2,i3⟩:=List.find?_range_eq_some.mp q
   have i2:=aI.mp i2
   refine⟨by simp,by simp;assumption,by simpa using i1,λk k1 k2 z =>?_⟩
   simp at k2
   have:=i3 (k - 1) (by omega)
   rw[show k - 1+1=k by omega]at this
   simp[z]at this
noncomputable def snk(m:Nat)(T:Nat->Nat->Nat):List Nat->List Nat->List Nat
 | p,[]=>p
 | p,s::st=>snk m T (thr m T p s (tkn m T s (plc T p) - 1)) st
theorem lQ(g:Grp m T){p:List Nat}{s:Nat}(hp:Lt m p)(hs:s<m): ∀j,Lt m (thr m T p s j)
 | 0=>hp
 | j+1=>by
   refine Lt.app (Lt.app (lQ g hp hs j) (Lt.one hs)) ?_
   split
   ·exact GZ g hp
   ·exact hp
theorem oP{p:List Nat}{s:Nat}: ∀j,(thr m T p s j).length+1=(j+1)*(p.length+1)
 | 0=>by simp[thr]
 | j+1=>by
   have ih:=oP (p:=p) (s:=s) j
   have:(if j % 2=0 then bk m T p else p).length=p.length:=by split <;> simp[yG]
   unfold thr
   rw[bj,bj,this,tL (j+1)]
   simp
   omega
theorem iw{p:List Nat}:0∈plc T p:=aS.mpr ⟨0,aI.mpr (by omega),rfl⟩
theorem qF(g:Grp m T){a q:List Nat}{s:Nat}(ha:Lt m a)(hs:s<m)(hq:Lt m q):plc T (a++[s]++q)=plc T a++(plc T q).map (T (T (bH T a) s)):=by
 have hsq:Lt m (s::q):=λx hx=>(aO.mp hx).elim (λe=>e▸hs) (hq x)
 have ca:=lW g ha
 rw[aW]
 show plc T (a++s::q)=_
 rw[iQ,pre_app g ha hsq,lU g ha hsq,aW]
 have:(pre T (s::q)).map (T (bH T a))++[T (bH T a) (bH T (s::q))]=(plc T (s::q)).map (T (bH T a)):=by rw[iQ,b5];rfl
 rw[this,xB g hs hq,bM,g.r0 _ ca,b4,iQ (w:=a),aW]
 refine pE rfl ?_
 show bH T a::_ = [bH T a]++_
 refine pE rfl (bt λx hx =>?_)
 show T (bH T a) (T s x)=T (T (bH T a) s) x
 rw[g.as _ _ _ ca hs (jJ g hq x hx)]
noncomputable def blk(T:Nat->Nat->Nat)(p:List Nat)(s i:Nat):List Nat:=(if i % 2=0 then plc T p else(plc T p).reverse).map (T (pw T s i))
theorem kC(g:Grp m T)(pl: ∀i j,i<m->j<m->T i j=T j i){p:List Nat}{s:Nat}(hp:Lt m p)(hs:s<m): ∀j,bH T (thr m T p s j)=T (pw T s j) (if j % 2=0 then bH T p else 0)/\plc T (thr m T p s j)=(aE (j+1)).flatMap (blk T p s)
 | 0=>by
   have h1:(plc T p).map (T 0)=plc T p:=by
    have:(plc T p).map (T 0)=(plc T p).map id:=bt λx hx=>g.l0 x (jJ g hp x hx)
    rw[this,List.map_id]
   refine⟨?_,?_⟩
   ·show bH T p=T 0 (bH T p);rw[g.l0 _ (lW g hp)]
   ·show plc T p=blk T p s 0++[]
    rw[cD]
    show _=(plc T p).map (T 0)
    rw[h1]
 | j+1=>by
   obtain⟨h1,h2⟩:=kC g pl hp hs j
   have lt1:=lQ g hp hs j
   have cp:=lW g hp
   have uc:=jF g cp
   have pj:=eS g hs j
   have hpw:pw T s (j+1)=T (pw T s j) s:=rfl
   by_cases q:j % 2=0
   ·have q1: ¬(j+1) % 2=0:=by omega
    rw[if_pos q]at h1
    have hb:=GZ g hp
    have base:T (bH T (thr m T p s j)) s=T (pw T s (j+1)) (bH T p):=by
     rw[h1,hpw,g.as _ _ _ pj cp hs,pl _ _ cp hs,<- g.as _ _ _ pj hs cp]
    have e:thr m T p s (j+1)=thr m T p s j++[s]++bk m T p:=by rw[thr,if_pos q]
    rw[e,if_neg q1]
    have pj1:=eS g hs (j+1)
    refine⟨?_,?_⟩
    ·rw[lU g (lt1.app (Lt.one hs)) hb,gZ,base,vF g hp,g.as _ _ _ pj1 cp uc,yt g cp]
    ·rw[qF g lt1 hs hb,base,Dt g hp,b4,h2,cZ (n:=j+1),pV]
     refine pE rfl ?_
     show _=blk T p s (j+1)++[]
     rw[cD,blk,if_neg q1]
     refine bt λx hx =>?_
     have hx:=jJ g hp x (d6.mp hx)
     show T (T (pw T s (j+1)) (bH T p)) (T (unT m T (bH T p)) x)=_
     rw[g.as _ _ _ pj1 cp (g.cl _ _ uc hx),<- g.as _ _ _ cp uc hx,yt g cp,g.l0 x hx]
   ·have q1:(j+1) % 2=0:=by omega
    rw[if_neg q,g.r0 _ pj]at h1
    have e:thr m T p s (j+1)=thr m T p s j++[s]++p:=by rw[thr,if_neg q]
    rw[e,if_pos q1]
    refine⟨?_,?_⟩
    ·rw[lU g (lt1.app (Lt.one hs)) hp,gZ,h1,<- hpw]
    ·rw[qF g lt1 hs hp,h1,<- hpw,h2,cZ (n:=j+1),pV]
     refine pE rfl ?_
     show _=blk T p s (j+1)++[]
     rw[cD,blk,if_pos q1]
theorem gJ{p:List Nat}{s i x:Nat}:x∈blk T p s i ↔ ∃y∈plc T p,x=T (pw T s i) y:=by
 unfold blk
 rw[aS]
 split
 ·exact⟨fun⟨y,a,b⟩=>⟨y,a,b.symm⟩,fun⟨y,a,b⟩=>⟨y,a,b.symm⟩⟩
 ·exact⟨fun⟨y,a,b⟩=>⟨y,d6.mp a,b.symm⟩,fun⟨y,a,b⟩=>⟨y,d6.mpr a,b.symm⟩⟩
structure Sn(m:Nat)(T:Nat->Nat->Nat)(p:List Nat):Prop where
 lt:Lt m p
 nd:(plc T p).Nodup
 cl: ∀x∈plc T p,∀y∈plc T p,T x y∈plc T p
theorem Sn.pws{p:List Nat}(h:Sn m T p){x:Nat}(hx:x∈plc T p): ∀k,pw T x k∈plc T p
 | 0=>iw
 | k+1=>h.cl _ (h.pws hx k) _ hx
theorem Sn.un(g:Grp m T){p:List Nat}(h:Sn m T p){x:Nat}(hx:x∈plc T p):unT m T x∈plc T p:=by
 have hxm:=jJ g h.lt x hx
 obtain⟨n,n1,_,n3,_⟩:=g.ord hxm
 have:unT m T x=pw T x (n - 1):=by
  refine(wO g hxm (eS g hxm _) ?_).symm
  have e:=kA g hxm 1 (n - 1)
  rw[show 1+(n - 1)=n by omega,n3]at e
  have e1:pw T x 1=x:=by show T 0 x=x;exact g.l0 x hxm
  rw[e1]at e
  exact e.symm
 rw[this];exact h.pws hx _
theorem Sn.start(g:Grp m T):Sn m T []:=by
 have e:plc T [] = [0]:=rfl
 refine⟨λx hx=>by simp at hx,by rw[e];simp,?_⟩
 rw[e]
 intro x hx y hy
 simp at hx hy
 subst hx hy
 simp[g.l0 0 g.pos]
theorem Sn.len(g:Grp m T){p:List Nat}(h:Sn m T p):p.length+1<=m:=by
 have:=mn m _ h.nd (jJ g h.lt)
 rwa[ox]at this
theorem zL{f:Nat->List Nat}: ∀n,(∀i,i<n->(f i).Nodup)->(∀i j,i<j->j<n -> ∀x∈f i,x∉f j)->((aE n).flatMap f).Nodup
 | 0,_,_=>by simp
 | n+1,h1,h2=>by
   rw[cZ,pV]
   show(_++(f n++[])).Nodup
   rw[cD,fQ]
   refine⟨zL n (λi hi=>h1 i (by exact fR (by assumption))) (λi j a b=>h2 i j a (by exact fR (by assumption))),h1 n (by exact aq _),λa ha b hb =>?_⟩
   obtain⟨i,hi,ha⟩:=cN.mp ha
   rintro rfl
   exact h2 i n (aI.mp hi) (by exact aq _) a ha hb
theorem Sn.next(g:Grp m T)(pl: ∀i j,i<m->j<m->T i j=T j i){p:List Nat}{s:Nat}(h:Sn m T p)(hs:s<m):Sn m T (thr m T p s (tkn m T s (plc T p) - 1)):=by
 obtain⟨n1,n2,n3,n4⟩:=j7 (P:=plc T p) g hs iw
 generalize hn:tkn m T s (plc T p)=n at n1 n2 n3 n4
 have lp:=jJ g h.lt
 have e:=(kC g pl h.lt hs (n - 1)).2
 rw[show n - 1+1=n by omega]at e
 have pwl:=λk=>eS g hs k
 refine⟨lQ g h.lt hs _,?_,?_⟩
 ·rw[e]
  refine zL n (λi hi =>?_) λi j hij hj x hx hx2 =>?_
  ·unfold blk
   rw[eg,fP]
   have hnd:(if i % 2=0 then plc T p else(plc T p).reverse).Nodup:=by split;exact h.nd;exact(List.reverse_perm _).nodup_iff.mpr h.nd
   refine jy ?_ (eg.mp hnd)
   intro a b ha hb hab z
   have lt2: ∀c∈(if i % 2=0 then plc T p else(plc T p).reverse),c<m:=by
    intro c hc
    split at hc
    ·exact lp c hc
    ·exact lp c (d6.mp hc)
   exact hab (g.cancel (pwl i) (lt2 a ha) (lt2 b hb) z)
  ·obtain⟨y,hy,rfl⟩:=gJ.mp hx
   obtain⟨z,hz,ez⟩:=gJ.mp hx2
   have ly:=lp y hy
   have lz:=lp z hz
   have ea:pw T s j=T (pw T s i) (pw T s (j - i)):=by rw[<- kA g hs,show i+(j - i)=j by omega]
   rw[ea,g.as _ _ _ (pwl i) (pwl _) lz]at ez
   have ez:=g.cancel (pwl i) ly (g.cl _ _ (pwl _) lz) ez
   refine n4 (j - i) (by omega) (by omega) ?_
   have:T y (unT m T z)=pw T s (j - i):=by rw[ez,g.as _ _ _ (pwl _) lz (jF g lz),yt g lz,g.r0 _ (pwl _)]
   rw[<- this]
   exact h.cl y hy _ (h.un g hz)
 ·rw[e]
  intro x hx y hy
  obtain⟨i,hi,hx⟩:=cN.mp hx
  obtain⟨j,hj,hy⟩:=cN.mp hy
  obtain⟨a,ha,rfl⟩:=gJ.mp hx
  obtain⟨b,hb,rfl⟩:=gJ.mp hy
  have la:=lp a ha
  have lb:=lp b hb
  have hi:=aI.mp hi
  have hj:=aI.mp hj
  have ab:=h.cl a ha b hb
  have e1:T (T (pw T s i) a) (T (pw T s j) b)=T (pw T s (i+j)) (T a b):=by
   rw[kA g hs,g.as _ _ _ (pwl i) la (g.cl _ _ (pwl j) lb),<- g.as _ _ _ la (pwl j) lb,pl _ _ la (pwl j),g.as _ _ _ (pwl j) la lb,<- g.as _ _ _ (pwl i) (pwl j) (g.cl _ _ la lb)]
  rw[e1]
  by_cases hlt:i+j<n
  ·exact cN.mpr ⟨i+j,aI.mpr hlt,gJ.mpr ⟨_,ab,rfl⟩⟩
  ·refine cN.mpr ⟨i+j - n,aI.mpr (by omega),gJ.mpr ⟨T (pw T s n) (T a b),h.cl _ n3 _ ab,?_⟩⟩
   rw[show i+j=(i+j - n)+n by omega,kA g hs,g.as _ _ _ (pwl _) (pwl _) (lp _ ab),show i+j - n+n - n=i+j - n by omega]
theorem Sn.snk(g:Grp m T)(pl: ∀i j,i<m->j<m->T i j=T j i): ∀{st p:List Nat},Lt m st->Sn m T p->Sn m T (snk m T p st)
 | [],_,_,h=>h
 | s::st,p,hs,h=>by
   show Sn m T (_W.snk m T (thr m T p s (tkn m T s (plc T p) - 1)) st)
   exact Sn.snk g pl (λx hx=>hs x (aC _ hx)) (h.next g pl (hs s (by simp)))
theorem Sn.last{p:List Nat}(h:Sn m T p)(hp:p≠[]):bH T p≠0:=by
 intro z
 have h1:=h.nd
 rw[iQ,fQ]at h1
 have h0:0∈pre T p:=aS.mpr ⟨0,aI.mpr (List.length_pos_iff.mpr hp),rfl⟩
 exact h1.2.2 0 h0 (bH T p) (by simp) z.symm
end
theorem tT{g:MG}{b:MS}(P:Nat->Rho->Sto->Prop): ∀(us:List U) (k:Nat) (ρ:Rho) (S:Sto),P k ρ S ->
  (∀(j:Nat) (u:U) (ρ:Rho) (S:Sto),us[j]? = some u->P (k+j) ρ S -> ∃ρ1 S1 ρ' S',g u ρ S=some (ρ1,S1)/\b ρ1 S1=some (.nx,ρ',S')/\P (k+j+1) ρ' S') ->
  ∃ρ' S',nE g b us ρ S=some (.nx,ρ',S')/\P (k+us.length) ρ' S'
 | [],k,ρ,S,h,_=>⟨ρ,S,rfl,h⟩
 | u::us,k,ρ,S,h,st=>by
   obtain⟨ρ0,S0,ρ1,S1,e0,e1,p1⟩:=st 0 u ρ S rfl (by simpa using h)
   obtain⟨ρ2,S2,e2,p2⟩:=tT P us (k+1) ρ1 S1 (by simpa using p1) λj v ρ S hj hp=>by
    have:=st (j+1) v ρ S (by simpa using hj) (by rw[show k+(j+1)=k+1+j by omega];exact hp)
    rw[show k+(j+1)+1=k+1+j+1 by omega]at this
    exact this
   refine⟨ρ2,S2,?_,?_⟩
   ·show((g u ρ S).bind λp=>aft (b p.1 p.2) (nE g b us))=_
    rw[e0]
    simp only[ar,aft,e1,e2]
   ·rw[cu,show k+(us.length+1)=k+1+us.length by omega];exact p2
section
variable {m:Nat}{T:Nat->Nat->Nat}{S:Sto}
abbrev Pln(m:Nat)(T:Nat->Nat->Nat):Prop:= ∀i j,i<m->j<m->T i j=T j i
noncomputable def ipM:MS:=ba (ft 1 (iR1 (aa (mFn bK (aa (ae 0) ah)) ah)) (sIf (nX (cOf (mFn pe (aa (cq (iR1 (aa (ae 1) ah)) cTT (m2 oEq (m2 oIx (m2 oIx (ae 0) (ae 1)) (ae 2)) (m2 oIx (m2 oIx (ae 0) (ae 2)) (ae 1)))) ah)))) (bB (mC (.bl false))) b7)) (bB (mC (.bl true)))
theorem Np(hm:m<1000)(pl:Pln m T): ∃S',_G.run 1 2 ipM [tab m T] S=some (.bl true,S')/\Ex S S':=by
 obtain⟨ρ1,S1,e1,⟨v,rfl⟩,x1⟩:=mS (i:=1) (a:=mFn bK (aa (ae 0) ah)) (n:=m) (b:=sIf (nX (cOf (mFn pe (aa (cq (iR1 (aa (ae 1) ah)) cTT (m2 oEq (m2 oIx (m2 oIx (ae 0) (ae 1)) (ae 2)) (m2 oIx (m2 oIx (ae 0) (ae 2)) (ae 1)))) ah)))) (bB (mC (.bl false))) b7) (ρ:= [some (tab m T),none]) (S:=S) (len_tab (var_eq rfl)) (by unfold big;exact ag (by assumption) (by decide))
  (λ_ ρ S'=>(∃v,ρ = [some (tab m T),v])/\Ex S S') ⟨⟨_,rfl⟩,Ex.refl _⟩ (by
   rintro i ρ S' hi ⟨⟨v,rfl⟩,x⟩
   obtain⟨S2,e2,rfl⟩:=zd (ρ:= [some (tab m T),some (.int i)]) (S:=S') (S0:=S') (a:=ae 1) (e:=m2 oEq (m2 oIx (m2 oIx (ae 0) (ae 1)) (ae 2)) (m2 oIx (m2 oIx (ae 0) (ae 2)) (ae 1))) (n:=i) (var_eq rfl) (by unfold big;exact ck (by assumption) (ag (by assumption) (by decide))) (λj => .bl (decide (T i j=T j i))) (λ_ S2=>S2=S') rfl (by
    rintro j S2 hj rfl
    exact⟨S2,rZ (iY (by exact ck (by assumption) (by assumption)) (iG hi (var_eq rfl) (var_eq rfl)) (var_eq rfl)) (iY hi (iG (by exact ck (by assumption) (by assumption)) (var_eq rfl) (var_eq rfl)) (var_eq rfl)),rfl⟩)
   have h:=yj (f:=λj=>decide (T i j=T j i)) (l:=aE i) e2 (fk _ _)
   rw[cM.mpr λj hj=>decide_eq_true (pl i j hi (by have:=aI.mp hj;exact ck (by assumption) (by assumption)))]at h
   exact⟨_,_,(gG (not_eq (of_eq h))).trans rfl,⟨_,rfl⟩,x.trans (Ex.push _ _)⟩)
 exact⟨S1,bW (ρ:= [some (tab m T),v]) rfl (show ipM [some (tab m T),none] S=_ from(aV e1).trans (bV rfl)),x1⟩
noncomputable def rpM:MS:=sIf (nX (cOf (mFn (_G.run 1 2 ipM) (aa (ae 0) ah)))) sNo b7
theorem KO(hm:m<1000)(pl:Pln m T): ∃S',_G.run 1 1 rpM [tab m T] S=some (.non,S')/\Ex S S':=by
 obtain⟨S1,e1,x1⟩:=Np (S:=S) hm pl
 exact⟨S1,Cs (ρ:= [some (tab m T)]) rfl (show rpM [some (tab m T)] S=_ from(gG (not_eq (of_eq (iM (f:=_G.run 1 2 ipM) (var_eq rfl) e1)))).trans rfl),x1⟩
noncomputable def ttB:MS:=ba (bC 3 (m2 oIx (m2 oIx (ae 0) (ae 3)) (ae 1))) (qR 4 (mC (.int 1)))
noncomputable def ttM:MS:=ba (bC 3 (ae 1)) (ba (bC 4 (mC (.int 1))) (ba (iE (cOf (m2 gE (ae 3) (ae 2))) ttB) (bB (ae 4))))
theorem Nd{s:Nat}{P:List Nat}(g:Grp m T)(hm:m<1000)(hs:s<m)(h0:0∈P):_G.run 3 5 ttM [tab m T,.int (s:Nat),.tup (ai P)] S=some (.int (tkn m T s P:Nat),S):=by
 obtain⟨n1,n2,n3,n4⟩:=j7 (P:=P) g hs h0
 generalize tkn m T s P=n at n1 n2 n3 n4
 obtain⟨ρ1,S1,e1,rfl,rfl⟩:=qD (c:=cOf (m2 gE (ae 3) (ae 2))) (b:=ttB) (λμ ρ S' =>∃k,1<=k/\k<=n/\μ=n - k/\ρ = [some (tab m T),some (.int (s:Nat)),some (.tup (ai P)),some (.int (pw T s k:Nat)),some (.int (k:Nat))]/\S'=S)
  (λρ S'=>ρ = [some (tab m T),some (.int (s:Nat)),some (.tup (ai P)),some (.int (pw T s n:Nat)),some (.int (n:Nat))]/\S'=S) (by
  rintro μ ρ S' ⟨k,k1,k2,rfl,rfl,rfl⟩
  have ec:=zG (ρ:= [some (tab m T),some (.int (s:Nat)),some (.tup (ai P)),some (.int (pw T s k:Nat)),some (.int (k:Nat))]) (S:=S') (a:=ae 3) (b:=ae 2) (x:=pw T s k) (l:=P) (var_eq rfl) (var_eq rfl)
  refine⟨_,_,ec,λhf =>?_,λhf =>?_⟩
  ·have hin:pw T s k∈P:=by simpa using hf
   have:k=n:=by
    apply cJ
    intro z
    exact n4 k k1 (by exact hV (by assumption) (by assumption)) hin
   subst this
   exact⟨rfl,rfl⟩
  ·have hin:pw T s k∉P:=by simpa using hf
   have hk:k<n:=by
    apply cJ
    intro z
    have:k=n:=by omega
    subst this
    exact hin n3
   refine⟨_,S',n - (k+1),by omega,(aV (bT (iY (T:=T) (i:=pw T s k) (j:=s) hs (iG (eS g hs k) (var_eq rfl) (var_eq rfl)) (var_eq rfl)))).trans ?_,k+1,by exact fR (by assumption),by assumption,rfl,rfl,rfl⟩
   simp[qR,mC,aH,pw]) fuel (n - 1) [some (tab m T),some (.int (s:Nat)),some (.tup (ai P)),some (.int (s:Nat)),some (.int (1:Nat))] S (by unfold fuel;omega) ⟨1,aq _,n1,rfl,by rw[show pw T s 1=s from g.l0 s hs],rfl⟩
 refine bW (ρ:= [some (tab m T),some (.int (s:Nat)),some (.tup (ai P)),some (.int (pw T s n:Nat)),some (.int (n:Nat))]) rfl ?_
 show ttM [some (tab m T),some (.int (s:Nat)),some (.tup (ai P)),none,none] S1=_
 exact(aV (bT (var_eq rfl))).trans ((aV (bT c_i)).trans ((aV e1).trans (bV (var_eq rfl))))
noncomputable def thM:MS:=ba (bC 4 (dg (aa (mFn (_G.run 2 2 bkM) (aa (ae 0) (aa (ae 3) ah))) (aa (ae 3) ah)))) (ba (bC 5 (ae 1)) (ba (nv (gTp 2 (eE (gN 6) (eE (gN 7) nA))) (pI (aa (ae 2) ah)) (bC 5 (m2 dq (m2 dq (ae 5) (dg (aa (ae 7) ah))) (m2 oIx (ae 4) (m2 oMod (ae 6) (mC (.int 2))))))) (bB (ae 5))))
theorem CS{l:List Nat}{j:Nat}{u:U}(h:(iN (ai l))[j]? = some u): ∃x,l[j]? = some x/\u = .tup [.int j,.int x]:=by
 unfold iN at h
 rw[Ey]at h
 obtain⟨v,hv,rfl⟩:=fe.mp h
 obtain⟨x,hx,rfl⟩:=mw hv
 exact⟨x,hx,rfl⟩
theorem LK{p:List Nat}{s n:Nat}(g:Grp m T)(hp:Lt m p)(hs:s<m)(hb:(n+1)*(p.length+1)<=1000): ∃S',_G.run 4 8 thM [tab m T,.tup (ai p),.tup (ai (aw n s)),.tup (ai p)] S=some (.tup (ai (thr m T p s n)),S')/\Ex S S':=by
 have hpl:p.length+1<=1000:=aM (Nat.le_mul_of_pos_left _ (by omega)) hb
 obtain⟨S1,e1,x1⟩:=KH (S:=S) g hp (by exact ag (by assumption) (by decide))
 have et:dg (aa (mFn (_G.run 2 2 bkM) (aa (ae 0) (aa (ae 3) ah))) (aa (ae 3) ah)) [some (tab m T),some (.tup (ai p)),some (.tup (ai (aw n s))),some (.tup (ai p)),none,none,none,none] S=some (.tup [.tup (ai (bk m T p)),.tup (ai p)],S1):=Eg (bO (var_eq rfl) (var_eq rfl) e1) (var_eq rfl)
 have hi:pI (aa (ae 2) ah) [some (tab m T),some (.tup (ai p)),some (.tup (ai (aw n s))),some (.tup (ai p)),some (.tup [.tup (ai (bk m T p)),.tup (ai p)]),some (.tup (ai p)),none,none] S1=some (.imm (iN (ai (aw n s))),S1):=rfl
 obtain⟨ρ2,S2,e2,⟨a,b,rfl⟩,hS⟩:=tT (g:=gTp 2 (eE (gN 6) (eE (gN 7) nA))) (b:=bC 5 (m2 dq (m2 dq (ae 5) (dg (aa (ae 7) ah))) (m2 oIx (ae 4) (m2 oMod (ae 6) (mC (.int 2))))))
  (λj ρ S'=>(∃a b,ρ = [some (tab m T),some (.tup (ai p)),some (.tup (ai (aw n s))),some (.tup (ai p)),some (.tup [.tup (ai (bk m T p)),.tup (ai p)]),some (.tup (ai (thr m T p s j))),a,b])/\S'=S1) (iN (ai (aw n s))) 0 [some (tab m T),some (.tup (ai p)),some (.tup (ai (aw n s))),some (.tup (ai p)),some (.tup [.tup (ai (bk m T p)),.tup (ai p)]),some (.tup (ai p)),none,none] S1 ⟨⟨_,_,rfl⟩,rfl⟩ (by
   rintro j u ρ S' hu ⟨⟨a,b,rfl⟩,rfl⟩
   rw[d5]
   obtain⟨x,hx,rfl⟩:=CS hu
   have hjn:j<n:=by have:=(ak.mp hx).1;simpa using this
   have hxs:x=s:=cX (cb hx)
   subst hxs
   have hl:=oP (m:=m) (T:=T) (p:=p) (s:=x) j
   have hl1:=oP (m:=m) (T:=T) (p:=p) (s:=x) (j+1)
   have hmul:(j+1+1)*(p.length+1)<=1000:=aM (gk _ (by exact tR (by assumption))) hb
   have hm2:(j+1+1)*(p.length+1)=(j+1)*(p.length+1)+(p.length+1):=tL _ _
   have f1:m2 dq (ae 5) (dg (aa (ae 7) ah)) [some (tab m T),some (.tup (ai p)),some (.tup (ai (aw n x))),some (.tup (ai p)),some (.tup [.tup (ai (bk m T p)),.tup (ai p)]),some (.tup (ai (thr m T p x j))),some (.int (j:Nat)),some (.int (x:Nat))] S'=some (.tup (ai (thr m T p x j++[x])),S'):=za (x:=thr m T p x j) (y:= [x]) (var_eq rfl) (wF (var_eq rfl)) (by unfold big;simp;omega)
   have f2:m2 oIx (ae 4) (m2 oMod (ae 6) (mC (.int 2))) [some (tab m T),some (.tup (ai p)),some (.tup (ai (aw n x))),some (.tup (ai p)),some (.tup [.tup (ai (bk m T p)),.tup (ai p)]),some (.tup (ai (thr m T p x j))),some (.int (j:Nat)),some (.int (x:Nat))] S'=some (.tup (ai (if j % 2=0 then bk m T p else p)),S'):=by
    refine yJ (us:= [.tup (ai (bk m T p)),.tup (ai p)]) (var_eq rfl) (Ae (x:=j) (y:=2) (var_eq rfl) c_i (by decide)) (oR ?_)
    by_cases q:j % 2=0
    ·rw[if_pos q,q];rfl
    ·rw[if_neg q,show j % 2=1 by omega];rfl
   have hq:(if j % 2=0 then bk m T p else p).length=p.length:=by split <;> simp[yG]
   have f3:=za f1 f2 (by rw[bj,hq];unfold big;simp;omega)
   exact⟨_,S',_,S',rfl,bT f3,⟨_,_,rfl⟩,rfl⟩)
 have hlen:(iN (ai (aw n s))).length=n:=by simp[iN,ai]
 rw[hlen,d5]at e2
 subst hS
 have ef:nv (gTp 2 (eE (gN 6) (eE (gN 7) nA))) (pI (aa (ae 2) ah)) (bC 5 (m2 dq (m2 dq (ae 5) (dg (aa (ae 7) ah))) (m2 oIx (ae 4) (m2 oMod (ae 6) (mC (.int 2)))))) [some (tab m T),some (.tup (ai p)),some (.tup (ai (aw n s))),some (.tup (ai p)),some (.tup [.tup (ai (bk m T p)),.tup (ai p)]),some (.tup (ai p)),none,none] S2=some (.nx,[some (tab m T),some (.tup (ai p)),some (.tup (ai (aw n s))),some (.tup (ai p)),some (.tup [.tup (ai (bk m T p)),.tup (ai p)]),some (.tup (ai (thr m T p s n))),a,b],S2):=by
  show bnd (pI _ _ _) _=_
  rw[hi]
  exact e2
 refine⟨S2,bW (ρ:= [some (tab m T),some (.tup (ai p)),some (.tup (ai (aw n s))),some (.tup (ai p)),some (.tup [.tup (ai (bk m T p)),.tup (ai p)]),some (.tup (ai (thr m T p s n))),a,b]) rfl ?_,x1⟩
 show thM [some (tab m T),some (.tup (ai p)),some (.tup (ai (aw n s))),some (.tup (ai p)),none,none,none,none] S=_
 exact(aV (bT et)).trans ((aV (bT (var_eq rfl))).trans ((aV ef).trans (bV (var_eq rfl))))
theorem DM{ρ:Rho}{S S1 S2:Sto}{a b:ME}{s k:Nat}(ha:a ρ S=some (.tup (ai [s]),S1))(hb:b ρ S1=some (.int (k:Nat),S2))(hk:k<1000):m2 gg a b ρ S=some (.tup (ai (aw k s)),S2):=by
 refine op2 ha hb ?_
 have h:zX (ai [s]).length (k:Int):=⟨by exact kN _,by omega,by simp[ai],by simp[ai]⟩
 simp only[gg,if_pos h,bL]
 congr 2
 simp[ai]
noncomputable def snB:MS:=ba (bC 4 (mFn (_G.run 3 5 ttM) (aa (ae 0) (aa (ae 3) (aa (mFn (_G.run 2 4 plM) (aa (ae 0) (aa (ae 2) ah))) ah))))) (bC 2 (mFn (_G.run 4 8 thM) (aa (ae 0) (aa (ae 2) (aa (m2 gg (dg (aa (ae 3) ah)) (m2 kh (ae 4) (mC (.int 1)))) (aa (ae 2) ah))))))
noncomputable def snM:MS:=ba (fb (mFn (_G.run 1 1 rpM) (aa (ae 0) ah))) (ba (bC 2 (dg ah)) (ba (ft 3 (dv (ae 1)) snB) (bB (ae 2))))
theorem B4{p:List Nat}: ∀{st:List Nat}{k s:Nat},st[k]? = some s->snk m T p (st.take (k+1))=thr m T (snk m T p (st.take k)) s (tkn m T s (plc T (snk m T p (st.take k))) - 1):=by
 intro st
 induction st generalizing p with
 | nil=>intro k s h;simp at h
 | cons a st ih=>
   intro k s h
   cases k with
   | zero=>simp at h;subst h;rfl
   | succ k=>
     rw[List.take_succ_cons,List.take_succ_cons]
     exact ih (by simpa using h)
theorem Ko{st:List Nat}(g:Grp m T)(hm:m<=30)(pl:Pln m T)(hst:Lt m st): ∃S',_G.run 2 5 snM [tab m T,.tup (ai st)] S=some (.tup (ai (snk m T [] st)),S')/\Ex S S':=by
 obtain⟨S1,e1,x1⟩:=KO (S:=S) (by exact aJ (by assumption) (by decide)) pl
 have er:fb (mFn (_G.run 1 1 rpM) (aa (ae 0) ah)) [some (tab m T),some (.tup (ai st)),none,none,none] S=some (.nx,[some (tab m T),some (.tup (ai st)),none,none,none],S1):=by
  have:=iM (f:=_G.run 1 1 rpM) (ρ:= [some (tab m T),some (.tup (ai st)),none,none,none]) (S:=S) (a:=ae 0) (var_eq rfl) e1
  simp only[fb,this,aH]
 obtain⟨ρ2,S2,e2,⟨a,b,rfl⟩,x2⟩:=vt (i:=3) (b:=snB) (e:=ae 1) (ρ:= [some (tab m T),some (.tup (ai st)),some (.tup (ai [])),none,none]) (S:=S1) (us:=ai st) (var_eq rfl)
  (λk ρ S'=>(∃a b,ρ = [some (tab m T),some (.tup (ai st)),some (.tup (ai (snk m T [] (st.take k)))),a,b])/\Ex S1 S') ⟨⟨_,_,rfl⟩,Ex.refl _⟩ (by
   rintro k u ρ S' hu ⟨⟨a,b,rfl⟩,x2⟩
   obtain⟨s,hs,rfl⟩:=mw hu
   have hsm:=hst s (cb hs)
   have sn:Sn m T (snk m T [] (st.take k)):=Sn.snk g pl (Lt.tk hst k) (Sn.start g)
   rw[B4 hs]
   generalize snk m T [] (st.take k)=p at sn
   have hl:=sn.len g
   obtain⟨n1,n2,_,_⟩:=j7 (P:=plc T p) g hsm iw
   obtain⟨S3,e3,x3⟩:=Ap (S:=S') g sn.lt (by exact ag (by assumption) (aM (by assumption) (by decide)))
   have e4:=Nd (S:=S3) (s:=s) (P:=plc T p) g (by exact aJ (by assumption) (by decide)) hsm iw
   obtain⟨S5,e5,x5⟩:=LK (S:=S3) (p:=p) (s:=s) (n:=tkn m T s (plc T p) - 1) g sn.lt hsm (by
    have:(tkn m T s (plc T p) - 1+1)*(p.length+1)<=30*30:=Nat.mul_le_mul (by exact ag (by assumption) (by assumption)) (by exact ag (by assumption) (by assumption))
    exact ag (by assumption) (by decide))
   have f4:=bT (i:=4) (q0 (f:=_G.run 3 5 ttM) (ρ:= [some (tab m T),some (.tup (ai st)),some (.tup (ai p)),some (.int (s:Nat)),b]) (S:=S') (a:=ae 0) (b:=ae 3) (c:=mFn (_G.run 2 4 plM) (aa (ae 0) (aa (ae 2) ah))) (var_eq rfl) (var_eq rfl) (bO (var_eq rfl) (var_eq rfl) e3) e4)
   have fs:m2 kh (ae 4) (mC (.int 1)) [some (tab m T),some (.tup (ai st)),some (.tup (ai p)),some (.int (s:Nat)),some (.int (tkn m T s (plc T p):Nat))] S3=some (.int (tkn m T s (plc T p) - 1:Nat),S3):=by
    rw[xg (var_eq rfl) c_i]
    congr 3
    omega
   have f5:=bT (i:=2) (Hq (f:=_G.run 4 8 thM) (ρ:= [some (tab m T),some (.tup (ai st)),some (.tup (ai p)),some (.int (s:Nat)),some (.int (tkn m T s (plc T p):Nat))]) (S:=S3) (a:=ae 0) (b:=ae 2) (c:=m2 gg (dg (aa (ae 3) ah)) (m2 kh (ae 4) (mC (.int 1)))) (d:=ae 2) (var_eq rfl) (var_eq rfl) (DM (s:=s) (wF (var_eq rfl)) fs (by exact ag (by assumption) (aM (by assumption) (by decide)))) (var_eq rfl) e5)
   exact⟨_,S5,(aV f4).trans f5,⟨_,_,rfl⟩,(x2.trans x3).trans x5⟩)
 rw[bU,iV]at e2
 refine⟨S2,bW (ρ:= [some (tab m T),some (.tup (ai st)),some (.tup (ai (snk m T [] st))),a,b]) rfl ?_,x1.trans x2⟩
 show snM [some (tab m T),some (.tup (ai st)),none,none,none] S=_
 exact(aV er).trans ((aV (bT (show dg ah _ _=some (.tup (ai []),S1) from rfl))).trans ((aV e2).trans (bV (var_eq rfl))))
end
end
end _W
end
section
namespace _W
open _L _G
section
theorem mO{n:Nat}:Pln n (d0 n):=λi j _ _=>by unfold d0;rw[tN]
theorem DU{k m:Nat}{A B:Nat->Nat->Nat}(hm:0<m)(a:Pln k A)(b:Pln m B):Pln (k*m) (kU m A B):=λi j hi hj=>by
 unfold kU
 have h1:i / m<k:=jx (by rw[eM];exact hi)
 have h2:j / m<k:=jx (by rw[eM];exact hj)
 rw[a _ _ h1 h2,b _ _ (kI _ hm) (kI _ hm)]
theorem Bj{m:Nat}{T:Nat->Nat->Nat}{o p:Nat->Nat}(h:Ord m o p)(a:Pln m T):Pln m (jg T o p):=λi j hi hj=>by
 unfold jg;rw[a _ _ (h.ol i hi) (h.ol j hj)]
section
variable {m:Nat}{T:Nat->Nat->Nat}{S:Sto}
noncomputable def lpW:MS:=bC 2 (mFn i4 (aa (ae 2) (aa (mFn cc (aa (m2 dq (mC (.int 2)) (mFn aK (aa (ae 0) (aa (m2 kh (m2 oDiv (ae 1) (mFn bK (aa (ae 2) ah))) (mC (.int 1))) ah)))) ah)) ah)))
noncomputable def lpC:MT:=ko (cOf (m2 oLe (m2 gg (mFn bK (aa (ae 2) ah)) (mC (.int 2))) (ae 1))) (cOf (m2 oGt (mFn aK (aa (ae 0) (aa (mC (.int 4)) ah))) (mC (.int 0))))
noncomputable def lpM:MS:=ba (bC 2 (mFn cc (aa (m2 dq (mC (.int 1)) (mFn aK (aa (ae 0) (aa (ae 1) ah)))) ah))) (ba (sIf (cOf (m2 oGt (mFn aK (aa (ae 0) (aa (mC (.int 3)) ah))) (mC (.int 0)))) (ba (bC 2 (mFn cc (aa (m2 dq (mC (.int 2)) (mFn aK (aa (ae 0) (aa (mC (.int 3)) ah)))) ah))) (iE lpC lpW)) b7) (ba (sIf (cOf (m2 oEq (mFn aK (aa (ae 0) (aa (mC (.int 3)) ah))) (mC (.int 0)))) (bC 2 (mFn gm (aa (ae 2) (aa (mFn gn (aa (ae 0) (aa (mFn bK (aa (ae 2) ah)) ah))) ah)))) b7) (bB (ae 2))))
structure Pg(n most:Nat)(S0:Sto)(ρ:Rho)(S:Sto):Prop where
 h: ∃m T,ρ = [some (.ref n),some (.int (most:Nat)),some (tab m T)]/\Grp m T/\Pln m T/\m<=most
 st:Stp n S0 S
theorem LJ{n most:Nat}{S:Sto}(h:lj n S)(h6:6<=most)(hm:most<100): ∃m T S',_G.run 2 3 lpM [.ref n,.int (most:Nat)] S=some (tab m T,S')/\Grp m T/\Pln m T/\m<=most/\Stp n S S':=by
 obtain⟨r1,S1,e1,hr1,st1⟩:=jf (m:=most) h (by exact Nat.zero_lt_of_lt (by assumption)) (by exact ag (by assumption) (by decide))
 obtain⟨S2,e2,x2⟩:=n9 (n:=1+r1) (S:=S1) (by exact d9 (by decide) _) (by unfold big;omega)
 have g1:bC 2 (mFn cc (aa (m2 dq (mC (.int 1)) (mFn aK (aa (ae 0) (aa (ae 1) ah)))) ah)) [some (.ref n),some (.int (most:Nat)),none] S=some (.nx,[some (.ref n),some (.int (most:Nat)),some (tab (1+r1) (d0 (1+r1)))],S2):=bT (iM (add_n (x:=1) (y:=r1) c_i (bO (f:=aK) (var_eq rfl) (var_eq rfl) e1)) e2)
 have p1:Pg n most S [some (.ref n),some (.int (most:Nat)),some (tab (1+r1) (d0 (1+r1)))] S2:=⟨⟨_,_,rfl,mQ (by exact d9 (by decide) _),mO,by omega⟩,st1.step x2⟩
 have step2: ∀ρ S2,Pg n most S ρ S2 -> ∃ρ' S',sIf (cOf (m2 oGt (mFn aK (aa (ae 0) (aa (mC (.int 3)) ah))) (mC (.int 0)))) (ba (bC 2 (mFn cc (aa (m2 dq (mC (.int 2)) (mFn aK (aa (ae 0) (aa (mC (.int 3)) ah)))) ah))) (iE lpC lpW)) b7 ρ S2=some (.nx,ρ',S')/\Pg n most S ρ' S':=by
  rintro ρ S2 ⟨⟨m,T,rfl,gr,pl,hle⟩,st⟩
  obtain⟨r,S3,e3,hr3,st3⟩:=jf (m:=3) st.st (by decide) (by decide)
  have ec:=of_eq (CK (ρ:= [some (.ref n),some (.int (most:Nat)),some (tab m T)]) (S:=S2) (a:=mFn aK (aa (ae 0) (aa (mC (.int 3)) ah))) (b:=mC (.int 0)) (bO (f:=aK) (var_eq rfl) c_i e3) c_i)
  by_cases hr:0<r
  ·rw[decide_eq_true (by omega)]at ec
   obtain⟨q,S4,e4,hq,st4⟩:=jf (m:=3) st3.st (by decide) (by decide)
   obtain⟨S5,e5,x5⟩:=n9 (n:=2+q) (S:=S4) (by exact d9 (by decide) _) (by unfold big;omega)
   have g5:bC 2 (mFn cc (aa (m2 dq (mC (.int 2)) (mFn aK (aa (ae 0) (aa (mC (.int 3)) ah)))) ah)) [some (.ref n),some (.int (most:Nat)),some (tab m T)] S3=some (.nx,[some (.ref n),some (.int (most:Nat)),some (tab (2+q) (d0 (2+q)))],S5):=bT (iM (add_n (x:=2) (y:=q) c_i (bO (f:=aK) (var_eq rfl) c_i e4)) e5)
   have p5:Pg n most S [some (.ref n),some (.int (most:Nat)),some (tab (2+q) (d0 (2+q)))] S5:=⟨⟨_,_,rfl,mQ (by exact d9 (by decide) _),mO,by omega⟩,((st.trans st3).trans st4).step x5⟩
   obtain⟨ρ6,S6,e6,p6⟩:=qD (c:=lpC) (b:=lpW) (λμ ρ S'=>Pg n most S ρ S' /\ ∃m T,ρ = [some (.ref n),some (.int (most:Nat)),some (tab m T)]/\μ=most - m) (λρ S'=>Pg n most S ρ S') (by
    rintro μ ρ S' ⟨⟨⟨m,T,rfl,gr,pl,hle⟩,st⟩,m',T',he,rfl⟩
    have hmm:m'=m:=by
     have h3:=congrArg (λρ:Rho=>ρ[2]?) he
     have h4:U.tup ((aE m).map (ng m T))=U.tup ((aE m').map (ng m' T')):=bz (bz h3)
     have:=congrArg oV (U.tup.inj h4)
     simpa using this.symm
    subst hmm
    have hp:=gr.pos
    have c1:cOf (m2 oLe (m2 gg (mFn bK (aa (ae 2) ah)) (mC (.int 2))) (ae 1)) [some (.ref n),some (.int (most:Nat)),some (tab m' T)] S'=some (decide (m'*2<=most),S'):=by
     have:=of_eq (op2 (f:=oLe) (ρ:= [some (.ref n),some (.int (most:Nat)),some (tab m' T)]) (S:=S') (a:=m2 gg (mFn bK (aa (ae 2) ah)) (mC (.int 2))) (b:=ae 1) (Cq (x:=m') (y:=2) (len_tab (var_eq rfl)) c_i (by exact aJ (by assumption) (ag (by assumption) (by decide)))) (var_eq rfl) (show oLe (.int ((m'*2:Nat):Int)) (.int (most:Nat)) S'=some (.bl (decide (((m'*2:Nat):Int)<=(most:Int))),S') from rfl))
     rw[this]
     congr 2
     simp
     omega
    by_cases h2:m'*2<=most
    ·rw[decide_eq_true h2]at c1
     obtain⟨r,S7,e7,hr7,st7⟩:=jf (m:=4) st.st (by decide) (by decide)
     have c2:=of_eq (CK (ρ:= [some (.ref n),some (.int (most:Nat)),some (tab m' T)]) (S:=S') (a:=mFn aK (aa (ae 0) (aa (mC (.int 4)) ah))) (b:=mC (.int 0)) (bO (f:=aK) (var_eq rfl) c_i e7) c_i)
     refine⟨decide ((0:Int)<r),S7,?_,λ_=>⟨⟨_,_,rfl,gr,pl,hle⟩,st.trans st7⟩,λ_ =>?_⟩
     ·simp only[lpC,ko,c1,aH,if_true,c2]
     ·have hd:2<=most / m':=(Nat.le_div_iff_mul_le hp).mpr (by rw[eM];exact h2)
      obtain⟨q,S8,e8,hq8,st8⟩:=jf (m:=most / m' - 1) st7.st (by omega) (by have:=xW most m';omega)
      have es:m2 kh (m2 oDiv (ae 1) (mFn bK (aa (ae 2) ah))) (mC (.int 1)) [some (.ref n),some (.int (most:Nat)),some (tab m' T)] S7=some (.int (most / m' - 1:Nat),S7):=by
       rw[xg (B0 (x:=most) (y:=m') (var_eq rfl) (len_tab (var_eq rfl)) hp (by exact aJ (by assumption) (ag (by assumption) (by decide)))) c_i]
       congr 3
       omega
      obtain⟨S9,e9,x9⟩:=n9 (n:=2+q) (S:=S8) (by exact d9 (by decide) _) (by have:=xW most m';unfold big;omega)
      have hq2:2+q<=most / m':=by omega
      have hmul:m'*(2+q)<=most:=aM (qw m' hq2) (Nat.mul_div_le most m')
      obtain⟨S10,e10,x10⟩:=F8 (k:=m') (m:=2+q) (A:=T) (B:=d0 (2+q)) (S:=S9) hp (by exact aJ (by assumption) (ag (by assumption) (by decide))) (by exact d9 (by decide) _) (by have:=xW most m';omega) gr.cl
      have hgt:m'<m'*(2+q):=by
       have:m'*2<=m'*(2+q):=qw m' (by omega)
       omega
      refine⟨[some (.ref n),some (.int (most:Nat)),some (tab (m'*(2+q)) (kU (2+q) T (d0 (2+q))))],S10,most - m'*(2+q),by omega,bT (bO (f:=i4) (var_eq rfl) (iM (f:=cc) (add_n (x:=2) (y:=q) c_i (bO (f:=aK) (var_eq rfl) es e8)) e9) e10),⟨⟨_,_,rfl,BN gr (mQ (by exact d9 (by decide) _)),DU (by exact d9 (by decide) _) pl mO,hmul⟩,(((st.trans st7).trans st8).step x9).step x10⟩,_,_,rfl,rfl⟩
    ·rw[decide_eq_false h2]at c1
     refine⟨false,S',?_,λ_=>⟨⟨_,_,rfl,gr,pl,hle⟩,st⟩,λz=>by cases z⟩
     simp only[lpC,ko,c1,aH,dH,if_false]) fuel (most - (2+q)) _ S5 (by unfold fuel;omega) ⟨p5,_,_,rfl,rfl⟩
   exact⟨ρ6,S6,(p9 ec).trans ((aV g5).trans e6),p6⟩
  ·rw[decide_eq_false (by omega)]at ec
   exact⟨_,S3,(gG ec).trans rfl,⟨⟨_,_,rfl,gr,pl,hle⟩,st.trans st3⟩⟩
 have step3: ∀ρ S2,Pg n most S ρ S2 -> ∃ρ' S',sIf (cOf (m2 oEq (mFn aK (aa (ae 0) (aa (mC (.int 3)) ah))) (mC (.int 0)))) (bC 2 (mFn gm (aa (ae 2) (aa (mFn gn (aa (ae 0) (aa (mFn bK (aa (ae 2) ah)) ah))) ah)))) b7 ρ S2=some (.nx,ρ',S')/\Pg n most S ρ' S':=by
  rintro ρ S2 ⟨⟨m,T,rfl,gr,pl,hle⟩,st⟩
  have hp:=gr.pos
  obtain⟨r,S3,e3,hr3,st3⟩:=jf (m:=3) st.st (by decide) (by decide)
  have ec:=of_eq (rZ (ρ:= [some (.ref n),some (.int (most:Nat)),some (tab m T)]) (S:=S2) (a:=mFn aK (aa (ae 0) (aa (mC (.int 3)) ah))) (b:=mC (.int 0)) (x:=r) (y:=0) (bO (f:=aK) (var_eq rfl) c_i e3) c_i)
  by_cases hr:r=0
  ·rw[decide_eq_true hr]at ec
   obtain⟨l,S4,e4,st4,ho⟩:=B6 (m:=m) st3.st hp (by exact aJ (by assumption) (ag (by assumption) (by decide)))
   obtain⟨S5,e5,x5⟩:=CA (S:=S4) (T:=T) (by unfold big;exact aJ (by assumption) (ag (by assumption) (by decide))) gr.cl ho
   refine⟨[some (.ref n),some (.int (most:Nat)),some (tab m (jg T (oF l) (pF l)))],S5,(p9 ec).trans (bT (bO (f:=gm) (var_eq rfl) (bO (f:=gn) (var_eq rfl) (len_tab (var_eq rfl)) e4) e5)),⟨⟨_,_,rfl,AZ gr ho.ord,Bj ho.ord pl,hle⟩,((st.trans st3).trans st4).step x5⟩⟩
  ·rw[decide_eq_false hr]at ec
   exact⟨_,S3,(gG ec).trans rfl,⟨⟨_,_,rfl,gr,pl,hle⟩,st.trans st3⟩⟩
 obtain⟨ρ3,S3,e3,p3⟩:=step2 _ _ p1
 obtain⟨ρ4,S4,e4,⟨⟨m,T,rfl,gr,pl,hle⟩,st⟩⟩:=step3 _ _ p3
 exact⟨m,T,S4,bW (ρ:= [some (.ref n),some (.int (most:Nat)),some (tab m T)]) rfl (show lpM [some (.ref n),some (.int (most:Nat)),none] S=_ from(aV g1).trans ((aV e3).trans ((aV e4).trans (bV (var_eq rfl))))),gr,pl,hle,st⟩
end
end
end _W
end
section
namespace _W
open _L _G
section
theorem ux: ∀(l acc:List Int) (x:Int),x∈l.foldl (λacc x=>if x∈acc then acc else acc++[x]) acc↔x∈acc\/x∈l
 | [],acc,x=>by simp
 | y::l,acc,x=>by
   rw[jH,ux l]
   by_cases h:y∈acc
   ·rw[if_pos h,aO]
    constructor
    ·rintro (z |z)
     ·exact .inl z
     ·exact .inr (.inr z)
    ·rintro (z |rfl |z)
     ·exact .inl z
     ·exact .inl h
     ·exact .inr z
   ·rw[if_neg h,be,aQ,aO,or_assoc]
theorem Ag{l:List Int}{x:Int}:x∈ddp l↔x∈l:=by unfold ddp;rw[ux];simp
theorem ue: ∀(l acc:List Int),acc.Nodup->(l.foldl (λacc x=>if x∈acc then acc else acc++[x]) acc).Nodup
 | [],acc,h=>h
 | y::l,acc,h=>by
   rw[jH]
   refine ue l _ ?_
   by_cases z:y∈acc
   ·rw[if_pos z];exact h
   ·rw[if_neg z];exact fQ.mpr ⟨h,by simp,λa ha b hb=>by simp at hb;rw[hb];exact λe=>z (e▸ha)⟩
theorem Iv(l:List Int):(ddp l).Nodup:=ue l [] List.nodup_nil
noncomputable def ddN(l:List Nat):List Nat:=(ddp (dJ l)).map pT
theorem j8(l:List Nat):dJ (ddN l)=ddp (dJ l):=by
 unfold dJ ddN
 rw[b4]
 conv=>rhs;rw[<- List.map_id (ddp (l.map λ(x:Nat)=>(x:Int)))]
 apply bt
 intro x hx
 obtain⟨y,_,rfl⟩:=aS.mp (Ag.mp hx)
 simp
theorem zH{l:List Nat}{x:Nat}:x∈ddN l↔x∈l:=by
 have h:(x:Int)∈dJ (ddN l)↔(x:Int)∈dJ l:=by rw[j8];exact Ag
 have e: ∀k:List Nat,(x:Int)∈dJ k↔x∈k:=λk=>by
  unfold dJ
  rw[aS]
  constructor
  ·rintro ⟨y,hy,e⟩
   have:y=x:=by omega
   rw[<- this];exact hy
  ·exact λh=>⟨x,h,rfl⟩
 rw[<- e,<- e];exact h
theorem CC(l:List Nat):(ddN l).Nodup:=by
 have h:(dJ (ddN l)).Nodup:=by rw[j8];exact Iv _
 unfold dJ at h
 exact(fP.mp h).imp λ{a b} hab e=>hab (by rw[e])
theorem N2{ρ:Rho}{S S1:Sto}{a:ME}{l:List Nat}(ha:a ρ S=some (.tup (ai l),S1))(h1:l.length<4000)(h2:(ddN l).length<64):mFn bSS (aa a ah) ρ S=some (.ref S1.length,S1++[.lst (ai (srt (ddN l)))]):=by
 refine iM (f:=bSS) ha ?_
 have h3:(ddp (dJ l)).length<64:=by rw[<- j8];simpa [dJ]using h2
 have ok:GJ (dJ l).length (ddp (dJ l)).length:=⟨by simpa [dJ]using h1,h3⟩
 simp only[bSS,dz,ar,i8]
 rw[if_pos ok,<- j8,rP]
end
end _W
end
section
namespace _W
open _L _G
section
end
end _W
end
section
namespace _W
open _L _G
section
section
variable {m:Nat}{T:Nat->Nat->Nat}{S:Sto}{u:U}{st:List Nat}
end
end
end _W
end
section
namespace _W
open _L _G
section
section
variable {m:Nat}{f:Nat->Nat}
end
end
end _W
end
section
namespace _W
open _L _G
section
section
variable {m:Nat}{T:Nat->Nat->Nat}{S:Sto}
end
end
end _W
end
section
namespace _W
open _L _G
section
section
variable {S:Sto}
theorem Nz{ρ:Rho}{S S1 S2:Sto}{a b:ME}{x y:Nat}(ha:a ρ S=some (.int x,S1))(hb:b ρ S1=some (.int y,S2)):m2 oGt a b ρ S=some (.bl (decide (y<x)),S2):=by
 rw[CK ha hb]
 congr 3
 exact decide_eq_decide.mpr (by omega)
end
end
end _W
end
section
namespace _W
open _L _G
section
open PySem in
open PySem in
section
variable {S:Sto}
section
variable {n m r:Nat} (hn:0<n) (hn2:n<100) (hm:0<m) (hm2:m<100) (hr:r<100)
include hn hn2 hm hm2 hr
end
end
end
end _W
end
section
namespace _W
open _L _G
section
section
variable {m:Nat}{T:Nat->Nat->Nat}
noncomputable def tf(T:Nat->Nat->Nat)(x n:Nat):Prop:=1<=n/\pw T x n=0 /\ ∀k,1<=k->k<n->pw T x k≠0
theorem tf.uniq{x a b:Nat}(h:tf T x a)(q:tf T x b):a=b:=by
 rcases Nat.lt_trichotomy a b with z |z |z
 ·exact absurd h.2.1 (q.2.2 a h.1 z)
 ·exact z
 ·exact absurd q.2.1 (h.2.2 b q.1 z)
theorem L6(g:Grp m T){x:Nat}(hx:x<m): ∃n,tf T x n/\n<=m:=by
 obtain⟨n,h1,h2,h3,h4⟩:=g.ord hx
 exact⟨n,⟨h1,h3,h4⟩,h2⟩
open Classical in
noncomputable def od(T:Nat->Nat->Nat)(x:Nat):Nat:=if h: ∃n,tf T x n then choose h else 0
theorem uf(g:Grp m T){x:Nat}(hx:x<m):tf T x (od T x)/\od T x<=m:=by
 obtain⟨n,h,hn⟩:=L6 g hx
 have hh: ∃n,tf T x n:=⟨n,h⟩
 have e:od T x=Classical.choose hh:=dif_pos hh
 have q:=Classical.choose_spec hh
 rw[<- e]at q
 exact⟨q,by rw[q.uniq h];exact hn⟩
theorem LN{x n:Nat}(g:Grp m T)(hx:x<m)(h:tf T x n):od T x=n:=(uf g hx).1.uniq h
theorem Ck(g:Grp m T){x:Nat}(hx:x<m): ∀k,T (pw T x k) (pw T (unT m T x) k)=0
 | 0=>g.l0 0 g.pos
 | k+1=>by
   have hy:=jF g hx
   have e:pw T (unT m T x) (k+1)=T (unT m T x) (pw T (unT m T x) k):=by
    rw[tN,kA g hy 1 k]
    show T (T 0 _) _=_
    rw[g.l0 _ hy]
   rw[e]
   show T (T (pw T x k) x) _=0
   rw[g.as _ _ _ (eS g hx k) hx (g.cl _ _ hy (eS g hy k)),<- g.as _ _ _ hx hy (eS g hy k),(kn g hx).2.1,g.l0 _ (eS g hy k),Ck g hx k]
end
end
end _W
end
section
namespace _W
open _L _G
section
section
variable {m:Nat}{T:Nat->Nat->Nat}{P:List Nat}
end
section
variable {m:Nat}{T:Nat->Nat->Nat}{P:List Nat}
end
end
end _W
end
namespace _W
open PySem PySem.Spec _L _G
section
noncomputable def v7:MS:=bB (mMT gd (m2 oIx (ae 0) (ae 1)) (aa (mC (.int 0)) ah))
noncomputable def dB:MF:=run 2 2 v7
noncomputable def lF:MS:=ba (bC 3 (mFn dB (aa (ae 0) (aa (ae 2) ah)))) (bB (yQ (cOf (m2 oIn (ae 3) (ae 1))) (dg (aa (ae 3) ah)) (mC .non)))
noncomputable def dA:MF:=run 3 4 lF
noncomputable def pN:MS:=ba (bC 2 (mFn cc (aa (m2 dq (mC (.int 1)) (mFn aK (aa (ae 0) (aa (ae 1) ah)))) ah))) (ba (sIf (cOf (m2 oGt (mFn aK (aa (ae 0) (aa (mC (.int 3)) ah))) (mC (.int 0)))) (ba (bC 2 (mFn cc (aa (m2 dq (mC (.int 2)) (mFn aK (aa (ae 0) (aa (mC (.int 3)) ah)))) ah))) (iE (ko (cOf (m2 oLe (m2 gg (mFn bK (aa (ae 2) ah)) (mC (.int 2))) (ae 1))) (cOf (m2 oGt (mFn aK (aa (ae 0) (aa (mC (.int 4)) ah))) (mC (.int 0))))) (bC 2 (mFn i4 (aa (ae 2) (aa (mFn cc (aa (m2 dq (mC (.int 2)) (mFn aK (aa (ae 0) (aa (m2 kh (m2 oDiv (ae 1) (mFn bK (aa (ae 2) ah))) (mC (.int 1))) ah)))) ah)) ah)))))) b7) (ba (sIf (cOf (m2 oEq (mFn aK (aa (ae 0) (aa (mC (.int 3)) ah))) (mC (.int 0)))) (bC 2 (mFn gm (aa (ae 2) (aa (mFn gn (aa (ae 0) (aa (mFn bK (aa (ae 2) ah)) ah))) ah)))) b7) (bB (ae 2))))
noncomputable def gq:MF:=run 2 3 pN
noncomputable def pL:MS:=ba (bC 3 (jN (iR2 (aa (mC (.int 1)) (aa (mFn bK (aa (ae 1) ah)) ah))))) (ba (bC 4 (fA ah)) (ba (ft 5 (iR1 (aa (mFn pX (aa (mFn bK (aa (ae 3) ah)) (aa (m2 dq (mC (.int 1)) (mFn aK (aa (ae 0) (aa (ae 2) ah)))) ah))) ah)) (fb (mML d7 (ae 4) (aa (mML jL (ae 3) (aa (mFn aK (aa (ae 0) (aa (mFn bK (aa (ae 3) ah)) ah))) ah)) ah)))) (bB (mFn b9 (aa (mFn dW (aa (ae 4) ah)) ah)))))
noncomputable def ir:MF:=run 3 6 pL
noncomputable def rV:MS:=ba (ft 1 (iR1 (aa (mFn bK (aa (ae 0) ah)) ah)) (sIf (nX (cOf (mFn pe (aa (cq (iR1 (aa (ae 1) ah)) cTT (m2 oEq (m2 oIx (m2 oIx (ae 0) (ae 1)) (ae 2)) (m2 oIx (m2 oIx (ae 0) (ae 2)) (ae 1)))) ah)))) (bB (mC (.bl false))) b7)) (bB (mC (.bl true)))
noncomputable def rX:MF:=run 1 2 rV
noncomputable def ji:MS:=sIf (nX (cOf (mFn rX (aa (ae 0) ah)))) sNo b7
noncomputable def i5:MF:=run 1 1 ji
noncomputable def kW:MS:=ba (bC 3 (ae 1)) (ba (bC 4 (mC (.int 1))) (ba (iE (cOf (m2 gE (ae 3) (ae 2))) (ba (bC 3 (m2 oIx (m2 oIx (ae 0) (ae 3)) (ae 1))) (qR 4 (mC (.int 1))))) (bB (ae 4))))
noncomputable def kS:MF:=run 3 5 kW
noncomputable def CW:MS:=bB (mFn b9 (aa (cq (w9 (aa (ae 1) ah)) cTT (mFn dB (aa (ae 0) (aa (ae 2) ah)))) ah))
noncomputable def DK:MF:=run 2 2 CW
noncomputable def rm:MS:=ba (bC 4 (dg (aa (mFn DK (aa (ae 0) (aa (ae 3) ah))) (aa (ae 3) ah)))) (ba (bC 5 (ae 1)) (ba (nv (gTp 2 (eE (gN 6) (eE (gN 7) nA))) (pI (aa (ae 2) ah)) (bC 5 (m2 dq (m2 dq (ae 5) (dg (aa (ae 7) ah))) (m2 oIx (ae 4) (m2 oMod (ae 6) (mC (.int 2))))))) (bB (ae 5))))
noncomputable def rM:MF:=run 4 8 rm
noncomputable def xu:MS:=ba (bC 2 (fA (aa (mC (.int 0)) ah))) (ba (ft 3 (dv (ae 1)) (fb (mML d7 (ae 2) (aa (m2 oIx (m2 oIx (ae 0) (m2 oIx (ae 2) (m1 iS (mC (.int 1))))) (ae 3)) ah)))) (bB (mFn b9 (aa (ae 2) ah))))
noncomputable def fT:MF:=run 2 4 xu
noncomputable def zp:MS:=ba (fb (mFn i5 (aa (ae 0) ah))) (ba (bC 2 (dg ah)) (ba (ft 3 (dv (ae 1)) (ba (bC 4 (mFn kS (aa (ae 0) (aa (ae 3) (aa (mFn fT (aa (ae 0) (aa (ae 2) ah))) ah))))) (bC 2 (mFn rM (aa (ae 0) (aa (ae 2) (aa (m2 gg (dg (aa (ae 3) ah)) (m2 kh (ae 4) (mC (.int 1)))) (aa (ae 2) ah)))))))) (bB (ae 2))))
noncomputable def eC:MF:=run 2 5 zp
noncomputable def lZ:MS:=bB (mFn b9 (aa (mFn dW (aa (cq (dv (ae 1)) cTT (mFn dB (aa (ae 0) (aa (ae 2) ah)))) ah)) ah))
noncomputable def fo:MF:=run 2 2 lZ
noncomputable def kQ:MS:=bB (mFn b9 (aa (mFn bSS (aa (m2 dq (ae 1) (mFn fo (aa (ae 0) (aa (ae 1) ah)))) ah)) ah))
noncomputable def dj:MF:=run 2 2 kQ
noncomputable def va:MS:=ba (bC 2 (m2 oIx (mFn fT (aa (ae 0) (aa (mFn eC (aa (ae 0) (aa (ae 1) ah))) ah))) (m1 iS (mC (.int 1))))) (ba (sIf (cOf (m2 oEq (ae 2) (mC (.int 0)))) (bB (mC .non)) b7) (ba (bC 3 (mFn dB (aa (ae 0) (aa (ae 2) ah)))) (bB (yQ (cOr (cOf (m2 oIn (ae 3) (ae 1))) (cOf (m2 oIn (ae 2) (ae 1)))) (ae 3) (mC .non)))))
noncomputable def iI:MF:=run 2 4 va
noncomputable def zt:MS:=ba (bC 2 (rD (mC (.int 0)) (dg ah))) (ba (bC 3 (fA (aa (mC (.int 0)) ah))) (ba (iE (cOf (m2 oGt (mFn bK (aa (ae 3) ah)) (mC (.int 0)))) (ba (bC 4 (mML uU (ae 3) ah)) (ft 5 (dv (ae 1)) (ba (bC 6 (m2 oIx (m2 oIx (ae 0) (ae 4)) (ae 5))) (sIf (cOf (m2 gE (ae 6) (ae 2))) (ba (jb (ae 2) (ae 6) (m2 dq (m2 oIx (ae 2) (ae 4)) (dg (aa (ae 5) ah)))) (fb (mML d7 (ae 3) (aa (ae 6) ah)))) b7))))) (bB (ae 2))))
noncomputable def z5:MF:=run 2 7 zt
noncomputable def Cn:MS:=bB (mFn b9 (aa (mFn dW (aa (mFn z5 (aa (ae 0) (aa (ae 1) ah))) ah)) ah))
noncomputable def jd:MF:=run 2 2 Cn
noncomputable def ud:MS:=bB (m2 oEq (mFn bK (aa (mFn jd (aa (ae 0) (aa (ae 1) ah))) ah)) (mFn bK (aa (ae 0) ah)))
noncomputable def eG:MF:=run 2 2 ud
noncomputable def jC:MS:=bB (iH (m1 (nR "int") (ae 0)) (iH (m1 zc (m1 (nR "bool") (ae 0))) (mCh oLe oLt (mC (.int 0)) (ae 0) (ae 1))))
noncomputable def jD:MF:=run 2 2 jC
noncomputable def iK:MS:=bB (iH (m1 (nR "tuple") (ae 0)) (mFn pe (aa (cq (dv (ae 0)) cTT (mFn jD (aa (ae 2) (aa (ae 1) ah)))) ah)))
noncomputable def fN:MF:=run 2 2 iK
noncomputable def n0:MS:=bB (iH (mFn fN (aa (ae 2) (aa (mFn bK (aa (ae 0) ah)) ah))) (mFn pe (aa (cq (dv (ae 2)) cTT (m2 oIn (ae 3) (ae 1))) ah)))
noncomputable def kz:MF:=run 3 3 n0
noncomputable def n8:MS:=bB (jz (iR1 (aa (mFn bK (aa (ae 0) ah)) ah)))
noncomputable def oK:MF:=run 1 1 n8
noncomputable def j6:MS:=bB (m2 oEq (mFn b9 (aa (mFn dW (aa (ae 1) ah)) ah)) (mFn oK (aa (ae 0) ah)))
noncomputable def g9:MF:=run 2 2 j6
noncomputable def mj:MS:=bB (iH (mFn fN (aa (ae 1) (aa (mFn bK (aa (ae 0) ah)) ah))) (mFn g9 (aa (ae 0) (aa (mFn fT (aa (ae 0) (aa (ae 1) ah))) ah))))
noncomputable def lV:MF:=run 2 2 mj
noncomputable def wI:MS:=bB (iH (mFn kz (aa (ae 0) (aa (ae 1) (aa (ae 2) ah)))) (mFn lV (aa (ae 0) (aa (ae 2) ah))))
noncomputable def lH:MF:=run 3 3 wI
noncomputable def nB:MS:=ba (bC 2 (mFn fT (aa (ae 0) (aa (ae 1) ah)))) (bB (iH (m2 oEq (m2 oIx (ae 2) (m1 iS (mC (.int 1)))) (mC (.int 0))) (mFn g9 (aa (ae 0) (aa (mSl (ae 2) none (some (m1 iS (mC (.int 1))))) ah)))))
noncomputable def nF:MF:=run 2 3 nB
noncomputable def rS:MS:=bB (iH (mFn kz (aa (ae 0) (aa (ae 1) (aa (ae 2) ah)))) (iH (m2 oGe (mFn bK (aa (ae 2) ah)) (mC (.int 2))) (mFn nF (aa (ae 0) (aa (ae 2) ah)))))
noncomputable def gY:MF:=run 3 3 rS
noncomputable def lT:MS:=ba (bC 2 (mFn eC (aa (ae 0) (aa (ae 1) ah)))) (ba (bC 3 (mFn fT (aa (ae 0) (aa (ae 2) ah)))) (ba (sIf (cOr (cOf (m2 oNe (mFn bLS (aa (ae 3) ah)) (mFn bK (aa (ae 3) ah)))) (cOf (m2 oNe (mFn b9 (aa (mFn dW (aa (ae 3) ah)) ah)) (mFn jd (aa (ae 0) (aa (ae 1) ah)))))) (bB (mC (.bl false))) b7) (ba (sIf (cOf (m2 oNe (mFn eC (aa (ae 0) (aa (mSl (ae 1) none (some (m1 iS (mC (.int 1))))) ah))) (mSl (ae 2) none (some (mFn bK (aa (mFn eC (aa (ae 0) (aa (mSl (ae 1) none (some (m1 iS (mC (.int 1))))) ah))) ah)))))) (bB (mC (.bl false))) b7) (ba (bC 4 (mFn dj (aa (ae 0) (aa (ae 1) ah)))) (ba (sIf (cOf (m2 oNe (mFn eG (aa (ae 0) (aa (ae 1) ah))) (m2 oEq (mFn bK (aa (ae 3) ah)) (mFn bK (aa (ae 0) ah))))) (bB (mC (.bl false))) b7) (ba (sIf (cOr (nX (cOf (mFn eG (aa (ae 0) (aa (ae 1) ah))))) (cOf (m2 oGt (mFn bK (aa (ae 4) ah)) (mC (.int 5))))) (bB (mC (.bl true))) b7) (ba (bC 5 (mFn iI (aa (ae 0) (aa (ae 1) ah)))) (ba (sIf (cOf (m2 gC (mFn lH (aa (ae 0) (aa (ae 4) (aa (ae 2) ah)))) (mC (.bl true)))) (bB (mC (.bl false))) b7) (bB (mOr (m2 oIs (ae 5) (mC .non)) (m2 oIs (mFn gY (aa (ae 0) (aa (ae 4) (aa (m2 dq (ae 2) (dg (aa (ae 5) ah))) ah)))) (mC (.bl true)))))))))))))
noncomputable def ic:MF:=run 2 6 lT
noncomputable def Ao:MS:=ba (bC 2 (mC (.int 0))) (ba (ft 3 (dv (ae 1)) (bC 2 (m2 oIx (m2 oIx (ae 0) (ae 2)) (ae 3)))) (bB (ae 2)))
noncomputable def oi:MF:=run 2 4 Ao
noncomputable def nM:MS:=ba (bC 2 (ae 1)) (ba (bC 3 (mC (.int 1))) (ba (iE (cOf (m2 oNe (ae 2) (mC (.int 0)))) (ba (bC 2 (m2 oIx (m2 oIx (ae 0) (ae 2)) (ae 1))) (qR 3 (mC (.int 1))))) (bB (ae 3))))
noncomputable def de:MF:=run 2 4 nM
noncomputable def nC:MS:=sIf (cOf (m2 oGt (mFn bK (aa (ae 0) ah)) (ae 1))) sNo b7
noncomputable def h8:MF:=run 2 2 nC
noncomputable def vY:MS:=ba (bC 4 (cq (dv (ae 1)) cTT (dg (aa (ae 5) (aa (m2 oIx (m2 oIx (ae 0) (ae 2)) (ae 5)) ah))))) (bB (cq (dv (ae 4)) (cOf (m2 oIn (m2 oIx (ae 5) (mC (.int 1))) (ae 3))) (ae 5)))
noncomputable def wg:MF:=run 4 5 vY
noncomputable def tV:MS:=bB (mFn b9 (aa (cq (dv (ae 0)) (cOf (m2 oNe (ae 2) (ae 1))) (ae 2)) ah))
noncomputable def t9:MF:=run 2 2 tV
noncomputable def pD(g:dQ)(φ:MF)(ψ:MF):MS:=ba (sIf (cOf (m2 oEq (mFn bK (aa (ae 3) ah)) (mC (.int 0)))) (bB (BU 4 g φ (aa (ae 0) (aa (ae 1) (aa (ae 2) ah))))) b7) (ba (nv (gTp 2 (eE (gN 5) (eE (gN 6) nA))) (dv (mFn wg (aa (ae 0) (aa (ae 1) (aa (ae 2) (aa (ae 3) ah)))))) (ba (bC 7 (mFn ψ (aa (ae 0) (aa (ae 1) (aa (ae 6) (aa (mFn t9 (aa (ae 3) (aa (ae 6) ah))) (aa (ae 4) ah))))))) (sIf (cOf (m2 gC (ae 7) (mC .non))) (bB (m2 dq (dg (aa (ae 5) ah)) (ae 7))) b7))) (bB (mC .non)))
noncomputable def iz(g:dQ)(φ:MF):MF:=pW 5 8 (pD g φ) 14
noncomputable def mB:MS:=bB (jz (iR2 (aa (mC (.int 1)) (aa (mFn bK (aa (ae 0) ah)) ah))))
noncomputable def je:MF:=run 1 1 mB
noncomputable def jK(a_step_home:dQ):MS:=ba (fb (mFn h8 (aa (ae 0) (aa (mC (.int 12)) ah)))) (bB (mFn (iz a_step_home dA) (aa (ae 0) (aa (ae 1) (aa (mC (.int 0)) (aa (mFn je (aa (ae 0) ah)) (aa (mC (.obj a_step_home)) ah)))))))
noncomputable def eT(a_step_home:dQ):MF:=run 2 2 (jK a_step_home)
noncomputable def GY(a_step_home:dQ):MS:=ba (ft 1 (iR1 (aa (mFn wW (aa (mC (.int 1)) (aa (mFn pX (aa (mFn bK (aa (ae 0) ah)) (aa (mC (.int 6)) ah))) ah))) ah)) (ba (bC 2 (mFn jB (aa (ae 0) (aa (ae 1) ah)))) (ba (bC 3 (mFn gq (aa (ae 2) (aa (m2 oIx (fA (aa (mC (.int 24)) (aa (mC (.int 16)) (aa (mC (.int 8)) ah)))) (mFn aK (aa (ae 2) (aa (mC (.int 3)) ah)))) ah)))) (ba (sIf (cOf (m2 oEq (mFn bK (aa (ae 3) ah)) (mC (.int 1)))) (bC 3 (mFn cc (aa (m2 dq (mC (.int 2)) (mFn aK (aa (ae 2) (aa (mC (.int 23)) ah)))) ah))) b7) (ba (bC 4 (mFn ir (aa (ae 2) (aa (ae 3) (aa (m2 oIx (fA (aa (mC (.int 5)) (aa (mC (.int 2)) ah))) (mFn aK (aa (ae 2) (aa (mC (.int 2)) ah)))) ah))))) (ba (sIf (nX (cOf (mFn ic (aa (ae 3) (aa (ae 4) ah))))) (bB (mC (.bl false))) b7) (ba (bC 5 (m2 oIx (ae 4) (mC (.int 0)))) (ba (sIf (cOr (cOf (m2 oNe (mFn eC (aa (ae 3) (aa (dg (aa (ae 5) ah)) ah))) (m2 gg (dg (aa (ae 5) ah)) (m2 kh (mFn de (aa (ae 3) (aa (ae 5) ah))) (mC (.int 1)))))) (cOf (m2 oNe (mFn iI (aa (ae 3) (aa (dg (aa (ae 5) ah)) ah))) (ae 5)))) (bB (mC (.bl false))) b7) (ba (sIf (cOr (cOf (m2 oNe (mFn oi (aa (ae 3) (aa (m2 gg (dg (aa (ae 5) ah)) (mFn de (aa (ae 3) (aa (ae 5) ah)))) ah))) (mC (.int 0)))) (cOf (m2 gC (mFn iI (aa (ae 3) (aa (dg ah) ah))) (mC .non)))) (bB (mC (.bl false))) b7) (ba (bC 6 (mSl (ae 4) none (some (mC (.int 2))))) (ba (sIf (ko (cOf (m2 oLt (mFn bK (aa (ae 3) ah)) (mC (.int 13)))) (ko (cOf (m2 oEq (mFn bK (aa (ae 6) ah)) (mC (.int 2)))) (ko (cOf (mFn eG (aa (ae 3) (aa (ae 6) ah)))) (cOf (m2 oEq (m2 oMod (mFn de (aa (ae 3) (aa (ae 5) ah))) (mC (.int 2))) (mC (.int 0))))))) (sIf (ko (cOf (m2 gE (m2 oIx (ae 6) (mC (.int 1))) (mFn jd (aa (ae 3) (aa (dg (aa (ae 5) ah)) ah))))) (cOf (m2 oIs (mFn (eT a_step_home) (aa (ae 3) (aa (mFn dj (aa (ae 3) (aa (ae 6) ah))) ah))) (mC .non)))) (bB (mC (.bl false))) b7) b7) (sIf (cOf (m2 oNe (mFn dB (aa (ae 3) (aa (mFn dB (aa (ae 3) (aa (ae 5) ah))) ah))) (ae 5))) (bB (mC (.bl false))) b7)))))))))))) (bB (mC (.bl true)))
noncomputable def KS(a_step_home:dQ):MF:=run 1 7 (GY a_step_home)
end
section
open _L _G
section
variable {m:Nat}{T:Nat->Nat->Nat}{st:List Nat}{S:Sto}
structure Lf(m:Nat)(th left:List Nat):Prop where
 nd:left.Nodup
 mem: ∀y,y∈left↔y<m/\y∉th
theorem Lf.kid{th left:List Nat}{x:Nat}(l:Lf m th left):Lf m (th++[x]) (left.filter λy => !decide (y=x)):=
 ⟨l.nd.filter _,λy=>by
  rw[eI,l.mem y]
  simp
  constructor
  ·rintro ⟨⟨a,b⟩,c⟩;exact⟨a,b,c⟩
  ·rintro ⟨a,b,c⟩;exact⟨⟨a,b⟩,c⟩⟩
theorem lN{α β:Type}{f g:α->Option β}: ∀{l:List α},(∀x∈l,f x=g x)->l.findSome? f=l.findSome? g
 | [],_=>rfl
 | x::l,h=>by
   rw[jR,jR,h x (by simp),lN λy hy=>h y (aC _ hy)]
theorem um{L:Nod->List (List Nat)}{last:Nat->Option (List Nat)}(g:Grp m T)(hs: ∀s∈st,s<m)(hL: ∀p:Nod,p.2≠[]->(∀x∈p.2,x<m)->(L p).head? = (last (eR p.2)).map λw=>p.1++w):
  ∀(k:Nat) (p:Nod) (left:List Nat),p.2≠[]->(∀x∈p.2,x<m)->Lf m p.2 left->(uZ T st L k p).head? = (leF T st last k (eR p.2) left).map λw=>p.1++w
 | 0,p,left,h1,h2,l=>hL p h1 h2
 | k+1,p,left,h1,h2,l=>by
   unfold uZ leF
   have hh:=wa h1 h2
   have hg:gos T st (eR p.2) left=st.filter λs => !decide (T (eR p.2) s∈p.2):=by
    unfold gos
    apply List.filter_congr
    intro s hsm
    have:=g.cl _ _ hh (hs s hsm)
    by_cases z:T (eR p.2) s∈p.2
    ·have:T (eR p.2) s∉left:=λy=>((l.mem _).mp y).2 z
     simp[z,this]
    ·have:T (eR p.2) s∈left:=(l.mem _).mpr ⟨this,z⟩
     simp[z,this]
   rw[List.head?_flatMap,hg]
   unfold kids
   rw[List.findSome?_map,List.map_findSome?]
   apply lN
   intro s hsm
   have hsm:=(eI.mp hsm).1
   have ih:=um g hs hL k (p.1++[s],p.2++[T (eR p.2) s]) (left.filter λy => !decide (y=T (eR p.2) s)) (by simp) (λx hx=>by
    rcases be.mp hx with hx |hx
    ·exact h2 x hx
    ·simp at hx;rw[hx];exact g.cl _ _ hh (hs s hsm)) l.kid
   simp only[Function.comp]
   rw[ih]
   simp only[ky]
   cases leF T st last k (T (eR p.2) s) (left.filter λy => !decide (y=T (eR p.2) s)) with
   | none=>rfl
   | some w=>simp
theorem B7(hm:0<m):Lf m [0] (bu 1 (m - 1)):=by
 refine⟨sJ,λy =>?_⟩
 rw[iB]
 simp
 omega
noncomputable def FX(m:Nat)(T:Nat->Nat->Nat)(st:List Nat):Option (List Nat):=leF T st (pM m T st) (m - 1) 0 (bu 1 (m - 1))
theorem ug{p:Nat->Bool}{x:Nat}: ∀(l:List Nat),(∀s∈l,p s=decide (s=x))->(l.filter p).head? = if x∈l then some x else none
 | [],_=>by simp
 | y::l,h=>by
   have hy:=h y (by simp)
   have ih:=ug l λs hs=>h s (aC _ hs)
   by_cases e:y=x
   ·subst e
    rw[m9 (by rw[hy];simp)]
    simp
   ·rw[nc (by rw[hy];simpa using e),ih]
    simp[cU e]
theorem Dl(g:Grp m T)(hs: ∀s∈st,s<m):(uZ T st (HU T st) (m - 1) ([],[0])).head? = FX m T st:=by
 rw[um g hs (last:=pM m T st) (λp h1 h2=>by
  have hh:=wa h1 h2
  obtain⟨u1,u2,u3,u4⟩:=kn g hh
  unfold HU pM
  rw[List.head?_map,ug (x:=unT m T (eR p.2)) st λs hsm =>?_]
  ·split <;> simp
  ·by_cases z:s=unT m T (eR p.2)
   ·subst z;simp[u2]
   ·have:T (eR p.2) s≠0:=λy=>z (u4 s (hs s hsm) y)
    simp[z,this]) (m - 1) ([],[0]) _ (by simp) (by simpa using g.pos) (B7 g.pos)]
 show Option.map (λw=>w) (leF T st (pM m T st) (m - 1) 0 (bu 1 (m - 1)))=_
 rw[Option.map_id'];rfl
theorem Na{h:Nat}(g:Grp m T)(hh:h<m):dA [tab m T,.tup (ai st),.int (h:Nat)] S=some (Di (pM m T st h),S):=by
 have e1:mFn dB (aa (ae 0) (aa (ae 2) ah)) [some (tab m T),some (.tup (ai st)),some (.int (h:Nat)),none] S=some (.int (unT m T h),S):=bO (f:=dB) (var_eq rfl) (var_eq rfl) (ku g hh)
 have ec:=FP (ρ:= [some (tab m T),some (.tup (ai st)),some (.int (h:Nat)),some (.int (unT m T h:Nat))]) (S:=S) (a:=ae 3) (b:=ae 1) (x:=unT m T h) (l:=st) (var_eq rfl) (var_eq rfl)
 refine bW (ρ:= [some (tab m T),some (.tup (ai st)),some (.int (h:Nat)),some (.int (unT m T h:Nat))]) rfl ?_
 show lF [some (tab m T),some (.tup (ai st)),some (.int (h:Nat)),none] S=_
 refine(aV (bT e1)).trans (bV ?_)
 unfold pM
 by_cases z:unT m T h∈st
 ·rw[decide_eq_true z]at ec
  rw[if_pos z]
  show bnd (cOf (m2 oIn (ae 3) (ae 1)) [some (tab m T),some (.tup (ai st)),some (.int (h:Nat)),some (.int (unT m T h:Nat))] S) _=_
  rw[ec]
  show dg (aa (ae 3) ah) [some (tab m T),some (.tup (ai st)),some (.int (h:Nat)),some (.int (unT m T h:Nat))] S=_
  exact wF (var_eq rfl)
 ·rw[decide_eq_false z]at ec
  rw[if_neg z]
  show bnd (cOf (m2 oIn (ae 3) (ae 1)) [some (tab m T),some (.tup (ai st)),some (.int (h:Nat)),some (.int (unT m T h:Nat))] S) _=_
  rw[ec]
  rfl
theorem Dw{a:dQ}(g:Grp m T)(hm:m<=12)(hs: ∀s∈st,s<m)(hsl:st.length<1000): ∃S',eT a [tab m T,.tup (ai st)] S=some (Di (FX m T st),S')/\Ex S S':=by
 have hp:=g.pos
 obtain⟨S1,e1,x1⟩:=MV (T:=T) (st:=st) (last:=pM m T st) (g:=a) (φ:=dA) g hs hsl (by omega) (λh w e=>by unfold pM at e;split at e <;> cases e;simp) (λh S hh=>Na g hh) (m - 1) 14 0 (bu 1 (m - 1)) S (by omega) (by simp) sJ (λx hx=>by have:=iB.mp hx;omega) hp
 have er:fb (mFn h8 (aa (ae 0) (aa (mC (.int 12)) ah))) [some (tab m T),some (.tup (ai st))] S=some (.nx,[some (tab m T),some (.tup (ai st))],S):=by
  have:=bO (f:=h8) (ρ:= [some (tab m T),some (.tup (ai st))]) (S:=S) (a:=ae 0) (b:=mC (.int 12)) (var_eq rfl) c_i (BA (k:=12) hm)
  simp only[fb,this,aH]
 refine⟨S1,bW (ρ:= [some (tab m T),some (.tup (ai st))]) rfl ?_,x1⟩
 show jK a [some (tab m T),some (.tup (ai st))] S=_
 exact(aV er).trans (bV (Ht (f:=iz a dA) (var_eq rfl) (var_eq rfl) (c_i (z:=0)) (iM (f:=je) (var_eq rfl) (FN hp (by omega))) rfl e1))
end
end
section
open _L _G
theorem pH{m:Nat}{T:Nat->Nat->Nat}{S:Sto}(g:Grp m T){x n:Nat}(hx:x<m)(h1: ∀k,1<=k->k<n->pw T x k≠0)(h0:pw T x n=0):
  ∀(d f t:Nat),t+d=n->1<=t->d<f->whl (cOf (m2 oNe (ae 2) (mC (.int 0)))) (ba (bC 2 (m2 oIx (m2 oIx (ae 0) (ae 2)) (ae 1))) (qR 3 (mC (.int 1)))) f [some (tab m T),some (.int x),some (.int (pw T x t)),some (.int t)] S=some (.nx,[some (tab m T),some (.int x),some (.int (0:Nat)),some (.int n)],S)
 | 0,0,t,h2,h3,h4=>by omega
 | 0,f+1,t,h2,h3,h4=>by
   have:t=n:=by omega
   subst this
   have ht:cOf (m2 oNe (ae 2) (mC (.int 0))) [some (tab m T),some (.int x),some (.int (pw T x t)),some (.int t)] S=some (!decide (pw T x t=0),S):=of_eq (zk (y:=0) (var_eq rfl) c_i)
   unfold whl
   rw[ht,h0]
   rfl
 | d+1,0,t,h2,h3,h4=>by omega
 | d+1,f+1,t,h2,h3,h4=>by
   have ht:cOf (m2 oNe (ae 2) (mC (.int 0))) [some (tab m T),some (.int x),some (.int (pw T x t)),some (.int t)] S=some (!decide (pw T x t=0),S):=of_eq (zk (y:=0) (var_eq rfl) c_i)
   unfold whl
   rw[ht]
   have hne:=h1 t h3 (by omega)
   simp only[aH,decide_eq_false hne,Bool.not_false,if_true]
   have eb:ba (bC 2 (m2 oIx (m2 oIx (ae 0) (ae 2)) (ae 1))) (qR 3 (mC (.int 1))) [some (tab m T),some (.int x),some (.int (pw T x t)),some (.int t)] S=some (.nx,[some (tab m T),some (.int x),some (.int (pw T x (t+1))),some (.int (t+1:Nat))],S):=by
    refine(aV (bT (iY hx (iG (eS g hx t) (var_eq rfl) (var_eq rfl)) (var_eq rfl)))).trans ?_
    simp[qR,mC,aH,pw]
   rw[eb]
   exact pH g hx h1 h0 d f (t+1) (by omega) (by omega) (by omega)
theorem xK{m:Nat}{T:Nat->Nat->Nat}{S:Sto}(g:Grp m T){x n:Nat}(hx:x<m)(hn:1<=n)(hm:n<1000)(h1: ∀k,1<=k->k<n->pw T x k≠0)(h0:pw T x n=0):de [tab m T,.int x] S=some (.int n,S):=by
 have hp1:pw T x 1=x:=g.l0 x hx
 have e:=pH (S:=S) g hx h1 h0 (n - 1) fuel 1 (by omega) (aq _) (by unfold fuel;omega)
 rw[hp1]at e
 exact bW (ρ:= [some (tab m T),some (.int x),some (.int (0:Nat)),some (.int n)]) rfl (show nM [some (tab m T),some (.int x),none,none] S=_ from(aV (bT (var_eq rfl))).trans ((aV (bT rfl)).trans ((aV e).trans (bV (var_eq rfl)))))
end
section
open _L _G
section
variable {m:Nat}{T:Nat->Nat->Nat}{st:List Nat}
theorem Da(g:Grp m T){hs:List Nat}(hl: ∀x∈hs,x<m){x:Nat}(r:Rch T hs x):x<m:=by
 induction r with
 | zero=>exact g.pos
 | step _ hy ih=>exact g.cl _ _ ih (hl _ hy)
theorem Rch.mul(g:Grp m T)(hs:Lt m st){x y:Nat}(a:Rch T st x)(b:Rch T st y):Rch T st (T x y):=by
 have hx:=Da g hs a
 induction b with
 | zero=>rw[g.r0 x hx];exact a
 | step r hz ih=>
   rw[<- g.as _ _ _ hx (Da g hs r) (hs _ hz)]
   exact .step ih hz
theorem Rch.pow(g:Grp m T)(hs:Lt m st){s:Nat}(h:s∈st): ∀k,Rch T st (pw T s k)
 | 0 => .zero
 | k+1 => .step (Rch.pow g hs h k) h
theorem cover: ∀{m:Nat}{l:List Nat},(∀x,x<m->x∈l)->l.length=m->l.Perm (aE m)
 | 0,l,_,h=>by
   have:l = []:=eV.mp h
   rw[this];exact .refl _
 | m+1,l,h,hl=>by
   have hm:=h m (bF m)
   have p:=List.perm_cons_erase hm
   have ih:=cover (m:=m) (l:=l.erase m) (λx hx=>by
    rcases aO.mp (p.mem_iff.mp (h x (by omega))) with e |e
    ·omega
    ·exact e) (by rw[AD hm];omega)
   rw[cZ]
   exact p.trans ((ih.cons m).trans (List.perm_append_singleton m _).symm)
theorem Ah(g:Grp m T)(pl:Pln m T){p:List Nat}{s:Nat}(hp:Lt m p)(hs:s<m){j x:Nat}(hx:x∈plc T p):x∈plc T (thr m T p s j):=by
 rw[(kC g pl hp hs j).2]
 exact cN.mpr ⟨0,aI.mpr (by omega),gJ.mpr ⟨x,hx,(g.l0 x (jJ g hp x hx)).symm⟩⟩
theorem Dc(g:Grp m T){s:Nat}(hs:s<m):pw T s 1=s:=g.l0 s hs
theorem EG(g:Grp m T)(pl:Pln m T){p:List Nat}{s:Nat}(hp:Lt m p)(hs:s<m):s∈plc T (thr m T p s (tkn m T s (plc T p) - 1)):=by
 obtain⟨n1,n2,n3,n4⟩:=j7 (P:=plc T p) g hs iw
 generalize tkn m T s (plc T p)=n at n1 n2 n3 n4
 by_cases e:n=1
 ·subst e
  rw[Dc g hs]at n3
  exact Ah g pl hp hs n3
 ·rw[(kC g pl hp hs _).2]
  exact cN.mpr ⟨1,aI.mpr (by omega),gJ.mpr ⟨0,iw,by rw[Dc g hs,g.r0 s hs]⟩⟩
theorem zV{p:List Nat}{s:Nat}: ∀j,∃r,thr m T p s j=p++r
 | 0=>⟨[],by simp[thr]⟩
 | j+1=>by
   obtain⟨r,e⟩:=zV (p:=p) (s:=s) j
   exact⟨r++([s]++(if j % 2=0 then bk m T p else p)),by unfold thr;rw[e];simp⟩
theorem zj{E:Nat->Prop}(hE: ∀x,E x->E (unT m T x)){p:List Nat}{s:Nat}(hp: ∀x∈p,E x)(hs:E s): ∀j,∀x∈thr m T p s j,E x
 | 0=>hp
 | j+1=>by
   intro x hx
   unfold thr at hx
   rcases be.mp hx with hx |hx
   ·rcases be.mp hx with hx |hx
    ·exact zj hE hp hs j x hx
    ·rw[aQ.mp hx];exact hs
   ·split at hx
    ·unfold bk at hx
     obtain⟨y,hy,rfl⟩:=aS.mp hx
     exact hE y (hp y (d6.mp hy))
    ·exact hp x hx
theorem zA: ∀{a b p:List Nat},snk m T p (a++b)=snk m T (snk m T p a) b
 | [],b,p=>rfl
 | s::a,b,p=>zA (a:=a)
theorem Am: ∀{a p:List Nat},∃r,snk m T p a=p++r
 | [],p=>⟨[],by simp[snk]⟩
 | s::a,p=>by
   obtain⟨r,e⟩:=Am (a:=a) (p:=thr m T p s (tkn m T s (plc T p) - 1))
   obtain⟨q,e2⟩:=zV (m:=m) (T:=T) (p:=p) (s:=s) (tkn m T s (plc T p) - 1)
   exact⟨q++r,by show snk m T (thr m T p s (tkn m T s (plc T p) - 1)) a=_;rw[e,<- aW,<- e2]⟩
theorem zP(g:Grp m T)(pl:Pln m T): ∀{a p:List Nat},Lt m a->Lt m p -> ∀{x:Nat},x∈plc T p->x∈plc T (snk m T p a)
 | [],p,_,_,x,hx=>hx
 | s::a,p,ha,hp,x,hx=>zP g pl (a:=a) (λx hx=>ha x (aC _ hx)) (lQ g hp (ha s (by simp)) _) (Ah g pl hp (ha s (by simp)) hx)
theorem zq(g:Grp m T)(pl:Pln m T): ∀{a p:List Nat},Lt m a->Lt m p -> ∀{s:Nat},s∈a->s∈plc T (snk m T p a)
 | t::a,p,ha,hp,s,hs=>by
   have ht:=ha t (by simp)
   have ha':Lt m a:=λx hx=>ha x (aC _ hx)
   rcases aO.mp hs with e |hs
   ·rw[e];exact zP g pl (a:=a) ha' (lQ g hp ht _) (EG g pl hp ht)
   ·exact zq g pl (a:=a) ha' (lQ g hp ht _) hs
theorem zu(g:Grp m T)(pl:Pln m T)(hst:Lt m st): ∀{a p:List Nat},(∀s∈a,s∈st)->Lt m p->(∀x∈plc T p,Rch T st x) -> ∀x∈plc T (snk m T p a),Rch T st x
 | [],p,_,_,h=>h
 | s::a,p,ha,hp,h=>by
   have hs:=ha s (by simp)
   refine zu g pl hst (a:=a) (λx hx=>ha x (aC _ hx)) (lQ g hp (hst s hs) _) λx hx =>?_
   rw[(kC g pl hp (hst s hs) _).2]at hx
   obtain⟨i,_,hx⟩:=cN.mp hx
   obtain⟨y,hy,rfl⟩:=gJ.mp hx
   exact(Rch.pow g hst hs i).mul g hst (h y hy)
theorem B2{E:Nat->Prop}(hE: ∀x,E x->E (unT m T x)): ∀{a p:List Nat},(∀s∈a,E s)->(∀x∈p,E x) -> ∀x∈snk m T p a,E x
 | [],p,_,h=>h
 | s::a,p,ha,h=>B2 hE (a:=a) (λx hx=>ha x (aC _ hx)) (zj hE h (ha s (by simp)) _)
theorem zE(g:Grp m T)(pl:Pln m T)(hst:Lt m st){x:Nat}:x∈plc T (snk m T [] st)↔Rch T st x:=by
 constructor
 ·exact zu g pl hst (λs hs=>hs) (λx hx=>by simp at hx) (λx hx=>by
   have:x=0:=by simpa [plc,bH]using hx
   rw[this];exact .zero) x
 ·intro r
  have sn:Sn m T (snk m T [] st):=Sn.snk g pl hst (Sn.start g)
  induction r with
  | zero=>exact iw
  | step _ hy ih=>exact sn.cl _ ih _ (zq g pl hst (λx hx=>by simp at hx) hy)
theorem wq{w:List Nat}{x:Nat}:pre T (w++[x])=plc T w:=by
 have h1:=lL (T:=T) (w:=w) (x:=x)
 rw[iQ]at h1
 exact(List.append_inj' h1 rfl).1
theorem Cy(g:Grp m T){w:List Nat}(hw:Lt m w)(h:Way m T w):Rnd m T (w++[unT m T (bH T w)]):=
 ⟨by rw[gZ,yt g (lW g hw)],by rw[wq];exact h⟩
theorem oG{a:Nat}: ∀j,plc T (aw j a)=(aE (j+1)).map (pw T a)
 | 0=>rfl
 | j+1=>by rw[oZ,lL,oG j,mv,cZ (n:=j+1),b5];rfl
theorem zW{s:Nat}: ∀j,thr m T [] s j=aw j s
 | 0=>rfl
 | j+1=>by
   have:(if j % 2=0 then bk m T [] else [])=([]:List Nat):=by split <;> rfl
   unfold thr
   rw[this,zW j,cD,oZ]
theorem Ip(g:Grp m T){s:Nat}(hs:s<m):tf T s (tkn m T s [0]):=by
 obtain⟨n1,_,n3,n4⟩:=j7 (P:= [0]) g hs (by simp)
 exact⟨n1,by simpa using n3,λk k1 k2 z=>n4 k k1 k2 (by rw[z];simp)⟩
theorem uO(g:Grp m T){s:Nat}(hs:s<m):snk m T [] [s]=aw (od T s - 1) s:=by
 show thr m T [] s (tkn m T s [0] - 1)=_
 rw[zW,LN g hs (Ip g hs)]
theorem Nv(g:Grp m T){s:Nat}(hs:s<m)(h0:s≠0):2<=od T s:=by
 obtain⟨⟨a,b,_⟩,_⟩:=uf g hs
 apply cJ
 intro z
 have:od T s=1:=by omega
 rw[this,Dc g hs]at b
 exact h0 b
theorem MJ(g:Grp m T){s:Nat}(hs:s<m):unT m T (pw T s (od T s - 1))=s:=by
 obtain⟨⟨a,b,_⟩,_⟩:=uf g hs
 refine(wO g (eS g hs _) hs ?_).symm
 show pw T s (od T s - 1+1)=0
 rw[show od T s - 1+1=od T s by omega];exact b
theorem comb(g:Grp m T)(pl:Pln m T){a b n k:Nat}(ha:a<m)(hb:b<m)(hn:tf T a n)(he:n % 2=0)(hk:2<=k)(hmk:n*k=m)(all: ∀x,x<m -> ∃i j,i<n/\j<k/\x=T (pw T b j) (pw T a i)):
  ∃w,Rnd m T w/\w.length=m /\ ∀x∈w,x=a\/x=b\/x=unT m T a\/x=unT m T b:=by
 have n1:=hn.1
 have hua:=jF g ha
 have hub:=jF g hb
 have lp:Lt m (aw (k - 2) b):=λx hx=>by rw[cX hx];exact hb
 have lq:Lt m (aw (n - 1) (unT m T a)):=λx hx=>by rw[cX hx];exact hua
 obtain⟨c1,c2⟩:=kC g pl lp ha (n - 1)
 rw[if_neg (by omega),g.r0 _ (eS g ha _)]at c1
 rw[show n - 1+1=n by omega]at c2
 have lt1:=lQ g lp ha (n - 1)
 have l1:=oP (m:=m) (T:=T) (p:=aw (k - 2) b) (s:=a) (n - 1)
 rw[show n - 1+1=n by omega,ek,show k - 2+1=k - 1 by omega]at l1
 have by1:=zj (m:=m) (T:=T) (E:=λx=>x<m/\(x=a\/x=b\/x=unT m T a\/x=unT m T b)) (λx ⟨h1,h2⟩=>⟨jF g h1,by
  rcases h2 with e |e |e |e
  ·rw[e];exact .inr (.inr (.inl rfl))
  ·rw[e];exact .inr (.inr (.inr rfl))
  ·rw[e,z3 g ha];exact .inl rfl
  ·rw[e,z3 g hb];exact .inr (.inl rfl)⟩) (p:=aw (k - 2) b) (s:=a) (λx hx=>by rw[cX hx];exact⟨hb,.inr (.inl rfl)⟩) ⟨ha,.inl rfl⟩ (n - 1)
 generalize thr m T (aw (k - 2) b) a (n - 1)=th at c1 c2 lt1 l1 by1
 have lA:Lt m ([]++[b]++th):=Lt.app (Lt.app (λx hx=>by simp at hx) (Lt.one hb)) lt1
 have pA:=qF g (a:= []) (q:=th) (λx hx=>by simp at hx) hb lt1
 have cA:bH T ([]++[b]++th)=T b (pw T a (n - 1)):=by
  show bH T (b::th)=_
  rw[m5 g hb lt1,c1]
 have hpn:=eS g ha (n - 1)
 have hbase:T (bH T ([]++[b]++th)) (unT m T b)=pw T a (n - 1):=by rw[cA,pl _ _ hb hpn,g.as _ _ _ hpn hb hub,yt g hb,g.r0 _ hpn]
 have lB:Lt m ([]++[b]++th++[unT m T b]):=Lt.app lA (Lt.one hub)
 have pw':=qF g lA hub lq
 rw[hbase,oG]at pw'
 have cw:bH T ([]++[b]++th++[unT m T b]++aw (n - 1) (unT m T a))=0:=by
  rw[lU g lB lq,gZ,hbase,mv,Ck g ha]
 have hmul:n*(k - 1)+n=n*k:=by
  rw[show n*k=n*(k - 1+1) by rw[show k - 1+1=k by omega],Nat.mul_succ]
 have hl:([]++[b]++th++[unT m T b]++aw (n - 1) (unT m T a)).length=m:=by
  simp only[bj,cu,eJ,ek]
  omega
 have hcov: ∀x,x<m->x∈plc T ([]++[b]++th++[unT m T b]++aw (n - 1) (unT m T a)):=by
  intro x hx
  obtain⟨i,j,hi,hj,rfl⟩:=all x hx
  rw[pw']
  have hai:=eS g ha i
  by_cases j0:j=0
  ·subst j0
   refine aR _ (aS.mpr ⟨pw T (unT m T a) (n - 1 - i),aS.mpr ⟨_,aI.mpr (by omega),rfl⟩,?_⟩)
   show _=T 0 (pw T a i)
   have h1:=eS g ha (n - 1 - i)
   rw[g.l0 _ hai,show n - 1=i+(n - 1 - i) by omega,kA g ha,show i+(n - 1 - i) - i=n - 1 - i by omega,g.as _ _ _ hai h1 (eS g hua _),Ck g ha,g.r0 _ hai]
  ·refine bo _ ?_
   rw[pA,c2]
   have hbj:=eS g hb (j - 1)
   refine aR _ (aS.mpr ⟨T (pw T a i) (pw T b (j - 1)),cN.mpr ⟨i,aI.mpr hi,gJ.mpr ⟨_,?_,rfl⟩⟩,?_⟩)
   ·rw[oG]
    exact aS.mpr ⟨j - 1,aI.mpr (by omega),rfl⟩
   ·show T (T 0 b) _=_
    have:pw T b j=T b (pw T b (j - 1)):=by
     have:=kA g hb 1 (j - 1)
     rw[show 1+(j - 1)=j by omega,Dc g hb]at this
     exact this
    rw[g.l0 b hb,this,g.as _ _ _ hb hbj hai,pl _ _ hbj hai]
 refine⟨_,⟨cw,All.of (cover (λx hx =>?_) (by rw[zD,hl]))⟩,hl,λx hx =>?_⟩
 ·have:=hcov x hx
  rw[iQ]at this
  rcases be.mp this with h |h
  ·exact h
  ·rw[aQ.mp h,cw]
   exact aS.mpr ⟨0,aI.mpr (by rw[hl];exact g.pos),rfl⟩
 ·rcases be.mp hx with hx |hx
  ·rcases be.mp hx with hx |hx
   ·rcases be.mp hx with hx |hx
    ·have:x=b:=by simpa using hx
     exact .inr (.inl this)
    ·exact(by1 x hx).2
   ·exact .inr (.inr (.inr (aQ.mp hx)))
  ·exact .inr (.inr (.inl (cX hx)))
theorem Ir{a b:List Nat}:(plc T (a++b)).take (a.length+1)=plc T a:=by
 unfold plc
 rw[<- AE,List.take_range,xV (by simp)]
 refine bt λk hk =>?_
 have:=aI.mp hk
 rw[fg (by omega)]
theorem we{L:Nod->List (List Nat)}{z:List Nat}: ∀(w p:List Nat),(∀x∈w,x∈st)->(plc T (p++w)).Nodup->z∈L (p++w,plc T (p++w))->z∈uZ T st L w.length (p,plc T p)
 | [],p,_,_,h=>by rw[cD]at h;exact h
 | s::w,p,hs,hn,h=>by
   have e:p++s::w=p++[s]++w:=by simp
   rw[e]at hn h
   have ih:=we (L:=L) (z:=z) w (p++[s]) (λx hx=>hs x (aC _ hx)) hn h
   have hn1:(plc T (p++[s])).Nodup:=by
    have:=Ir (T:=T) (a:=p++[s]) (b:=w)
    rw[<- this]
    exact List.Pairwise.sublist (su _ _) hn
   rw[lL,fQ]at hn1
   show z∈(kids T st (p,plc T p)).flatMap (uZ T st L w.length)
   refine cN.mpr ⟨_,aS.mpr ⟨s,eI.mpr ⟨hs s (by simp),?_⟩,rfl⟩,?_⟩
   ·show(!decide (T (eR (plc T p)) s∈plc T p))=true
    rw[ot]
    have:T (bH T p) s∉plc T p:=λz=>hn1.2.2 _ z _ (by simp) rfl
    simp[this]
   ·show z∈uZ T st L w.length (p++[s],plc T p++[T (eR (plc T p)) s])
    rw[ot,<- lL];exact ih
theorem DZ{α:Type}{l:List α}(h:0<l.length): ∃a b,l=a++[b]:=ow (List.length_pos_iff.mp h)
theorem vW{w:List Nat}(g:Grp m T)(h:Rnd m T w)(hl:w.length=m)(hs: ∀x∈w,x∈st):w∈uZ T st (HU T st) (m - 1) ([],[0]):=by
 obtain⟨v,x,rfl⟩:=DZ (l:=w) (by rw[hl];exact g.pos)
 have h1:v.length=m - 1:=by simp at hl;omega
 have h2:=h.home
 rw[gZ]at h2
 have h3:=h.all.nd
 rw[wq]at h3
 rw[<- h1]
 refine we v [] (λy hy=>hs y (bo _ hy)) h3 ?_
 refine aS.mpr ⟨x,eI.mpr ⟨hs x (by simp),?_⟩,rfl⟩
 show decide (T (eR (plc T v)) x=0)=true
 rw[ot,h2];rfl
end
end
section
open _L _G
theorem Dh{m:Nat}{T:Nat->Nat->Nat}{S:Sto}{st:List Nat}(g:Grp m T)(hm:m<=30)(pl:Pln m T)(hst:Lt m st): ∃S',eC [tab m T,.tup (ai st)] S=some (.tup (ai (snk m T [] st)),S')/\Ex S S':=Ko g hm pl hst
theorem NX{n most:Nat}{S:Sto}(h:lj n S)(h6:6<=most)(hm:most<100): ∃m T S',gq [.ref n,.int (most:Nat)] S=some (tab m T,S')/\Grp m T/\Pln m T/\m<=most/\Stp n S S':=LJ h h6 hm
theorem GD{n m most:Nat}{T:Nat->Nat->Nat}{S:Sto}(h:lj n S)(g:Grp m T)(hm:m<60)(hmo:0<most)(hmo2:most<60): ∃w S',ir [.ref n,tab m T,.int (most:Nat)] S=some (.tup (ai w),S')/\Stp n S S'/\(∀x∈w,x<m)/\w.length<=most/\w.length<60/\w.Nodup/\(∀x∈w,x≠0)/\(1<m->w≠[])/\srt w=w:=AL h g hm hmo hmo2
theorem Kc{m:Nat}{T:Nat->Nat->Nat}{S:Sto}(g:Grp m T){i:Nat}(hi:i<m):dB [tab m T,.int i] S=some (.int (unT m T i),S):=ku g hi
theorem Kn{m:Nat}{T:Nat->Nat->Nat}{S:Sto}{w:List Nat}(g:Grp m T)(hw:Lt m w)(hl:w.length<10000000): ∃S',fT [tab m T,.tup (ai w)] S=some (.tup (ai (plc T w)),S')/\Ex S S':=Ap g hw hl
theorem NT{m:Nat}{T:Nat->Nat->Nat}{S:Sto}{st:List Nat}(g:Grp m T)(hs:Lt m st)(hl:st.length<64): ∃S',fo [tab m T,.tup (ai st)] S=some (.tup (ai (srt (st.map (unT m T)))),S')/\Ex S S':=KF g hs hl
theorem Kf{m:Nat}{T:Nat->Nat->Nat}{S:Sto}{ths:List Nat}(g:Grp m T)(hm:m<64)(ht: ∀z∈ths,z<m): ∃ks S',jd [tab m T,.tup (ai ths)] S=some (.tup (ai (srt ks)),S')/\Ex S S'/\Dfs m T ths ks λ_=>False:=Kk g hm ht
theorem Nn{m:Nat}{T:Nat->Nat->Nat}{S:Sto}{st w:List Nat}(g:Grp m T)(hm:m<1000)(hw:Lt m w)(hl:w.length<63)(hs: ∀x∈w,x∈st)(h:Way m T w): ∃S',lH [tab m T,.tup (ai st),.tup (ai w)] S=some (.bl true,S')/\Ex S S':=NI g hm hw hl hs h
theorem NA{m:Nat}{T:Nat->Nat->Nat}{S:Sto}{st w:List Nat}(g:Grp m T)(hm:m<1000)(hw:Lt m w)(hl:w.length<63)(h2:2<=w.length)(hs: ∀x∈w,x∈st)(h:Rnd m T w): ∃S',gY [tab m T,.tup (ai st),.tup (ai w)] S=some (.bl true,S')/\Ex S S':=Nx g hm hw hl h2 hs h
theorem NU{m:Nat}{T:Nat->Nat->Nat}{w:List Nat}{S:Sto}(g:Grp m T)(hw: ∀x∈w,x<m):oi [tab m T,.tup (ai w)] S=some (.int (bH T w),S):=E6 g hw
section
variable {m:Nat}{T:Nat->Nat->Nat}{S:Sto}
noncomputable def onU:Option Nat->U
 | none => .non
 | some x => .int (x:Nat)
noncomputable def hmO(m:Nat)(T:Nat->Nat->Nat)(st:List Nat):Option Nat:=if snk m T [] st = [] then none else if unT m T (bH T (snk m T [] st))∈st\/bH T (snk m T [] st)∈st then some (unT m T (bH T (snk m T [] st))) else none
theorem yq{st:List Nat}(g:Grp m T)(hm:m<=30)(pl:Pln m T)(hst:Lt m st): ∃S',iI [tab m T,.tup (ai st)] S=some (onU (hmO m T st),S')/\Ex S S':=by
 obtain⟨S1,e1,x1⟩:=Dh (S:=S) g hm pl hst
 have sn:Sn m T (snk m T [] st):=Sn.snk g pl hst (Sn.start g)
 unfold hmO
 generalize snk m T [] st=p at e1 sn
 have hl:=sn.len g
 obtain⟨S2,e2,x2⟩:=Kn (S:=S1) g sn.lt (by omega)
 have hc:=lW g sn.lt
 have f1:bC 2 (m2 oIx (mFn fT (aa (ae 0) (aa (mFn eC (aa (ae 0) (aa (ae 1) ah))) ah))) (m1 iS (mC (.int 1)))) [some (tab m T),some (.tup (ai st)),none,none] S=some (.nx,[some (tab m T),some (.tup (ai st)),some (.int (bH T p:Nat)),none],S2):=bT (yJ (bO (f:=fT) (a:=ae 0) (var_eq rfl) (bO (f:=eC) (a:=ae 0) (b:=ae 1) (var_eq rfl) (var_eq rfl) e1) e2) HF (xo trivial))
 have ec:=of_eq (rZ (ρ:= [some (tab m T),some (.tup (ai st)),some (.int (bH T p:Nat)),none]) (S:=S2) (a:=ae 2) (b:=mC (.int 0)) (x:=bH T p) (y:=0) (var_eq rfl) c_i)
 by_cases hp:p = []
 ·rw[if_pos hp]
  have h0:bH T p=0:=by rw[hp];rfl
  rw[decide_eq_true h0]at ec
  refine⟨S2,bW (ρ:= [some (tab m T),some (.tup (ai st)),some (.int (bH T p:Nat)),none]) rfl ?_,x1.trans x2⟩
  show va [some (tab m T),some (.tup (ai st)),none,none] S=_
  exact(aV f1).trans (vD ((p9 ec).trans (bV rfl)))
 ·rw[if_neg hp]
  have h0:=sn.last hp
  rw[decide_eq_false h0]at ec
  have f2:=bT (i:=3) (bO (f:=dB) (ρ:= [some (tab m T),some (.tup (ai st)),some (.int (bH T p:Nat)),none]) (S:=S2) (a:=ae 0) (b:=ae 2) (var_eq rfl) (var_eq rfl) (Kc g hc))
  have i1:=FP (ρ:= [some (tab m T),some (.tup (ai st)),some (.int (bH T p:Nat)),some (.int (unT m T (bH T p):Nat))]) (S:=S2) (a:=ae 3) (b:=ae 1) (x:=unT m T (bH T p)) (l:=st) (var_eq rfl) (var_eq rfl)
  have i2:=FP (ρ:= [some (tab m T),some (.tup (ai st)),some (.int (bH T p:Nat)),some (.int (unT m T (bH T p):Nat))]) (S:=S2) (a:=ae 2) (b:=ae 1) (x:=bH T p) (l:=st) (var_eq rfl) (var_eq rfl)
  have io:=or_eq i1 i2 (λ_=>rfl)
  have f3:yQ (cOr (cOf (m2 oIn (ae 3) (ae 1))) (cOf (m2 oIn (ae 2) (ae 1)))) (ae 3) (mC .non) [some (tab m T),some (.tup (ai st)),some (.int (bH T p:Nat)),some (.int (unT m T (bH T p):Nat))] S2=some (onU (if unT m T (bH T p)∈st\/bH T p∈st then some (unT m T (bH T p)) else none),S2):=by
   simp only[yQ,io,aH]
   by_cases hb:unT m T (bH T p)∈st\/bH T p∈st
   ·rw[if_pos hb,if_pos (by simpa using hb)]
    exact var_eq rfl
   ·rw[if_neg hb,if_neg (by simpa using hb)]
    rfl
  refine⟨S2,bW (ρ:= [some (tab m T),some (.tup (ai st)),some (.int (bH T p:Nat)),some (.int (unT m T (bH T p):Nat))]) rfl ?_,x1.trans x2⟩
  show va [some (tab m T),some (.tup (ai st)),none,none] S=_
  exact(aV f1).trans ((aV ((gG ec).trans rfl)).trans ((aV f2).trans (bV f3)))
theorem Nt{ρ:Rho}{S S1:Sto}{a:ME}{l:List Nat}(ha:a ρ S=some (.tup (ai l),S1))(h1:l.length<4000):mFn bLS (aa a ah) ρ S=some (.int ((ddN l).length:Nat),S1):=by
 refine iM ha ?_
 have ok:Gm (dJ l).length:=by unfold dJ;rw[aA];exact h1
 simp only[bLS,dz,ar,i8]
 rw[if_pos ok,<- j8]
 simp[dJ]
noncomputable def evS(m:Nat)(T:Nat->Nat->Nat)(st:List Nat):List Nat:=srt (ddN (st++srt (st.map (unT m T))))
theorem jc{st:List Nat}{x:Nat}:x∈evS m T st↔x∈st \/ ∃y∈st,unT m T y=x:=by
 unfold evS
 rw[mR,zH,be,mR,aS]
theorem zK{st:List Nat}(g:Grp m T)(hs:Lt m st):Lt m (evS m T st):=λx hx=>by
 rcases jc.mp hx with h | ⟨y,hy,rfl⟩
 ·exact hs x h
 ·exact jF g (hs y hy)
theorem Cc{st:List Nat}(g:Grp m T)(hs:Lt m st):(evS m T st).length<=m:=
 mn m _ ((jW _).nodup_iff.mpr (CC _)) (zK g hs)
theorem Nc{st:List Nat}(g:Grp m T)(hs:Lt m st){x:Nat}(h:x∈evS m T st):unT m T x∈evS m T st:=by
 rcases jc.mp h with h | ⟨y,hy,rfl⟩
 ·exact jc.mpr (.inr ⟨x,h,rfl⟩)
 ·rw[z3 g (hs y hy)];exact jc.mpr (.inl hy)
theorem Hf{st:List Nat}(g:Grp m T)(hm:m<=30)(hs:Lt m st)(hl:st.length<60): ∃S',dj [tab m T,.tup (ai st)] S=some (.tup (ai (evS m T st)),S')/\Ex S S':=by
 obtain⟨S1,e1,x1⟩:=NT (S:=S) g hs (by omega)
 have f1:=zT (ρ:= [some (tab m T),some (.tup (ai st))]) (S:=S) (a:=ae 1) (b:=mFn fo (aa (ae 0) (aa (ae 1) ah))) (var_eq rfl) (bO (f:=fo) (var_eq rfl) (var_eq rfl) e1) (by rw[kl,aA];omega)
 have h2:(ddN (st++srt (st.map (unT m T)))).length<64:=by
  have:=Cc g hs
  unfold evS at this
  rw[kl]at this
  omega
 have f2:=dS (N2 f1 (by rw[bj,kl,aA];omega) h2)
 exact⟨_,bW (ρ:= [some (tab m T),some (.tup (ai st))]) rfl (bV f2),x1.trans (Ex.push _ _)⟩
theorem Ik{st:List Nat}(g:Grp m T)(hm:m<=30)(pl:Pln m T)(hs:Lt m st): ∃S',eG [tab m T,.tup (ai st)] S=some (.bl (decide ((plc T (snk m T [] st)).length=m)),S')/\Ex S S':=by
 obtain⟨ks,S1,e1,x1,d⟩:=Kf (S:=S) g (by omega) hs
 have sn:Sn m T (snk m T [] st):=Sn.snk g pl hs (Sn.start g)
 have hk:(srt ks).length=(plc T (snk m T [] st)).length:=by
  rw[kl]
  exact(vb d.nd sn.nd λx=>by rw[d.all,zE g pl hs]).length_eq
 refine⟨S1,bW (ρ:= [some (tab m T),some (.tup (ai st))]) rfl (bV ?_),x1⟩
 have:=rZ (ρ:= [some (tab m T),some (.tup (ai st))]) (S:=S) (x:=(srt ks).length) (y:=m) (a:=mFn bK (aa (mFn jd (aa (ae 0) (aa (ae 1) ah))) ah)) (b:=mFn bK (aa (ae 0) ah)) (by rw[nD (bO (f:=jd) (var_eq rfl) (var_eq rfl) e1),bU]) (len_tab (var_eq rfl))
 rw[hk]at this
 exact this
theorem FW{ρ:Rho}{S S1:Sto}{a:ME}(h:a ρ S=some (.bl true,S1)):cOf (m2 gC a (mC (.bl true))) ρ S=some (false,S1):=of_eq (op2 h rfl rfl)
theorem Nr{ρ:Rho}{S S1:Sto}{a:ME}(h:a ρ S=some (.bl true,S1)):m2 oIs a (mC (.bl true)) ρ S=some (.bl true,S1):=op2 h rfl rfl
theorem Mb{ρ:Rho}{S S1 S2:Sto}{a b:ME}{x y:Bool}(ha:a ρ S=some (.bl x,S1))(hb:x=false->b ρ S1=some (.bl y,S2))(hf:x=true->S2=S1):mOr a b ρ S=some (.bl (x||y),S2):=by
 cases x with
 | true=>cases hf rfl;simp only[mOr,ha,aH];rfl
 | false=>simp only[mOr,ha,aH,hb rfl];rfl
noncomputable def NH:MS:=ba (sIf (cOf (m2 oNe (mFn eG (aa (ae 0) (aa (ae 1) ah))) (m2 oEq (mFn bK (aa (ae 3) ah)) (mFn bK (aa (ae 0) ah))))) (bB (mC (.bl false))) b7) (ba (sIf (cOr (nX (cOf (mFn eG (aa (ae 0) (aa (ae 1) ah))))) (cOf (m2 oGt (mFn bK (aa (ae 4) ah)) (mC (.int 5))))) (bB (mC (.bl true))) b7) (ba (bC 5 (mFn iI (aa (ae 0) (aa (ae 1) ah)))) (ba (sIf (cOf (m2 gC (mFn lH (aa (ae 0) (aa (ae 4) (aa (ae 2) ah)))) (mC (.bl true)))) (bB (mC (.bl false))) b7) (bB (mOr (m2 oIs (ae 5) (mC .non)) (m2 oIs (mFn gY (aa (ae 0) (aa (ae 4) (aa (m2 dq (ae 2) (dg (aa (ae 5) ah))) ah)))) (mC (.bl true))))))))
theorem Fx{st:List Nat}(g:Grp m T)(h2:2<=m)(hm:m<=30)(pl:Pln m T)(hst:Lt m st)(hsl:st.length<60): ∃ρ' S',NH [some (tab m T),some (.tup (ai st)),some (.tup (ai (snk m T [] st))),some (.tup (ai (plc T (snk m T [] st)))),some (.tup (ai (evS m T st))),none] S=some (.rt (.bl true),ρ',S')/\Ex S S':=by
 have sn:Sn m T (snk m T [] st):=Sn.snk g pl hst (Sn.start g)
 obtain⟨S1,e1,x1⟩:=Ik (S:=S) g hm pl hst
 obtain⟨S2,e2,x2⟩:=Ik (S:=S1) g hm pl hst
 have c1:=of_eq (LX (ρ:= [some (tab m T),some (.tup (ai st)),some (.tup (ai (snk m T [] st))),some (.tup (ai (plc T (snk m T [] st)))),some (.tup (ai (evS m T st))),none]) (bO (f:=eG) (a:=ae 0) (b:=ae 1) (var_eq rfl) (var_eq rfl) e1) (rZ (a:=mFn bK (aa (ae 3) ah)) (b:=mFn bK (aa (ae 0) ah)) (x:=(plc T (snk m T [] st)).length) (y:=m) (by rw[nD (var_eq rfl),bU]) (len_tab (var_eq rfl))))
 rw[beq_self_eq_true,du]at c1
 have c2:=not_eq (of_eq (bO (ρ:= [some (tab m T),some (.tup (ai st)),some (.tup (ai (snk m T [] st))),some (.tup (ai (plc T (snk m T [] st)))),some (.tup (ai (evS m T st))),none]) (f:=eG) (a:=ae 0) (b:=ae 1) (var_eq rfl) (var_eq rfl) e2))
 have c3:=of_eq (Nz (ρ:= [some (tab m T),some (.tup (ai st)),some (.tup (ai (snk m T [] st))),some (.tup (ai (plc T (snk m T [] st)))),some (.tup (ai (evS m T st))),none]) (S:=S2) (a:=mFn bK (aa (ae 4) ah)) (b:=mC (.int 5)) (x:=(evS m T st).length) (y:=5) (by rw[nD (var_eq rfl),bU]) c_i)
 have c4:=or_eq c2 c3 (λ_=>rfl)
 by_cases hstop:(!decide ((plc T (snk m T [] st)).length=m)||decide (5<(evS m T st).length))=true
 ·rw[hstop]at c4
  exact⟨_,S2,(aV ((gG c1).trans rfl)).trans (vD ((p9 c4).trans (bV rfl))),x1.trans x2⟩
 ·rw[Bool.eq_false_iff.mpr hstop]at c4
  have hr:(plc T (snk m T [] st)).length=m:=by
   apply cJ
   intro z
   simp[z]at hstop
  have way:Way m T (snk m T [] st):=⟨sn.nd,jJ g sn.lt,hr⟩
  have hby: ∀x∈snk m T [] st,x∈evS m T st:=B2 (E:=λx=>x∈evS m T st) (λx hx=>Nc g hst hx) (λs hs=>jc.mpr (.inl hs)) (λx hx=>by simp at hx)
  have hwl:=sn.len g
  obtain⟨S3,e3,x3⟩:=yq (S:=S2) g hm pl hst
  obtain⟨S4,e4,x4⟩:=Nn (S:=S3) (st:=evS m T st) g (by omega) sn.lt (by omega) hby way
  have f3:=bT (i:=5) (bO (f:=iI) (ρ:= [some (tab m T),some (.tup (ai st)),some (.tup (ai (snk m T [] st))),some (.tup (ai (plc T (snk m T [] st)))),some (.tup (ai (evS m T st))),none]) (S:=S2) (a:=ae 0) (b:=ae 1) (var_eq rfl) (var_eq rfl) e3)
  have c5:=FW (q0 (f:=lH) (ρ:= [some (tab m T),some (.tup (ai st)),some (.tup (ai (snk m T [] st))),some (.tup (ai (plc T (snk m T [] st)))),some (.tup (ai (evS m T st))),some (onU (hmO m T st))]) (S:=S3) (a:=ae 0) (b:=ae 4) (c:=ae 2) (var_eq rfl) (var_eq rfl) (var_eq rfl) e4)
  have fin: ∃S5,mOr (m2 oIs (ae 5) (mC .non)) (m2 oIs (mFn gY (aa (ae 0) (aa (ae 4) (aa (m2 dq (ae 2) (dg (aa (ae 5) ah))) ah)))) (mC (.bl true))) [some (tab m T),some (.tup (ai st)),some (.tup (ai (snk m T [] st))),some (.tup (ai (plc T (snk m T [] st)))),some (.tup (ai (evS m T st))),some (onU (hmO m T st))] S4=some (.bl true,S5)/\Ex S4 S5:=by
   cases hh:hmO m T st with
   | none=>exact⟨S4,Mb (x:=true) (y:=true) (op2 (f:=oIs) (var_eq rfl) rfl rfl) (λz=>by cases z) (λ_=>rfl),Ex.refl _⟩
   | some x=>
     have hx:x=unT m T (bH T (snk m T [] st))/\x∈evS m T st:=by
      unfold hmO at hh
      split at hh
      ·cases hh
      ·split at hh
       ·rename_i z
        cases hh
        refine⟨rfl,?_⟩
        rcases z with z |z
        ·exact jc.mpr (.inl z)
        ·exact jc.mpr (.inr ⟨_,z,rfl⟩)
       ·cases hh
     obtain⟨hx1,hx2⟩:=hx
     have lt2:Lt m (snk m T [] st++[x]):=Lt.app sn.lt (Lt.one (zK g hst x hx2))
     have hl2:(snk m T [] st++[x]).length=m:=by rw[ox]at hr;simpa using hr
     obtain⟨S5,e5,x5⟩:=NA (S:=S4) (st:=evS m T st) (w:=snk m T [] st++[x]) g (by omega) lt2 (by omega) (by omega) (λy hy=>by
      rcases be.mp hy with hy |hy
      ·exact hby y hy
      ·rw[aQ.mp hy];exact hx2) (by rw[hx1];exact Cy g sn.lt way)
     refine⟨S5,Mb (x:=false) (y:=true) (op2 (f:=oIs) (var_eq rfl) rfl rfl) (λ_=>Nr (q0 (f:=gY) (var_eq rfl) (var_eq rfl) (zT (x:=snk m T [] st) (y:= [x]) (var_eq rfl) (wF (var_eq rfl)) (by simp;omega)) e5)) (λz=>by cases z),x5⟩
  obtain⟨S5,e5,x5⟩:=fin
  exact⟨_,S5,(aV ((gG c1).trans rfl)).trans ((aV ((gG c4).trans rfl)).trans ((aV f3).trans ((aV ((gG c5).trans rfl)).trans (bV e5)))),(((x1.trans x2).trans x3).trans x4).trans x5⟩
theorem Fh{st:List Nat}(g:Grp m T)(h2:2<=m)(hm:m<=30)(pl:Pln m T)(hst:Lt m st)(hsl:st.length<60)(hne:st≠[]): ∃S',ic [tab m T,.tup (ai st)] S=some (.bl true,S')/\Ex S S':=by
 have sn:Sn m T (snk m T [] st):=Sn.snk g pl hst (Sn.start g)
 have hwl:=sn.len g
 obtain⟨S1,e1,x1⟩:=Dh (S:=S) g hm pl hst
 obtain⟨S2,e2,x2⟩:=Kn (S:=S1) g sn.lt (by omega)
 have hpl:(plc T (snk m T [] st)).length<64:=by rw[ox];omega
 have f1:=bT (i:=2) (bO (f:=eC) (ρ:= [some (tab m T),some (.tup (ai st)),none,none,none,none]) (S:=S) (a:=ae 0) (b:=ae 1) (var_eq rfl) (var_eq rfl) e1)
 have f2:=bT (i:=3) (bO (f:=fT) (ρ:= [some (tab m T),some (.tup (ai st)),some (.tup (ai (snk m T [] st))),none,none,none]) (S:=S1) (a:=ae 0) (b:=ae 2) (var_eq rfl) (var_eq rfl) e2)
 have c1:=of_eq (zk (ρ:= [some (tab m T),some (.tup (ai st)),some (.tup (ai (snk m T [] st))),some (.tup (ai (plc T (snk m T [] st)))),none,none]) (S:=S2) (a:=mFn bLS (aa (ae 3) ah)) (b:=mFn bK (aa (ae 3) ah)) (x:=(ddN (plc T (snk m T [] st))).length) (y:=(plc T (snk m T [] st)).length) (Nt (var_eq rfl) (by omega)) (by rw[nD (var_eq rfl),bU]))
 have hdd:(ddN (plc T (snk m T [] st))).length=(plc T (snk m T [] st)).length:=(vb (CC _) sn.nd λx=>zH).length_eq
 rw[decide_eq_true hdd,du]at c1
 have f3:=dS (xy (ρ:= [some (tab m T),some (.tup (ai st)),some (.tup (ai (snk m T [] st))),some (.tup (ai (plc T (snk m T [] st)))),none,none]) (S:=S2) (a:=ae 3) (l:=plc T (snk m T [] st)) (var_eq rfl) hpl)
 obtain⟨ks,S4,e4,x4,d⟩:=Kf (S:=S2++[.lst (ai (srt (plc T (snk m T [] st))))]) g (by omega) hst
 have c2:=of_eq (yp f3 (bO (f:=jd) (a:=ae 0) (b:=ae 1) (var_eq rfl) (var_eq rfl) e4))
 have hsrt:srt (plc T (snk m T [] st))=srt ks:=pk (vb sn.nd d.nd λx=>by rw[d.all,zE g pl hst])
 rw[decide_eq_true hsrt,du]at c2
 have c3:=_W.or_false c1 c2
 obtain⟨a,y,hay⟩:=ow hne
 have ha:Lt m a:=λx hx=>hst x (by rw[hay];exact bo _ hx)
 obtain⟨S5,e5,x5⟩:=Dh (S:=S4) g hm pl ha
 obtain⟨S6,e6,x6⟩:=Dh (S:=S5) g hm pl ha
 have sl: ∀S',mSl (ae 1) none (some (m1 iS (mC (.int 1)))) [some (tab m T),some (.tup (ai st)),some (.tup (ai (snk m T [] st))),some (.tup (ai (plc T (snk m T [] st)))),none,none] S'=some (.tup (ai a),S'):=λS'=>z8 (x:=y) (var_eq (by rw[<- hay];rfl))
 have k5:=bO (f:=eC) (a:=ae 0) (var_eq rfl) (sl S4) e5
 have k6:mFn bK (aa (mFn eC (aa (ae 0) (aa (mSl (ae 1) none (some (m1 iS (mC (.int 1))))) ah))) ah) [some (tab m T),some (.tup (ai st)),some (.tup (ai (snk m T [] st))),some (.tup (ai (plc T (snk m T [] st)))),none,none] S5=some (.int ((snk m T [] a).length:Nat),S6):=by
  rw[nD (bO (f:=eC) (a:=ae 0) (var_eq rfl) (sl S5) e6),bU]
 have k7:mSl (ae 2) none (some (mFn bK (aa (mFn eC (aa (ae 0) (aa (mSl (ae 1) none (some (m1 iS (mC (.int 1))))) ah))) ah))) [some (tab m T),some (.tup (ai st)),some (.tup (ai (snk m T [] st))),some (.tup (ai (plc T (snk m T [] st)))),none,none] S5=some (.tup (ai ((snk m T [] st).take (snk m T [] a).length)),S6):=by
  have v2:ae 2 [some (tab m T),some (.tup (ai st)),some (.tup (ai (snk m T [] st))),some (.tup (ai (plc T (snk m T [] st)))),none,none] S5=some (.tup (ai (snk m T [] st)),S5):=var_eq rfl
  simp only[mSl,v2,aH,uw,k6,B3]
  unfold ai
  rw[AE]
 have hbeg:snk m T [] a=(snk m T [] st).take (snk m T [] a).length:=by
  obtain⟨r,hr⟩:=Am (m:=m) (T:=T) (a:= [y]) (p:=snk m T [] a)
  rw[hay,zA,hr,fg (aq _),iV]
 have c4:=of_eq (yp k5 k7)
 rw[decide_eq_true hbeg,du]at c4
 obtain⟨S7,e7,x7⟩:=Hf (S:=S6) g hm hst hsl
 have f7:=bT (i:=4) (bO (f:=dj) (ρ:= [some (tab m T),some (.tup (ai st)),some (.tup (ai (snk m T [] st))),some (.tup (ai (plc T (snk m T [] st)))),none,none]) (S:=S6) (a:=ae 0) (b:=ae 1) (var_eq rfl) (var_eq rfl) e7)
 obtain⟨ρ8,S8,e8,x8⟩:=Fx (S:=S7) g h2 hm pl hst hsl
 refine⟨S8,bW (ρ:=ρ8) rfl ?_,((((((x1.trans x2).trans (Ex.push _ _)).trans x4).trans x5).trans x6).trans x7).trans x8⟩
 show lT [some (tab m T),some (.tup (ai st)),none,none,none,none] S=_
 exact(aV f1).trans ((aV f2).trans ((aV ((gG c3).trans rfl)).trans ((aV ((gG c4).trans rfl)).trans ((aV f7).trans e8))))
end
end
section
open _L _G
section
variable {m:Nat}{T:Nat->Nat->Nat}{S:Sto}
theorem An{ρ:Rho}{S S1:Sto}{a b:MT}(ha:a ρ S=some (false,S1)):ko a b ρ S=some (false,S1):=by simp[ko,ha,aH]
theorem jV{ρ:Rho}{S S1:Sto}{a b:MT}{r:Option (Bool×Sto)}(ha:a ρ S=some (true,S1))(hb:b ρ S1=r):ko a b ρ S=r:=by simp[ko,ha,aH,hb]
theorem NP{ρ:Rho}{S S1 S2:Sto}{a b:ME}{x y:Nat}(ha:a ρ S=some (.int x,S1))(hb:b ρ S1=some (.int y,S2)):m2 oLt a b ρ S=some (.bl (decide (x<y)),S2):=by
 rw[KD ha hb]
 congr 3
 simp
theorem Fi(g:Grp m T)(pl:Pln m T){s b:Nat}{ks:List Nat}(hs:s<m)(hb:b<m)(he:od T s % 2=0)(hr:(plc T (snk m T [] [s,b])).length=m)(d:Dfs m T [s] ks λ_=>False)(hn:b∉ks):FX m T (evS m T [s,b])≠none:=by
 have hst:Lt m [s,b]:=λx hx=>by
  rcases aO.mp hx with e |hx
  ·rw[e];exact hs
  ·rw[aQ.mp hx];exact hb
 obtain⟨⟨n1,n2,n3⟩,_⟩:=uf g hs
 have e1:snk m T [] [s,b]=thr m T (aw (od T s - 1) s) b (tkn m T b (plc T (aw (od T s - 1) s)) - 1):=by
  rw[<- uO g hs];rfl
 obtain⟨k1,k2,k3,k4⟩:=j7 (P:=plc T (aw (od T s - 1) s)) g hb iw
 generalize tkn m T b (plc T (aw (od T s - 1) s))=k at e1 k1 k2 k3 k4
 have lp:Lt m (aw (od T s - 1) s):=λx hx=>by rw[cX hx];exact hs
 have hpl:=(kC g pl lp hb (k - 1)).2
 rw[show k - 1+1=k by omega]at hpl
 have hlen:=oP (m:=m) (T:=T) (p:=aw (od T s - 1) s) (s:=b) (k - 1)
 rw[ek,show k - 1+1=k by omega,show od T s - 1+1=od T s by omega]at hlen
 have hkm:od T s*k=m:=by
  rw[eM,<- hlen,<- ox (T:=T),<- e1];exact hr
 have sn:Sn m T (snk m T [] [s,b]):=Sn.snk g pl hst (Sn.start g)
 have way:Way m T (snk m T [] [s,b]):=⟨sn.nd,jJ g sn.lt,hr⟩
 have hk:2<=k:=by
  apply cJ
  intro z
  have:k=1:=by omega
  subst this
  rw[Dc g hb,oG]at k3
  obtain⟨i,_,hi⟩:=aS.mp k3
  exact hn (d.all.mpr (hi▸Rch.pow g (λx hx=>by rw[aQ.mp hx];exact hs) (by simp) i))
 obtain⟨w,w1,w2,w3⟩:=comb g pl hs hb ⟨n1,n2,n3⟩ he hk hkm (λx hx=>by
  have:=way.mem hx
  rw[e1,hpl]at this
  obtain⟨j,hj,h2⟩:=cN.mp this
  obtain⟨y,hy,rfl⟩:=gJ.mp h2
  rw[oG]at hy
  obtain⟨i,hi,rfl⟩:=aS.mp hy
  exact⟨i,j,by have:=aI.mp hi;omega,aI.mp hj,rfl⟩)
 have hin:=vW (st:=evS m T [s,b]) g w1 w2 (λx hx=>by
  rcases w3 x hx with e |e |e |e
  ·rw[e];exact jc.mpr (.inl (by simp))
  ·rw[e];exact jc.mpr (.inl (by simp))
  ·rw[e];exact jc.mpr (.inr ⟨s,by simp,rfl⟩)
  ·rw[e];exact jc.mpr (.inr ⟨b,by simp,rfl⟩))
 rw[<- Dl g (zK g hst)]
 intro z
 rw[List.head?_eq_none_iff]at z
 rw[z]at hin
 simp at hin
theorem HH(g:Grp m T){s:Nat}(hs:s<m)(h0:s≠0):hmO m T [s]=some s:=by
 have h2:=Nv g hs h0
 unfold hmO
 rw[uO g hs,if_neg (λz=>by have:=congrArg oV z;simp at this;omega),mv,MJ g hs,if_pos (.inl (by simp))]
theorem Ma(g:Grp m T)(hm:m<=30){s:Nat}(hs:s<m):de [tab m T,.int s] S=some (.int (od T s:Nat),S):=by
 obtain⟨⟨a,b,c⟩,h⟩:=uf g hs
 exact xK g hs a (by omega) c b
theorem CN{ρ:Rho}{a:ME}{w:List Nat}{k x:Nat}(ha:a ρ S=some (.tup (ai w),S))(h:w[k]? = some x):m2 oIx a (mC (.int (k:Nat))) ρ S=some (.int (x:Nat),S):=yJ ha c_i (oR (by simp[ai,h]))
noncomputable def Lh(q:dQ):MS:=sIf (ko (cOf (m2 oLt (mFn bK (aa (ae 3) ah)) (mC (.int 13)))) (ko (cOf (m2 oEq (mFn bK (aa (ae 6) ah)) (mC (.int 2)))) (ko (cOf (mFn eG (aa (ae 3) (aa (ae 6) ah)))) (cOf (m2 oEq (m2 oMod (mFn de (aa (ae 3) (aa (ae 5) ah))) (mC (.int 2))) (mC (.int 0))))))) (sIf (ko (cOf (m2 gE (m2 oIx (ae 6) (mC (.int 1))) (mFn jd (aa (ae 3) (aa (dg (aa (ae 5) ah)) ah))))) (cOf (m2 oIs (mFn (eT q) (aa (ae 3) (aa (mFn dj (aa (ae 3) (aa (ae 6) ah))) ah))) (mC .non)))) (bB (mC (.bl false))) b7) b7
theorem EC{q:dQ}{v0 v1 v2 v4:Option U}{w:List Nat}{s:Nat}(g:Grp m T)(hm:m<=30)(pl:Pln m T)(hw:Lt m w)(h0:w[0]? = some s): ∃S',Lh q [v0,v1,v2,some (tab m T),v4,some (.int (s:Nat)),some (.tup (ai (w.take 2)))] S=some (.nx,[v0,v1,v2,some (tab m T),v4,some (.int (s:Nat)),some (.tup (ai (w.take 2)))],S')/\Ex S S':=by
 have hs:s<m:=hw s (cb h0)
 have c1:=of_eq (NP (ρ:= [v0,v1,v2,some (tab m T),v4,some (.int (s:Nat)),some (.tup (ai (w.take 2)))]) (S:=S) (a:=mFn bK (aa (ae 3) ah)) (b:=mC (.int 13)) (x:=m) (y:=13) (len_tab (var_eq rfl)) c_i)
 by_cases h1:m<13
 rotate_left
 ·rw[decide_eq_false h1]at c1
  exact⟨S,(gG (An c1)).trans rfl,Ex.refl _⟩
 rw[decide_eq_true h1]at c1
 have c2:=of_eq (rZ (ρ:= [v0,v1,v2,some (tab m T),v4,some (.int (s:Nat)),some (.tup (ai (w.take 2)))]) (S:=S) (a:=mFn bK (aa (ae 6) ah)) (b:=mC (.int 2)) (x:=(w.take 2).length) (y:=2) (by rw[nD (var_eq rfl),bU]) c_i)
 by_cases h2:(w.take 2).length=2
 rotate_left
 ·rw[decide_eq_false h2]at c2
  exact⟨S,(gG (jV c1 (An c2))).trans rfl,Ex.refl _⟩
 rw[decide_eq_true h2]at c2
 obtain⟨b,hb2,hb⟩ : ∃b,w.take 2 = [s,b]/\b<m:=by
  match w,h0,h2,hw with
  | [],h0,_,_=>simp at h0
  | [x],_,h2,_=>simp at h2
  | x::y::r,h0,_,hw=>exact⟨y,by simp at h0;simp[h0],hw y (by simp)⟩
 rw[hb2]at c1 c2 ⊢
 have hst:Lt m [s,b]:=λx hx=>by
  rcases aO.mp hx with e |hx
  ·rw[e];exact hs
  ·rw[aQ.mp hx];exact hb
 obtain⟨S1,e1,x1⟩:=Ik (S:=S) g hm pl hst
 have c3:=of_eq (bO (f:=eG) (ρ:= [v0,v1,v2,some (tab m T),v4,some (.int (s:Nat)),some (.tup (ai [s,b]))]) (S:=S) (a:=ae 3) (b:=ae 6) (var_eq rfl) (var_eq rfl) e1)
 by_cases h3:(plc T (snk m T [] [s,b])).length=m
 rotate_left
 ·rw[decide_eq_false h3]at c3
  exact⟨S1,(gG (jV c1 (jV c2 (An c3)))).trans rfl,x1⟩
 rw[decide_eq_true h3]at c3
 have c4:=of_eq (rZ (ρ:= [v0,v1,v2,some (tab m T),v4,some (.int (s:Nat)),some (.tup (ai [s,b]))]) (S:=S1) (a:=m2 oMod (mFn de (aa (ae 3) (aa (ae 5) ah))) (mC (.int 2))) (b:=mC (.int 0)) (y:=0) (Ae (y:=2) (bO (f:=de) (var_eq rfl) (var_eq rfl) (Ma g hm hs)) c_i (by decide)) c_i)
 by_cases h4:od T s % 2=0
 rotate_left
 ·rw[decide_eq_false h4]at c4
  exact⟨S1,(gG (jV c1 (jV c2 (jV c3 c4)))).trans rfl,x1⟩
 rw[decide_eq_true h4]at c4
 obtain⟨ks,S2,e2,x2,d⟩:=Kf (S:=S1) (ths:= [s]) g (by omega) (λz hz=>by rw[aQ.mp hz];exact hs)
 have c5:=zG (ρ:= [v0,v1,v2,some (tab m T),v4,some (.int (s:Nat)),some (.tup (ai [s,b]))]) (S:=S1) (a:=m2 oIx (ae 6) (mC (.int 1))) (b:=mFn jd (aa (ae 3) (aa (dg (aa (ae 5) ah)) ah))) (x:=b) (l:=srt ks) (CN (w:= [s,b]) (k:=1) (var_eq rfl) rfl) (bO (f:=jd) (var_eq rfl) (wF (var_eq rfl)) e2)
 by_cases h5:b∈ks
 ·rw[decide_eq_true (mR.mpr h5),du]at c5
  exact⟨S2,(p9 (jV c1 (jV c2 (jV c3 c4)))).trans ((gG (An c5)).trans rfl),x1.trans x2⟩
 rw[decide_eq_false (λz=>h5 (mR.mp z)),Bool.not_false]at c5
 obtain⟨S3,e3,x3⟩:=Hf (S:=S2) g hm hst (by simp)
 have hel:=Cc g hst
 obtain⟨S4,e4,x4⟩:=Dw (a:=q) (T:=T) (st:=evS m T [s,b]) (S:=S3) g (by omega) (zK g hst) (by omega)
 have hf:=Fi g pl hs hb h4 h3 d h5
 have c6:cOf (m2 oIs (mFn (eT q) (aa (ae 3) (aa (mFn dj (aa (ae 3) (aa (ae 6) ah))) ah))) (mC .non)) [v0,v1,v2,some (tab m T),v4,some (.int (s:Nat)),some (.tup (ai [s,b]))] S2=some (false,S4):=by
  refine of_eq (op2 (f:=oIs) (bO (f:=eT q) (a:=ae 3) (var_eq rfl) (bO (f:=dj) (a:=ae 3) (b:=ae 6) (var_eq rfl) (var_eq rfl) e3) e4) rfl ?_)
  cases h:FX m T (evS m T [s,b]) with
  | none=>exact absurd h hf
  | some v=>rfl
 exact⟨S4,(p9 (jV c1 (jV c2 (jV c3 c4)))).trans ((gG (jV c5 c6)).trans rfl),((x1.trans x2).trans x3).trans x4⟩
theorem Ng{ρ:Rho}{S:Sto}{a:ME}{w:List Nat}{k:Nat}(ha:a ρ S=some (.tup (ai w),S)):mSl a none (some (mC (.int (k:Nat)))) ρ S=some (.tup (ai (w.take k)),S):=by
 have c0:mC (.int (k:Nat)) ρ S=some (.int (k:Nat),S):=rfl
 simp only[mSl,ha,aH,uw,c0,B3]
 unfold ai
 rw[AE]
noncomputable def Hx(q:dQ):MS:=ba (sIf (nX (cOf (mFn ic (aa (ae 3) (aa (ae 4) ah))))) (bB (mC (.bl false))) b7) (ba (bC 5 (m2 oIx (ae 4) (mC (.int 0)))) (ba (sIf (cOr (cOf (m2 oNe (mFn eC (aa (ae 3) (aa (dg (aa (ae 5) ah)) ah))) (m2 gg (dg (aa (ae 5) ah)) (m2 kh (mFn de (aa (ae 3) (aa (ae 5) ah))) (mC (.int 1)))))) (cOf (m2 oNe (mFn iI (aa (ae 3) (aa (dg (aa (ae 5) ah)) ah))) (ae 5)))) (bB (mC (.bl false))) b7) (ba (sIf (cOr (cOf (m2 oNe (mFn oi (aa (ae 3) (aa (m2 gg (dg (aa (ae 5) ah)) (mFn de (aa (ae 3) (aa (ae 5) ah)))) ah))) (mC (.int 0)))) (cOf (m2 gC (mFn iI (aa (ae 3) (aa (dg ah) ah))) (mC .non)))) (bB (mC (.bl false))) b7) (ba (bC 6 (mSl (ae 4) none (some (mC (.int 2))))) (ba (Lh q) (sIf (cOf (m2 oNe (mFn dB (aa (ae 3) (aa (mFn dB (aa (ae 3) (aa (ae 5) ah))) ah))) (ae 5))) (bB (mC (.bl false))) b7))))))
theorem BO{q:dQ}{v0 v1 v2 v5 v6:Option U}{w:List Nat}(g:Grp m T)(h2:2<=m)(hm:m<=30)(pl:Pln m T)(hw:Lt m w)(hwl:w.length<60)(hne:w≠[])(hz: ∀x∈w,x≠0): ∃r5 r6 S',Hx q [v0,v1,v2,some (tab m T),some (.tup (ai w)),v5,v6] S=some (.nx,[v0,v1,v2,some (tab m T),some (.tup (ai w)),r5,r6],S')/\Ex S S':=by
 obtain⟨s,h0⟩ : ∃s,w[0]? = some s:=by cases w with |nil=>exact absurd rfl hne |cons x r=>exact⟨x,rfl⟩
 have hsm:=cb h0
 have hs:=hw s hsm
 have h1s:Lt m [s]:=Lt.one hs
 obtain⟨⟨n1,n2,n3⟩,n4⟩:=uf g hs
 obtain⟨S1,e1,x1⟩:=Fh (S:=S) g h2 hm pl hw hwl hne
 have c1:=not_eq (of_eq (bO (f:=ic) (ρ:= [v0,v1,v2,some (tab m T),some (.tup (ai w)),v5,v6]) (S:=S) (a:=ae 3) (b:=ae 4) (var_eq rfl) (var_eq rfl) e1))
 have f1:=bT (i:=5) (CN (ρ:= [v0,v1,v2,some (tab m T),some (.tup (ai w)),v5,v6]) (S:=S1) (a:=ae 4) (k:=0) (var_eq rfl) h0)
 obtain⟨S2,e2,x2⟩:=Dh (S:=S1) (st:= [s]) g hm pl h1s
 have t5: ∀S',dg (aa (ae 5) ah) [v0,v1,v2,some (tab m T),some (.tup (ai w)),some (.int (s:Nat)),v6] S'=some (.tup (ai [s]),S'):=λS'=>wF (var_eq rfl)
 have o5: ∀S',mFn de (aa (ae 3) (aa (ae 5) ah)) [v0,v1,v2,some (tab m T),some (.tup (ai w)),some (.int (s:Nat)),v6] S'=some (.int (od T s:Nat),S'):=λS'=>bO (f:=de) (var_eq rfl) (var_eq rfl) (Ma g hm hs)
 have p5:m2 kh (mFn de (aa (ae 3) (aa (ae 5) ah))) (mC (.int 1)) [v0,v1,v2,some (tab m T),some (.tup (ai w)),some (.int (s:Nat)),v6] S2=some (.int (od T s - 1:Nat),S2):=by
  rw[xg (o5 S2) c_i]
  congr 3
  omega
 have d1:=of_eq (yp (bO (f:=eC) (a:=ae 3) (var_eq rfl) (t5 S1) e2) (DM (t5 S2) p5 (by omega)))
 rw[decide_eq_true (uO g hs),du]at d1
 obtain⟨S3,e3,x3⟩:=yq (S:=S2) (st:= [s]) g hm pl h1s
 rw[HH g hs (hz s hsm)]at e3
 have d2:=of_eq (zk (x:=s) (y:=s) (bO (f:=iI) (a:=ae 3) (var_eq rfl) (t5 S2) e3) (b:=ae 5) (var_eq rfl))
 rw[decide_eq_true rfl,du]at d2
 have c2:=_W.or_false d1 d2
 have d3:=of_eq (zk (y:=0) (bO (f:=oi) (a:=ae 3) (var_eq rfl) (DM (t5 S3) (o5 S3) (by omega)) (NU g (λx hx=>by rw[cX hx];exact hs))) (c_i (z:=0)))
 rw[mv,n2,decide_eq_true rfl,du]at d3
 obtain⟨S4,e4,x4⟩:=yq (S:=S3) (st:= []) g hm pl (λx hx=>by simp at hx)
 have hn:hmO m T []=none:=by unfold hmO;exact if_pos rfl
 rw[hn]at e4
 have d4:cOf (m2 gC (mFn iI (aa (ae 3) (aa (dg ah) ah))) (mC .non)) [v0,v1,v2,some (tab m T),some (.tup (ai w)),some (.int (s:Nat)),v6] S3=some (false,S4):=of_eq (op2 (f:=gC) (bO (f:=iI) (a:=ae 3) (b:=dg ah) (y:= .tup (ai [])) (var_eq rfl) rfl e4) rfl rfl)
 have c3:=_W.or_false d3 d4
 have f6:=bT (i:=6) (Ng (ρ:= [v0,v1,v2,some (tab m T),some (.tup (ai w)),some (.int (s:Nat)),v6]) (S:=S4) (a:=ae 4) (w:=w) (k:=2) (var_eq rfl))
 obtain⟨S5,e5,x5⟩:=EC (q:=q) (S:=S4) (v0:=v0) (v1:=v1) (v2:=v2) (v4:=some (.tup (ai w))) g hm pl hw h0
 have c7:=of_eq (zk (ρ:= [v0,v1,v2,some (tab m T),some (.tup (ai w)),some (.int (s:Nat)),some (.tup (ai (w.take 2)))]) (S:=S5) (a:=mFn dB (aa (ae 3) (aa (mFn dB (aa (ae 3) (aa (ae 5) ah))) ah))) (b:=ae 5) (y:=s) (bO (f:=dB) (a:=ae 3) (var_eq rfl) (bO (f:=dB) (a:=ae 3) (b:=ae 5) (var_eq rfl) (var_eq rfl) (Kc g hs)) (Kc g (jF g hs))) (var_eq rfl))
 rw[z3 g hs,decide_eq_true rfl,du]at c7
 exact⟨_,_,S5,(aV ((gG c1).trans rfl)).trans ((aV f1).trans ((aV ((gG c2).trans rfl)).trans ((aV ((gG c3).trans rfl)).trans ((aV f6).trans ((aV e5).trans ((gG c7).trans rfl)))))),(((x1.trans x2).trans x3).trans x4).trans x5⟩
end
theorem IH{n:Nat}{ρ:Rho}{S:Sto}(h:lj n S)(h2:ρ[2]? = some (some (.ref n))): ∃m T S',mFn gq (aa (ae 2) (aa (m2 oIx (fA (aa (mC (.int 24)) (aa (mC (.int 16)) (aa (mC (.int 8)) ah)))) (mFn aK (aa (ae 2) (aa (mC (.int 3)) ah)))) ah)) ρ S=some (tab m T,S')/\Grp m T/\Pln m T/\m<=24/\Stp n S S':=by
 have f3:fA (aa (mC (.int 24)) (aa (mC (.int 16)) (aa (mC (.int 8)) ah))) ρ S=some (.ref S.length,S++[Cell.lst (ai [24,16,8])]):=E4 c_i c_i c_i
 have st3:Stp n S (S++[Cell.lst (ai [24,16,8])]):=Stp.ex h (Ex.push _ _)
 obtain⟨r,S4,f4,hr,st4⟩:=jf (m:=3) st3.st (by decide) (by decide)
 have hne:S.length≠n:=by have:=h.lt;omega
 have g4:S4[S.length]? = some (Cell.lst (ai [24,16,8])):=st4.some hne (fk _ _)
 obtain⟨most,hmost,hm6,hm8⟩ : ∃most:Nat,(ai [24,16,8])[r]? = some (.int most)/\6<=most/\most<=24:=by
  rcases r with _ |_ |_ |r
  ·exact⟨24,rfl,by decide,by decide⟩
  ·exact⟨16,rfl,by decide,by decide⟩
  ·exact⟨8,rfl,by decide,by decide⟩
  ·omega
 have f5:m2 oIx (fA (aa (mC (.int 24)) (aa (mC (.int 16)) (aa (mC (.int 8)) ah)))) (mFn aK (aa (ae 2) (aa (mC (.int 3)) ah))) ρ S=some (.int most,S4):=JU f3 (bO (var_eq h2) c_i f4) g4 (oR hmost)
 obtain⟨m,T,S5,f6,gr,pl,hm,st5⟩:=NX (most:=most) st4.st hm6 (by omega)
 exact⟨m,T,S5,bO (f:=gq) (var_eq h2) f5 f6,gr,pl,by omega,(st3.trans st4).trans st5⟩
noncomputable def He:MS:=sIf (cOf (m2 oEq (mFn bK (aa (ae 3) ah)) (mC (.int 1)))) (bC 3 (mFn cc (aa (m2 dq (mC (.int 2)) (mFn aK (aa (ae 2) (aa (mC (.int 23)) ah)))) ah))) b7
theorem B8{n m:Nat}{T:Nat->Nat->Nat}{S:Sto}{v0 v1 v4 v5 v6:Option U}(h:lj n S)(g:Grp m T)(pl:Pln m T)(hm:m<=24): ∃m' T' S',He [v0,v1,some (.ref n),some (tab m T),v4,v5,v6] S=some (.nx,[v0,v1,some (.ref n),some (tab m' T'),v4,v5,v6],S')/\Grp m' T'/\Pln m' T'/\2<=m'/\m'<=24/\Stp n S S':=by
 have c1:=of_eq (rZ (ρ:= [v0,v1,some (.ref n),some (tab m T),v4,v5,v6]) (S:=S) (a:=mFn bK (aa (ae 3) ah)) (b:=mC (.int 1)) (x:=m) (y:=1) (len_tab (var_eq rfl)) c_i)
 by_cases h1:m=1
 ·rw[decide_eq_true h1]at c1
  obtain⟨r,S2,e2,hr,st2⟩:=jf (m:=23) h (by decide) (by decide)
  obtain⟨S3,e3,x3⟩:=n9 (n:=2+r) (S:=S2) (by omega) (by unfold big;omega)
  have f3:=bT (i:=3) (iM (f:=cc) (ρ:= [v0,v1,some (.ref n),some (tab m T),v4,v5,v6]) (S:=S) (add_n (x:=2) (y:=r) (a:=mC (.int 2)) (b:=mFn aK (aa (ae 2) (aa (mC (.int 23)) ah))) c_i (bO (var_eq rfl) c_i e2)) e3)
  exact⟨2+r,d0 (2+r),S3,(p9 c1).trans f3,mQ (by omega),mO,by omega,by omega,st2.step x3⟩
 ·rw[decide_eq_false h1]at c1
  have:=g.pos
  exact⟨m,T,S,(gG c1).trans rfl,g,pl,by omega,hm,Stp.refl h⟩
theorem CG(q:dQ)(ns:List Int)(hl:ns.length<=63)(S:Sto)(h1:S.length=1)(h2:getL S 0=some (ns.map U.int)): ∃S',KS q [.ref 0] S=some (.bl true,S'):=by
 obtain⟨p,hp,eq⟩:=Ca (ρ:= [some (.ref 0),none,none,none,none,none,none]) (c:=6) h2 rfl hl
 obtain⟨ρ1,S1,e1,_,_⟩:=mS (i:=1) (a:=mFn wW (aa (mC (.int 1)) (aa (mFn pX (aa (mFn bK (aa (ae 0) ah)) (aa (mC (.int 6)) ah))) ah))) (n:=p)
  (b:=ba (bC 2 (mFn jB (aa (ae 0) (aa (ae 1) ah)))) (ba (bC 3 (mFn gq (aa (ae 2) (aa (m2 oIx (fA (aa (mC (.int 24)) (aa (mC (.int 16)) (aa (mC (.int 8)) ah)))) (mFn aK (aa (ae 2) (aa (mC (.int 3)) ah)))) ah)))) (ba He (ba (bC 4 (mFn ir (aa (ae 2) (aa (ae 3) (aa (m2 oIx (fA (aa (mC (.int 5)) (aa (mC (.int 2)) ah))) (mFn aK (aa (ae 2) (aa (mC (.int 2)) ah)))) ah))))) (Hx q)))))
  (ρ:= [some (.ref 0),none,none,none,none,none,none]) (S:=S) eq (by unfold big;omega)
  (λk ρ S'=>(∃a b c d e f,ρ = [some (.ref 0),a,b,c,d,e,f])/\Scr ns S') ⟨⟨none,none,none,none,none,none,rfl⟩,h2⟩
  (by
   rintro k ρ S' hk ⟨⟨u1,u2,u3,u4,u5,u6,rfl⟩,hs⟩
   have h0:=hs.lt
   obtain⟨S2,f2,x2,st2⟩:=Cu (k:=k) hs
   obtain⟨m0,T0,S3,f3,g0,pl0,hm0,st3⟩:=IH (ρ:= [some (.ref 0),some (.int k),some (.ref S'.length),u3,u4,u5,u6]) st2 rfl
   obtain⟨m,T,S4,f4,g,pl,hm2,hm,st4⟩:=B8 (v0:=some (.ref 0)) (v1:=some (.int k)) (v4:=u4) (v5:=u5) (v6:=u6) st3.st g0 pl0 hm0
   have fl:fA (aa (mC (.int 5)) (aa (mC (.int 2)) ah)) [some (.ref 0),some (.int k),some (.ref S'.length),some (tab m T),u4,u5,u6] S4=some (.ref S4.length,S4++[Cell.lst (ai [5,2])]):=Ea c_i c_i
   have st5:Stp S'.length S4 (S4++[Cell.lst (ai [5,2])]):=Stp.ex st4.st (Ex.push _ _)
   obtain⟨r,S6,f6,hr,st6⟩:=jf (m:=2) st5.st (by decide) (by decide)
   have hne:S4.length≠S'.length:=by have:=st4.st.lt;omega
   have g6:S6[S4.length]? = some (Cell.lst (ai [5,2])):=st6.some hne (fk _ _)
   obtain⟨most,hmost,hmo,hmo2⟩ : ∃most:Nat,(ai [5,2])[r]? = some (.int most)/\0<most/\most<60:=by
    rcases r with _ |_ |r
    ·exact⟨5,rfl,by decide,by decide⟩
    ·exact⟨2,rfl,by decide,by decide⟩
    ·omega
   have fi:=JU fl (bO (f:=aK) (a:=ae 2) (b:=mC (.int 2)) (var_eq rfl) c_i f6) g6 (oR hmost)
   obtain⟨w,S7,f7,st7,hw,hwl,hwl2,hnd,hnz,hne0,_⟩:=GD st6.st g (by omega) hmo hmo2
   have g7:=bT (i:=4) (q0 (f:=ir) (ρ:= [some (.ref 0),some (.int k),some (.ref S'.length),some (tab m T),u4,u5,u6]) (S:=S4) (a:=ae 2) (b:=ae 3) (var_eq rfl) (var_eq rfl) fi f7)
   obtain⟨r5,r6,S8,f8,x8⟩:=BO (q:=q) (S:=S7) (v0:=some (.ref 0)) (v1:=some (.int k)) (v2:=some (.ref S'.length)) (v5:=u5) (v6:=u6) g hm2 (by omega) pl hw hwl2 (hne0 (by omega)) hnz
   refine⟨_,S8,(aV (bT (bO (var_eq rfl) (var_eq rfl) f2))).trans ((aV (bT f3)).trans ((aV f4).trans ((aV g7).trans f8))),⟨_,_,_,_,_,_,rfl⟩,?_⟩
   exact((hs.ex λc h=>x2.some h).ex λc h=>((((st3.trans st4).trans st5).trans st6).trans st7).some (by omega) h).ex λc h=>x8.some h)
 exact⟨S1,bW (ρ:=ρ1) rfl ((aV e1).trans (bV rfl))⟩
end
noncomputable def top(i:Nat):Stmt:=PySem.Challenge.pw_groupwalks_k74_whole_snakes.main.body.getD i (.Pass ⟨0,0,0,0⟩)
abbrev my:Stmt:=top 9
abbrev iy:Stmt:=top 38
abbrev fZ:Stmt:=top 42
abbrev il:Stmt:=top 43
abbrev ip:Stmt:=top 45
abbrev iX:Stmt:=top 44
abbrev ib:Stmt:=top 50
abbrev i9:Stmt:=top 47
abbrev iq:Stmt:=top 49
abbrev ie:Stmt:=top 53
abbrev ij:Stmt:=top 52
abbrev i6:Stmt:=top 11
abbrev dU:Stmt:=top 28
abbrev eP:Stmt:=top 29
abbrev sg:Stmt:=top 24
abbrev iZ:Stmt:=top 25
abbrev lE:Stmt:=top 16
abbrev oI:Stmt:=top 30
abbrev fq:Stmt:=top 26
abbrev eQ:Stmt:=top 54
abbrev qN:Stmt:=top 31
abbrev oB:Stmt:=top 13
abbrev qQ:Stmt:=top 14
abbrev jU:Stmt:=top 23
abbrev d8:Stmt:=top 5
abbrev dM:Stmt:=top 6
abbrev gD:Stmt:=top 20
abbrev gK:Stmt:=top 7
abbrev eD:Stmt:=top 17
abbrev fm:Stmt:=top 19
abbrev lP:Stmt:=top 21
abbrev fX:Stmt:=top 18
abbrev jh:Stmt:=top 22
abbrev ig:Stmt:=top 55
abbrev nY:Stmt:=top 8
abbrev ja:Stmt:=top 10
abbrev fY:Stmt:=top 34
abbrev mm:Stmt:=top 37
abbrev jX:Stmt:=top 36
abbrev iu:Stmt:=top 39
abbrev fw:Stmt:=top 35
abbrev fU:Stmt:=top 40
abbrev z4:Stmt:=top 56
noncomputable def T0 (a_step_home:Addr):Tb:=⟨[],[("step_home",.obj a_step_home),("MOST_TO_FIND",.int 12)],[],[],false,z0⟩
noncomputable def T1 (a_step_home:Addr):Tb:=⟨("undone",dB)::(T0 a_step_home).D,(T0 a_step_home).C,[],(T0 a_step_home).H,false,(T0 a_step_home).Z⟩
noncomputable def T2 (a_step_home:Addr):Tb:=⟨("step_home",dA)::(T1 a_step_home).D,(T1 a_step_home).C,[],(T1 a_step_home).H,false,(T1 a_step_home).Z⟩
noncomputable def T3 (a_step_home:Addr):Tb:=⟨("_law_cell_at",hX)::(T2 a_step_home).D,(T2 a_step_home).C,[],(T2 a_step_home).H,false,(T2 a_step_home).Z⟩
noncomputable def T4 (a_step_home:Addr):Tb:=⟨("_law_state",jB)::(T3 a_step_home).D,(T3 a_step_home).C,[],(T3 a_step_home).H,false,(T3 a_step_home).Z⟩
noncomputable def T5 (a_step_home:Addr):Tb:=⟨("_law_clock",cc)::(T4 a_step_home).D,(T4 a_step_home).C,[],(T4 a_step_home).H,false,(T4 a_step_home).Z⟩
noncomputable def T6 (a_step_home:Addr):Tb:=⟨("_law_take",aK)::(T5 a_step_home).D,(T5 a_step_home).C,[],(T5 a_step_home).H,false,(T5 a_step_home).Z⟩
noncomputable def T7 (a_step_home:Addr):Tb:=⟨("_law_named",gm)::(T6 a_step_home).D,(T6 a_step_home).C,[],(T6 a_step_home).H,false,(T6 a_step_home).Z⟩
noncomputable def T8 (a_step_home:Addr):Tb:=⟨("_law_both",i4)::(T7 a_step_home).D,(T7 a_step_home).C,[],(T7 a_step_home).H,false,(T7 a_step_home).Z⟩
noncomputable def T9 (a_step_home:Addr):Tb:=⟨("_law_order",gn)::(T8 a_step_home).D,(T8 a_step_home).C,[],(T8 a_step_home).H,false,(T8 a_step_home).Z⟩
noncomputable def T10 (a_step_home:Addr):Tb:=⟨("_law_plain",gq)::(T9 a_step_home).D,(T9 a_step_home).C,[],(T9 a_step_home).H,false,(T9 a_step_home).Z⟩
noncomputable def T11 (a_step_home:Addr):Tb:=⟨("_law_steps",ir)::(T10 a_step_home).D,(T10 a_step_home).C,[],(T10 a_step_home).H,false,(T10 a_step_home).Z⟩
noncomputable def T12 (a_step_home:Addr):Tb:=⟨("is_plain",rX)::(T11 a_step_home).D,(T11 a_step_home).C,[],(T11 a_step_home).H,false,(T11 a_step_home).Z⟩
noncomputable def T13 (a_step_home:Addr):Tb:=⟨("refuse_not_plain",i5)::(T12 a_step_home).D,(T12 a_step_home).C,[],(T12 a_step_home).H,false,(T12 a_step_home).Z⟩
noncomputable def T14 (a_step_home:Addr):Tb:=⟨("taken_to_meet",kS)::(T13 a_step_home).D,(T13 a_step_home).C,[],(T13 a_step_home).H,false,(T13 a_step_home).Z⟩
noncomputable def T15 (a_step_home:Addr):Tb:=⟨("back",DK)::(T14 a_step_home).D,(T14 a_step_home).C,[],(T14 a_step_home).H,false,(T14 a_step_home).Z⟩
noncomputable def T16 (a_step_home:Addr):Tb:=⟨("threaded",rM)::(T15 a_step_home).D,(T15 a_step_home).C,[],(T15 a_step_home).H,false,(T15 a_step_home).Z⟩
noncomputable def T17 (a_step_home:Addr):Tb:=⟨("places",fT)::(T16 a_step_home).D,(T16 a_step_home).C,[],(T16 a_step_home).H,false,(T16 a_step_home).Z⟩
noncomputable def T18 (a_step_home:Addr):Tb:=⟨("snake",eC)::(T17 a_step_home).D,(T17 a_step_home).C,[],(T17 a_step_home).H,false,(T17 a_step_home).Z⟩
noncomputable def T19 (a_step_home:Addr):Tb:=⟨("undone_steps",fo)::(T18 a_step_home).D,(T18 a_step_home).C,[],(T18 a_step_home).H,false,(T18 a_step_home).Z⟩
noncomputable def T20 (a_step_home:Addr):Tb:=⟨("_law_all_steps",dj)::(T19 a_step_home).D,(T19 a_step_home).C,[],(T19 a_step_home).H,false,(T19 a_step_home).Z⟩
noncomputable def T21 (a_step_home:Addr):Tb:=⟨("home",iI)::(T20 a_step_home).D,(T20 a_step_home).C,[],(T20 a_step_home).H,false,(T20 a_step_home).Z⟩
noncomputable def T22 (a_step_home:Addr):Tb:=⟨("roads",z5)::(T21 a_step_home).D,(T21 a_step_home).C,[],(T21 a_step_home).H,false,(T21 a_step_home).Z⟩
noncomputable def T23 (a_step_home:Addr):Tb:=⟨("span",jd)::(T22 a_step_home).D,(T22 a_step_home).C,[],(T22 a_step_home).H,false,(T22 a_step_home).Z⟩
noncomputable def T24 (a_step_home:Addr):Tb:=⟨("reaches",eG)::(T23 a_step_home).D,(T23 a_step_home).C,[],(T23 a_step_home).H,false,(T23 a_step_home).Z⟩
noncomputable def T25 (a_step_home:Addr):Tb:=⟨("is_number_below",jD)::(T24 a_step_home).D,(T24 a_step_home).C,[],(T24 a_step_home).H,false,(T24 a_step_home).Z⟩
noncomputable def T26 (a_step_home:Addr):Tb:=⟨("are_numbers_below",fN)::(T25 a_step_home).D,(T25 a_step_home).C,[],(T25 a_step_home).H,false,(T25 a_step_home).Z⟩
noncomputable def T27 (a_step_home:Addr):Tb:=⟨("is_walk_by",kz)::(T26 a_step_home).D,(T26 a_step_home).C,[],(T26 a_step_home).H,false,(T26 a_step_home).Z⟩
noncomputable def T28 (a_step_home:Addr):Tb:=⟨("all_things",oK)::(T27 a_step_home).D,(T27 a_step_home).C,[],(T27 a_step_home).H,false,(T27 a_step_home).Z⟩
noncomputable def T29 (a_step_home:Addr):Tb:=⟨("are_all_things",g9)::(T28 a_step_home).D,(T28 a_step_home).C,[],(T28 a_step_home).H,false,(T28 a_step_home).Z⟩
noncomputable def T30 (a_step_home:Addr):Tb:=⟨("goes_through",lV)::(T29 a_step_home).D,(T29 a_step_home).C,[],(T29 a_step_home).H,false,(T29 a_step_home).Z⟩
noncomputable def T31 (a_step_home:Addr):Tb:=⟨("is_way",lH)::(T30 a_step_home).D,(T30 a_step_home).C,[],(T30 a_step_home).H,false,(T30 a_step_home).Z⟩
noncomputable def T32 (a_step_home:Addr):Tb:=⟨("comes_round",nF)::(T31 a_step_home).D,(T31 a_step_home).C,[],(T31 a_step_home).H,false,(T31 a_step_home).Z⟩
noncomputable def T33 (a_step_home:Addr):Tb:=⟨("is_round",gY)::(T32 a_step_home).D,(T32 a_step_home).C,[],(T32 a_step_home).H,false,(T32 a_step_home).Z⟩
noncomputable def T34 (a_step_home:Addr):Tb:=⟨("_law_right",ic)::(T33 a_step_home).D,(T33 a_step_home).C,[],(T33 a_step_home).H,false,(T33 a_step_home).Z⟩
noncomputable def T35 (a_step_home:Addr):Tb:=⟨("along",oi)::(T34 a_step_home).D,(T34 a_step_home).C,[],(T34 a_step_home).H,false,(T34 a_step_home).Z⟩
noncomputable def T36 (a_step_home:Addr):Tb:=⟨("order_of",de)::(T35 a_step_home).D,(T35 a_step_home).C,[],(T35 a_step_home).H,false,(T35 a_step_home).Z⟩
noncomputable def T37 (a_step_home:Addr):Tb:=⟨("refuse_more",h8)::(T36 a_step_home).D,(T36 a_step_home).C,[],(T36 a_step_home).H,false,(T36 a_step_home).Z⟩
noncomputable def T38 (a_step_home:Addr):Tb:=⟨("goings",wg)::(T37 a_step_home).D,(T37 a_step_home).C,[],(T37 a_step_home).H,false,(T37 a_step_home).Z⟩
noncomputable def T39 (a_step_home:Addr):Tb:=⟨("all_but",t9)::(T38 a_step_home).D,(T38 a_step_home).C,[],(T38 a_step_home).H,false,(T38 a_step_home).Z⟩
noncomputable def T40(a_step_home:Addr):Tb:=(T39 a_step_home)
noncomputable def T41 (a_step_home:Addr):Tb:=⟨("all_but_home",je)::(T40 a_step_home).D,(T40 a_step_home).C,[],(T40 a_step_home).H,false,(T40 a_step_home).Z⟩
noncomputable def T42 (a_step_home:Addr):Tb:=⟨("least_round",(eT a_step_home))::(T41 a_step_home).D,(T41 a_step_home).C,[],(T41 a_step_home).H,false,(T41 a_step_home).Z⟩
theorem Dv : ∀ (a_step_home:Addr),cB (T0 a_step_home) 80 (["group","thing"]:List Str) (ax my).names (aT my)=some v7:=by intro a_step_home;kernel_rfl
theorem Bl:bc (["group","thing"]:List Str) (["group","thing"]:List Str) (ax my):=⟨rfl,rfl,rfl,by decide +kernel,rfl,by decide +kernel,by decide +kernel⟩
theorem vZ : ∀ (a_step_home:Addr),cB (T1 a_step_home) 80 (["group","steps","place","step"]:List Str) (ax iy).names (aT iy)=some lF:=by intro a_step_home;kernel_rfl
theorem vc:bc (["group","steps","place","step"]:List Str) (["group","steps","place"]:List Str) (ax iy):=⟨rfl,rfl,rfl,by decide +kernel,rfl,by decide +kernel,by decide +kernel⟩
theorem tw : ∀ (a_step_home:Addr),cB (T2 a_step_home) 80 (["script","k"]:List Str) (ax fZ).names (aT fZ)=some fV:=by intro a_step_home;kernel_rfl
theorem qW:bc (["script","k"]:List Str) (["script","k"]:List Str) (ax fZ):=⟨rfl,rfl,rfl,by decide +kernel,rfl,by decide +kernel,by decide +kernel⟩
theorem xw : ∀ (a_step_home:Addr),cB (T3 a_step_home) 80 (["script","k","cell"]:List Str) (ax il).names (aT il)=some jG:=by intro a_step_home;kernel_rfl
theorem vn:bc (["script","k","cell"]:List Str) (["script","k"]:List Str) (ax il):=⟨rfl,rfl,rfl,by decide +kernel,rfl,by decide +kernel,by decide +kernel⟩
theorem wX : ∀ (a_step_home:Addr),cB (T4 a_step_home) 80 (["n"]:List Str) (ax ip).names (aT ip)=some lJ:=by intro a_step_home;kernel_rfl
theorem uJ:bc (["n"]:List Str) (["n"]:List Str) (ax ip):=⟨rfl,rfl,rfl,by decide +kernel,rfl,by decide +kernel,by decide +kernel⟩
theorem zi : ∀ (a_step_home:Addr),cB (T5 a_step_home) 80 (["state","many","found","mixed"]:List Str) (ax iX).names (aT iX)=some kD:=by intro a_step_home;kernel_rfl
theorem vX:bc (["state","many","found","mixed"]:List Str) (["state","many"]:List Str) (ax iX):=⟨rfl,rfl,rfl,by decide +kernel,rfl,by decide +kernel,by decide +kernel⟩
theorem xx : ∀ (a_step_home:Addr),cB (T6 a_step_home) 80 (["group","order"]:List Str) (ax ib).names (aT ib)=some mx:=by intro a_step_home;kernel_rfl
theorem vK:bc (["group","order"]:List Str) (["group","order"]:List Str) (ax ib):=⟨rfl,rfl,rfl,by decide +kernel,rfl,by decide +kernel,by decide +kernel⟩
theorem zh : ∀ (a_step_home:Addr),cB (T7 a_step_home) 80 (["one","other","size","found","i","row","j","ahead"]:List Str) (ax i9).names (aT i9)=some nP:=by intro a_step_home;kernel_rfl
theorem wB:bc (["one","other","size","found","i","row","j","ahead"]:List Str) (["one","other"]:List Str) (ax i9):=⟨rfl,rfl,rfl,by decide +kernel,rfl,by decide +kernel,by decide +kernel⟩
theorem xb : ∀ (a_step_home:Addr),cB (T8 a_step_home) 80 (["state","many","left"]:List Str) (ax iq).names (aT iq)=some lX:=by intro a_step_home;kernel_rfl
theorem vI:bc (["state","many","left"]:List Str) (["state","many"]:List Str) (ax iq):=⟨rfl,rfl,rfl,by decide +kernel,rfl,by decide +kernel,by decide +kernel⟩
theorem xp : ∀ (a_step_home:Addr),cB (T9 a_step_home) 80 (["state","most","found"]:List Str) (ax ie).names (aT ie)=some pN:=by intro a_step_home;kernel_rfl
theorem vC:bc (["state","most","found"]:List Str) (["state","most"]:List Str) (ax ie):=⟨rfl,rfl,rfl,by decide +kernel,rfl,by decide +kernel,by decide +kernel⟩
theorem xf : ∀ (a_step_home:Addr),cB (T10 a_step_home) 80 (["state","group","most","left","found","k"]:List Str) (ax ij).names (aT ij)=some pL:=by intro a_step_home;kernel_rfl
theorem uL:bc (["state","group","most","left","found","k"]:List Str) (["state","group","most"]:List Str) (ax ij):=⟨rfl,rfl,rfl,by decide +kernel,rfl,by decide +kernel,by decide +kernel⟩
theorem y9 : ∀ (a_step_home:Addr),cB (T11 a_step_home) 80 (["group","i"]:List Str) (ax i6).names (aT i6)=some rV:=by intro a_step_home;kernel_rfl
theorem wL:bc (["group","i"]:List Str) (["group"]:List Str) (ax i6):=⟨rfl,rfl,rfl,by decide +kernel,rfl,by decide +kernel,by decide +kernel⟩
theorem nS : ∀ (a_step_home:Addr),cB (T12 a_step_home) 80 (["group"]:List Str) (ax dU).names (aT dU)=some ji:=by intro a_step_home;kernel_rfl
theorem nj:bc (["group"]:List Str) (["group"]:List Str) (ax dU):=⟨rfl,rfl,rfl,by decide +kernel,rfl,by decide +kernel,by decide +kernel⟩
theorem pZ : ∀ (a_step_home:Addr),cB (T13 a_step_home) 80 (["group","step","come_to","place","taken"]:List Str) (ax eP).names (aT eP)=some kW:=by intro a_step_home;kernel_rfl
theorem o7:bc (["group","step","come_to","place","taken"]:List Str) (["group","step","come_to"]:List Str) (ax eP):=⟨rfl,rfl,rfl,by decide +kernel,rfl,by decide +kernel,by decide +kernel⟩
theorem Ic : ∀ (a_step_home:Addr),cB (T14 a_step_home) 80 (["group","walk"]:List Str) (ax sg).names (aT sg)=some CW:=by intro a_step_home;kernel_rfl
theorem FQ:bc (["group","walk"]:List Str) (["group","walk"]:List Str) (ax sg):=⟨rfl,rfl,rfl,by decide +kernel,rfl,by decide +kernel,by decide +kernel⟩
theorem yk : ∀ (a_step_home:Addr),cB (T15 a_step_home) 80 (["group","begin","steps","piece","turns","walk","k","step"]:List Str) (ax iZ).names (aT iZ)=some rm:=by intro a_step_home;kernel_rfl
theorem wZ:bc (["group","begin","steps","piece","turns","walk","k","step"]:List Str) (["group","begin","steps","piece"]:List Str) (ax iZ):=⟨rfl,rfl,rfl,by decide +kernel,rfl,by decide +kernel,by decide +kernel⟩
theorem Dn : ∀ (a_step_home:Addr),cB (T16 a_step_home) 80 (["group","walk","come_to","thing"]:List Str) (ax lE).names (aT lE)=some xu:=by intro a_step_home;kernel_rfl
theorem Bg:bc (["group","walk","come_to","thing"]:List Str) (["group","walk"]:List Str) (ax lE):=⟨rfl,rfl,rfl,by decide +kernel,rfl,by decide +kernel,by decide +kernel⟩
theorem EV : ∀ (a_step_home:Addr),cB (T17 a_step_home) 80 (["group","steps","so_far","step","taken"]:List Str) (ax oI).names (aT oI)=some zp:=by intro a_step_home;kernel_rfl
theorem Ds:bc (["group","steps","so_far","step","taken"]:List Str) (["group","steps"]:List Str) (ax oI):=⟨rfl,rfl,rfl,by decide +kernel,rfl,by decide +kernel,by decide +kernel⟩
theorem sd : ∀ (a_step_home:Addr),cB (T18 a_step_home) 80 (["group","steps"]:List Str) (ax fq).names (aT fq)=some lZ:=by intro a_step_home;kernel_rfl
theorem qc:bc (["group","steps"]:List Str) (["group","steps"]:List Str) (ax fq):=⟨rfl,rfl,rfl,by decide +kernel,rfl,by decide +kernel,by decide +kernel⟩
theorem qh : ∀ (a_step_home:Addr),cB (T19 a_step_home) 80 (["group","steps"]:List Str) (ax eQ).names (aT eQ)=some kQ:=by intro a_step_home;kernel_rfl
theorem pv:bc (["group","steps"]:List Str) (["group","steps"]:List Str) (ax eQ):=⟨rfl,rfl,rfl,by decide +kernel,rfl,by decide +kernel,by decide +kernel⟩
theorem JP : ∀ (a_step_home:Addr),cB (T20 a_step_home) 80 (["group","steps","last","thing"]:List Str) (ax qN).names (aT qN)=some va:=by intro a_step_home;kernel_rfl
theorem GC:bc (["group","steps","last","thing"]:List Str) (["group","steps"]:List Str) (ax qN):=⟨rfl,rfl,rfl,by decide +kernel,rfl,by decide +kernel,by decide +kernel⟩
theorem EJ : ∀ (a_step_home:Addr),cB (T21 a_step_home) 80 (["group","things","found","waiting","place","thing","onward"]:List Str) (ax oB).names (aT oB)=some zt:=by intro a_step_home;kernel_rfl
theorem CZ:bc (["group","things","found","waiting","place","thing","onward"]:List Str) (["group","things"]:List Str) (ax oB):=⟨rfl,rfl,rfl,by decide +kernel,rfl,by decide +kernel,by decide +kernel⟩
theorem IZ : ∀ (a_step_home:Addr),cB (T22 a_step_home) 80 (["group","things"]:List Str) (ax qQ).names (aT qQ)=some Cn:=by intro a_step_home;kernel_rfl
theorem GL:bc (["group","things"]:List Str) (["group","things"]:List Str) (ax qQ):=⟨rfl,rfl,rfl,by decide +kernel,rfl,by decide +kernel,by decide +kernel⟩
theorem Be : ∀ (a_step_home:Addr),cB (T23 a_step_home) 80 (["group","steps"]:List Str) (ax jU).names (aT jU)=some ud:=by intro a_step_home;kernel_rfl
theorem yO:bc (["group","steps"]:List Str) (["group","steps"]:List Str) (ax jU):=⟨rfl,rfl,rfl,by decide +kernel,rfl,by decide +kernel,by decide +kernel⟩
theorem oa : ∀ (a_step_home:Addr),cB (T24 a_step_home) 80 (["value","many"]:List Str) (ax d8).names (aT d8)=some jC:=by intro a_step_home;kernel_rfl
theorem nH:bc (["value","many"]:List Str) (["value","many"]:List Str) (ax d8):=⟨rfl,rfl,rfl,by decide +kernel,rfl,by decide +kernel,by decide +kernel⟩
theorem nh : ∀ (a_step_home:Addr),cB (T25 a_step_home) 80 (["value","many"]:List Str) (ax dM).names (aT dM)=some iK:=by intro a_step_home;kernel_rfl
theorem md:bc (["value","many"]:List Str) (["value","many"]:List Str) (ax dM):=⟨rfl,rfl,rfl,by decide +kernel,rfl,by decide +kernel,by decide +kernel⟩
theorem uK : ∀ (a_step_home:Addr),cB (T26 a_step_home) 80 (["group","steps","thing"]:List Str) (ax gD).names (aT gD)=some n0:=by intro a_step_home;kernel_rfl
theorem tz:bc (["group","steps","thing"]:List Str) (["group","steps","thing"]:List Str) (ax gD):=⟨rfl,rfl,rfl,by decide +kernel,rfl,by decide +kernel,by decide +kernel⟩
theorem vL : ∀ (a_step_home:Addr),cB (T27 a_step_home) 80 (["group"]:List Str) (ax gK).names (aT gK)=some n8:=by intro a_step_home;kernel_rfl
theorem tD:bc (["group"]:List Str) (["group"]:List Str) (ax gK):=⟨rfl,rfl,rfl,by decide +kernel,rfl,by decide +kernel,by decide +kernel⟩
theorem o3 : ∀ (a_step_home:Addr),cB (T28 a_step_home) 80 (["group","come_to"]:List Str) (ax eD).names (aT eD)=some j6:=by intro a_step_home;kernel_rfl
theorem oN:bc (["group","come_to"]:List Str) (["group","come_to"]:List Str) (ax eD):=⟨rfl,rfl,rfl,by decide +kernel,rfl,by decide +kernel,by decide +kernel⟩
theorem rC : ∀ (a_step_home:Addr),cB (T29 a_step_home) 80 (["group","thing"]:List Str) (ax fm).names (aT fm)=some mj:=by intro a_step_home;kernel_rfl
theorem qf:bc (["group","thing"]:List Str) (["group","thing"]:List Str) (ax fm):=⟨rfl,rfl,rfl,by decide +kernel,rfl,by decide +kernel,by decide +kernel⟩
theorem CB : ∀ (a_step_home:Addr),cB (T30 a_step_home) 80 (["group","steps","thing"]:List Str) (ax lP).names (aT lP)=some wI:=by intro a_step_home;kernel_rfl
theorem A2:bc (["group","steps","thing"]:List Str) (["group","steps","thing"]:List Str) (ax lP):=⟨rfl,rfl,rfl,by decide +kernel,rfl,by decide +kernel,by decide +kernel⟩
theorem sN : ∀ (a_step_home:Addr),cB (T31 a_step_home) 80 (["group","walk","come_to"]:List Str) (ax fX).names (aT fX)=some nB:=by intro a_step_home;kernel_rfl
theorem qO:bc (["group","walk","come_to"]:List Str) (["group","walk"]:List Str) (ax fX):=⟨rfl,rfl,rfl,by decide +kernel,rfl,by decide +kernel,by decide +kernel⟩
theorem yw : ∀ (a_step_home:Addr),cB (T32 a_step_home) 80 (["group","steps","thing"]:List Str) (ax jh).names (aT jh)=some rS:=by intro a_step_home;kernel_rfl
theorem wN:bc (["group","steps","thing"]:List Str) (["group","steps","thing"]:List Str) (ax jh):=⟨rfl,rfl,rfl,by decide +kernel,rfl,by decide +kernel,by decide +kernel⟩
theorem xr : ∀ (a_step_home:Addr),cB (T33 a_step_home) 80 (["group","steps","walk","there","every","last"]:List Str) (ax ig).names (aT ig)=some lT:=by intro a_step_home;kernel_rfl
theorem vj:bc (["group","steps","walk","there","every","last"]:List Str) (["group","steps"]:List Str) (ax ig):=⟨rfl,rfl,rfl,by decide +kernel,rfl,by decide +kernel,by decide +kernel⟩
theorem E9 : ∀ (a_step_home:Addr),cB (T34 a_step_home) 80 (["group","things","product","thing"]:List Str) (ax nY).names (aT nY)=some Ao:=by intro a_step_home;kernel_rfl
theorem CT:bc (["group","things","product","thing"]:List Str) (["group","things"]:List Str) (ax nY):=⟨rfl,rfl,rfl,by decide +kernel,rfl,by decide +kernel,by decide +kernel⟩
theorem zb : ∀ (a_step_home:Addr),cB (T35 a_step_home) 80 (["group","thing","product","taken"]:List Str) (ax ja).names (aT ja)=some nM:=by intro a_step_home;kernel_rfl
theorem xI:bc (["group","thing","product","taken"]:List Str) (["group","thing"]:List Str) (ax ja):=⟨rfl,rfl,rfl,by decide +kernel,rfl,by decide +kernel,by decide +kernel⟩
theorem sM : ∀ (a_step_home:Addr),cB (T36 a_step_home) 80 (["group","most"]:List Str) (ax fY).names (aT fY)=some nC:=by intro a_step_home;kernel_rfl
theorem qX:bc (["group","most"]:List Str) (["group","most"]:List Str) (ax fY):=⟨rfl,rfl,rfl,by decide +kernel,rfl,by decide +kernel,by decide +kernel⟩
theorem DX : ∀ (a_step_home:Addr),cB (T37 a_step_home) 80 (["group","steps","place","left","tried"]:List Str) (ax mm).names (aT mm)=some vY:=by intro a_step_home;kernel_rfl
theorem Bn:bc (["group","steps","place","left","tried"]:List Str) (["group","steps","place","left"]:List Str) (ax mm):=⟨rfl,rfl,rfl,by decide +kernel,rfl,by decide +kernel,by decide +kernel⟩
theorem Bb : ∀ (a_step_home:Addr),cB (T38 a_step_home) 80 (["things","thing"]:List Str) (ax jX).names (aT jX)=some tV:=by intro a_step_home;kernel_rfl
theorem yU:bc (["things","thing"]:List Str) (["things","thing"]:List Str) (ax jX):=⟨rfl,rfl,rfl,by decide +kernel,rfl,by decide +kernel,by decide +kernel⟩
theorem vV : ∀ (a_step_home:Addr),∀ g φ ψ,cB ⟨("least_end",ψ)::(T39 a_step_home).D,(T39 a_step_home).C,[("last",g,φ)],(T39 a_step_home).H,false,(T39 a_step_home).Z⟩ 80 (["group","steps","place","left","last","step","onward","end"]:List Str) (ax iu).names (aT iu)=some (pD g φ ψ):=by intro a_step_home;intro g φ ψ;kernel_rfl
theorem u7:bc (["group","steps","place","left","last","step","onward","end"]:List Str) (["group","steps","place","left","last"]:List Str) (ax iu):=⟨rfl,rfl,rfl,by decide +kernel,rfl,by decide +kernel,by decide +kernel⟩
theorem qZ : ∀ (a_step_home:Addr),cB (T40 a_step_home) 80 (["group"]:List Str) (ax fw).names (aT fw)=some mB:=by intro a_step_home;kernel_rfl
theorem pY:bc (["group"]:List Str) (["group"]:List Str) (ax fw):=⟨rfl,rfl,rfl,by decide +kernel,rfl,by decide +kernel,by decide +kernel⟩
theorem sW : ∀ (a_step_home:Addr),cB ⟨("least_end",iz a_step_home dA)::(T41 a_step_home).D,(T41 a_step_home).C,[],(T41 a_step_home).H,false,(T41 a_step_home).Z⟩ 80 (["group","steps"]:List Str) (ax fU).names (aT fU)=some (jK a_step_home):=by intro a_step_home;kernel_rfl
theorem rE:bc (["group","steps"]:List Str) (["group","steps"]:List Str) (ax fU):=⟨rfl,rfl,rfl,by decide +kernel,rfl,by decide +kernel,by decide +kernel⟩
theorem Nh : ∀ (a_step_home:Addr),cB (T42 a_step_home) 80 (["script","k","state","group","steps","one","two"]:List Str) (ax z4).names (aT z4)=some (GY a_step_home):=by intro a_step_home;kernel_rfl
theorem J8:bc (["script","k","state","group","steps","one","two"]:List Str) (["script"]:List Str) (ax z4):=⟨rfl,rfl,rfl,by decide +kernel,rfl,by decide +kernel,by decide +kernel⟩
theorem chain {P:Program}{w:World}{K:av}{mg:Str->Option Value}{h:Heap}{a_step_home:Addr} (X:K.In h) (Gn:h.Ns mainGlobals mg) (B : ∀ x∈j5,gc K mainGlobals x=some none) (h_step_home:mg "step_home"=some (.ref a_step_home)) (kc0 : ∃ t,gc K mainGlobals "MOST_TO_FIND"=some (some (.int 12 t)))
  (D0:Def K "undone" my) (D1:Def K "step_home" iy) (D2:Def K "_law_cell_at" fZ) (D3:Def K "_law_state" il) (D4:Def K "_law_clock" ip) (D5:Def K "_law_take" iX) (D6:Def K "_law_named" ib) (D7:Def K "_law_both" i9) (D8:Def K "_law_order" iq) (D9:Def K "_law_plain" ie) (D10:Def K "_law_steps" ij) (D11:Def K "is_plain" i6) (D12:Def K "refuse_not_plain" dU) (D13:Def K "taken_to_meet" eP) (D14:Def K "back" sg) (D15:Def K "threaded" iZ) (D16:Def K "places" lE) (D17:Def K "snake" oI) (D18:Def K "undone_steps" fq) (D19:Def K "_law_all_steps" eQ) (D20:Def K "home" qN) (D21:Def K "roads" oB) (D22:Def K "span" qQ) (D23:Def K "reaches" jU) (D24:Def K "is_number_below" d8) (D25:Def K "are_numbers_below" dM) (D26:Def K "is_walk_by" gD) (D27:Def K "all_things" gK) (D28:Def K "are_all_things" eD) (D29:Def K "goes_through" fm) (D30:Def K "is_way" lP) (D31:Def K "comes_round" fX) (D32:Def K "is_round" jh) (D33:Def K "_law_right" ig) (D34:Def K "along" nY) (D35:Def K "order_of" ja) (D36:Def K "refuse_more" fY) (D37:Def K "goings" mm) (D38:Def K "all_but" jX) (D39:Def K "least_end" iu) (D40:Def K "all_but_home" fw) (D41:Def K "least_round" fU) : ∀ (caps:List U) (capv:List V) (cds:List (Addr×Obj)) (base:Heap),kj mg base->TOk ⟨P,w,⟨K,caps,capv,cds,[]⟩,mg,base,none⟩ (T42 a_step_home) 55:=by
 have C0:Ch P w K mg [] (T0 a_step_home) 0:=⟨λ_ _ _ _ _=>TOk.fv (TOk.con (TOk.nil X Gn B) X Gn kc0) h_step_home,(λ_ _ _ _ _ _ _ z=>by cases z),(λ_ _ _ _ _ _ _ z=>by cases z)⟩
 have C1:Ch P w K mg _ (T1 a_step_home) 1:=C0.dfn C0.o rfl X Gn D0 Bl (λ_ _ _ _ _ _=>us2 λ_ _=>rfl) (Dv a_step_home)
 have C2:Ch P w K mg _ (T2 a_step_home) 2:=C1.dfn C1.o rfl X Gn D1 vc (λ_ _ _ _ _ _=>us3 λ_ _ _=>rfl) (vZ a_step_home)
 have C3:Ch P w K mg _ (T3 a_step_home) 3:=C2.dfn C2.o rfl X Gn D2 qW (λ_ _ _ _ _ _=>us2 λ_ _=>rfl) (tw a_step_home)
 have C4:Ch P w K mg _ (T4 a_step_home) 4:=C3.dfn C3.o rfl X Gn D3 vn (λ_ _ _ _ _ _=>us2 λ_ _=>rfl) (xw a_step_home)
 have C5:Ch P w K mg _ (T5 a_step_home) 5:=C4.dfn C4.o rfl X Gn D4 uJ (λ_ _ _ _ _ _=>us1 λ_=>rfl) (wX a_step_home)
 have C6:Ch P w K mg _ (T6 a_step_home) 6:=C5.dfn C5.o rfl X Gn D5 vX (λ_ _ _ _ _ _=>us2 λ_ _=>rfl) (zi a_step_home)
 have C7:Ch P w K mg _ (T7 a_step_home) 7:=C6.dfn C6.o rfl X Gn D6 vK (λ_ _ _ _ _ _=>us2 λ_ _=>rfl) (xx a_step_home)
 have C8:Ch P w K mg _ (T8 a_step_home) 8:=C7.dfn C7.o rfl X Gn D7 wB (λ_ _ _ _ _ _=>us2 λ_ _=>rfl) (zh a_step_home)
 have C9:Ch P w K mg _ (T9 a_step_home) 9:=C8.dfn C8.o rfl X Gn D8 vI (λ_ _ _ _ _ _=>us2 λ_ _=>rfl) (xb a_step_home)
 have C10:Ch P w K mg _ (T10 a_step_home) 10:=C9.dfn C9.o rfl X Gn D9 vC (λ_ _ _ _ _ _=>us2 λ_ _=>rfl) (xp a_step_home)
 have C11:Ch P w K mg _ (T11 a_step_home) 11:=C10.dfn C10.o rfl X Gn D10 uL (λ_ _ _ _ _ _=>us3 λ_ _ _=>rfl) (xf a_step_home)
 have C12:Ch P w K mg _ (T12 a_step_home) 12:=C11.dfn C11.o rfl X Gn D11 wL (λ_ _ _ _ _ _=>us1 λ_=>rfl) (y9 a_step_home)
 have C13:Ch P w K mg _ (T13 a_step_home) 13:=C12.dfn C12.o rfl X Gn D12 nj (λ_ _ _ _ _ _=>us1 λ_=>rfl) (nS a_step_home)
 have C14:Ch P w K mg _ (T14 a_step_home) 14:=C13.dfn C13.o rfl X Gn D13 o7 (λ_ _ _ _ _ _=>us3 λ_ _ _=>rfl) (pZ a_step_home)
 have C15:Ch P w K mg _ (T15 a_step_home) 15:=C14.dfn C14.o rfl X Gn D14 FQ (λ_ _ _ _ _ _=>us2 λ_ _=>rfl) (Ic a_step_home)
 have C16:Ch P w K mg _ (T16 a_step_home) 16:=C15.dfn C15.o rfl X Gn D15 wZ (λ_ _ _ _ _ _=>us4 λ_ _ _ _=>rfl) (yk a_step_home)
 have C17:Ch P w K mg _ (T17 a_step_home) 17:=C16.dfn C16.o rfl X Gn D16 Bg (λ_ _ _ _ _ _=>us2 λ_ _=>rfl) (Dn a_step_home)
 have C18:Ch P w K mg _ (T18 a_step_home) 18:=C17.dfn C17.o rfl X Gn D17 Ds (λ_ _ _ _ _ _=>us2 λ_ _=>rfl) (EV a_step_home)
 have C19:Ch P w K mg _ (T19 a_step_home) 19:=C18.dfn C18.o rfl X Gn D18 qc (λ_ _ _ _ _ _=>us2 λ_ _=>rfl) (sd a_step_home)
 have C20:Ch P w K mg _ (T20 a_step_home) 20:=C19.dfn C19.o rfl X Gn D19 pv (λ_ _ _ _ _ _=>us2 λ_ _=>rfl) (qh a_step_home)
 have C21:Ch P w K mg _ (T21 a_step_home) 21:=C20.dfn C20.o rfl X Gn D20 GC (λ_ _ _ _ _ _=>us2 λ_ _=>rfl) (JP a_step_home)
 have C22:Ch P w K mg _ (T22 a_step_home) 22:=C21.dfn C21.o rfl X Gn D21 CZ (λ_ _ _ _ _ _=>us2 λ_ _=>rfl) (EJ a_step_home)
 have C23:Ch P w K mg _ (T23 a_step_home) 23:=C22.dfn C22.o rfl X Gn D22 GL (λ_ _ _ _ _ _=>us2 λ_ _=>rfl) (IZ a_step_home)
 have C24:Ch P w K mg _ (T24 a_step_home) 24:=C23.dfn C23.o rfl X Gn D23 yO (λ_ _ _ _ _ _=>us2 λ_ _=>rfl) (Be a_step_home)
 have C25:Ch P w K mg _ (T25 a_step_home) 25:=C24.dfn C24.o rfl X Gn D24 nH (λ_ _ _ _ _ _=>us2 λ_ _=>rfl) (oa a_step_home)
 have C26:Ch P w K mg _ (T26 a_step_home) 26:=C25.dfn C25.o rfl X Gn D25 md (λ_ _ _ _ _ _=>us2 λ_ _=>rfl) (nh a_step_home)
 have C27:Ch P w K mg _ (T27 a_step_home) 27:=C26.dfn C26.o rfl X Gn D26 tz (λ_ _ _ _ _ _=>us3 λ_ _ _=>rfl) (uK a_step_home)
 have C28:Ch P w K mg _ (T28 a_step_home) 28:=C27.dfn C27.o rfl X Gn D27 tD (λ_ _ _ _ _ _=>us1 λ_=>rfl) (vL a_step_home)
 have C29:Ch P w K mg _ (T29 a_step_home) 29:=C28.dfn C28.o rfl X Gn D28 oN (λ_ _ _ _ _ _=>us2 λ_ _=>rfl) (o3 a_step_home)
 have C30:Ch P w K mg _ (T30 a_step_home) 30:=C29.dfn C29.o rfl X Gn D29 qf (λ_ _ _ _ _ _=>us2 λ_ _=>rfl) (rC a_step_home)
 have C31:Ch P w K mg _ (T31 a_step_home) 31:=C30.dfn C30.o rfl X Gn D30 A2 (λ_ _ _ _ _ _=>us3 λ_ _ _=>rfl) (CB a_step_home)
 have C32:Ch P w K mg _ (T32 a_step_home) 32:=C31.dfn C31.o rfl X Gn D31 qO (λ_ _ _ _ _ _=>us2 λ_ _=>rfl) (sN a_step_home)
 have C33:Ch P w K mg _ (T33 a_step_home) 33:=C32.dfn C32.o rfl X Gn D32 wN (λ_ _ _ _ _ _=>us3 λ_ _ _=>rfl) (yw a_step_home)
 have C34:Ch P w K mg _ (T34 a_step_home) 34:=C33.dfn C33.o rfl X Gn D33 vj (λ_ _ _ _ _ _=>us2 λ_ _=>rfl) (xr a_step_home)
 have C35:Ch P w K mg _ (T35 a_step_home) 35:=C34.dfn C34.o rfl X Gn D34 CT (λ_ _ _ _ _ _=>us2 λ_ _=>rfl) (E9 a_step_home)
 have C36:Ch P w K mg _ (T36 a_step_home) 36:=C35.dfn C35.o rfl X Gn D35 xI (λ_ _ _ _ _ _=>us2 λ_ _=>rfl) (zb a_step_home)
 have C37:Ch P w K mg _ (T37 a_step_home) 37:=C36.dfn C36.o rfl X Gn D36 qX (λ_ _ _ _ _ _=>us2 λ_ _=>rfl) (sM a_step_home)
 have C38:Ch P w K mg _ (T38 a_step_home) 38:=C37.dfn C37.o rfl X Gn D37 Bn (λ_ _ _ _ _ _=>us4 λ_ _ _ _=>rfl) (DX a_step_home)
 have C39:Ch P w K mg _ (T39 a_step_home) 39:=C38.dfn C38.o rfl X Gn D38 yU (λ_ _ _ _ _ _=>us2 λ_ _=>rfl) (Bb a_step_home)
 have C40:Ch P w K mg _ (T40 a_step_home) 53:=C39.mono (by decide)
 have E_least_end_step_home : ∀ (caps:List U) (capv:List V) (cds:List (Addr×Obj)) (base:Heap),kj mg base->Fn ⟨P,w,⟨K,caps,capv,cds,[]⟩,mg,base,none⟩ "least_end" 53 (["group","steps","place","left","last"]:List Str) (iz a_step_home dA):=fun caps capv cds base hbb=>by
  obtain⟨k',ps',hk,Fv⟩:=(C39.o caps capv cds base hbb).D "step_home" dA rfl
  have OL:TOk ⟨P,w,⟨K,caps,capv,cds,[]⟩,mg,base,none⟩ ⟨(T39 a_step_home).D,(T39 a_step_home).C,[("last",a_step_home,dA)],(T39 a_step_home).H,false,(T39 a_step_home).Z⟩ 39:=(C39.o caps capv cds base hbb).lam (Fv.lam h_step_home) hk
  exact D39.fnR (M:=⟨P,w,⟨K,caps,capv,cds,[]⟩,mg,base,none⟩) OL rfl rfl X Gn u7 (λ_ _ _ _ _ _=>us5 λ_ _ _ _ _=>rfl) (vV a_step_home a_step_home dA) 14
 have C41:Ch P w K mg _ (T41 a_step_home) 54:=C40.dfn C40.o rfl X Gn D40 pY (λ_ _ _ _ _ _=>us1 λ_=>rfl) (qZ a_step_home)
 have C42:Ch P w K mg _ (T42 a_step_home) 55:=C41.dfn (T':=⟨("least_end",iz a_step_home dA)::(T41 a_step_home).D,(T41 a_step_home).C,[],(T41 a_step_home).H,false,(T41 a_step_home).Z⟩) (fun caps capv cds base hbb=>((C41.o caps capv cds base hbb).cons ((E_least_end_step_home caps capv cds base hbb).mono (k:=54) (by decide)) (by decide))) rfl X Gn D41 rE (fun _ _ _ _ _ _=>us2 fun _ _=>rfl) (sW a_step_home)
 exact λcaps capv cds base hbb=>(C42.o caps capv cds base hbb)
theorem all_mk {l:m8}{w:World}{K:av}{h:Heap}{mg:Str->Option Value}{fa:Addr}{q:Program} (X:K.In h) (Gn:h.Ns mainGlobals mg) (hfa:mg "law"=some (.ref fa)) (B : ∀ x∈j5,gc K mainGlobals x=some none) (kc0 : ∃ t,gc K mainGlobals "MOST_TO_FIND"=some (some (.int 12 t)))
  (D0:Def K "undone" my) (D1:Def K "step_home" iy) (D2:Def K "_law_cell_at" fZ) (D3:Def K "_law_state" il) (D4:Def K "_law_clock" ip) (D5:Def K "_law_take" iX) (D6:Def K "_law_named" ib) (D7:Def K "_law_both" i9) (D8:Def K "_law_order" iq) (D9:Def K "_law_plain" ie) (D10:Def K "_law_steps" ij) (D11:Def K "is_plain" i6) (D12:Def K "refuse_not_plain" dU) (D13:Def K "taken_to_meet" eP) (D14:Def K "back" sg) (D15:Def K "threaded" iZ) (D16:Def K "places" lE) (D17:Def K "snake" oI) (D18:Def K "undone_steps" fq) (D19:Def K "_law_all_steps" eQ) (D20:Def K "home" qN) (D21:Def K "roads" oB) (D22:Def K "span" qQ) (D23:Def K "reaches" jU) (D24:Def K "is_number_below" d8) (D25:Def K "are_numbers_below" dM) (D26:Def K "is_walk_by" gD) (D27:Def K "all_things" gK) (D28:Def K "are_all_things" eD) (D29:Def K "goes_through" fm) (D30:Def K "is_way" lP) (D31:Def K "comes_round" fX) (D32:Def K "is_round" jh) (D33:Def K "_law_right" ig) (D34:Def K "along" nY) (D35:Def K "order_of" ja) (D36:Def K "refuse_more" fY) (D37:Def K "goings" mm) (D38:Def K "all_but" jX) (D39:Def K "least_end" iu) (D40:Def K "all_but_home" fw) (D41:Def K "least_round" fU) (D42:Def K "law" z4) :
  ∃ (tabs:List (Addr×Str)) (fd:FuncData) (sp:Sp),(∀ r∈tabs,K.lookup r.1=none /\ ∃ x d c,(xX q).find? (fun e=>e.name == x)=some d/\PySem.W.tabIn K x=some (c,r.1))/\(∀ (s:Shared) (v:Value),BindsTo s fd ⟨[v],[]⟩ [("script",v)]) /\
   (∀ base:Heap,K.In base->base.Ns mainGlobals mg->kj mg base->j4 l.prog w K mg base CX0 56 fa fd ["script"] sp) /\ ∀ (H:Hp) (a:Addr) (ns:List Int),ns.length<=63->(∀ r∈tabs,yL H r.1 r.2)->SqL K H a (ns.map V.int)->sp [.ref a] H (fun v _=>v = .bl true) fun _ _ _=>False:=by
 obtain⟨a_step_home,_,e_step_home,_⟩:=D1.ex
 obtain⟨fd,h1,h2⟩:=JI (l:=l) (w:=w) (tabs:= []) X Gn hfa D42 J8 (λ_ _ _ _ _ _=>us1 λ_=>rfl) rfl (λbase hbb=>chain X Gn B (iP X Gn e_step_home) kc0 D0 D1 D2 D3 D4 D5 D6 D7 D8 D9 D10 D11 D12 D13 D14 D15 D16 D17 D18 D19 D20 D21 D22 D23 D24 D25 D26 D27 D28 D29 D30 D31 D32 D33 D34 D35 D36 D37 D38 D39 D40 D41 [] [] [] base hbb) (Nh a_step_home)
 refine⟨[],fd,_,?_,h1,h2,λH a ns hl hT hS=>KZ hT hS λS h1 h2=>CG a_step_home ns hl S h1 h2⟩
 intro r hr
 cases hr
theorem walk{l:m8}{q:Program}{loose:List Str}{XP:(Str->Option Value)->Heap->Prop}{YP:World->Heap->Prop}{d:DefRec}{K:Params->av}(hn:l.most=some 63)(hdf:d.params.defaults = [])
  (hY: ∀(w:World) (h:Heap),YP w h->(K w.params).In h)
  (F: ∀(w:World) (mg:Str->Option Value) (fa:Addr) (h:Heap),(K w.params).In h->h.Ns mainGlobals mg->mg d.name=some (.ref fa) -> ∃(tabs:List (Addr×Str)) (fd:FuncData) (sp:Sp),
   (∀ r∈tabs,(K w.params).lookup r.1=none /\ ∃ x d c,(xX q).find? (fun e=>e.name == x)=some d/\PySem.W.tabIn (K w.params) x=some (c,r.1))/\(∀ (s:Shared) (v:Value),BindsTo s fd ⟨[v],[]⟩ [("script",v)]) /\
   (∀ base:Heap,(K w.params).In base->base.Ns mainGlobals mg->kj mg base->j4 l.prog w (K w.params) mg base CX0 56 fa fd ["script"] sp) /\ ∀ (H:Hp) (a:Addr) (ns:List Int),ns.length<=63->(∀ r∈tabs,yL H r.1 r.2)->SqL (K w.params) H a (ns.map V.int)->sp [.ref a] H (fun v _=>v = .bl true) fun _ _ _=>False) :
  PySem.W.WalkO q loose XP YP l.row.toRowW d [] (λf vs=>PySem.call f vs):=
 Cp (n:=63) (k:=56) (x:="script") hn (by decide) hdf ⟨rfl,by decide,by decide,rfl⟩ hY F
end _W
open PySem PySem.W PyProof.Rows
theorem PySem.W.Fast.tw9627377910608670251 : True := trivial
theorem PySem.W.Fast.tw17570677822908030227 : True := trivial
theorem PySem.W.Fast.tw12659224225422060325 : True := trivial
theorem PySem.W.Fast.tw17140148352278142574 : True := trivial
theorem PySem.W.Fast.tw8149980676001160267 : True := trivial
theorem PySem.W.Fast.tw8843456460415739210 : True := trivial
theorem PySem.W.Fast.tw6571636060035083570 : True := trivial
theorem PySem.W.Fast.tw6192709722307320077 : True := trivial
theorem PySem.W.Fast.tw4546964645990328233 : True := trivial
theorem PySem.W.Fast.tw16921439735936615121 : True := trivial
theorem PySem.W.Fast.tw17122424447458637630 : True := trivial
theorem PySem.W.Fast.tw14506246377523330308 : True := trivial
theorem PySem.W.Fast.tw5320937733450678926 : True := trivial
theorem PySem.W.Fast.tw15777982618040899114 : True := trivial
theorem PySem.W.Fast.tw13717284313814238444 : True := trivial
theorem PySem.W.Fast.tw2633820614913135777 : True := trivial
theorem PySem.W.Fast.tw11128596951759364239 : True := trivial
theorem PySem.W.Fast.tw1966680517169707217 : True := trivial
theorem PySem.W.Fast.tw13982444767210274504 : True := trivial
theorem PySem.W.Fast.tw5682430747040307487 : True := trivial
theorem PySem.W.Fast.tw936008695767563776 : True := trivial
theorem PySem.W.Fast.tw10390142284173682280 : True := trivial
theorem PySem.W.Fast.tw8456179344486500635 : True := trivial
theorem PySem.W.Fast.tw15456697749022803558 : True := trivial
theorem PySem.W.Fast.tw3001304589122359097 : True := trivial
theorem PySem.W.Fast.tw446096248900589880 : True := trivial
theorem PySem.W.Fast.tw11039273892929769900 : True := trivial
theorem PySem.W.Fast.tw13038254744086112518 : True := trivial
theorem PySem.W.Fast.tw17739213594879558978 : True := trivial
theorem PySem.W.Fast.tw10909213625737377743 : True := trivial
theorem PySem.W.Fast.tw8610448526173158350 : True := trivial
theorem PySem.W.Fast.tw6767026897406834644 : True := trivial
set_option maxRecDepth 100000 in
set_option maxHeartbeats 0 in
theorem PySem.Challenge.cw_groupwalks_k74_whole_snakes_holds : PySem.Challenge.rw_groupwalks_k74_whole_snakes.Holds := by
 w_on;o_law;k_head;(case hw=>w_witness2)
 k_fill
 refine _W.walk (l:=PySem.Challenge.rw_groupwalks_k74_whole_snakes) rfl rfl (λw h Y=>PySem.W.kIn_of Y) ?F
 case F=>
  intro w mg fa h KX Gh hmg
  refine' _W.all_mk KX Gh hmg ?B ?con0  (_G.bX ?a0 ?l0 ?c0 ?k0) (_G.bX ?a1 ?l1 ?c1 ?k1) (_G.bX ?a2 ?l2 ?c2 ?k2) (_G.bX ?a3 ?l3 ?c3 ?k3) (_G.bX ?a4 ?l4 ?c4 ?k4) (_G.bX ?a5 ?l5 ?c5 ?k5) (_G.bX ?a6 ?l6 ?c6 ?k6) (_G.bX ?a7 ?l7 ?c7 ?k7) (_G.bX ?a8 ?l8 ?c8 ?k8) (_G.bX ?a9 ?l9 ?c9 ?k9) (_G.bX ?a10 ?l10 ?c10 ?k10) (_G.bX ?a11 ?l11 ?c11 ?k11) (_G.bX ?a12 ?l12 ?c12 ?k12) (_G.bX ?a13 ?l13 ?c13 ?k13) (_G.bX ?a14 ?l14 ?c14 ?k14) (_G.bX ?a15 ?l15 ?c15 ?k15) (_G.bX ?a16 ?l16 ?c16 ?k16) (_G.bX ?a17 ?l17 ?c17 ?k17) (_G.bX ?a18 ?l18 ?c18 ?k18) (_G.bX ?a19 ?l19 ?c19 ?k19) (_G.bX ?a20 ?l20 ?c20 ?k20) (_G.bX ?a21 ?l21 ?c21 ?k21) (_G.bX ?a22 ?l22 ?c22 ?k22) (_G.bX ?a23 ?l23 ?c23 ?k23) (_G.bX ?a24 ?l24 ?c24 ?k24) (_G.bX ?a25 ?l25 ?c25 ?k25) (_G.bX ?a26 ?l26 ?c26 ?k26) (_G.bX ?a27 ?l27 ?c27 ?k27) (_G.bX ?a28 ?l28 ?c28 ?k28) (_G.bX ?a29 ?l29 ?c29 ?k29) (_G.bX ?a30 ?l30 ?c30 ?k30) (_G.bX ?a31 ?l31 ?c31 ?k31) (_G.bX ?a32 ?l32 ?c32 ?k32) (_G.bX ?a33 ?l33 ?c33 ?k33) (_G.bX ?a34 ?l34 ?c34 ?k34) (_G.bX ?a35 ?l35 ?c35 ?k35) (_G.bX ?a36 ?l36 ?c36 ?k36) (_G.bX ?a37 ?l37 ?c37 ?k37) (_G.bX ?a38 ?l38 ?c38 ?k38) (_G.bX ?a39 ?l39 ?c39 ?k39) (_G.bX ?a40 ?l40 ?c40 ?k40) (_G.bX ?a41 ?l41 ?c41 ?k41) (_G.bX ?a42 ?l42 ?c42 ?k42)
  (case con0=>exact⟨_,by k_is⟩)
  case B=>
   intro x hx
   simp only[_G.j5,aO,List.not_mem_nil,or_false]at hx
   rcases hx with rfl |rfl |rfl |rfl |rfl |rfl |rfl |rfl |rfl |rfl |rfl |rfl |rfl |rfl |rfl |rfl |rfl |rfl |rfl |rfl
   all_goals k_is
  (case a0=>k_is);(case l0=>k_is);(case c0=>k_is);(case k0=>k_is)
  (case a1=>k_is);(case l1=>k_is);(case c1=>k_is);(case k1=>k_is)
  (case a2=>k_is);(case l2=>k_is);(case c2=>k_is);(case k2=>k_is)
  (case a3=>k_is);(case l3=>k_is);(case c3=>k_is);(case k3=>k_is)
  (case a4=>k_is);(case l4=>k_is);(case c4=>k_is);(case k4=>k_is)
  (case a5=>k_is);(case l5=>k_is);(case c5=>k_is);(case k5=>k_is)
  (case a6=>k_is);(case l6=>k_is);(case c6=>k_is);(case k6=>k_is)
  (case a7=>k_is);(case l7=>k_is);(case c7=>k_is);(case k7=>k_is)
  (case a8=>k_is);(case l8=>k_is);(case c8=>k_is);(case k8=>k_is)
  (case a9=>k_is);(case l9=>k_is);(case c9=>k_is);(case k9=>k_is)
  (case a10=>k_is);(case l10=>k_is);(case c10=>k_is);(case k10=>k_is)
  (case a11=>k_is);(case l11=>k_is);(case c11=>k_is);(case k11=>k_is)
  (case a12=>k_is);(case l12=>k_is);(case c12=>k_is);(case k12=>k_is)
  (case a13=>k_is);(case l13=>k_is);(case c13=>k_is);(case k13=>k_is)
  (case a14=>k_is);(case l14=>k_is);(case c14=>k_is);(case k14=>k_is)
  (case a15=>k_is);(case l15=>k_is);(case c15=>k_is);(case k15=>k_is)
  (case a16=>k_is);(case l16=>k_is);(case c16=>k_is);(case k16=>k_is)
  (case a17=>k_is);(case l17=>k_is);(case c17=>k_is);(case k17=>k_is)
  (case a18=>k_is);(case l18=>k_is);(case c18=>k_is);(case k18=>k_is)
  (case a19=>k_is);(case l19=>k_is);(case c19=>k_is);(case k19=>k_is)
  (case a20=>k_is);(case l20=>k_is);(case c20=>k_is);(case k20=>k_is)
  (case a21=>k_is);(case l21=>k_is);(case c21=>k_is);(case k21=>k_is)
  (case a22=>k_is);(case l22=>k_is);(case c22=>k_is);(case k22=>k_is)
  (case a23=>k_is);(case l23=>k_is);(case c23=>k_is);(case k23=>k_is)
  (case a24=>k_is);(case l24=>k_is);(case c24=>k_is);(case k24=>k_is)
  (case a25=>k_is);(case l25=>k_is);(case c25=>k_is);(case k25=>k_is)
  (case a26=>k_is);(case l26=>k_is);(case c26=>k_is);(case k26=>k_is)
  (case a27=>k_is);(case l27=>k_is);(case c27=>k_is);(case k27=>k_is)
  (case a28=>k_is);(case l28=>k_is);(case c28=>k_is);(case k28=>k_is)
  (case a29=>k_is);(case l29=>k_is);(case c29=>k_is);(case k29=>k_is)
  (case a30=>k_is);(case l30=>k_is);(case c30=>k_is);(case k30=>k_is)
  (case a31=>k_is);(case l31=>k_is);(case c31=>k_is);(case k31=>k_is)
  (case a32=>k_is);(case l32=>k_is);(case c32=>k_is);(case k32=>k_is)
  (case a33=>k_is);(case l33=>k_is);(case c33=>k_is);(case k33=>k_is)
  (case a34=>k_is);(case l34=>k_is);(case c34=>k_is);(case k34=>k_is)
  (case a35=>k_is);(case l35=>k_is);(case c35=>k_is);(case k35=>k_is)
  (case a36=>k_is);(case l36=>k_is);(case c36=>k_is);(case k36=>k_is)
  (case a37=>k_is);(case l37=>k_is);(case c37=>k_is);(case k37=>k_is)
  (case a38=>k_is);(case l38=>k_is);(case c38=>k_is);(case k38=>k_is)
  (case a39=>k_is);(case l39=>k_is);(case c39=>k_is);(case k39=>k_is)
  (case a40=>k_is);(case l40=>k_is);(case c40=>k_is);(case k40=>k_is)
  (case a41=>k_is);(case l41=>k_is);(case c41=>k_is);(case k41=>k_is)
  (case a42=>k_is);(case l42=>k_is);(case c42=>k_is);(case k42=>k_is)
