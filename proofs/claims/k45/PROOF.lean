import PyProof.Rows.All
import Wide.All
import OpenK.AllK
import Wide.FinOn
import Lean
import PyProof.EqAt
import PyProof.EqKinds
import PyProof.TupleCall
import PyProof.EnumStmt
import PyProof.EnumMake
import PyProof.EnumFor
import PyProof.ZipIter
import PyProof.SetKind
import PyProof.Rows.SetFrom
import PyProof.CompFree
import PyProof.CompMap
import PyProof.Cells
import PyProof.ListMulRoad
import PyProof.ConsumeWalk
import PyProof.TupleOfGen
import PyProof.ListRange
import PySem.Challenge.RW_groupwalks_k45_whole_walks_found
set_option bootstrap.genMatcherCode false
set_option Elab.async false
set_option linter.all false
set_option maxRecDepth 100000
set_option maxHeartbeats 0
set_option compiler.postponeCompile true
set_option bootstrap.genMatcherCode false
set_option genSizeOfSpec false
set_option relaxedAutoImplicit false
set_option compiler.extract_closed false
theorem au1(h:0=0:=by rfl):0=0:=h
theorem au2(h:0=0:=by decide):0=0:=h
theorem au3(h:Nat->0=0:=by intro _;rfl):0=0:=h 0
theorem au4(h:0=0\/0=1:=by first |exact .inl rfl |exact .inr rfl |assumption):0=0:=rfl
noncomputable section
open Array renaming length_toList→cK,getElem?_eq_some_iff→kY,getElem?_toList→pH,toList_append→Ha
open Bool renaming and_eq_true→aA,false_ne_true→bz,false_eq_true→d4,not_true→iy,and_true→iA,true_and→tj
open Classical renaming propDecidable→cN,byContradiction→kB
open False renaming elim→cX
open ForInStep renaming yield→dO
open Function renaming comp→yp
open Int renaming ofNat_lt→fU,natCast_emod→oH,toNat→so,emod_lt_of_pos→vA,natCast_nonneg→vB,natCast_ediv→ym,emod_nonneg→z8,natCast_add→z9,eq_ofNat_of_zero_le→DY
open List renaming getElem?_eq_some_iff→ah,length_map→ak,mem_cons_of_mem→aw,getElem?_append_right→az,range→aB,size_toArray→aD,mem_map→aH,getElem?_set_ne→aJ,mem_cons→aK,lookup_cons→aL,map_congr_left→aM,range'→aO,getElem?_append_left→aS,mem_cons_self→aU,length_append→aV,append_assoc→aW,mem_append_right→aY,getElem?_set_self→aZ,mem_append_left→bb,length_cons→bg,mem_append→bo,mem_range→bp,mem_filter→bu,getElem?_eq_getElem→bw,length_range→bB,map_cons→bE,map_map→bF,nodup_iff_pairwise_ne→bL,getElem?_map→bO,all_eq_true→bP,mem_singleton→bR,all_cons→b9,length_nil→cg,map_append→cj,replicate→cq,find?_cons→cJ,pairwise_map→cQ,mem_of_getElem?→cY,eq_nil_of_length_eq_zero→dw,length_filter_le→dC,findIdx?_eq_some_iff_getElem→dN,mem_range'_1→dQ,take_of_length_le→dR,nil_append→dW,take_append_of_le_length→eh,nodup_append→eA,length_eq_zero_iff→eB,nodup_cons→eC,nodup_range'→eY,getElem_mem→fk,mem_reverse→fo,length_set→fW,range_succ→fY,set_append_right→gf,length_take→hC,length_drop→hJ,filterMap_cons→h9,flatMap_append→ie,any_cons→ix,append_nil→iB,lookup_append→iE,getElem?_replicate→iO,filter_cons_of_pos→iQ,filter_cons_of_neg→iR,foldl_append→jg,take_add_one→jh,all_nil→ji,not_mem_nil→jy,dropLast_concat→jT,forIn_cons→kg,filter_eq_self→kz,findSome?_cons→kA,zip_cons_cons→la,length_range'→lg,drop_eq_getElem_cons→lX,getElem?_eq_none_iff→lY,filter_congr→mn,map_id→mq,idxOf_lt_length_iff→mB,range'_succ→oh,drop_length→oi,nodup_range→om,map→oo,flatMap_eq_nil_iff→oq,map_nil→oY,length_pos_of_mem→oZ,of_mem_zip→pE,length_replicate→pL,mem_of_mem_head?→pQ,lookup→qN,range_eq_range'→qO,drop_zero→qP,mem_of_mem_take→qQ,length_reverse→si,getElem_of_mem→sk,map_take→s9,pairwise_cons→tR,take_sublist→vC,reverse_cons→vE,eraseIdxIfInBounds_toArray→wg,any_eq_true→xh,mem_flatMap→xi,foldl_cons→yo,getD_eq_getElem?_getD→Af,perm_ext_iff_of_nodup→Ag,range'_eq_map_range→Cq,length_erase_of_mem→Cr,eraseIdx_cons_succ→DQ,getElem?_cons_succ→DS,getElem?_cons_zero→DT,pairwise_lt_range→DW,range_succ_eq_map→DX,drop_of_length_le→DZ,map_id'→Ea,dropLast_eq_take→GY,getElem?_eq_none→G2,take_append_drop→G3,length→G6,getElem_toArray→G9,map_eq_cons_iff→Hb,mem_of_mem_drop→Hd
open List.Pairwise renaming nil→hX,imp_of_mem→jX
open List.Perm renaming trans→Hc
open Nat renaming lt_of_lt_of_le→ai,le_refl→aq,lt_of_le_of_lt→ay,le_trans→aF,ne_of_lt→aT,le_of_lt→ba,mod_eq_of_lt→bC,le_of_not_lt→bX,lt_irrefl→cf,add_pos_left→cu,lt_succ_self→cM,lt_trans→cR,zero_le→dc,ne_of_gt→dk,le_add_right→dm,le_of_lt_succ→dy,le_succ→dJ,lt_succ_of_lt→dU,zero_add→eM,add_assoc→ff,div_eq_of_lt→hZ,sub_le→iP,mul_le_mul_right→jW,min_le_left→ky,add_sub_cancel'→kE,mul_comm→kZ,lt_of_le_of_ne→lR,le_succ_of_le→mx,add_mod_right→my,sub_sub_right→mz,sub_add_comm→oG,mod_self→pJ,add_comm→pK,mod_add_mod→pN,min_eq_left→pO,le_antisymm→pP,mul_le_mul_left→sZ,mod_lt→vt,lt_of_lt_of_eq→vv,le_of_eq→wj,add_zero→wk,sub_self→GZ,lt_of_succ_lt_succ→G0
open Nat.succ renaming inj→Ae
open Ne renaming symm→eG
open Option renaming bind_some→ag,map_some→aR,map_eq_some_iff→fB,isSome_iff_exists→ic,isSome_map→lQ,isSome_some→G8
open Option.some renaming inj→bx,injEq→fC
open PUnit renaming unit→sY
open Prod renaming fst→vD
open PyProof.Rows renaming callWith_type1→cz,slot_tuple_getitem→eS,boot_tuple→kD,recsOf→ot,callWith_builtin1→qM
open PyProof.Rows.F renaming plain_set_update_loop→fX,entry_set_update_loop→mw
open PyProof.Rows.IsTup renaming new→Cm
open PySem renaming wpAny_bind→ae,wpAny_pure→ax,wpAny→aI,Addr→bf,mem_of_lookup→b0,wpAny_newObj_type→cp,codeAny_builtin→cw,wpAny_mono→dj,wpAny_truthy_bool→dE,wpAny_holding→dI,wpAny_Call_Name_kw→ek,wpAny_call_entry→fT,wpAny_of_eq→f9,wpAny_passesOwn→gM,codeAny_mono→iC,wpAny_field→ju,wpAny_callSpecial?_slot→jv,wpAny_loadPart'→lN,codeAny→md,wpAny_typeOf→mm,wpAny_runValue→nF,wpAny_pyIter_list→oX,wpAny_execs_nil→sg,wpAny_specialOf→sh,wpAny_updateSeq→sj,wpAny_tryCatch→vp,wpAny_rule→yk,wpAny_assign_Name→z5,wpAny_forIn_list→Bi,wpAny_isInstance→Bj,codeAny_of_tree→DR,wpAny_load→GT,wpAny_setField→GW,wpAny_seqItems→GX
open PySem.Around renaming under_plainId→bK,frames_deeper→DV
open PySem.AutoSeq1 renaming sub_tuple_tuple→yn
open PySem.Builtin.Builtins renaming bindParams→qL
open PySem.Builtin.List renaming listTooLong→kf,listExtendWith→sX,listSameRef→vF
open PySem.Builtin.Range renaming rangeSize→dX,small→nG
open PySem.Builtin.Slice renaming slicePlaces→fV,sliceAdjust→jR,sliceApplied→sR
open PySem.Builtin.SmallTypes renaming newClass→pI
open PySem.Builtin.Tuple renaming tupleExact→dS,tupleCompareSizes→pM,tupleItemsOf→sU,tupleIsExact→sW
open PySem.Calls renaming spliced_cons→kX,callWith_builtin→oE,evalArgs_plain→qK,spliced_nil→vn,Name_function_global→z4,call_function_entry→Ad
open PySem.F renaming plain_min_loop→eI,plain_list_iadd→gQ,plainAttrs_list→iz,args_tuple_add_2→lO,entry_tuple_add→mj,slot_tuple_add→nD,entry_min_loop→nE,entry_proto_collect→rO,plain_proto_collect→rQ,entry_list_iadd→yl,slot_tuple_index→z7,plain_set_new→Cn,slot_list_pop→Co,type_list_pop→Cp
open PySem.Heap renaming get?_push_of_some→ar,get?_push_size→aC,lt_size→aG,size_push→bA,get?_update_other→ck,get?_update_self→dB,SameBut→g9
open PySem.Heap.SameBut renaming update→jo
open PySem.IsL renaming update→GV
open PySem.NameKind renaming free→aQ,cell→cD
open PySem.Obj renaming mapSeq→d5,data_mapFields→lP,isFreed_of_fields→G7
open PySem.Paired renaming length→Aa
open PySem.PassesOwn renaming never→vq
open PySem.PyData renaming eqvAll→gh,int→iF,eqv→iG,canLay0→iY,depthAll→jS,depth→kh,eqv→kC,canLayAll0→lT
open PySem.SeqAt.EqAt renaming int_str→Ci,str_int→Cj,int_int→Ck
open PySem.SetTable renaming below→bV,grown→gc,has→Ab
open PySem.SetTable.below renaming go→hU
open PySem.SetTable.probe renaming go→z6
open PySem.Shared renaming TypeIs→Ac
open PySem.Str renaming ofString→pG
open PySem.Value renaming ref→bj,none→jx,int→nC,bool→oC,isInt_shape→vm,str→wc,type→z3,notImplemented→GU
open PySem.W renaming Frag→av,fnOf→cx,keepIn→cW,kia_one→dA,nsIn→dY,mg_of→fF,codeIn→gv,cellsFrom_some→iN,OpenLaw→oj,callWith_K→rN,methodObj→sQ,instObj→we,lookIn→yj,hideAll_size→DO,hideAll_none→DP,hideAll_get→DU,of_hideAll→GQ,kitx_list→G4,kitx_dict→G5
open Sum renaming inl→fS,inr→wb
open Sum.inl renaming inj→DN
open True renaming intro→fE
section
namespace _L
open PySem PySem.Spec PyProof.Rows
abbrev Key:=Sum Int Str
noncomputable def ui:Key->Value->Bool
 | .inl k,v=>Value.isInt k v
 | .inr x,v=>Value.isStrOf x v
noncomputable def QI(w:World):Key->Int
 | .inl k=>hashInt k
 | .inr x=>hashStr w x
theorem eu: ∀{k:Key}{v:Value},ui k v=true->(∃i t,k=fS i/\v=nC i t)\/(∃x t,k=wb x/\v=wc x t)
 | .inl i,v,h=>by
   obtain⟨t,e⟩:=vm (k:=i) (v:=v) h
   exact .inl ⟨i,t,rfl,e⟩
 | .inr x,v,h=>by
   obtain⟨t,e⟩:=Value.isStrOf_shape (x:=x) (v:=v) h
   exact .inr ⟨x,t,rfl,e⟩
theorem DD(i:Int)(t:Tok):ui (.inl i) (.int i t)=true:=by simp[ui,Value.isInt]
theorem Dp(x:Str)(t:Tok):ui (.inr x) (.str x t)=true:=by simp[ui,Value.isStrOf]
theorem KI(a b:Int):decide ((fS a:Key)=fS b)=(a==b):=by
 by_cases e:a=b
 ·subst e;simp
 ·have h: ¬(fS a:Key)=fS b:=λq=>e (DN q)
  rw[decide_eq_false h]
  exact(beq_eq_false_iff_ne.mpr e).symm
theorem KW(a b:Str):decide ((wb a:Key)=wb b)=decide (a=b):=by
 by_cases e:a=b
 ·subst e;simp
 ·have h: ¬(wb a:Key)=wb b:=λq=>e (Sum.inr.inj q)
  rw[decide_eq_false h,decide_eq_false e]
theorem Mb(a:Int)(b:Str):decide ((fS a:Key)=wb b)=false:=decide_eq_false (λq=>nomatch q)
theorem Lj(a:Str)(b:Int):decide ((wb a:Key)=fS b)=false:=decide_eq_false (λq=>nomatch q)
noncomputable def dZ(prog:Program)(w:World):PySem.KeyKind prog w Key where
 is:=ui
 hash:=QI w
 inj:=λv a b ha hb=>by
  rcases eu ha with⟨i,t,rfl,rfl⟩ | ⟨x,t,rfl,rfl⟩
  ·rcases eu hb with⟨j,u,rfl,e⟩ | ⟨y,u,rfl,e⟩
   ·injection e with e1 _;rw[e1]
   ·exact nomatch e
  ·rcases eu hb with⟨j,u,rfl,e⟩ | ⟨y,u,rfl,e⟩
   ·exact nomatch e
   ·injection e with e1 _;rw[e1]
 byValue:=λk v h=>by
  rcases eu h with⟨i,t,rfl,rfl⟩ | ⟨x,t,rfl,rfl⟩ <;> rfl
 pyHash:=λhv h=>by
  rcases eu hv with⟨i,t,rfl,rfl⟩ | ⟨x,t,rfl,rfl⟩
  ·exact wpAny_pyHash_int h
  ·exact wpAny_pyHash_str h
 eqBool:=λhu hv h=>by
  rcases eu hu with⟨i,t,rfl,rfl⟩ | ⟨x,t,rfl,rfl⟩
  ·rcases eu hv with⟨j,u,rfl,rfl⟩ | ⟨y,u,rfl,rfl⟩
   ·rw[KI]at h;exact wpAny_eqBool_int h
   ·rw[Mb]at h;exact Ci i t y u _ _ _ _ h
  ·rcases eu hv with⟨j,u,rfl,rfl⟩ | ⟨y,u,rfl,rfl⟩
   ·rw[Lj]at h;exact Cj x t j u _ _ _ _ h
   ·rw[KW]at h;exact wpAny_eqBool_str h
 «strs»:=λk x t v h=>by
  rcases eu h with⟨i,u,rfl,e⟩ | ⟨y,u,rfl,e⟩
  ·exact nomatch e
  ·injection e with e1 _
   subst e1
   cases v <;> rfl
theorem zg(prog:Program)(w:World)(i:Int)(t:Tok):(dZ prog w).is (.inl i) (.int i t)=true:=DD i t
theorem yQ(prog:Program)(w:World)(x:Str)(t:Tok):(dZ prog w).is (.inr x) (.str x t)=true:=Dp x t
end _L
namespace _L
open PySem PySem.Spec PyProof.Rows
inductive V where
 | non |bl (b:Bool) |int (i:Int) |str (x:Str) |byt (b:Array UInt8) |flt (b:UInt64) |ref (a:Addr) |ty (n:String)
noncomputable def RelV:V->Value->Prop
 | .non,u=>u=jx
 | .bl b,u=>u=oC b
 | .int i,u =>∃t,u=nC i t
 | .str x,u =>∃t,u=wc x t
 | .byt b,u =>∃t,u=Value.bytes b t
 | .flt b,u =>∃t,u=Value.float b t
 | .ref a,u=>u=bj a
 | .ty n,u=>u=z3 n
abbrev cy:List V->List Value->Prop:=Paired RelV
theorem cy.length{xs:List V}{us:List Value}(r:cy xs us):xs.length=us.length:=Aa r
theorem cy.get: ∀{xs:List V}{us:List Value}{i:Nat}{x:V},cy xs us->xs[i]? = some x -> ∃u,us[i]? = some u/\RelV x u
 | _,_,_,_,.nil,e=>by simp at e
 | _,_,0,_,.cons r _,e=>by simp at e;subst e;exact⟨_,rfl,r⟩
 | _,_,i+1,x,.cons _ t,e=>by
   obtain⟨u,h1,h2⟩:=cy.get (i:=i) (x:=x) t (by simpa using e)
   exact⟨u,by simpa using h1,h2⟩
theorem cy.set{x:V}{u:Value}(r:RelV x u): ∀{xs:List V}{us:List Value} (i:Nat),cy xs us->cy (xs.set i x) (us.set i u)
 | _,_,_,.nil => .nil
 | _,_,0,.cons _ t => .cons r t
 | _,_,i+1,.cons q t => .cons q (cy.set r i t)
theorem cy.append: ∀{xs ys:List V}{us ws:List Value},cy xs us->cy ys ws->cy (xs++ys) (us++ws)
 | _,_,_,_,.nil,s=>s
 | _,_,_,_,.cons r t,s => .cons r (cy.append t s)
theorem cy.take: ∀{xs:List V}{us:List Value} (n:Nat),cy xs us->cy (xs.take n) (us.take n)
 | _,_,0,_ => .nil
 | _,_,_+1,.nil => .nil
 | _,_,n+1,.cons r t => .cons r (cy.take n t)
theorem cy.drop: ∀{xs:List V}{us:List Value} (n:Nat),cy xs us->cy (xs.drop n) (us.drop n)
 | _,_,0,r=>r
 | _,_,_+1,.nil => .nil
 | _,_,n+1,.cons _ t=>cy.drop n t
noncomputable def uc:Option V->Option Value->Prop
 | some v,some u=>RelV v u
 | none,none=>True
 | _,_=>False
noncomputable def KV{κ:Type}:List (κ×V)->List (κ×Value)->Prop:=Paired λ(p:κ×V) (q:κ×Value)=>p.1=q.1/\RelV p.2 q.2
noncomputable def kV:Key->V
 | .inl i => .int i
 | .inr x => .str x
inductive HO where
 | lst (xs:List V)
 | tup (xs:List V)
 | dK (kvs:List (Key×V)) |dT (kvs:List (List Key×V))
 | set (S:Int->Bool) (n:Nat)
 | ins (C dx:Addr) (fs:List (Str×V))
 | own (x:Addr)
 | xd (fs:List (Str×V))
 | met (f x:Addr)
 | rng (lo hi:Int)
 | frz (o:Obj) (u:HO)
 | tbl (ps:Array Value)
 | ext (φ:Heap->Prop)
abbrev Hp:=Addr->Option HO
noncomputable def upd(H:Hp)(a:Addr)(o:HO):Hp:=λb=>if b=a then some o else H b
theorem dh{H:Hp}{a:Addr}{o:HO}:upd H a o a=some o:=by unfold upd;rw[if_pos rfl]
theorem bD{H:Hp}{a b:Addr}{o:HO}(h:b≠a):upd H a o b=H b:=by unfold upd;rw[if_neg h]
theorem pY{H:Hp}{a b:Addr}{o u:HO}(h:H a=some o)(h':H b=some u)(d:o≠u):a≠b:=by
 intro e;subst e;rw[h]at h';exact d (bx h')
theorem bG{H:Hp}{a b:Addr}{o:HO}(h:H a=some o)(h':H b=none):a≠b:=by
 intro e;subst e;rw[h]at h';cases h'
section
variable (P:Program) (w:World)
noncomputable def eT(H:Hp)(h:Heap)(a:Addr):HO->Prop
 | .lst xs=>xs.length<=sizeLine /\ ∃ (its:List Value) (n:Nat),cy xs its/\h.get? a=some { cls := .type "list",data := .seq its.toArray n }
 | .tup xs=>xs.length<=sizeLine /\ ∃its:List Value,cy xs its/\IsTup h a its.toArray /\ ∃o,h.get? a=some o/\o.dict=none
 | .dK kvs=>kvs.length<=sizeLine/\(a==sysModules)=false /\ ∃vs,KV kvs vs/\h.DictOf (dZ P w) a vs
 | .dT kvs=>kvs.length<=sizeLine/\(a==sysModules)=false /\ ∃xs:List (List Key×Addr×Value),
   Paired (λ(p:List Key×V) (q:List Key×Addr×Value)=>p.1=q.1/\H q.2.1=some (.tup (p.1.map kV))/\RelV p.2 q.2.2) kvs xs /\
   ∃o es ep,h.get? a=some o/\o.ExactDict/\o.data = .dict es ep/\es.toList=xs.map (entryOfKey (tupleKind (dZ P w)))/\(xs.map (·.1)).Nodup
 | .set S n=>h.SetOf (intKind P w) a S n
 | .ins C dx fs=>H dx=some (.own a)/\fs.length<=1000/\dx≠a/\h.get? a=some (we C dx) /\
   ∃mA,h.Ns1 dx mA/\(∀f,uc (fs.lookup f) (mA f))/\PySem.Within mA (fs.map (·.1))
 | .own _ =>∃o,h.get? a=some o
 | .xd fs =>∃mA,h.Ns1 a mA /\ ∀f,uc (fs.lookup f) (mA f)
 | .rng lo hi => ∃ t u v,h.get? a=some { cls := .type "range",data := .fields #[.int lo t,.int hi u,.int 1 v] }
 | .frz o u=>h.get? a=some o/\eT H h a u
 | .tbl ps=>h.get? a=some { cls:= .none,data:= .fields ps }
 | .met f x=>h.get? a=some (sQ (.ref f) (.ref x))
 | .ext φ=>φ h/\(∃o,h.get? a=some o) /\ ∀h1 h2:Heap,φ h1->(∀o,h1.get? a=some o->h2.get? a=some o)->φ h2
noncomputable def HOk(H:Hp)(h:Heap):Prop:= ∀a o,H a=some o->eT P w H h a o
end
section
variable {P:Program}{w:World}{H H':Hp}{h h':Heap}{a:Addr}{o:HO}
theorem eT.lt(x:eT P w H h a o):a<h.objs.size:=by
 cases o with
 | lst xs=>obtain⟨_,_,_,_,e⟩:=x;exact aG e
 | tup xs=>obtain⟨_,_,_,p⟩:=x;exact p.1.lt
 | dK kvs=>obtain⟨_,_,_,_,o,_,_,e,_⟩:=x;exact aG e
 | dT kvs=>obtain⟨_,_,_,_,o,_,_,e,_⟩:=x;exact aG e
 | set S n=>obtain⟨o,_,_,_,e,_⟩:=x;exact aG e
 | ins C dx fs=>obtain⟨_,_,_,e,_⟩:=x;exact aG e
 | own y=>obtain⟨_,e⟩:=x;exact aG e
 | xd fs=>obtain⟨_,⟨_,_,_,e,_⟩,_⟩:=x;exact aG e
 | rng lo hi=>obtain⟨_,_,_,e⟩:=x;exact aG e
 | frz ob u=>obtain⟨e,_⟩:=x;exact aG e
 | tbl ps=>exact aG (show h.get? a=some _ from x)
 | met f y=>exact aG (show h.get? a=some _ from x)
 | ext φ=>obtain⟨_,⟨_,e⟩,_⟩:=x;exact aG e
theorem Paired.mapP{α β:Type}{F G:α->β->Prop}: ∀{l₁:List α}{l₂:List β},Paired F l₁ l₂->(∀a b,F a b->G a b)->Paired G l₁ l₂:=by
 intro l m h f
 induction h with
 | nil=>exact .nil
 | cons r t ih=>exact .cons (f _ _ r) ih
theorem eT.stay(x:eT P w H h a o)(k: ∀b u,(b=a\/H b=some (.own a))->h.get? b=some u->h'.get? b=some u)
  (ho: ∀b,H b=some (.own a)->H' b=some (.own a)) (ht: ∀b xs,H b=some (.tup xs)->H' b=some (.tup xs)):eT P w H' h' a o:=by
 induction o with
 | lst xs=>obtain⟨z,its,n,r,e⟩:=x;exact⟨z,its,n,r,k _ _ (.inl rfl) e⟩
 | tup xs=>obtain⟨z,its,r,⟨ob,e,c⟩,o2,e2,c2⟩:=x;exact⟨z,its,r,⟨ob,k _ _ (.inl rfl) e,c⟩,o2,k _ _ (.inl rfl) e2,c2⟩
 | dK kvs=>obtain⟨z,y,vs,r,ob,es,ep,e,c⟩:=x;exact⟨z,y,vs,r,ob,es,ep,k _ _ (.inl rfl) e,c⟩
 | dT kvs=>
   obtain⟨z,y,xs,r,ob,es,ep,e,c⟩:=x
   exact⟨z,y,xs,Paired.mapP r λp q z=>⟨z.1,ht _ _ z.2.1,z.2.2⟩,ob,es,ep,k _ _ (.inl rfl) e,c⟩
 | set S n=>obtain⟨ob,es,ep,t,e,c⟩:=x;exact⟨ob,es,ep,t,k _ _ (.inl rfl) e,c⟩
 | ins C dx fs=>
   obtain⟨d,z,ne,e,mA,⟨od,es,ep,e2,c⟩,r⟩:=x
   exact⟨ho _ d,z,ne,k _ _ (.inl rfl) e,mA,⟨od,es,ep,k _ _ (.inr d) e2,c⟩,r⟩
 | own y=>obtain⟨ob,e⟩:=x;exact⟨ob,k _ _ (.inl rfl) e⟩
 | xd fs=>obtain⟨mA,⟨od,es,ep,e,c⟩,r⟩:=x;exact⟨mA,⟨od,es,ep,k _ _ (.inl rfl) e,c⟩,r⟩
 | rng lo hi=>obtain⟨t,u,v,e⟩:=x;exact⟨t,u,v,k _ _ (.inl rfl) e⟩
 | frz ob u ih=>obtain⟨e,q⟩:=x;exact⟨k _ _ (.inl rfl) e,ih q⟩
 | tbl ps=>
   have e:h.get? a=some { cls:= .none,data:= .fields ps }:=x
   show h'.get? a=some { cls:= .none,data:= .fields ps }
   exact k a _ (.inl rfl) e
 | met f y=>
   have e:h.get? a=some (sQ (.ref f) (.ref y)):=x
   show h'.get? a=some (sQ (.ref f) (.ref y))
   exact k a _ (.inl rfl) e
 | ext φ=>obtain⟨p,⟨o,e⟩,st⟩:=x;exact⟨st _ _ p λo q=>k _ _ (.inl rfl) q,⟨o,k _ _ (.inl rfl) e⟩,st⟩
theorem HOk.lt(x:HOk P w H h)(e:H a=some o):a<h.objs.size:=(x a o e).lt
theorem HOk.fresh(x:HOk P w H h)(e:h.objs.size<=a):H a=none:=by
 cases q:H a with
 | none=>rfl
 | some u=>exact absurd (ai (x.lt q) e) (cf _)
theorem HOk.kept(x:HOk P w H h)(k: ∀b u,h.get? b=some u->h'.get? b=some u):HOk P w H h':=λa o e=>
 (x a o e).stay (λb u _ q=>k b u q) (λ_ q=>q) λ_ _ q=>q
theorem HOk.laid(x:HOk P w H h)(k: ∀b u,h.get? b=some u->h'.get? b=some u)(hp:h.objs.size<=a)(new:eT P w (upd H a o) h' a o):HOk P w (upd H a o) h':=λb u e=>by
 have hn:=x.fresh hp
 by_cases hb:b=a
 ·subst hb;rw[dh]at e;cases e;exact new
 ·rw[bD hb]at e
  exact(x b u e).stay (λc v _ q=>k c v q) (λc q=>by rw[bD (bG q hn)];exact q) λc xs q=>by rw[bD (bG q hn)];exact q
end
noncomputable def Rd(H:Hp)(a:Addr)(u:HO):Prop:=H a=some u \/ ∃o,H a=some (.frz o u)
theorem Rd.ok{P:Program}{w:World}{H:Hp}{h:Heap}{a:Addr}{u:HO}(r:Rd H a u)(x:HOk P w H h):eT P w H h a u:=by
 rcases r with r | ⟨o,r⟩
 ·exact x a u r
 ·obtain⟨_,q⟩:=x a _ r
  exact q
noncomputable def Mut:Option HO->Prop
 | some (.lst _)=>True
 | some (.dK _)=>True
 | some (.dT _)=>True
 | some (.set _ _)=>True
 | some (.ins _ _ _)=>True
 | some (.ext _)=>True
 | _=>False
section
variable {P:Program}{w:World}{H:Hp}{h h':Heap}{x e:Addr}{o':HO}
theorem HOk.write(ok:HOk P w H h)(mu:Mut (H x))(he:e=x\/H e=some (.own x))(k: ∀b u,b≠e->h.get? b=some u->h'.get? b=some u)(heo: ∃u,h'.get? e=some u)
  (new:eT P w (upd H x o') h' x o'):HOk P w (upd H x o') h':=λb u q=>by
 have nown: ∀c y,H c=some (.own y)->c≠x:=λc y r z=>by subst z;rw[r]at mu;exact mu
 have ntup: ∀c xs,H c=some (.tup xs)->c≠x:=λc xs r z=>by subst z;rw[r]at mu;exact mu
 by_cases hb:b=x
 ·subst hb;rw[dh]at q;cases q;exact new
 ·rw[bD hb]at q
  by_cases hbe:b=e
  ·have q':H b=some (.own x):=by
    rcases he with z |z
    ·exact absurd (hbe.trans z) hb
    ·rw[hbe];exact z
   rw[q]at q';cases q'
   obtain⟨v,hv⟩:=heo
   exact⟨v,by rw[hbe];exact hv⟩
  ·refine(ok b u q).stay (λc v hc r=>k c v ?_ r) (λc r=>by rw[bD (nown c b r)];exact r) λc xs r=>by rw[bD (ntup c xs r)];exact r
   rcases hc with rfl |hc
   ·exact hbe
   ·rintro rfl
    rcases he with z |z
    ·exact nown c b hc z
    ·rw[hc]at z;cases z;exact hb rfl
end
structure Un(fs ex:List Addr)(H H':Hp)(h h':Heap):Prop where
 keep: ∀b o,h.get? b=some o->H b=none->b∉fs->b∉ex->h'.get? b=some o
 slot: ∀b o,h.get? b=some o->H b=none->b∈fs->b∉ex -> ∃sl,h'.get? b=some { o with slots:=sl }
 free: ∀b o,h.get? b=some o->H b=none->b∉ex->H' b=none
 there: ∀b o,h.get? b=some o->b∉ex -> ∃o',h'.get? b=some o'
 tups: ∀b xs,H b=some (.tup xs)->H' b=some (.tup xs)
 frzs: ∀b o u,H b=some (.frz o u)->H' b=some (.frz o u)
 tbls: ∀b ps,H b=some (.tbl ps) -> ∃more,H' b=some (.tbl (ps++more))
section
variable {fs fs' ex ex':List Addr}{H H1 H2:Hp}{h h1 h2 h':Heap}{a x e:Addr}{o:HO}
theorem Un.any(u:Un fs ex H H1 h h1){b:Addr}{ob:Obj}(q:h.get? b=some ob)(n:H b=none)(hx:b∉ex): ∃sl,h1.get? b=some { ob with slots:=sl }:=by
 by_cases hb:b∈fs
 ·exact u.slot b ob q n hb hx
 ·exact⟨ob.slots,u.keep b ob q n hb hx⟩
theorem Un.kept(k: ∀b u,h.get? b=some u->h'.get? b=some u):Un fs ex H H h h':=
 ⟨λb ob q _ _ _=>k b ob q,λb ob q _ _ _=>⟨ob.slots,k b ob q⟩,λ_ _ _ n _=>n,λb ob q _=>⟨ob,k b ob q⟩,λ_ _ q=>q,λ_ _ _ q=>q,λ_ ps q=>⟨#[],by rw[q];simp⟩⟩
theorem Un.refl:Un fs ex H H h h:=Un.kept λ_ _ q=>q
theorem Un.laid(k: ∀b u,h.get? b=some u->h'.get? b=some u)(hp:h.objs.size<=a)(hn:H a=none):Un fs ex H (upd H a o) h h' where
 keep:=λb u q _ _ _=>k b u q
 slot:=λb u q _ _ _=>⟨u.slots,k b u q⟩
 free:=λb u q n _=>by rw[bD (aT (ai (aG q) hp))];exact n
 there:=λb u q _=>⟨u,k b u q⟩
 tups:=λb xs q=>by rw[bD (bG q hn)];exact q
 frzs:=λb u xs q=>by rw[bD (bG q hn)];exact q
 tbls:=λb ps q=>⟨#[],by rw[bD (bG q hn),q];simp⟩
theorem Un.write(mu:Mut (H x))(he:e=x\/H e=some (.own x))(k: ∀b u,b≠e->h.get? b=some u->h'.get? b=some u)(heo: ∃u,h'.get? e=some u):Un fs ex H (upd H x o) h h':=by
 have hx: ∀b,H b=none->b≠x:=λb n z=>by subst z;rw[n]at mu;exact mu
 have hb: ∀b,H b=none->b≠e:=λb n z=>by
  subst z
  rcases he with r |r
  ·exact hx b n r
  ·rw[n]at r;cases r
 have hm: ∀b u,H b=some u -> ¬Mut (some u)->b≠x:=λb u q nm z=>by subst z;rw[q]at mu;exact nm mu
 refine⟨λb u q n _ _=>k b u (hb b n) q,λb u q n _ _=>⟨u.slots,k b u (hb b n) q⟩,λb u q n _=>by rw[bD (hx b n)];exact n,λb u q _ =>?_,
  λb xs q=>by rw[bD (hm b _ q λz=>z)];exact q,λb u xs q=>by rw[bD (hm b _ q λz=>z)];exact q,λb ps q=>⟨#[],by rw[bD (hm b _ q λz=>z),q];simp⟩⟩
 by_cases hbe:b=e
 ·subst hbe;exact heo
 ·exact⟨u,k b u hbe q⟩
end
noncomputable def trk(h:Heap)(H:Hp):List Addr:=(aB h.objs.size).filter λa=>(H a).isSome
noncomputable def wa(h:Heap)(H:Hp):Heap:=PySem.W.hideAll h (trk h H)
theorem wC(h:Heap)(H:Hp):(wa h H).objs.size=h.objs.size:=DO _ _
theorem ql{h:Heap}{H:Hp}{b:Addr}{o:Obj}(e:h.get? b=some o)(n:H b=none):(wa h H).get? b=some o:=
 DU _ e λhm=>by
  have q:(H b).isSome=true:=(bu.mp hm).2
  rw[n]at q;simp at q
theorem Bn{h:Heap}{H:Hp}{b:Addr}{o:Obj}(e:(wa h H).get? b=some o):h.get? b=some o/\H b=none:=by
 have e':h.get? b=some o:=GQ (trk h H) e
 refine⟨e',?_⟩
 cases q:H b with
 | none=>rfl
 | some x=>
   have hm:b∈trk h H:=bu.mpr ⟨bp.mpr (aG e'),by simp[q]⟩
   have z:(wa h H).get? b=none:=DP (trk h H) hm
   rw[z]at e;cases e
noncomputable def Jt(g h:Heap)(L:Addr):List (Addr×Obj):=(aB h.objs.size).filterMap λa=>if a=L\/(g.get? a).isSome=true then none else(h.get? a).map λo=>(a,o)
noncomputable def rest(g h:Heap)(L d:Addr):List (Addr×Obj):=(Jt g h L).filter λp=>decide (p.1≠d)
end _L
namespace _L
open PySem PySem.Spec PyProof.Rows
structure Mod(K:av)(mg:Str->Option Value)(base:Heap):Prop where
 kin:K.In base
 glob:base.Ns mainGlobals mg
 blt : ∃ mb,base.Ns builtinsNs mb /\ ∀ x:Str,x≠"__name__"->mb x=bootBuiltins x
 nolimit:base.NoLimit
set_option genInjectivity false in
structure Cx where
 prog:Program
 w:World
 K:av
 mg:Str->Option Value
 base:Heap
 A:Around
 N:List Str
 s₀:Shared
 H₀:Hp
 env:Env
 outer:List Env
 stack:List Env
 ex:List Addr
 fn:Str->Bool
 calm:Bool
 pn:List (Addr×Obj)
 xe:Value->Shared->Prop
noncomputable def frs(l:List Env):List Addr:=l.filterMap (·.frame)
abbrev Cx.fs(X:Cx):List Addr:=frs X.outer
noncomputable def Vis(sc:Scope)(x:Str):Prop:=sc.names.lookup x=some .local\/sc.names.lookup x=some .cell\/sc.names.lookup x=some .free
noncomputable def Loc(sc:Scope)(x:Str):Prop:=sc.names.lookup x=some .local\/sc.names.lookup x=some .cell
noncomputable def Look(env:Env)(h:Heap)(m:Str->Option Value)(x:Str)(u:Value):Prop:=
 (env.kindOf x=some .local/\m x=some u)\/((env.kindOf x=some .cell\/env.kindOf x=some .free) /\ ∃c,env.cells.lookup x=some c/\h.IsCell c (some u))
structure Cx.Ok(X:Cx):Prop where
 mod:Mod X.K X.mg X.base
 kind:X.env.scope.kind = .function
 glob:X.env.globals=mainGlobals
 blt:X.env.builtins=builtinsNs
 above:X.s₀.heap.objs.size<=X.env.locals
 inj: ∀x y c,X.env.cells.lookup x=some c->X.env.cells.lookup y=some c->x=y
 has: ∀x,(X.env.kindOf x=some .cell\/X.env.kindOf x=some .free) -> ∃c,X.env.cells.lookup x=some c
 cab: ∀x c,X.fn x=true->X.env.cells.lookup x=some c->X.s₀.heap.objs.size<=c
 hd:X.calm=true->X.A.handled=none
 frames:X.A.frames=some X.stack
 stk:X.stack=X.outer\/(X.stack=X.env::X.outer/\X.env.frame=some X.env.locals)
 exf: ∀b∈X.ex,b≠X.env.locals /\ ∀x c,X.env.cells.lookup x=some c->c≠b
 bs: ∀b o,X.base.get? b=some o->X.s₀.heap.get? b=some o/\X.H₀ b=none
 bsz:X.base.objs.size<=X.s₀.heap.objs.size
 noex: ∀b o,X.base.get? b=some o->b∉X.ex
 exfs: ∀b∈X.ex,b∉X.fs
 funs:X.s₀.heap.FunFrames X.base X.outer
 frf: ∀b∈X.fs,X.H₀ b=none
structure Inv(X:Cx)(pins:List (Addr×Obj))(σ:List (Option V))(H:Hp)(s:Shared):Prop where
 ok:X.Ok
 os:s.os=X.s₀.os
 bare:AllBare s.gens
 base:Un X.fs X.ex X.H₀ H X.s₀.heap s.heap
 loc: ∃m,s.heap.Ns X.env.locals m /\ ∀(i:Nat) (x:Str) (v:V),X.N[i]? = some x->σ[i]? = some (some v)->Vis X.env.scope x -> ∃u,RelV v u/\Look X.env s.heap m x u
 cell: ∀x c,X.env.cells.lookup x=some c -> ∃v,s.heap.IsCell c v
 free:H X.env.locals=none
 freeC: ∀x c,X.env.cells.lookup x=some c->H c=none
 pin: ∀p∈X.pn++pins,s.heap.get? p.1=some p.2/\H p.1=none/\p.1≠X.env.locals/\p.1∉X.fs /\ ∀v,p.2.data≠.cell v
 hok:HOk X.prog X.w H s.heap
 len:σ.length=X.N.length
section
variable {X:Cx}{pins:List (Addr×Obj)}{σ:List (Option V)}{H H':Hp}{s:Shared}{h':Heap}
theorem Cx.Ok.nofr(ok:X.Ok){b:Addr}{o:Obj}(e:X.base.get? b=some o):b∉X.fs:=λhb=>by
 have:=(ok.funs.mem hb).1
 rw[e]at this;cases this
theorem Inv.bs(I:Inv X pins σ H s): ∀b o,X.base.get? b=some o->s.heap.get? b=some o/\H b=none:=λb o e=>
 ⟨I.base.keep b o (I.ok.bs b o e).1 (I.ok.bs b o e).2 (I.ok.nofr e) (I.ok.noex b o e),I.base.free b o (I.ok.bs b o e).1 (I.ok.bs b o e).2 (I.ok.noex b o e)⟩
theorem Inv.bk(I:Inv X pins σ H s): ∀b o,X.base.get? b=some o->s.heap.get? b=some o:=λb o e=>(I.bs b o e).1
theorem Inv.mod(I:Inv X pins σ H s):Mod X.K X.mg X.base:=I.ok.mod
theorem Inv.kIn(I:Inv X pins σ H s):X.K.In s.heap:=I.ok.mod.kin.keeps I.bk
theorem Inv.lt(I:Inv X pins σ H s):X.env.locals<s.heap.objs.size:=let ⟨_,hn,_⟩:=I.loc;hn.lt
theorem Inv.sz(I:Inv X pins σ H s):X.s₀.heap.objs.size<=s.heap.objs.size:=aF I.ok.above (ba I.lt)
theorem Inv.nofs(I:Inv X pins σ H s){a:Addr}(h:s.heap.objs.size<=a):a∉X.fs:=λhb=>by
 obtain⟨_,o,ho,_⟩:=I.ok.funs.mem hb
 exact absurd (ai (aG ho) (aF I.sz h)) (cf _)
theorem Inv.cne(I:Inv X pins σ H s): ∀x c,X.env.cells.lookup x=some c->c≠X.env.locals:=λx c e z=>by
 obtain⟨v,o,ho,hd⟩:=I.cell x c e
 obtain⟨m,⟨o',es,ep,ho',hd',_⟩,_⟩:=I.loc
 rw[z,ho']at ho;cases ho;rw[hd']at hd;cases hd
theorem Inv.funs(I:Inv X pins σ H s):s.heap.FunFrames X.base X.outer:=by
 have all: ∀(l:List Env),(∀b∈frs l,b∈X.fs)->X.s₀.heap.FunFrames X.base l->s.heap.FunFrames X.base l:=by
  intro l
  induction l with
  | nil=>intro _ _;trivial
  | cons env r ih=>
    intro hs hl
    obtain⟨hk,⟨L,o,hf,hn,ho,hd⟩,hr⟩:=hl
    have hL:L∈X.fs:=hs L (by unfold frs;rw[h9,hf];exact aU)
    obtain⟨sl,e⟩:=I.base.slot L o ho (I.ok.frf L hL) hL λz=>I.ok.exfs L z hL
    exact⟨hk,⟨L,_,hf,hn,e,hd⟩,ih (λb hb=>hs b (by unfold frs;rw[h9,hf];exact aw _ hb)) hr⟩
 exact all X.outer (λ_ hb=>hb) I.ok.funs
theorem Inv.stack(I:Inv X pins σ H s):s.heap.FunFrames X.base X.stack:=by
 rcases I.ok.stk with e | ⟨e,hf⟩
 ·rw[e];exact I.funs
 ·rw[e]
  obtain⟨m,hn,_⟩:=I.loc
  refine .cons (by rw[I.ok.kind];decide) hf hn ?_ I.funs
  exact Heap.get?_none_of_le (aF I.ok.bsz I.ok.above)
theorem Inv.stkSub(I:Inv X pins σ H s): ∀b∈frs X.stack,b∈X.env.locals::X.fs:=λb hb=>by
 rcases I.ok.stk with e | ⟨e,hf⟩
 ·rw[e]at hb;exact aw _ hb
 ·rw[e]at hb
  unfold frs at hb
  rw[h9,hf]at hb
  exact hb
theorem Inv.stkFree(I:Inv X pins σ H s): ∀b∈frs X.stack,H b=none:=λb hb=>by
 rcases aK.mp (I.stkSub b hb) with e |hb
 ·rw[e];exact I.free
 ·obtain⟨_,o,ho,_⟩:=I.ok.funs.mem hb
  exact I.base.free b o ho (I.ok.frf b hb) λz=>I.ok.exfs b z hb
theorem Inv.step{g':Array GenState}{t':Nat}{d':Drawn}{ch:List Addr}(I:Inv X pins σ H s)
  (hch: ∀b∈ch,(b∈X.ex\/X.s₀.heap.objs.size<=b)/\b≠X.env.locals/\(∀x c,X.env.cells.lookup x=some c->c≠b) /\ ∀p∈X.pn++pins,p.1≠b)
  (keep: ∀b o,b≠X.env.locals->b∉X.fs->b∉ch->s.heap.get? b=some o->H b=none->h'.get? b=some o)
  (slot: ∀b o,b≠X.env.locals->b∈X.fs->b∉ch->s.heap.get? b=some o->H b=none -> ∃sl,h'.get? b=some { o with slots:=sl }) (free: ∀b o,b∉ch->s.heap.get? b=some o->H b=none->H' b=none)
  (there: ∀b o,b∉ch->s.heap.get? b=some o -> ∃o',h'.get? b=some o')
  (tups: ∀b xs,H b=some (.tup xs)->H' b=some (.tup xs)) (frzs: ∀b o u,H b=some (.frz o u)->H' b=some (.frz o u)) (tbls: ∀b ps,H b=some (.tbl ps) -> ∃more,H' b=some (.tbl (ps++more)))
  (ns: ∀m,s.heap.Ns X.env.locals m->h'.Ns X.env.locals m) (hok:HOk X.prog X.w H' h') (hg:AllBare g'):
  Inv X pins σ H' { s with heap:=h',gens:=g',drawn:=d',toks:=t' }:=by
 have neL: ∀b o,X.s₀.heap.get? b=some o->b≠X.env.locals:=λb o e=>aT (ai (aG e) I.ok.above)
 have neC: ∀b o,X.s₀.heap.get? b=some o->b∉X.ex->b∉ch:=λb o e hx hb=>by
  rcases (hch b hb).1 with z |z
  ·exact hx z
  ·exact absurd (ai (aG e) z) (cf _)
 have cellK: ∀x c,X.env.cells.lookup x=some c -> ∀v,s.heap.IsCell c v->h'.IsCell c v:=λx c e v ⟨o,ho,hd⟩=>by
  have nch:c∉ch:=λz=>(hch c z).2.2.1 x c e rfl
  by_cases hc:c∈X.fs
  ·obtain⟨sl,q⟩:=slot c o (I.cne x c e) hc nch ho (I.freeC x c e)
   exact⟨_,q,hd⟩
  ·exact⟨o,keep c o (I.cne x c e) hc nch ho (I.freeC x c e),hd⟩
 refine⟨I.ok,I.os,hg,⟨λb o e n hb hx =>?_,λb o e n hb hx =>?_,λb o e n hx =>?_,λb o e hx =>?_,λb xs e=>tups b xs (I.base.tups b xs e),λb o xs e=>frzs b o xs (I.base.frzs b o xs e),λb ps e =>?_⟩,?_,λx c e =>?_,?_,λx c e =>?_,λp hp =>?_,hok,I.len⟩
 ·exact keep b o (neL b o e) hb (neC b o e hx) (I.base.keep b o e n hb hx) (I.base.free b o e n hx)
 ·obtain⟨sl,e1⟩:=I.base.slot b o e n hb hx
  obtain⟨sl',e2⟩:=slot b _ (neL b o e) hb (neC b o e hx) e1 (I.base.free b o e n hx)
  exact⟨sl',e2⟩
 ·obtain⟨o',e1⟩:=I.base.there b o e hx
  exact free b o' (neC b o e hx) e1 (I.base.free b o e n hx)
 ·obtain⟨o',e1⟩:=I.base.there b o e hx
  exact there b o' (neC b o e hx) e1
 ·obtain⟨m1,e1⟩:=I.base.tbls b ps e
  obtain⟨m2,e2⟩:=tbls b _ e1
  exact⟨m1++m2,by rw[e2,Array.append_assoc]⟩
 ·obtain⟨m,hn,hl⟩:=I.loc
  refine⟨m,ns m hn,λi x v e1 e2 e3 =>?_⟩
  obtain⟨u,r,l⟩:=hl i x v e1 e2 e3
  refine⟨u,r,?_⟩
  rcases l with l | ⟨k,c,e,z⟩
  ·exact .inl l
  ·exact .inr ⟨k,c,e,cellK x c e _ z⟩
 ·obtain⟨v,z⟩:=I.cell x c e
  exact⟨v,cellK x c e v z⟩
 ·obtain⟨m,⟨o,_,_,ho,_⟩,_⟩:=I.loc
  exact free _ o (λz=>(hch _ z).2.1 rfl) ho I.free
 ·obtain⟨v,o,ho,hd⟩:=I.cell x c e
  exact free c o (λz=>(hch c z).2.2.1 x c e rfl) ho (I.freeC x c e)
 ·obtain⟨e,n,ne,nf,d⟩:=I.pin p hp
  have nch:p.1∉ch:=λz=>(hch p.1 z).2.2.2 p hp rfl
  exact⟨keep p.1 p.2 ne nf nch e n,free p.1 p.2 nch e n,ne,nf,d⟩
theorem Inv.un{t':Nat}(I:Inv X pins σ H s)(u:Un X.fs [] H H' s.heap h')(hok:HOk X.prog X.w H' h'):Inv X pins σ H' { s with heap:=h',toks:=t' }:=by
 obtain⟨m,⟨o,es,ep,ho,r⟩,_⟩:=id I.loc
 obtain⟨sl,hL⟩:=u.any ho I.free (by simp)
 exact I.step (g':=s.gens) (d':=s.drawn) (ch:= []) (λ_ z=>nomatch z) (λb o _ hb _ e n=>u.keep b o e n hb (by simp)) (λb o _ hb _ e n=>u.slot b o e n hb (by simp)) (λb o _ e n=>u.free b o e n (by simp)) (λb o _ e=>u.there b o e (by simp)) u.tups u.frzs u.tbls (λm' hm=>by
  obtain⟨o',es',ep',ho',r'⟩:=hm
  rw[ho]at ho';cases ho'
  exact⟨_,es',ep',hL,r'⟩) hok I.bare
theorem Inv.call{g':Array GenState}{t':Nat}{d':Drawn}{ch:List Addr}(I:Inv X pins σ H s)(u:Un (frs X.stack) ch H H' s.heap h')(hok:HOk X.prog X.w H' h')(hg:AllBare g')
  (hch: ∀b∈ch,(b∈X.ex\/X.s₀.heap.objs.size<=b)/\b≠X.env.locals/\(∀x c,X.env.cells.lookup x=some c->c≠b) /\ ∀p∈X.pn++pins,p.1≠b):
  Inv X pins σ H' { s with heap:=h',gens:=g',drawn:=d',toks:=t' }:=by
 obtain⟨m,⟨o,es,ep,ho,r⟩,_⟩:=id I.loc
 obtain⟨sl,hL⟩:=u.any ho I.free λz=>(hch _ z).2.1 rfl
 exact I.step (ch:=ch) hch (λb o hL hb hc e n=>u.keep b o e n (λz=>(aK.mp (I.stkSub b z)).elim hL hb) hc) (λb o _ _ hc e n=>u.any e n hc) (λb o hc e n=>u.free b o e n hc) (λb o hc e=>u.there b o e hc) u.tups u.frzs u.tbls (λm' hm=>by
  obtain⟨o',es',ep',ho',r'⟩:=hm
  rw[ho]at ho';cases ho'
  exact⟨_,es',ep',hL,r'⟩) hok hg
theorem Inv.turned{t':Nat}{it:Addr}(I:Inv X pins σ H s)(k: ∀b o,b≠it->s.heap.get? b=some o->h'.get? b=some o)(hn:H it=none)(hL:it≠X.env.locals)
  (h1:it∈X.ex\/X.s₀.heap.objs.size<=it) (h2: ∀x c,X.env.cells.lookup x=some c->c≠it) (h3: ∀p∈X.pn++pins,p.1≠it):Inv X pins σ H { s with heap:=h',toks:=t' }:=by
 have nit: ∀b u,H b=some u->b≠it:=λb u e z=>by rw[z,hn]at e;cases e
 refine I.step (g':=s.gens) (d':=s.drawn) (ch:= [it]) (λb hb =>?_) (λb o _ _ hc e _=>k b o (λz=>hc (by simp[z])) e) (λb o _ _ hc e _=>⟨o.slots,k b o (λz=>hc (by simp[z])) e⟩) (λ_ _ _ _ n=>n)
  (λb o hc e=>⟨o,k b o (λz=>hc (by simp[z])) e⟩) (λ_ _ e=>e) (λ_ _ _ e=>e) (λb ps e=>⟨#[],by rw[e];simp⟩) (λm hm =>?_) (λb u e =>?_) I.bare
 ·have e:b=it:=by simpa using hb
  subst e
  exact⟨h1,hL,h2,h3⟩
 ·obtain⟨o,es,ep,ho,r⟩:=hm
  exact⟨o,es,ep,k _ o (eG hL) ho,r⟩
 ·refine(I.hok b u e).stay (λc v hc q=>k c v ?_ q) (λ_ q=>q) λ_ _ q=>q
  rcases hc with z |z
  ·rw[z];exact nit b u e
  ·exact nit c _ z
theorem Inv.tok(I:Inv X pins σ H s)(t:Nat):Inv X pins σ H { s with toks:=t }:=I.un (h':=s.heap) (t':=t) Un.refl I.hok
theorem Inv.kept{t':Nat}(I:Inv X pins σ H s)(k: ∀b u,s.heap.get? b=some u->h'.get? b=some u):Inv X pins σ H { s with heap:=h',toks:=t' }:=I.un (Un.kept k) (I.hok.kept k)
theorem Inv.laid{a:Addr}{o:HO}{t':Nat}(I:Inv X pins σ H s)(k: ∀b u,s.heap.get? b=some u->h'.get? b=some u)(hp:s.heap.objs.size<=a)(new:eT X.prog X.w (upd H a o) h' a o):
  Inv X pins σ (upd H a o) { s with heap:=h',toks:=t' }:=I.un (Un.laid k hp (I.hok.fresh hp)) (I.hok.laid k hp new)
theorem Inv.write{x e:Addr}{o:HO}{t':Nat}(I:Inv X pins σ H s)(mu:Mut (H x))(he:e=x\/H e=some (.own x))(k: ∀b u,b≠e->s.heap.get? b=some u->h'.get? b=some u)(heo: ∃u,h'.get? e=some u)
  (new:eT X.prog X.w (upd H x o) h' x o):Inv X pins σ (upd H x o) { s with heap:=h',toks:=t' }:=I.un (Un.write mu he k heo) (I.hok.write mu he k heo new)
theorem Inv.weak{σ':List (Option V)}(I:Inv X pins σ H s)(hl:σ'.length=σ.length)(w: ∀(i:Nat) v,σ'[i]? = some (some v)->σ[i]? = some (some v)):Inv X pins σ' H s:=
 ⟨I.ok,I.os,I.bare,I.base,let ⟨m,hn,hl'⟩:=I.loc;⟨m,hn,λi x v e1 e2 e3=>hl' i x v e1 (w i v e2) e3⟩,I.cell,I.free,I.freeC,I.pin,I.hok,hl.trans I.len⟩
theorem Inv.pins_of{pins':List (Addr×Obj)}(I:Inv X pins σ H s)(h: ∀p∈pins',s.heap.get? p.1=some p.2/\H p.1=none/\p.1≠X.env.locals/\p.1∉X.fs /\ ∀v,p.2.data≠.cell v):Inv X pins' σ H s:=
 ⟨I.ok,I.os,I.bare,I.base,I.loc,I.cell,I.free,I.freeC,λp hp=>(bo.mp hp).elim (λz=>I.pin p (bb _ z)) (h p),I.hok,I.len⟩
theorem zJ{N:List Str}(hN:N.Nodup){i j:Nat}{x:Str}(a:N[i]? = some x)(b:N[j]? = some x):i=j:=by
 obtain⟨h1,e1⟩:=ah.mp a
 obtain⟨h2,e2⟩:=ah.mp b
 exact(List.getElem_inj hN).mp (e1.trans e2.symm)
theorem xa{M:Model}{A:Around}{E:Value->Shared->Prop}{i:Nat}{x:Str}{v:V}{u:Value}{Q:Unit->Shared->Prop}(I:Inv X pins σ H s)(hN:X.N.Nodup)(hi:X.N[i]? = some x)(hx:Loc X.env.scope x)(r:RelV v u)
  (h: ∀s',Inv X pins (σ.set i (some v)) H s'->(∃a,g9 a s.heap s'.heap/\(a=X.env.locals\/X.env.cells.lookup x=some a))->Q () s') (hf:autoParam (X.fn x=true\/X.env.scope.names.lookup x=some .local) au4._auto_1):aI M A (storeName X.env x u) Q E s:=by
 obtain⟨m,hn,hl⟩:=id I.loc
 have hcls:(X.env.scope.kind==.class||(X.env.scope.kind==.module&&X.env.locals != X.env.globals))=false:=by rw[I.ok.kind];rfl
 have hiσ:i<σ.length:=by rw[I.len];exact(ah.mp hi).1
 have cne:=I.cne
 have tracked: ∀{a:Addr}{h':Heap},(∃o,s.heap.get? a=some o/\H a=none)->g9 a s.heap h'->HOk X.prog X.w H h':=λ{a h'} ha hs b ob e=>by
  obtain⟨_,_,hfree⟩:=ha
  refine(I.hok b ob e).stay (λc w' hc q=>(hs.2 c ?_).trans q) (λ_ q=>q) λ_ _ q=>q
  rintro rfl
  rcases hc with rfl |hc
  ·rw[hfree]at e;cases e
  ·rw[hfree]at hc;cases hc
 rcases hx with hk |hk
 ·refine wpAny_storeName_local hk hn (λh' hn' hs =>?_) hcls
  obtain⟨oL,_,_,hoL,_⟩:=id hn
  refine h _ ⟨I.ok,I.os,I.bare,⟨λb o e n hb hx =>?_,λb o e n hb hx =>?_,I.base.free,λb o e hx =>?_,I.base.tups,I.base.frzs,I.base.tbls⟩,⟨_,hn',λj y v' e1 e2 e3 =>?_⟩,λy c e =>?_,I.free,I.freeC,λp hp =>?_,tracked ⟨oL,hoL,I.free⟩ hs,by simpa using I.len⟩ ⟨_,hs,.inl rfl⟩
  ·exact(hs.2 b (aT (ai (aG e) I.ok.above))).trans (I.base.keep b o e n hb hx)
  ·obtain⟨sl,e1⟩:=I.base.slot b o e n hb hx
   exact⟨sl,(hs.2 b (aT (ai (aG e) I.ok.above))).trans e1⟩
  ·obtain⟨o',e1⟩:=I.base.there b o e hx
   exact⟨o',(hs.2 b (aT (ai (aG e) I.ok.above))).trans e1⟩
  ·by_cases hj:j=i
   ·subst hj
    rw[hi]at e1;cases e1
    rw[aZ hiσ]at e2
    cases e2
    exact⟨u,r,.inl ⟨hk,by simp⟩⟩
   ·rw[aJ (eG hj)]at e2
    obtain⟨u',r',q⟩:=hl j y v' e1 e2 e3
    refine⟨u',r',?_⟩
    rcases q with⟨k,e⟩ | ⟨k,c,e,z⟩
    ·refine .inl ⟨k,?_⟩
     have:y≠x:=λe=>hj (zJ hN e1 (e▸hi))
     simp[this,e]
    ·exact .inr ⟨k,c,e,z.sameBut hs (cne y c e)⟩
  ·obtain⟨w',z⟩:=I.cell y c e
   exact⟨w',z.sameBut hs (cne y c e)⟩
  ·obtain⟨e,n,ne,nf,d⟩:=I.pin p hp
   exact⟨(hs.2 p.1 ne).trans e,n,ne,nf,d⟩
 ·have hfn:X.fn x=true:=by
   rcases hf with z |z
   ·exact z
   ·rw[z]at hk;cases hk
  obtain⟨c,hc⟩:=I.ok.has x (.inl hk)
  obtain⟨w',z⟩:=I.cell x c hc
  refine wpAny_storeName_cell I.ok.kind hk hc z (λh' hc' hs =>?_)
  obtain⟨oc,hoc,hocd⟩:=id z
  refine h { s with heap:=h' } ⟨I.ok,I.os,I.bare,⟨λb o e n hb hx =>?_,λb o e n hb hx =>?_,I.base.free,λb o e hx =>?_,I.base.tups,I.base.frzs,I.base.tbls⟩,⟨m,hn.sameBut hs (eG (cne x c hc)),λj y v' e1 e2 e3 =>?_⟩,λy c' e =>?_,I.free,I.freeC,λp hp =>?_,tracked ⟨oc,hoc,I.freeC x c hc⟩ hs,by simpa using I.len⟩ ⟨c,hs,.inr hc⟩
  ·exact(hs.2 b (aT (ai (aG e) (I.ok.cab x c hfn hc)))).trans (I.base.keep b o e n hb hx)
  ·obtain⟨sl,e1⟩:=I.base.slot b o e n hb hx
   exact⟨sl,(hs.2 b (aT (ai (aG e) (I.ok.cab x c hfn hc)))).trans e1⟩
  ·obtain⟨o',e1⟩:=I.base.there b o e hx
   exact⟨o',(hs.2 b (aT (ai (aG e) (I.ok.cab x c hfn hc)))).trans e1⟩
  ·by_cases hj:j=i
   ·subst hj
    rw[hi]at e1;cases e1
    rw[aZ hiσ]at e2
    cases e2
    exact⟨u,r,.inr ⟨.inl hk,c,hc,hc'⟩⟩
   ·rw[aJ (eG hj)]at e2
    obtain⟨u',r',q⟩:=hl j y v' e1 e2 e3
    refine⟨u',r',?_⟩
    rcases q with q | ⟨k,c',e,z'⟩
    ·exact .inl q
    ·refine .inr ⟨k,c',e,z'.sameBut hs ?_⟩
     rintro rfl
     exact hj (zJ hN e1 (I.ok.inj _ _ _ e hc▸hi))
  ·by_cases hcc:c'=c
   ·subst hcc;exact⟨_,hc'⟩
   ·obtain⟨w2,z2⟩:=I.cell y c' e
    exact⟨w2,z2.sameBut hs hcc⟩
  ·obtain⟨e,n,ne,nf,d⟩:=I.pin p hp
   refine⟨(hs.2 p.1 ?_).trans e,n,ne,nf,d⟩
   intro q
   rw[q,hoc]at e
   have q':oc=p.2:=bx e
   exact d w' (by rw[<- q'];exact hocd)
theorem vb{M:Model}{A:Around}{E:Value->Shared->Prop}{i:Nat}{x:Str}{v:V}{u:Value}{Q:Unit->Shared->Prop}(I:Inv X pins σ H s)(hN:X.N.Nodup)(hi:X.N[i]? = some x)(hx:Loc X.env.scope x)(r:RelV v u)
  (h: ∀s',Inv X pins (σ.set i (some v)) H s'->Q () s') (hf:autoParam (X.fn x=true\/X.env.scope.names.lookup x=some .local) au4._auto_1):aI M A (storeName X.env x u) Q E s:=
 xa I hN hi hx r (λs' I' _=>h s' I') hf
theorem Inv.call'{s':Shared}{ch:List Addr}(I:Inv X pins σ H s)(ho:s'.os=s.os)(u:Un (frs X.stack) ch H H' s.heap s'.heap)(hok:HOk X.prog X.w H' s'.heap)(hg:AllBare s'.gens)
  (hch: ∀b∈ch,(b∈X.ex\/X.s₀.heap.objs.size<=b)/\b≠X.env.locals/\(∀x c,X.env.cells.lookup x=some c->c≠b) /\ ∀p∈X.pn++pins,p.1≠b):Inv X pins σ H' s':=by
 obtain⟨h',g',d',t',o'⟩:=s'
 have e:o'=s.os:=ho
 subst e
 exact I.call (g':=g') (t':=t') (d':=d') u hok hg hch
end
abbrev XK:=Value->Option Addr->Hp->Prop
abbrev St:=List (Option V)
abbrev VK:=V->Hp->Prop
abbrev TE:=St->Hp->VK->Prop
abbrev TT:=St->Hp->(Bool->Hp->Prop)->Prop
abbrev TA:=St->Hp->(List V->Hp->Prop)->Prop
structure Ends where
 nx:St->Hp->Prop
 rt:VK
 bk:St->Hp->Prop:=λ_ _=>False
 ct:St->Hp->Prop:=λ_ _=>False
abbrev TS:=Ends->St->Hp->Prop
noncomputable def EP(X:Cx)(pins:List (Addr×Obj))(σ:St)(Q:VK)(u:Value)(s':Shared):Prop:= ∃v H',Inv X pins σ H' s'/\RelV v u/\Q v H'
noncomputable def TP(X:Cx)(pins:List (Addr×Obj))(σ:St)(Q:Bool->Hp->Prop)(b:Bool)(s':Shared):Prop:= ∃H',Inv X pins σ H' s'/\Q b H'
noncomputable def AP(X:Cx)(pins:List (Addr×Obj))(σ:St)(Q:List V->Hp->Prop)(us:List Value)(s':Shared):Prop:= ∃vs H',Inv X pins σ H' s'/\cy vs us/\Q vs H'
noncomputable def SP(X:Cx)(pins:List (Addr×Obj))(D:Ends)(f:Flow)(s':Shared):Prop:=
 match f with
 | .next =>∃σ' H',Inv X pins σ' H' s'/\D.nx σ' H'
 | .brk =>∃σ' H',Inv X pins σ' H' s'/\D.bk σ' H'
 | .cont =>∃σ' H',Inv X pins σ' H' s'/\D.ct σ' H'
 | .ret u =>∃v σ' H',Inv X pins σ' H' s'/\RelV v u/\D.rt v H'
noncomputable def PE(X:Cx)(e:Expr)(t:TE):Prop:=
 ∀(pins:List (Addr×Obj)) (s:Shared) (σ:St) (H:Hp) (Q:VK),Inv X pins σ H s->t σ H Q->aI (model X.prog X.w) X.A (eval e X.env) (EP X pins σ Q) X.xe s
noncomputable def PT(X:Cx)(e:Expr)(t:TT):Prop:=
 ∀(pins:List (Addr×Obj)) (s:Shared) (σ:St) (H:Hp) (Q:Bool->Hp->Prop),Inv X pins σ H s->t σ H Q->aI (model X.prog X.w) X.A (isTrue e X.env (eval e X.env)) (TP X pins σ Q) X.xe s
noncomputable def PW(X:Cx)(e:Expr)(t:TT):Prop:=
 ∀(whole:Sem Value) (pins:List (Addr×Obj)) (s:Shared) (σ:St) (H:Hp) (Q:Bool->Hp->Prop),Inv X pins σ H s->t σ H Q->aI (model X.prog X.w) X.A (isTrue e X.env whole) (TP X pins σ Q) X.xe s
theorem PW.pt{X:Cx}{e:Expr}{t:TT}(h:PW X e t):PT X e t:=h _
noncomputable def PA(X:Cx)(es:List Expr)(t:TA):Prop:=
 ∀(pos:Pos) (pins:List (Addr×Obj)) (s:Shared) (σ:St) (H:Hp) (Q:List V->Hp->Prop),Inv X pins σ H s->t σ H Q->aI (model X.prog X.w) X.A (spliced (backTo pos (starEach es X.env))) (AP X pins σ Q) X.xe s
noncomputable def PS(X:Cx)(st:Stmt)(t:TS):Prop:=
 ∀(pins:List (Addr×Obj)) (s:Shared) (σ:St) (H:Hp) (D:Ends),Inv X pins σ H s->t D σ H->aI (model X.prog X.w) X.A (exec st X.env) (SP X pins D) X.xe s
noncomputable def PSs(X:Cx)(st:List Stmt)(t:TS):Prop:=
 ∀(pins:List (Addr×Obj)) (s:Shared) (σ:St) (H:Hp) (D:Ends),Inv X pins σ H s->t D σ H->aI (model X.prog X.w) X.A (execs st X.env) (SP X pins D) X.xe s
theorem thn{α:Type}{t:Sem α}{Q Q':α->Shared->Prop}{M:Model}{A:Around}{E:Value->Shared->Prop}{s:Shared}(h:aI M A t Q E s)(hQ: ∀a s,Q a s->Q' a s):aI M A t Q' E s:=dj h hQ λ_ _ x=>x
end _L
namespace _L
open PySem PySem.Spec PyProof.Rows
section
variable {X:Cx}
noncomputable def NT(i:Nat):TE:=λσ H Q =>∃v,σ[i]? = some (some v)/\Q v H
noncomputable def tC(v:V):TE:=λ_ H Q=>Q v H
theorem GO {i:Nat}{x:Str}{pos:Pos} (hN:X.N[i]? = some x) (hv:Vis X.env.scope x) (hd:autoParam ((x == ("__debug__":Str))=false) au2._auto_1) (hcd:autoParam ((x == ("__classdict__":Str))=false) au2._auto_1):PE X (.Name x pos) (NT i):=by
 intro pins s σ H Q I h
 obtain⟨v,e,h⟩:=h
 obtain⟨m,hn,hl⟩:=I.loc
 obtain⟨u,r,l⟩:=hl i x v hN e hv
 have fin:EP X pins σ Q u s:=⟨v,H,I,r,h⟩
 rcases l with⟨hk,hm⟩ | ⟨hk,c,hc,hcell⟩
 ·exact wpAny_Name (wpAny_loadName_local I.ok.kind hk hn hm fin) hd
 ·rcases hk with hk |hk
  ·exact wpAny_Name (wpAny_loadName_cell I.ok.kind hk hc hcell fin) hd
  ·exact wpAny_Name (wpAny_loadName_free I.ok.kind hk hc hcell fin hcd) hd
theorem LK{i j pos}:PE X (.Constant (.int i) j pos) (tC (.int i)):=λ_ _ _ H _ I h=>wpAny_Constant_int ⟨.int i,H,I.tok _,⟨_,rfl⟩,h⟩
theorem Pt{b j pos}:PE X (.Constant (.bool b) j pos) (tC (.bl b)):=λ_ _ _ H _ I h=>Constant_bool ⟨.bl b,H,I,rfl,h⟩
theorem Ll{j pos}:PE X (.Constant .none j pos) (tC .non):=λ_ _ _ H _ I h=>Constant_none ⟨.non,H,I,rfl,h⟩
theorem LX{x j pos}:PE X (.Constant (.str x) j pos) (tC (.str x)):=λ_ _ _ H _ I h=>Calls.Constant_str ⟨.str x,H,I.tok _,⟨_,rfl⟩,h⟩
noncomputable def Gl(X:Cx)(x:Str):Prop:=X.env.kindOf x=some .globalImplicit
theorem tw{E:Value->Shared->Prop}{pins:List (Addr×Obj)}{s:Shared}{σ:St}{H:Hp}{x:Str}{u:Value}{pos:Pos}{Q:Value->Shared->Prop}(I:Inv X pins σ H s)(hg:Gl X x)(hm:X.mg x=some u)(h:Q u s)
  (hd:autoParam ((x == ("__debug__":Str))=false) au2._auto_1):aI (model X.prog X.w) X.A (eval (.Name x pos) X.env) Q E s:=
 z4 I.ok.kind hg (Calls.loadGlobal_global (by rw[I.ok.glob];exact I.mod.glob.keeps I.bk) hm h) hd
theorem ko{E:Value->Shared->Prop}{pins:List (Addr×Obj)}{s:Shared}{σ:St}{H:Hp}{x:Str}{u:Value}{pos:Pos}{Q:Value->Shared->Prop}(I:Inv X pins σ H s)(hg:Gl X x)(hm:X.mg x=none)(hv:bootBuiltins x=some u)(h:Q u s)
  (hn:autoParam (x≠"__name__") au2._auto_1) (hd:autoParam ((x == ("__debug__":Str))=false) au2._auto_1):aI (model X.prog X.w) X.A (eval (.Name x pos) X.env) Q E s:=by
 obtain⟨mb,h1,h2⟩:=I.mod.blt
 exact z4 I.ok.kind hg (Calls.loadGlobal_builtin (by rw[I.ok.glob];exact I.mod.glob.keeps I.bk) hm (by rw[I.ok.blt];exact h1.keeps I.bk) ((h2 x hn).trans hv) h) hd
theorem IR {x:Str}{v:V}{u:Value}{pos:Pos} (hg:Gl X x) (hm:X.mg x=some u) (r:RelV v u) (hd:autoParam ((x == ("__debug__":Str))=false) au2._auto_1):PE X (.Name x pos) (tC v):=
 λ_ _ _ H _ I h=>tw I hg hm ⟨v,H,I,r,h⟩ hd
theorem JA {x:Str}{v:V}{u:Value}{pos:Pos} (hg:Gl X x) (hm:X.mg x=none) (hv:bootBuiltins x=some u) (r:RelV v u) (hn:autoParam (x≠"__name__") au2._auto_1) (hd:autoParam ((x == ("__debug__":Str))=false) au2._auto_1):PE X (.Name x pos) (tC v):=
 λ_ _ _ H _ I h=>ko I hg hm hv ⟨v,H,I,r,h⟩ hn hd
variable {a b:Expr}{ta tb:TE}{pos:Pos}
noncomputable def tB(t:TE):TT:=λσ H Q=>t σ H λx H1 =>∃c,x = .bl c/\Q c H1
theorem Lm{e:Expr}{t:TE}(h:PE X e t)(he:autoParam (∀whole,isTrue e X.env whole=(do let v <- whole;standAt e.pos;holding [v] (truthy v))) au3._auto_1):PT X e (tB t):=by
 intro pins s σ H Q I hw
 refine isTrue_plain (thn (h pins s σ H _ I hw) λv s1 ⟨x,H1,I1,r1,q1⟩ =>?_) (he _)
 obtain⟨d,rfl,q⟩:=q1
 cases r1
 exact dE ⟨H1,I1,q⟩
variable {tA tB':TT}{rest:List Expr}
noncomputable def Oj(t u:TT):TT:=λσ H Q=>t σ H λc H1=>if c=true then u σ H1 Q else Q false H1
noncomputable def tOr(t u:TT):TT:=λσ H Q=>t σ H λc H1=>if c=true then Q true H1 else u σ H1 Q
noncomputable def PX(t:TT):TT:=λσ H Q=>t σ H λc H1=>Q (!c) H1
theorem Hg(ha:PT X a tA):PW X (.BoolOp .And [a] pos) tA:=by
 intro wh pins s σ H Q I h
 refine isTrue_and (thn (ha pins s σ H Q I h) λc s1 e =>?_)
 cases c with
 | true=>exact isTrue_and_nil e
 | false=>exact e
theorem Lp(ha:PT X a tA):PW X (.BoolOp .Or [a] pos) tA:=by
 intro wh pins s σ H Q I h
 refine isTrue_or (thn (ha pins s σ H Q I h) λc s1 e =>?_)
 cases c with
 | false=>exact isTrue_or_nil e
 | true=>exact e
theorem KE(ha:PT X a tA)(hb:PW X (.BoolOp .And (b::rest) pos) tB'):PW X (.BoolOp .And (a::b::rest) pos) (Oj tA tB'):=by
 intro wh pins s σ H Q I h
 refine isTrue_and (thn (ha pins s σ H _ I h) λc s1 ⟨H1,I1,q1⟩ =>?_)
 cases c with
 | true=>exact hb wh pins s1 σ H1 Q I1 q1
 | false=>exact⟨H1,I1,q1⟩
theorem MQ(ha:PT X a tA)(hb:PW X (.BoolOp .Or (b::rest) pos) tB'):PW X (.BoolOp .Or (a::b::rest) pos) (tOr tA tB'):=by
 intro wh pins s σ H Q I h
 refine isTrue_or (thn (ha pins s σ H _ I h) λc s1 ⟨H1,I1,q1⟩ =>?_)
 cases c with
 | true=>exact⟨H1,I1,q1⟩
 | false=>exact hb wh pins s1 σ H1 Q I1 q1
theorem LM(ha:PT X a tA):PT X (.UnaryOp .Not a pos) (PX tA):=by
 intro pins s σ H Q I h
 exact isTrue_not (ha pins s σ H (λc H1=>Q (!c) H1) I h)
noncomputable def Ki(ta tb:TE):TE:=λσ H Q=>ta σ H λx H1 =>∃c,x = .bl c/\if c=true then tb σ H1 Q else Q (.bl false) H1
noncomputable def OX(ta tb:TE):TE:=λσ H Q=>ta σ H λx H1 =>∃c,x = .bl c/\if c=true then Q (.bl true) H1 else tb σ H1 Q
noncomputable def JK(ta:TE):TE:=λσ H Q=>ta σ H λx H1 =>∃c,x = .bl c/\Q (.bl (!c)) H1
theorem KZ{op}{t:TE}(h:PE X a t):PE X (.BoolOp op [a] pos) t:=λpins s σ H Q I hw=>BoolOp_one (h pins s σ H Q I hw)
theorem Kw(ha:PE X a ta)(hb:PE X (.BoolOp .And (b::rest) pos) tb):PE X (.BoolOp .And (a::b::rest) pos) (Ki ta tb):=by
 intro pins s σ H Q I h
 refine BoolOp_and (thn (ha pins s σ H _ I h) λv s1 ⟨x,H1,I1,r1,q1⟩ =>?_)
 obtain⟨c,rfl,q1⟩:=q1
 cases r1
 refine dE ?_
 cases c with
 | true=>exact hb pins s1 σ H1 Q I1 q1
 | false=>exact⟨.bl false,H1,I1,rfl,q1⟩
theorem NZ(ha:PE X a ta)(hb:PE X (.BoolOp .Or (b::rest) pos) tb):PE X (.BoolOp .Or (a::b::rest) pos) (OX ta tb):=by
 intro pins s σ H Q I h
 refine BoolOp_or (thn (ha pins s σ H _ I h) λv s1 ⟨x,H1,I1,r1,q1⟩ =>?_)
 obtain⟨c,rfl,q1⟩:=q1
 cases r1
 refine dE ?_
 cases c with
 | false=>exact hb pins s1 σ H1 Q I1 q1
 | true=>exact⟨.bl true,H1,I1,rfl,q1⟩
theorem Lc(ha:PE X a ta):PE X (.UnaryOp .Not a pos) (JK ta):=by
 intro pins s σ H Q I h
 refine UnaryOp_ (thn (ha pins s σ H _ I h) λv s1 ⟨x,H1,I1,r1,q1⟩ =>?_)
 obtain⟨c,rfl,q1⟩:=q1
 cases r1
 exact not_of (dE ⟨.bl (!c),H1,I1,rfl,q1⟩)
noncomputable def tIf(t:TT)(ta tb:TE):TE:=λσ H Q=>t σ H λc H1=>if c=true then ta σ H1 Q else tb σ H1 Q
theorem ET{c:Expr}(hc:PT X c tA)(ha:PE X a ta)(hb:PE X b tb):PE X (.IfExp c a b pos) (tIf tA ta tb):=by
 intro pins s σ H Q I h
 refine wpAny_IfExp (thn (hc pins s σ H _ I h) λd s1 ⟨H1,I1,q1⟩ =>?_)
 cases d with
 | true=>exact ha pins s1 σ H1 Q I1 q1
 | false=>exact hb pins s1 σ H1 Q I1 q1
end
end _L
namespace _L
open PySem PySem.Spec PyProof.Rows
noncomputable def SqL(K:av)(H:Hp)(a:Addr)(xs:List V):Prop:=
 Rd H a (.lst xs) \/
  ∃ (o:Obj) (its:Array Value) (n:Nat),K.lookup a=some o/\o.cls = .type "list"/\o.dict=none/\o.data = .seq its n/\its.size<=sizeLine/\cy xs its.toList
noncomputable def SqT(K:av)(H:Hp)(a:Addr)(xs:List V):Prop:=
 Rd H a (.tup xs) \/
  ∃ (o:Obj) (its:Array Value) (n:Nat),K.lookup a=some o/\o.cls = .type "tuple"/\o.data = .seq its n/\its.size<=sizeLine/\cy xs its.toList
noncomputable def QM:Value->Option V
 | .none=>some .non
 | .bool b=>some (.bl b)
 | .int i _=>some (.int i)
 | .str x _=>some (.str x)
 | .bytes b _=>some (.byt b)
 | .float b _=>some (.flt b)
 | .ref a=>some (.ref a)
 | .type n=>some (.ty n)
 | _=>none
theorem RelV.abs{x:V}{u:Value}(r:RelV x u):QM u=some x:=by
 cases x with
 | non=>cases r;rfl
 | bl _=>cases r;rfl
 | int _=>obtain⟨t,rfl⟩:=r;rfl
 | str _=>obtain⟨t,rfl⟩:=r;rfl
 | byt _=>obtain⟨t,rfl⟩:=r;rfl
 | flt _=>obtain⟨t,rfl⟩:=r;rfl
 | ref _=>cases r;rfl
 | ty _=>cases r;rfl
theorem RelV.inj{x y:V}{u:Value}(r:RelV x u)(q:RelV y u):x=y:=bx (r.abs.symm.trans q.abs)
theorem cy.inj: ∀{xs ys:List V}{us:List Value},cy xs us->cy ys us->xs=ys:=by
 intro xs ys us h
 induction h generalizing ys with
 | nil=>intro q;cases q;rfl
 | cons r t ih=>intro q;cases q with |cons r' t'=>rw[r.inj r',ih t']
section
variable {X:Cx}{pins:List (Addr×Obj)}{σ:St}{H:Hp}{s:Shared}{a:Addr}{xs ys:List V}
theorem SqL.of{K:av}(h:H a=some (.lst xs)):SqL K H a xs:= .inl (.inl h)
theorem Inv.list(I:Inv X pins σ H s)(h:SqL X.K H a xs): ∃its:List Value,cy xs its/\PlainL s.heap a its.toArray/\xs.length<=sizeLine:=by
 rcases h with h | ⟨o,its,n,hk,hc,hd,hs,hz,r⟩
 ·obtain⟨z,its,n,r,e⟩:=h.ok I.hok
  exact⟨its,r,⟨_,n,e,rfl,rfl,rfl⟩,z⟩
 ·refine⟨its.toList,r,⟨o,n,I.kIn a o hk,hc,hd,by simpa using hs⟩,?_⟩
  have e:=r.length
  simp only[cK]at e
  omega
theorem Inv.tuple(I:Inv X pins σ H s)(h:SqT X.K H a xs): ∃its:List Value,cy xs its/\IsTup s.heap a its.toArray/\xs.length<=sizeLine:=by
 rcases h with h | ⟨o,its,n,hk,hc,hs,hz,r⟩
 ·obtain⟨z,its,r,p⟩:=h.ok I.hok
  exact⟨its,r,p.1,z⟩
 ·refine⟨its.toList,r,⟨o,I.kIn a o hk,hc,n,by simpa using hs⟩,?_⟩
  have e:=r.length
  simp only[cK]at e
  omega
theorem Inv.list_inj(I:Inv X pins σ H s)(h:SqL X.K H a xs)(h':SqL X.K H a ys):xs=ys:=by
 obtain⟨its,r,⟨o,n,e,_,_,d⟩,_⟩:=I.list h
 obtain⟨its',r',⟨o',n',e',_,_,d'⟩,_⟩:=I.list h'
 rw[e]at e';cases e'
 rw[d]at d'
 injection d' with d1 _
 have:its=its':=by simpa using congrArg Array.toList d1
 subst this
 exact r.inj r'
theorem Inv.tuple_inj(I:Inv X pins σ H s)(h:SqT X.K H a xs)(h':SqT X.K H a ys):xs=ys:=by
 obtain⟨its,r,⟨o,e,_,n,d⟩,_⟩:=I.tuple h
 obtain⟨its',r',⟨o',e',_,n',d'⟩,_⟩:=I.tuple h'
 rw[e]at e';cases e'
 rw[d]at d'
 injection d' with d1 _
 have:its=its':=by simpa using congrArg Array.toList d1
 subst this
 exact r.inj r'
end
abbrev Cx.wish(X:Cx)(E:Value->Shared->Prop):Cx:={ X with xe:=E }
abbrev Cx.nox(X:Cx):Cx:=X.wish λ_ _=>False
theorem Cx.Ok.wish{X:Cx}(ok:X.Ok)(E:Value->Shared->Prop):(X.wish E).Ok:=
 ⟨ok.mod,ok.kind,ok.glob,ok.blt,ok.above,ok.inj,ok.has,ok.cab,ok.hd,ok.frames,ok.stk,ok.exf,ok.bs,ok.bsz,ok.noex,ok.exfs,ok.funs,ok.frf⟩
theorem Cx.Ok.unwish{X:Cx}{E:Value->Shared->Prop}(ok:(X.wish E).Ok):X.Ok:=
 ⟨ok.mod,ok.kind,ok.glob,ok.blt,ok.above,ok.inj,ok.has,ok.cab,ok.hd,ok.frames,ok.stk,ok.exf,ok.bs,ok.bsz,ok.noex,ok.exfs,ok.funs,ok.frf⟩
section
variable {X:Cx}{pins:List (Addr×Obj)}{σ:St}{H:Hp}{s:Shared}{E:Value->Shared->Prop}
theorem Inv.wish(I:Inv X pins σ H s)(E:Value->Shared->Prop):Inv (X.wish E) pins σ H s:=⟨I.ok.wish E,I.os,I.bare,I.base,I.loc,I.cell,I.free,I.freeC,I.pin,I.hok,I.len⟩
theorem Inv.unwish(I:Inv (X.wish E) pins σ H s):Inv X pins σ H s:=⟨I.ok.unwish,I.os,I.bare,I.base,I.loc,I.cell,I.free,I.freeC,I.pin,I.hok,I.len⟩
theorem SP.unwish{D:Ends}{f:Flow}{s':Shared}(h:SP (X.wish E) pins D f s'):SP X pins D f s':=by
 cases f with
 | next=>obtain⟨σ',H',I,q⟩:=h;exact⟨σ',H',I.unwish,q⟩
 | brk=>obtain⟨σ',H',I,q⟩:=h;exact⟨σ',H',I.unwish,q⟩
 | cont=>obtain⟨σ',H',I,q⟩:=h;exact⟨σ',H',I.unwish,q⟩
 | ret u=>obtain⟨v,σ',H',I,r,q⟩:=h;exact⟨v,σ',H',I.unwish,r,q⟩
theorem PSs.nox{st:List Stmt}{t:TS}(h:PSs X.nox st t):PSs X st t:=λpins s σ H D I hw=>
 dj (h pins s σ H D (I.wish _) hw) (λ_ _ q=>q.unwish) λ_ _ z=>cX z
end
section
variable {X:Cx}{st:Stmt}{rest:List Stmt}{t u:TS}{e:Expr}{te:TE}{pos:Pos}
noncomputable def FY:TS:=λD σ H=>D.nx σ H
noncomputable def MZ(t u:TS):TS:=λD σ H=>t { D with nx:=u D } σ H
theorem Ip:PSs X [] FY:=λ_ _ σ H _ I h=>sg ⟨σ,H,I,h⟩
theorem FI(h1:PS X st t)(h2:PSs X rest u):PSs X (st::rest) (MZ t u):=by
 intro pins s σ H D I h
 refine wpAny_execs_cons (thn (h1 pins s σ H { D with nx:=u D } I h) λf s1 q =>?_)
 cases f with
 | next=>
   obtain⟨σ',H',I',q⟩:=q
   exact h2 pins s1 σ' H' D I' q
 | ret v=>exact q
 | brk=>exact q
 | cont=>exact q
theorem Hk(h1:PS X st t):PSs X [st] t:=by
 intro pins s σ H D I h
 refine wpAny_execs_cons (thn (h1 pins s σ H D I h) λf s1 q =>?_)
 cases f with
 | next=>exact sg q
 | ret v=>exact q
 | brk=>exact q
 | cont=>exact q
noncomputable def K8:TS:=λD σ H=>D.bk σ H
noncomputable def OI:TS:=λD σ H=>D.ct σ H
theorem IM:PS X (.Pass pos) FY:=λ_ _ σ H _ I h=>wpAny_Pass ⟨σ,H,I,h⟩
theorem FJ:PS X (.Break pos) K8:=λ_ _ σ H _ I h=>wpAny_Break ⟨σ,H,I,h⟩
theorem zD:PS X (.Continue pos) OI:=λ_ _ σ H _ I h=>wpAny_Continue ⟨σ,H,I,h⟩
theorem Inv.quiet{pins:List (Addr×Obj)}{σ:St}{H:Hp}{s:Shared}(I:Inv X pins σ H s):interactive X.env=false:=by simp[interactive,I.ok.kind]
noncomputable def Kh(te:TE):TS:=λD σ H=>te σ H λ_ H1=>D.nx σ H1
theorem Ir(he:PE X e te)(hs:autoParam (swapsWith e none pos.line X.env=pure false) au1._auto_1):PS X (.Expr e pos) (Kh te):=by
 intro pins s σ H D I h
 exact wpAny_Expr_any (thn (he pins s σ H _ I h) λv s1 ⟨x,H1,I1,r1,q1⟩=>⟨σ,H1,I1,q1⟩) I.quiet hs
noncomputable def NA(te:TE):TS:=λD σ H=>te σ H D.rt
theorem LL(he:PE X e te):PS X (.Return (some e) pos) (NA te):=by
 intro pins s σ H D I h
 exact wpAny_Return_some (thn (he pins s σ H _ I h) λv s1 ⟨x,H1,I1,r1,q1⟩=>⟨x,σ,H1,I1,r1,q1⟩)
noncomputable def Ni:TS:=λD _ H=>D.rt .non H
theorem Iy:PS X (.Return none pos) Ni:=λ_ _ σ H _ I h=>wpAny_Return_none ⟨.non,σ,H,I,rfl,h⟩
noncomputable def Pc(c:TT)(t u:TS):TS:=λD σ H=>c σ H λb H1=>if b=true then t D σ H1 else u D σ H1
theorem O9{c:Expr}{a b:List Stmt}{tc:TT}(hc:PT X c tc)(ha:PSs X a t)(hb:PSs X b u):PS X (.If c a b pos) (Pc tc t u):=by
 intro pins s σ H D I h
 refine wpAny_If (thn (hc pins s σ H _ I h) λd s1 ⟨H1,I1,q1⟩ =>?_)
 cases d with
 | true=>exact ha pins s1 σ H1 D I1 q1
 | false=>exact hb pins s1 σ H1 D I1 q1
end
abbrev TG:=V->St->Hp->(St->Hp->Prop)->Prop
abbrev TGs:=List V->St->Hp->(St->Hp->Prop)->Prop
noncomputable def PG(X:Cx)(target:Expr)(t:TG):Prop:=
 ∀(pins:List (Addr×Obj)) (s:Shared) (σ:St) (H:Hp) (v:V) (u:Value) (Q:St->Hp->Prop),Inv X pins σ H s->RelV v u->t v σ H Q ->
  aI (model X.prog X.w) X.A (assign target X.env u) (λ_ s' =>∃σ' H',Inv X pins σ' H' s'/\Q σ' H') X.xe s
noncomputable def PGs(X:Cx)(ts:List Expr)(t:TGs):Prop:=
 ∀(pins:List (Addr×Obj)) (s:Shared) (σ:St) (H:Hp) (vs:List V) (us:List Value) (Q:St->Hp->Prop),Inv X pins σ H s->cy vs us->t vs σ H Q ->
  aI (model X.prog X.w) X.A (assignInOrder ((assignEach ts X.env).map (·.2)) us) (λ_ s' =>∃σ' H',Inv X pins σ' H' s'/\Q σ' H') X.xe s
abbrev E9:=V->V->V->Hp->(Hp->Prop)->Prop
noncomputable def LB(X:Cx)(t:E9):Prop:=
 ∀(pins:List (Addr×Obj)) (s:Shared) (σ:St) (H:Hp) (o i v:V) (ov iv u:Value) (Q:Hp->Prop),Inv X pins σ H s->RelV o ov->RelV i iv->RelV v u->t o i v H Q ->
  aI (model X.prog X.w) X.A (setItem ov iv u) (λ_ s' =>∃H',Inv X pins σ H' s'/\Q H') X.xe s
section
variable {X:Cx}{pos:Pos}
noncomputable def jq(i:Nat):TG:=λv σ H Q=>Q (σ.set i (some v)) H
theorem Bt{i:Nat}{x:Str}(hN:X.N.Nodup)(hi:X.N[i]? = some x)(hx:Loc X.env.scope x)(hf:autoParam (X.fn x=true\/X.env.scope.names.lookup x=some .local) au4._auto_1):PG X (.Name x pos) (jq i):=by
 intro pins s σ H v u Q I r h
 exact z5 (vb I hN hi hx r (λs' I'=>⟨_,H,I',h⟩) hf)
noncomputable def Oa:TGs:=λvs σ H Q=>vs = []/\Q σ H
noncomputable def J6(t:TG)(u:TGs):TGs:=λvs σ H Q =>∃v r,vs=v::r/\t v σ H λσ' H'=>u r σ' H' Q
theorem Ig:PGs X [] Oa:=by
 intro pins s σ H vs us Q I r h
 obtain⟨e,h⟩:=h
 subst e
 cases r
 exact assignInOrder_nil ⟨σ,H,I,h⟩
theorem Fo{e:Expr}{es:List Expr}{t:TG}{u:TGs}(h1:PG X e t)(h2:PGs X es u)
  (hs:autoParam ((assignEach (e::es) X.env).map (·.2)=assign e X.env::(assignEach es X.env).map (·.2)) au1._auto_1):PGs X (e::es) (J6 t u):=by
 intro pins s σ H vs us Q I r h
 obtain⟨v,vr,e1,h⟩:=h
 subst e1
 cases r with
 | cons r rr=>
   rw[hs]
   refine assignInOrder_cons (thn (h1 pins s σ H _ _ _ I r h) λ_ s1 ⟨σ1,H1,I1,q1⟩ =>?_)
   exact h2 pins s1 σ1 H1 _ _ Q I1 rr q1
noncomputable def P2(K:av)(n:Nat)(t:TGs):TG:=λv σ H Q =>∃a xs,v = .ref a/\SqT K H a xs/\xs.length=n/\t xs σ H Q
theorem Lb{es:List Expr}{k:Nat}{t:TGs}{n:Nat}(hc:X.calm=true)(h:PGs X es t)
  (hn:autoParam ((assignEach es X.env).length=n) au1._auto_1) (hst:autoParam ((assignEach es X.env).findIdx? (·.1)=none) au1._auto_1):PG X (.Tuple es k pos) (P2 X.K n t):=by
 intro pins s σ H v u Q I r hw
 obtain⟨a,xs,e1,hq,hl,hw⟩:=hw
 subst e1
 cases r
 obtain⟨its,rv,ht,hz⟩:=I.tuple hq
 refine assign_Tuple_tuple (I.ok.hd hc) ht (by simp[hn,<- hl,rv.length]) hst λh' hx =>?_
 have I1:Inv X pins σ H { s with heap:=h' }:=I.kept (t':=s.toks) λb o e=>hx b o (aT (aG e)) e
 exact h pins _ σ H xs _ Q I1 (by simpa using rv) hw
noncomputable def Pq(to ti:TE)(t:E9):TG:=λv σ H Q=>to σ H λo H1=>ti σ H1 λi H2=>t o i v H2 λH3=>Q σ H3
theorem Ln{o i:Expr}{to ti:TE}{t:E9}(ho:PE X o to)(hi:PE X i ti)(hs:LB X t)
  (ha:autoParam (∀v,assign (.Subscript o i pos) X.env v=(do
   let ov <- holding [v] (eval o X.env)
   let iv <- holding [v,ov] (eval i X.env)
   standAt pos
   holding [v,ov,iv] (setItem ov iv v)
   release [v,ov,iv] [])) au3._auto_1):PG X (.Subscript o i pos) (Pq to ti t):=by
 intro pins s σ H v u Q I r h
 rw[ha]
 refine ae (dI (thn (ho pins s σ H _ I h) λov s1 ⟨x,H1,I1,r1,q1⟩ =>?_))
 refine ae (dI (thn (hi pins s1 σ H1 _ I1 q1) λiv s2 ⟨y,H2,I2,r2,q2⟩ =>?_))
 refine ae (wpAny_standAt (ae (dI (thn (hs pins s2 σ H2 x y v ov iv u _ I2 r1 r2 r q2) λ_ s3 ⟨H3,I3,q3⟩ =>?_))))
 exact wpAny_release ⟨σ,H3,I3,q3⟩
noncomputable def Gu(te:TE)(g:TG):TS:=λD σ H=>te σ H λx H1=>g x σ H1 D.nx
theorem K6{tg e:Expr}{te:TE}{g:TG}(he:PE X e te)(hg:PG X tg g)(hs:autoParam (swapsWithSole [tg] e pos.line X.env=pure false) au1._auto_1)(hw:autoParam (swappedStores [tg] e X.env=pure none) au1._auto_1)
  (h1:autoParam ((assignEach [tg] X.env).map (·.2) = [assign tg X.env]) au1._auto_1):PS X (.Assign [tg] e pos) (Gu te g):=by
 intro pins s σ H D I h
 refine wpAny_Assign_stores (thn (he pins s σ H _ I h) λv s1 ⟨x,H1,I1,r1,q1⟩ =>?_) hs hw
 rw[h1]
 exact thn (hg pins s1 σ H1 x v _ I1 r1 q1) λ_ s2 q=>q
theorem KH{i:Nat}{x:Str}{e:Expr}{te:TE}{pos':Pos}(hN:X.N.Nodup)(hi:X.N[i]? = some x)(hx:Loc X.env.scope x)(he:PE X e te)(hs:autoParam (swapsWith e (some (.Name x pos')) pos.line X.env=pure false) au1._auto_1)(hf:autoParam (X.fn x=true\/X.env.scope.names.lookup x=some .local) au4._auto_1):
  PS X (.Assign [.Name x pos'] e pos) (Gu te (jq i)):=by
 intro pins s σ H D I h
 refine wpAny_Assign_Name (thn (he pins s σ H _ I h) λv s1 ⟨y,H1,I1,r1,q1⟩ =>?_) hs
 exact vb I1 hN hi hx r1 (λs2 I2=>⟨_,H1,I2,q1⟩) hf
end
section
variable {X:Cx}{pos:Pos}
noncomputable def GM(c:TT)(tb:TS):TS:=λD σ H =>∃W:Nat->St->Hp->Prop,(∃m,W m σ H) /\ ∀m σ H,W m σ H ->
 c σ H λb H1=>if b=true then ∃N:St->Hp->Prop,(∀σ' H',N σ' H' -> ∃m',m'<m/\W m' σ' H')/\tb { D with nx:=N,ct:=N,bk:=D.nx } σ H1 else D.nx σ H1
theorem Eu{c:Expr}{body:List Stmt}{tc:TT}{tb:TS}(hp:PassesOwn (model X.prog X.w) X.A X.env X.xe)(hc:PT X c tc)(hb:PSs X body tb):PS X (.While c body [] pos) (GM tc tb):=by
 intro pins s σ H D I h
 obtain⟨W,⟨m0,w0⟩,turn⟩:=h
 refine wpAny_While (codeAny_whileLoop (λn s' =>∃σ' H',Inv X pins σ' H' s'/\W n σ' H') ?_ m0 ⟨σ,H,I,w0⟩)
 rintro n s1 ⟨σ1,H1,I1,w1⟩
 refine gM hp (thn (hc pins s1 σ1 H1 _ I1 (turn n σ1 H1 w1)) λb s2 ⟨H2,I2,q2⟩ =>?_)
 cases b with
 | true=>
   obtain⟨N,hN,q2⟩:=q2
   rw[if_pos rfl]
   refine gM hp (thn (hb pins s2 σ1 H2 _ I2 q2) λf s3 q3 =>?_)
   cases f with
   | next=>
     obtain⟨σ3,H3,I3,n3⟩:=q3
     obtain⟨m',hm,w3⟩:=hN σ3 H3 n3
     exact⟨m',hm,σ3,H3,I3,w3⟩
   | cont=>
     obtain⟨σ3,H3,I3,n3⟩:=q3
     obtain⟨m',hm,w3⟩:=hN σ3 H3 n3
     exact⟨m',hm,σ3,H3,I3,w3⟩
   | brk=>exact q3
   | ret v=>exact q3
 | false=>
   rw[if_neg bz]
   exact sg ⟨σ1,H2,I2,q2⟩
end
structure It where
 go:Nat->Hp->Prop
 yld:Nat->Hp->V->Hp->Prop
 stop:Nat->Hp->Prop
noncomputable def xP(X:Cx)(pins:List (Addr×Obj))(H:Hp)(b:Addr):Prop:=
 H b=none/\b≠X.env.locals/\b∉X.fs/\(b∈X.ex\/X.s₀.heap.objs.size<=b)/\(∀x c,X.env.cells.lookup x=some c->c≠b) /\ ∀p∈X.pn++pins,p.1≠b
theorem Inv.fpOk{X:Cx}{pins:List (Addr×Obj)}{σ:St}{H H':Hp}{s:Shared}{b:Addr}(I:Inv X pins σ H s)(hb:s.heap.objs.size<=b)(hn:H' b=none):xP X pins H' b:=by
 refine⟨hn,dk (ai I.lt hb),I.nofs hb,.inr (aF I.sz hb),λx c e z =>?_,λp hp z =>?_⟩
 ·obtain⟨v,q⟩:=I.cell x c e
  exact absurd (ai q.lt (by rw[z];exact hb)) (cf _)
 ·exact absurd (ai (aG (I.pin p hp).1) (by rw[z];exact hb)) (cf _)
structure Turn(P:Program)(w:World)(K:av)(tg:Expr)(J:It)(fp:List Addr)(it:Addr)(tn:Nat->Heap->Prop):Prop where
 mem:it∈fp
 obj: ∀i h,tn i h -> ∀b∈fp,∃o,h.get? b=some o /\ ∀v,o.data≠.cell v
 keep: ∀i h h',tn i h->(∀b∈fp,∀o,h.get? b=some o->h'.get? b=some o)->tn i h'
 item: ∀(X:Cx),X.prog=P->X.w=w->X.K=K->X.calm=true -> ∀(i:Nat) (pins:List (Addr×Obj)) (s:Shared) (σ:St) (H:Hp) (E:Value->Shared->Prop),Inv X pins σ H s->(∀b∈fp,xP X pins H b)->tn i s.heap->J.go i H ->
  aI (model P w) X.A (pyNext (.ref it)) (λr s1 =>∃u,r=some u /\
   aI (model P w) X.A (letOwnedTupleGo tg (.ref it) u) (λ_ s2 =>∃x H',Inv X pins σ H' s2/\RelV x u/\J.yld i H x H'/\tn (i+1) s2.heap /\ ∀b∈fp,H' b=none) E s1) E s
 done: ∀(X:Cx),X.prog=P->X.w=w->X.K=K->X.calm=true -> ∀(i:Nat) (pins:List (Addr×Obj)) (s:Shared) (σ:St) (H:Hp) (E:Value->Shared->Prop),Inv X pins σ H s->(∀b∈fp,xP X pins H b)->tn i s.heap->J.stop i H ->
  aI (model P w) X.A (pyNext (.ref it)) (λr s1=>r=none/\Inv X pins σ H s1) E s
 self: ∀(A:Around) (i:Nat) (s:Shared) (Q:Value->Shared->Prop) (E:Value->Shared->Prop),tn i s.heap->Q (.ref it) s->aI (model P w) A (pyIter (.ref it)) Q E s
abbrev TI:=St->Hp->(It->Hp->Prop)->Prop
noncomputable def PIE(X:Cx)(pins:List (Addr×Obj))(σ:St)(tg:Expr)(R:It->Hp->Prop)(itv:Value)(s2:Shared):Prop:=
 ∃(it:Addr) (fp:List Addr) (tn:Nat->Heap->Prop) (J:It) (H':Hp),itv = .ref it/\Inv X pins σ H' s2/\Turn X.prog X.w X.K tg J fp it tn/\tn 0 s2.heap/\(∀b∈fp,xP X pins H' b)/\R J H'
noncomputable def PI(X:Cx)(tg iter:Expr)(wi:TI):Prop:=
 ∀(pins:List (Addr×Obj)) (s:Shared) (σ:St) (H:Hp) (R:It->Hp->Prop),Inv X pins σ H s->wi σ H R ->
  aI (model X.prog X.w) X.A (eval iter X.env) (λv s1=>aI (model X.prog X.w) X.A (pyIter v) (PIE X pins σ tg R) X.xe s1) X.xe s
theorem Bq{M:Model}{A:Around}{E:Value->Shared->Prop}{s:Shared}{tg:Expr}{it:Addr}{u:Value}{o:Obj}{n:String}{vs:Array Value}{Q:Unit->Shared->Prop}(ho:s.heap.get? it=some o)(hc:o.cls = .type n)(hd:o.data = .fields vs)
  (hn : ["enumerate","zip","dict_itemiterator","dict_reverseitemiterator","odict_iterator","itertools.zip_longest","itertools.pairwise"].contains n=false) (hQ:Q () s):aI M A (letOwnedTupleGo tg (.ref it) u) Q E s:=by
 unfold letOwnedTupleGo
 cases tg <;> first
  | exact ax hQ
  | (cases u <;> first
    | exact ax hQ
    | (refine ae (GT ho ?_)
       rw[hc,hd]
       show aI M A (if (["enumerate","zip","dict_itemiterator","dict_reverseitemiterator","odict_iterator","itertools.zip_longest","itertools.pairwise"].contains n&&vs[0]? == some (rawInt _))=true then _ else _) Q E s
       rw[if_neg (by intro h;rw[hn,Bool.false_and]at h;cases h)]
       exact ax hQ))
noncomputable def Itl(K:av)(a:Addr):It:=
 ⟨λi H =>∃xs x,SqL K H a xs/\xs[i]? = some x,λi H x H'=>H'=H /\ ∀xs,SqL K H a xs->xs[i]? = some x,λi H =>∃xs,SqL K H a xs/\xs.length<=i⟩
noncomputable def Itt(K:av)(a:Addr):It:=
 ⟨λi H =>∃xs x,SqT K H a xs/\xs[i]? = some x,λi H x H'=>H'=H /\ ∀xs,SqT K H a xs->xs[i]? = some x,λi H =>∃xs,SqT K H a xs/\xs.length<=i⟩
noncomputable def Itr(lo:Int)(n:Nat):It:=⟨λi _=>i<n,λi H x H'=>H'=H/\x = .int (lo+i),λi _=>n<=i⟩
theorem Dy{P:Program}{w:World}{K:av}{tg:Expr}(a it:Addr):Turn P w K tg (Itl K a) [it] it (λi h=>h.IsListIter it a i) where
 mem:=by simp
 obj:=λi h st b hb=>by
  have e:b=it:=by simpa using hb
  subst e
  obtain⟨o,e,c,d⟩:=st
  exact⟨o,e,λv z=>by rw[d]at z;cases z⟩
 keep:=λi h h' st k=>st.at λo e=>k it (by simp) o e
 item:=by
  intro X hP hw hK hc i pins s σ H E I hf st hg
  subst hP hw hK
  obtain⟨xs,x,hq,hx⟩:=hg
  obtain⟨its,rv,p,hz⟩:=I.list hq
  obtain⟨u,hu,ru⟩:=rv.get hx
  obtain⟨f0,f1,f2,f3,f4,f5⟩:=hf it (by simp)
  refine wpAny_pyNext_list_item st p.isList (x:=u) (by simpa using hu) λh' st' sb =>?_
  have I1:Inv X pins σ H { s with heap:=h' }:=I.turned (t':=s.toks) (λb o hb e=>(sb.2 b hb).trans e) f0 f1 f3 f4 f5
  obtain⟨o,e,c,d⟩:=id st'
  exact⟨u,rfl,Bq (s:={ s with heap:=h' }) e c d (by decide) ⟨x,H,I1,ru,⟨rfl,λys hy=>by rw[I.list_inj hy hq];exact hx⟩,st',λb hb=>(hf b hb).1⟩⟩
 done:=by
  intro X hP hw hK hc i pins s σ H E I hf st hg
  subst hP hw hK
  obtain⟨xs,hq,hx⟩:=hg
  obtain⟨its,rv,p,hz⟩:=I.list hq
  obtain⟨f0,f1,f2,f3,f4,f5⟩:=hf it (by simp)
  have hl:=rv.length
  exact wpAny_pyNext_list_end (I.ok.hd hc) st p.isList (by simp;omega) λh' eb=>⟨rfl,I.turned (t':=s.toks) (λb o hb e=>eb b o hb e) f0 f1 f3 f4 f5⟩
 self:=λ_ _ _ _ _ st h=>wpAny_pyIter_listiter st h
theorem Ba{P:Program}{w:World}{K:av}{tg:Expr}(a it:Addr):Turn P w K tg (Itt K a) [it] it (λi h=>h.IsTupleIter it a i) where
 mem:=by simp
 obj:=λi h st b hb=>by
  have e:b=it:=by simpa using hb
  subst e
  obtain⟨o,e,c,d⟩:=st
  exact⟨o,e,λv z=>by rw[d]at z;cases z⟩
 keep:=λi h h' st k=>st.at λo e=>k it (by simp) o e
 item:=by
  intro X hP hw hK hc i pins s σ H E I hf st hg
  subst hP hw hK
  obtain⟨xs,x,hq,hx⟩:=hg
  obtain⟨its,rv,p,hz⟩:=I.tuple hq
  obtain⟨u,hu,ru⟩:=rv.get hx
  obtain⟨f0,f1,f2,f3,f4,f5⟩:=hf it (by simp)
  refine wpAny_pyNext_tuple_item st (show s.heap.IsTuple a its.toArray from p) (x:=u) (by simpa using hu) λh' st' sb =>?_
  have I1:Inv X pins σ H { s with heap:=h' }:=I.turned (t':=s.toks) (λb o hb e=>(sb.2 b hb).trans e) f0 f1 f3 f4 f5
  obtain⟨o,e,c,d⟩:=id st'
  exact⟨u,rfl,Bq (s:={ s with heap:=h' }) e c d (by decide) ⟨x,H,I1,ru,⟨rfl,λys hy=>by rw[I.tuple_inj hy hq];exact hx⟩,st',λb hb=>(hf b hb).1⟩⟩
 done:=by
  intro X hP hw hK hc i pins s σ H E I hf st hg
  subst hP hw hK
  obtain⟨xs,hq,hx⟩:=hg
  obtain⟨its,rv,p,hz⟩:=I.tuple hq
  obtain⟨f0,f1,f2,f3,f4,f5⟩:=hf it (by simp)
  have hl:=rv.length
  exact wpAny_pyNext_tuple_end (I.ok.hd hc) st (show s.heap.IsTuple a its.toArray from p) (by simp;omega) λh' eb=>⟨rfl,I.turned (t':=s.toks) (λb o hb e=>eb b o hb e) f0 f1 f3 f4 f5⟩
 self:=λ_ _ _ _ _ st h=>wpAny_pyIter_tupleiter st h
theorem A7{P:Program}{w:World}{K:av}{tg:Expr}(it:Addr)(lo:Int)(n:Nat):Turn P w K tg (Itr lo n) [it] it (λi h=>IsRangeIter h it (lo+(i:Nat)*1) ((n:Int) - (i:Nat)) 1) where
 mem:=by simp
 obj:=λi h st b hb=>by
  have e:b=it:=by simpa using hb
  subst e
  exact⟨_,st,λv z=>by
   have z':Data.fields _=Data.cell v:=z
   cases z'⟩
 keep:=λi h h' st k=>k it (by simp) _ st
 item:=by
  intro X hP hw hK hc i pins s σ H E I hf st hg
  subst hP hw hK
  obtain⟨f0,f1,f2,f3,f4,f5⟩:=hf it (by simp)
  have W:=Walks.range (prog:=X.prog) (w:=X.w) (I.ok.hd hc) it lo 1 n
  refine W.item i s _ _ hg st λv h' tk hv st' kk =>?_
  obtain⟨t,rfl⟩:=hv
  have I1:Inv X pins σ H { s with heap:=h',toks:=tk }:=I.turned (λb o hb e=>kk b o (by simpa using hb) e) f0 f1 f3 f4 f5
  refine⟨_,rfl,Bq (s:={ s with heap:=h',toks:=tk }) (n:="range_iterator") st' rfl rfl (by decide) ⟨.int (lo+i),H,I1,⟨t,?_⟩,⟨rfl,rfl⟩,st',fun b hb=>(hf b hb).1⟩⟩
  rw[Int.mul_one]
 done:=by
  intro X hP hw hK hc i pins s σ H E I hf st hg
  subst hP hw hK
  obtain⟨f0,f1,f2,f3,f4,f5⟩:=hf it (by simp)
  exact wpAny_pyNext_range_end (I.ok.hd hc) st (by have:n<=i:=hg;omega) λh' eb=>⟨rfl,I.turned (t':=s.toks) (λb o hb e=>eb b o hb e) f0 f1 f3 f4 f5⟩
 self:=λ_ _ _ _ _ st h=>wpAny_pyIter_rangeiter st h
end _L
namespace _L
open PySem PySem.Spec PyProof.Rows
section
variable {X:Cx}{tg:Expr}
noncomputable def wG(K:av)(tl:TE):TI:=λσ H R=>tl σ H λx H1 =>∃a,x = .ref a/\(∃xs,SqL K H1 a xs)/\R (Itl K a) H1
noncomputable def CG(K:av)(tl:TE):TI:=λσ H R=>tl σ H λx H1 =>∃a,x = .ref a/\(∃xs,SqT K H1 a xs)/\R (Itt K a) H1
theorem HW{l:Expr}{tl:TE}(hl:PE X l tl):PI X tg l (wG X.K tl):=by
 intro pins s σ H R I h
 refine thn (hl pins s σ H _ I h) λv s1 ⟨x,H1,I1,r1,q1⟩ =>?_
 obtain⟨a,e,⟨xs,hq⟩,q⟩:=q1
 subst e
 cases r1
 obtain⟨its,rv,p,hz⟩:=I1.list hq
 refine oX p.isList ?_
 refine⟨s1.heap.objs.size,[s1.heap.objs.size],_,_,H1,rfl,I1.kept (t':=s1.toks) λb o e=>ar _ e,Dy a _,⟨_,aC _ rfl,rfl,rfl⟩,λb hb =>?_,q⟩
 have e:b=s1.heap.objs.size:=by simpa using hb
 subst e
 exact I1.fpOk (aq _) (I1.hok.fresh (aq _))
theorem K3{l:Expr}{tl:TE}(hl:PE X l tl):PI X tg l (CG X.K tl):=by
 intro pins s σ H R I h
 refine thn (hl pins s σ H _ I h) λv s1 ⟨x,H1,I1,r1,q1⟩ =>?_
 obtain⟨a,e,⟨xs,hq⟩,q⟩:=q1
 subst e
 cases r1
 obtain⟨its,rv,p,hz⟩:=I1.tuple hq
 refine wpAny_pyIter_tuple (show s1.heap.IsTuple a its.toArray from p) ?_
 refine⟨s1.heap.objs.size,[s1.heap.objs.size],_,_,H1,rfl,I1.kept (t':=s1.toks) λb o e=>ar _ e,Ba a _,⟨_,aC _ rfl,rfl,rfl⟩,λb hb =>?_,q⟩
 have e:b=s1.heap.objs.size:=by simpa using hb
 subst e
 exact I1.fpOk (aq _) (I1.hok.fresh (aq _))
theorem yA{pins:List (Addr×Obj)}{σ:St}{H:Hp}{s:Shared}{R:It->Hp->Prop}{E:Value->Shared->Prop}{lo hi:Int}{t u v:Tok}{tk:Nat}(I:Inv X pins σ H s)(h1: -(2 ^ 62)<=lo)(h2:lo<2 ^ 62)(h3: -(2 ^ 62)<=hi)(h4:hi<2 ^ 62)
  (q:R (Itr lo (hi - lo).toNat) H):aI (model X.prog X.w) X.A (pyIter (.ref s.heap.objs.size)) (PIE X pins σ tg R) E { s with heap:=s.heap.push { cls := .type "range",data := .fields #[.int lo t,.int hi u,.int 1 v] },toks:=tk }:=by
 refine wpAny_pyIter_range (IsRange.new ..) (small_one h1 h2 h3 h4) ?_
 have I1:Inv X pins σ H { s with heap:=s.heap.push { cls := .type "range",data := .fields #[.int lo t,.int hi u,.int 1 v] },toks:=tk }:=I.kept fun b o e=>ar _ e
 refine⟨(s.heap.push { cls := .type "range",data := .fields #[.int lo t,.int hi u,.int 1 v] }).objs.size,[(s.heap.push { cls := .type "range",data := .fields #[.int lo t,.int hi u,.int 1 v] }).objs.size],_,_,H,rfl,
  I1.kept (t':=tk) λb o e=>ar _ e,A7 _ lo (hi - lo).toNat,?_,λb hb =>?_,q⟩
 ·have e1:lo+((0:Nat):Int)*1=lo:=by simp
  have e2:(((hi - lo).toNat:Nat):Int) - ((0:Nat):Int)=dX lo hi 1:=by rw[rangeSize_one];split <;> omega
  show IsRangeIter _ _ (lo+((0:Nat):Int)*1) ((((hi - lo).toNat:Nat):Int) - ((0:Nat):Int)) 1
  rw[e1,e2]
  exact aC _ rfl
 ·have e:b=(s.heap.push { cls := .type "range",data := .fields #[.int lo t,.int hi u,.int 1 v] }).objs.size:=by simpa using hb
  subst e
  exact I1.fpOk (aq _) (I1.hok.fresh (aq _))
noncomputable def zA(ta:TA):TI:=λσ H R=>ta σ H λvs H1 =>∃j:Int,vs = [.int j] /\ -(2 ^ 62)<=j/\j<2 ^ 62/\R (Itr 0 j.toNat) H1
noncomputable def yN(ta:TA):TI:=λσ H R=>ta σ H λvs H1 =>∃i j:Int,vs = [.int i,.int j]/\(-(2 ^ 62)<=i/\i<2 ^ 62 /\ -(2 ^ 62)<=j/\j<2 ^ 62)/\R (Itr i (j - i).toNat) H1
theorem DL {a:Expr}{ta:TA}{p pos:Pos} (hg:Gl X "range") (hm:X.mg "range"=none) (ha:PA X [a] ta) (hs:autoParam (starEach [a] X.env = [(false,eval a X.env)]) au1._auto_1):PI X tg (.Call (.Name "range" p) [a] [] pos) (zA ta):=by
 intro pins s σ H R I h
 refine Call_ (ko I hg hm boot_range (cz (thn (ha pos pins s σ H _ I h) λus s1 ⟨vs,H1,I1,r1,q1⟩ =>?_) hs rfl))
 obtain⟨j,e,q1,q2,q⟩:=q1
 subst e
 cases r1 with
 | cons r rr=>
   cases rr
   obtain⟨t,rfl⟩:=r
   exact call_range_1 (yA I1 (by decide) (by decide) q1 q2 (by simpa using q))
theorem Df {a b:Expr}{ta:TA}{p pos:Pos} (hg:Gl X "range") (hm:X.mg "range"=none) (ha:PA X [a,b] ta) (hs:autoParam (starEach [a,b] X.env = [(false,eval a X.env),(false,eval b X.env)]) au1._auto_1) (hs2:autoParam (starEach [b] X.env = [(false,eval b X.env)]) au1._auto_1) :
  PI X tg (.Call (.Name "range" p) [a,b] [] pos) (yN ta):=by
 intro pins s σ H R I h
 refine Call_ (ko I hg hm boot_range (cz (thn (ha pos pins s σ H _ I h) λus s1 ⟨vs,H1,I1,r1,q1⟩ =>?_) (by rw[hs,hs2]) (by rw[hs2];rfl)))
 obtain⟨i,j,e,⟨q1,q2,q3,q4⟩,q⟩:=q1
 subst e
 cases r1 with
 | cons r rr=>
   cases rr with
   | cons r' rr=>
     cases rr
     obtain⟨t,rfl⟩:=r
     obtain⟨t',rfl⟩:=r'
     exact call_range_2 (yA I1 q1 q2 q3 q4 q)
noncomputable def xM(wi:TI)(g:TG)(tb:TS):TS:=λD σ H=>wi σ H λJ H1 =>∃W:Nat->Nat->St->Hp->Prop,(∃m,W 0 m σ H1) /\ ∀i m σ H,W i m σ H ->
 (J.stop i H/\D.nx σ H)\/(J.go i H /\ ∃N:St->Hp->Prop,(∀σ' H',N σ' H' -> ∃m',m'<m/\W (i+1) m' σ' H') /\ ∀x H',J.yld i H x H'->g x σ H' λσ2 H2=>tb { D with nx:=N,ct:=N,bk:=D.nx } σ2 H2)
noncomputable def uH(fp:List Addr)(h:Heap):List (Addr×Obj):=fp.filterMap λb=>(h.get? b).map λo=>(b,o)
theorem lB{fp:List Addr}{h:Heap}{b:Addr}{o:Obj}(hb:b∈fp)(e:h.get? b=some o):(b,o)∈uH fp h:=List.mem_filterMap.mpr ⟨b,hb,by rw[e];rfl⟩
theorem Dn{fp:List Addr}{h:Heap}{p:Addr×Obj}(hp:p∈uH fp h):p.1∈fp/\h.get? p.1=some p.2:=by
 obtain⟨b,hb,e⟩:=List.mem_filterMap.mp hp
 cases q:h.get? b with
 | none=>rw[q]at e;cases e
 | some o=>
   rw[q]at e
   have e':(b,o)=p:=bx e
   subst e'
   exact⟨hb,q⟩
theorem Inv.pinned{pins:List (Addr×Obj)}{σ:St}{H:Hp}{s:Shared}{fp:List Addr}(I:Inv X pins σ H s)(hf: ∀b∈fp,xP X pins H b)(ho: ∀b∈fp,∃o,s.heap.get? b=some o /\ ∀v,o.data≠.cell v):Inv X (pins++uH fp s.heap) σ H s:=
 I.pins_of λp hp=>(bo.mp hp).elim (λz=>I.pin p (aY _ z)) λz=>by
  obtain⟨hb,e⟩:=Dn z
  obtain⟨f0,f1,f2,_⟩:=hf p.1 hb
  obtain⟨o,e',d⟩:=ho p.1 hb
  rw[e]at e';cases e'
  exact⟨e,f0,f1,f2,d⟩
theorem Inv.unpinned{pins pl:List (Addr×Obj)}{σ:St}{H:Hp}{s:Shared}(I:Inv X (pins++pl) σ H s):Inv X pins σ H s:=I.pins_of λp hp=>I.pin p (aY _ (bb _ hp))
theorem FT{iter:Expr}{body:List Stmt}{wi:TI}{g:TG}{tb:TS}{pos:Pos}(hp:PassesOwn (model X.prog X.w) X.A X.env X.xe)(hc:X.calm=true)(hi:PI X tg iter wi)(hg:PG X tg g)(hb:PSs X body tb)
  (hs:autoParam (∀x,foldedSetIterable iter X.env x=pure x) au3._auto_1):PS X (.For tg iter body [] pos) (xM wi g tb):=by
 intro pins s σ H D I h
 refine wpAny_For (thn (hi pins s σ H _ I h) λv s1 h1=>thn h1 λitv s2 h2 =>?_) hs
 obtain⟨it,fp,tn,J,H2,e,I2,T,st2,f2,W,⟨m0,w0⟩,turn⟩:=h2
 subst e
 have stat: ∀{H':Hp},(∀b∈fp,H' b=none) -> ∀b∈fp,xP X pins H' b:=λhn b hb=>⟨hn b hb,(f2 b hb).2⟩
 refine codeAny_forLoop_any (λn s' =>∃i σ' H',Inv X pins σ' H' s'/\tn i s'.heap/\(∀b∈fp,H' b=none)/\W i n σ' H') ?_ m0 ⟨0,σ,H2,I2,st2,λb hb=>(f2 b hb).1,w0⟩
 rintro n s3 ⟨i,σ3,H3,I3,st3,fr3,w3⟩
 rcases turn i n σ3 H3 w3 with⟨stop,qn⟩ | ⟨go,N,hN,step⟩
 ·refine gM hp (thn (T.done X rfl rfl rfl hc i pins s3 σ3 H3 X.xe I3 (stat fr3) st3 stop) λr s4 ⟨hr,I4⟩ =>?_)
  subst hr
  exact sg ⟨σ3,H3,I4,qn⟩
 ·refine gM hp (thn (T.item X rfl rfl rfl hc i pins s3 σ3 H3 X.xe I3 (stat fr3) st3 go) λr s4 ⟨u,hr,h4⟩ =>?_)
  subst hr
  refine gM hp (thn h4 λ_ s5 ⟨x,H5,I5,r5,y5,st5,fr5⟩ =>?_)
  have I5':=I5.pinned (stat fr5) (T.obj _ _ st5)
  refine gM hp (thn (hg _ s5 σ3 H5 x u _ I5' r5 (step x H5 y5)) λ_ s6 ⟨σ6,H6,I6,q6⟩ =>?_)
  refine gM hp (thn (hb _ s6 σ6 H6 _ I6 q6) λf s7 q7 =>?_)
  have again: ∀{σ7:St}{H7:Hp},Inv X (pins++uH fp s5.heap) σ7 H7 s7->N σ7 H7 -> ∃m,m<n /\ ∃i σ' H',Inv X pins σ' H' s7/\tn i s7.heap/\(∀b∈fp,H' b=none)/\W i m σ' H':=λ{σ7 H7} I7 n7=>by
   obtain⟨m',hm,w7⟩:=hN σ7 H7 n7
   refine⟨m',hm,i+1,σ7,H7,I7.unpinned,T.keep _ _ _ st5 λb hb o e=>(I7.pin (b,o) (aY _ (aY _ (lB hb e)))).1,λb hb =>?_,w7⟩
   obtain⟨o,e,d⟩:=T.obj _ _ st5 b hb
   exact(I7.pin (b,o) (aY _ (aY _ (lB hb e)))).2.1
  cases f with
  | next=>obtain⟨σ7,H7,I7,n7⟩:=q7;exact again I7 n7
  | cont=>obtain⟨σ7,H7,I7,n7⟩:=q7;exact again I7 n7
  | brk=>obtain⟨σ7,H7,I7,q7⟩:=q7;exact⟨σ7,H7,I7.unpinned,q7⟩
  | ret v=>obtain⟨x7,σ7,H7,I7,r7,q7⟩:=q7;exact⟨x7,σ7,H7,I7.unpinned,r7,q7⟩
end
theorem HP{K:av}{a:Addr}{xs:List V}{g:TG}{tb:TS}{D:Ends}{σ:St}{H:Hp}(Pv:Nat->St->Hp->Prop)(h0:Pv 0 σ H)(hl: ∀i σ H,i<=xs.length->Pv i σ H->SqT K H a xs)
  (hs: ∀i x σ H,xs[i]? = some x->Pv i σ H->g x σ H λσ2 H2=>tb { D with nx:=Pv (i+1),ct:=Pv (i+1),bk:=D.nx } σ2 H2) (hd: ∀σ H,Pv xs.length σ H->D.nx σ H):
  ∃W:Nat->Nat->St->Hp->Prop,(∃m,W 0 m σ H) /\ ∀i m σ H,W i m σ H ->
   ((Itt K a).stop i H/\D.nx σ H)\/((Itt K a).go i H /\ ∃N:St->Hp->Prop,(∀σ' H',N σ' H' -> ∃m',m'<m/\W (i+1) m' σ' H') /\ ∀x H',(Itt K a).yld i H x H'->g x σ H' λσ2 H2=>tb { D with nx:=N,ct:=N,bk:=D.nx } σ2 H2):=by
 refine⟨λi m σ H=>m=xs.length - i/\i<=xs.length/\Pv i σ H,⟨xs.length,by simp,dc _,h0⟩,?_⟩
 rintro i m σ H ⟨rfl,hi,p⟩
 have q:=hl i σ H hi p
 by_cases hlt:i<xs.length
 ·refine .inr ⟨⟨xs,xs[i],q,by simp[hlt]⟩,Pv (i+1),λσ' H' p'=>⟨xs.length - (i+1),by omega,rfl,hlt,p'⟩,λx H' y =>?_⟩
  obtain⟨e,y⟩:=y
  subst e
  exact hs i x σ _ (y xs q) p
 ·have e:i=xs.length:=by omega
  subst e
  exact .inl ⟨⟨xs,q,aq _⟩,hd σ H p⟩
theorem DA{lo:Int}{n:Nat}{g:TG}{tb:TS}{D:Ends}{σ:St}{H:Hp}(Pv:Nat->St->Hp->Prop)(h0:Pv 0 σ H)
  (hs: ∀i σ H,i<n->Pv i σ H->g (.int (lo+i)) σ H λσ2 H2=>tb { D with nx:=Pv (i+1),ct:=Pv (i+1),bk:=D.nx } σ2 H2) (hd: ∀σ H,Pv n σ H->D.nx σ H):
  ∃W:Nat->Nat->St->Hp->Prop,(∃m,W 0 m σ H) /\ ∀i m σ H,W i m σ H ->
   ((Itr lo n).stop i H/\D.nx σ H)\/((Itr lo n).go i H /\ ∃N:St->Hp->Prop,(∀σ' H',N σ' H' -> ∃m',m'<m/\W (i+1) m' σ' H') /\ ∀x H',(Itr lo n).yld i H x H'->g x σ H' λσ2 H2=>tb { D with nx:=N,ct:=N,bk:=D.nx } σ2 H2):=by
 refine⟨λi m σ H=>m=n - i/\i<=n/\Pv i σ H,⟨n,by simp,dc _,h0⟩,?_⟩
 rintro i m σ H ⟨rfl,hi,p⟩
 by_cases hlt:i<n
 ·refine .inr ⟨hlt,Pv (i+1),λσ' H' p'=>⟨n - (i+1),by omega,rfl,hlt,p'⟩,λx H' y =>?_⟩
  obtain⟨e,y⟩:=y
  subst e y
  exact hs i σ _ hlt p
 ·have e:i=n:=by omega
  subst e
  exact .inl ⟨aq _,hd σ H p⟩
end _L
namespace _L
open PySem PySem.Spec PyProof.Rows
abbrev R2:=V->V->Hp->VK->Prop
noncomputable def OpR(X:Cx)(f:Value->Value->Sem Value)(r:R2):Prop:=
 ∀(pins:List (Addr×Obj)) (s:Shared) (σ:St) (H:Hp) (x y:V) (v u:Value) (Q:VK),Inv X pins σ H s->RelV x v->RelV y u->r x y H Q ->
  aI (model X.prog X.w) X.A (f v u) (EP X pins σ Q) X.xe s
noncomputable def UnR(X:Cx)(f:Value->Sem Value)(r:V->Hp->VK->Prop):Prop:=
 ∀(pins:List (Addr×Obj)) (s:Shared) (σ:St) (H:Hp) (x:V) (v:Value) (Q:VK),Inv X pins σ H s->RelV x v->r x H Q ->
  aI (model X.prog X.w) X.A (f v) (EP X pins σ Q) X.xe s
noncomputable def iq(X:Cx)(f:Value)(r:List V->Hp->VK->Prop):Prop:=
 ∀(pins:List (Addr×Obj)) (s:Shared) (σ:St) (H:Hp) (xs:List V) (us:List Value) (Q:VK),Inv X pins σ H s->cy xs us->r xs H Q ->
  aI (model X.prog X.w) X.A (call f us) (EP X pins σ Q) X.xe s
noncomputable def tOp(r:R2)(ta tb:TE):TE:=λσ H Q=>ta σ H λx H1=>tb σ H1 λy H2=>r x y H2 Q
noncomputable def tUn(r:V->Hp->VK->Prop)(ta:TE):TE:=λσ H Q=>ta σ H λx H1=>r x H1 Q
noncomputable def rI(C:Int->Int->Prop)(g:Int->Int->V):R2:=λx y H Q =>∃i j,x = .int i/\y = .int j/\C i j/\Q (g i j) H
noncomputable def rI0(g:Int->Int->V):R2:=λx y H Q =>∃i j,x = .int i/\y = .int j/\Q (g i j) H
noncomputable def rU(g:Int->V):V->Hp->VK->Prop:=λx H Q =>∃i,x = .int i/\Q (g i) H
section
variable {X:Cx}{a b c:Expr}{ta tb tc:TE}{pos:Pos}
theorem L1(ha:PE X a ta)(hb:PE X b tb){pins:List (Addr×Obj)}{s:Shared}{σ:St}{H:Hp}{R:V->V->Hp->Prop}(I:Inv X pins σ H s)
  (h:ta σ H λx H1=>tb σ H1 λy H2=>R x y H2) {Q:Value->Shared->Prop}{f:Value->Value->Sem Value}
  (hf: ∀v u s2 x y H2,Inv X pins σ H2 s2->RelV x v->RelV y u->R x y H2->aI (model X.prog X.w) X.A (f v u) Q X.xe s2):
  aI (model X.prog X.w) X.A (eval a X.env) (λv s₁=>aI (model X.prog X.w) X.A (eval b X.env) (λu s₂=>aI (model X.prog X.w) X.A (f v u) Q X.xe s₂) X.xe s₁) X.xe s:=by
 refine thn (ha pins s σ H _ I h) λv s1 ⟨x,H1,I1,r1,q1⟩ =>?_
 refine thn (hb pins s1 σ H1 _ I1 q1) λu s2 ⟨y,H2,I2,r2,q2⟩ =>?_
 exact hf v u s2 x y H2 I2 r1 r2 q2
theorem wK{op:Operator}{r:R2}(ho:OpR X (binaryOp op) r)(ha:PE X a ta)(hb:PE X b tb):PE X (.BinOp a op b pos) (tOp r ta tb):=by
 intro pins s σ H Q I h
 exact wpAny_BinOp (L1 ha hb I h λv u s2 x y H2 I2 rx ry q=>ho pins s2 σ H2 x y v u Q I2 rx ry q)
theorem Nq{op:UnaryOp}{r:V->Hp->VK->Prop}(ho:UnR X (unaryOp op) r)(ha:PE X a ta):PE X (.UnaryOp op a pos) (tUn r ta):=by
 intro pins s σ H Q I h
 exact UnaryOp_ (thn (ha pins s σ H _ I h) λv s1 ⟨x,H1,I1,r1,q1⟩=>ho pins s1 σ H1 x v Q I1 r1 q1)
theorem opI{f:Value->Value->Sem Value}{C:Int->Int->Prop}{g:Int->Int->Int}
  (rule: ∀(i j:Int) (t u:Tok) (s:Shared) (Q:Value->Shared->Prop) (E:Value->Shared->Prop),C i j->Q (.int (g i j) s.toks) { s with toks:=s.toks+1 }->aI (model X.prog X.w) X.A (f (.int i t) (.int j u)) Q E s):
  OpR X f (rI C λi j => .int (g i j)):=by
 intro pins s σ H x y v u Q I rx ry h
 obtain⟨i,j,rfl,rfl,hc,q⟩:=h
 obtain⟨t,rfl⟩:=rx
 obtain⟨t',rfl⟩:=ry
 exact rule i j t t' s _ _ hc ⟨.int (g i j),H,I.tok _,⟨_,rfl⟩,q⟩
theorem Na{f:Value->Value->Sem Value}{g:Int->Int->Int}
  (rule: ∀(i j:Int) (t u:Tok) (s:Shared) (Q:Value->Shared->Prop) (E:Value->Shared->Prop),Q (.int (g i j) s.toks) { s with toks:=s.toks+1 }->aI (model X.prog X.w) X.A (f (.int i t) (.int j u)) Q E s):
  OpR X f (rI0 λi j => .int (g i j)):=by
 intro pins s σ H x y v u Q I rx ry h
 obtain⟨i,j,rfl,rfl,q⟩:=h
 obtain⟨t,rfl⟩:=rx
 obtain⟨t',rfl⟩:=ry
 exact rule i j t t' s _ _ ⟨.int (g i j),H,I.tok _,⟨_,rfl⟩,q⟩
theorem Hw{f:Value->Value->Sem Value}{g:Int->Int->Bool}
  (rule: ∀(i j:Int) (t u:Tok) (s:Shared) (Q:Value->Shared->Prop) (E:Value->Shared->Prop),Q (.bool (g i j)) s->aI (model X.prog X.w) X.A (f (.int i t) (.int j u)) Q E s):
  OpR X f (rI0 λi j => .bl (g i j)):=by
 intro pins s σ H x y v u Q I rx ry h
 obtain⟨i,j,rfl,rfl,q⟩:=h
 obtain⟨t,rfl⟩:=rx
 obtain⟨t',rfl⟩:=ry
 exact rule i j t t' s _ _ ⟨.bl (g i j),H,I,rfl,q⟩
noncomputable def OY(i j:Int):Prop:=0<j/\j<1073741824
noncomputable def Pb(i j:Int):Prop:=0<=j/\j<=1000000/\i.natAbs<2 ^ 64
noncomputable def HS(i j:Int):Prop:=(-(2 ^ 64)<i/\i<2 ^ 64)\/(-(2 ^ 64)<j/\j<2 ^ 64)
theorem HS.ok{i j:Int}(h:HS i j):IntMulOk i j:=by
 rcases h with⟨h1,h2⟩ | ⟨h1,h2⟩
 ·exact .of_left (intBits_le_64 h1 h2)
 ·exact .of_right (intBits_le_64 h1 h2)
theorem LN:OpR X (binaryOp .Add) (rI0 λi j => .int (i+j)):=Na λ_ _ _ _ _ _ _ q=>add_int q
theorem Kx:OpR X (binaryOp .Sub) (rI0 λi j => .int (i - j)):=Na λ_ _ _ _ _ _ _ q=>sub_int q
theorem LI:OpR X (binaryOp .Mult) (rI HS λi j => .int (i*j)):=opI λ_ _ _ _ _ _ _ hc q=>mul_int q hc.ok
theorem Hy:OpR X (binaryOp .FloorDiv) (rI OY λi j => .int (i / j)):=opI λi j _ _ _ _ _ hc q=>by
 have h1:(0:Int)<j:=hc.1
 have h2:j<1073741824:=hc.2
 exact floordiv_int (by omega) (by rw[Int.fdiv_eq_ediv_of_nonneg i (by omega)];exact q) (.inl (PyProof.noPylong_small (by omega)))
theorem Kp:OpR X (binaryOp .Mod) (rI (λ_ j=>0<j) λi j => .int (i % j)):=opI λi j _ _ _ _ _ hc q=>by
 have h1:(0:Int)<j:=hc
 exact mod_int' (by omega) (by rw[Int.fmod_eq_emod_of_nonneg i (by omega)];exact q)
theorem KP:OpR X (binaryOp .Pow) (rI Pb λi j => .int (i ^ j.toNat)):=opI λ_ _ _ _ _ _ _ hc q=>pow_int_small hc.1 hc.2.1 hc.2.2 q
theorem unI{f:Value->Sem Value}{g:Int->Int}
  (rule: ∀(i:Int) (t:Tok) (s:Shared) (Q:Value->Shared->Prop) (E:Value->Shared->Prop),Q (.int (g i) s.toks) { s with toks:=s.toks+1 }->aI (model X.prog X.w) X.A (f (.int i t)) Q E s):
  UnR X f (rU λi => .int (g i)):=by
 intro pins s σ H x v Q I rx h
 obtain⟨i,rfl,q⟩:=h
 obtain⟨t,rfl⟩:=rx
 exact rule i t s _ _ ⟨.int (g i),H,I.tok _,⟨_,rfl⟩,q⟩
theorem L5:UnR X (unaryOp .USub) (rU λi => .int (-i)):=unI λ_ _ _ _ _ q=>neg_int q
end
section
variable {X:Cx}{a b c:Expr}{ta tb tc:TE}{pos:Pos}
theorem Ph:OpR X (compareOp .Lt) (rI0 λi j => .bl (decide (i<j))):=Hw λ_ _ _ _ _ _ _ q=>lt_int q
theorem NQ:OpR X (compareOp .LtE) (rI0 λi j => .bl (decide (i<=j))):=Hw λ_ _ _ _ _ _ _ q=>le_int q
theorem O3:OpR X (compareOp .Gt) (rI0 λi j => .bl (decide (j<i))):=Hw λ_ _ _ _ _ _ _ q=>gt_int q
theorem OU:OpR X (compareOp .GtE) (rI0 λi j => .bl (decide (j<=i))):=Hw λ_ _ _ _ _ _ _ q=>ge_int q
theorem OpR.or{f:Value->Value->Sem Value}{r r':R2}(h:OpR X f r)(h':OpR X f r'):OpR X f (λx y H Q=>r x y H Q\/r' x y H Q):=by
 intro pins s σ H x y v u Q I rx ry q
 rcases q with q |q
 ·exact h pins s σ H x y v u Q I rx ry q
 ·exact h' pins s σ H x y v u Q I rx ry q
theorem HV{op:CmpOp}{r:R2}(ho:OpR X (compareOp op) r)(ha:PE X a ta)(hb:PE X b tb)(hm:behindInMarks op b=false):PE X (.Compare a [op] [b] pos) (tOp r ta tb):=by
 intro pins s σ H Q I h
 exact wpAny_Compare1 (L1 ha hb I h λv u s2 x y H2 I2 rx ry q=>ho pins s2 σ H2 x y v u Q I2 rx ry q) hm
noncomputable def GH(t:TE):TT:=λσ H Q=>t σ H λx H' =>∃k,x = .bl k/\Q k H'
theorem HK{op:CmpOp}{r:R2}(ho:OpR X (compareOp op) r)(ha:PE X a ta)(hb:PE X b tb)(hm:behindInMarks op b=false):PT X (.Compare a [op] [b] pos) (GH (tOp r ta tb)):=by
 intro pins s σ H Q I h
 refine wpAny_isTrue_Compare1 (thn (ha pins s σ H _ I h) λv s1 ⟨x,H1,I1,r1,q1⟩=>thn (hb pins s1 σ H1 _ I1 q1) λu s2 ⟨y,H2,I2,r2,q2⟩=>
  thn (ho pins s2 σ H2 x y v u _ I2 r1 r2 q2) λc s3 ⟨z,H3,I3,r3,k,e,q3⟩ =>?_) hm
 subst e
 cases r3
 exact dE ⟨H3,I3,q3⟩
noncomputable def A8(r r':R2)(ta tb tc:TE):TE:=λσ H Q=>ta σ H λx H1=>tb σ H1 λy H2=>r x y H2 λz H3 =>∃k,z = .bl k /\
 (if k=true then tc σ H3 λw' H4=>r' y w' H4 Q else Q (.bl false) H3)
theorem Ga{op op':CmpOp}{r r':R2}(ho:OpR X (compareOp op) r)(ho':OpR X (compareOp op') r')(ha:PE X a ta)(hb:PE X b tb)(hc:PE X c tc)
  (hm:lastMarks [op,op'] [b,c]=false:=by with_unfolding_all rfl):PE X (.Compare a [op,op'] [b,c] pos) (A8 r r' ta tb tc):=by
 intro pins s σ H Q I h
 refine Compare_chain (thn (ha pins s σ H _ I h) λv s1 ⟨x,H1,I1,r1,q1⟩=>chain_link (thn (hb pins s1 σ H1 _ I1 q1) λu s2 ⟨y,H2,I2,r2,q2⟩=>
  thn (ho pins s2 σ H2 x y v u _ I2 r1 r2 q2) λd s3 ⟨z,H3,I3,r3,k,e,q3⟩ =>?_)) hm
 subst e
 cases r3
 refine dE ?_
 cases k with
 | false=>exact ite_ff ⟨.bl false,H3,I3,rfl,q3⟩
 | true=>exact ite_tt (chain_last (thn (hc pins s3 σ H3 _ I3 q3) λw' s4 ⟨z',H4,I4,r4,q4⟩=>ho' pins s4 σ H4 y z' u w' Q I4 r2 r4 q4))
theorem Et{op op':CmpOp}{r r':R2}(ho:OpR X (compareOp op) r)(ho':OpR X (compareOp op') r')(ha:PE X a ta)(hb:PE X b tb)(hc:PE X c tc)
  (hm:lastMarks [op,op'] [b,c]=false:=by with_unfolding_all rfl):PT X (.Compare a [op,op'] [b,c] pos) (GH (A8 r r' ta tb tc)):=by
 intro pins s σ H Q I h
 refine isTrue_chain (thn (ha pins s σ H _ I h) λv s1 ⟨x,H1,I1,r1,q1⟩=>test_link (thn (hb pins s1 σ H1 _ I1 q1) λu s2 ⟨y,H2,I2,r2,q2⟩=>
  thn (ho pins s2 σ H2 x y v u _ I2 r1 r2 q2) λd s3 ⟨z,H3,I3,r3,k,e,q3⟩ =>?_)) hm
 subst e
 cases r3
 refine dE ?_
 cases k with
 | false=>
   obtain⟨k',e',q'⟩:=q3
   cases e'
   exact ite_ff ⟨H3,I3,q'⟩
 | true=>
   refine ite_tt (test_last (thn (hc pins s3 σ H3 _ I3 q3) λw' s4 ⟨z',H4,I4,r4,q4⟩=>thn (ho' pins s4 σ H4 y z' u w' _ I4 r2 r4 q4) λd' s5 ⟨z2,H5,I5,r5,k2,e2,q5⟩ =>?_))
   subst e2
   cases r5
   exact dE ⟨H5,I5,q5⟩
theorem pq:(sizeLine:Nat)<2 ^ 63:=by rw[sizeLine_eq];decide
theorem vals1{x:V}{us:List Value}(r:cy [x] us): ∃u,us = [u]/\RelV x u:=by
 cases r with
 | cons r1 r2=>cases r2;exact⟨_,rfl,r1⟩
theorem vals2{x y:V}{us:List Value}(r:cy [x,y] us): ∃u w',us = [u,w']/\RelV x u/\RelV y w':=by
 cases r with
 | cons r1 r2=>
   cases r2 with
   | cons r3 r4=>cases r4;exact⟨_,_,rfl,r1,r3⟩
theorem CT (hc:X.calm=true):iq X (.builtin "max") (fun xs H Q => ∃ i j,xs = [.int i,.int j]/\Q (.int (if j > i then j else i)) H):=by
 intro pins s σ H xs us Q I r h
 obtain⟨i,j,rfl,q⟩:=h
 obtain⟨u,w',rfl,⟨t,rfl⟩,⟨t',rfl⟩⟩:=vals2 r
 refine max_two_ints (I.ok.hd hc) λh' tk k=>⟨_,H,I.kept k,?_,q⟩
 by_cases hj:j > i
 ·rw[if_pos hj,if_pos hj];exact⟨_,rfl⟩
 ·rw[if_neg hj,if_neg hj];exact⟨_,rfl⟩
theorem CC (hc:X.calm=true):iq X (.builtin "min") (fun xs H Q => ∃ i j,xs = [.int i,.int j]/\Q (.int (if j < i then j else i)) H):=by
 intro pins s σ H xs us Q I r h
 obtain⟨i,j,rfl,q⟩:=h
 obtain⟨u,w',rfl,⟨t,rfl⟩,⟨t',rfl⟩⟩:=vals2 r
 refine min_two_ints (I.ok.hd hc) λh' tk k=>⟨_,H,I.kept k,?_,q⟩
 by_cases hj:j<i
 ·rw[if_pos hj,if_pos hj];exact⟨_,rfl⟩
 ·rw[if_neg hj,if_neg hj];exact⟨_,rfl⟩
end
end _L
namespace _L
open PySem PySem.Spec PyProof.Rows
structure Ky(h:Heap)(x dx C:Addr)(mA:Str->Option Value):Prop where
 obj:h.get? x=some (we C dx)
 ns:h.Ns1 dx mA
 ne:dx≠x
theorem Dw{h:Heap}{dx:Addr}{mA:Str->Option Value}(n:h.Ns1 dx mA): ∃od,h.get? dx=some od /\ ∀name,yj name od=some (mA name):=by
 obtain⟨o,es,ep,ho,hd,hk,_,hm⟩:=n
 refine⟨o,ho,λname =>?_⟩
 have e:=hm name
 unfold nsFind findBy at e
 rw[<- Array.find?_toList]at e
 unfold yj
 rw[hd]
 dsimp only
 split
 ·rename_i y q
  rw[q]at e
  exact congrArg some e
 ·rename_i q
  rw[q]at e
  have a:es.toList.any (·.refKey)=false:=by
   rw[List.any_eq_false]
   intro y hy
   obtain⟨z,t,hkey⟩:=hk y (Array.mem_toList_iff.mp hy)
   simp[DictEntry.refKey,hkey]
  have a': ¬es.toList.any (·.refKey)=true:=by rw[a];exact bz
  rw[if_neg a']
  exact congrArg some e
theorem Ky.look{h:Heap}{x dx C:Addr}{mA:Str->Option Value}(I:Ky h x dx C mA): ∃od,PySem.W.InstAt h x (we C dx) C (some od) /\ ∀name,yj name od=some (mA name):=
 let ⟨od,ho,hl⟩:=Dw I.ns
 ⟨od,⟨I.obj,rfl,rfl,ho⟩,hl⟩
section
variable {prog:Program}{w:World}{A:Around}{E:Value->Shared->Prop}{s:Shared}{K:av}{x dx C f:Addr}{mA:Str->Option Value}{name:Str}{v:Value}
end
theorem uc.some_of{v:V}{o:Option Value}(r:uc (some v) o): ∃u,o=some u/\RelV v u:=by
 cases o with
 | none=>exact(show False from r).elim
 | some u=>exact⟨u,rfl,r⟩
section
variable {P:Program}{w:World}{H H':Hp}{h h':Heap}{a C dx:Addr}{fs fs':List (Str×V)}
theorem HU(hok:HOk P w H h)(e:H a=some (.ins C dx fs)): ∃mA,Ky h a dx C mA/\(∀f,uc (fs.lookup f) (mA f))/\PySem.Within mA (fs.map (·.1))/\fs.length<=1000/\H dx=some (.own a):=by
 obtain⟨d,z,ne,ob,mA,n,r,q⟩:=(show eT P w H h a (.ins C dx fs) from hok a _ e)
 exact⟨mA,⟨ob,n,ne⟩,r,q,z,d⟩
end
structure Cls(K:av)(C:Addr):Prop where
 pg:PySem.W.plainGet K C Str.empty=true
 hd:PySem.W.hasDictIn K C=true
 po:PySem.W.plainOver K C=true
 sa:PySem.W.findIn K (.ref C) "__setattr__"=some (some (.builtin "object.__setattr__"))
theorem Cls.get{K:av}{C:Addr}(c:Cls K C)(f:Str):PySem.W.plainGet K C f=true:=c.pg
section
variable {X:Cx}{pins:List (Addr×Obj)}{σ:St}{H:Hp}{s:Shared}{a C dx:Addr}{fs:List (Str×V)}{f:Str}{v:V}{A:Around}{E:Value->Shared->Prop}
end
section
variable {X:Cx}{o e value:Expr}{f:Str}{pos pos' tpos:Pos}{ta tv:TE}
end
section
variable {X:Cx}{pins:List (Addr×Obj)}{σ:St}{H:Hp}{s:Shared}{A:Around}{E:Value->Shared->Prop}{Q:Value->Shared->Prop}{c:Value}{b:Bool}
inductive pd(K:av)(H:Hp):V->Value->Prop where
 | non:pd K H .non (.type "NoneType")
 | bl (x:Bool):pd K H (.bl x) (.type "bool")
 | int (i:Int):pd K H (.int i) (.type "int")
 | str (x:Str):pd K H (.str x) (.type "str")
 | flt (x:UInt64):pd K H (.flt x) (.type "float")
 | lst {a:Addr}{xs:List V} (e:H a=some (.lst xs)):pd K H (.ref a) (.type "list")
 | frz {a:Addr}{o:Obj}{xs:List V} (e:H a=some (.frz o (.lst xs))):pd K H (.ref a) (.type "list")
 | tup {a:Addr}{xs:List V} (e:H a=some (.tup xs)):pd K H (.ref a) (.type "tuple")
 | dK {a:Addr}{kvs:List (Key×V)} (e:H a=some (.dK kvs)):pd K H (.ref a) (.type "dict")
 | dT {a:Addr}{kvs:List (List Key×V)} (e:H a=some (.dT kvs)):pd K H (.ref a) (.type "dict")
 | ins {a C dx:Addr}{fs:List (Str×V)} (e:H a=some (.ins C dx fs)) (cl:Cls K C) (ha:PySem.W.findIn K (.ref C) "__class__"=some (some (.builtin "object.__class__")))
   (hn:PySem.W.specialIn K (.builtin "object.__class__") "__get__"=some (some (.builtin "getset_descriptor.__get__"))) (htk:PySem.W.takesIn K (.builtin "object.__class__")=some true)
   (hm:PySem.W.mroIn K C (.type "object")=some true):pd K H (.ref a) (.ref C)
theorem CQ{x:V}{u t:Value}(I:Inv X pins σ H s)(rx:RelV x u)(ty:pd X.K H x t)(e:PySem.W.kitOne X.K t c=some b)(h: ∀tk,Q (.bool b) { s with toks:=tk }):
  aI (model X.prog X.w) A (call (.builtin "isinstance") [u,c]) Q E s:=by
 cases ty with
 | non=>cases (show u=jx from rx);exact dA PySem.W.kitx_none I.kIn fE e (λz=>nomatch z) h
 | bl y=>cases (show u=oC y from rx);exact dA PySem.W.kitx_bool I.kIn fE e (λz=>nomatch z) h
 | int i=>obtain⟨t,q⟩:=(show ∃t,u=nC i t from rx);cases q;exact dA PySem.W.kitx_int I.kIn fE e (λz=>nomatch z) h
 | str y=>obtain⟨t,q⟩:=(show ∃t,u=wc y t from rx);cases q;exact dA PySem.W.kitx_str I.kIn fE e (λz=>nomatch z) h
 | flt y=>obtain⟨t,q⟩:=(show ∃t,u=Value.float y t from rx);cases q;exact dA PySem.W.kitx_float I.kIn fE e (λz=>nomatch z) h
 | @lst a xs ea=>
   cases (show u=bj a from rx)
   obtain⟨_,_,n,_,h1⟩:=(show eT X.prog X.w H s.heap a (.lst xs) from I.hok a _ ea)
   exact dA G4 I.kIn ⟨_,h1,rfl⟩ e (λz=>nomatch z) h
 | @frz a ob xs ea=>
   cases (show u=bj a from rx)
   obtain⟨_,_,_,n,_,h1⟩:=(show eT X.prog X.w H s.heap a (.frz ob (.lst xs)) from I.hok a _ ea)
   exact dA G4 I.kIn ⟨_,h1,rfl⟩ e (λz=>nomatch z) h
 | @tup a xs ea=>
   cases (show u=bj a from rx)
   obtain⟨_,_,_,p⟩:=(show eT X.prog X.w H s.heap a (.tup xs) from I.hok a _ ea)
   obtain⟨o,h1,h2,_⟩:=p.1
   exact dA PySem.W.kitx_tuple I.kIn ⟨o,h1,h2⟩ e (λz=>nomatch z) h
 | @dK a kvs ea=>
   cases (show u=bj a from rx)
   obtain⟨_,_,vs,_,p⟩:=(show eT X.prog X.w H s.heap a (.dK kvs) from I.hok a _ ea)
   obtain⟨o,es,ep,h1,h2,_⟩:=p
   exact dA G5 I.kIn ⟨o,h1,h2.1⟩ e (λz=>nomatch z) h
 | @dT a kvs ea=>
   cases (show u=bj a from rx)
   obtain⟨_,_,xs,_,o,es,ep,h1,h2,_⟩:=(show eT X.prog X.w H s.heap a (.dT kvs) from I.hok a _ ea)
   exact dA G5 I.kIn ⟨o,h1,h2.1⟩ e (λz=>nomatch z) h
 | @ins a C dx fs ea cl ha hn htk hm=>
   cases (show u=bj a from rx)
   obtain⟨mA,O,_⟩:=HU I.hok ea
   obtain⟨od,J,_⟩:=O.look
   exact dA (PySem.W.kitx_own (cl.get _) cl.hd ha hn htk hm) I.kIn J e (λz=>nomatch z) h
end
end _L
namespace _L
open PySem PySem.Spec PyProof.Rows
structure kQ(k:Nat)(A:Around):Prop where
 hd:A.handled=none
 dp:A.depth+3*k+5<recursionLimit
 un:A.units+16*k+200<cLine
 gu:A.guards=some []
theorem kQ.mono{j k:Nat}{A:Around}(r:kQ k A)(h:j<=k):kQ j A:=⟨r.hd,by have:=r.dp;omega,by have:=r.un;omega,r.gu⟩
theorem kQ.deeper{k:Nat}{A:Around}(r:kQ (k+1) A)(env:Env):kQ k (A.deeper env):=
 ⟨r.hd,by have:=r.dp;show A.depth+1+3*k+5<_;omega,by have:=r.un;show A.units+3+16*k+200<_;omega,r.gu⟩
theorem kQ.depth{k:Nat}{A:Around}(r:kQ k A):A.depth<recursionLimit:=by have:=r.dp;omega
theorem kQ.units{k:Nat}{A:Around}(r:kQ k A):A.units+64<cLine:=by have:=r.un;omega
noncomputable def AF:TA:=λ_ H Q=>Q [] H
noncomputable def uU(ta:TE)(tr:TA):TA:=λσ H Q=>ta σ H λx H1=>tr σ H1 λxs H2=>Q (x::xs) H2
section
variable {X:Cx}{e:Expr}{es:List Expr}{te:TE}{t:TA}{pos:Pos}
theorem vg:PA X [] AF:=λ_ _ _ _ H Q I h=>vn ⟨[],H,I,.nil,h⟩
theorem nN(ha:PE X e te)(hr:PA X es t)(hs:autoParam (starEach (e::es) X.env=(false,eval e X.env)::starEach es X.env) au1._auto_1):PA X (e::es) (uU te t):=by
 intro pos pins s σ H Q I h
 rw[hs]
 show aI _ _ (spliced ((false,eval e X.env)::backTo pos (starEach es X.env))) _ _ s
 refine kX (thn (ha pins s σ H _ I h) λu s1 ⟨x,H1,I1,r1,q1⟩ =>?_)
 exact thn (hr pos pins s1 σ H1 _ I1 q1) λus s2 ⟨xs,H2,I2,r2,q2⟩=>⟨x::xs,H2,I2,.cons r1 r2,q2⟩
noncomputable def NG(t:TA):TE:=λσ H Q=>t σ H λxs H1=>xs.length<=sizeLine /\ ∀p,H1 p=none->Q (.ref p) (upd H1 p (.tup xs))
noncomputable def O6(t:TA):TE:=λσ H Q=>t σ H λxs H1=>xs.length<=sizeLine /\ ∀p,H1 p=none->Q (.ref p) (upd H1 p (.lst xs))
theorem Mn{x1}(h:PA X es t):PE X (.Tuple es x1 pos) (NG t):=by
 intro pins s σ H Q I hq
 refine wpAny_Tuple_spliced (thn (h pos pins s σ H _ I hq) λus s1 ⟨xs,H1,I1,r,z,q⟩=>⟨by rw[<- r.length];exact z,?_⟩)
 have hf:H1 s1.heap.objs.size=none:=I1.hok.fresh (aq _)
 refine⟨.ref s1.heap.objs.size,upd H1 s1.heap.objs.size (.tup xs),I1.laid (t':=s1.toks) (λb u e=>ar _ e) (aq _) ?_,rfl,q _ hf⟩
 exact⟨z,us,r,⟨_,aC _ rfl,rfl,_,rfl⟩,_,aC _ rfl,rfl⟩
theorem Kt(h:PA X es t):PE X (.List es pos) (O6 t):=by
 intro pins s σ H Q I hq
 refine wpAny_List_spliced (thn (h pos pins s σ H _ I hq) λus s1 ⟨xs,H1,I1,r,z,q⟩=>⟨by rw[<- r.length];exact z,?_⟩)
 have hf:H1 s1.heap.objs.size=none:=I1.hok.fresh (aq _)
 refine⟨.ref s1.heap.objs.size,upd H1 s1.heap.objs.size (.lst xs),I1.laid (t':=s1.toks) (λb u e=>ar _ e) (aq _) ?_,rfl,q _ hf⟩
 exact⟨z,us,0,r,aC _ rfl⟩
end
abbrev Sp:=List V->Hp->VK->XK->Prop
abbrev CXT:=List Env->Hp->Shared->XK->Value->Shared->Prop
structure Di(P:Program)(w:World)(K:av)(mg:Str->Option Value)(base:Heap)(A:Around)(outer:List Env)(s:Shared)(H:Hp):Prop where
 frames:A.frames=some outer
 mod:Mod K mg base
 bs: ∀b o,base.get? b=some o->s.heap.get? b=some o/\H b=none
 bsz:base.objs.size<=s.heap.objs.size
 funs:s.heap.FunFrames base outer
 frf: ∀b∈frs outer,H b=none
 hok:HOk P w H s.heap
 bare:AllBare s.gens
noncomputable def CE(outer:List Env)(P:Program)(w:World)(H:Hp)(s:Shared)(Q:VK)(u:Value)(s':Shared):Prop:=
 ∃v H',s'.os=s.os/\AllBare s'.gens/\Un (frs outer) [] H H' s.heap s'.heap/\HOk P w H' s'.heap/\RelV v u/\Q v H'
noncomputable def CR(CX:CXT)(outer:List Env)(P:Program)(w:World)(H:Hp)(s:Shared)(Q:VK)(E:XK)(r:Result)(s':Shared):Prop:=
 match r with
 | .ok (.ret u)=>CE outer P w H s Q u s'
 | .ok _=>False
 | .error e=>CX outer H s E e s'
structure jB(P:Program)(w:World)(K:av)(mg:Str->Option Value)(base:Heap)(CX:CXT)(k:Nat)(f:Addr)(fd:FuncData)(ps:List Str)(sp:Sp):Prop where
 len: ∀vs H Q E,sp vs H Q E->vs.length=ps.length
 run: ∀(A:Around) (outer:List Env) (s:Shared) (H:Hp) (args:Args) (us:List Value) (vs:List V) (Q:VK) (E:XK),kQ k A->Di P w K mg base A outer s H->BindsTo s fd args (ps.zip us)->cy vs us->sp vs H Q E ->
  md (model P w) A (.call (.ref f) args) (CR CX outer P w H s Q E) s
theorem jB.mono{P:Program}{w:World}{K:av}{mg:Str->Option Value}{base:Heap}{CX:CXT}{j k:Nat}{f:Addr}{fd:FuncData}{ps:List Str}{sp:Sp}(F:jB P w K mg base CX j f fd ps sp)(h:j<=k):
  jB P w K mg base CX k f fd ps sp:=⟨F.len,λA outer s H args us vs Q E hr=>F.run A outer s H args us vs Q E (hr.mono h)⟩
section
variable {X:Cx}{pins:List (Addr×Obj)}{σ:St}{H:Hp}{s s':Shared}
theorem Inv.env0(I:Inv X pins σ H s):Di X.prog X.w X.K X.mg X.base X.A X.stack s H:=
 ⟨I.ok.frames,I.ok.mod,I.bs,aF I.ok.bsz I.sz,I.stack,I.stkFree,I.hok,I.bare⟩
theorem Inv.after{Q:VK}{u:Value}(I:Inv X pins σ H s)(h:CE X.stack X.prog X.w H s Q u s'):EP X pins σ Q u s':=by
 obtain⟨v,H',os,bare,un,hok,r,q⟩:=h
 obtain⟨hh,g,d,t,os'⟩:=s'
 obtain rfl:os'=s.os:=os
 exact⟨v,H',I.call (h':=hh) (g':=g) (d':=d) (t':=t) (ch:= []) un hok bare (λb z=>absurd z (by simp)),r,q⟩
end
noncomputable def BX(sp:Sp)(dvs:List V)(E:XK)(t:TA):TE:=λσ H Q=>t σ H λvs H1=>sp (vs++dvs) H1 Q E
noncomputable def Binds(K:av)(fd:FuncData)(ps:List Str)(ds:List Value):Prop:=
 ∀(s:Shared) (us:List Value),K.In s.heap->(us++ds).length=ps.length->BindsTo s fd ⟨us,[]⟩ (ps.zip (us++ds))
theorem Binds.all{K:av}{fd:FuncData}{ps:List Str}(h: ∀us:List Value,us.length=ps.length->bindArgs fd ⟨us,[]⟩=pure (ps.zip us)):Binds K fd ps []:=λs us _ hl=>by
 rw[iB]at hl ⊢
 exact .of_eq (h us hl)
noncomputable def xE(CX:CXT)(X:Cx)(E:XK):Prop:= ∀(pins:List (Addr×Obj)) (σ:St) (H:Hp) (s:Shared) (e:Value) (s':Shared),Inv X pins σ H s->CX X.stack H s E e s'->X.xe e s'
section
variable {X:Cx}{CX:CXT}{k:Nat}{f C:Addr}{fd:FuncData}{ps:List Str}{sp:Sp}{dvs:List V}{ds:List Value}{E:XK}{x m:Str}{p pos apos:Pos}{e o:Expr}{es:List Expr}{ta:TE}{t:TA}
theorem ye{pins:List (Addr×Obj)}{σ:St}{H:Hp}{s:Shared}{Q:VK}{us:List Value}{vs:List V}(F:jB X.prog X.w X.K X.mg X.base CX k f fd ps sp)(hr:kQ k X.A)(hb:Binds X.K fd ps ds)(hd:cy dvs ds)(hx:xE CX X E)
  (I:Inv X pins σ H s) (r:cy vs us) (h:sp (vs++dvs) H Q E):aI (model X.prog X.w) X.A (call (.ref f) us) (EP X pins σ Q) X.xe s:=by
 have r2:cy (vs++dvs) (us++ds):=r.append hd
 have hl:(us++ds).length=ps.length:=by rw[<- r2.length];exact F.len _ _ _ _ h
 refine wpAny_call (iC (F.run X.A X.stack s H ⟨us,[]⟩ (us++ds) (vs++dvs) Q E hr I.env0 (hb s us I.kIn hl) r2 h) λr s' hq =>?_)
 cases r with
 | error e=>exact hx pins σ H s e s' I hq
 | ok fl=>
   cases fl with
   | ret u=>exact I.after hq
   | next=>exact cX hq
   | brk=>exact cX hq
   | cont=>exact cX hq
theorem JH(F:jB X.prog X.w X.K X.mg X.base CX k f fd ps sp)(hr:kQ k X.A)(hg:Gl X x)(hm:X.mg x=some (.ref f))(hk:cW X.K (.ref f)=true)(hb:Binds X.K fd ps ds)(hd:cy dvs ds)(hx:xE CX X E)
  (ha:PA X (e::es) t) (hdb:autoParam ((x == ("__debug__":Str))=false) au2._auto_1) (he:autoParam (starEach (e::es) X.env=(false,eval e X.env)::starEach es X.env) au1._auto_1) (hpl:autoParam ((backTo pos (starEach es X.env)).any (·.1)=false) au1._auto_1) :
  PE X (.Call (.Name x p) (e::es) [] pos) (BX sp dvs E t):=by
 intro pins s σ H Q I h
 refine ek (tw I hg hm ?_ hdb)
 refine rN (h₀:=X.base) I.ok.mod.kin hk (thn (ha pos pins s σ H _ I h) λus s1 ⟨vs,H1,I1,r,q⟩=>⟨I1.kIn,?_⟩) he hpl
 exact ye F hr hb hd hx I1 r q
theorem F8(F:jB X.prog X.w X.K X.mg X.base CX k f fd ps sp)(hr:kQ k X.A)(hg:Gl X x)(hm:X.mg x=some (.ref f))(hk:cW X.K (.ref f)=true)(hb:Binds X.K fd ps ds)(hd:cy dvs ds)(hx:xE CX X E)
  (hdb:autoParam ((x == ("__debug__":Str))=false) au2._auto_1):PE X (.Call (.Name x p) [] [] pos) (BX sp dvs E AF):=by
 intro pins s σ H Q I h
 refine ek (tw I hg hm ?_ hdb)
 exact PySem.W.callWith_K0 I.kIn hk (ye (us:= []) F hr hb hd hx I .nil h)
end
section
variable {X:Cx}{CX:CXT}{k:Nat}{f C:Addr}{fd:FuncData}{ps ks:List Str}{sp:Sp}{E:XK}{x m:Str}{p pos apos kpos:Pos}{e o:Expr}{es:List Expr}{kws:List Keyword}{te ta:TE}{t tk:TA}{nm:Option Str}
variable {g:List Value->List Value->List Value}{gV:List V->List V->List V}
end
structure aX(N P:List Str)(sc:Scope):Prop where
 kind:sc.kind = .function
 co:sc.isCoroutine=false
 gen:sc.isGenerator=false
 nd:N.Nodup
 pre:N.take P.length=P
 par: ∀x∈P,sc.names.lookup x=some .local\/sc.names.lookup x=some .cell
 nofree: ∀y∈sc.names,y.2≠.free
theorem wJ{kindOf:Str->Option NameKind}{x:Str}: ∀{binds:List (Str×Value)}{m:Str->Option Value},(∀v,(x,v)∉binds)->bindL kindOf binds m x=m x
 | [],_,_=>rfl
 | (n,v)::r,m,h=>by
   unfold bindL
   rw[wJ λw hw=>h w (aw _ hw)]
   split
   ·have:x≠n:=by rintro rfl;exact h v aU
    simp[this]
   ·rfl
theorem wO{kindOf:Str->Option NameKind}{x:Str}: ∀{binds:List (Str×Value)}{m:Str->Option Value},(∀v,(x,v)∉binds)->bindC kindOf binds m x=m x
 | [],_,_=>rfl
 | (n,v)::r,m,h=>by
   unfold bindC
   rw[wO λw hw=>h w (aw _ hw)]
   split
   ·rfl
   ·have:x≠n:=by rintro rfl;exact h v aU
    simp[this]
theorem qU{kindOf:Str->Option NameKind}{x:Str}{v:Value}: ∀{P:List Str}{vs:List Value}{i:Nat}{m:Str->Option Value},P.Nodup->P[i]? = some x->vs[i]? = some v->kindOf x=some .local ->
  bindL kindOf (P.zip vs) m x=some v
 | [],_,_,_,_,h,_,_=>by simp at h
 | _::_,[],_,_,_,_,h,_=>by simp at h
 | p::P,w::vs,0,m,nd,h1,h2,hk=>by
   simp at h1 h2;subst h1;subst h2
   show bindL kindOf ((p,w)::P.zip vs) m p=_
   unfold bindL
   rw[wJ λv hv=>(eC.mp nd).1 (pE hv).1,if_pos hk]
   simp
 | p::P,w::vs,i+1,m,nd,h1,h2,hk=>by
   show bindL kindOf ((p,w)::P.zip vs) m x=_
   unfold bindL
   exact qU (i:=i) (eC.mp nd).2 (by simpa using h1) (by simpa using h2) hk
theorem qZ{kindOf:Str->Option NameKind}{x:Str}{v:Value}: ∀{P:List Str}{vs:List Value}{i:Nat}{m:Str->Option Value},P.Nodup->P[i]? = some x->vs[i]? = some v->kindOf x≠some .local ->
  bindC kindOf (P.zip vs) m x=some v
 | [],_,_,_,_,h,_,_=>by simp at h
 | _::_,[],_,_,_,_,h,_=>by simp at h
 | p::P,w::vs,0,m,nd,h1,h2,hk=>by
   simp at h1 h2;subst h1;subst h2
   show bindC kindOf ((p,w)::P.zip vs) m p=_
   unfold bindC
   rw[wO λv hv=>(eC.mp nd).1 (pE hv).1,if_neg hk]
   simp
 | p::P,w::vs,i+1,m,nd,h1,h2,hk=>by
   show bindC kindOf ((p,w)::P.zip vs) m x=_
   unfold bindC
   exact qZ (i:=i) (eC.mp nd).2 (by simpa using h1) (by simpa using h2) hk
noncomputable def start(N:List Str)(vs:List V):St:=vs.map some++cq (N.length - vs.length) none
noncomputable def AK(CX:CXT)(P:Program)(w:World)(K:av)(mg:Str->Option Value)(base:Heap)(N:List Str)(qual:Str)(scope:Scope)(f:Addr)(cd:Value)(A:Around)(outer:List Env)(s:Shared)(H:Hp)(E:XK):Cx where
 prog:=P
 w:=w
 K:=K
 mg:=mg
 base:=base
 A:=A.deeper (envOfC qual scope s.heap.objs.size f cd)
 N:=N
 s₀:=s
 H₀:=H
 env:=envOfC qual scope s.heap.objs.size f cd
 outer:=outer
 stack:=envOfC qual scope s.heap.objs.size f cd::outer
 ex:= []
 calm:=true
 fn:=λ_=>true
 pn:= []
 xe:=λe s'=>aI (model P w) (A.deeper (envOfC qual scope s.heap.objs.size f cd)) (leaving (envOfC qual scope s.heap.objs.size f cd) e) (λ_ s''=>CX outer H s E e s'') (λe' s''=>CX outer H s E e' s'') s'
theorem jG{sc:Scope}{n:Nat}{x:Str}(h:sc.names.lookup x=some .cell): ∃c,(cellsFrom n sc.names []).lookup x=some c:=by
 have q:=iN sc.names n [] (.inl h)
 exact ic.mp q
theorem DI{CX:CXT}{P:Program}{w:World}{K:av}{mg:Str->Option Value}{base:Heap}{N ps:List Str}{qual:Str}{scope:Scope}{f:Addr}{cd:Value}{A:Around}{outer:List Env}{s s1:Shared}{H:Hp}{E:XK}{us:List Value}{vs:List V}
  (S:aX N ps scope) (hd:A.handled=none) (e0:Di P w K mg base A outer s H) (hl:vs.length=ps.length) (r:cy vs us)
  (x:InCallC s s.heap.objs.size (bindL (envOfC qual scope s.heap.objs.size f cd).kindOf (ps.zip us) λ_=>none) (cellsFrom (s.heap.objs.size+1) scope.names []) (bindC (envOfC qual scope s.heap.objs.size f cd).kindOf (ps.zip us) λ_=>none) s1):
  Inv (AK CX P w K mg base N qual scope f cd A outer s H E) [] (start N vs) H s1:=by
 have hpl:ps.length<=N.length:=by have:=congrArg G6 S.pre;rw[hC]at this;omega
 obtain⟨h1,tk,rfl,hk⟩:=x.done
 have noA: ∀b:Addr,b∉(AK CX P w K mg base N qual scope f cd A outer s H E).ex:=λb z=>absurd (show b∈([]:List Addr) from z) (by simp)
 refine⟨⟨e0.mod,S.kind,rfl,rfl,aq _,λy z c h1 h2 =>?_,λy hy =>?_,λy c _ h =>?_,λ_=>hd,DV e0.frames,.inr ⟨rfl,rfl⟩,λb z=>absurd z (noA b),e0.bs,e0.bsz,λb _ _=>noA b,λb z=>absurd z (noA b),e0.funs,e0.frf⟩,
  rfl,e0.bare,Un.kept hk,⟨_,x.toInCall.ns,λi y v h1 h2 h3 =>?_⟩,λy c h=>⟨_,x.cell y c h⟩,e0.hok.fresh (aq _),λy c h =>?_,λp hp=>absurd (show p∈([]:List (Addr×Obj)) from hp) (by simp),e0.hok.kept hk,?_⟩
 ·exact name_of_addr x.apart (b0 h1) (b0 h2)
 ·have hy:scope.names.lookup y=some .cell\/scope.names.lookup y=some .free:=hy
  rcases hy with hy |hy
  ·exact jG hy
  ·exact absurd rfl (S.nofree _ (b0 hy))
 ·exact ba (x.above y c (b0 h))
 ·have hi:i<vs.length:=by
   unfold start at h2
   by_cases hi:i<vs.length
   ·exact hi
   ·rw[az (by simpa using hi)]at h2
    rw[iO]at h2
    split at h2 <;> cases h2
  have ha:vs[i]? = some v:=by
   unfold start at h2
   rw[aS (by simpa using hi),bO]at h2
   cases e:vs[i]? with
   | none=>rw[e]at h2;cases h2
   | some a=>rw[e]at h2;cases h2;rfl
  obtain⟨u,hu,rv⟩:=r.get ha
  have hp:ps[i]? = some y:=by
   rw[<- S.pre,List.getElem?_take_of_lt (by omega)];exact h1
  have ndP:ps.Nodup:=by rw[<- S.pre];exact S.nd.sublist (vC _ _)
  refine⟨u,rv,?_⟩
  rcases S.par y (cY hp) with k |k
  ·exact .inl ⟨k,qU ndP hp hu k⟩
  ·obtain⟨c,e⟩:=jG (n:=s.heap.objs.size+1) k
   refine .inr ⟨.inl k,c,e,?_⟩
   have q:=x.cell y c e
   rw[qZ ndP hp hu (by show scope.names.lookup y≠_;rw[k];decide)]at q
   exact q
 ·exact e0.hok.fresh (ba (x.above y c (b0 h)))
 ·unfold start
  show _=N.length
  rw[aV,ak,pL]
  omega
theorem Cd{CX:CXT}{P:Program}{w:World}{K:av}{mg:Str->Option Value}{base:Heap}{k:Nat}{f:Addr}{name qual:Str}{params:Arguments}{body:List Stmt}{scope:Scope}{dV kV doc pm cdv ct oc:Value}{an od:Option Addr}
  {osl:Array (Option Value)}{N ps:List Str}{sp:Sp} (lk:K.lookup f=some ⟨oc,od,.func (cx name qual params body scope dV kV doc pm an cdv ct),osl⟩) (hcd:gv K cdv qual=true) (S:aX N ps scope)
  (len: ∀vs H Q E,sp vs H Q E->vs.length=ps.length)
  (hbody: ∀(A:Around) (outer:List Env) (s:Shared) (H:Hp) (vs:List V) (Q:VK) (E:XK),kQ k (A.deeper (envOfC qual scope s.heap.objs.size f cdv))->sp vs H Q E ->
   ∃t,PSs (AK CX P w K mg base N qual scope f cdv A outer s H E) body t/\t { nx:=λ_ H'=>Q .non H',rt:=Q } (start N vs) H):
  jB P w K mg base CX (k+1) f (cx name qual params body scope dV kV doc pm an cdv ct) ps sp:=by
 refine⟨len,λA outer s H args us vs Q E hr e0 hb r hsp =>?_⟩
 have hl:=len _ _ _ _ hsp
 have KX:K.In s.heap:=e0.mod.kin.keeps λb o e=>(e0.bs b o e).1
 have lim:s.heap.NoLimit:=e0.mod.nolimit.keeps λb o e=>(e0.bs b o e).1
 have hkind: ∀y∈ps.zip us,scope.names.lookup y.1=some .local\/(scope.names.lookup y.1=some .cell/\((cellsFrom (s.heap.objs.size+1) scope.names []).lookup y.1).isSome=true):=fun⟨n,v⟩ hy=>by
  rcases S.par n (pE hy).1 with q |q
  ·exact .inl q
  ·exact .inr ⟨q,iN _ _ _ (.inl q)⟩
 refine codeAny_call_function hr.depth (KX _ _ lk) rfl S.co S.gen rfl (PySem.W.codeRec_of KX hcd) (hb _ _ _ _ ?_)
 refine wpAny_newFunctionEnv_cells S.kind hkind λenv he s1 x =>?_
 subst he
 refine⟨lim.keeps x.toInCall.keep,codeAny_func ?_⟩
 obtain⟨t,ht,hq⟩:=hbody A outer s H vs Q E (hr.deeper _) hsp
 have I:Inv (AK CX P w K mg base N qual scope f cdv A outer s H E) [] (start N vs) H s1:=DI S hr.hd e0 hl r x
 refine dj (ht [] s1 (start N vs) H _ I hq) (λfl s' hs =>?_) λe s' hs=>hs
 have fin: ∀{σ':St}{H':Hp}{v:V}{u:Value},Inv (AK CX P w K mg base N qual scope f cdv A outer s H E) [] σ' H' s'->RelV v u->Q v H'->CE outer P w H s Q u s':=
  λ{σ' H' v u} J rv q=>⟨v,H',J.os,J.bare,J.base,J.hok,rv,q⟩
 cases fl with
 | ret u=>
   obtain⟨v,σ',H',J,rv,q⟩:=hs
   exact fin J rv q
 | next=>
   obtain⟨σ',H',J,q⟩:=hs
   exact fin (v:=V.non) (u:=jx) J rfl q
 | brk=>
   obtain⟨_,_,_,q⟩:=hs
   exact cX q
 | cont=>
   obtain⟨_,_,_,q⟩:=hs
   exact cX q
end _L
namespace _L
open PySem PySem.Spec PyProof.Rows
section
variable {X:Cx}{x:Str}{p pos:Pos}{e:Expr}{es:List Expr}{t:TA}{id T:String}{r:List V->Hp->VK->Prop}
noncomputable def tCB(r:List V->Hp->VK->Prop)(t:TA):TE:=λσ H Q=>t σ H λvs H1=>r vs H1 Q
theorem kK (hc:iq X (.builtin id) r) (hg:Gl X x) (hm:X.mg x=none) (hv:bootBuiltins x=some (.builtin id)) (ha:PA X (e::es) t) (hn:autoParam (x≠"__name__") au2._auto_1) (hdb:autoParam ((x == ("__debug__":Str))=false) au2._auto_1)
  (he:autoParam (starEach (e::es) X.env=(false,eval e X.env)::starEach es X.env) au1._auto_1) (hpl:autoParam ((backTo pos (starEach es X.env)).any (·.1)=false) au1._auto_1):PE X (.Call (.Name x p) (e::es) [] pos) (tCB r t):=by
 intro pins s σ H Q I h
 refine ek (ko I hg hm hv ?_ hn hdb)
 exact qM (thn (ha pos pins s σ H _ I h) λus s1 ⟨vs,H1,I1,r1,q1⟩=>hc pins s1 σ H1 vs us Q I1 r1 q1) he hpl
theorem nM (hc:iq X (.type T) r) (hg:Gl X x) (hm:X.mg x=none) (hv:bootBuiltins x=some (.type T)) (ha:PA X (e::es) t) (hn:autoParam (x≠"__name__") au2._auto_1) (hdb:autoParam ((x == ("__debug__":Str))=false) au2._auto_1)
  (he:autoParam (starEach (e::es) X.env=(false,eval e X.env)::starEach es X.env) au1._auto_1) (hpl:autoParam ((backTo pos (starEach es X.env)).any (·.1)=false) au1._auto_1):PE X (.Call (.Name x p) (e::es) [] pos) (tCB r t):=by
 intro pins s σ H Q I h
 refine ek (ko I hg hm hv ?_ hn hdb)
 exact cz (thn (ha pos pins s σ H _ I h) λus s1 ⟨vs,H1,I1,r1,q1⟩=>hc pins s1 σ H1 vs us Q I1 r1 q1) he hpl
end
end _L
namespace HT
open PySem PyProof.Rows
noncomputable def lexLt:List Int->List Int->Bool
 | [],[]=>false
 | [],_::_=>true
 | _::_,[]=>false
 | x::xs,y::ys=>if x=y then lexLt xs ys else decide (x<y)
theorem lexLt_cons(x y:Int)(xs ys:List Int):lexLt (x::xs) (y::ys)=if x=y then lexLt xs ys else decide (x<y):=rfl
theorem oN:lexLt [] []=false:=rfl
theorem ng(y:Int)(ys:List Int):lexLt [] (y::ys)=true:=rfl
theorem mH(x:Int)(xs:List Int):lexLt (x::xs) []=false:=rfl
theorem yX(A:Around)(s:Shared)(a:Int)(t:Tok)(c:Int)(u:Tok): ∃e,SeqAt.EqAt A s (.int a t) (.int c u) e/\(e=true↔a=c):=
 ⟨(a==c),Ck a t c u,by simp⟩
theorem Gi(A:Around)(s:Shared)(a:Int)(t:Tok)(c:Int)(u:Tok)(prog:Program)(w:World)(E:Value->Shared->Prop)(Q:Value->Shared->Prop)(h:Q (.bool (decide (a<c))) s):
  aI (model prog w) A (richCompare .Lt (.int a t) (.int c u)) Q E s:=
 (PyProof.Rows.lt_int h:aI (model prog w) A (compareOp .Lt (.int a t) (.int c u)) Q E s)
section
open PySem.SeqAt
open PySem.AutoSeq1 (wpAny_loadPart')
open PySem.MeetsSeq PySem.MeetsSeq2 PySem.MeetsSeq3
theorem vN(l b:Addr)(items items2:Array Value)(n n2:Nat)(dd dd2:Option Addr)(sl sl2:Array (Option Value))(ns ms:List Int)(hi:IntsAre items.toList ns)(hj:IntsAre items2.toList ms):
  Meets (Builtin.«tuple.__lt__» ⟨[.ref l,.ref b],[]⟩)
   (fun _ R s=>s.heap.get? l=some { cls := .type "tuple",dict:=dd,data := .seq items n,slots:=sl }/\s.heap.get? b=some { cls := .type "tuple",dict:=dd2,data := .seq items2 n2,slots:=sl2 } /\
    R (.ok (.ret (.bool (lexLt ns ms)))) s):=
 .of_wp λprog w A R s h=>by
  obtain⟨hp,g,d,tk,os⟩:=s;obtain⟨hl,hb,h⟩:=h
  have f2:=yn
  have z1:items.size=ns.length:=by rw[<- hi.length];simp
  have z2:items2.size=ms.length:=by rw[<- hj.length];simp
  wp_walk using lN hl,lN hb,Bi _ (λrest b s'=>b.1=none/\s'=⟨hp,g,d,tk,os⟩ /\ ∃(vs ws:List Value) (ns' ms':List Int),rest=vs.zip ws /\
   IntsAre vs ns'/\IntsAre ws ms'/\ns'.length+items2.size=ms'.length+items.size/\R (.ok (.ret (.bool (lexLt ns' ms')))) ⟨hp,g,d,tk,os⟩) _
  case turn=>
   rintro ⟨y,x⟩ rest b s' ⟨hb',rfl,vs,ws,ns',ms',hz,hvi,hwi,hlen,hR⟩
   cases hvi with
   | nil=>rw[List.zip_nil_left]at hz;cases hz
   | cons a t hvi'=>
     cases hwi with
     | nil=>rw[List.zip_nil_right]at hz;cases hz
     | cons c u hwi'=>
       rw[la]at hz
       injection hz with hyx hrest
       injection hyx with hy hx
       subst hy hx
       rw[lexLt_cons]at hR
       simp only[bg]at hlen
       obtain⟨e,he,hiff⟩:=yX A.in1 ⟨hp,g,d,tk,os⟩ a t c u
       refine ae (he prog w _ _ ?_)
       cases e with
       | true=>
         rw[if_pos (hiff.mp rfl)]at hR
         wp_walk
         exact⟨rfl,rfl,_,_,_,_,hrest,hvi',hwi',by omega,hR⟩
       | false=>
         rw[if_neg (λq=>absurd (hiff.mpr q) bz)]at hR
         have hri:=Gi A.in1 ⟨hp,g,d,tk,os⟩ a t c u prog w
         wp_walk using hri
         exact⟨_,rfl,by simpa using hR⟩
  case fin=>
   rintro ⟨b1,b2⟩ s' ⟨hb',rfl,vs,ws,ns',ms',hz,hvi,hwi,hlen,hR⟩
   simp only at hb'
   subst hb'
   have hv:lexLt ns' ms'=decide (items.size<items2.size):=by
    cases hvi with
    | nil=>
      cases hwi with
      | nil=>
        simp only[cg]at hlen
        rw[oN]
        exact(decide_eq_false (by omega)).symm
      | cons c u hw=>
        simp only[cg,bg]at hlen
        rw[ng]
        exact(decide_eq_true (by omega)).symm
    | cons a t hv=>
      cases hwi with
      | nil=>
        simp only[cg,bg]at hlen
        rw[mH]
        exact(decide_eq_false (by omega)).symm
      | cons c u hw=>
        rw[la]at hz
        cases hz
   rw[hv]at hR
   wp_walk
   exact⟨_,rfl,by simpa [pM]using hR⟩
  case h=>
   exact⟨rfl,rfl,items.toList,items2.toList,ns,ms,rfl,hi,hj,by omega,h⟩
end
section
variable {prog:Program}{w:World}{A:Around}{E:Value->Shared->Prop}{s:Shared}
theorem lt_tupInts{l b:Addr}{items items2:Array Value}{ns ms:List Int}{Q:Value->Shared->Prop}(hl:IsTup s.heap l items)(hb:IsTup s.heap b items2)(hi:IntsAre items.toList ns)(hj:IntsAre items2.toList ms)
  (hu:A.units<cLine) (h:Q (.bool (lexLt ns ms)) s):aI (model prog w) A (compareOp .Lt (.ref l) (.ref b)) Q E s:=by
 obtain⟨⟨cls,dd,data,sl⟩,ho,hc,n,hd⟩:=id hl
 obtain⟨⟨cls2,dd2,data2,sl2⟩,ho2,hc2,n2,hd2⟩:=id hb
 simp only at hc hd hc2 hd2
 subst hc hd hc2 hd2
 exact richCompare_meets_room (op:= .Lt) ⟨_,ho,rfl⟩ ⟨_,ho2,rfl⟩ PySem.F.slot_tuple_lt PySem.F.entry_tuple_lt (PySem.F.args_tuple_lt_2 _ _) (vN l b items items2 n n2 dd dd2 sl sl2 ns ms hi hj)
  ⟨ho,ho2,show oC (lexLt ns ms)≠GU/\Q (.bool (lexLt ns ms)) s from⟨(λx=>nomatch x),h⟩⟩ hu
theorem cat_tup{t b:Addr}{vs ws:List Value}{Q:Value->Shared->Prop}(ht:IsTup s.heap t vs.toArray)(hb:IsTup s.heap b ws.toArray)(hv:vs≠[])
  (h1:ws = []->Q (.ref t) s) (h2:ws ≠ []->Q (.ref s.heap.objs.size) { s with heap:=s.heap.push { cls := .type "tuple",data := .seq (vs++ws).toArray } })
  (hsz:vs.length+ws.length<=sizeLine):aI (model prog w) A (binaryOp .Add (.ref t) (.ref b)) Q E s:=by
 obtain⟨⟨cls,dd,data,sl⟩,ho,hc,n,hd⟩:=id ht
 obtain⟨⟨cls2,dd2,data2,sl2⟩,ho2,hc2,n2,hd2⟩:=id hb
 simp only at hc hd hc2 hd2
 subst hc hd hc2 hd2
 have e:vs.toArray++ws.toArray=(vs++ws).toArray:=by simp
 by_cases hw:ws = []
 ·exact concat_meets ⟨_,ho,rfl⟩ ⟨_,ho2,rfl⟩ noFill_tuple_add seq_tuple_add nD mj (lO _ _)
   (tuple_addW1 t b vs.toArray ws.toArray n n2 dd dd2 sl sl2 (by simpa using hv) (by simp[hw])) ⟨ho,ho2,h1 hw⟩
 ·refine concat_meets ⟨_,ho,rfl⟩ ⟨_,ho2,rfl⟩ noFill_tuple_add seq_tuple_add nD mj (lO _ _)
   (tuple_addW2 t b vs.toArray ws.toArray n n2 dd dd2 sl sl2 (by simpa using hv) (by simpa using hw) (by rw[aD,aD];exact hsz)) ⟨ho,ho2,?_⟩
  rw[e]
  exact h2 hw
noncomputable def sIx(n d:Nat):Option Int->Nat
 | none=>d
 | some v=>if v<0 then(v+(n:Int)).toNat else min v.toNat n
theorem sIx_nat(n d k:Nat):sIx n d (some (k:Int))=min k n:=by
 show(if (k:Int)<0 then((k:Int)+(n:Int)).toNat else min (k:Int).toNat n)=min k n
 rw[if_neg (by omega),Int.toNat_natCast]
theorem KU(n d:Nat)(hd:d<=n)(o:Option Int):sIx n d o<=n:=by
 cases o with
 | none=>exact hd
 | some v=>
   show(if v<0 then(v+(n:Int)).toNat else min v.toNat n)<=n
   by_cases hv:v<0
   ·rw[if_pos hv];omega
   ·rw[if_neg hv];exact Nat.min_le_right _ _
theorem BR(v:Int)(n d:Nat):(if v<0 then max (v+(n:Int)) 0 else min v (n:Int))=((sIx n d (some v):Nat):Int):=by
 show(if v<0 then max (v+(n:Int)) 0 else min v (n:Int))=(((if v<0 then(v+(n:Int)).toNat else min v.toNat n):Nat):Int)
 by_cases hv:v<0
 ·simp only[if_pos hv];omega
 ·simp only[if_neg hv];omega
theorem Be(lo hi:Option Int)(n:Nat):jR lo hi 1 (n:Int)=(((sIx n 0 lo:Nat):Int),((sIx n n hi:Nat):Int)):=by
 have h1: ¬((1:Int)<0):=by decide
 unfold jR
 simp only[h1,if_false]
 refine Prod.ext ?_ ?_
 ·cases lo with
  | none=>rfl
  | some v=>exact BR v n 0
 ·cases hi with
  | none=>rfl
  | some v=>exact BR v n n
theorem A6(i j:Nat):fV (i:Int) (j:Int) 1=j - i:=by
 unfold fV
 have h1:(1:Int) > 0:=by decide
 simp only[h1,if_true,Int.ediv_one]
 split <;> omega
theorem uZ{v:Value}{o:Option Int}{Q:Option Int->Shared->Prop}(p:IsPart v o)(h:Q o s):aI (model prog w) A (Builtin.Slice.slicePartIndex v) Q E s:=by
 cases p with
 | none=>exact slicePart_none h
 | int i t=>exact slicePart_int h
theorem kU{sl:Addr}{vl vu:Value}{lo hi:Option Int}{n:Nat}{Q:Int×Int×Nat->Shared->Prop}(hs:s.heap.IsSliceOf sl vl vu .none)(pl:IsPart vl lo)(pu:IsPart vu hi)
  (h:Q (((sIx n 0 lo:Nat):Int),1,sIx n n hi - sIx n 0 lo) s):aI (model prog w) A (sR (.ref sl) (pure (n:Int))) Q E s:=by
 obtain⟨os,hos,hcs,hds⟩:=id hs
 unfold sR Builtin.Slice.sliceFields
 refine ae (ae (ju hos hds (x:=vl) rfl (ae (ju hos hds (x:=vu) rfl (ae (ju hos hds (x:= .none) rfl (ax ?_)))))))
 refine ae (slicePart_none ?_)
 show aI _ _ (if ((1:Int)==0)=true then _ else _) _ _ s
 rw[if_neg (by decide)]
 refine ae (uZ pl (ae (uZ pu (ae (ax ?_)))))
 show aI _ _ (match jR lo hi 1 (n:Int) with | (lo,hi)=>pure (lo,(1:Int),fV lo hi 1)) _ _ s
 rw[Be lo hi n]
 show aI _ _ (pure (((sIx n 0 lo:Nat):Int),(1:Int),fV ((sIx n 0 lo:Nat):Int) ((sIx n n hi:Nat):Int) 1)) _ _ s
 rw[A6]
 exact ax h
theorem E5(xs:Array Value)(i k:Nat):((aB k).filterMap λ(m:Nat)=>xs[((i:Int)+(m:Int)*1).toNat]?).toArray=((xs.toList.drop i).take k).toArray:=by
 have e:(λ(m:Nat)=>xs[((i:Int)+(m:Int)*1).toNat]?)=λm=>xs[i+m]? := by
  funext m
  have:((i:Int)+(m:Int)*1).toNat=i+m:=by omega
  rw[this]
 rw[e]
 have:=pick_run xs i k
 rw[List.filterMap_map]at this
 have e2:((λx=>xs[x]?)∘λx=>i+x)=λm=>xs[i+m]? := rfl
 rw[e2]at this
 rw[this]
theorem getItem_tuple_cut{t sl:Addr}{items:Array Value}{vl vu:Value}{lo hi:Option Int}{Q:Value->Shared->Prop}(ht:IsTup s.heap t items)(hs:s.heap.IsSliceOf sl vl vu .none)(pl:IsPart vl lo)(pu:IsPart vu hi)
  (hw: ¬(sIx items.size 0 lo=0/\sIx items.size items.size hi=items.size))
  (h:Q (.ref s.heap.objs.size) { s with heap:=s.heap.push { cls := .type "tuple",data := .seq ((items.toList.drop (sIx items.size 0 lo)).take (sIx items.size items.size hi - sIx items.size 0 lo)).toArray } })
  (hsz:items.size<=sizeLine):aI (model prog w) A (getItem (.ref t) (.ref sl)) Q E s:=by
 have htake:sizeOk (.seq ((items.toList.drop (sIx items.size 0 lo)).take (sIx items.size items.size hi - sIx items.size 0 lo)).toArray):=by
  show((items.toList.drop (sIx items.size 0 lo)).take (sIx items.size items.size hi - sIx items.size 0 lo)).toArray.size<=sizeLine
  rw[aD,hC,hJ,cK]
  omega
 have hj:sIx items.size items.size hi<=items.size:=KU _ _ (aq _) hi
 obtain⟨os,hos,hcs,hds⟩:=id hs
 have hTs:s.TypeIs (.ref sl) "slice":=⟨os,hos,hcs⟩
 unfold getItem
 try with_reducible refine dI ?_
 first |refine ae (ax ?_) |skip
 refine ae (wpAny_sequenceKey ht.typeIs (by decide) ?_)
 refine ae (jv (name:=pG "__getitem__") ht.typeIs eS
  (fT eS ht.typeIs entry_tuple_getitem ?_ (args_tuple_getitem _ _)))
 show aI _ _ (sU (.ref t) >>= _) _ _ s
 refine ae (tupleItemsOf_ ht ?_)
 refine ae (mm hTs ?_)
 rw[if_pos (by decide)]
 refine ae (kU hs pl pu ?_)
 have hno: ¬((((sIx items.size 0 lo:Nat):Int)==0&&(1:Int)==1&&(sIx items.size items.size hi - sIx items.size 0 lo)==items.size)=true):=by
  intro q
  rw[aA,aA]at q
  have q1:((sIx items.size 0 lo:Nat):Int)=0:=eq_of_beq q.1.1
  have q2:sIx items.size items.size hi - sIx items.size 0 lo=items.size:=eq_of_beq q.2
  exact hw ⟨by omega,by omega⟩
 show aI _ _ (if (((sIx items.size 0 lo:Nat):Int)==0&&(1:Int)==1&&(sIx items.size items.size hi - sIx items.size 0 lo)==items.size)=true then _ else _) _ _ s
 rw[if_neg hno,E5]
 first
  | exact ae (m:=dS _) (cp (ax ⟨_,rfl,ax h⟩) htake)
  | exact ae (m:=dS _) (cp (ae (ax (ax ⟨_,rfl,ax h⟩))) htake)
  | exact ae (ae (m:=dS _) (cp (ax (ax ⟨_,rfl,ax h⟩)) htake))
  | exact ae (ae (m:=dS _) (cp (ax ⟨_,rfl,ax h⟩) htake))
end
end HT
namespace _L
open PySem PySem.Spec PyProof.Rows
abbrev TO:=St->Hp->(Option Int->Hp->Prop)->Prop
noncomputable def PO(X:Cx)(e:Option Expr)(t:TO):Prop:=
 ∀(pins:List (Addr×Obj)) (s:Shared) (σ:St) (H:Hp) (Q:Option Int->Hp->Prop),Inv X pins σ H s->t σ H Q ->
  aI (model X.prog X.w) X.A (evalPart e X.env) (λu s' =>∃o H',Inv X pins σ H' s'/\IsPart u o/\Q o H') X.xe s
noncomputable def B4:TO:=λ_ H Q=>Q none H
noncomputable def JI(t:TE):TO:=λσ H Q=>t σ H λx H1 =>∃i,x = .int i/\Q (some i) H1
theorem intsAre_of{ns:List Int}: ∀{us:List Value},cy (ns.map V.int) us->IntsAre us ns:=by
 induction ns with
 | nil=>intro us r;rw[oY]at r;cases r;exact .nil
 | cons n ns ih=>
   intro us r
   rw[bE]at r
   cases r with
   | cons r1 r2=>
     obtain⟨t,e⟩:=r1
     subst e
     exact .cons n t (ih r2)
section
variable {X:Cx}{e:Expr}{te:TE}{lo hi:Option Expr}{tl th:TO}{pos p2:Pos}
theorem HG:PO X none B4:=by
 intro pins s σ H Q I h
 rw[evalPart_none]
 exact ax ⟨none,H,I,.none,h⟩
theorem Hf(h:PE X e te):PO X (some e) (JI te):=by
 intro pins s σ H Q I hw
 rw[evalPart_some]
 refine thn (h pins s σ H _ I hw) λu s1 ⟨x,H1,I1,r1,q1⟩ =>?_
 obtain⟨i,rfl,q⟩:=q1
 obtain⟨t,rfl⟩:=r1
 exact⟨some i,H1,I1,.int i t,q⟩
noncomputable def SlR(X:Cx)(r:V->Option Int->Option Int->Hp->VK->Prop):Prop:=
 ∀(pins:List (Addr×Obj)) (s:Shared) (σ:St) (H:Hp) (x:V) (v vl vu:Value) (lo hi:Option Int) (sl:Addr) (Q:VK),Inv X pins σ H s->RelV x v->s.heap.IsSliceOf sl vl vu .none->IsPart vl lo->IsPart vu hi->r x lo hi H Q ->
  ∃ T id,typeLookup (.type T) "__getitem__"=pure (some (.builtin id))/\s.TypeIs v T/\aI (model X.prog X.w) X.A (getItem v (.ref sl)) (EP X pins σ Q) X.xe s
theorem SlR.or{r r':V->Option Int->Option Int->Hp->VK->Prop}(h:SlR X r)(h':SlR X r'):SlR X (λx lo hi H Q=>r x lo hi H Q\/r' x lo hi H Q):=by
 intro pins s σ H x v vl vu lo hi sl Q I rx hs pl pu q
 rcases q with q |q
 ·exact h pins s σ H x v vl vu lo hi sl Q I rx hs pl pu q
 ·exact h' pins s σ H x v vl vu lo hi sl Q I rx hs pl pu q
noncomputable def tSl(r:V->Option Int->Option Int->Hp->VK->Prop)(te:TE)(tl th:TO):TE:=λσ H Q=>te σ H λx H1=>tl σ H1 λl H2=>th σ H2 λu H3=>r x l u H3 Q
theorem Er{r:V->Option Int->Option Int->Hp->VK->Prop}(hr:SlR X r)(he:PE X e te)(hl:PO X lo tl)(hu:PO X hi th):PE X (.Subscript e (.Slice lo hi none p2) pos) (tSl r te tl th):=by
 intro pins s σ H Q I h
 refine Subscript_ (thn (he pins s σ H _ I h) λv s1 ⟨x,H1,I1,r1,q1⟩ =>?_)
 refine wpAny_Slice (thn (hl pins s1 σ H1 _ I1 q1) λvl s2 ⟨l,H2,I2,pl,q2⟩=>thn (hu pins s2 σ H2 _ I2 q2) λvu s3 ⟨u,H3,I3,pu,q3⟩ =>?_)
 rw[evalPart_none]
 refine ax ?_
 have I4:Inv X pins σ H3 { s3 with heap:=s3.heap.push { cls := .type "slice",data := .fields #[vl,vu,.none] } }:=I3.kept (t':=s3.toks) fun b ob q=>ar _ q
 obtain⟨T,id,hT,ht,hg⟩:=hr pins { s3 with heap:=s3.heap.push { cls := .type "slice",data := .fields #[vl,vu,.none] } } σ H3 x v vl vu l u s3.heap.objs.size Q I4 r1 (Heap.IsSliceOf.new ..) pl pu q3
 show aI (model X.prog X.w) X.A (subscriptTail e (.Slice lo hi none p2) v (.ref s3.heap.objs.size)) (EP X pins σ Q) X.xe { s3 with heap:=s3.heap.push { cls := .type "slice",data := .fields #[vl,vu,.none] } }
 exact tail_any (ops:= [.ref s3.heap.objs.size,v]) ht hT hg (by with_unfolding_all rfl)
noncomputable def zW(xs:List V)(lo hi:Option Int):List V:=(xs.drop (HT.sIx xs.length 0 lo)).take (HT.sIx xs.length xs.length hi - HT.sIx xs.length 0 lo)
theorem r9(xs:List V)(lo hi:Option Int):(zW xs lo hi).length<=xs.length:=by
 unfold zW
 rw[hC,hJ]
 omega
noncomputable def N2(K:av):V->Option Int->Option Int->Hp->VK->Prop:=λx lo hi H Q =>∃a xs,x = .ref a/\SqT K H a xs /\
 ¬(HT.sIx xs.length 0 lo=0/\HT.sIx xs.length xs.length hi=xs.length) /\ ∀p,H p=none->Q (.ref p) (upd H p (.tup (zW xs lo hi)))
theorem KN:SlR X (N2 X.K):=by
 intro pins s σ H x v vl vu lo hi sl Q I rx hs pl pu h
 obtain⟨a,xs,rfl,hx,hw,q⟩:=h
 cases rx
 obtain⟨its,r,ht,hz⟩:=I.tuple hx
 have hlen:its.toArray.size=xs.length:=by rw[aD];exact r.length.symm
 refine⟨"tuple",_,PyProof.Rows.slot_tuple_getitem.lookup,ht.typeIs,?_⟩
 refine HT.getItem_tuple_cut ht hs pl pu (by rw[hlen];exact hw) ?_ (by rw[hlen];exact hz)
 rw[hlen]
 refine⟨.ref s.heap.objs.size,_,I.laid (t':=s.toks) (o:= .tup (zW xs lo hi)) (λb ob q=>ar _ q) (aq _) ?_,rfl,q _ (I.hok.fresh (aq _))⟩
 exact⟨aF (r9 xs lo hi) hz,_,(r.drop (HT.sIx xs.length 0 lo)).take (HT.sIx xs.length xs.length hi - HT.sIx xs.length 0 lo),Cm _ _,_,aC _ rfl,rfl⟩
noncomputable def JL(K:av):R2:=λx y H Q =>∃a b xs ys,x = .ref a/\y = .ref b/\SqT K H a xs/\SqT K H b ys/\xs≠[]/\xs.length+ys.length<=sizeLine /\
 (ys = []->Q (.ref a) H)/\(ys≠[] -> ∀p,H p=none->Q (.ref p) (upd H p (.tup (xs++ys))))
theorem cy.nil_iff{xs:List V}{us:List Value}(r:cy xs us):us = []↔xs = []:=by
 cases r with
 | nil=>simp
 | cons _ _=>simp
theorem Ht:OpR X (binaryOp .Add) (JL X.K):=by
 intro pins s σ H x y v u Q I rx ry h
 obtain⟨a,b,xs,ys,rfl,rfl,ha,hb,hx,hz,q1,q2⟩:=h
 cases rx
 cases ry
 obtain⟨its,r1,p1,_⟩:=I.tuple ha
 obtain⟨its2,r2,p2,_⟩:=I.tuple hb
 refine HT.cat_tup p1 p2 (λz=>hx (r1.nil_iff.mp z)) (λz=>⟨.ref a,H,I,rfl,q1 (r2.nil_iff.mp z)⟩) (λz =>?_) (by rw[<- r1.length,<- r2.length];exact hz)
 refine⟨.ref s.heap.objs.size,_,I.laid (t':=s.toks) (o:= .tup (xs++ys)) (λb ob q=>ar _ q) (aq _) ?_,rfl,q2 (λw=>z (r2.nil_iff.mpr w)) _ (I.hok.fresh (aq _))⟩
 exact⟨by rw[aV];exact hz,_,r1.append r2,Cm _ _,_,aC _ rfl,rfl⟩
end
end _L
namespace _L
open PySem PySem.Spec PyProof.Rows
noncomputable def ixN(n:Nat)(i:Int):Option Nat:=if 0<=i then(if i<n then some i.toNat else none) else if -(n:Int)<=i then some (i+n).toNat else none
noncomputable def atI{α:Type}(xs:List α)(i:Int):Option α:=(ixN xs.length i).bind λj=>xs[j]?
theorem B3{n:Nat}{i:Int}{j:Nat}(h:ixN n i=some j):seqIndex? i n=some j/\j<n /\ -(n:Int)<=i/\i<n:=by
 unfold ixN at h
 by_cases h0:0<=i
 ·rw[if_pos h0]at h
  by_cases h1:i<n
  ·rw[if_pos h1]at h
   have e:i.toNat=j:=bx h
   exact⟨by rw[seqIndex_of h0 h1,e],by omega,by omega,h1⟩
  ·rw[if_neg h1]at h;cases h
 ·rw[if_neg h0]at h
  by_cases h1: -(n:Int)<=i
  ·rw[if_pos h1]at h
   have e:(i+n).toNat=j:=bx h
   exact⟨by rw[seqIndex_neg (by omega) h1,e],by omega,h1,by omega⟩
  ·rw[if_neg h1]at h;cases h
theorem xt{α:Type}{xs:List α}{i:Int}{v:α}(h:atI xs i=some v): ∃j,seqIndex? i xs.length=some j/\xs[j]? = some v/\j<xs.length /\ -(xs.length:Int)<=i/\i<xs.length:=by
 unfold atI at h
 cases e:ixN xs.length i with
 | none=>rw[e]at h;cases h
 | some j=>
   rw[e]at h
   obtain⟨h1,h2,h3,h4⟩:=B3 e
   exact⟨j,h1,h,h2,h3,h4⟩
noncomputable def xT(b:Expr):Prop:= ∀o i,subscripted b false o i=operate [o,i] (getItem o i)
noncomputable def IxR(X:Cx)(r:R2):Prop:=
 ∀(value slice:Expr) (pins:List (Addr×Obj)) (s:Shared) (σ:St) (H:Hp) (x y:V) (v u:Value) (Q:VK),Inv X pins σ H s->RelV x v->RelV y u->r x y H Q ->
  subscripted slice false v u=operate [v,u] (getItem v u)->aI (model X.prog X.w) X.A (subscriptTail value slice v u) (EP X pins σ Q) X.xe s
noncomputable def MtR(X:Cx)(id:String)(r:V->List V->Hp->VK->Prop):Prop:=
 ∀(pins:List (Addr×Obj)) (s:Shared) (σ:St) (H:Hp) (x:V) (xs:List V) (v:Value) (us:List Value) (Q:VK),Inv X pins σ H s->RelV x v->cy xs us->r x xs H Q ->
  aI (model X.prog X.w) X.A (call (.builtin id) (v::us)) (EP X pins σ Q) X.xe s
section
variable {X:Cx}{a b:Expr}{ta tb:TE}{pos:Pos}
theorem IxR.or{r r':R2}(h:IxR X r)(h':IxR X r'):IxR X (λx y H Q=>r x y H Q\/r' x y H Q):=by
 intro value slice pins s σ H x y v u Q I rx ry q hs
 rcases q with q |q
 ·exact h value slice pins s σ H x y v u Q I rx ry q hs
 ·exact h' value slice pins s σ H x y v u Q I rx ry q hs
theorem Pa{r:R2}(hr:IxR X r)(ha:PE X a ta)(hb:PE X b tb)(hs:xT b):PE X (.Subscript a b pos) (tOp r ta tb):=by
 intro pins s σ H Q I h
 exact Subscript_ (L1 ha hb I h λv u s2 x y H2 I2 rx ry q=>hr a b pins s2 σ H2 x y v u Q I2 rx ry q (hs _ _))
noncomputable def Nn(K:av):R2:=λx y H Q =>∃p xs i v,x = .ref p/\y = .int i/\SqL K H p xs/\atI xs i=some v/\Q v H
noncomputable def Pw(K:av):R2:=λx y H Q =>∃p xs i v,x = .ref p/\y = .int i/\SqT K H p xs/\atI xs i=some v/\Q v H
noncomputable def NB:R2:=λx y H Q =>∃z i c,x = .str z/\y = .int i/\z.length<=sizeLine/\atI z.cps.toList i=some c/\Q (.str ⟨#[c]⟩) H
theorem Ho:IxR X (Nn X.K):=by
 intro value slice pins s σ H x y v u Q I rx ry h hs
 obtain⟨p,xs,i,z,rfl,rfl,hq,he,q⟩:=h
 cases rx
 obtain⟨t,rfl⟩:=ry
 obtain⟨its,r,pl,hz⟩:=I.list hq
 obtain⟨j,h1,h2,h3,h4,h5⟩:=xt he
 obtain⟨w,ew,rw'⟩:=r.get h2
 have hl:=r.length
 have hn:=pq
 have fin:EP X pins σ Q w s:=⟨z,H,I,rw',q⟩
 by_cases h0:0<=i
 ·have hj:i.toNat=j:=by
   rw[seqIndex_of h0 h5]at h1
   exact bx h1
  exact item_listR pl.isList h0 (by omega) (by rw[hj];simpa using ew) fin hs
 ·have hj:(i+(its.toArray.size:Int)).toNat=j:=by
   rw[seqIndex_neg (by omega) h4]at h1
   rw[aD,<- hl]
   exact bx h1
  exact subscriptTail_builtinR (x:=w) pl.isList.typeIs slot_list_getitem.lookup
   (wpAny_getItem_list_neg (Q:=λr s'=>r=w/\EP X pins σ Q r s') pl.isList (by omega) (by rw[aD] <;> omega) (by omega) (by rw[hj];simpa using ew) ⟨rfl,fin⟩) hs
theorem Mc:IxR X (Pw X.K):=by
 intro value slice pins s σ H x y v u Q I rx ry h hs
 obtain⟨p,xs,i,z,rfl,rfl,hq,he,q⟩:=h
 cases rx
 obtain⟨t,rfl⟩:=ry
 obtain⟨its,r,pl,hz⟩:=I.tuple hq
 obtain⟨j,h1,h2,h3,h4,h5⟩:=xt he
 obtain⟨w,ew,rw'⟩:=r.get h2
 have hl:=r.length
 have hn:=pq
 have fin:EP X pins σ Q w s:=⟨z,H,I,rw',q⟩
 exact subscriptTail_builtinR (x:=w) pl.typeIs slot_tuple_getitem.lookup
  (getItem_tuple (j:=j) (Q:=λr s'=>r=w/\EP X pins σ Q r s') pl (by omega) (by omega) (by rw[aD,<- hl];exact h1) (by simpa using ew) ⟨rfl,fin⟩) hs
theorem Md:IxR X NB:=by
 intro value slice pins s σ H x y v u Q I rx ry h hs
 obtain⟨z,i,c,rfl,rfl,hz,he,q⟩:=h
 obtain⟨t,rfl⟩:=rx
 obtain⟨t',rfl⟩:=ry
 obtain⟨j,h1,h2,h3,h4,h5⟩:=xt he
 have hl:z.cps.toList.length=z.length:=by simp[Str.length]
 rw[hl]at h1 h4 h5
 have hn:=pq
 exact tail_any (typeIs_str s z t) slot_str_getitem.lookup (getItem_str (c:=c) (by
  have e1:decide (i < -(2 ^ 63:Int))=false:=decide_eq_false (by omega)
  have e2:decide (i >= 2 ^ 63)=false:=decide_eq_false (by omega)
  rw[e1,e2,Bool.or_false]) (by rw[h1];simpa using h2) ⟨.str ⟨#[c]⟩,H,I.tok _,⟨_,rfl⟩,q⟩) hs
noncomputable def rIx(K:av):R2:=λx y H Q=>Nn K x y H Q\/Pw K x y H Q\/NB x y H Q
theorem Ku:IxR X (rIx X.K):=Ho.or (Mc.or Md)
theorem AR (its:List Value) (n j:Nat) (u:Value):d5 (·.setIfInBounds j u) { cls := .type "list",data := .seq its.toArray n }={ cls := .type "list",data := .seq (its.set j u).toArray n }:=by
 simp[d5]
theorem Inv.lst{pins:List (Addr×Obj)}{σ:St}{H:Hp}{s:Shared}{p:Addr}{xs:List V}(I:Inv X pins σ H s)(h:H p=some (.lst xs)):
  ∃ (its:List Value) (n:Nat),cy xs its/\s.heap.get? p=some { cls := .type "list",data := .seq its.toArray n }/\xs.length<=sizeLine:=by
 obtain⟨z,its,n,r,e⟩:=I.hok p _ h
 exact⟨its,n,r,e,z⟩
theorem Inv.lstUpd{pins:List (Addr×Obj)}{σ:St}{H:Hp}{s:Shared}{p:Addr}{xs ys:List V}{its its':List Value}{n n':Nat}{f:Obj->Obj}(I:Inv X pins σ H s)(h:H p=some (.lst xs))
  (ho:s.heap.get? p=some { cls := .type "list",data := .seq its.toArray n }) (hf:f { cls := .type "list",data := .seq its.toArray n }={ cls := .type "list",data := .seq its'.toArray n' }) (r:cy ys its') (hz:ys.length<=sizeLine) (t:Nat) :
  Inv X pins σ (upd H p (.lst ys)) { s with heap:=s.heap.update p f,toks:=t }:=by
 have e:(s.heap.update p f).get? p=some { cls := .type "list",data := .seq its'.toArray n' }:=by
  rw[dB f ho (by rw[hf] <;> rfl),hf]
 refine I.write (x:=p) (e:=p) (by rw[h];trivial) (.inl rfl) (λb u hb q=>(ck _ _ (eG hb)).trans q) ⟨_,e⟩ ?_
 exact⟨hz,its',n',r,e⟩
noncomputable def JQ:V->V->V->Hp->(Hp->Prop)->Prop:=λo i v H Q =>∃p xs k j,o = .ref p/\i = .int k/\H p=some (.lst xs)/\ixN xs.length k=some j/\Q (upd H p (.lst (xs.set j v)))
theorem set_list:LB X JQ:=by
 intro pins s σ H o i v ov iv u Q I ro ri rv h
 obtain⟨p,xs,k,j,rfl,rfl,hp,hj,q⟩:=h
 cases ro
 obtain⟨t,rfl⟩:=ri
 obtain⟨its,n,r,ho,hz⟩:=I.lst hp
 obtain⟨h1,h2,h3,h4⟩:=B3 hj
 have hl:=r.length
 have hn:=pq
 have I':Inv X pins σ (upd H p (.lst (xs.set j v))) { s with heap:=s.heap.update p (d5 (·.setIfInBounds j u)) }:=
  I.lstUpd hp ho (AR its n j u) (r.set rv j) (by rw[fW];exact hz) s.toks
 by_cases h0:0<=k
 ·have hk:k.toNat=j:=by
   rw[seqIndex_of h0 h4]at h1
   exact bx h1
  exact PySem.W.ki_setAt ho h0 (by omega) (by rw[aD,<- hl];exact h4) (by rw[hk];exact⟨_,I',q⟩)
 ·have hk:(k+(its.toArray.size:Int)).toNat=j:=by
   rw[seqIndex_neg (by omega) h3]at h1
   rw[aD,<- hl]
   exact bx h1
  exact PySem.W.ki_setBack ho (by omega) (by rw[aD,<- hl];exact h3) (by omega) (by rw[hk];exact⟨_,I',q⟩)
theorem xl(lo hi:Option Int)(n:Nat):(sliceBounds lo hi none n).1=((HT.sIx n 0 lo:Nat):Int)/\(sliceBounds lo hi none n).2.1=((HT.sIx n n hi:Nat):Int)/\(sliceBounds lo hi none n).2.2=1:=by
 refine⟨?_,?_,rfl⟩
 ·cases lo with
  | none=>simp[sliceBounds,HT.sIx]
  | some i=>
    simp only[sliceBounds,HT.sIx,Option.getD_none,show(1:Int) > 0 by decide,if_true]
    by_cases h:i<0
    ·simp only[h,if_true] <;> omega
    ·simp only[h,if_false] <;> omega
 ·cases hi with
  | none=>simp[sliceBounds,HT.sIx]
  | some i=>
    simp only[sliceBounds,HT.sIx,Option.getD_none,show(1:Int) > 0 by decide,if_true]
    by_cases h:i<0
    ·simp only[h,if_true] <;> omega
    ·simp only[h,if_false] <;> omega
theorem v9(its:List Value)(lo hi:Option Int):slicePick its.toArray lo hi none=((its.drop (HT.sIx its.length 0 lo)).take (HT.sIx its.length its.length hi - HT.sIx its.length 0 lo)).toArray:=by
 obtain⟨h1,h2,h3⟩:=xl lo hi its.toArray.size
 unfold slicePick
 rw[h1,h2,h3]
 simp only[sliceRange_one,pick_run,aD] <;> rfl
noncomputable def Nf(K:av):V->Option Int->Option Int->Hp->VK->Prop:=λx lo hi H Q =>∃a xs,x = .ref a/\SqL K H a xs /\ ∀p,H p=none->Q (.ref p) (upd H p (.lst (zW xs lo hi)))
theorem HN:SlR X (Nf X.K):=by
 intro pins s σ H x v vl vu lo hi sl Q I rx hs pl pu h
 obtain⟨a,xs,rfl,hx,q⟩:=h
 cases rx
 obtain⟨its,r,ht,hz⟩:=I.list hx
 have hlen:=r.length
 refine⟨"list",_,slot_list_getitem.lookup,ht.isList.typeIs,?_⟩
 refine wpAny_getItem_list_slice ht.isList hs pl pu .none (by simp) ?_ (by rw[aD] <;> omega)
 rw[v9,<- hlen]
 refine⟨.ref s.heap.objs.size,_,I.laid (t':=s.toks) (o:= .lst (zW xs lo hi)) (λb ob q=>ar _ q) (aq _) ?_,rfl,q _ (I.hok.fresh (aq _))⟩
 exact⟨aF (r9 xs lo hi) hz,_,0,(r.drop (HT.sIx xs.length 0 lo)).take (HT.sIx xs.length xs.length hi - HT.sIx xs.length 0 lo),aC _ rfl⟩
noncomputable def oM:V->Bool
 | .non=>true
 | .bl _=>true
 | .int _=>true
 | .str _=>true
 | _=>false
noncomputable def eqV:V->V->Bool
 | .non,.non=>true
 | .bl a,.bl b=>a==b
 | .bl a,.int b=>(if a then 1 else 0)==b
 | .int a,.bl b=>a==(if b then 1 else 0)
 | .int a,.int b=>a==b
 | .str a,.str b=>a==b
 | _,_=>false
theorem Lu{A:Around}{s:Shared}{y x:V}{u v:Value}(ry:RelV y u)(rx:RelV x v)(fy:oM y=true)(fx:oM x=true):SeqAt.EqAt A s u v (eqV y x):=by
 cases y with
 | non=>
   cases ry
   cases x with
   | non=>cases rx;exact SeqAt.EqAt.same _
   | bl b=>cases rx;exact SeqAt.EqAt.none_bool b
   | int b=>obtain⟨t,rfl⟩:=rx;exact SeqAt.EqAt.none_int b t
   | str b=>obtain⟨t,rfl⟩:=rx;exact SeqAt.EqAt.none_str b t
   | _=>exact absurd (show false=true from fx) bz
 | bl a=>
   cases ry
   cases x with
   | non=>cases rx;exact SeqAt.EqAt.bool_none a
   | bl b=>cases rx;exact SeqAt.EqAt.bool_bool a b
   | int b=>obtain⟨t,rfl⟩:=rx;exact SeqAt.EqAt.bool_int a b t
   | str b=>obtain⟨t,rfl⟩:=rx;exact SeqAt.EqAt.bool_str a b t
   | _=>exact absurd (show false=true from fx) bz
 | int a=>
   obtain⟨t',rfl⟩:=ry
   cases x with
   | non=>cases rx;exact SeqAt.EqAt.int_none a t'
   | bl b=>cases rx;exact SeqAt.EqAt.int_bool a t' b
   | int b=>obtain⟨t,rfl⟩:=rx;exact Ck a t' b t
   | str b=>obtain⟨t,rfl⟩:=rx;exact Ci a t' b t
   | _=>exact absurd (show false=true from fx) bz
 | str a=>
   obtain⟨t',rfl⟩:=ry
   cases x with
   | non=>cases rx;exact SeqAt.EqAt.str_none a t'
   | bl b=>cases rx;exact SeqAt.EqAt.str_bool a t' b
   | int b=>obtain⟨t,rfl⟩:=rx;exact Cj a t' b t
   | str b=>obtain⟨t,rfl⟩:=rx;exact SeqAt.EqAt.str_str a t' b t
   | _=>exact absurd (show false=true from fx) bz
 | _=>exact absurd (show false=true from fy) bz
noncomputable def eqU(x:V)(u:Value):Bool:=match u with
 | .none=>eqV .non x
 | .bool b=>eqV (.bl b) x
 | .int i _=>eqV (.int i) x
 | .str z _=>eqV (.str z) x
 | _=>false
theorem F6{x y:V}{u:Value}(r:RelV y u)(f:oM y=true):eqU x u=eqV y x:=by
 cases y with
 | non=>cases r;rfl
 | bl b=>cases r;rfl
 | int i=>obtain⟨t,rfl⟩:=r;rfl
 | str z=>obtain⟨t,rfl⟩:=r;rfl
 | _=>exact absurd (show false=true from f) bz
theorem qz{x:V}: ∀{xs:List V}{us:List Value},cy xs us->xs.all oM=true->us.any (eqU x)=xs.any λy=>eqV y x
 | _,_,.nil,_=>rfl
 | y::xs,u::us,.cons r t,f=>by
   rw[b9,aA]at f
   rw[ix,ix,F6 r f.1,qz t f.2]
theorem mT{A:Around}{s:Shared}{x:V}{v:Value}(rx:RelV x v)(fx:oM x=true): ∀{xs:List V}{us:List Value},cy xs us->xs.all oM=true -> ∀u∈us,SeqAt.EqAt A s u v (eqU x u)
 | _,_,.nil,_=>λu hu=>by cases hu
 | y::xs,u::us,.cons r t,f=>λu' hu=>by
   rw[b9,aA]at f
   rcases aK.mp hu with rfl |hu
   ·rw[F6 r f.1];exact Lu r rx f.1 fx
   ·exact mT rx fx t f.2 u' hu
noncomputable def inV(x:V)(xs:List V):Bool:=xs.any λy=>eqV y x
noncomputable def rIn(K:av)(neg:Bool):R2:=λx y H Q =>∃p xs,y = .ref p/\(SqL K H p xs\/SqT K H p xs)/\oM x=true/\xs.all oM=true/\Q (.bl (if neg then !inV x xs else inV x xs)) H
theorem Dr:OpR X (compareOp .In) (rIn X.K false):=by
 intro pins s σ H x y v u Q I rx ry h
 obtain⟨p,xs,rfl,hq,fx,fs,q⟩:=h
 cases ry
 rcases hq with hq |hq
 ·obtain⟨its,r,pl,hz⟩:=I.list hq
  refine SeqAt.in_listAt (eqU x) pl.isList (λw hw=>mT rx fx r fs w (by simpa using hw)) ⟨.bl _,H,I,rfl,?_⟩
  rw[show its.toArray.any (eqU x)=its.any (eqU x) by simp,qz r fs]
  exact q
 ·obtain⟨its,r,pl,hz⟩:=I.tuple hq
  refine SeqAt.in_tupleAt (eqU x) pl (λw hw=>mT rx fx r fs w (by simpa using hw)) ⟨.bl _,H,I,rfl,?_⟩
  rw[show its.toArray.any (eqU x)=its.any (eqU x) by simp,qz r fs]
  exact q
theorem xy:OpR X (compareOp .NotIn) (rIn X.K true):=by
 intro pins s σ H x y v u Q I rx ry h
 obtain⟨p,xs,rfl,hq,fx,fs,q⟩:=h
 cases ry
 rcases hq with hq |hq
 ·obtain⟨its,r,pl,hz⟩:=I.list hq
  refine SeqAt.notIn_listAt (eqU x) pl.isList (λw hw=>mT rx fx r fs w (by simpa using hw)) ⟨.bl _,H,I,rfl,?_⟩
  rw[show its.toArray.any (eqU x)=its.any (eqU x) by simp,qz r fs]
  exact q
 ·obtain⟨its,r,pl,hz⟩:=I.tuple hq
  refine SeqAt.notIn_tupleAt (eqU x) pl (λw hw=>mT rx fx r fs w (by simpa using hw)) ⟨.bl _,H,I,rfl,?_⟩
  rw[show its.toArray.any (eqU x)=its.any (eqU x) by simp,qz r fs]
  exact q
theorem xn:iq X (.builtin "len") (fun xs H Q => ∃ p ys,xs = [.ref p]/\(SqL X.K H p ys\/SqT X.K H p ys)/\Q (.int ys.length) H):=by
 intro pins s σ H xs us Q I r h
 obtain⟨p,ys,rfl,hq,q⟩:=h
 obtain⟨u,rfl,rx⟩:=vals1 r
 cases rx
 have hn:=pq
 rcases hq with hq |hq
 ·obtain⟨its,r',pl,hz⟩:=I.list hq
  have hlen:=r'.length
  exact Calls.call_len_list pl.isList (by simp only[aD] <;> omega) ⟨.int ys.length,H,I.tok _,⟨s.toks+1,by rw[aD,hlen]⟩,q⟩
 ·obtain⟨its,r',pl,hz⟩:=I.tuple hq
  have hlen:=r'.length
  exact len_tuple pl (by simp only[aD] <;> omega) ⟨.int ys.length,H,I.tok _,⟨s.toks+1,by rw[aD,hlen]⟩,q⟩
theorem iq.or{f:Value}{r r':List V->Hp->VK->Prop}(h:iq X f r)(h':iq X f r'):iq X f (λxs H Q=>r xs H Q\/r' xs H Q):=by
 intro pins s σ H xs us Q I rs q
 rcases q with q |q
 ·exact h pins s σ H xs us Q I rs q
 ·exact h' pins s σ H xs us Q I rs q
theorem vZ:iq X (.type "tuple") (fun xs H Q => ∃ p ys,xs = [.ref p]/\((SqL X.K H p ys /\ ∀ l,H l=none->Q (.ref l) (upd H l (.tup ys)))\/(SqT X.K H p ys/\Q (.ref p) H))):=by
 intro pins s σ H xs us Q I r h
 obtain⟨p,ys,rfl,h⟩:=h
 obtain⟨u,rfl,rx⟩:=vals1 r
 cases rx
 rcases h with⟨hq,q⟩ | ⟨hq,q⟩
 ·obtain⟨its,r',pl,hz⟩:=I.list hq
  have hlen:=r'.length
  refine call_tuple_list pl.isList (λh' kp =>?_) (by simp only[aD] <;> omega)
  have I1:Inv X pins σ H { s with heap:=h' }:=I.kept (t':=s.toks) kp
  have I2:Inv X pins σ (upd H h'.objs.size (.tup ys)) { s with heap:=h'.push { cls := .type "tuple",data := .seq its.toArray } }:=
   I1.laid (t':=s.toks) (λb o e=>ar _ e) (aq _) (show eT X.prog X.w _ _ _ (.tup ys) from⟨hz,its,r',Cm _ _,_,aC _ rfl,rfl⟩)
  exact⟨.ref h'.objs.size,_,I2,rfl,q _ (I1.hok.fresh (aq _))⟩
 ·obtain⟨its,r',pl,hz⟩:=I.tuple hq
  exact call_tuple_same pl ⟨.ref p,H,I,rfl,q⟩
noncomputable def tyV(K:av)(T:String)(x:V)(H:Hp):Prop:=match x with
 | .str _=>T="str"
 | .int _=>T="int"
 | .ref p=>(T="list" /\ ∃ xs,SqL K H p xs)\/(T="tuple" /\ ∃ o,K.lookup p=some o/\o.cls = .type "tuple"/\o.dict=none) \/
   (T="dict"/\((∃ kvs,H p=some (.dK kvs)) \/ ∃ kvs,H p=some (.dT kvs)))\/(T="set" /\ ∃ S n,H p=some (.set S n))
 | _=>False
theorem Fe{pins:List (Addr×Obj)}{σ:St}{H:Hp}{s:Shared}{T:String}{x:V}{v:Value}(I:Inv X pins σ H s)(r:RelV x v)(ty:tyV X.K T x H):
  s.TypeIs v T /\ ∀a,v = .ref a -> ∃ob,s.heap.get? a=some ob/\ob.dict=none:=by
 cases x with
 | str z=>
   obtain⟨t,rfl⟩:=r
   cases (show T="str" from ty)
   exact⟨typeIs_str s z t,λ_ e=>nomatch e⟩
 | int i=>
   obtain⟨t,rfl⟩:=r
   cases (show T="int" from ty)
   exact⟨typeIs_int s i t,λ_ e=>nomatch e⟩
 | ref p=>
   cases r
   rcases ty with⟨rfl,xs,hq⟩ | ⟨rfl,o,hk,hc,hd⟩ | ⟨rfl,hk⟩ | ⟨rfl,S,n,hk⟩
   ·obtain⟨its,_,pl,_⟩:=I.list hq
    refine⟨pl.isList.typeIs,λa e =>?_⟩
    cases e
    obtain⟨o,n,e,c,hd,_⟩:=pl
    exact⟨o,e,hd⟩
   ·refine⟨⟨o,I.kIn p o hk,hc⟩,λa e =>?_⟩
    cases e
    exact⟨o,I.kIn _ o hk,hd⟩
   ·have z: ∃o,s.heap.get? p=some o/\o.ExactDict:=by
     rcases hk with⟨kvs,hk⟩ | ⟨kvs,hk⟩
     ·obtain⟨_,_,_,_,o,_,_,e,ex,_⟩:=I.hok p _ hk
      exact⟨o,e,ex⟩
     ·obtain⟨_,_,_,_,o,_,_,e,ex,_⟩:=I.hok p _ hk
      exact⟨o,e,ex⟩
    obtain⟨o,e,ex⟩:=z
    refine⟨⟨o,e,ex.1⟩,λa e2 =>?_⟩
    cases e2
    exact⟨o,e,ex.2.1⟩
   ·obtain⟨o,_,_,_,e,ex,_⟩:=I.hok p _ hk
    refine⟨⟨o,e,ex.1⟩,λa e2 =>?_⟩
    cases e2
    exact⟨o,e,ex.2.1⟩
 | _=>exact cX ty
noncomputable def N4(K:av)(T:String)(r:V->List V->Hp->VK->Prop)(to:TE):TE:=λσ H Q=>to σ H λx H1=>tyV K T x H1/\r x [] H1 Q
noncomputable def tBM(K:av)(T:String)(r:V->List V->Hp->VK->Prop)(to:TE)(t:TA):TE:=λσ H Q=>to σ H λx H1=>tyV K T x H1/\t σ H1 λxs H2=>r x xs H2 Q
variable {o e:Expr}{es:List Expr}{to:TE}{t:TA}{name:Str}{apos cpos:Pos}{T id:String}{r:V->List V->Hp->VK->Prop}
theorem Lz (pa:PlainAttrs T) (slot:Slot T name id) (hty:typeOf (.builtin id)=pure (.type "method_descriptor")) (hm:MtR X id r) (ho:PE X o to)
  (hbase:autoParam (attributeBase o name X.env (eval o X.env)=eval o X.env) au1._auto_1) (hline:autoParam ((apos.endLine==cpos.line)=true) au1._auto_1):PE X (.Call (.Attribute o name apos) [] [] cpos) (N4 X.K T r to):=by
 intro pins s σ H Q I h
 refine wpAny_Call_method0_late hbase hline (thn (ho pins s σ H _ I h) λv s1 ⟨x,H1,I1,r1,ty,q1⟩ =>?_)
 obtain⟨h1,h2⟩:=Fe I1 r1 ty
 exact⟨T,id,pa,slot,hty,h1,h2,oE rfl (PySem.evalArgs_none (hm pins s1 σ H1 x [] v [] Q I1 r1 .nil q1))⟩
theorem FP (pa:PlainAttrs T) (slot:Slot T name id) (hty:typeOf (.builtin id)=pure (.type "method_descriptor")) (hm:MtR X id r) (ho:PE X o to) (ha:PA X (e::es) t)
  (hbase:autoParam (attributeBase o name X.env (eval o X.env)=eval o X.env) au1._auto_1)
  (hfew:autoParam (((backTo cpos (starEach (e::es) X.env)).all (λx => !x.1)&&(backToKw cpos (keywordEach [] X.env)).all (λx=>x.1.isSome)
   && decide ((e::es).length+([]:List Keyword).length+(if ([]:List Keyword).isEmpty then 0 else 1)<30))=true) au1._auto_1)
  (hline:autoParam ((apos.endLine==cpos.line)=true) au1._auto_1) (hs:autoParam (starEach (e::es) X.env=(false,eval e X.env)::starEach es X.env) au1._auto_1) (hplain:autoParam ((backTo cpos (starEach es X.env)).any (·.1)=false) au1._auto_1):
  PE X (.Call (.Attribute o name apos) (e::es) [] cpos) (tBM X.K T r to t):=by
 intro pins s σ H Q I h
 refine wpAny_Call_method_late hbase hfew hline rfl (thn (ho pins s σ H _ I h) λv s1 ⟨x,H1,I1,r1,ty,q1⟩ =>?_)
 obtain⟨h1,h2⟩:=Fe I1 r1 ty
 refine⟨T,id,pa,slot,hty,h1,h2,?_⟩
 have hA:=ha cpos pins s1 σ H1 _ I1 q1
 rw[hs]at hA ⊢
 refine oE (by show(false||(backTo cpos (starEach es X.env)).any (·.1))=false;rw[hplain] <;> rfl) (qK ?_)
 exact thn hA λus s2 ⟨vs,H2,I2,r2,q2⟩=>hm pins s2 σ H2 x vs v us Q I2 r1 r2 q2
end
end _L
namespace _L
open PySem PySem.Spec PyProof.Rows
noncomputable def MtM(X:Cx)(id:String)(r:V->List V->Hp->VK->Prop):Prop:=
 ∀(pins:List (Addr×Obj)) (s:Shared) (σ:St) (H:Hp) (x:V) (xs:List V) (v:Value) (us:List Value) (Q:VK),Inv X pins σ H s->RelV x v->cy xs us->r x xs H Q ->
  aI (model X.prog X.w) X.A (call (.builtin id) (v::us)) (EP X pins σ Q) X.xe s
theorem cy.one: ∀{x:V}{us:List Value},cy [x] us -> ∃u,us = [u]/\RelV x u:=by
 intro x us h
 cases h with |cons r t=>cases t;exact⟨_,rfl,r⟩
theorem cy.zero: ∀{us:List Value},cy [] us->us = []
 | _,.nil=>rfl
theorem cy.dropLast{xs:List V}{us:List Value}(h:cy xs us):cy xs.dropLast us.dropLast:=by
 induction h with
 | nil=>exact .nil
 | cons r t ih=>
   cases t with
   | nil=>exact .nil
   | cons q t'=>exact .cons r ih
theorem cy.eraseIdx: ∀{xs:List V}{us:List Value} (i:Nat),cy xs us->cy (xs.eraseIdx i) (us.eraseIdx i)
 | _,_,_,.nil => .nil
 | _,_,0,.cons _ t=>t
 | _,_,i+1,.cons r t => .cons r (cy.eraseIdx i t)
theorem AC{α:Type}(l:List α):l.eraseIdx (l.length - 1)=l.dropLast:=by
 induction l with
 | nil=>rfl
 | cons a r ih=>
   cases r with
   | nil=>rfl
   | cons b r=>
     have e:(a::b::r).length - 1=((b::r).length - 1)+1:=by
      have h1:(a::b::r).length=r.length+2:=rfl
      have h2:(b::r).length=r.length+1:=rfl
      assumption
     rw[e,DQ,ih]
     all_goals rfl
theorem wm{α:Type}: ∀(l:List α) (i:Nat),(l.eraseIdx i).length<=l.length
 | [],_=>aq _
 | _::_,0=>dJ _
 | _::r,i+1=>Nat.succ_le_succ (wm r i)
section
variable {X:Cx}{pins:List (Addr×Obj)}{σ:St}{H:Hp}{s:Shared}{l b:Addr}{xs ys zs:List V}
theorem Inv.lset{its its':List Value}{n:Nat}{f:Array Value->Array Value}{t':Nat}(I:Inv X pins σ H s)(hH:H l=some (.lst xs))
  (e:s.heap.get? l=some { cls := .type "list",data := .seq its.toArray n }) (hf:f its.toArray=its'.toArray) (hv:cy ys its') (hz:ys.length<=sizeLine) :
  Inv X pins σ (upd H l (.lst ys)) { s with heap:=s.heap.update l (d5 f),toks:=t' }:=by
 have q:=GV e f
 rw[hf]at q
 refine I.write (x:=l) (e:=l) (by rw[hH];exact trivial) (.inl rfl) (λb' u hb hu=>(ck s.heap (d5 f) (eG hb)).trans hu) ⟨_,q⟩ ?_
 exact⟨hz,its',_,hv,q⟩
theorem Inv.lstM (I:Inv X pins σ H s) (hH:H l=some (.lst xs)):xs.length<=sizeLine /\ ∃ (its:List Value) (n:Nat),cy xs its/\xs.length=its.length/\s.heap.get? l=some { cls := .type "list",data := .seq its.toArray n }:=by
 obtain⟨z,its,n,r,e⟩:=I.hok l _ hH
 exact⟨z,its,n,r,r.length,e⟩
theorem FH{n:Nat}(h:n<=sizeLine):kf n=false:=by
 unfold kf
 exact decide_eq_false (by omega)
end
section
variable {X:Cx}
noncomputable def BL:V->List V->Hp->VK->Prop:=λx vs H Q =>∃l xs y,x = .ref l/\vs = [y]/\H l=some (.lst xs)/\xs.length<sizeLine/\Q .non (upd H l (.lst (xs++[y])))
theorem CJ:MtM X "list.append" BL:=by
 intro pins s σ H x vs v us Q I rx rv h
 obtain⟨l,xs,y,rfl,rfl,hH,hz,q⟩:=h
 cases rx
 obtain⟨u,rfl,ru⟩:=rv.one
 obtain⟨z,its,n,r,hl,e⟩:=I.lstM hH
 refine call_meets F.slot_list_append ⟨_,e,rfl⟩ F.entry_list_append (F.args_list_append_2 _ _) (PySem.list_append l its.toArray n u (by rw[aD];omega)) ⟨e,?_⟩
 refine⟨.non,_,I.lset (its':=its++[u]) hH e (by simp) (r.append (.cons ru .nil)) ?_,rfl,q⟩
 rw[aV,List.length_singleton]
 assumption
noncomputable def Bs:V->List V->Hp->VK->Prop:=λx vs H Q =>∃l b xs zs,x = .ref l/\vs = [.ref b]/\H l=some (.lst xs)/\H b=some (.lst zs)/\xs.length+zs.length<=sizeLine/\Q .non (upd H l (.lst (xs++zs)))
theorem CO:MtM X "list.extend" Bs:=by
 intro pins s σ H x vs v us Q I rx rv h
 obtain⟨l,b,xs,zs,rfl,rfl,hH,hB,hz,q⟩:=h
 cases rx
 obtain⟨u,rfl,ru⟩:=rv.one
 cases ru
 obtain⟨z,its,n,r,hl,e⟩:=I.lstM hH
 obtain⟨z2,its2,n2,r2,hl2,e2⟩:=I.lstM hB
 have hsz:its.toArray.size+its2.toArray.size<=sizeLine:=by rw[aD,aD];omega
 have hlong: ¬(!its.toArray.isEmpty&&kf (its.toArray.size+its2.toArray.size))=true:=by
  rw[FH hsz,Bool.and_false]
  exact bz
 refine call_meets F.slot_list_extend ⟨_,e,rfl⟩ F.entry_list_extend (F.args_list_extend_2 _ _)
  (AutoSeq1.list_extend_list_list_0 l its.toArray n b its2.toArray n2 hlong (by rw[aD];omega) (by exact aF (by assumption) (by decide))) ⟨e,e2,?_⟩
 refine⟨.non,_,I.lset (its':=its++its2) hH e (by simp) (r.append r2) ?_,rfl,q⟩
 rw[aV]
 assumption
noncomputable def Py:V->List V->Hp->VK->Prop:=λx vs H Q =>∃l xs y,x = .ref l/\vs = []/\H l=some (.lst xs)/\xs[xs.length - 1]? = some y/\Q y (upd H l (.lst xs.dropLast))
theorem L6:MtM X "list.pop" Py:=by
 intro pins s σ H x vs v us Q I rx rv h
 obtain⟨l,xs,y,rfl,rfl,hH,hy,q⟩:=h
 cases rx
 have hus:=rv.zero
 subst hus
 obtain⟨z,its,n,r,hl,e⟩:=I.lstM hH
 obtain⟨u,hu,ru⟩:=r.get hy
 have hy':its.toArray[its.toArray.size - 1]? = some u:=by
  show its.toArray[its.length - 1]? = some u
  rw[<- pH,<- hl]
  exact hu
 refine call_meets F.slot_list_pop ⟨_,e,rfl⟩ F.entry_list_pop (F.args_list_pop_1 _) (MeetsSeq.list_pop_last l its.toArray n u hy' (by rw[aD];omega)) ⟨e,?_⟩
 refine⟨y,_,I.lset (its':=its.dropLast) hH e ?_ r.dropLast ?_,ru,q⟩
 ·show its.toArray.eraseIdxIfInBounds (its.toArray.size - 1)=its.dropLast.toArray
  rw[aD,wg,AC]
 ·rw[List.length_dropLast]
  omega
noncomputable def Ec:V->List V->Hp->VK->Prop:=λx vs H Q =>∃l xs i k y,x = .ref l/\vs = [.int i]/\H l=some (.lst xs) /\ -(2 ^ 63)<=i/\i<2 ^ 63/\seqIndex? i xs.length=some k/\xs[k]? = some y/\Q y (upd H l (.lst (xs.eraseIdx k)))
theorem EE:MtM X "list.pop" Ec:=by
 intro pins s σ H x vs v us Q I rx rv h
 obtain⟨l,xs,i,k,y,rfl,rfl,hH,h1,h2,hk,hy,q⟩:=h
 cases rx
 obtain⟨u,rfl,ru⟩:=rv.one
 obtain⟨t,rfl⟩:=ru
 obtain⟨z,its,n,r,hl,e⟩:=I.lstM hH
 obtain⟨w,hw,rw'⟩:=r.get hy
 refine call_meets F.slot_list_pop ⟨_,e,rfl⟩ F.entry_list_pop (F.args_list_pop_2 _ _)
  (MeetsSeq.list_pop_at l its.toArray n i t k w (fitsIndex_both h1 h2) (by rw[aD,<- hl];exact hk) (by rw[<- pH];exact hw) (by rw[aD];omega)) ⟨e,?_⟩
 refine⟨y,_,I.lset (its':=its.eraseIdx k) hH e ?_ (r.eraseIdx k) ?_,rw',q⟩
 ·show its.toArray.eraseIdxIfInBounds k=(its.eraseIdx k).toArray
  rw[wg]
 ·have:=wm xs k
  exact aF (by assumption) (by assumption)
end
section
variable {prog:Program}{w:World}{A:Around}{E:Value->Shared->Prop}{s:Shared}
end
section
variable {X:Cx}
end
end _L
namespace Att
open PySem PySem.W PySem.Calls PyProof.Rows
theorem sy{P:Params}{h:Heap}: ∀(ns:List Int) (vs:List Value),WellAll P h vs (ns.map WData.int)->IntsAre vs ns:=by
 intro ns
 induction ns with
 | nil=>
   intro vs w
   rw[oY]at w
   cases w
   exact .nil
 | cons n ns ih=>
   intro vs w
   rw[bE]at w
   cases w with
   | cons a b=>
     cases a
     exact .cons _ _ (ih _ b)
theorem Cy{l:OpenLaw}{n:Nat}(hn:l.most=some n){P:Params}{h:Heap}{args:List WData}{vals:List Value}
  (hpre:l.row.toRowW.claim.pre args=true) (hwl:WellAll P h vals args):
  ∃ a vs ns,vals = [bj a]/\args = [WData.list (ns.map WData.int)]/\h.get? a=some { cls := .type "list",data := .seq vs.toArray }/\IntsAre vs ns/\ns.length<=n:=by
 have hsh:WShape.hasAll [] args [.list .int]=true:=(pre_splitW hpre).1
 have hc:l.pre.holds [] { args:=args }=true:=(pre_splitW hpre).2
 obtain⟨d,r,rfl,h1,h2⟩:=hasAllW_cons hsh
 obtain rfl:=hasAllW_nil h2
 obtain⟨xs,rfl,h3⟩:=hasW_list h1
 obtain⟨ns,rfl⟩:=items_int h3
 have hlen:ns.length<=n:=by
  unfold OpenLaw.pre at hc
  have h4:(WTm.not (.lt (.lit (.int (n:Int))) (.len (.arg 0)))).holds [] { args:= [.list (ns.map .int)] }=true:=by
   have h4:=(holds_andW hc).1
   rw[hn]at h4
   exact h4
  have h5:=condW_of h4 (w_not (w_lt w_lit (w_len_list (w_arg rfl))))
  rw[ak]at h5
  refine bX λq =>?_
  have q':(n:Int)<((ns.length:Nat):Int):=by omega
  first
   | (rw[decide_eq_true q']at h5;exact absurd h5 (by decide))
   | (simp at h5;omega)
 cases hwl with
 | cons w1 w2=>
   cases w2
   cases w1 with
   | list ho hall=>exact⟨_,_,ns,rfl,rfl,ho,sy ns _ hall,hlen⟩
theorem Dq(l:OpenLaw)(args:List WData):l.row.toRowW.claim.post args (.bool true) args=true:=
 postW_of (r:=l.row.toRowW) (X:=(true==true))
  (show WShape.has [] (.bool true) .bool=true by first |rfl |decide |simp[WShape.has,WShape.arms,WShape.armsAll])
  (show(WTm.eq .res (.lit (.bool true))).value [] { args:=args,res:=some (.bool true),after:=args }=some (.bool (true==true)) from w_eq_bool (w_res rfl) w_lit) rfl
theorem attach_call{l:OpenLaw}{n:Nat}{q:Program}{loose:List Str}{XP:(Str->Option Value)->Heap->Prop}{YP:World->Heap->Prop}{d:DefRec}
  (hn:l.most=some n) (hdf:d.params.defaults = [])
  (call: ∀(w:World) (s₀ s₁:Shared) (mg mb:Str->Option Value) (fa:Addr) (o:Obj) (pm cd doc:Value) (a:Addr) (vs:List Value) (ns:List Int),
   Ground q loose [] XP w s₀ mg mb s₁.heap->YP w s₁.heap ->
   s₁.heap.get? fa=some o->o.data = .func (docDef d.name d.params d.body d.scope pm cd doc)->s₁.heap.CodeRec cd d.name->mg d.name=some (.ref fa) ->
   s₁.heap.get? a=some { cls := .type "list",data := .seq vs.toArray }->IntsAre vs ns->ns.length<=n->s₁.gens = #[] ->
   md (model l.prog w) callerA (.call (.ref fa) ⟨[.ref a],[]⟩) (λr s'=>r = .ok (.ret (.bool true))/\OldK s₁.heap s'.heap/\s'.os=s₁.os/\AllBare s'.gens) s₁):
  WalkO q loose XP YP l.row.toRowW d [] (λf vs=>PySem.call f vs):=by
 intro w s₀ s₁ mg mb G Y fa o pm cd doc dV kV ho hd hcd hD hmg hg args vals as hpre hlay hrd hwl hlo
 obtain rfl:dV = .none:=Dflts.none hD hdf
 obtain rfl:kV = .none:=Dflts.noKw hD
 obtain⟨a,vs,ns,rfl,rfl,hobj,hints,hlen⟩:=Cy hn hpre hwl
 refine enter_call (iC (call w s₀ s₁ mg mb fa o pm cd doc a vs ns G Y ho (fd_plain hd) hcd hmg hobj hints hlen hg) λr s' hq =>?_)
 obtain⟨rfl,h2,h3,h4⟩:=hq
 exact⟨.inl ⟨.bool true,.bool true,[],rfl,λ_=>rfl,.bool true,Dq l _,λ_=>⟨hX,λ_ hm=>(nomatch hm)⟩⟩,h2,h3,h4⟩
section
variable {prog:Program}{w:World}{A:Around}{E:Value->Shared->Prop}{s:Shared}{K:Frag}
end
end Att
namespace _L
open PySem PySem.Spec PyProof.Rows
end _L
namespace _L
open PySem PySem.Spec PyProof.Rows
abbrev KOf{K:av}{h:Heap}(_:K.In h):av:=K
end _L
namespace _L
open PySem PySem.Spec PyProof.Rows
noncomputable def fe(s:Stmt):Arguments:=match s with
 | .FunctionDef _ a _ _ _ _ _ _ _ _=>a
 | _=>{ posonlyargs:= [],args:= [],vararg:=none,kwonlyargs:= [],kw_defaults:= [],kwarg:=none,defaults:= [] }
noncomputable def aN(s:Stmt):List Stmt:=match s with
 | .FunctionDef _ _ b _ _ _ _ _ _ _=>b
 | _ =>[]
noncomputable def ao(s:Stmt):Scope:=match s with
 | .FunctionDef _ _ _ _ _ _ sc _ _ _=>sc
 | _=>{ kind:= .function,names:= [],isGenerator:=false,isCoroutine:=false }
abbrev CX0:CXT:=λ_ _ _ _ _ _=>False
abbrev E0:XK:=λ_ _ _=>False
theorem BO{X:Cx}:xE CX0 X E0:=λ_ _ _ _ _ _ _ h=>h.elim
structure Fun(K:av)(x qual:Str)(st:Stmt)(f:Addr)(fd:FuncData):Prop where
 ex: ∃(oc:Value) (od:Option Addr) (kV doc pm:Value) (an:Option Addr) (cdv ct:Value) (osl:Array (Option Value)),
  fd=cx x qual (fe st) (aN st) (ao st) .none kV doc pm an cdv ct/\K.lookup f=some ⟨oc,od,.func fd,osl⟩/\gv K cdv qual=true
 kp:cW K (.ref f)=true
section
variable {P:Program}{w:World}{K:av}{mg:Str->Option Value}{base:Heap}
theorem Fun.ok{x qual:Str}{st:Stmt}{f:Addr}{fd:FuncData}{N ps:List Str}{k:Nat}{sp:Sp}(F:Fun K x qual st f fd)(S:aX N ps (ao st))(len: ∀vs H Q E,sp vs H Q E->vs.length=ps.length)
  (hbody: ∀(cdv:Value) (A:Around) (outer:List Env) (s:Shared) (H:Hp) (vs:List V) (Q:VK) (E:XK),kQ k (A.deeper (envOfC qual (ao st) s.heap.objs.size f cdv))->sp vs H Q E ->
   ∃t,PSs (AK CX0 P w K mg base N qual (ao st) f cdv A outer s H E).nox (aN st) t/\t { nx:=λ_ H'=>Q .non H',rt:=Q } (start N vs) H):jB P w K mg base CX0 (k+1) f fd ps sp:=by
 obtain⟨oc,od,kV,doc,pm,an,cdv,ct,osl,rfl,lk,hcd⟩:=F.ex
 refine Cd lk hcd S len λA outer s H vs Q E hr hsp =>?_
 obtain⟨t,h,q⟩:=hbody cdv A outer s H vs Q E hr hsp
 exact⟨t,h.nox,q⟩
theorem Fun.binds{x qual:Str}{st:Stmt}{f:Addr}{fd:FuncData}{ps:List Str}(F:Fun K x qual st f fd)
  (h: ∀(kV doc pm:Value) (an:Option Addr) (cdv ct:Value) (us:List Value),us.length=ps.length->bindArgs (cx x qual (fe st) (aN st) (ao st) .none kV doc pm an cdv ct) ⟨us,[]⟩=pure (ps.zip us)):Binds K fd ps []:=by
 obtain⟨oc,od,kV,doc,pm,an,cdv,ct,osl,rfl,lk,hcd⟩:=F.ex
 exact .all (h kV doc pm an cdv ct)
theorem KA{x qual:Str}{st:Stmt}{f:Addr}{oc:Value}{od an:Option Addr}{osl:Array (Option Value)}{kV doc pm cdv ct:Value}(l:K.lookup f=some ⟨oc,od,.func (cx x qual (fe st) (aN st) (ao st) .none kV doc pm an cdv ct),osl⟩)
  (c:gv K cdv qual=true) (k:cW K (.ref f)=true):Fun K x qual st f (cx x qual (fe st) (aN st) (ao st) .none kV doc pm an cdv ct):=⟨⟨oc,od,kV,doc,pm,an,cdv,ct,osl,rfl,l,c⟩,k⟩
end
section
variable {X:Cx}
end
end _L
end
section
namespace HT
open PySem PyProof.Rows
theorem El(A:Around)(s:Shared)(a:Int)(t:Tok)(c:Int)(u:Tok)(prog:Program)(w:World)(E:Value->Shared->Prop)(Q:Value->Shared->Prop)(h:Q (.bool (decide (c<a))) s):
  aI (model prog w) A (richCompare .Gt (.int a t) (.int c u)) Q E s:=
 (PyProof.Rows.gt_int h:aI (model prog w) A (compareOp .Gt (.int a t) (.int c u)) Q E s)
section
open PySem.SeqAt
open PySem.AutoSeq1 (wpAny_loadPart')
open PySem.MeetsSeq PySem.MeetsSeq2 PySem.MeetsSeq3
theorem vQ(l b:Addr)(items items2:Array Value)(n n2:Nat)(dd dd2:Option Addr)(sl sl2:Array (Option Value))(ns ms:List Int)(hi:IntsAre items.toList ns)(hj:IntsAre items2.toList ms):
  Meets (Builtin.«tuple.__gt__» ⟨[.ref l,.ref b],[]⟩)
   (fun _ R s=>s.heap.get? l=some { cls := .type "tuple",dict:=dd,data := .seq items n,slots:=sl }/\s.heap.get? b=some { cls := .type "tuple",dict:=dd2,data := .seq items2 n2,slots:=sl2 } /\
    R (.ok (.ret (.bool (lexLt ms ns)))) s):=
 .of_wp λprog w A R s h=>by
  obtain⟨hp,g,d,tk,os⟩:=s;obtain⟨hl,hb,h⟩:=h
  have f2:=yn
  have z1:items.size=ns.length:=by rw[<- hi.length];simp
  have z2:items2.size=ms.length:=by rw[<- hj.length];simp
  wp_walk using lN hl,lN hb,Bi _ (λrest b s'=>b.1=none/\s'=⟨hp,g,d,tk,os⟩ /\ ∃(vs ws:List Value) (ns' ms':List Int),rest=vs.zip ws /\
   IntsAre vs ns'/\IntsAre ws ms'/\ns'.length+items2.size=ms'.length+items.size/\R (.ok (.ret (.bool (lexLt ms' ns')))) ⟨hp,g,d,tk,os⟩) _
  case turn=>
   rintro ⟨y,x⟩ rest b s' ⟨hb',rfl,vs,ws,ns',ms',hz,hvi,hwi,hlen,hR⟩
   cases hvi with
   | nil=>rw[List.zip_nil_left]at hz;cases hz
   | cons a t hvi'=>
     cases hwi with
     | nil=>rw[List.zip_nil_right]at hz;cases hz
     | cons c u hwi'=>
       rw[la]at hz
       injection hz with hyx hrest
       injection hyx with hy hx
       subst hy hx
       rw[lexLt_cons]at hR
       simp only[bg]at hlen
       obtain⟨e,he,hiff⟩:=yX A.in1 ⟨hp,g,d,tk,os⟩ a t c u
       refine ae (he prog w _ _ ?_)
       cases e with
       | true=>
         rw[if_pos (hiff.mp rfl).symm]at hR
         wp_walk
         exact⟨rfl,rfl,_,_,_,_,hrest,hvi',hwi',by omega,hR⟩
       | false=>
         rw[if_neg (λq=>absurd (hiff.mpr q.symm) bz)]at hR
         have hri:=El A.in1 ⟨hp,g,d,tk,os⟩ a t c u prog w
         wp_walk using hri
         exact⟨_,rfl,by simpa using hR⟩
  case fin=>
   rintro ⟨b1,b2⟩ s' ⟨hb',rfl,vs,ws,ns',ms',hz,hvi,hwi,hlen,hR⟩
   simp only at hb'
   subst hb'
   have hv:lexLt ms' ns'=decide (items2.size<items.size):=by
    cases hvi with
    | nil=>
      cases hwi with
      | nil=>
        simp only[cg]at hlen
        rw[oN]
        exact(decide_eq_false (by omega)).symm
      | cons c u hw=>
        simp only[cg,bg]at hlen
        rw[mH]
        exact(decide_eq_false (by omega)).symm
    | cons a t hv=>
      cases hwi with
      | nil=>
        simp only[cg,bg]at hlen
        rw[ng]
        exact(decide_eq_true (by omega)).symm
      | cons c u hw=>
        rw[la]at hz
        cases hz
   rw[hv]at hR
   wp_walk
   exact⟨_,rfl,by simpa [pM]using hR⟩
  case h=>
   exact⟨rfl,rfl,items.toList,items2.toList,ns,ms,rfl,hi,hj,by omega,h⟩
end
section
variable {prog:Program}{w:World}{A:Around}{E:Value->Shared->Prop}{s:Shared}
theorem gt_tupInts{l b:Addr}{items items2:Array Value}{ns ms:List Int}{Q:Value->Shared->Prop}(hl:IsTup s.heap l items)(hb:IsTup s.heap b items2)(hi:IntsAre items.toList ns)(hj:IntsAre items2.toList ms)
  (hu:A.units<cLine) (h:Q (.bool (lexLt ms ns)) s):aI (model prog w) A (compareOp .Gt (.ref l) (.ref b)) Q E s:=by
 obtain⟨⟨cls,dd,data,sl⟩,ho,hc,n,hd⟩:=id hl
 obtain⟨⟨cls2,dd2,data2,sl2⟩,ho2,hc2,n2,hd2⟩:=id hb
 simp only at hc hd hc2 hd2
 subst hc hd hc2 hd2
 exact richCompare_meets_room (op:= .Gt) ⟨_,ho,rfl⟩ ⟨_,ho2,rfl⟩ PySem.F.slot_tuple_gt PySem.F.entry_tuple_gt (PySem.F.args_tuple_gt_2 _ _) (vQ l b items items2 n n2 dd dd2 sl sl2 ns ms hi hj)
  ⟨ho,ho2,show oC (lexLt ms ns)≠GU/\Q (.bool (lexLt ms ns)) s from⟨(λx=>nomatch x),h⟩⟩ hu
end
end HT
namespace _L
open PySem PyProof.Rows
section
variable {X:Cx}
noncomputable def Pe(K:av):R2:=λx y H Q =>∃a b ns ms,x = .ref a/\y = .ref b/\SqT K H a (ns.map V.int)/\SqT K H b (ms.map V.int)/\Q (.bl (HT.lexLt ms ns)) H
theorem Ko(hu:X.A.units<cLine):OpR X (compareOp .Gt) (Pe X.K):=by
 intro pins s σ H x y v u Q I rx ry h
 obtain⟨a,b,ns,ms,rfl,rfl,ha,hb,q⟩:=h
 cases rx
 cases ry
 obtain⟨its,r1,p1,_⟩:=I.tuple ha
 obtain⟨its2,r2,p2,_⟩:=I.tuple hb
 have i1:IntsAre its.toArray.toList ns:=intsAre_of r1
 have i2:IntsAre its2.toArray.toList ms:=intsAre_of r2
 exact HT.gt_tupInts p1 p2 i1 i2 hu ⟨.bl (HT.lexLt ms ns),H,I,rfl,q⟩
end
end _L
end
section
namespace PySem
namespace GR
theorem AU:typeLookup (.type "tuple") "__reversed__"=pure none:=by rw [typeLookup_type,builtinLookup_eq_fast];kernel_rfl
theorem yR:isSubtype (.type "tuple") (.type "dict")=pure false:=by rw [isSubtype_type];kernel_rfl
theorem xg:Manifest.owners.lookup (String.ofList ['d','e','s','r','e','v','e','r'].reverse)=some Manifest.sig_reversed:=by kernel_rfl
theorem gI:Slot "reversed" "__next__" "reversed.__next__":=
 .of (owner:="reversed") (n:="__next__") (by rw [typeLookup_type,builtinLookup_eq_fast];kernel_rfl) (by decide +kernel) (by decide +kernel) (by decide +kernel) (by first | exact .inl (by decide +kernel) | exact .inr (by decide +kernel)) (by rw [isSubtype_type];kernel_rfl)
theorem m9:entryFor table "reversed.__next__"=some Builtin.«reversed.__next__»:=entryFor_of_tree (by kernel_rfl)
theorem lV (a:Value):argsOk "reversed.__next__" ⟨[a],[]⟩:=by
 unfold argsOk;rw [signature?_of (id:="reversed.__next__") (n := ['_','_','t','x','e','n','_','_']) (o := ['d','e','s','r','e','v','e','r']) (by kernel_rfl) xg];kernel_rfl
theorem oO:Slot "reversed" "__iter__" "reversed.__iter__":=
 .of (owner:="reversed") (n:="__iter__") (by rw [typeLookup_type,builtinLookup_eq_fast];kernel_rfl) (by decide +kernel) (by decide +kernel) (by decide +kernel) (by first | exact .inl (by decide +kernel) | exact .inr (by decide +kernel)) (by rw [isSubtype_type];kernel_rfl)
theorem sr (a:Value):argsOk "reversed.__iter__" ⟨[a],[]⟩:=by
 unfold argsOk;rw [signature?_of (id:="reversed.__iter__") (n := ['_','_','r','e','t','i','_','_']) (o := ['d','e','s','r','e','v','e','r']) (by kernel_rfl) xg];kernel_rfl
theorem vc:entryFor table "reversed.__iter__"=some Builtin.«dict_keyiterator.__iter__»:=
 entryFor_alias (id':="dict_keyiterator.__iter__") (by kernel_rfl) (by first | rfl | decide +kernel | (unfold String.splitOn;simp +decide [String.splitOnAux])) (by decide +kernel) (by kernel_rfl)
theorem Ca:mroOf (.type "reversed")=pure [.type "reversed",.type "object"]:=by rw [mroOf_type];kernel_rfl
theorem ub:typeLookup (.type "reversed") "__new__"=pure (some (.builtin "reversed.__new__")):=by rw [typeLookup_type,builtinLookup_eq_fast];kernel_rfl
theorem vR:Slot "reversed" "__init__" "object.__init__":=
 .of (owner:="object") (n:="__init__") (by rw [typeLookup_type,builtinLookup_eq_fast];kernel_rfl) (by decide +kernel) (by decide +kernel) (by decide +kernel) (by first | exact .inl (by decide +kernel) | exact .inr (by decide +kernel)) (by rw [isSubtype_type];kernel_rfl)
theorem Ai:TypeCalled "reversed" "reversed.__new__" "object.__init__":=
 ⟨by decide +kernel,by decide +kernel,⟨_,_,Ca⟩,madeBy_type Ca ub (by decide +kernel),by decide +kernel,by rw[isSubtype_type];kernel_rfl,vR⟩
theorem uC (a:Value):checkTypeCall "reversed" ⟨[a],[]⟩=pure ():=by kernel_rfl
theorem vX (a:Value):checkBuiltinCall "reversed.__new__" ⟨[.type "reversed",a],[]⟩=pure ():=by kernel_rfl
theorem vY:entryFor table "reversed.__new__"=some Builtin.«reversed.__new__»:=entryFor_of_tree (by kernel_rfl)
theorem HI:isSubtype (.type "reversed") (.type "reversed")=pure true:=by rw [isSubtype_type];kernel_rfl
theorem yd (a:Value):pI "reversed" ⟨[.type "reversed",a],[]⟩=pure (.type "reversed",[a]):=by
 unfold pI;simp only[isType,HI,pure_bind,iy,d4,if_false]
noncomputable def revT (t:Addr) (i:Int):Obj:={ cls := .type "reversed",data := .fields #[.ref t,rawInt i] }
noncomputable def IsRevT (h:Heap) (a t:Addr) (i:Int):Prop := ∃ o,h.get? a=some o/\o.cls = .type "reversed"/\o.data = .fields #[.ref t,rawInt i]
theorem IsRevT.typeIs {s:Shared}{a t:Addr}{i:Int} (x:IsRevT s.heap a t i):s.TypeIs (.ref a) "reversed":=let ⟨o,ho,hc,_⟩:=x;⟨o,ho,hc⟩
theorem IsRevT.at{h h':Heap}{a t:Addr}{i:Int}(x:IsRevT h a t i)(e: ∀o,h.get? a=some o->h'.get? a=some o):IsRevT h' a t i:=let ⟨o,ho,r⟩:=x;⟨o,e _ ho,r⟩
open PyProof.Rows in
theorem vS (t:Addr) (items:Array Value):Meets (Builtin.«reversed.__new__» ⟨[.type "reversed",.ref t],[]⟩) (fun _ R s=>IsTup s.heap t items/\(items.size:Int) < 2 ^ 63 /\
   R (.ok (.ret (.ref s.heap.objs.size))) { s with heap:=s.heap.push (revT t ((items.size:Int) - 1)),toks:=s.toks+1+1 }):=
 .of_wp λprog w A R s h=>by
  obtain⟨ht,hz,h⟩:=h;unfold Builtin.«reversed.__new__»;refine ae (f9 (yd _) ?_);(try dsimp only);refine ae (f9 (a:=()) (by first | rfl | kernel_rfl) ?_);refine ae (f9 (a:=()) (by first | rfl | kernel_rfl) ?_);(try dsimp only);refine ae (sh ht.typeIs AU ?_);(try dsimp only);refine ae ?_;show aI _ _ (isInstance (.ref t) (.type "dict") >>= _) _ _ s;refine ae (Bj ht.typeIs yR ?_);rw [if_neg bz];show aI _ _ (specialOf (.ref t) (pG "__getitem__") >>= _) _ _ s;refine ae (sh ht.typeIs slot_tuple_getitem.lookup ?_);refine wpAny_ite ?_;rw [if_pos (by decide +kernel)];refine ax ?_;rw [if_neg (by decide)];refine ae (len_tuple ht hz ?_);refine ae (f9 (a:=some (items.size:Int)) rfl ?_);refine ae ?_;unfold Builtin.SmallTypes.newRecord;exact cp (ax ⟨_,rfl,h⟩)
section
variable {prog:Program}{w:World}{A:Around}{E:Value->Shared->Prop}{s:Shared}
open PyProof.Rows
theorem call_rev{t:Addr}{items:Array Value}{Q:Value->Shared->Prop}(ht:IsTup s.heap t items)(hz:(items.size:Int)<2 ^ 63)
  (h:Q (.ref s.heap.objs.size) { s with heap:=s.heap.push (revT t ((items.size:Int) - 1)),toks:=s.toks+1+1 }):aI (model prog w) A (call (.type "reversed") [.ref t]) Q E s:=
 callType_new Ai (by decide) (uC _) (vX _) (λobj=>F.args_object_init_2 obj _) vY (vS t items) ⟨ht,hz,⟨_,aC _ rfl,rfl⟩,h⟩
theorem next_rev_item{it t:Addr}{i:Nat}{items:Array Value}{x:Value}{Q:Option Value->Shared->Prop}(hit:IsRevT s.heap it t (i:Int))(ht:IsTup s.heap t items)(hx:items[i]? = some x)(hz:(items.size:Int)<2 ^ 63)
  (hQ: ∀h',IsRevT h' it t ((i:Int) - 1)->g9 it s.heap h'->Q (some x) { s with heap:=h',toks:=s.toks+1 }):aI (model prog w) A (pyNext (.ref it)) Q E s:=by
 obtain⟨o,ho,hc,hd⟩:=id hit
 have hi:i<items.size:=(kY.mp hx).1
 unfold pyNext;refine ae (wpAny_attempt (jv (name:=pG "__next__") hit.typeIs gI (fT gI hit.typeIs m9 ?_ (lV _))));unfold Builtin.«reversed.__next__»;refine ae (f9 (a:=(bj it,[])) rfl ?_);(try dsimp only);refine ae (ju ho hd (x := .ref t) rfl ?_);refine ae (ju ho hd (x:=rawInt (i:Int)) rfl ?_);show aI _ _ (if (i:Int) < 0 then _ else _) _ _ s;rw [if_neg (by omega)];refine ae (sh ht.typeIs slot_tuple_getitem.lookup ?_);(try dsimp only);rw [if_neg (by simp)];refine ae (wpAny_mkInt ?_);refine ae (wpAny_attempt (getItem_tuple (j:=i) (x:=x) (s:={ s with toks:=s.toks+1 }) ht (by omega) (by omega) ?_ hx ?_))
 ·unfold seqIndex?
  simp
  omega
 ·refine ae (ju (s:={ s with toks:=s.toks+1 }) ho hd (x:=rawInt (i:Int)) rfl ?_);refine ae (GW (s:={ s with toks:=s.toks+1 }) ho hd (by simp) ?_);refine ax ⟨x,rfl,ax (hQ _ ?_ (jo ..))⟩
  exact⟨_,dB _ ho (G7 (lP hd _)),(Obj.cls_mapFields ..).trans hc,by
   rw[lP hd];simp⟩
theorem next_rev_end{it t:Addr}{Q:Option Value->Shared->Prop}(hh:A.handled=none)(hit:IsRevT s.heap it t (-1))
  (hQ: ∀h',Heap.ExtBut it s.heap h'->Q none { s with heap:=h' }):aI (model prog w) A (pyNext (.ref it)) Q E s:=by
 obtain⟨o,ho,hc,hd⟩:=id hit;unfold pyNext;refine ae (wpAny_attempt (jv (name:=pG "__next__") hit.typeIs gI (fT gI hit.typeIs m9 ?_ (lV _))));unfold Builtin.«reversed.__next__»;refine ae (f9 (a:=(bj it,[])) rfl ?_);(try dsimp only);refine ae (ju ho hd (x := .ref t) rfl ?_);refine ae (ju ho hd (x:=rawInt (-1)) rfl ?_);show aI _ _ (if (-1:Int) < 0 then _ else _) _ _ s;rw [if_pos (by decide)];refine ae (yk ?_);refine ae ?_;show aI _ _ (setField (.ref it) 1 (rawInt (-1)) >>= _) _ _ s;refine ae (GW ho hd (by simp) ?_)
 have g1:=dB (h:=s.heap) (a:=it) (Obj.mapFields (·.setIfInBounds 1 (rawInt (-1)))) ho (G7 (lP hd _))
 have d1:=lP hd (·.setIfInBounds 1 (rawInt (-1)))
 refine GW g1 d1 (by simp) ?_;refine ae ?_;show aI _ _ (newExc (.type "StopIteration") [] >>= _) _ _ _;refine ae ?_;simp only [newExc,newTuple];refine ae (cp ?_ (by size_fits));refine ae (m:=firstArgMember _ _) (f9 (a:=jx) (by first | rfl | (simp only [firstArgMember];rfl)) ?_);refine cp ?_ (by size_fits);simp only [raiseNew];refine ae (wpAny_handled ?_)
 first |rw[show A.in1.handled=none from hh] |rw[hh]
 refine ae (ax (wpAny_throw ?_));refine ae (Bj (T:="StopIteration") (b:=true) ⟨_,aC _ rfl,rfl⟩ isSubtype_stop ?_);exact ax (hQ _ ((((jo ..).extBut.trans (jo ..).extBut).push _).push _))
theorem iter_rev{it t:Addr}{i:Int}{Q:Value->Shared->Prop}(hit:IsRevT s.heap it t i)(h:Q (.ref it) s):aI (model prog w) A (pyIter (.ref it)) Q E s:=by
 refine wpAny_pyIter_slot hit.typeIs oO (fT oO hit.typeIs vc ?_ (sr _));show aI _ _ (ret (.ref it)) _ _ s;exact ax ⟨_,rfl,"reversed",_,hit.typeIs,gI.lookup,h⟩
end
end GR
end PySem
namespace _L
open PySem PySem.Spec PyProof.Rows
noncomputable def Itv(K:av)(a:Addr)(n:Nat):It:=
 ⟨λi H =>∃xs x,SqT K H a xs/\xs.length=n/\xs.reverse[i]? = some x,λi H x H'=>H'=H /\ ∀xs,SqT K H a xs->xs.reverse[i]? = some x,λi H =>∃xs,SqT K H a xs/\xs.length=n/\n<=i⟩
theorem E1{P:Program}{w:World}{K:av}{tg:Expr}(a it:Addr)(n:Nat):Turn P w K tg (Itv K a n) [it] it (λi h=>i<=n/\GR.IsRevT h it a ((n:Int) - 1 - (i:Nat))) where
 mem:=by simp
 obj:=λi h st b hb=>by
  have e:b=it:=by simpa using hb
  subst e;obtain⟨_,o,e,c,d⟩:=st;exact⟨o,e,λv z=>by rw[d]at z;cases z⟩
 keep:=λi h h' st k=>⟨st.1,st.2.at λo e=>k it (by simp) o e⟩
 item:=by
  intro X hP hw hK hc i pins s σ H E I hf st hg
  subst hP hw hK;obtain⟨xs,x,hq,hn,hx⟩:=hg;obtain⟨its,rv,p,hz⟩:=I.tuple hq
  have hl:=rv.length
  have hi:i<n:=by have:=(ah.mp hx).1;rw[si]at this;omega
  have hx':xs[n - 1 - i]? = some x:=by
   rw[List.getElem?_reverse (by omega),hn]at hx;exact hx
  obtain⟨u,hu,ru⟩:=rv.get hx';obtain⟨f0,f1,f2,f3,f4,f5⟩:=hf it (by simp)
  have hn63:=pq
  have st1:=st.2
  rw[show(n:Int) - 1 - (i:Nat)=((n - 1 - i:Nat):Int) by omega]at st1
  refine GR.next_rev_item st1 p (x:=u) (by simpa using hu) (by rw[aD];omega) λh' st' sb =>?_
  have I1:Inv X pins σ H { s with heap:=h',toks:=s.toks+1 }:=I.turned (t':=s.toks+1) (λb o hb e=>(sb.2 b hb).trans e) f0 f1 f3 f4 f5
  rw[show((n - 1 - i:Nat):Int) - 1=(n:Int) - 1 - ((i+1:Nat):Int) by omega]at st'
  obtain⟨o,e,c,d⟩:=id st';exact⟨u,rfl,Bq (s:={ s with heap:=h',toks:=s.toks+1 }) e c d (by decide) ⟨x,H,I1,ru,⟨rfl,λys hy=>by rw[I.tuple_inj hy hq];exact hx⟩,⟨by assumption,st'⟩,λb hb=>(hf b hb).1⟩⟩
 done:=by
  intro X hP hw hK hc i pins s σ H E I hf st hg
  subst hP hw hK;obtain⟨xs,hq,hn,hx⟩:=hg;obtain⟨f0,f1,f2,f3,f4,f5⟩:=hf it (by simp)
  have st1:=st.2
  rw[show(n:Int) - 1 - (i:Nat) = -1 by have:=st.1;omega]at st1;exact GR.next_rev_end (I.ok.hd hc) st1 λh' eb=>⟨rfl,I.turned (t':=s.toks) (λb o hb e=>eb b o hb e) f0 f1 f3 f4 f5⟩
 self:=λ_ _ _ _ _ st h=>GR.iter_rev st.2 h
section
variable {X:Cx}{tg:Expr}
noncomputable def yM(K:av)(ta:TA):TI:=λσ H R=>ta σ H λvs H1 =>∃a xs,vs = [.ref a]/\SqT K H1 a xs/\R (Itv K a xs.length) H1
theorem LU {a:Expr}{ta:TA}{p pos:Pos} (hg:Gl X "reversed") (hm:X.mg "reversed"=none) (ha:PA X [a] ta) (hs:autoParam (starEach [a] X.env = [(false,eval a X.env)]) au1._auto_1):PI X tg (.Call (.Name "reversed" p) [a] [] pos) (yM X.K ta):=by
 intro pins s σ H R I h
 refine Call_ (ko I hg hm PyProof.Rows.boot_reversed (cz (thn (ha pos pins s σ H _ I h) λus s1 ⟨vs,H1,I1,r1,q1⟩ =>?_) hs rfl));obtain⟨b,xs,e,hq,q⟩:=q1;subst e
 cases r1 with
 | cons r rr=>
   cases rr
   cases r
   obtain⟨its,rv,pt,hz⟩:=I1.tuple hq
   have hl:=rv.length
   have hn63:=pq
   refine GR.call_rev pt (by rw[aD];omega) ?_
   have I2:Inv X pins σ H1 { s1 with heap:=s1.heap.push (GR.revT b ((its.toArray.size:Int) - 1)),toks:=s1.toks+1+1 }:=I1.kept λb o e=>ar _ e
   have st:GR.IsRevT (s1.heap.push (GR.revT b ((its.toArray.size:Int) - 1))) s1.heap.objs.size b ((xs.length:Int) - 1 - (0:Nat)):=⟨_,aC _ rfl,rfl,by
    show Data.fields #[.ref b,rawInt _]=_;rw[aD,hl];simp⟩
   refine GR.iter_rev st ?_;refine⟨s1.heap.objs.size,[s1.heap.objs.size],_,_,H1,rfl,I2,E1 b _ xs.length,⟨dc _,st⟩,λc hc =>?_,q⟩
   have e:c=s1.heap.objs.size:=by simpa using hc
   subst e;exact I1.fpOk (aq _) (I1.hok.fresh (aq _))
end
end _L
end
section
namespace PySem
namespace GE
open AutoSeq1 (wpAny_loadPart')
section
variable {prog:Program}{w:World}{A:Around}{E:Value->Shared->Prop}{s:Shared}
end
end GE
end PySem
namespace _L
open PySem PySem.Spec PyProof.Rows
section
variable {X:Cx}
end
end _L
end
section
namespace PySem
namespace GE
section
variable {prog:Program}{w:World}{A:Around}{E:Value->Shared->Prop}{s:Shared}
end
section
variable {prog:Program}{w:World}{A:Around}{E:Value->Shared->Prop}{s:Shared}
end
end GE
end PySem
namespace _L
open PySem PySem.Spec PyProof.Rows
section
variable {X:Cx}
end
end _L
end
section
namespace _L
open PySem PyProof.Rows
noncomputable def rE(off:List Addr)(h h':Heap):Prop:= ∀b o,b∉off->h.get? b=some o->h'.get? b=some o
section
variable {prog:Program}{w:World}{A:Around}{E:Value->Shared->Prop}{s:Shared}{I S:Addr}{fp wr:List Addr}{n:Nat}{P:Nat->Value->Prop}{St:Nat->Heap->Prop}{h0:Heap}{v0:Value}{R:Result->Shared->Prop}
noncomputable def Qb (v:Value) (c:Nat):Obj:={ cls := .type "list",dict:=none,data := .seq #[v,v] c,slots := #[] }
theorem Dm(W:Walks prog w A.in1 I fp wr n P St)(hf:S∉fp)
  (N: ∀(j:Nat) (v:Value) (s:Shared) (Q E:Value->Shared->Prop),P j v->rE (S::wr) h0 s.heap->Q (.bool false) s->aI (model prog w) A.in1 (richCompare .Lt v v0) Q E s):
  ∀(k j:Nat) (s:Shared) (c:Nat),j+1+k=n->St (j+1) s.heap->rE (S::wr) h0 s.heap->s.heap.get? S=some (Qb v0 c)->(∀h' tk,rE (S::wr) h0 h'->R (.ok (.ret v0)) { s with heap:=h',toks:=tk }) ->
   md (model prog w) A (.builtin "min.loop" ⟨[.ref I,.none,.ref S],[]⟩) R s:=by
 have hw:S∉wr:=λh=>hf (W.sub _ h)
 have nm:(toString "min"++toString ".loop":String)="min.loop":=by decide
 intro k
 induction k with
 | zero=>
   intro j s c e st hd hS hR;refine cw nE ?_;rw[bK eI _];show aI _ A.in1 (seqItems? (.ref S) >>= _) _ _ s
   refine ae (GX hS rfl ?_);show aI _ A.in1 (tryCatch (pyNext (.ref I)) _ >>= _) _ _ s
   refine ae (vp (W.done s _ _ ((show j+1=n from e)▸st) λh' tk hk =>?_));have hS':=hk S _ hw hS;show aI _ A.in1 (updateSeq S (λ_ => #[]) >>= _) _ _ _
   refine ae ?_;refine sj hS' rfl (ae (wpAny_letGo (ax ?_)))
   exact hR _ _ λb o hb e=>(ck _ _ (λq:S=b=>hb (by rw[q];exact aU))).trans (hk b o (λq=>hb (aw _ q)) (hd b o hb e))
 | succ k ih=>
   intro j s c e st hd hS hR;refine cw nE ?_;rw[bK eI _];show aI _ A.in1 (seqItems? (.ref S) >>= _) _ _ s
   refine ae (GX hS rfl ?_);show aI _ A.in1 (tryCatch (pyNext (.ref I)) _ >>= _) _ _ s
   refine ae (vp (W.item (j+1) s _ _ (by omega) st λv h' tk hP st' hk =>?_));have hS':=hk S _ hw hS
   have hd':rE (S::wr) h0 h':=λb o hb e=>hk b o (λq=>hb (aw _ q)) (hd b o hb e)
   show aI _ A.in1 (tryCatch (holding [v,v] (richCompare .Lt v v0 >>= _)) _ >>= _) _ _ _;refine ae (vp (dI (ae (N (j+1) v _ _ _ hP hd' ?_))))
   refine ae (dI (dE ?_));refine ae (wpAny_letGo (ax ?_));simp only[d4,if_false];refine ae (wpAny_letGo ?_);rw[nm]
   exact ax ⟨plainId_quiet eI _,ih (j+1) _ c (by omega) st' hd' hS' λh'' tk'' hk''=>hR h'' tk'' hk''⟩
theorem Qi{l:Addr}{its:Array Value}{Q:Value->Shared->Prop}(hh:A.handled=none)(hl:s.heap.IsList l its)(e0:its[0]? = some v0)
  (N: ∀(j:Nat) (v:Value) (s':Shared) (Q E:Value->Shared->Prop),its[j]? = some v->rE [] s.heap s'.heap->Q (.bool false) s'->aI (model prog w) A.in1 (richCompare .Lt v v0) Q E s')
  (h : ∀ h' tk,rE [] s.heap h'->Q v0 { s with heap:=h',toks:=tk }):aI (model prog w) A (call (.builtin "min") [.ref l]) Q E s:=by
 have nm:(toString "min"++toString ".loop":String)="min.loop":=by decide
 have lt:l<s.heap.objs.size:=by obtain⟨_,e,_⟩:=hl;exact aG e
 have n0:0<its.size:=(kY.mp e0).1
 refine call_function_tree PySem.F.kind_min PySem.F.plain_min PySem.F.entry_min (PySem.F.args_min1 _) ?_;show aI _ A.in1 (qL "min" ["key","default"] 0 ⟨[],[]⟩ >>= _) _ _ s
 refine ae (f9 (show qL "min" ["key","default"] 0 ⟨[],[]⟩=pure [none,none] from rfl) ?_);refine ae (ax ?_);refine ae (oX hl ?_)
 have lI:l≠s.heap.objs.size:=aT lt
 have W:=Walks.list (prog:=prog) (w:=w) (A:=A.in1) hh s.heap.objs.size l lI its
 have sz:=bA s.heap { cls := .type "list_iterator",data := .fields #[.ref l,.int 0 0] }
 refine ae (cp ?_);rw[nm];refine ax ⟨plainId_quiet eI _,?_⟩
 generalize hs:(s.heap.push { cls := .type "list_iterator",data := .fields #[.ref l,.int 0 0] })=g at sz ⊢
 have gi:g.IsListIter s.heap.objs.size l 0:=hs▸⟨_,aC _ rfl,rfl,rfl⟩
 have gl:g.IsList l its:=hs▸hl.push _
 have gk: ∀b o,s.heap.get? b=some o->g.get? b=some o:=λb o e=>hs▸ar _ e
 have hf:g.objs.size ∉ [s.heap.objs.size,l]:=λq=>by
  rcases aK.mp q with q |q
  ·omega
  ·have z: @Eq Nat g.objs.size l:=bR.mp q
   have lt': @LT.lt Nat _ l s.heap.objs.size:=lt
   omega
 have hw:g.objs.size ∉ [s.heap.objs.size]:=λq=>by have:=bR.mp q;omega
 have st0:=W.frame 0 g (g.push { cls := .type "list",data := .seq #[] 0 }) ⟨gi,gl⟩ fun b _ o e=>ar _ e
 refine cw nE ?_;rw[bK eI _];show aI _ A.in1 (seqItems? (.ref g.objs.size) >>= _) _ _ _
 have hS:(g.push { cls := .type "list",data := .seq #[] 0 }).get? g.objs.size=some { cls := .type "list",dict:=none,data := .seq #[] 0,slots := #[] }:=aC _ rfl
 refine ae (GX hS rfl ?_);show aI _ A.in1 (tryCatch (pyNext (.ref s.heap.objs.size)) _ >>= _) _ _ _
 refine ae (vp (W.item 0 _ _ _ n0 st0 λv h' tk hP st' hk =>?_))
 cases e0.symm.trans (show its[0]? = some v from hP)
 have hS':=hk g.objs.size _ hw hS
 show aI _ A.in1 (updateSeq g.objs.size (λ_ => #[v0,v0]) >>= _) _ _ _;refine ae ?_;refine sj hS' rfl ?_;rw[nm]
 have hold: ∀h'':Heap,rE [g.objs.size,s.heap.objs.size] s.heap h''->rE [] s.heap h'':=λh'' q b o _ e=>q b o (λz=>by
  have lb: @LT.lt Nat _ b s.heap.objs.size:=aG e
  rcases aK.mp z with z |z
  ·have z': @Eq Nat b g.objs.size:=z
   omega
  ·have z': @Eq Nat b s.heap.objs.size:=bR.mp z
   omega) e
 refine ax ⟨plainId_quiet eI _,Dm (h0:=s.heap) W hf (λj v s' Q E hP hd q=>N j v s' Q E hP (hold _ hd) q) (its.size - 1) 0 _ _ (by omega) (W.frame _ _ _ st' λb hb o e =>?_) (λb o hb e =>?_) (dB _ hS' rfl) λh'' tk'' hd =>?_⟩
 ·exact(ck _ _ (λq:g.objs.size=b=>hf (by rw[q];exact hb))).trans e
 ·refine(ck _ _ (λq:g.objs.size=b=>hb (by rw[q];exact aU))).trans (hk b o (λq=>hb (aw _ q)) (ar _ (gk b o e)))
 ·exact h h'' tk'' (hold _ hd)
end
end _L
end
section
namespace _L
open PySem PyProof.Rows
noncomputable def zM(xs:Array Nat):Prop:=xs.toList.Pairwise (· < ·)
theorem zM.lt{xs:Array Nat}(r:zM xs){i j:Nat}(h:i<j)(hj:j<xs.size):xs[i]'(cR h hj)<xs[j]:=by
 have:=(List.pairwise_iff_getElem.mp r) i j (by simpa using cR h hj) (by simpa using hj) h
 simpa using this
theorem vj{xs:Array Nat}(r:zM xs){j:Nat}: ∀(f lo hi:Nat),lo<=hi->hi<=xs.size->hi - lo<=f->(∀i (h:i<xs.size),i<lo->xs[i]<j)->(∀i (h:i<xs.size),hi<=i->j<=xs[i]) ->
  hU xs j f lo hi<=xs.size/\(∀i (h:i<xs.size),i<hU xs j f lo hi->xs[i]<j) /\ ∀i (h:i<xs.size),hU xs j f lo hi<=i->j<=xs[i]
 | 0,lo,hi,h1,h2,h3,a,b=>by
   unfold hU
   have:lo=hi:=by omega
   subst this
   exact⟨h2,a,b⟩
 | f+1,lo,hi,h1,h2,h3,a,b=>by
   unfold hU
   by_cases h:lo<hi
   ·rw[if_pos h]
    dsimp only
    have hm:(lo+hi) / 2<xs.size:=by omega
    have em:xs.getD ((lo+hi) / 2) j=xs[(lo+hi) / 2]:=by simp[Array.getD,hm]
    rw[em]
    by_cases q:xs[(lo+hi) / 2]<j
    ·rw[if_pos q]
     refine vj r f _ _ (by omega) h2 (by omega) (λi hi' hl =>?_) b
     by_cases z:i=(lo+hi) / 2
     ·subst z;exact q
     ·exact cR (r.lt (show i<(lo+hi) / 2 by omega) hm) q
    ·rw[if_neg q]
     refine vj r f _ _ (by omega) (by exact ba (by assumption)) (by omega) a (λi hi' hl =>?_)
     by_cases z:i=(lo+hi) / 2
     ·subst z;exact bX (by assumption)
     ·have:=r.lt (show(lo+hi) / 2<i by omega) hi'
      omega
   ·rw[if_neg h]
    have:lo=hi:=by omega
    subst this
    exact⟨h2,a,b⟩
theorem A0{xs:Array Nat}(r:zM xs)(j:Nat):bV xs j<=xs.size/\(∀i (h:i<xs.size),i<bV xs j->xs[i]<j) /\ ∀i (h:i<xs.size),bV xs j<=i->j<=xs[i]:=
 vj r _ _ _ (dc _) (aq _) (aq _) (λi _ h=>absurd h (Nat.not_lt_zero i)) λi h1 h2=>absurd h1 (Nat.not_lt.mpr h2)
theorem ED{xs:Array Nat}(r:zM xs){j:Nat}(h:xs[bV xs j]? ≠ some j):zM (SetTable.insertAt xs (bV xs j) j):=by
 obtain⟨h1,h2,h3⟩:=A0 r j
 unfold zM
 rw[SetTable.toList_insertAt]
 have rl:xs.toList.Pairwise (· < ·):=r
 have lt: ∀x∈xs.toList.take (bV xs j),x<j:=λx hx=>by
  obtain⟨i,hi,rfl⟩:=sk hx
  rw[hC,cK]at hi
  have:=h2 i (by omega) (by omega)
  simpa using this
 have gt: ∀x∈xs.toList.drop (bV xs j),j<x:=λx hx=>by
  obtain⟨i,hi,rfl⟩:=sk hx
  rw[hJ,cK]at hi
  have hb:bV xs j+i<xs.size:=by omega
  have:=h3 (bV xs j+i) hb (by omega)
  have e:(xs.toList.drop (bV xs j))[i]'(by rw[hJ,cK];exact hi)=xs[bV xs j+i]:=by simp
  rw[e]
  rcases Nat.lt_or_eq_of_le this with z |z
  ·exact z
  ·exfalso
   by_cases i0:i=0
   ·subst i0
    exact h (by rw[Array.getElem?_eq_getElem (by assumption)];simpa using z.symm)
   ·have a:=h3 (bV xs j) (by omega) (aq _)
    have b:=r.lt (show bV xs j<bV xs j+i by omega) hb
    omega
 refine List.pairwise_append.mpr ⟨rl.sublist (vC _ _),tR.mpr ⟨gt,rl.sublist (List.drop_sublist _ _)⟩,λa ha b hb =>?_⟩
 rcases aK.mp hb with rfl |hb
 ·exact lt a ha
 ·exact cR (lt a ha) (gt b hb)
structure jU(t:SetTable)(led:Bool):Prop where
 r:zM t.place
 d:t.dummies = #[]
 l:t.led=led
theorem jU.fresh(led:Bool):jU (.fresh 0 0 led) led:=⟨.nil,rfl,rfl⟩
theorem jU.stand{t:SetTable}{led:Bool}(n:Nat)(h:jU t led):jU (t.standIn n) led:=⟨by
 show(Array.range n).toList.Pairwise (· < ·)
 rw[Array.toList_range];exact DW,rfl,h.l⟩
theorem Ih{t:SetTable}{led:Bool}(h:jU t led)(j:Nat):t.slot j≠.dummy:=by
 have:Ab t.dummies j=false:=by rw[h.d];rfl
 unfold SetTable.slot
 dsimp only
 split
 ·exact λz=>by cases z
 ·rw[this];exact λz=>by cases z
theorem Bc{t:SetTable}{j:Nat}(h:t.slot j = .empty):t.place[bV t.place j]? ≠ some j:=λz=>by
 unfold SetTable.slot at h
 dsimp only at h
 rw[if_pos (by rw[z];exact beq_self_eq_true _)]at h
 cases h
theorem zv{t:SetTable}{led:Bool}(ht:jU t led){hash:Nat->Int}{h:Int}: ∀(f:Nat) (p:SetTable.Probe) {j:Nat}{d:Option Nat},p.dummy=none->z6 t hash h f p=some (.empty j d)->t.slot j = .empty/\d=none
 | 0,p,j,d,_,e=>by cases e
 | f+1,p,j,d,hd,e=>by
   unfold z6 at e
   have adv:(t.advance p).dummy=none:=by unfold SetTable.advance;split <;> exact hd
   split at e
   ·rename_i q;cases e;exact⟨q,hd⟩
   ·rename_i q;exact absurd q (Ih ht _)
   ·split at e
    ·cases e
    ·exact zv ht f _ adv e
theorem CN{t:SetTable}{led:Bool}(ht:jU t led){h:Int}{j:Nat}{b:Bool}(e:t.freeSlot h=some (j,b)):t.place[bV t.place j]? ≠ some j:=by
 unfold SetTable.freeSlot at e
 split at e
 ·rename_i j' d q
  obtain⟨q1,q2⟩:=zv ht _ _ rfl q
  subst q2
  cases e
  exact Bc q1
 ·cases e
theorem jU.put{t:SetTable}{led:Bool}(ht:jU t led){j:Nat}(h:t.place[bV t.place j]? ≠ some j):jU (t.put j).1 led:=by
 refine⟨ED ht.r h,?_,ht.l⟩
 show(if Ab t.dummies j then _ else t.dummies) = #[]
 rw[if_neg (by rw[ht.d];simp[Ab])];exact ht.d
theorem jU.orStand{t:SetTable}{led:Bool}(n:Nat)(h:jU t led):jU (t.orStandIn n) led:=by
 unfold SetTable.orStandIn
 split
 ·exact h
 ·exact h.stand n
theorem jU.lay{t:SetTable}{led:Bool}(ht:jU t led)(es:Array (Int×Value))(h:Int)(x:Value):jU (layNew t es h x).2.1 led:=by
 unfold layNew
 split
 ·rename_i j b e;exact(ht.put (CN ht e)).orStand _
 ·exact ht.stand _
theorem jU.relay{t:SetTable}{led:Bool}(ht:jU t led)(es:Array (Int×Value))(n:Nat):jU (relayAll t es n).2.1 led:=by
 unfold relayAll
 split
 ·rename_i t' order e
  dsimp only
  split
  ·unfold SetTable.relaid SetTable.laid at e
   simp only[bind,Option.bind]at e
   split at e
   ·cases e
   ·cases e
    refine⟨?_,rfl,ht.l⟩
    show List.Pairwise _ _
    rw[List.toList_toArray]
    refine cQ.mpr (List.pairwise_filterMap.mpr (List.pairwise_lt_range.imp λ{a b} hab x hx y hy =>?_))
    obtain⟨_,_,rfl⟩:=fB.mp hx
    obtain⟨_,_,rfl⟩:=fB.mp hy
    exact hab
  ·exact ht.stand _
 ·exact ht.stand _
noncomputable def P5:Value->Int
 | .int i _=>i
 | _=>0
noncomputable def xA (es:Array (Int×Value)) (ep:Nat) (t:SetTable):Obj:={ cls := .type "set",dict:=none,data := .set es ep t,slots := #[] }
structure zh(prog:Program)(w:World)(led:Bool)(ns:List Int)(es:Array (Int×Value))(t:SetTable):Prop where
 fit:t.fits es.size=true
 tab:jU t led
 el:ElemsOf (intKind prog w) es.toList
 sm:es.size<scanBound
 pm:(es.toList.map λe=>P5 e.2).Perm ns
noncomputable def yh(prog:Program)(w:World)(h:Heap)(a:Addr)(led:Bool)(ns:List Int):Prop:= ∃es ep t,h.get? a=some (xA es ep t)/\zh prog w led ns es t
section
variable {prog:Program}{w:World}{A:Around}{E:Value->Shared->Prop}{s:Shared}{led:Bool}{ns:List Int}
theorem zh.len{es:Array (Int×Value)}{t:SetTable}(h:zh prog w led ns es t):es.size=ns.length:=by have:=h.pm.length_eq;simpa using this
theorem zh.int{es:Array (Int×Value)}{t:SetTable}(h:zh prog w led ns es t){e:Int×Value}(he:e∈es.toList): ∃i u,e.2 = .int i u:=by
 obtain⟨⟨k,hk,_⟩,_⟩:=h.el e he
 obtain⟨u,hu⟩:=vm (k:=k) (v:=e.2) hk
 exact⟨k,u,hu⟩
theorem wF{a:Addr}{es es':Array (Int×Value)}{ep:Nat}{t t':SetTable}{Q:Unit->Shared->Prop}(ho:s.heap.get? a=some (xA es ep t))(hz:es'.size<scanBound)
  (h: ∀h',g9 a s.heap h'->h'.get? a=some (xA es' (ep+1) t')->Q () { s with heap:=h' }):aI (model prog w) A (storeSet a es' t') Q E s:=by
 refine wpAny_storeSet_of ho rfl (h _ (jo ..) ?_) (fits_of_scanBound hz)
 have g:=dB (Obj.putSet es' t') ho (by rw[putSet_of es' t' rfl];rfl)
 rw[putSet_of es' t' rfl]at g;exact g
theorem zQ{g:Bool->Sem Unit}(hg: ∀(b:Bool) (s₁:Shared) (Q':Unit->Shared->Prop),Q' () s₁->aI (model prog w) A (g b) Q' E s₁){a:Addr}{es es1:Array (Int×Value)}{ep:Nat}{t t2:SetTable}(ho:s.heap.get? a=some (xA es ep t))(he:zh prog w led ns es1 t2)
  {wd:Bool}{R:Option Bool->Shared->Prop} (h: ∀h',g9 a s.heap h'->yh prog w h' a led ns->R (some true) { s with heap:=h' }):
  aI (model prog w) A (storeSet a es1 t2 >>= λ_=>if (!wd&&t2.tooFull)=true then(g (relayAll t2 es1 (gc es1.size)).2.2 >>= λ_=>storeSet a (relayAll t2 es1 (gc es1.size)).1 (relayAll t2 es1 (gc es1.size)).2.1 >>= λ_=>pure (some true)) else pure (some true)) R E s:=by
 refine ae (wF ho he.sm λh1 s1 g1 =>?_)
 split
 ·have hp:=relayAll_perm t2 es1 (gc es1.size);have hf:=relayAll_fits t2 es1 (gc es1.size);have ht:=he.tab.relay es1 (gc es1.size)
  have hsz:(relayAll t2 es1 (gc es1.size)).1.size=es1.size:=by have:=hp.length_eq;simpa using this
  refine ae (hg _ _ _ (ae (wF g1 (by rw[hsz];exact he.sm) λh2 s2 g2=>ax ?_)))
  exact h h2 (s1.trans s2) ⟨_,_,_,g2,hf,ht,he.el.perm hp,by rw[hsz];exact he.sm,(hp.map _).trans he.pm⟩
 ·exact ax (h h1 s1 ⟨_,_,_,g1,he⟩)
theorem Iz{a:Addr}{i:Int}{u:Tok}{Q:Bool->Shared->Prop}(hS:yh prog w s.heap a led ns)(hr:ns.length+1<scanBound)
  (h: ∀h',g9 a s.heap h'->yh prog w h' a led (if i∈ns then ns else ns++[i]) -> ∀b,Q b { s with heap:=h' }):aI (model prog w) A (setAddHashed a (.int i u) ((intKind prog w).hash i)) Q E s:=by
 obtain⟨es,ep,t,ho,he⟩:=hS
 have hkey:(intKind prog w).is i (.int i u)=true:=intKind_is _ _ _ _
 have hsc:(nC i u).scannable=true:=rfl
 have mem:i∈ns ↔ ∃e∈es.toList,(intKind prog w).is i e.2=true:=by
  rw[<- he.pm.mem_iff,aH]
  constructor
  ·rintro ⟨e,m,q⟩
   obtain⟨j,u',hu⟩:=he.int m
   rw[hu]at q
   have q:j=i:=q
   subst q
   exact⟨e,m,by rw[hu];exact intKind_is _ _ _ _⟩
  ·rintro ⟨e,m,q⟩
   obtain⟨u',hu⟩:=vm (k:=i) (v:=e.2) q
   exact⟨e,m,by rw[hu];rfl⟩
 unfold setAddHashed setAddHashedIn;refine dI (ae (wpAny_setState_of ho rfl he.fit ?_));dsimp only;rw[byScan_of hsc he.sm he.el];simp only[↓reduceIte]
 unfold setAddByScan;refine ae (ae (yk (ae (wpAny_setScan_of hkey ho rfl he.fit he.el ?_))))
 cases hq:List.findIdx? (λe=>(intKind prog w).is i e.2) es.toList with
 | some j=>
   dsimp only
   obtain⟨hj,hpj,_⟩:=dN.mp hq
   have hin:i∈ns:=mem.mpr ⟨es.toList[j],fk hj,hpj⟩
   refine ax (ax ?_)
   rw[if_pos hin]at h
   exact h s.heap (Heap.SameBut.refl a s.heap) ⟨es,ep,t,ho,he⟩ _
 | none=>
   dsimp only
   have hin:i∉ns:=λz=>by
    obtain⟨e,m,q⟩:=mem.mp z
    have:=List.findIdx?_eq_none_iff.mp hq e m
    rw[q]at this;cases this
   rw[if_neg hin]at h
   have hp:=layNew_perm t es ((intKind prog w).hash i) (.int i u);have hf:=layNew_fits t es ((intKind prog w).hash i) (.int i u);have ht:=he.tab.lay es ((intKind prog w).hash i) (.int i u)
   generalize layNew t es ((intKind prog w).hash i) (.int i u)=L at hp hf ht ⊢
   obtain⟨es1,t1,wd,gave⟩:=L
   dsimp only at hp hf ht ⊢
   rw[Array.toList_push]at hp
   have hsz:es1.size=es.size+1:=by have:=hp.length_eq;simpa using this
   have he1:zh prog w led (ns++[i]) es1 t1:=⟨hf,ht,(he.el.push hkey hsc).perm hp,by rw[hsz,he.len];exact hr,(hp.map _).trans (by rw[cj];exact he.pm.append_right _)⟩
   have hg : ∀ (b:Bool) (s₁:Shared) (Q':Unit->Shared->Prop),Q' () s₁->aI (model prog w) A (match b with | true=>rule "set.scan.the-table-gave-way" | false=>pure ()) Q' E s₁:=fun b s₁ Q' q=>by cases b <;> first | exact ax q | exact yk q
   refine ae (hg _ _ _ ?_)
   have fin: ∀h',g9 a s.heap h'->yh prog w h' a led (ns++[i])->Q true { s with heap:=h' }:=λh' x y=>h h' x y _
   split
   ·refine ae ?_;rw[hashByValue_scannable 8 hsc];refine ax ?_
    refine zQ (led:=led) (ns:=ns++[i]) hg ho ?_ λh' x y =>?_
    ·exact he1
    ·dsimp only;exact ax (fin h' x y)
   ·refine ae (ax ?_);simp only[↓reduceIte]
    refine zQ hg ho he1 λh' x y =>?_
    dsimp only;exact ax (fin h' x y)
noncomputable def ddp(l:List Int):List Int:=l.foldl (λacc x=>if x∈acc then acc else acc++[x]) []
theorem Ff(l:List Int)(x:Int):ddp (l++[x])=if x∈ddp l then ddp l else ddp l++[x]:=by unfold ddp;rw[jg];rfl
theorem yJ: ∀(l acc:List Int),(l.foldl (λacc x=>if x∈acc then acc else acc++[x]) acc).length<=acc.length+l.length
 | [],acc=>by simp
 | x::l,acc=>by
   have:=yJ l (if x∈acc then acc else acc++[x])
   have h:(if x∈acc then acc else acc++[x]).length<=acc.length+1:=by split <;> simp
   simp only[yo,bg]
   omega
theorem Bm(l:List Int):(ddp l).length<=l.length:=by have:=yJ l [];simpa [ddp]using this
theorem zL{R:Result->Shared->Prop}{I S:Addr}{fp wr:List Addr}{vs:List Int}{P:Nat->Value->Prop}{St:Nat->Heap->Prop}(W:Walks prog w A.in1 I fp wr vs.length P St)(hf:S∉fp)
  (hv: ∀i v,P i v -> ∃t,v = .int (vs.getD i 0) t) (hb:vs.length+1<scanBound): ∀(k i:Nat) (s:Shared),i+k=vs.length->St i s.heap->yh prog w s.heap S led (ddp (vs.take i)) ->
   (∀ h' tk,rE (S::wr) s.heap h'->yh prog w h' S led (ddp vs)->R (.ok (.ret .none)) { s with heap:=h',toks:=tk })->md (model prog w) A (.builtin "set.update.loop" ⟨[.ref S,.ref I],[]⟩) R s:=by
 have hw:S∉wr:=λh=>hf (W.sub _ h)
 intro k
 induction k with
 | zero=>
   intro i s e st hS hR;refine cw mw ?_;rw[bK fX _];show aI _ A.in1 (pyNext (.ref I) >>= _) _ _ s
   have e:i=vs.length:=e
   subst e
   refine ae (W.done s _ _ st λh' tk hk =>?_);show aI _ A.in1 (ret jx) _ _ _;refine ax (hR h' tk (λb o hb e=>hk b o (λq=>hb (aw _ q)) e) ?_)
   rw[List.take_length]at hS
   obtain⟨es,ep,t,ho,he⟩:=hS
   exact⟨es,ep,t,hk S _ hw ho,he⟩
 | succ k ih=>
   intro i s e st hS hR;refine cw mw ?_;rw[bK fX _];show aI _ A.in1 (pyNext (.ref I) >>= _) _ _ s
   refine ae (W.item i s _ _ (by omega) st λv h' tk hP st' hk =>?_)
   obtain⟨u,rfl⟩:=hv i v hP
   have hS':yh prog w h' S led (ddp (vs.take i)):=by
    obtain⟨es,ep,t,ho,he⟩:=hS
    exact⟨es,ep,t,hk S _ hw ho,he⟩
   have hl:=Bm (vs.take i)
   rw[hC]at hl
   have hi:i<vs.length:=by omega
   have ev:vs.getD i 0=vs[i]:=by simp[List.getD,hi]
   have tk1:ddp (vs.take (i+1))=if vs.getD i 0∈ddp (vs.take i) then ddp (vs.take i) else ddp (vs.take i)++[vs.getD i 0]:=by rw[jh,bw hi,ev];exact Ff _ _
   show aI _ A.in1 (holding [nC (vs.getD i 0) u] (setAdd S (.int (vs.getD i 0) u)) >>= _) _ _ _;refine ae (dI ?_);unfold setAdd;refine dI (ae ((intKind prog w).pyHash (k:=vs.getD i 0) (intKind_is _ _ _ _) ?_))
   refine Iz (led:=led) hS' (by omega) λh2 s2 hS2 b =>?_
   rw[<- tk1]at hS2
   refine ax ⟨plainId_quiet fX _,ih (i+1) _ (by omega) (W.frame _ _ _ st' λb hb o e =>?_) hS2 λh3 tk3 hd hS3=>hR h3 tk3 (λb o hb e=>hd b o hb ?_) hS3⟩
   ·rw[s2.2 b (λq:b=S=>hf (by rw[<- q];exact hb))];exact e
   ·rw[s2.2 b (λq:b=S=>hb (by rw[q];exact aU))];exact hk b o (λq=>hb (aw _ q)) e
theorem Ij (a:Value) {Q₁:Value->Shared->Prop} (h:Q₁ (.ref s.heap.objs.size) { s with heap:=s.heap.push (xA #[] 0 (.fresh 0 0 (!w.params.followText "set-order"))) }):md (model prog w) A (.call (.builtin "set.__new__") ⟨[.type "set",a],[]⟩) (wants Q₁ E) s:=by
 refine DR ?_;show aI _ A.in1 (do checkBuiltinCall "set.__new__" ⟨[.type "set",a],[]⟩;again (.builtin "set.__new__" ⟨[.type "set",a],[]⟩)) _ _ s
 refine ae (f9 (PySem.F.newCall_set_1 a) (ax ⟨plainId_quiet Cn _,cw PySem.F.entry_set_new ?_⟩));rw[bK Cn _];unfold Builtin.«set.__new__» Builtin.Frozenset.newClass
 have hsub:=sub_set_self
 obtain⟨hp,g,d,tk,os⟩:=s;dsimp only;wp_walk;refine wpAny_askSetting (ax ?_);dsimp only;simp only[newObj];refine ae (wpAny_alloc (ax ?_));exact ax h
set_option maxHeartbeats 8000000 in
theorem FA {l:Addr}{T:String}{items:Array Value}{nl:Nat}{vs:List Int}{Q:Value->Shared->Prop} (hT:T="list"\/T="tuple") (hh:A.handled=none) {od:Option Addr}{osl:Array (Option Value)} (hol:s.heap.get? l=some { cls := .type T,dict:=od,data := .seq items nl,slots:=osl }) (hi:IntsAre items.toList vs) (hb:vs.length+1 < scanBound)
  (h : ∀ (h':Heap) (tk:Nat),yh prog w h' s.heap.objs.size (!w.params.followText "set-order") (ddp vs)->rE [] s.heap h'->Q (.ref s.heap.objs.size) { s with heap:=h',toks:=tk }):aI (model prog w) A (call (.type "set") [.ref l]) Q E s:=by
 obtain⟨c,tl,hmro⟩:=PySem.F.called_set.mro
 have hmade:=PySem.F.called_set.made;have hsub:=PySem.F.called_set.sub
 have hvl:items.size=vs.length:=by have:=hi.length;simpa using this
 refine wpAny_call (DR ?_);show aI _ _ (callAny (.type "set") _) _ _ _;refine ax ⟨Code.quiet_builtin _ (by decide +kernel),cw PySem.F.entry_type_call ?_⟩;rw [Around.under_plain (weight_type_call_type "set" [.ref l] []) rfl]
 have h1:=PySem.F.called_set.notType;have h2:=PySem.F.called_set.canCreate;have hct:=PySem.F.typeCall_set_1 (.ref l)
 repeat (any_goals (first |assumption |wp_step))
 generalize hled:(!w.params.followText "set-order")=led at h
 refine iC (Ij (.ref l) (E:=E) (Q₁:=λobj s₁=>obj = .ref s.heap.objs.size/\s₁={ s with heap:=s.heap.push (xA #[] 0 (.fresh 0 0 led)) }) (by rw[hled];exact⟨rfl,rfl⟩)) λr s₁ hr =>?_
 cases r with
 | error e=>exact hr
 | ok fl=>
   cases fl with
   | ret obj=>
     obtain⟨rfl,rfl⟩:=hr
     generalize hg:s.heap.push (xA #[] 0 (.fresh 0 0 led))=g
     have gz:g.objs.size=s.heap.objs.size+1:=by rw[<- hg];exact bA ..
     have hS:g.get? s.heap.objs.size=some (xA #[] 0 (.fresh 0 0 led)):=by rw[<- hg];exact aC _ rfl
     have hk: ∀b o,s.heap.get? b=some o->g.get? b=some o:=λb o e=>by rw[<- hg];exact ar _ e
     have hTS:Ac { s with heap:=g } (.ref s.heap.objs.size) "set":=⟨_,hS,rfl⟩
     have hli:=PySem.F.called_set.init.lookup;have hbi:=PySem.F.called_set.init.bind (.ref s.heap.objs.size)
     repeat (any_goals (first |assumption |wp_step))
     refine iC (codeAny_call_builtin (R:=wants (λr s₂=>r = .none /\ ∃h' tk,s₂={ s with heap:=h',toks:=tk }/\yh prog w h' s.heap.objs.size led (ddp vs)/\rE [] s.heap h') E) PySem.F.called_set.init.plain PySem.F.entry_set_init (check_set_init_1 hTS ?_)) λr₂ s₂ hr₂ =>?_
     ·have hol':=hk _ _ hol
      have hls:isSubtype (.type T) (.type "set")=pure false:=by rcases hT with rfl | rfl <;> first | exact PySem.F.sub_list_set | exact sub_tup_set
      have hlf:isSubtype (.type T) (.type "frozenset")=pure false:=by rcases hT with rfl | rfl <;> first | exact PySem.F.sub_list_frozenset | exact sub_tup_frz
      have hne:(z3 T == z3 "dict")=false:=by rcases hT with rfl | rfl <;> decide
      unfold Builtin.«set.__init__» noKeywords Builtin.Frozenset.updateFrom
      generalize hPI:pyIter=PI
      unfold xA at hS
      wp_walk
      subst hPI
      have lS: @LT.lt Nat _ l s.heap.objs.size:=aG hol
      have lI:l≠g.objs.size:=λq=>by have q': @Eq Nat l g.objs.size:=q;omega
      have hf:s.heap.objs.size ∉ [g.objs.size,l]:=λq=>by
       rcases aK.mp q with q |q
       ·have q': @Eq Nat s.heap.objs.size g.objs.size:=q;omega
       ·have q': @Eq Nat s.heap.objs.size l:=bR.mp q;omega
      have hv: ∀(i:Nat) (v:Value),items[i]? = some v -> ∃t,v = .int (vs.getD i 0) t:=λi v hv=>PyProof.Rows.IntsAre.int_at hi i v (by rw[pH];exact hv)
      have hh3:A.in1.in1.in1.handled=none:=by simp[hh]
      have fr:zh prog w led (ddp []) #[] (.fresh 0 0 led):=⟨rfl,jU.fresh led,λe he=>by simp at he,by decide,by exact .refl _⟩
      have fin: ∀(io:Obj) (h':Heap),rE [s.heap.objs.size,g.objs.size] (g.push io) h'->rE [] s.heap h':=λio h' hd b o _ e=>by
       have lb: @LT.lt Nat _ b s.heap.objs.size:=aG e
       refine hd b o (λq =>?_) (ar _ (hk b o e))
       rcases aK.mp q with q |q
       ·have q': @Eq Nat b s.heap.objs.size:=q;omega
       ·have q': @Eq Nat b g.objs.size:=bR.mp q;omega
      rcases hT with rfl |rfl
      ·have hl1:g.IsList l items:=⟨_,hol',rfl,nl,rfl⟩
       refine oX hl1 (ae (nF ?_))
       have W:=Walks.list (prog:=prog) (w:=w) (A:=A.in1.in1.in1) hh3 g.objs.size l lI items
       rw[hvl]at W
       exact zL (led:=led) W hf hv hb vs.length 0 _ (by omega) ⟨⟨_,aC _ rfl,rfl,rfl⟩,hl1.push _⟩ ⟨_,_,_,ar _ hS,fr⟩ λh' tk hd hS'=>ax (ax ⟨rfl,h',tk,rfl,hS',fin _ h' hd⟩)
      ·have hl1:g.IsTuple l items:=⟨_,hol',rfl,nl,rfl⟩
       refine wpAny_pyIter_tuple hl1 (ae (nF ?_))
       have W:=Walks.tuple (prog:=prog) (w:=w) (A:=A.in1.in1.in1) hh3 g.objs.size l lI items
       rw[hvl]at W
       exact zL (led:=led) W hf hv hb vs.length 0 _ (by omega) ⟨⟨_,aC _ rfl,rfl,rfl⟩,hl1.push _⟩ ⟨_,_,_,ar _ hS,fr⟩ λh' tk hd hS'=>ax (ax ⟨rfl,h',tk,rfl,hS',fin _ h' hd⟩)
     ·cases r₂ with
      | error e=>exact hr₂
      | ok fl₂=>
        cases fl₂ with
        | ret r=>
          obtain⟨rfl,h',tk,rfl,hS',hd⟩:=hr₂
          repeat (any_goals (first |assumption |wp_step))
          exact h _ _ hS' hd
        | _=>exact hr₂.elim
   | _=>exact hr.elim
end
end _L
end
section
namespace PySem
namespace GS
end GS
end PySem
namespace _L
open PySem PyProof.Rows
section
variable {prog:Program}{w:World}{A:Around}{E:Value->Shared->Prop}{s:Shared}{I a:Addr}{es:Array (Int×Value)}{ep:Nat}{t:SetTable}
end
end _L
end
section
namespace _L
open PySem PyProof.Rows
section
variable {prog:Program}{w:World}{A:Around}{E:Value->Shared->Prop}{s:Shared}{I a:Addr}{es:Array (Int×Value)}{ep:Nat}{t:SetTable}
end
end _L
end
section
namespace _L
open PySem PySem.Spec PyProof.Rows
section
variable {κ:Type} [DecidableEq κ]
noncomputable def mU(kvs:List (κ×V))(k:κ):Option V:=(kvs.find? λkv=>decide (kv.1=k)).map (·.2)
noncomputable def putK(kvs:List (κ×V))(k:κ)(v:V):List (κ×V):=
 if (kvs.any λkv=>decide (kv.1=k))=true then kvs.map (λkv=>if kv.1=k then(kv.1,v) else kv) else kvs++[(k,v)]
theorem nr{p:κ×V}{r:List (κ×V)}{k:κ}(e:p.1=k):mU (p::r) k=some p.2:=by simp[mU,cJ,e]
theorem mN{p:κ×V}{r:List (κ×V)}{k:κ}(e: ¬p.1=k):mU (p::r) k=mU r k:=by simp[mU,cJ,e]
theorem y7(k:κ): ∀kvs:List (κ×V),(kvs.any λkv=>decide (kv.1=k))=(mU kvs k).isSome
 | []=>rfl
 | p::r=>by
   rw[ix]
   by_cases e:p.1=k
   ·simp only[nr e,decide_eq_true e,Bool.true_or,G8]
   ·rw[mN e,decide_eq_false e,Bool.false_or];exact y7 k r
theorem mK(kvs:List (κ×V))(k:κ)(v:V):(putK kvs k v).length<=kvs.length+1:=by
 unfold putK
 split
 ·rw[ak];exact dJ _
 ·rw[aV,bg,cg];exact aq _
theorem uc.isSome_eq{o:Option V}{u:Option Value}(r:uc o u):o.isSome=u.isSome:=by
 cases o with
 | none=>cases u with
   | none=>rfl
   | some _=>exact(show False from r).elim
 | some _=>cases u with
   | none=>exact(show False from r).elim
   | some _=>rfl
theorem KV.val{kvs:List (κ×V)}{vs:List (κ×Value)}(r:KV kvs vs)(k:κ):uc (mU kvs k) (valueAt vs k):=by
 unfold KV at r
 induction r with
 | nil=>exact fE
 | @cons p q ps qs h t ih=>
   obtain⟨h1,h2⟩:=h
   by_cases e:p.1=k
   ·have e':q.1=k:=h1.symm.trans e
    have b:valueAt (q::qs) k=some q.2:=by simp[valueAt,cJ,e']
    rw[nr e,b];exact h2
   ·have e': ¬q.1=k:=λz=>e (h1.trans z)
    have b:valueAt (q::qs) k=valueAt qs k:=by simp[valueAt,cJ,e']
    rw[mN e,b];exact ih
theorem KV.any{kvs:List (κ×V)}{vs:List (κ×Value)}(r:KV kvs vs)(k:κ):(kvs.any λkv=>decide (kv.1=k))=vs.any λkv=>decide (kv.1=k):=by
 unfold KV at r
 induction r with
 | nil=>rfl
 | cons h t ih=>rw[ix,ix,ih,h.1]
theorem KV.repl{kvs:List (κ×V)}{vs:List (κ×Value)}(r:KV kvs vs)(k:κ){y:V}{u:Value}(ry:RelV y u):
  KV (kvs.map λkv=>if kv.1=k then(kv.1,y) else kv) (vs.map λkv=>if kv.1=k then(kv.1,u) else kv):=by
 unfold KV at r ⊢
 induction r with
 | nil=>exact .nil
 | @cons p q ps qs h t ih=>
   rw[bE,bE]
   refine .cons ?_ ih
   obtain⟨h1,h2⟩:=h
   by_cases e:p.1=k
   ·rw[if_pos e,if_pos (h1.symm.trans e)];exact⟨h1,ry⟩
   ·rw[if_neg e,if_neg (λz=>e (h1.trans z))];exact⟨h1,h2⟩
theorem KV.put{kvs:List (κ×V)}{vs:List (κ×Value)}(r:KV kvs vs)(k:κ){y:V}{u:Value}(ry:RelV y u):KV (putK kvs k y) (stored vs k u):=by
 unfold putK stored
 rw[r.any k]
 by_cases e:(vs.any λkv=>decide (kv.1=k))=true
 ·rw[if_pos e,if_pos e];exact r.repl k ry
 ·rw[if_neg e,if_neg e];exact Paired.snoc r ⟨rfl,ry⟩
theorem KV.length{kvs:List (κ×V)}{vs:List (κ×Value)}(r:KV kvs vs):kvs.length=vs.length:=Aa r
end
theorem wY{P:Program}{w:World}{k:Key}{u:Value}(r:RelV (kV k) u):(dZ P w).is k u=true:=by
 cases k with
 | inl i=>obtain⟨t,e⟩:=(show ∃t,u=nC i t from r);subst e;exact zg P w i t
 | inr x=>obtain⟨t,e⟩:=(show ∃t,u=wc x t from r);subst e;exact yQ P w x t
theorem wL{P:Program}{w:World}: ∀{ks:List Key}{us:List Value},cy (ks.map kV) us->ItemsAre (dZ P w) ks us
 | [],_,r=>by rw[oY]at r;cases r;exact .nil
 | k::ks,_,r=>by
   rw[bE]at r
   cases r with
   | cons h t=>exact .cons (wY h) (wL t)
abbrev KT(H:Hp):List (List Key×V)->List (List Key×Addr×Value)->Prop:=Paired λp q=>p.1=q.1/\H q.2.1=some (.tup (p.1.map kV))/\RelV p.2 q.2.2
theorem KT.val{H:Hp}{kvs:List (List Key×V)}{xs:List (List Key×Addr×Value)}(r:KT H kvs xs)(k:List Key):uc (mU kvs k) ((atKey xs k).map (·.2)):=by
 induction r with
 | nil=>exact fE
 | @cons p q ps qs h t ih=>
   obtain⟨h1,_,h2⟩:=h
   by_cases e:p.1=k
   ·have e':q.1=k:=h1.symm.trans e
    have b:atKey (q::qs) k=some q.2:=by simp[atKey,cJ,e']
    rw[nr e,b];exact h2
   ·have e': ¬q.1=k:=λz=>e (h1.trans z)
    have b:atKey (q::qs) k=atKey qs k:=by simp[atKey,cJ,e']
    rw[mN e,b];exact ih
theorem KT.repl{H:Hp}{kvs:List (List Key×V)}{xs:List (List Key×Addr×Value)}(r:KT H kvs xs)(k:List Key){y:V}{u:Value}(ry:RelV y u):
  KT H (kvs.map λkv=>if kv.1=k then(kv.1,y) else kv) (xs.map (putAt k u)):=by
 induction r with
 | nil=>exact .nil
 | @cons p q ps qs h t ih=>
   rw[bE,bE]
   refine .cons ?_ ih
   obtain⟨h1,h2,h3⟩:=h
   unfold putAt
   by_cases e:p.1=k
   ·rw[if_pos e,if_pos (h1.symm.trans e)];exact⟨h1,h2,ry⟩
   ·rw[if_neg e,if_neg (λz=>e (h1.trans z))];exact⟨h1,h2,h3⟩
theorem KT.put{H:Hp}{kvs:List (List Key×V)}{xs:List (List Key×Addr×Value)}(r:KT H kvs xs)(k:List Key){b:Addr}{y:V}{u:Value}(hb:H b=some (.tup (k.map kV)))(ry:RelV y u):
  KT H (putK kvs k y) (storedH xs k b u):=by
 have e:(kvs.any λkv=>decide (kv.1=k))=(atKey xs k).isSome:=by
  rw[y7,(r.val k).isSome_eq,lQ]
 unfold putK storedH
 rw[e]
 by_cases q:(atKey xs k).isSome=true
 ·rw[if_pos q,if_pos q];exact r.repl k ry
 ·rw[if_neg q,if_neg q];exact Paired.snoc r ⟨rfl,hb,ry⟩
theorem KT.keeps{H H':Hp}{kvs:List (List Key×V)}{xs:List (List Key×Addr×Value)}(r:KT H kvs xs)(ht: ∀b ys,H b=some (.tup ys)->H' b=some (.tup ys)):KT H' kvs xs:=
 Paired.mapP r λ_ _ z=>⟨z.1,ht _ _ z.2.1,z.2.2⟩
section
variable {P:Program}{w:World}{H:Hp}{h:Heap}{a:Addr}
theorem Kb{u:HO}(ok:HOk P w H h)(e:Rd H a u):eT P w H h a u:=e.ok ok
theorem xb{kvs:List (Key×V)}(ok:HOk P w H h)(e:Rd H a (.dK kvs)):kvs.length<=sizeLine/\(a==sysModules)=false /\ ∃vs,KV kvs vs/\h.DictOf (dZ P w) a vs:=
 show eT P w H h a (.dK kvs) from Kb ok e
theorem J8{kvs:List (Key×V)}(ok:HOk P w H h)(e:H a=some (.dK kvs)):kvs.length<=sizeLine/\(a==sysModules)=false /\ ∃vs,KV kvs vs/\h.DictOf (dZ P w) a vs:=xb ok (.inl e)
theorem vf{ks:List Key}(ok:HOk P w H h)(e:H a=some (.tup (ks.map kV))):(tupleKind (dZ P w)).is h ks a:=by
 obtain⟨_,its,r,⟨o,h1,h2,n,h3⟩,_⟩:=(show eT P w H h a (.tup (ks.map kV)) from ok a _ e)
 exact⟨o,its.toArray,n,h1,h2,h3,by simpa using wL r⟩
theorem y3{kvs:List (List Key×V)}(ok:HOk P w H h)(e:Rd H a (.dT kvs)):kvs.length<=sizeLine/\(a==sysModules)=false /\
  ∃xs,KT H kvs xs/\h.DictOfH (tupleKind (dZ P w)) a xs:=by
 obtain⟨z,y,xs,r,o,es,ep,h1,h2,h3,h4,h5⟩:=(show eT P w H h a (.dT kvs) from Kb ok e)
 refine⟨z,y,xs,r,o,es,ep,h1,h2,h3,h4,λx hx =>?_,h5⟩
 have all: ∀{l:List (List Key×V)}{m:List (List Key×Addr×Value)},KT H l m -> ∀x∈m,(tupleKind (dZ P w)).is h x.1 x.2.1:=by
  intro l m q
  induction q with
  | nil=>intro x hx;exact nomatch hx
  | @cons p q ps qs hq t ih=>
    intro x hx
    rcases aK.mp hx with e |hx
    ·subst e
     exact vf ok (by rw[<- hq.1];exact hq.2.1)
    ·exact ih x hx
 exact all r x hx
theorem OO{kvs:List (List Key×V)}(ok:HOk P w H h)(e:H a=some (.dT kvs)):kvs.length<=sizeLine/\(a==sysModules)=false /\
  ∃xs,KT H kvs xs/\h.DictOfH (tupleKind (dZ P w)) a xs:=y3 ok (.inl e)
end
noncomputable def v5(H:Hp)(a:Addr)(y:V)(r:Option V):Prop:=
 (∃kvs k,Rd H a (.dK kvs)/\y=kV k/\r=mU kvs k) \/ ∃kvs k b,Rd H a (.dT kvs)/\y = .ref b/\H b=some (.tup (k.map kV))/\r=mU kvs k
noncomputable def Du(H:Hp)(a:Addr)(y v:V)(H':Hp):Prop:=
 (∃kvs k,H a=some (.dK kvs)/\y=kV k/\kvs.length<sizeLine/\H'=upd H a (.dK (putK kvs k v))) \/
 ∃kvs k b,H a=some (.dT kvs)/\y = .ref b/\H b=some (.tup (k.map kV))/\kvs.length<sizeLine/\H'=upd H a (.dT (putK kvs k v))
theorem v5.k{H:Hp}{a:Addr}{kvs:List (Key×V)}{k:Key}(e:H a=some (.dK kvs)):v5 H a (kV k) (mU kvs k):= .inl ⟨kvs,k,.inl e,rfl,rfl⟩
theorem v5.t{H:Hp}{a b:Addr}{kvs:List (List Key×V)}{k:List Key}(e:H a=some (.dT kvs))(eb:H b=some (.tup (k.map kV))):v5 H a (.ref b) (mU kvs k):= .inr ⟨kvs,k,b,.inl e,rfl,eb,rfl⟩
theorem Du.k{H:Hp}{a:Addr}{kvs:List (Key×V)}{k:Key}{v:V}(e:H a=some (.dK kvs))(hl:kvs.length<sizeLine):Du H a (kV k) v (upd H a (.dK (putK kvs k v))):= .inl ⟨kvs,k,e,rfl,hl,rfl⟩
theorem Du.t{H:Hp}{a b:Addr}{kvs:List (List Key×V)}{k:List Key}{v:V}(e:H a=some (.dT kvs))(eb:H b=some (.tup (k.map kV)))(hl:kvs.length<sizeLine):
  Du H a (.ref b) v (upd H a (.dT (putK kvs k v))):= .inr ⟨kvs,k,b,e,rfl,eb,hl,rfl⟩
section
variable {X:Cx}{pins:List (Addr×Obj)}{σ:St}{H:Hp}{s:Shared}{a:Addr}{y v:V}{u r:Value}{o:Option V}{A:Around}{E:Value->Shared->Prop}
theorem Inv.big(I:Inv X pins σ H s):sysModules<s.heap.objs.size:=by
 have h:mainGlobals<s.heap.objs.size:=(I.mod.glob.keeps I.bk).lt
 exact cR (by decide) h
theorem Do{Q:Value->Shared->Prop}(hu:A.units+1<cLine)(I:Inv X pins σ H s)(g:v5 H a y (some v))(ry:RelV y u)(h: ∀w' s',Inv X pins σ H s'->RelV v w'->Q w' s'):
  aI (model X.prog X.w) A (getItem (.ref a) u) Q E s:=by
 rcases g with⟨kvs,k,e,ey,l⟩ | ⟨kvs,k,b,e,ey,eb,l⟩
 ·subst ey
  obtain⟨z,hd,vs,rel,dd⟩:=xb I.hok e
  obtain⟨w',hw,rw'⟩:=uc.some_of (v:=v) (o:=valueAt vs k) (by rw[l];exact rel.val k)
  exact wpAny_getItem_of (wY ry) dd.mapOf hw (h w' _ (I.tok _) rw')
 ·subst ey
  cases (show u=bj b from ry)
  obtain⟨z,hd,xs,rel,dd⟩:=y3 I.hok e
  obtain⟨w',hw,rw'⟩:=uc.some_of (v:=v) (o:=(atKey xs k).map (·.2)) (by rw[l];exact rel.val k)
  obtain⟨p,hp,hp2⟩:=fB.mp hw
  refine wpAny_getItem_heap (tupleKind_room_in1 hu) (vf I.hok eb) dd hp ?_
  rw[hp2]
  exact h w' _ (I.tok _) rw'
theorem Qa{Q:Value->Shared->Prop}(hu:A.units+1<cLine)(I:Inv X pins σ H s)(g:v5 H a y o)(ry:RelV y u)(h: ∀s',Inv X pins σ H s'->Q (.bool o.isSome) s'):
  aI (model X.prog X.w) A (compareOp .In u (.ref a)) Q E s:=by
 rcases g with⟨kvs,k,e,ey,l⟩ | ⟨kvs,k,b,e,ey,eb,l⟩
 ·subst ey
  obtain⟨z,hd,vs,rel,dd⟩:=xb I.hok e
  refine wpAny_in_of (wY ry) hd dd.mapOf ?_
  rw[<- (rel.val k).isSome_eq,<- l]
  exact h _ (I.tok _)
 ·subst ey
  cases (show u=bj b from ry)
  obtain⟨z,hd,xs,rel,dd⟩:=y3 I.hok e
  refine wpAny_in_heap (tupleKind_room_in1 hu) (vf I.hok eb) hd dd ?_
  have q:=(rel.val k).isSome_eq
  rw[lQ]at q
  rw[<- q,<- l]
  exact h _ (I.tok _)
theorem Jc{Q:Value->Shared->Prop}(hu:A.units+1<cLine)(I:Inv X pins σ H s)(g:v5 H a y o)(ry:RelV y u)(h: ∀s',Inv X pins σ H s'->Q (.bool (!o.isSome)) s'):
  aI (model X.prog X.w) A (compareOp .NotIn u (.ref a)) Q E s:=by
 rcases g with⟨kvs,k,e,ey,l⟩ | ⟨kvs,k,b,e,ey,eb,l⟩
 ·subst ey
  obtain⟨z,hd,vs,rel,dd⟩:=xb I.hok e
  refine wpAny_notIn_of (wY ry) hd dd.mapOf ?_
  rw[<- (rel.val k).isSome_eq,<- l]
  exact h _ (I.tok _)
 ·subst ey
  cases (show u=bj b from ry)
  obtain⟨z,hd,xs,rel,dd⟩:=y3 I.hok e
  refine wpAny_notIn_heap (tupleKind_room_in1 hu) (vf I.hok eb) hd dd ?_
  have q:=(rel.val k).isSome_eq
  rw[lQ]at q
  rw[<- q,<- l]
  exact h _ (I.tok _)
theorem xX{h':Heap}{t':Nat}{ob:HO}(I:Inv X pins σ H s)(mu:Mut (H a))(hs:g9 a s.heap h')(he: ∃q,h'.get? a=some q)(new:eT X.prog X.w (upd H a ob) h' a ob):
  Inv X pins σ (upd H a ob) { s with heap:=h',toks:=t' }:=
 I.write (x:=a) (e:=a) mu (.inl rfl) (λb q hb z=>(hs.2 b hb).trans z) he new
theorem Gx{P:Program}{w:World}{H':Hp}{h':Heap}{kvs:List (Key×V)}{vs:List (Key×Value)}(z:kvs.length<=sizeLine)(hd:(a==sysModules)=false)(rel:KV kvs vs)(dd:h'.DictOf (dZ P w) a vs):
  eT P w H' h' a (.dK kvs):=⟨z,hd,vs,rel,dd⟩
theorem CZ{H':Hp}{Q:Unit->Shared->Prop}(hu:A.units+1<cLine)(I:Inv X pins σ H s)(g:Du H a y v H')(ry:RelV y u)(rv:RelV v r)(h: ∀s',Inv X pins σ H' s'->Q () s'):
  aI (model X.prog X.w) A (setItem (.ref a) u r) Q E s:=by
 rcases g with⟨kvs,k,e,ey,l,eH⟩ | ⟨kvs,k,b,e,ey,eb,l,eH⟩
 ·subst ey eH
  obtain⟨z,hd,vs,rel,dd⟩:=J8 I.hok e
  have hz:vs.length<=sizeLine:=by rw[<- rel.length];exact z
  have hl:(putK kvs k v).length<=sizeLine:=by have:=mK kvs k v;exact aF (by assumption) (by assumption)
  refine wpAny_setItem_pairs (hsz:=hz) (wY ry) dd λh' dd' hs=>h _ ?_
  have he: ∃q,h'.get? a=some q:=let ⟨q,_,_,hq,_⟩:=dd';⟨q,hq⟩
  exact xX I (by rw[e];exact fE) hs he (Gx hl hd (rel.put k rv) dd')
 ·subst ey eH
  cases (show u=bj b from ry)
  obtain⟨z,hd,xs,rel,dd⟩:=OO I.hok e
  have hz:xs.length<=sizeLine:=by rw[<- Aa rel];exact z
  have hl:(putK kvs k v).length<=sizeLine:=by have:=mK kvs k v;exact aF (by assumption) (by assumption)
  refine wpAny_setItem_heap (hsz:=hz) (tupleKind_room_in1 hu) (vf I.hok eb) dd λh' dd' hs=>h _ ?_
  obtain⟨q,es,ep,hq,h2,h3,h4,_,h5⟩:=dd'
  refine xX I (by rw[e];exact fE) hs ⟨q,hq⟩ ⟨hl,hd,_,(rel.put k eb rv).keeps λc ys ec =>?_,q,es,ep,hq,h2,h3,h4,h5⟩
  rw[bD (pY ec e (λz=>nomatch z))]
  exact ec
end
section
variable {X:Cx}{pins:List (Addr×Obj)}{σ:St}{H:Hp}{s:Shared}{a:Addr}{kvs:List (Key×V)}{k:Key}{u:Value}{A:Around}{E:Value->Shared->Prop}
theorem Eo {Q:Value->Shared->Prop} (I:Inv X pins σ H s) (e:Rd H a (.dK kvs)) (h : ∀ t s',Inv X pins σ H s'->Q (.int kvs.length t) s'):aI (model X.prog X.w) A (call (.builtin "len") [.ref a]) Q E s:=by
 obtain⟨z,hd,vs,rel,dd⟩:=xb I.hok e
 refine call_len_dict hd dd (by rw[<- rel.length];rw[sizeLine_eq]at z;omega) ?_
 rw[<- rel.length]
 exact h _ _ (I.tok _)
end
theorem yw {X:Cx}{pins:List (Addr×Obj)}{σ:St}{H:Hp}{s:Shared}{a:Addr}{y:V}{o:Option V} (I:Inv X pins σ H s) (g:v5 H a y o):s.TypeIs (.ref a) "dict":=by
 rcases g with⟨kvs,k,e,_,_⟩ | ⟨kvs,k,b,e,_,_,_⟩
 ·obtain⟨_,_,vs,_,dd⟩:=xb I.hok e
  exact dd.typeIs
 ·obtain⟨_,_,xs,_,dd⟩:=y3 I.hok e
  exact dd.typeIs
section
variable {X:Cx}{o i e value:Expr}{pos pos' tpos:Pos}{td ty tv:TE}
end
theorem Fi {P:Program}{w:World}{H:Hp} (h:Heap) (hb:sysModules < h.objs.size):eT P w H (h.push { cls := .type "dict",data := .dict #[] }) h.objs.size (.dK []):=
 ⟨dc _,beq_eq_false_iff_ne.mpr (eG (aT hb)),[],.nil,Heap.DictOf.new h⟩
section
variable {X:Cx}{pos:Pos}
end
noncomputable def AY:List (TE×TE)->St->Hp->(List (V×V)->Hp->Prop)->Prop
 | [],_,H,Q=>Q [] H
 | (tk,tv)::r,σ,H,Q=>tk σ H λx H1=>tv σ H1 λy H2=>AY r σ H2 λps H3=>Q ((x,y)::ps) H3
abbrev VV:List (V×V)->List (Value×Value)->Prop:=Paired λp q=>RelV p.1 q.1/\RelV p.2 q.2
noncomputable def PPs(X:Cx)(pos:Pos)(keys:List (Option Expr))(values:List Expr)(trs:List (TE×TE)):Prop:=
 ∀(pins:List (Addr×Obj)) (s:Shared) (σ:St) (H:Hp) (Q:List (V×V)->Hp->Prop),Inv X pins σ H s->AY trs σ H Q ->
  aI (model X.prog X.w) X.A (evalPairs (pairTrees keys values X.env pos)) (λvs s' =>∃ps H',Inv X pins σ H' s'/\VV ps vs/\Q ps H') X.xe s
theorem Jd{X:Cx}{pos:Pos}:PPs X pos [] [] []:=λpins s σ H Q I h=>pairTrees_nil_walk ⟨[],H,I,.nil,h⟩
theorem EK{X:Cx}{pos:Pos}{k v:Expr}{ks:List (Option Expr)}{vs:List Expr}{tk tv:TE}{trs:List (TE×TE)}(hk:PE X k tk)(hv:PE X v tv)(hr:PPs X pos ks vs trs):
  PPs X pos (some k::ks) (v::vs) ((tk,tv)::trs):=λpins s σ H Q I h=>
 pairTrees_cons_walk (thn (hk pins s σ H _ I h) λu s1 ⟨x,H1,I1,rx,q1⟩=>thn (hv pins s1 σ H1 _ I1 q1) λw2 s2 ⟨y,H2,I2,ry,q2⟩=>
  thn (hr pins s2 σ H2 _ I2 q2) λws s3 ⟨ps,H3,I3,rel,q3⟩=>⟨(x,y)::ps,H3,I3,.cons ⟨rx,ry⟩ rel,q3⟩)
noncomputable def rG(kvs more:List (Key×V)):List (Key×V):=more.foldl (λacc kv=>putK acc kv.1 kv.2) kvs
theorem KV.merge: ∀{more:List (Key×V)}{rs:List (Key×Value)}{kvs:List (Key×V)}{vs:List (Key×Value)},KV more rs->KV kvs vs->KV (rG kvs more) (merged vs rs):=by
 intro more rs kvs vs r
 unfold KV at r
 induction r generalizing kvs vs with
 | nil=>intro q;exact q
 | @cons p q ps qs h t ih=>
   intro r0
   have e:KV (putK kvs p.1 p.2) (stored vs q.1 q.2):=by
    have:=r0.put p.1 h.2
    rw[<- h.1];exact this
   exact ih e
theorem oQ: ∀(more kvs:List (Key×V)),(rG kvs more).length<=kvs.length+more.length
 | [],kvs=>by show kvs.length<=kvs.length+0;exact aq _
 | p::r,kvs=>by
   have h1:=oQ r (putK kvs p.1 p.2)
   have h2:=mK kvs p.1 p.2
   show(rG (putK kvs p.1 p.2) r).length<=_
   rw[bg];omega
theorem u9{P:Program}{w:World}: ∀{kvs:List (Key×V)}{ws:List (Value×Value)},VV (kvs.map λkv=>(kV kv.1,kv.2)) ws -> ∃rs,Carries (dZ P w) ws rs/\KV kvs rs
 | [],_,r=>by rw[oY]at r;cases r;exact⟨[],fE,.nil⟩
 | p::kvs,_,r=>by
   rw[bE]at r
   cases r with
   | @cons a b as bs h t=>
     obtain⟨rs,c,q⟩:=u9 (P:=P) (w:=w) t
     obtain⟨b1,b2⟩:=b
     exact⟨(p.1,b2)::rs,⟨wY h.1,rfl,c⟩,.cons ⟨rfl,h.2⟩ q⟩
noncomputable def JO(trs:List (TE×TE)):TE:=λσ H Q =>∀p,H p=none->AY trs σ (upd H p (.dK [])) λps H2=>H2 p=some (.dK []) /\ ∃kvs:List (Key×V),ps=kvs.map (λkv=>(kV kv.1,kv.2))/\kvs.length<=15/\Q (.ref p) (upd H2 p (.dK (rG [] kvs)))
theorem Ii{X:Cx}{pos:Pos}{keys:List (Option Expr)}{values:List Expr}{trs:List (TE×TE)}(h:PPs X pos keys values trs)(hall:keys.all (·.isSome)=true)(hl:keys.length=values.length)(h0:keys≠[])
  (h15:keys.length<=15):PE X (.Dict keys values pos) (JO trs):=by
 intro pins s σ H Q I q
 have hn:=I.hok.fresh (aq s.heap.objs.size)
 have I1:=I.laid (a:=s.heap.objs.size) (o := .dK []) (h':=s.heap.push { cls := .type "dict",data := .dict #[] }) (t':=s.toks) (fun _ _ q=>ar _ q) (aq _) (Fi s.heap I.big)
 refine wpAny_Dict_walk (knd:=dZ X.prog X.w) hall hl h0 h15 (thn (h pins _ σ _ _ I1 (q _ hn)) λws s2 ⟨ps,H2,I2,rel,e,kvs,ep,lk,q2⟩ =>?_)
 subst ep
 obtain⟨rs,c,rk⟩:=u9 (P:=X.prog) (w:=X.w) rel
 obtain⟨z,hd,vs0,r0,dd⟩:=J8 I2.hok e
 cases r0
 refine⟨rs,c,dd,λh' dd' hs=>⟨.ref s.heap.objs.size,_,?_,rfl,q2⟩⟩
 have hz:(rG [] kvs).length<=sizeLine:=by
  have h1:=oQ kvs []
  rw[cg]at h1
  rw[sizeLine_eq];omega
 have he: ∃q,h'.get? s.heap.objs.size=some q:=let ⟨q,_,_,hq,_⟩:=dd';⟨q,hq⟩
 exact xX I2 (by rw[e];exact fE) hs he (Gx hz hd (rk.merge .nil) dd')
structure M1(X:Cx)(o:Expr)(m:Str)(apos:Pos)(e:Expr)(cpos:Pos):Prop where
 base:attributeBase o m X.env (eval o X.env)=eval o X.env
 few:((backTo cpos (starEach [e] X.env)).all (λx => !x.1)&&(backToKw cpos (keywordEach [] X.env)).all (λx=>x.1.isSome)
  && decide (([e]:List Expr).length+([]:List Keyword).length+(if ([]:List Keyword).isEmpty then 0 else 1)<30))=true
 line:(apos.endLine==cpos.line)=true
 trees:backTo cpos (starEach [e] X.env) = [(false,eval e X.env)]
section
variable {X:Cx}{pins:List (Addr×Obj)}{σ:St}{H:Hp}{s:Shared}{a:Addr}{y d:V}{u r:Value}{o:Option V}{A:Around}{E:Value->Shared->Prop}
end
section
variable {X:Cx}{o e f:Expr}{apos cpos:Pos}{td ty tx:TE}
end
section
variable {X:Cx}{pins:List (Addr×Obj)}{σ:St}{H:Hp}{s:Shared}{a:Addr}{kvs:List (Key×V)}{A:Around}{E:Value->Shared->Prop}
end
section
variable {X:Cx}{pins:List (Addr×Obj)}{σ:St}{H:Hp}{s:Shared}{a:Addr}{y:V}{u:Value}{A:Around}{E:Value->Shared->Prop}
end
end _L
namespace _L
open PySem PySem.Spec PyProof.Rows
section
variable {X:Cx}
theorem CK:iq X (.builtin "len") (fun xs H Q => ∃ a kvs,xs = [V.ref a]/\H a=some (.dK kvs)/\Q (.int kvs.length) H):=by
 intro pins s σ H xs us Q I r h
 obtain⟨a,kvs,rfl,ha,q⟩:=h
 obtain⟨u,rfl,ru⟩:=vals1 r
 cases ru
 exact Eo I (.inl ha) λt s' I'=>⟨.int kvs.length,H,I',⟨t,rfl⟩,q⟩
end
section
variable {κ:Type} [DecidableEq κ]
end
end _L
end
section
namespace PySem
open Sem (wp)
noncomputable def jV(env:Env):List (Str×NameKind)->List (Str×Addr)->List (Str×Addr)
 | [],acc=>acc
 | (n,k)::r,acc=>if k==.free then jV env r ((n,(env.cells.lookup n).getD 0)::acc) else jV env r acc
theorem lU{scope:Scope}{env:Env}(h: ∀y∈scope.names,y.2 = .free -> ∃c,env.cells.lookup y.1=some c):closureFor scope env=pure (jV env scope.names []):=by
 simp only[closureFor]
 have go: ∀(names:List (Str×NameKind)) (acc:List (Str×Addr)),(∀y∈names,y.2 = .free -> ∃c,env.cells.lookup y.1=some c) ->
   (forIn (m:=Sem) names acc λx r=>if (x.2==aQ)=true then cellOf env x.1 >>= λa=>pure (dO ((x.1,a)::r)) else pure (dO r))=pure (jV env names acc):=by
  intro names
  induction names with
  | nil=>intro acc _;rfl
  | cons y r ih=>
    intro acc hy
    obtain⟨n,k⟩:=y
    rw[kg]
    by_cases hk:k = .free
    ·subst hk
     obtain⟨c,hc⟩:=hy (n,.free) aU rfl
     have e1:cellOf env n=pure c:=by unfold cellOf;rw[hc]
     have e2:jV env ((n,aQ)::r) acc=jV env r ((n,c)::acc):=by
      show(if (aQ==aQ)=true then _ else _)=_
      rw[if_pos (by decide),hc];rfl
     rw[e2,<- ih _ λz hz=>hy z (aw _ hz)]
     simp only[beq_self_eq_true,if_true,e1]
     rfl
    ·have hb:(k==aQ)=false:=by simpa using hk
     have e2:jV env ((n,k)::r) acc=jV env r acc:=by
      show(if (k==aQ)=true then _ else _)=_
      rw[if_neg (by rw[hb];decide)]
     rw[e2,<- ih _ λz hz=>hy z (aw _ hz)]
     simp only[hb,d4,if_false]
     rfl
 exact(congrArg (λz=>z >>= pure) (go scope.names [] h)).trans rfl
theorem pS{env:Env}: ∀(names:List (Str×NameKind)) (acc:List (Str×Addr)),(∀y∈names,y.2 = .free -> ∃c,env.cells.lookup y.1=some c) -> ∀x c,(jV env names acc).lookup x=some c->env.cells.lookup x=some c\/acc.lookup x=some c
 | [],_,_,_,_,h => .inr h
 | (n,k)::r,acc,hy,x,c,h=>by
   unfold jV at h
   split at h
   ·rename_i hk
    have hk':k = .free:=by simpa using hk
    subst hk'
    obtain⟨d,hd⟩:=hy (n,.free) aU rfl
    rcases pS r _ (λz hz=>hy z (aw _ hz)) x c h with e |e
    ·exact .inl e
    ·rw[aL]at e
     cases hb:x==n with
     | true=>
       rw[hb]at e
       rw[beq_iff_eq.mp hb,hd]
       rw[hd]at e
       exact .inl e
     | false=>rw[hb]at e;exact .inr e
   ·exact pS r acc (λz hz=>hy z (aw _ hz)) x c h
theorem qI{env:Env}{x:Str}: ∀(names:List (Str×NameKind)) (acc:List (Str×Addr)),(names.lookup x=some .free\/(acc.lookup x).isSome=true)->((jV env names acc).lookup x).isSome=true
 | [],_,h=>h.elim (λe=>by cases e) id
 | (y,k)::r,acc,h=>by
   unfold jV
   by_cases hk:(k==.free)=true
   ·rw[if_pos hk]
    refine qI r ((y,(env.cells.lookup y).getD 0)::acc) ?_
    by_cases hy:(x==y)=true
    ·exact .inr (by rw[aL,hy];rfl)
    ·refine h.imp (λe =>?_) λe =>?_
     ·rw[aL]at e;simpa only [hy]using e
     ·rw[aL];simpa only [hy]using e
   ·rw[if_neg hk]
    refine qI r acc ?_
    refine h.imp (λe =>?_) id
    rw[aL]at e
    cases hb:x==y with
    | true=>rw[hb]at e;cases e;exact absurd rfl hk
    | false=>rw[hb]at e;exact e
theorem fj: ∀(names:List (Str×NameKind)) (n:Nat) (acc:List (Str×Addr)),cellsFrom n names acc=cellsFrom n names []++acc
 | [],_,_=>rfl
 | (y,k)::r,n,acc=>by
   unfold cellsFrom
   split
   ·rw[fj r (n+1) ((y,n)::acc),fj r (n+1) [(y,n)],aW];rfl
   ·exact fj r n acc
theorem kn{x:Str}: ∀(names:List (Str×NameKind)) (n:Nat) (acc:List (Str×Addr)) (c:Addr),(cellsFrom n names acc).lookup x=some c->(∃k∈names,k.1=x/\k.2 = .cell)\/acc.lookup x=some c
 | [],_,_,_,h => .inr h
 | (y,k)::r,n,acc,c,h=>by
   unfold cellsFrom at h
   split at h
   ·rename_i hk
    rcases kn r _ _ c h with⟨z,hz,e⟩ |e
    ·exact .inl ⟨z,aw _ hz,e⟩
    ·rw[aL]at e
     cases hb:x==y with
     | true=>exact .inl ⟨(y,k),aU,(beq_iff_eq.mp hb).symm,by simpa using hk⟩
     | false=>rw[hb]at e;exact .inr e
   ·rcases kn r _ _ c h with⟨z,hz,e⟩ |e
    ·exact .inl ⟨z,aw _ hz,e⟩
    ·exact .inr e
section
variable {M:Model}{A:Around}{E:Value->Shared->Prop}{s:Shared}
theorem p5{scope:Scope}{globals:Addr}{cl:List (Str×Addr)}{qual:Str}{env:Env}{Q:Env->Shared->Prop}
  (hQ:Q { scope:=scope,locals:=s.heap.objs.size,globals:=globals,cells:=cellsFrom (s.heap.objs.size+1) scope.names cl,qual:=qual,func:=none,code:=env.code,frame:=env.frame,builtins:=env.builtins }
   { s with heap:=pushCells (s.heap.push { cls := .type "dict",data := .dict #[] }) scope.names }) :
  aI M A (newFunctionEnv scope globals cl [] qual none .none (some env)) Q E s:=by
 simp only[newFunctionEnv,G8,if_true]
 refine ae (wpAny_alloc ?_)
 refine ae (wpAny_layCells _ (λname kind cells=>by cases hkc:kind==cD <;> simp[hkc]) _ _ _ _ ?_)
 rw [show ({ s with heap:=s.heap.push { cls := .type "dict",data := .dict #[] } }:Shared).heap.objs.size=s.heap.objs.size+1 from bA ..]
 exact ax hQ
end
section
variable {prog:Program}{w:World}{A:Around}{R:Result->Shared->Prop}{s:Shared}
theorem mG{elt target iter:Expr}{ifs:List Expr}{scope:Scope}{pos:Pos}{it acc:Value}{env:Env}(I:Nat->Shared->Prop)
  (turn: ∀n s,I n s->aI (model prog w) A (pyNext it) (λr s₁=>match r with
   | none=>R (.ok .next) s₁
   | some v=>aI (model prog w) A (letOwnedTupleGo target it v) (λ_ s₁=>aI (model prog w) A (assign target env v) (λ_ s₂=>
     aI (model prog w) A (forIn ifs true λc r=>if r=true then do let ok <- isTrue c env (eval c env);pure (dO ok) else pure (dO r)) (λok s₃=>
      if ok=true then aI (model prog w) A (eval elt env) (λx s₄=>
       aI (model prog w) A (call (.builtin "list.append") [acc,x]) (fun _ s₅ => ∃ m,m < n/\I m s₅) (fun _ _=>False) s₄) (fun _ _=>False) s₃
      else ∃m,m<n/\I m s₃) (λ_ _=>False) s₂) (λ_ _=>False) s₁) (λ_ _=>False) s₁) (λ_ _=>False) s)
  (n:Nat) (h:I n s):
  md (model prog w) A (.compLoop (.ListComp elt [⟨target,iter,ifs,0⟩] scope pos) 0 it acc env) R s:=by
 refine codeAny_loop rfl I (λn s hI =>?_) n h
 show aI _ A ((compTurn (.ListComp elt [⟨target,iter,ifs,0⟩] scope pos) 0 it acc env).onRaise (λx=>do noteFrame x env;theTreesLotGoes x)) _ _ s
 refine wpAny_noted ?_
 rw[compTurn_list]
 refine ae (wpAny_standAt (ae (dj (turn n s hI) (λr s₁ h₁ =>?_) λ_ _ h'=>h'.elim)))
 cases r with
 | none=>exact ax h₁
 | some v=>
   refine ae (dj h₁ (λ_ s₁ h₁ =>?_) λ_ _ h'=>h'.elim)
   refine ae (dj h₁ (λ_ s₂ h₂=>ae (dj h₂ (λok s₃ h₃ =>?_) λ_ _ h'=>h'.elim)) λ_ _ h'=>h'.elim)
   cases ok with
   | false=>exact ax ⟨rfl,h₃⟩
   | true=>
     exact ae (ae (dj h₃ (λx s₄ h₄=>ae (dj h₄ (λ_ s₅ h₅=>ax (ax ⟨rfl,h₅⟩)) λ_ _ h'=>h'.elim)) λ_ _ h'=>h'.elim))
end
end PySem
end
section
namespace _G
open PySem
section
inductive U where
 | non |bl (b:Bool) |int (i:Int) |str (x:Str) |tup (us:List U) |ref (n:Nat) |obj (a:Addr)
 deriving Inhabited
inductive Cell where
 | lst (us:List U)
 | frz (us:List U)
 | dic (kvs:List (_L.Key×U))
 | dit (f:Bool) (kvs:List (List _L.Key×U))
 deriving Inhabited
abbrev Sto:=List Cell
abbrev Rho:=List (Option U)
abbrev Res(α:Type):=Option (α×Sto)
abbrev ME:=Rho->Sto->Res U
abbrev MT:=Rho->Sto->Res Bool
abbrev MA:=Rho->Sto->Res (List U)
abbrev MF:=List U->Sto->Res U
noncomputable def bnd{α β:Type}(r:Option (α×Sto))(k:α->Sto->Option β):Option β:=match r with
 | none=>none
 | some p=>k p.1 p.2
theorem aE{α β:Type}{a:α}{S:Sto}{k:α->Sto->Option β}:bnd (some (a,S)) k=k a S:=rfl
theorem be{α β:Type}{r:Option (α×Sto)}{k:α->Sto->Option β}{b:β}(h:bnd r k=some b): ∃a S,r=some (a,S)/\k a S=some b:=by
 cases r with
 | none=>cases h
 | some p=>exact⟨p.1,p.2,rfl,h⟩
noncomputable def big:Nat:=16777216
noncomputable def getL(S:Sto)(n:Nat):Option (List U):=match S[n]? with
 | some (.lst us)=>some us
 | some (.frz us)=>some us
 | some (.dic _)=>none
 | some (.dit _ _)=>none
 | none=>none
noncomputable def cut{α:Type}(xs:List α)(lo hi:Option Int):List α:=(xs.drop (HT.sIx xs.length 0 lo)).take (HT.sIx xs.length xs.length hi - HT.sIx xs.length 0 lo)
abbrev F2:=U->U->Sto->Res U
noncomputable def da:F2:=λx y S=>match x,y with
 | .int i,.int j=>some (.int (i+j),S)
 | .tup xs,.tup ys=>if xs.length+ys.length<=big then some (.tup (xs++ys),S) else none
 | _,_=>none
noncomputable def u0:F2:=λx y S=>match x,y with
 | .int i,.int j=>some (.int (i - j),S)
 | _,_=>none
noncomputable def ke(i j:Int):Prop:=(-(2 ^ 64)<i/\i<2 ^ 64)\/(-(2 ^ 64)<j/\j<2 ^ 64)
noncomputable instance(i j:Int):Decidable (ke i j):=cN _
noncomputable def hV:F2:=λx y S=>match x,y with
 | .int i,.int j=>if ke i j then some (.int (i*j),S) else none
 | _,_=>none
noncomputable def ud(j:Int):Prop:=0<j/\j<1073741824
noncomputable instance(j:Int):Decidable (ud j):=cN _
noncomputable def oDiv:F2:=λx y S=>match x,y with
 | .int i,.int j=>if ud j then some (.int (i / j),S) else none
 | _,_=>none
noncomputable def oMod:F2:=λx y S=>match x,y with
 | .int i,.int j=>if 0<j then some (.int (i % j),S) else none
 | _,_=>none
noncomputable def JJ(i j:Int):Prop:=0<=j/\j<=1000000/\i.natAbs<2 ^ 64
noncomputable instance(i j:Int):Decidable (JJ i j):=cN _
noncomputable def xH:F2:=λx y S=>match x,y with
 | .int i,.int j=>if JJ i j then some (.int (i ^ j.toNat),S) else none
 | _,_=>none
noncomputable def GP(p:Int->Int->Bool):F2:=λx y S=>match x,y with
 | .int i,.int j=>some (.bl (p i j),S)
 | _,_=>none
abbrev oLt:F2:=GP λi j=>decide (i<j)
abbrev oLe:F2:=GP λi j=>decide (i<=j)
abbrev oGe:F2:=GP λi j=>decide (j<=i)
noncomputable def d0(S:Sto):U->Option (List U)
 | .tup us=>some us
 | .ref n=>getL S n
 | _=>none
noncomputable def cH{α β:Type}(f:α->Option β):List α->Option (List β)
 | []=>some []
 | x::xs=>(f x).bind λy=>(cH f xs).map λys=>y::ys
noncomputable def toD(S:Sto):Nat->U->Option PyData
 | 0,_=>none
 | _+1,.non=>some .none
 | _+1,.bl b=>some (.bool b)
 | _+1,.int i=>some (.int i)
 | _+1,.str x=>if iY (.str x)=true then some (.str x) else none
 | f+1,.tup us=>(cH (toD S f) us).map .tuple
 | f+1,.ref n=>(getL S n).bind λus=>(cH (toD S f) us).map .list
 | _+1,.obj _=>none
noncomputable def eqU(S:Sto)(x y:U):Option Bool:=(toD S 40 x).bind λa=>(toD S 40 y).map λb=>kC a b
noncomputable def oEq:F2:=λx y S=>(eqU S x y).map λb=>(.bl b,S)
noncomputable def oNe:F2:=λx y S=>(eqU S x y).map λb=>(.bl (!b),S)
noncomputable def keyOf:U->Option _L.Key
 | .int i=>some (.inl i)
 | .str x=>some (.inr x)
 | _=>none
noncomputable def oB{κ:Type} [DecidableEq κ] (kvs:List (κ×U)) (k:κ):Option U:=(kvs.find? λkv=>decide (kv.1=k)).map (·.2)
noncomputable def AD{κ:Type} [DecidableEq κ] (kvs:List (κ×U)) (k:κ) (u:U):List (κ×U):=
 if (kvs.any λkv=>decide (kv.1=k))=true then kvs.map (λkv=>if kv.1=k then(kv.1,u) else kv) else kvs++[(k,u)]
noncomputable def fP(S:Sto):U->Option (List (_L.Key×U))
 | .ref n=>match S[n]? with
   | some (.dic kvs)=>some kvs
   | _=>none
 | _=>none
noncomputable def oIx:F2:=λx y S=>match fP S x with
 | some kvs=>(keyOf y).bind λk=>(oB kvs k).map λu=>(u,S)
 | none=>match y with
   | .int i=>((d0 S x).bind λus=>_L.atI us i).map λu=>(u,S)
   | _=>none
noncomputable def ab(i:Nat):ME:=λρ S=>match ρ[i]? with
 | some (some u)=>some (u,S)
 | _=>none
noncomputable def mC(u:U):ME:=λ_ S=>some (u,S)
noncomputable def m1(f:U->Sto->Res U)(a:ME):ME:=λρ S=>bnd (a ρ S) λx S1=>f x S1
noncomputable def m2(f:F2)(a b:ME):ME:=λρ S=>bnd (a ρ S) λx S1=>bnd (b ρ S1) λy S2=>f x y S2
noncomputable def af:MA:=λ_ S=>some ([],S)
noncomputable def aa(a:ME)(r:MA):MA:=λρ S=>bnd (a ρ S) λx S1=>bnd (r ρ S1) λxs S2=>some (x::xs,S2)
noncomputable def fN(a:MA):ME:=λρ S=>bnd (a ρ S) λxs S1=>if xs.length<=big then some (.tup xs,S1) else none
noncomputable def dz(a:MA):ME:=λρ S=>bnd (a ρ S) λxs S1=>if xs.length<=big then some (.ref S1.length,S1++[.lst xs]) else none
noncomputable def mFn(f:MF)(a:MA):ME:=λρ S=>bnd (a ρ S) λxs S1=>f xs S1
noncomputable def jn:U->Sto->Res U:=λx S=>match x with
 | .int i=>some (.int (-i),S)
 | _=>none
noncomputable def v7(c:MT)(a b:ME):ME:=λρ S=>bnd (c ρ S) λk S1=>if k then a ρ S1 else b ρ S1
noncomputable def wH:Option ME->Rho->Sto->Res (Option Int)
 | none=>λ_ S=>some (none,S)
 | some a=>λρ S=>bnd (a ρ S) λx S1=>match x with
   | .int i=>some (some i,S1)
   | _=>none
noncomputable def mSl(a:ME)(lo hi:Option ME):ME:=λρ S=>bnd (a ρ S) λx S1=>bnd (wH lo ρ S1) λl S2=>bnd (wH hi ρ S2) λh S3=>match x with
 | .tup us=>some (.tup (cut us l h),S3)
 | .ref n=>(getL S3 n).map λus=>(.ref S3.length,S3++[.lst (cut us l h)])
 | _=>none
noncomputable def cOf(a:ME):MT:=λρ S=>bnd (a ρ S) λx S1=>match x with
 | .bl b=>some (b,S1)
 | _=>none
noncomputable def pv(a b:MT):MT:=λρ S=>bnd (a ρ S) λk S1=>if k then b ρ S1 else some (false,S1)
noncomputable def cOr(a b:MT):MT:=λρ S=>bnd (a ρ S) λk S1=>if k then some (true,S1) else b ρ S1
noncomputable def nA(a:MT):MT:=λρ S=>bnd (a ρ S) λk S1=>some (!k,S1)
noncomputable def cTT:MT:=λ_ S=>some (true,S)
inductive Src where
 | imm (us:List U)
 | mut (n:Nat)
 | enl (n:Nat)
 | zlt (n:Nat) (us:List U)
abbrev MI:=Rho->Sto->Option (Src×Sto)
noncomputable def okR(i:Int):Prop:= -(2 ^ 62)<=i/\i<2 ^ 62
noncomputable instance(i:Int):Decidable (okR i):=cN _
noncomputable def bh(i:Int)(n:Nat):List U:=(aB n).map λ(k:Nat) => .int (i+k)
noncomputable def iR1(a:MA):MI:=λρ S=>bnd (a ρ S) λxs S1=>match xs with
 | [.int j]=>if okR j then some (.imm (bh 0 j.toNat),S1) else none
 | _=>none
noncomputable def iR2(a:MA):MI:=λρ S=>bnd (a ρ S) λxs S1=>match xs with
 | [.int i,.int j]=>if okR i/\okR j then some (.imm (bh i (j - i).toNat),S1) else none
 | _=>none
noncomputable def dD(a:ME):MI:=λρ S=>bnd (a ρ S) λx S1=>match x with
 | .tup us=>some (.imm us,S1)
 | .ref n=>(getL S1 n).map λ_=>(.mut n,S1)
 | _=>none
noncomputable def zk(a:MA):MI:=λρ S=>bnd (a ρ S) λxs S1=>match xs with
 | [.tup us]=>some (.imm us.reverse,S1)
 | _=>none
noncomputable def gX(t:MT)(e:ME)(ρ:Rho):List U->List U->Sto->Res (List U)
 | [],acc,S=>some (acc,S)
 | x::xs,acc,S=>bnd (t (ρ++[some x]) S) λk S1=>if k then bnd (e (ρ++[some x]) S1) λy S2=>gX t e ρ xs (acc++[y]) S2 else gX t e ρ xs acc S1
noncomputable def j4(t:MT)(e:ME)(ρ:Rho)(n:Nat):Nat->Nat->List U->Sto->Res (List U)
 | 0,_,_,_=>none
 | f+1,i,acc,S=>(getL S n).bind λus=>match us[i]? with
   | none=>some (acc,S)
   | some x=>bnd (t (ρ++[some x]) S) λk S1=>if k then bnd (e (ρ++[some x]) S1) λy S2=>j4 t e ρ n f (i+1) (acc++[y]) S2 else j4 t e ρ n f (i+1) acc S1
noncomputable def fuel:Nat:=100000
noncomputable def B6(t:MT)(e:ME)(ρ:Rho):Src->Sto->Res (List U)
 | .imm us,S=>gX t e ρ us [] S
 | .mut n,S=>j4 t e ρ n fuel 0 [] S
 | _,_=>none
noncomputable def cm(it:MI)(t:MT)(e:ME):ME:=λρ S=>bnd (it ρ S) λsrc S1=>bnd (B6 t e ρ src S1) λys S2=>if ys.length<big then some (.ref S2.length,S2++[.lst ys]) else none
inductive Fl where
 | nx |rt (u:U) |bk |ct
abbrev MS:=Rho->Sto->Option (Fl×Rho×Sto)
noncomputable def cP:MS:=λρ S=>some (.nx,ρ,S)
noncomputable def bc(a b:MS):MS:=λρ S=>match a ρ S with
 | some (.nx,ρ1,S1)=>b ρ1 S1
 | r=>r
noncomputable def bI(i:Nat)(e:ME):MS:=λρ S=>bnd (e ρ S) λx S1=>some (.nx,ρ.set i (some x),S1)
noncomputable def jH(o i e:ME):MS:=λρ S=>bnd (e ρ S) λx S1=>bnd (o ρ S1) λp S2=>bnd (i ρ S2) λj S3=>match p with
 | .ref n=>match S3[n]? with
   | some (.lst us)=>(match j with
     | .int k=>(_L.ixN us.length k).map λm=>(.nx,ρ,S3.set n (.lst (us.set m x)))
     | _=>none)
   | some (.dic kvs)=>(keyOf j).bind λk=>if kvs.length<big then some (.nx,ρ,S3.set n (.dic (AD kvs k x))) else none
   | _=>none
 | _=>none
noncomputable def du(e:ME):MS:=λρ S=>bnd (e ρ S) λ_ S1=>some (.nx,ρ,S1)
noncomputable def bH(e:ME):MS:=λρ S=>bnd (e ρ S) λx S1=>some (.rt x,ρ,S1)
noncomputable def sIf(c:MT)(a b:MS):MS:=λρ S=>bnd (c ρ S) λk S1=>if k then a ρ S1 else b ρ S1
noncomputable def aft(r:Option (Fl×Rho×Sto))(k:MS):Option (Fl×Rho×Sto):=match r with
 | some (.nx,ρ1,S1)=>k ρ1 S1
 | some (.ct,ρ1,S1)=>k ρ1 S1
 | some (.bk,ρ1,S1)=>some (.nx,ρ1,S1)
 | r=>r
noncomputable def sJ(i:Nat)(b:MS):List U->MS
 | [],ρ,S=>some (.nx,ρ,S)
 | x::xs,ρ,S=>aft (b (ρ.set i (some x)) S) (sJ i b xs)
noncomputable def forL(i:Nat)(b:MS)(n:Nat):Nat->Nat->MS
 | 0,_,_,_=>none
 | f+1,k,ρ,S=>(getL S n).bind λus=>match us[k]? with
   | none=>some (.nx,ρ,S)
   | some x=>aft (b (ρ.set i (some x)) S) (forL i b n f (k+1))
noncomputable def Qv(i:Nat)(b:MS):Src->MS
 | .imm us=>sJ i b us
 | .mut n=>forL i b n fuel 0
 | _=>λ_ _=>none
noncomputable def fH(i:Nat)(it:MI)(b:MS):MS:=λρ S=>bnd (it ρ S) λsrc S1=>Qv i b src ρ S1
noncomputable def whl(c:MT)(b:MS):Nat->MS
 | 0,_,_=>none
 | f+1,ρ,S=>bnd (c ρ S) λk S1=>if k then aft (b ρ S1) (whl c b f) else some (.nx,ρ,S1)
noncomputable def q0(c:MT)(b:MS):MS:=whl c b fuel
noncomputable def run(k n:Nat)(b:MS):MF:=λus S=>if us.length=k then match b (us.map some++cq (n - k) none) S with
  | some (.rt u,_,S1)=>some (u,S1)
  | some (.nx,_,S1)=>some (.non,S1)
  | _=>none
 else none
noncomputable def bJ:MF:=λus S=>match us with
 | [x]=>(match fP S x with
   | some kvs=>some (.int kvs.length,S)
   | none=>(d0 S x).map λxs=>(.int xs.length,S))
 | _=>none
noncomputable def bT:MF:=λus S=>match us with
 | [x]=>(d0 S x).map λxs=>(.tup xs,S)
 | _=>none
noncomputable def zX:MF:=λus S=>match us with
 | [.int i,.int j]=>some (.int (if j > i then j else i),S)
 | _=>none
noncomputable def oA:U->Option Int
 | .int i=>some i
 | _=>none
noncomputable def AN:List Int->Option Int
 | []=>none
 | x::xs=>match AN xs with
   | none=>some x
   | some m=>some (if m<x then m else x)
noncomputable def oGt:F2:=λx y S=>match x,y with
 | .int i,.int j=>some (.bl (decide (j<i)),S)
 | .tup a,.tup b=>(cH oA a).bind λl=>(cH oA b).map λr=>(.bl (HT.lexLt r l),S)
 | _,_=>none
noncomputable def jt:U->Option (List Int)
 | .tup us=>cH oA us
 | _=>none
noncomputable def Mx:List U->Option U
 | []=>none
 | x::xs=>(jt x).bind λa=>(cH jt xs).bind λl=>if (l.all λb => !HT.lexLt b a)=true then some x else none
noncomputable def oy:MF:=λus S=>match us with
 | [.int i,.int j]=>some (.int (if j<i then j else i),S)
 | [.ref n]=>(((getL S n).bind λxs=>(cH oA xs).bind AN).map λm=>(.int m,S)).or (((getL S n).bind Mx).map λu=>(u,S))
 | _=>none
noncomputable def kr(it:MI):ME:=λρ S=>bnd (it ρ S) λsrc S1=>match src with
 | .imm us=>if us.length<=big then some (.ref S1.length,S1++[.lst us]) else none
 | _=>none
noncomputable def j5(it:MI):ME:=λρ S=>bnd (it ρ S) λsrc S1=>match src with
 | .imm us=>if us.length<=big then some (.tup us,S1) else none
 | _=>none
noncomputable def tyU(S:Sto):U->Option String
 | .non=>some "NoneType"
 | .bl _=>some "bool"
 | .int _=>some "int"
 | .str _=>some "str"
 | .tup _=>some "tuple"
 | .ref n=>match S[n]? with
   | some (.lst _)=>some "list"
   | some (.dic _)=>some "dict"
   | _=>none
 | .obj _=>none
noncomputable def Qh(d:PyData):Prop:=d.showable=true/\d.shown.length<=sizeLine
noncomputable def Jb (t T:String):Bool:=t == T||(t == "bool"&&T == "int")
noncomputable def pC(T:String):U->Sto->Res U:=λx S=>(tyU S x).map λt=>(.bl (Jb t T),S)
noncomputable def mML(f:Nat->List U->Sto->Res U)(o:ME)(a:MA):ME:=λρ S=>bnd (o ρ S) λp S1=>match p with
 | .ref n=>(getL S1 n).bind λ_=>bnd (a ρ S1) λxs S2=>f n xs S2
 | _=>none
noncomputable def cU:Nat->List U->Sto->Res U:=λn xs S=>match xs with
 | [x]=>match S[n]? with
   | some (.lst us)=>if us.length<big then some (.non,S.set n (.lst (us++[x]))) else none
   | _=>none
 | _=>none
noncomputable def km:Nat->List U->Sto->Res U:=λn xs S=>match xs with
 | [.int i]=>match S[n]? with
   | some (.lst us)=>if okR i then(_L.ixN us.length i).bind λj=>us[j]?.map λy=>(y,S.set n (.lst (us.eraseIdx j))) else none
   | _=>none
 | _=>none
noncomputable def xq:Nat->List U->Sto->Res U:=λn xs S=>match xs with
 | []=>match S[n]? with
   | some (.lst us)=>us[us.length - 1]?.map λy=>(y,S.set n (.lst us.dropLast))
   | _=>none
 | _=>none
noncomputable def mMT(f:List U->List U->Sto->Res U)(o:ME)(a:MA):ME:=λρ S=>bnd (o ρ S) λp S1=>match p with
 | .tup us=>bnd (a ρ S1) λxs S2=>f us xs S2
 | _=>none
end
end _G
end
section
namespace _L
open PySem PySem.Spec PyProof.Rows
noncomputable def blk(X:Cx)(N':List Str)(scope:Scope)(s₂:Shared)(H₂:Hp)(fp:List Addr):Cx:=
 { X with
  N:=N'
  s₀:=s₂
  H₀:=H₂
  env:={ scope:=relabel scope X.env,locals:=s₂.heap.objs.size+1,globals:=X.env.globals,cells:=cellsFrom (s₂.heap.objs.size+2) scope.names (jV X.env scope.names []),qual:=X.env.qual,func:=none,code:=X.env.code,frame:=X.env.frame,builtins:=X.env.builtins }
  outer:=X.stack
  ex:=fp
  fn:=λx=>scope.names.lookup x==some .cell
  pn:= []
  xe:=λ_ _=>False }
structure jk(X:Cx)(N':List Str)(scope:Scope)(xs:List Str):Prop where
 kind:scope.kind = .function
 nd:(scope.names.map (·.1)).Nodup
 free: ∀y∈scope.names,y.2 = .free->X.env.kindOf y.1=some .cell\/X.env.kindOf y.1=some .free
 own: ∀x∈xs,scope.names.lookup x=some .local\/scope.names.lookup x=some .cell
 ndN:N'.Nodup
 len:N'.length=X.N.length+xs.length
 last: ∀(j:Nat) (x:Str),xs[j]? = some x->N'[X.N.length+j]? = some x
 vis: ∀(i:Nat) (y:Str),i<X.N.length->N'[i]? = some y->(scope.names.lookup y=some .local\/scope.names.lookup y=some .cell\/scope.names.lookup y=some .free)->X.N[i]? = some y/\scope.names.lookup y=some .free
theorem ir{env:Env}: ∀{names:List (Str×NameKind)}{x:Str}{k:NameKind},
  (names.map λ(n,k)=>if (k==aQ&&env.scope.kind==.function&&env.kindOf n==some .cell) then(n,cD) else(n,k)).lookup x=some k ->
  names.lookup x=some k\/(names.lookup x=some .free/\k = .cell)
 | [],_,_,h=>by simp at h
 | (n,k')::r,x,k,h=>by
   have ih:= @ir env r x k
   have h':qN x ((if (k'==aQ&&env.scope.kind==.function&&env.kindOf n==some .cell)=true then(n,cD) else(n,k'))::(r.map λ(n,k)=>if (k==aQ&&env.scope.kind==.function&&env.kindOf n==some .cell) then(n,cD) else(n,k)))=some k:=h
   by_cases hc:(k'==aQ&&env.scope.kind==.function&&env.kindOf n==some .cell)=true
   ·rw[if_pos hc]at h'
    rw[aL]at h' ⊢
    cases hx:x==n with
    | true=>
      rw[hx]at h'
      have hk:k' = .free:=by
       rw[aA,aA]at hc
       simpa using hc.1.1
      subst hk
      exact .inr ⟨rfl,(bx h').symm⟩
    | false=>rw[hx]at h';exact ih h'
   ·rw[if_neg hc]at h'
    rw[aL]at h' ⊢
    cases hx:x==n with
    | true=>rw[hx]at h';exact .inl h'
    | false=>rw[hx]at h';exact ih h'
theorem lx{env:Env}: ∀{names:List (Str×NameKind)}{x:Str},names.lookup x=some .cell ->
  (names.map λ(n,k)=>if (k==aQ&&env.scope.kind==.function&&env.kindOf n==some .cell) then(n,cD) else(n,k)).lookup x=some .cell
 | [],_,h=>by simp at h
 | (n,k')::r,x,h=>by
   have ih:= @lx env r x
   show qN x ((if (k'==aQ&&env.scope.kind==.function&&env.kindOf n==some .cell)=true then(n,cD) else(n,k'))::_)=_
   rw[aL]at h
   cases hx:x==n with
   | true=>
     rw[hx]at h
     cases h
     simp[aL,hx]
   | false=>
     rw[hx]at h
     by_cases hc:(k'==aQ&&env.scope.kind==.function&&env.kindOf n==some .cell)=true
     ·rw[if_pos hc];simp only[aL,hx];exact ih h
     ·rw[if_neg hc];simp only[aL,hx];exact ih h
theorem lG{env:Env}: ∀{names:List (Str×NameKind)}{x:Str},names.lookup x=some .free ->
  (names.map λ(n,k)=>if (k==aQ&&env.scope.kind==.function&&env.kindOf n==some .cell) then(n,cD) else(n,k)).lookup x=some .cell \/
  (names.map λ(n,k)=>if (k==aQ&&env.scope.kind==.function&&env.kindOf n==some .cell) then(n,cD) else(n,k)).lookup x=some .free
 | [],_,h=>by simp at h
 | (n,k')::r,x,h=>by
   have ih:= @lG env r x
   show qN x ((if (k'==aQ&&env.scope.kind==.function&&env.kindOf n==some .cell)=true then(n,cD) else(n,k'))::_)=_\/qN x ((if (k'==aQ&&env.scope.kind==.function&&env.kindOf n==some .cell)=true then(n,cD) else(n,k'))::_)=_
   rw[aL]at h
   by_cases hc:(k'==aQ&&env.scope.kind==.function&&env.kindOf n==some .cell)=true
   ·rw[if_pos hc]
    cases hx:x==n with
    | true=>exact .inl (by simp[aL,hx])
    | false=>
      rw[hx]at h
      simp only[aL,hx];exact ih h
   ·rw[if_neg hc]
    cases hx:x==n with
    | true=>rw[hx]at h;cases h;exact .inr (by simp[aL,hx])
    | false=>
      rw[hx]at h
      simp only[aL,hx];exact ih h
theorem pZ{env:Env}: ∀{names:List (Str×NameKind)}{x:Str},names.lookup x=some .globalImplicit ->
  (names.map λ(n,k)=>if (k==aQ&&env.scope.kind==.function&&env.kindOf n==some .cell) then(n,cD) else(n,k)).lookup x=some .globalImplicit
 | [],_,h=>by simp at h
 | (n,k')::r,x,h=>by
   have ih:= @pZ env r x
   show qN x ((if (k'==aQ&&env.scope.kind==.function&&env.kindOf n==some .cell)=true then(n,cD) else(n,k'))::_)=_
   rw[aL]at h
   cases hx:x==n with
   | true=>
     rw[hx]at h
     cases h
     simp[aL,hx]
   | false=>
     rw[hx]at h
     by_cases hc:(k'==aQ&&env.scope.kind==.function&&env.kindOf n==some .cell)=true
     ·rw[if_pos hc];simp only[aL,hx];exact ih h
     ·rw[if_neg hc];simp only[aL,hx];exact ih h
theorem nL: ∀{names:List (Str×NameKind)}{x:Str}{k:NameKind},(names.map (·.1)).Nodup->(x,k)∈names->names.lookup x=some k
 | [],_,_,_,h=>by simp at h
 | (n,k')::r,x,k,nd,h=>by
   rw[bE,eC]at nd
   rw[aL]
   rcases aK.mp h with e |h2
   ·cases e;simp
   ·have hne:x≠n:=by
     intro e
     subst e
     exact nd.1 (aH.mpr ⟨(x,k),h2,rfl⟩)
    have hb:(x==n)=false:=beq_eq_false_iff_ne.mpr hne
    rw[hb]
    exact nL nd.2 h2
theorem kT{X:Cx}{scope:Scope}{n:Nat}(hf: ∀y∈scope.names,y.2 = .free -> ∃c,X.env.cells.lookup y.1=some c){x:Str}{c:Addr}
  (h:(cellsFrom n scope.names (jV X.env scope.names [])).lookup x=some c):(cellsFrom n scope.names []).lookup x=some c\/X.env.cells.lookup x=some c:=by
 rw[fj,iE]at h
 cases q:(cellsFrom n scope.names []).lookup x with
 | some d=>rw[q]at h;exact .inl h
 | none=>
   rw[q]at h
   have h':(jV X.env scope.names []).lookup x=some c:=h
   rcases pS scope.names [] hf x c h' with e |e
   ·exact .inr e
   ·cases e
section
variable {X:Cx}{pins:List (Addr×Obj)}{σ:St}{H₂:Hp}{s₂:Shared}{N':List Str}{scope:Scope}{xs:List Str}{fp:List Addr}
theorem jk.frees(C:jk X N' scope xs)(ok:X.Ok): ∀y∈scope.names,y.2 = .free -> ∃c,X.env.cells.lookup y.1=some c:=λy hy e=>ok.has y.1 (C.free y hy e)
theorem Jm(C:jk X N' scope xs){y:Str}{n:Nat}(h:scope.names.lookup y=some .cell\/scope.names.lookup y=some .free): ∃c,(cellsFrom n scope.names (jV X.env scope.names [])).lookup y=some c:=by
 refine ic.mp (iN scope.names n _ ?_)
 rcases h with h |h
 ·exact .inl h
 ·exact .inr (qI scope.names [] (.inl h))
theorem LO(I:Inv X pins σ H₂ s₂)(C:jk X N' scope xs)(hfp: ∀b∈fp,xP X pins H₂ b)(hlt: ∀b∈fp,b<s₂.heap.objs.size):(blk X N' scope s₂ H₂ fp).Ok:=by
 have own: ∀y c,(cellsFrom (s₂.heap.objs.size+2) scope.names []).lookup y=some c->s₂.heap.objs.size+2<=c:=λy c h=>by
  have ok:=cellsFrom_ok scope.names ((s₂.heap.push default).push default) (s₂.heap.objs.size+2) [] ⟨λ_ _ hm=>(nomatch hm),hX⟩ (by rw[bA,bA];exact aq _)
  rw[bA,bA]at ok
  exact(ok.empty y c (b0 h)).2
 have apart:(cellsFrom (s₂.heap.objs.size+2) scope.names []).Pairwise λx y=>x.2≠y.2:=by
  have ok:=cellsFrom_ok scope.names ((s₂.heap.push default).push default) (s₂.heap.objs.size+2) [] ⟨λ_ _ hm=>(nomatch hm),hX⟩ (by rw[bA,bA];exact aq _)
  rw[bA,bA]at ok
  exact ok.apart
 have old: ∀y c,X.env.cells.lookup y=some c->c<s₂.heap.objs.size:=λy c h=>by obtain⟨v,z⟩:=I.cell y c h;exact z.lt
 refine⟨I.ok.mod,C.kind,I.ok.glob,I.ok.blt,dJ _,λy z c h1 h2 =>?_,λy hy =>?_,λy c hy h =>?_,I.ok.hd,I.ok.frames,.inl rfl,λb hb=>⟨?_,λy c h z =>?_⟩,I.bs,aF I.ok.bsz I.sz,λb o e hb =>?_,λb hb z =>?_,I.stack,I.stkFree⟩
 ·rcases kT (C.frees I.ok) h1 with a |a <;> rcases kT (C.frees I.ok) h2 with b |b
  ·exact name_of_addr apart (b0 a) (b0 b)
  ·exact absurd (ai (old z c b) (aF (dm _ 2) (own y c a))) (cf _)
  ·exact absurd (ai (old y c a) (aF (dm _ 2) (own z c b))) (cf _)
  ·exact I.ok.inj y z c a b
 ·have hy:(relabel scope X.env).names.lookup y=some .cell\/(relabel scope X.env).names.lookup y=some .free:=hy
  refine Jm C ?_
  rcases hy with hy |hy
  ·rcases ir hy with e | ⟨e,_⟩
   ·exact .inl e
   ·exact .inr e
  ·rcases ir hy with e | ⟨e,_⟩
   ·exact .inr e
   ·exact .inr e
 ·have hy':scope.names.lookup y=some .cell:=by simpa [blk]using hy
  have h':(cellsFrom (s₂.heap.objs.size+2) scope.names (jV X.env scope.names [])).lookup y=some c:=h
  rw[fj,iE]at h'
  have q:=ic.mp (iN scope.names (s₂.heap.objs.size+2) [] (.inl hy'))
  obtain⟨d,hd⟩:=q
  rw[hd]at h'
  have e:d=c:=bx h'
  subst e
  have:=own y d hd
  show s₂.heap.objs.size<=d
  omega
 ·have:=hlt b hb
  exact aT (dU this)
 ·have:=hlt b hb
  rcases kT (C.frees I.ok) h with a |a
  ·exact absurd (ai this (aF (dm _ 2) (z▸own y c a))) (cf _)
  ·exact(hfp b hb).2.2.2.2.1 y c a z
 ·have z:=(hfp b hb).2.2.2.1
  rcases z with z |z
  ·exact I.ok.noex b o e z
  ·exact absurd (ai (aG e) (aF I.ok.bsz z)) (cf _)
 ·rcases aK.mp (I.stkSub b z) with e |e
  ·exact(hfp b hb).2.1 e
  ·exact(hfp b hb).2.2.1 e
theorem Dv(I:Inv X pins σ H₂ s₂)(C:jk X N' scope xs)(hfp: ∀b∈fp,xP X pins H₂ b)(hlt: ∀b∈fp,b<s₂.heap.objs.size){lo do':Obj}(hdo:do'.data = .dict #[])(hdo2:do'.isFreed=false)(hlo:lo.isFreed=false):
  Inv (blk X N' scope s₂ H₂ fp) [] (σ++cq xs.length none) H₂ { s₂ with heap:=pushCells ((s₂.heap.push lo).push do') scope.names }:=by
 have sz:((s₂.heap.push lo).push do').objs.size=s₂.heap.objs.size+2:=by rw[bA,bA]
 have okc:=cellsFrom_ok scope.names ((s₂.heap.push lo).push do') (s₂.heap.objs.size+2) [] ⟨λ_ _ hm=>(nomatch hm),hX⟩ (by rw[sz];exact aq _)
 rw[sz]at okc
 have kp: ∀b o,s₂.heap.get? b=some o->(pushCells ((s₂.heap.push lo).push do') scope.names).get? b=some o:=λb o e=>pushCells_keeps _ _ b o (ar _ (ar _ e))
 have hL:(pushCells ((s₂.heap.push lo).push do') scope.names).get? (s₂.heap.objs.size+1)=some do':=pushCells_keeps _ _ _ _ (by
  have e:s₂.heap.objs.size+1=(s₂.heap.push lo).objs.size:=by rw[bA]
  rw[e];exact aC _ hdo2)
 refine⟨LO I C hfp hlt,rfl,I.bare,Un.kept kp,⟨λ_=>none,⟨do',#[],_,hL,hdo,λe he=>by simp at he,λ_=>rfl⟩,λi y v h1 h2 h3 =>?_⟩,λy c h =>?_,I.hok.fresh (dJ _),λy c h =>?_,λp hp=>absurd (show p∈([]:List (Addr×Obj)) from hp) (by simp),I.hok.kept kp,?_⟩
 ·have hi:i<X.N.length:=by
   by_cases hi:i<X.N.length
   ·exact hi
   ·rw[az (by rw[I.len];exact bX (by assumption)),iO]at h2
    split at h2 <;> simp at h2
  rw[aS (by rw[I.len];exact hi)]at h2
  have hv:scope.names.lookup y=some .local\/scope.names.lookup y=some .cell\/scope.names.lookup y=some .free:=by
   rcases h3 with h3 |h3 |h3 <;> rcases ir h3 with e | ⟨e,e'⟩
   ·exact .inl e
   ·cases e'
   ·exact .inr (.inl e)
   ·exact .inr (.inr e)
   ·exact .inr (.inr e)
   ·cases e'
  obtain⟨hN,hfr⟩:=C.vis i y hi h1 hv
  have hmem:(y,aQ)∈scope.names:=b0 hfr
  have hk:=C.free _ hmem rfl
  have vis:Vis X.env.scope y:= .inr hk
  obtain⟨m,hn,hl⟩:=I.loc
  obtain⟨u,r,l⟩:=hl i y v hN h2 vis
  refine⟨u,r,.inr ⟨lG hfr,?_⟩⟩
  rcases l with⟨hk',_⟩ | ⟨_,c,hc,hcell⟩
  ·rcases hk with hk |hk
   ·rw[hk]at hk';cases hk'
   ·rw[hk]at hk';cases hk'
  ·have nown:(cellsFrom (s₂.heap.objs.size+2) scope.names []).lookup y=none:=by
    cases q:(cellsFrom (s₂.heap.objs.size+2) scope.names []).lookup y with
    | none=>rfl
    | some d=>
      rcases kn scope.names _ _ d q with⟨z,hz,e1,e2⟩ |e
      ·obtain⟨z1,z2⟩:=z
       simp only at e1 e2
       subst e1;subst e2
       exact absurd (nL C.nd hz) (by rw[hfr];simp)
      ·cases e
   obtain⟨d,hd⟩:=ic.mp (qI (env:=X.env) (x:=y) scope.names [] (.inl hfr))
   have hd':X.env.cells.lookup y=some d:=by
    rcases pS scope.names [] (C.frees I.ok) y d hd with e |e
    ·exact e
    ·cases e
   rw[hc]at hd';cases hd'
   refine⟨c,?_,hcell.keeps kp⟩
   show(cellsFrom (s₂.heap.objs.size+2) scope.names (jV X.env scope.names [])).lookup y=some c
   rw[fj,iE,nown]
   exact hd
 ·rcases kT (C.frees I.ok) h with a |a
  ·exact⟨none,(okc.empty y c (b0 a)).1⟩
  ·obtain⟨v,z⟩:=I.cell y c a
   exact⟨v,z.keeps kp⟩
 ·rcases kT (C.frees I.ok) h with a |a
  ·exact I.hok.fresh (aF (dm _ 2) (okc.empty y c (b0 a)).2)
  ·exact I.freeC y c a
 ·show(σ++cq xs.length none).length=N'.length
  rw[aV,pL,I.len,C.len]
end
noncomputable def PTs(X:Cx)(ifs:List Expr)(t:TT):Prop:=
 ∀(pins:List (Addr×Obj)) (s:Shared) (σ:St) (H:Hp) (Q:Bool->Hp->Prop),Inv X pins σ H s->t σ H Q ->
  aI (model X.prog X.w) X.A (forIn ifs true λc r=>if r=true then do let ok <- isTrue c X.env (eval c X.env);pure (dO ok) else pure (dO r)) (TP X pins σ Q) X.xe s
theorem Jg{X:Cx}:PTs X [] (λ_ H Q=>Q true H):=λpins s σ H Q I h=>by
 rw[List.forIn_nil]
 exact ax ⟨H,I,h⟩
theorem Ic{X:Cx}{c:Expr}{t:TT}(h:PT X c t):PTs X [c] t:=λpins s σ H Q I q=>by
 rw[kg]
 simp only[if_true]
 refine ae (ae (thn (h pins s σ H Q I q) λb s1 e=>ax ?_))
 show aI _ _ (forIn [] b _) _ _ _
 rw[List.forIn_nil]
 exact ax e
noncomputable def pX(wi:TI)(tt:TT)(te:TE):TE:=λσ H Q=>wi σ H λJ H1 =>∃W:Nat->Nat->List V->Hp->Prop,(∃m,W 0 m [] H1) /\ ∀i m ys H,W i m ys H->ys.length<sizeLine /\
 ((J.stop i H /\ ∀D,H D=none->Q (.ref D) (upd H D (.lst ys))) \/
  (J.go i H /\ ∀x H',J.yld i H x H'->tt (σ++[some x]) H' λb H3=>if b=true then te (σ++[some x]) H3 λy H4 =>∃m',m'<m/\W (i+1) m' (ys++[y]) H4 else ∃m',m'<m/\W (i+1) m' ys H3))
theorem HOk.track{P:Program}{w:World}{H:Hp}{h:Heap}{a:Addr}{o:HO}(x:HOk P w H h)(hn:H a=none)(new:eT P w (upd H a o) h a o):HOk P w (upd H a o) h:=λb u e=>by
 by_cases hb:b=a
 ·subst hb;rw[dh]at e;cases e;exact new
 ·rw[bD hb]at e
  exact(x b u e).stay (λc v _ q=>q) (λc q=>by rw[bD (bG q hn)];exact q) λc xs q=>by rw[bD (bG q hn)];exact q
theorem HOk.but{P:Program}{w:World}{H:Hp}{h h':Heap}{a:Addr}(x:HOk P w H h)(hn:H a=none)(k: ∀b o,b≠a->h.get? b=some o->h'.get? b=some o):HOk P w H h':=λb u e=>by
 refine(x b u e).stay (λc v hc q=>k c v ?_ q) (λ_ q=>q) λ_ _ q=>q
 rcases hc with rfl |hc
 ·exact bG e hn
 ·exact bG hc hn
noncomputable def Lx(gT:V->Hp->(St->Hp->Prop)->Prop)(wi:TI)(tt:TT)(te:TE):TE:=λσ H Q=>wi σ H λJ H1 =>∃W:Nat->Nat->List V->Hp->Prop,(∃m,W 0 m [] H1) /\ ∀i m ys H,W i m ys H->ys.length<sizeLine /\
 ((J.stop i H /\ ∀D,H D=none->Q (.ref D) (upd H D (.lst ys))) \/
  (J.go i H /\ ∀x H',J.yld i H x H'->gT x H' λτ H2=>tt (σ++τ) H2 λb H3=>if b=true then te (σ++τ) H3 λy H4 =>∃m',m'<m/\W (i+1) m' (ys++[y]) H4 else ∃m',m'<m/\W (i+1) m' ys H3))
noncomputable def gT1:V->Hp->(St->Hp->Prop)->Prop:=λv H Q=>Q [some v] H
section
variable {X:Cx}{N':List Str}{scope:Scope}{x:Str}{xs:List Str}{tg:Expr}{gT:V->Hp->(St->Hp->Prop)->Prop}{px pos:Pos}{elt iter:Expr}{ifs:List Expr}{wi:TI}{tt:TT}{te:TE}
theorem wt{use:Option (Value->Sem Unit)}{Qf:Value->Shared->Prop}(hc:X.calm=true)(C:jk X N' scope xs)(hi:PI X tg iter wi)
  (ht: ∀s₂ H₂ fp,PTs (blk X N' scope s₂ H₂ fp) ifs tt) (he: ∀s₂ H₂ fp,PE (blk X N' scope s₂ H₂ fp) elt te) {pins:List (Addr×Obj)}{s:Shared}{σ:St}{H:Hp}{Q:VK} (I:Inv X pins σ H s) (h:Lx gT wi tt te σ H Q)
  (htg: ∀(s₂:Shared) (H₂:Hp) (fp:List Addr) (pl:List (Addr×Obj)) (s:Shared) (H:Hp) (v:V) (u:Value) (Q:St->Hp->Prop),Inv (blk X N' scope s₂ H₂ fp) pl (σ++cq xs.length none) H s->RelV v u->gT v H Q ->
   aI (model X.prog X.w) X.A (assign tg (blk X N' scope s₂ H₂ fp).env u) (λ_ s' =>∃τ H',τ.length=xs.length/\Inv (blk X N' scope s₂ H₂ fp) pl (σ++τ) H' s'/\Q τ H') (λ_ _=>False) s)
  (hfin: ∀(s':Shared) (L D:Addr) (H':Hp) (ml:Str->Option Value),s'.heap.Ns L ml->Inv X pins σ H' s'->H' L=none->L≠X.env.locals->X.s₀.heap.objs.size<=L->(∀y c,X.env.cells.lookup y=some c->c≠L)->(∀p∈X.pn++pins,p.1≠L) ->
   Q (.ref D) H'->compPost (model X.prog X.w) X.A X.xe use Qf (.ref D) L (.ok .next) s'):
  aI (model X.prog X.w) X.A (eval iter X.env) (λxv s₁=>aI (model X.prog X.w) X.A (pyIter xv) (λit s₂=>aI (model X.prog X.w) X.A (newList []) (λacc s₃=>
   aI (model X.prog X.w) X.A (newFunctionEnv scope X.env.globals (jV X.env scope.names []) [] X.env.qual none .none (some X.env)) (λcenv s₄=>
    md (model X.prog X.w) X.A (.compStart (.ListComp elt [⟨tg,iter,ifs,0⟩] scope pos) 0 it acc { cenv with scope:=relabel scope X.env }) (compPost (model X.prog X.w) X.A X.xe use Qf acc cenv.locals) s₄) X.xe s₃) X.xe s₂) X.xe s₁) X.xe s:=by
 refine thn (hi pins s σ H _ I h) λv s1 h1=>thn h1 λitv s2 h2 =>?_
 obtain⟨it,fp,tn,J,H2,e,I2,T,st2,f2,W,⟨m0,w0⟩,turn⟩:=h2
 subst e
 have hlt: ∀b∈fp,b<s2.heap.objs.size:=λb hb=>by obtain⟨o,ho,_⟩:=T.obj _ _ st2 b hb;exact aG ho
 refine cp (p5 ?_)
 dsimp only
 have I4:Inv (blk X N' scope s2 H2 fp) [] (σ++cq xs.length none) H2 { s2 with heap:=pushCells ((s2.heap.push { cls := .type "list",dict:=none,data := .seq ([]:List Value).toArray }).push { cls := .type "dict",data := .dict #[] }) scope.names }:=
  Dv I2 C f2 hlt rfl rfl rfl
 generalize hXb:blk X N' scope s2 H2 fp=Xb at I4
 have hD4:(pushCells ((s2.heap.push { cls := .type "list",dict:=none,data := .seq ([]:List Value).toArray }).push { cls := .type "dict",data := .dict #[] }) scope.names).get? s2.heap.objs.size=some { cls := .type "list",data := .seq ([]:List Value).toArray }:=
  pushCells_keeps _ _ _ _ (ar _ (aC _ rfl))
 have st4:tn 0 (pushCells ((s2.heap.push { cls := .type "list",dict:=none,data := .seq ([]:List Value).toArray }).push { cls := .type "dict",data := .dict #[] }) scope.names):=
  T.keep _ _ _ st2 λb hb o e=>pushCells_keeps _ _ b o (ar _ (ar _ e))
 have henv:({ scope:=relabel scope X.env,locals:=(s2.heap.push { cls := .type "list",dict:=none,data := .seq ([]:List Value).toArray }).objs.size,globals:=X.env.globals,cells:=cellsFrom ((s2.heap.push { cls := .type "list",dict:=none,data := .seq ([]:List Value).toArray }).objs.size+1) scope.names (jV X.env scope.names []),qual:=X.env.qual,func:=none,code:=X.env.code,frame:=X.env.frame,builtins:=X.env.builtins }:Env)=Xb.env:=by
  rw[<- hXb,bA];rfl
 generalize hs4:({ s2 with heap:=pushCells ((s2.heap.push { cls := .type "list",dict:=none,data := .seq ([]:List Value).toArray }).push { cls := .type "dict",data := .dict #[] }) scope.names }:Shared)=s4 at I4
 have hD4':s4.heap.get? s2.heap.objs.size=some { cls := .type "list",data := .seq ([]:List Value).toArray }:=by rw [<- hs4];exact hD4
 have st4':tn 0 s4.heap:=by rw[<- hs4];exact st4
 have hL:Xb.env.locals=s2.heap.objs.size+1:=by rw[<- hXb];rfl
 have hex:Xb.ex=fp:=by rw[<- hXb];rfl
 have hs0:Xb.s₀=s2:=by rw[<- hXb];rfl
 have hH0:Xb.H₀=H2:=by rw[<- hXb];rfl
 have hfs:Xb.fs=frs X.stack:=by rw[<- hXb];rfl
 have hpn:Xb.pn = []:=by rw[<- hXb];rfl
 have hK:Xb.K=X.K:=by rw[<- hXb];rfl
 have hP:Xb.prog=X.prog:=by rw[<- hXb];rfl
 have hw:Xb.w=X.w:=by rw[<- hXb];rfl
 have hA:Xb.A=X.A:=by rw[<- hXb];rfl
 have hxe:Xb.xe=λ_ _=>False:=by rw[<- hXb];rfl
 have hcb:Xb.calm=true:=by rw[<- hXb];exact hc
 have hNb:Xb.N=N':=by rw[<- hXb];rfl
 have hfn: ∀y,scope.names.lookup y=some .cell->Xb.fn y=true:=λy hy=>by rw[<- hXb];show(scope.names.lookup y==some .cell)=true;rw[hy];rfl
 have htb:PTs Xb ifs tt:=by rw[<- hXb];exact ht _ _ _
 have heb:PE Xb elt te:=by rw[<- hXb];exact he _ _ _
 have hgb: ∀(pl:List (Addr×Obj)) (s:Shared) (H:Hp) (v:V) (u:Value) (Q:St->Hp->Prop),Inv Xb pl (σ++cq xs.length none) H s->RelV v u->gT v H Q ->
   aI (model X.prog X.w) X.A (assign tg Xb.env u) (λ_ s' =>∃τ H',τ.length=xs.length/\Inv Xb pl (σ++τ) H' s'/\Q τ H') (λ_ _=>False) s:=by
  rw[<- hXb];exact htg _ _ _
 have cellne: ∀y c,Xb.env.cells.lookup y=some c->c≠s2.heap.objs.size:=λy c e z=>by
  obtain⟨v,o,ho,hd⟩:=I4.cell y c e
  rw[z,hD4']at ho
  cases ho
  cases hd
 have stat: ∀{H':Hp}{pl:List (Addr×Obj)},(∀b∈fp,H' b=none)->(∀p∈pl,p.1=s2.heap.objs.size) -> ∀b∈fp,xP Xb pl H' b:=λ{H' pl} hn hpl b hb=>by
  refine⟨hn b hb,?_,?_,.inl (by rw[hex];exact hb),λy c e z =>?_,λp hp z =>?_⟩
  ·rw[hL];exact aT (dU (hlt b hb))
  ·exact I4.ok.exfs b (by rw[hex];exact hb)
  ·exact(I4.ok.exf b (by rw[hex];exact hb)).2 y c e z
  ·rw[hpn]at hp
   have h1:=hpl p (by simpa using hp)
   have h2:=hlt b hb
   exact absurd h2 (by rw[<- z,h1];exact cf _)
 have Dfs:s2.heap.objs.size∉Xb.fs:=by
  rw[hfs]
  intro z
  rcases aK.mp (I2.stkSub _ z) with e |e
  ·exact absurd I2.lt (by rw[<- e];exact cf _)
  ·exact I2.nofs (aq _) e
 have fin : ∀ (s':Shared) (i m:Nat) (ys:List V) (its:List Value) (n:Nat) (H':Hp) (σ':St),Inv Xb [] σ' H' s'->H' s2.heap.objs.size=none->s'.heap.get? s2.heap.objs.size=some { cls := .type "list",data := .seq its.toArray n }->cy ys its->ys.length < sizeLine ->
   (∀D,H' D=none->Q (.ref D) (upd H' D (.lst ys)))->compPost (model X.prog X.w) X.A X.xe use Qf (.ref s2.heap.objs.size) Xb.env.locals (.ok .next) s':=by
  intro s' i m ys its n H' σ' I' hDn hDo rv hz q
  obtain⟨ml,hml,_⟩:=I'.loc
  have kb: ∀b o,b≠Xb.env.locals->s'.heap.get? b=some o->s'.heap.get? b=some o:=λb o _ e=>e
  have hDL:s2.heap.objs.size≠Xb.env.locals:=by rw[hL];exact aT (cM _)
  have hok1:HOk X.prog X.w H' s'.heap:=by
   have:=I'.hok.but I'.free kb
   rw[hP,hw]at this;exact this
  have hok2:HOk X.prog X.w (upd H' s2.heap.objs.size (.lst ys)) s'.heap:=hok1.track hDn ⟨ba hz,its,n,rv,kb _ _ hDL hDo⟩
  have base:=I'.base
  rw[hs0,hH0,hex,hfs]at base
  have un:Un (frs X.stack) fp H2 (upd H' s2.heap.objs.size (.lst ys)) s2.heap s'.heap:=by
   have ltL: ∀b o,s2.heap.get? b=some o->b≠Xb.env.locals:=λb o e=>by rw[hL];exact aT (dU (aG e))
   have ltD: ∀b o,s2.heap.get? b=some o->b≠s2.heap.objs.size:=λb o e=>aT (aG e)
   refine⟨λb o e n hb hx=>kb b o (ltL b o e) (base.keep b o e n hb hx),λb o e n hb hx =>?_,λb o e n hx =>?_,λb o e hx =>?_,λb xs e =>?_,λb o u e =>?_,λb ps e =>?_⟩
   ·obtain⟨sl,q⟩:=base.slot b o e n hb hx
    exact⟨sl,kb b _ (ltL b o e) q⟩
   ·rw[bD (ltD b o e)];exact base.free b o e n hx
   ·obtain⟨o',q⟩:=base.there b o e hx
    exact⟨o',kb b _ (ltL b o e) q⟩
   ·have q:=base.tups b xs e
    rw[bD (bG q hDn)];exact q
   ·have q:=base.frzs b o u e
    rw[bD (bG q hDn)];exact q
   ·obtain⟨more,q⟩:=base.tbls b ps e
    exact⟨more,by rw[bD (bG q hDn)];exact q⟩
  have os:s'.os=s2.os:=by rw[I'.os,hs0]
  have If:=I2.call' (s':=s') os un hok2 I'.bare λb hb=>⟨(f2 b hb).2.2.2.1,(f2 b hb).2.1,(f2 b hb).2.2.2.2.1,(f2 b hb).2.2.2.2.2⟩
  refine hfin s' _ _ _ ml hml If ?_ ?_ ?_ ?_ ?_ (q _ hDn)
  ·rw[bD (eG hDL)];exact I'.free
  ·rw[hL];exact dk (dU I2.lt)
  ·rw[hL];exact mx I2.sz
  ·intro y c e z
   obtain⟨v,o,ho,_⟩:=I2.cell y c e
   have:=aG ho
   rw[z,hL]at this;exact absurd (Nat.lt_of_succ_lt this) (cf _)
  ·intro p hp z
   have:=aG (I2.pin p hp).1
   rw[z,hL]at this;exact absurd (Nat.lt_of_succ_lt this) (cf _)
 have loop: ∀it':Addr,it'=it->md (model X.prog X.w) X.A (.compLoop (.ListComp elt [⟨tg,iter,ifs,0⟩] scope pos) 0 (.ref it') (.ref s2.heap.objs.size) Xb.env) (compPost (model X.prog X.w) X.A X.xe use Qf (.ref s2.heap.objs.size) Xb.env.locals) s4:=by
  rintro it' rfl
  refine mG (λn s' =>∃(i:Nat) (ys:List V) (its:List Value) (nn:Nat) (H':Hp),Inv Xb [] (σ++cq xs.length none) H' s'/\tn i s'.heap/\(∀b∈fp,H' b=none)/\H' s2.heap.objs.size=none /\
   s'.heap.get? s2.heap.objs.size=some { cls := .type "list",data := .seq its.toArray nn }/\cy ys its/\W i n ys H') ?_ m0 ⟨0,[],[],_,H2,I4,st4',fun b hb=>(f2 b hb).1,I2.hok.fresh (aq _),hD4',.nil,w0⟩
  rintro n s3 ⟨i,ys,its,nn,H3,I3,st3,fr3,hD3,hDo3,rv3,w3⟩
  obtain⟨hz,turn⟩:=turn i n ys H3 w3
  have pinD: ∀{s':Shared}{H':Hp}{σ':St}{oD:Obj},Inv Xb [] σ' H' s'->H' s2.heap.objs.size=none->s'.heap.get? s2.heap.objs.size=some oD->(∀v,oD.data≠.cell v)->Inv Xb [(s2.heap.objs.size,oD)] σ' H' s':=λ{s' H' σ' oD} I' hn ho hd=>
   I'.pins_of λp hp=>by
    have e:p=(s2.heap.objs.size,oD):=by simpa using hp
    subst e
    exact⟨ho,hn,by rw[hL];show s2.heap.objs.size≠_;exact aT (cM _),Dfs,hd⟩
  have I3p:=pinD I3 hD3 hDo3 (λv z=>by cases z)
  have hpl : ∀ p ∈ [(s2.heap.objs.size,({ cls := .type "list",data := .seq its.toArray nn }:Obj))],p.1=s2.heap.objs.size:=fun p hp=>by
   have e:=bR.mp hp
   rw[e]
  rcases turn with⟨stop,qn⟩ | ⟨go,step⟩
  ·have q:=T.done Xb hP hw hK hcb i _ s3 _ H3 (λ_ _=>False) I3p (stat fr3 hpl) st3 stop
   rw[hA]at q
   refine dj q (λr s5 ⟨hr,I5⟩ =>?_) λ_ _ z=>cX z
   subst hr
   exact fin s5 i n ys its nn H3 _ (I5.pins_of λp hp=>absurd hp (by simp)) hD3 (I5.pin _ (aY _ (bR.mpr rfl))).1 rv3 hz qn
  ·have q:=T.item Xb hP hw hK hcb i _ s3 _ H3 (λ_ _=>False) I3p (stat fr3 hpl) st3 go
   rw[hA]at q
   refine dj q (λr s45 ⟨u,hr,h5⟩ =>?_) λ_ _ z=>cX z
   subst hr
   refine dj h5 (λ_ s5 ⟨y5,H5,I5,r5,yl5,st5,fr5⟩ =>?_) λ_ _ z=>cX z
   have hD5:=(I5.pin _ (aY _ (bR.mpr rfl)))
   have I5':=I5.pinned (stat fr5 hpl) (T.obj _ _ st5)
   refine dj (hgb _ s5 H5 y5 _ _ I5' r5 (step y5 H5 yl5)) (λ_ s6 ⟨τ,H6,hτ,I6,q6⟩ =>?_) λ_ _ z=>cX z
   have qt:=htb _ s6 _ H6 _ I6 q6
   rw[hP,hw,hA,hxe]at qt
   refine dj qt (λb s7 ⟨H7,I7,q7⟩ =>?_) λ_ _ z=>cX z
   have again : ∀ {s8:Shared}{H8:Hp}{σ8:St},Inv Xb ([(s2.heap.objs.size,({ cls := .type "list",data := .seq its.toArray nn }:Obj))]++uH fp s5.heap) σ8 H8 s8->tn (i+1) s8.heap/\(∀ b∈fp,H8 b=none)/\H8 s2.heap.objs.size=none/\s8.heap.get? s2.heap.objs.size=some { cls := .type "list",data := .seq its.toArray nn }:=fun {s8 H8 σ8} I8=>by
    refine⟨T.keep _ _ _ st5 λb hb o e=>(I8.pin (b,o) (aY _ (aY _ (lB hb e)))).1,λb hb =>?_,?_,?_⟩
    ·obtain⟨o,e,d⟩:=T.obj _ _ st5 b hb
     exact(I8.pin (b,o) (aY _ (aY _ (lB hb e)))).2.1
    ·exact(I8.pin _ (aY _ (bb _ (bR.mpr rfl)))).2.1
    ·exact(I8.pin _ (aY _ (bb _ (bR.mpr rfl)))).1
   have forget: ∀{s8:Shared}{H8:Hp}{pl:List (Addr×Obj)},Inv Xb pl (σ++τ) H8 s8->Inv Xb [] (σ++cq xs.length none) H8 s8:=λ{s8 H8 pl} I8=>
    (I8.pins_of (pins':= []) λp hp=>absurd hp (by simp)).weak (by simp[hτ]) λj v hj=>by
     by_cases hjs:j<σ.length
     ·rw[aS hjs]at hj ⊢;exact hj
     ·rw[az (by exact bX (by assumption)),iO]at hj
      split at hj <;> simp at hj
   cases b with
   | false=>
     have q7': ∃m',m'<n/\W (i+1) m' ys H7:=q7
     obtain⟨m',hm,w7⟩:=q7'
     obtain⟨a1,a2,a3,a4⟩:=again I7
     exact⟨m',hm,i+1,ys,its,nn,H7,forget I7,a1,a2,a3,a4,rv3,w7⟩
   | true=>
     have q7':te (σ++τ) H7 λy H4 =>∃m',m'<n/\W (i+1) m' (ys++[y]) H4:=q7
     have qe:=heb _ s7 _ H7 _ I7 q7'
     rw[hP,hw,hA,hxe]at qe
     refine dj qe (λuv s8 ⟨y8,H8,I8,r8,m',hm,w8⟩ =>?_) λ_ _ z=>cX z
     obtain⟨a1,a2,a3,a4⟩:=again I8
     have I9:=forget I8
     have hl3:=rv3.length
     refine call_meets F.slot_list_append ⟨_,a4,rfl⟩ F.entry_list_append (F.args_list_append_2 _ _) (PySem.list_append s2.heap.objs.size its.toArray nn uv (by rw[aD];omega)) ⟨a4,?_⟩
     have hup:=GV a4 (·.push uv)
     have e1:(its.toArray.push uv)=(its++[uv]).toArray:=by simp
     rw[e1]at hup
     have I10:Inv Xb [] (σ++cq xs.length none) H8 { s8 with heap:=s8.heap.update s2.heap.objs.size (d5 (·.push uv)) }:=
      I9.turned (t':=s8.toks) (λb' u hb hu=>(ck s8.heap (d5 (·.push uv)) (eG hb)).trans hu) a3 (by rw[hL];exact aT (cM _)) (.inr (by rw[hs0];exact aq _)) cellne (λp hp=>by rw[hpn]at hp;exact absurd hp (by simp))
     refine⟨m',hm,i+1,ys++[y8],its++[uv],_,H8,I10,T.keep _ _ _ a1 λb hb o e =>?_,a2,a3,hup,rv3.append (.cons r8 .nil),w8⟩
     exact(ck s8.heap (d5 (·.push uv)) (by first |exact dk (hlt b hb) |exact aT (hlt b hb))).trans e
 have start:=codeAny_compStart_list (loop it rfl) (T.self X.A 0 s4 _ _ st4' (loop it rfl))
 rw[henv]
 have eL:(s2.heap.push { cls := .type "list",dict:=none,data := .seq ([]:List Value).toArray }).objs.size=Xb.env.locals:=by rw [bA,hL]
 rw[eL]
 exact start
theorem Cb(C:jk X N' scope [x]){σ:St}(s₂:Shared)(H₂:Hp)(fp:List Addr)(pl:List (Addr×Obj))(s:Shared)(H:Hp)(v:V)(u:Value)(Q:St->Hp->Prop)(I:Inv (blk X N' scope s₂ H₂ fp) pl (σ++cq [x].length none) H s)(r:RelV v u)(q:gT1 v H Q):
  aI (model X.prog X.w) X.A (assign (.Name x px) (blk X N' scope s₂ H₂ fp).env u) (λ_ s' =>∃τ H',τ.length = [x].length/\Inv (blk X N' scope s₂ H₂ fp) pl (σ++τ) H' s'/\Q τ H') (λ_ _=>False) s:=by
 have hl:σ.length=X.N.length:=by
  have:=I.len
  rw[show(blk X N' scope s₂ H₂ fp).N=N' from rfl,C.len,aV,pL]at this
  omega
 have hlocx:Loc (blk X N' scope s₂ H₂ fp).env.scope x:=by
  rcases C.own x (by simp) with e |e
  ·exact .inl (lookup_relabel_local e)
  ·exact .inr (lx e)
 have hfx:(blk X N' scope s₂ H₂ fp).fn x=true\/(blk X N' scope s₂ H₂ fp).env.scope.names.lookup x=some .local:=by
  rcases C.own x (by simp) with e |e
  ·right;exact lookup_relabel_local e
  ·left;show(scope.names.lookup x==some .cell)=true;rw[e];rfl
 refine z5 (vb I C.ndN (i:=X.N.length) (C.last 0 x rfl) hlocx r (λs6 I6 =>?_) hfx)
 have hset:(σ++cq [x].length none).set X.N.length (some v)=σ++[some v]:=by
  rw[<- hl,gf _ _ (aq _)];simp
 rw[hset]at I6
 exact⟨[some v],H,rfl,I6,q⟩
theorem Ia(hc:X.calm=true)(C:jk X N' scope [x])(hi:PI X (.Name x px) iter wi)
  (ht: ∀s₂ H₂ fp,PTs (blk X N' scope s₂ H₂ fp) ifs tt) (he: ∀s₂ H₂ fp,PE (blk X N' scope s₂ H₂ fp) elt te)
  (hs:autoParam (∀x,foldedSetIterable iter X.env x=pure x) au3._auto_1):
  PE X (.ListComp elt [⟨.Name x px,iter,ifs,0⟩] scope pos) (pX wi tt te):=by
 intro pins s σ H Q I h
 rw[eval_ListComp]
 refine wpAny_comprehension_free (use:=none) (cl:=jV X.env scope.names []) rfl hs (lU (C.frees I.ok)) C.kind (λy hy e=>nL C.nd (by rw[<- e];exact hy)) ?_
 refine wt (gT:=gT1) hc C hi ht he I h (Cb C) λs' L D H' ml hml I' hn h1 h2 h3 h4 q =>?_
 exact⟨ml,hml,λh' hsb=>⟨.ref D,H',I'.turned (t':=s'.toks) (λb o hb e=>(hsb.2 b hb).trans e) hn h1 (.inr h2) h3 h4,rfl,q⟩⟩
theorem IW{i:Nat}{y:Str}{py spos:Pos}(hN:X.N.Nodup)(hi':X.N[i]? = some y)(hy:Loc X.env.scope y)(hc:X.calm=true)(C:jk X N' scope [x])(hi:PI X (.Name x px) iter wi)
  (ht: ∀s₂ H₂ fp,PTs (blk X N' scope s₂ H₂ fp) ifs tt) (he: ∀s₂ H₂ fp,PE (blk X N' scope s₂ H₂ fp) elt te)
  (hsw:swapsWith (.ListComp elt [⟨.Name x px,iter,ifs,0⟩] scope pos) (some (.Name y py)) spos.line X.env=pure true)
  (hs:autoParam (∀x,foldedSetIterable iter X.env x=pure x) au3._auto_1) (hf:autoParam (X.fn y=true\/X.env.scope.names.lookup y=some .local) au4._auto_1):
  PS X (.Assign [.Name y py] (.ListComp elt [⟨.Name x px,iter,ifs,0⟩] scope pos) spos) (Gu (pX wi tt te) (jq i)):=by
 intro pins s σ H D I h
 rw[exec_Assign_Name_used _ _ _ _ hsw]
 refine ae (wpAny_standAt (ae ?_))
 show aI _ X.A (do let _ <- comprehension (.ListComp elt [⟨.Name x px,iter,ifs,0⟩] scope pos) scope X.env _ (newList []) false (eval iter X.env) (some (assign (.Name y py) X.env))) _ _ s
 refine ae (dj (wpAny_comprehension_free (use:=some (assign (.Name y py) X.env)) (Q:=λ_ s'=>SP X pins D .next s') (cl:=jV X.env scope.names []) rfl hs (lU (C.frees I.ok)) C.kind (λy hy e=>nL C.nd (by rw[<- e];exact hy))
  (wt (gT:=gT1) (Q:=λv H1=>jq i v σ H1 D.nx) hc C hi ht he I h (Cb C) λs' L D' H' ml hml I' hn h1 h2 h3 h4 q =>?_)) (λ_ s' hq=>ax (ax hq)) λ_ _ e=>e)
 show aI _ X.A (assign (.Name y py) X.env (.ref D')) _ _ _
 refine z5 (xa (v:= .ref D') I' hN hi' hy rfl (λs6 I6 hsb =>?_) hf)
 obtain⟨a,hsb,ha⟩:=hsb
 have haL:L≠a:=by
  rcases ha with e |e
  ·rw[e];exact h1
  ·exact eG (h3 _ _ e)
 refine⟨ml,hml.sameBut hsb haL,λh' hsb' =>?_⟩
 exact⟨_,H',I6.turned (t':=s6.toks) (λb o hb e=>(hsb'.2 b hb).trans e) hn h1 (.inr h2) h3 h4,q⟩
end
end _L
end
section
namespace HT
open PySem PyProof.Rows
open PySem.SeqAt
open PySem.AutoSeq1 (wpAny_loadPart')
open PySem.MeetsSeq PySem.MeetsSeq2 PySem.MeetsSeq3
section
variable {prog:Program}{w:World}{A:Around}{E:Value->Shared->Prop}{s:Shared}
theorem getItem_tuple_whole{t sl:Addr}{items:Array Value}{vl vu:Value}{lo hi:Option Int}{Q:Value->Shared->Prop}(ht:IsTup s.heap t items)(hs:s.heap.IsSliceOf sl vl vu .none)(pl:IsPart vl lo)(pu:IsPart vu hi)
  (hw:sIx items.size 0 lo=0/\sIx items.size items.size hi=items.size)
  (h:Q (.ref t) s):aI (model prog w) A (getItem (.ref t) (.ref sl)) Q E s:=by
 obtain⟨os,hos,hcs,hds⟩:=id hs
 have hTs:s.TypeIs (.ref sl) "slice":=⟨os,hos,hcs⟩
 unfold getItem
 try with_reducible refine dI ?_
 first |refine ae (ax ?_) |skip
 refine ae (wpAny_sequenceKey ht.typeIs (by decide) ?_)
 refine ae (jv (name:=pG "__getitem__") ht.typeIs eS
  (fT eS ht.typeIs entry_tuple_getitem ?_ (args_tuple_getitem _ _)))
 show aI _ _ (sU (.ref t) >>= _) _ _ s
 refine ae (tupleItemsOf_ ht ?_)
 refine ae (mm hTs ?_)
 rw[if_pos (by decide)]
 refine ae (kU hs pl pu ?_)
 rw[hw.1,hw.2]
 show aI _ _ (if (((0:Nat):Int)==0&&(1:Int)==1&&(items.size - 0)==items.size)=true then _ else _) _ _ s
 rw[if_pos (by simp)]
 obtain⟨o,ho,hc,n,hd⟩:=id ht
 refine ae (m:=sW _) ?_
 unfold sW
 refine ae (mm ⟨o,ho,hc⟩ (ax ?_))
 rw[if_pos (by decide)]
 refine ae (yk ?_)
 first
  | exact ax ⟨_,rfl,ax h⟩
  | exact ae (ax (ax ⟨_,rfl,ax h⟩))
theorem cat_tup0{t b:Addr}{ws:List Value}{Q:Value->Shared->Prop}(ht:IsTup s.heap t ([]:List Value).toArray)(hb:IsTup s.heap b ws.toArray)(h:Q (.ref b) s):aI (model prog w) A (binaryOp .Add (.ref t) (.ref b)) Q E s:=by
 obtain⟨⟨cls,dd,data,sl⟩,ho,hc,n,hd⟩:=id ht
 obtain⟨⟨cls2,dd2,data2,sl2⟩,ho2,hc2,n2,hd2⟩:=id hb
 simp only at hc hd hc2 hd2
 subst hc hd hc2 hd2
 exact concat_meets ⟨_,ho,rfl⟩ ⟨_,ho2,rfl⟩ noFill_tuple_add seq_tuple_add nD mj (lO _ _)
   (tuple_addW0 t b #[] ws.toArray n n2 dd dd2 sl sl2 (by simp)) ⟨ho,ho2,h⟩
end
end HT
end
section
namespace _G
open PySem PySem.SeqAt
open PySem.AutoSeq1 (wpAny_loadPart')
open PySem.MeetsSeq PySem.MeetsSeq2 PySem.MeetsSeq3
theorem v8(l:Addr)(items:Array Value)(n:Nat)(dd:Option Addr)(sl:Array (Option Value))(x:Value)(e:Value->Bool)(j:Nat)(hj:j<items.size)
  (hit:e items[j]=true) (hno: ∀m (hm:m<items.size),m<j->e items[m]=false):
  Meets (Builtin.«tuple.index» ⟨[.ref l,x],[]⟩)
   (fun A R s=>s.heap.get? l=some { cls := .type "tuple",dict:=dd,data := .seq items n,slots:=sl }/\(∀ y,y∈items->EqAt A.in1 s y x (e y))/\R (.ok (.ret (.int j s.toks))) { s with toks:=s.toks+1 }):=
 .of_wp λprog w A R s h=>by
  obtain⟨hp,g,d,tk,os⟩:=s;obtain⟨hl,he,h⟩:=h
  simp only[Builtin.«tuple.index»,Std.Legacy.Range.forIn_eq_forIn_range']
  wp_walk using lN hl,Bi _ (λrest b s'=>b.1=none/\s'=⟨hp,g,d,tk,os⟩ /\ ∃i,i<=j/\rest=aO i (items.size - i)) _
  case turn=>
   rintro y rest b s' ⟨hb,rfl,i,hij,hrest⟩
   have hlt:i<items.size:=by
    rcases Nat.lt_or_ge i items.size with q |q
    ·exact q
    ·exact ay (by assumption) (by assumption)
   obtain⟨k,hk⟩ : ∃k,items.size - i=k+1:=⟨items.size - i - 1,by omega⟩
   rw[hk,oh]at hrest
   injection hrest with h1 h2
   subst h1
   have hg:items[y]? = some items[y]:=by simp[hlt]
   rw[hg]
   refine ae (he _ (Array.getElem_mem hlt) prog w _ _ ?_)
   by_cases hyj:y=j
   ·subst hyj
    rw[hit]
    wp_walk
    exact⟨_,rfl,h⟩
   ·rw[hno y hlt (by exact lR (by assumption) (by assumption))]
    wp_walk
    exact⟨rfl,rfl,y+1,by exact lR (by assumption) (by assumption),by rw[h2];congr 1;omega⟩
  case fin=>
   rintro ⟨b1,b2⟩ s' ⟨hb,rfl,i,hij,hrest⟩
   exfalso
   have h3:=congrArg G6 hrest
   simp at h3
   omega
  case h=>
   exact⟨rfl,rfl,0,dc _,by simp⟩
end _G
end
section
namespace _G
open PySem PySem.SeqAt
open PySem.AutoSeq1 (wpAny_loadPart')
open PySem.MeetsSeq PySem.MeetsSeq2 PySem.MeetsSeq3
end _G
end
section
namespace _G
open PySem PySem.Spec _L
open PyProof.Rows hiding St
mutual
noncomputable def RU(H:Hp)(μ:List Addr):U->V->Prop
 | .non,v=>v = .non
 | .bl b,v=>v = .bl b
 | .int i,v=>v = .int i
 | .str x,v=>v = .str x
 | .tup us,v =>∃a vs,v = .ref a/\H a=some (.tup vs)/\RUs H μ us vs
 | .ref n,v =>∃a,v = .ref a/\μ[n]? = some a
 | .obj a,v=>v = .ref a
noncomputable def RUs(H:Hp)(μ:List Addr):List U->List V->Prop
 | [],vs=>vs = []
 | u::us,vs =>∃v r,vs=v::r/\RU H μ u v/\RUs H μ us r
end
structure bq(H H':Hp):Prop where
 t: ∀a vs,H a=some (.tup vs)->H' a=some (.tup vs)
 f: ∀a o u,H a=some (.frz o u)->H' a=some (.frz o u)
noncomputable instance{H H':Hp}:CoeFun (bq H H') λ_ =>∀a vs,H a=some (.tup vs)->H' a=some (.tup vs):=⟨bq.t⟩
noncomputable def Pre(μ μ':List Addr):Prop:= ∃t,μ'=μ++t
theorem bq.refl(H:Hp):bq H H:=⟨λ_ _ h=>h,λ_ _ _ h=>h⟩
theorem bq.trans{H H1 H2:Hp}(a:bq H H1)(b:bq H1 H2):bq H H2:=⟨λc vs h=>b c vs (a c vs h),λc o u h=>b.f c o u (a.f c o u h)⟩
theorem Pre.refl(μ:List Addr):Pre μ μ:=⟨[],by simp⟩
theorem Pre.trans{μ μ1 μ2:List Addr}(a:Pre μ μ1)(b:Pre μ1 μ2):Pre μ μ2:=by
 obtain⟨t,rfl⟩:=a
 obtain⟨u,rfl⟩:=b
 exact⟨t++u,by simp⟩
theorem Pre.get{μ μ':List Addr}(p:Pre μ μ'){n:Nat}{a:Addr}(h:μ[n]? = some a):μ'[n]? = some a:=by
 obtain⟨t,rfl⟩:=p
 have hn:n<μ.length:=(ah.mp h).1
 rw[aS hn];exact h
theorem bq.new{H:Hp}{p:Addr}{o:HO}(h:H p=none):bq H (upd H p o):=⟨λa vs e=>by rw[bD (bG e h)];exact e,λa _ _ e=>by rw[bD (bG e h)];exact e⟩
theorem bq.wr{H:Hp}{p:Addr}{xs ys:List V}(h:H p=some (.lst xs)):bq H (upd H p (.lst ys)):=⟨λa vs e=>by
 rw[bD (pY e h (by intro z;cases z))];exact e,λa _ _ e=>by
 rw[bD (pY e h (by intro z;cases z))];exact e⟩
mutual
theorem RU.mono{H H':Hp}{μ μ':List Addr}(k:bq H H')(p:Pre μ μ'): ∀(u:U) (v:V),RU H μ u v->RU H' μ' u v
 | .non,_,h=>by simpa [RU]using h
 | .bl _,_,h=>by simpa [RU]using h
 | .int _,_,h=>by simpa [RU]using h
 | .str _,_,h=>by simpa [RU]using h
 | .obj _,_,h=>by simpa [RU]using h
 | .ref n,v,h=>by
   simp only[RU]at h ⊢
   obtain⟨a,e,q⟩:=h
   exact⟨a,e,p.get q⟩
 | .tup us,v,h=>by
   simp only[RU]at h ⊢
   obtain⟨a,vs,e,q,r⟩:=h
   exact⟨a,vs,e,k a vs q,RUs.mono k p us vs r⟩
theorem RUs.mono{H H':Hp}{μ μ':List Addr}(k:bq H H')(p:Pre μ μ'): ∀(us:List U) (vs:List V),RUs H μ us vs->RUs H' μ' us vs
 | [],_,h=>by simpa [RUs]using h
 | u::us,vs,h=>by
   simp only[RUs]at h ⊢
   obtain⟨v,r,e,a,b⟩:=h
   exact⟨v,r,e,RU.mono k p u v a,RUs.mono k p us r b⟩
end
section
variable {H:Hp}{μ:List Addr}
theorem RUs.nil:RUs H μ [] []:=by simp[RUs]
theorem RUs.cons{u:U}{us:List U}{v:V}{vs:List V}(a:RU H μ u v)(b:RUs H μ us vs):RUs H μ (u::us) (v::vs):=by
 simp only[RUs];exact⟨v,vs,rfl,a,b⟩
theorem RUs.inv{u:U}{us:List U}{vs:List V}(h:RUs H μ (u::us) vs): ∃v r,vs=v::r/\RU H μ u v/\RUs H μ us r:=by simpa only [RUs]using h
theorem RUs.nil_inv{vs:List V}(h:RUs H μ [] vs):vs = []:=by simpa only [RUs]using h
theorem RUs.len: ∀{us:List U}{vs:List V},RUs H μ us vs->us.length=vs.length
 | [],vs,h=>by rw[h.nil_inv];rfl
 | u::us,vs,h=>by
   obtain⟨v,r,rfl,_,b⟩:=h.inv
   simp[b.len]
theorem RUs.get: ∀{us:List U}{vs:List V}{i:Nat}{u:U},RUs H μ us vs->us[i]? = some u -> ∃v,vs[i]? = some v/\RU H μ u v
 | [],vs,i,u,h,e=>by simp at e
 | x::us,vs,0,u,h,e=>by
   obtain⟨v,r,rfl,a,b⟩:=h.inv
   simp at e;subst e
   exact⟨v,rfl,a⟩
 | x::us,vs,i+1,u,h,e=>by
   obtain⟨v,r,rfl,a,b⟩:=h.inv
   obtain⟨w,h1,h2⟩:=RUs.get (i:=i) b (by simpa using e)
   exact⟨w,by simpa using h1,h2⟩
theorem RUs.append: ∀{us ws:List U}{vs xs:List V},RUs H μ us vs->RUs H μ ws xs->RUs H μ (us++ws) (vs++xs)
 | [],ws,vs,xs,h,g=>by rw[h.nil_inv];exact g
 | u::us,ws,vs,xs,h,g=>by
   obtain⟨v,r,rfl,a,b⟩:=h.inv
   exact .cons a (b.append g)
theorem RUs.set{u:U}{v:V}(q:RU H μ u v): ∀{us:List U}{vs:List V} (i:Nat),RUs H μ us vs->RUs H μ (us.set i u) (vs.set i v)
 | [],vs,i,h=>by rw[h.nil_inv];simpa using RUs.nil
 | x::us,vs,0,h=>by
   obtain⟨w,r,rfl,a,b⟩:=h.inv
   exact .cons q b
 | x::us,vs,i+1,h=>by
   obtain⟨w,r,rfl,a,b⟩:=h.inv
   exact .cons a (RUs.set q i b)
theorem RUs.eraseIdx: ∀{us:List U}{vs:List V} (i:Nat),RUs H μ us vs->RUs H μ (us.eraseIdx i) (vs.eraseIdx i)
 | [],vs,i,h=>by rw[h.nil_inv];simpa using RUs.nil
 | x::us,vs,0,h=>by
   obtain⟨w,r,rfl,a,b⟩:=h.inv
   exact b
 | x::us,vs,i+1,h=>by
   obtain⟨w,r,rfl,a,b⟩:=h.inv
   exact .cons a (RUs.eraseIdx i b)
theorem RUs.drop: ∀{us:List U}{vs:List V} (i:Nat),RUs H μ us vs->RUs H μ (us.drop i) (vs.drop i)
 | us,vs,0,h=>h
 | [],vs,i+1,h=>by rw[h.nil_inv];simpa using RUs.nil
 | x::us,vs,i+1,h=>by
   obtain⟨w,r,rfl,a,b⟩:=h.inv
   exact RUs.drop i b
theorem RUs.take: ∀{us:List U}{vs:List V} (i:Nat),RUs H μ us vs->RUs H μ (us.take i) (vs.take i)
 | us,vs,0,h=>by simpa using RUs.nil
 | [],vs,i+1,h=>by rw[h.nil_inv];simpa using RUs.nil
 | x::us,vs,i+1,h=>by
   obtain⟨w,r,rfl,a,b⟩:=h.inv
   exact .cons a (RUs.take i b)
theorem RUs.dropLast{us:List U}{vs:List V}(h:RUs H μ us vs):RUs H μ us.dropLast vs.dropLast:=by
 rw[GY,GY,h.len];exact h.take _
theorem RUs.ints: ∀(ns:List Int),RUs H μ (ns.map U.int) (ns.map V.int)
 | [] => .nil
 | n::ns => .cons (by simp[RU]) (RUs.ints ns)
end
structure KX where
 K:av
 caps:List U
 capv:List V
 cds:List (Addr×Obj)
 tabs:List (Addr×Str)
noncomputable instance:Coe KX av:=⟨KX.K⟩
noncomputable def fz:HO:= .ext λ_=>True
noncomputable def AQ(H:Hp)(P:Addr)(q:Str):Prop:= ∃ps:Array Value,H P=some (.tbl ps)/\TriplesOk ps.toList /\
 ∀pos cv,codeAmong pos ps.toList=some cv -> ∃c oc vs t,cv = .ref c/\H c=some (.frz oc fz)/\oc.data = .fields vs/\vs[1]? = some (.str q t)
structure HX(K:KX)(μ:List Addr)(H:Hp):Prop where
 cap:RUs H μ K.caps K.capv
 cds: ∀q∈K.cds,H q.1=some (.frz q.2 fz)
 tab: ∀q∈K.tabs,AQ H q.1 q.2
theorem HX.upd{K:KX}{μ μ':List Addr}{H:Hp}{p:Addr}{o':HO}(h:HX K μ H)(kp:bq H (upd H p o'))(pre:Pre μ μ')(nf: ∀o,H p=some o->(∀o' u,o≠.frz o' u) /\ ∀ps,o≠.tbl ps):HX K μ' (upd H p o'):=by
 have f: ∀a o u,H a=some (.frz o u)->_L.upd H p o' a=some (.frz o u):=λa o u e=>by
  rw[bD]
  ·exact e
  ·rintro rfl
   exact(nf _ e).1 o u rfl
 refine⟨RUs.mono kp pre _ _ h.cap,λq hq=>f _ _ _ (h.cds q hq),λq hq =>?_⟩
 obtain⟨ps,e,tr,al⟩:=h.tab q hq
 refine⟨ps,?_,tr,λpos cv hc =>?_⟩
 ·rw[bD]
  ·exact e
  ·intro z
   rw[z]at e
   exact(nf _ e).2 ps rfl
 ·obtain⟨c,oc,vs,t,e1,e2,e3,e4⟩:=al pos cv hc
  exact⟨c,oc,vs,t,e1,f _ _ _ e2,e3,e4⟩
noncomputable def dV{κ:Type}(kvs:List (κ×U))(vs:List V):List (κ×V):=(kvs.map (·.1)).zip vs
noncomputable def oP(K:KX)(H:Hp)(μ:List Addr)(a:Addr):Cell->Prop
 | .lst us =>∃vs,H a=some (.lst vs)/\RUs H μ us vs
 | .frz us =>∃vs,((∃o,H a=some (.frz o (.lst vs)))\/SqL K (λ_=>none) a vs)/\RUs H μ us vs
 | .dic kvs =>∃vs,H a=some (.dK (dV kvs vs))/\RUs H μ (kvs.map (·.2)) vs
 | .dit false kvs =>∃vs,H a=some (.dT (dV kvs vs))/\RUs H μ (kvs.map (·.2)) vs
 | .dit true kvs =>∃vs,(∃o,H a=some (.frz o (.dT (dV kvs vs))))/\RUs H μ (kvs.map (·.2)) vs
noncomputable def Cell.own:Cell->Bool
 | .frz _=>false
 | .dit f _ => !f
 | _=>true
structure HR(K:KX)(μ:List Addr)(S:Sto)(H:Hp):Prop where
 len:μ.length=S.length
 inj: ∀(n m:Nat) (c d:Cell),S[n]? = some c->S[m]? = some d->c.own=true->d.own=true->μ[n]? = μ[m]? -> n=m
 cell: ∀(n:Nat) (c:Cell) (a:Addr),S[n]? = some c->μ[n]? = some a->oP K H μ a c
 ext:HX K μ H
structure ER(H:Hp)(μ:List Addr)(ρ:Rho)(σ:St):Prop where
 len:ρ.length=σ.length
 get: ∀(i:Nat) (u:U),ρ[i]? = some (some u) -> ∃v,σ[i]? = some (some v)/\RU H μ u v
theorem ER.mono{H H':Hp}{μ μ':List Addr}{ρ:Rho}{σ:St}(e:ER H μ ρ σ)(k:bq H H')(p:Pre μ μ'):ER H' μ' ρ σ:=
 ⟨e.len,λi u h=>let ⟨v,a,b⟩:=e.get i u h;⟨v,a,RU.mono k p u v b⟩⟩
theorem ER.set{H:Hp}{μ:List Addr}{ρ:Rho}{σ:St}(e:ER H μ ρ σ){u:U}{v:V}(r:RU H μ u v)(i:Nat):ER H μ (ρ.set i (some u)) (σ.set i (some v)):=by
 refine⟨by simpa using e.len,λj w h =>?_⟩
 by_cases hj:i=j
 ·subst hj
  rw[List.getElem?_set]at h
  simp only[if_true]at h
  split at h
  ·rename_i hl
   cases h
   refine⟨v,?_,r⟩
   rw[aZ (by rw[<- e.len];exact hl)]
  ·cases h
 ·rw[aJ hj]at h
  obtain⟨x,a,b⟩:=e.get j w h
  exact⟨x,by rw[aJ hj];exact a,b⟩
theorem ER.push{H:Hp}{μ:List Addr}{ρ:Rho}{σ:St}(e:ER H μ ρ σ){u:U}{v:V}(r:RU H μ u v):ER H μ (ρ++[some u]) (σ++[some v]):=by
 refine⟨by simp[e.len],λj w h =>?_⟩
 by_cases hj:j<ρ.length
 ·rw[aS hj]at h
  obtain⟨x,a,b⟩:=e.get j w h
  exact⟨x,by rw[aS (by rw[<- e.len];exact hj)];exact a,b⟩
 ·have hj':j=ρ.length:=by
   have:=(ah.mp h).1
   simp at this;omega
  subst hj'
  rw[az (aq _)]at h
  simp at h;subst h
  refine⟨v,?_,r⟩
  rw[e.len,az (aq _)];simp
section
variable {K:KX}{H:Hp}{μ:List Addr}{S:Sto}
theorem oP.mono{H':Hp}{μ':List Addr}{a:Addr}{c:Cell}(h:oP K H μ a c)(k:bq H H')(p:Pre μ μ')(l:c.own=true->H' a=H a)(f: ∀o u,H a=some (.frz o u)->H' a=some (.frz o u)):oP K H' μ' a c:=by
 cases c with
 | lst us=>
   obtain⟨vs,e,r⟩:=h
   exact⟨vs,(l rfl).trans e,RUs.mono k p us vs r⟩
 | dic kvs=>
   obtain⟨vs,e,r⟩:=h
   exact⟨vs,(l rfl).trans e,RUs.mono k p _ vs r⟩
 | dit b kvs=>
   cases b with
   | false=>
     obtain⟨vs,e,r⟩:=h
     exact⟨vs,(l rfl).trans e,RUs.mono k p _ vs r⟩
   | true=>
     obtain⟨vs,⟨o,e⟩,r⟩:=h
     exact⟨vs,⟨o,f o _ e⟩,RUs.mono k p _ vs r⟩
 | frz us=>
   obtain⟨vs,e,r⟩:=h
   refine⟨vs,?_,RUs.mono k p us vs r⟩
   rcases e with⟨o,e⟩ |e
   ·exact .inl ⟨o,f o _ e⟩
   ·exact .inr e
theorem oP.has{a:Addr}{c:Cell}(h:oP K H μ a c)(ho:c.own=true): ∃o,H a=some o/\(∀vs,o≠.tup vs)/\(∀o' u,o≠.frz o' u) /\ ∀ps,o≠.tbl ps:=by
 cases c with
 | lst us=>obtain⟨vs,e,r⟩:=h;exact⟨_,e,λ_ z=>(by cases z),λ_ _ z=>(by cases z),λ_ z=>(by cases z)⟩
 | dic kvs=>obtain⟨vs,e,r⟩:=h;exact⟨_,e,λ_ z=>(by cases z),λ_ _ z=>(by cases z),λ_ z=>(by cases z)⟩
 | dit b kvs=>
   cases b with
   | false=>obtain⟨vs,e,r⟩:=h;exact⟨_,e,λ_ z=>(by cases z),λ_ _ z=>(by cases z),λ_ z=>(by cases z)⟩
   | true=>cases ho
 | frz us=>cases ho
theorem bq.wrG{H:Hp}{p:Addr}{o o':HO}(h:H p=some o)(ht: ∀vs,o≠.tup vs)(hf: ∀ob u,o≠.frz ob u):bq H (upd H p o'):=⟨λa vs e=>by
 rw[bD (pY e h (eG (ht vs)))];exact e,λa ob u e=>by
 rw[bD (pY e h (eG (hf ob u)))];exact e⟩
theorem HR.get(h:HR K μ S H){n:Nat}{c:Cell}(e:S[n]? = some c): ∃a,μ[n]? = some a/\oP K H μ a c:=by
 have hn:n<μ.length:=by rw[h.len];exact(ah.mp e).1
 exact⟨μ[n],by simp[hn],h.cell n c _ e (by simp[hn])⟩
theorem HR.wrC(h:HR K μ S H){n:Nat}{c d:Cell}{a:Addr}{o':HO}(e:S[n]? = some c)(ea:μ[n]? = some a)(hc:c.own=true)(r:oP K (upd H a o') μ a d):HR K μ (S.set n d) (upd H a o'):=by
 obtain⟨o,e0,nt,nf,nb⟩:=(h.cell n _ a e ea).has hc
 have kp:bq H (upd H a o'):=bq.wrG e0 nt nf
 have hn:n<S.length:=(ah.mp e).1
 have pick: ∀(m:Nat) (c':Cell),(S.set n d)[m]? = some c'->c'.own=true -> ∃c'',S[m]? = some c''/\c''.own=true:=λm c' q hq=>by
  by_cases hm:n=m
  ·subst hm;exact⟨c,e,hc⟩
  ·rw[aJ hm]at q;exact⟨c',q,hq⟩
 refine⟨by rw[fW];exact h.len,λi j u1 u2 q1 q2 o1 o2 q3 =>?_,λm c' b q1 q2 =>?_,h.ext.upd kp (Pre.refl _) λo1 q=>by rw[e0]at q;cases q;exact⟨nf,nb⟩⟩
 ·obtain⟨w1,z1,y1⟩:=pick i u1 q1 o1
  obtain⟨w2,z2,y2⟩:=pick j u2 q2 o2
  exact h.inj i j w1 w2 z1 z2 y1 y2 q3
 ·by_cases hm:n=m
  ·subst hm
   rw[aZ hn]at q1
   cases q1
   rw[ea]at q2;cases q2
   exact r
  ·rw[aJ hm]at q1
   refine(h.cell m c' b q1 q2).mono kp (Pre.refl _) (λhc' =>?_) λo u hf =>?_
   ·refine bD ?_
    rintro rfl
    exact hm (h.inj n m c c' e q1 hc hc' (ea.trans q2.symm))
   ·rw[bD (pY hf e0 (eG (nf o u)))];exact hf
theorem HR.wr(h:HR K μ S H){n:Nat}{us ws:List U}{vs:List V}{a:Addr}(e:S[n]? = some (.lst us))(ea:μ[n]? = some a)(r:RUs H μ ws vs):HR K μ (S.set n (.lst ws)) (upd H a (.lst vs)):=by
 obtain⟨vs0,e0,r0⟩:=h.cell n _ a e ea
 exact h.wrC e ea rfl ⟨vs,dh,RUs.mono (bq.wr e0) (Pre.refl _) ws vs r⟩
theorem HR.newC(h:HR K μ S H){d:Cell}{p:Addr}{o':HO}(hp:H p=none)(hd:d.own=true)(r:oP K (upd H p o') (μ++[p]) p d):HR K (μ++[p]) (S++[d]) (upd H p o'):=by
 have kp:bq H (upd H p o'):=bq.new hp
 have pre:Pre μ (μ++[p]):=⟨[p],rfl⟩
 have old: ∀(n:Nat) (c:Cell),n<S.length->(S++[d])[n]? = some c->S[n]? = some c:=λn c hn q=>by rwa[aS hn]at q
 have last: ∀(n:Nat) (c:Cell),¬n<S.length->(S++[d])[n]? = some c->n=S.length:=λn c hn q=>by
  have:=(ah.mp q).1
  simp at this;omega
 have fresh: ∀(n:Nat) (c:Cell),S[n]? = some c->c.own=true -> ∀a,μ[n]? = some a->a≠p:=λn c q hc a qa=>by
  obtain⟨o,e,_⟩:=(h.cell n _ a q qa).has hc
  exact bG e hp
 have mulast:(μ++[p])[S.length]? = some p:=by rw[<- h.len,az (aq _)];simp
 have muold: ∀(n:Nat),n<S.length->(μ++[p])[n]? = μ[n]? := λn hn=>aS (by rw[h.len];exact hn)
 refine⟨by simp[h.len],λi j u1 u2 q1 q2 o1 o2 q3 =>?_,λm c b q1 q2 =>?_,h.ext.upd kp pre λo1 q=>by rw[hp]at q;cases q⟩
 ·by_cases hi:i<S.length
  ·by_cases hj:j<S.length
   ·rw[muold i hi,muold j hj]at q3
    exact h.inj i j u1 u2 (old i _ hi q1) (old j _ hj q2) o1 o2 q3
   ·have e:=last j _ hj q2
    subst e
    obtain⟨a,ha,_⟩:=h.get (old i _ hi q1)
    rw[muold i hi,mulast,ha]at q3
    exact absurd (bx q3) (fresh i u1 (old i _ hi q1) o1 a ha)
  ·have e:=last i _ hi q1
   subst e
   by_cases hj:j<S.length
   ·obtain⟨a,ha,_⟩:=h.get (old j _ hj q2)
    rw[muold j hj,mulast,ha]at q3
    exact absurd (bx q3).symm (fresh j u2 (old j _ hj q2) o2 a ha)
   ·exact(last j _ hj q2).symm
 ·by_cases hm:m<S.length
  ·rw[muold m hm]at q2
   refine(h.cell m c b (old m c hm q1) q2).mono kp pre (λhc =>?_) λo u hf =>?_
   ·exact bD (fresh m c (old m _ hm q1) hc b q2)
   ·rw[bD (bG hf hp)];exact hf
  ·have e:=last m c hm q1
   subst e
   rw[mulast]at q2;cases q2
   rw[az (aq _)]at q1
   simp at q1;subst q1
   exact r
theorem HR.new(h:HR K μ S H){us:List U}{vs:List V}{p:Addr}(hp:H p=none)(r:RUs H μ us vs):HR K (μ++[p]) (S++[.lst us]) (upd H p (.lst vs)):=
 h.newC hp rfl ⟨vs,dh,RUs.mono (bq.new hp) ⟨[p],rfl⟩ us vs r⟩
theorem HR.tup(h:HR K μ S H){vs:List V}{p:Addr}(hp:H p=none):HR K μ S (upd H p (.tup vs)):=by
 have kp:bq H (upd H p (.tup vs)):=bq.new hp
 refine⟨h.len,h.inj,λm c b q1 q2=>(h.cell m c b q1 q2).mono kp (Pre.refl _) (λhc =>?_) λo u hf =>?_,h.ext.upd kp (Pre.refl _) λo1 q=>by rw[hp]at q;cases q⟩
 ·obtain⟨o,e,_⟩:=(h.cell m _ b q1 q2).has hc
  exact bD (bG e hp)
 ·rw[bD (bG hf hp)];exact hf
theorem HR.sq(h:HR K μ S H){n:Nat}{us:List U}(e:getL S n=some us): ∃a vs,μ[n]? = some a/\SqL K H a vs/\RUs H μ us vs:=by
 unfold getL at e
 split at e
 ·rename_i ws q
  cases e
  obtain⟨a,ha,vs,e1,r⟩:=h.get q
  exact⟨a,vs,ha,SqL.of e1,r⟩
 ·rename_i ws q
  cases e
  obtain⟨a,ha,vs,e1,r⟩:=h.get q
  refine⟨a,vs,ha,?_,r⟩
  rcases e1 with⟨o,e1⟩ |e1
  ·exact .inl (.inr ⟨o,e1⟩)
  ·rcases e1 with (e1 | ⟨o,e1⟩) |e1
   ·cases e1
   ·cases e1
   ·exact .inr e1
 ·cases e
 ·cases e
 ·cases e
end
noncomputable def Aft(K:KX)(μ:List Addr)(H:Hp)(u:U)(S':Sto)(Q:VK):Prop:= ∀μ' v H',Pre μ μ'->bq H H'->HR K μ' S' H'->RU H' μ' u v->Q v H'
noncomputable def tM(K:KX)(m:ME):TE:=λσ H Q =>∃μ S ρ u S',HR K μ S H/\ER H μ ρ σ/\m ρ S=some (u,S')/\Aft K μ H u S' Q
noncomputable def tMT(K:KX)(m:MT):TT:=λσ H Q =>∃μ S ρ b S',HR K μ S H/\ER H μ ρ σ/\m ρ S=some (b,S') /\ ∀μ' H',Pre μ μ'->bq H H'->HR K μ' S' H'->Q b H'
noncomputable def tMA(K:KX)(m:MA):TA:=λσ H Q =>∃μ S ρ us S',HR K μ S H/\ER H μ ρ σ/\m ρ S=some (us,S') /\ ∀μ' vs H',Pre μ μ'->bq H H'->HR K μ' S' H'->RUs H' μ' us vs->Q vs H'
noncomputable def FlP(K:KX)(μ:List Addr)(H:Hp)(D:Ends):Fl×Rho×Sto->Prop
 | (.nx,ρ',S') =>∀μ' σ' H',Pre μ μ'->bq H H'->HR K μ' S' H'->ER H' μ' ρ' σ'->D.nx σ' H'
 | (.bk,ρ',S') =>∀μ' σ' H',Pre μ μ'->bq H H'->HR K μ' S' H'->ER H' μ' ρ' σ'->D.bk σ' H'
 | (.ct,ρ',S') =>∀μ' σ' H',Pre μ μ'->bq H H'->HR K μ' S' H'->ER H' μ' ρ' σ'->D.ct σ' H'
 | (.rt u,_,S')=>Aft K μ H u S' D.rt
noncomputable def tMS(K:KX)(m:MS):TS:=λD σ H =>∃μ S ρ r,HR K μ S H/\ER H μ ρ σ/\m ρ S=some r/\FlP K μ H D r
theorem Aft.mono{K:KX}{μ μ1:List Addr}{H H1:Hp}{u:U}{S':Sto}{Q:VK}(a:Aft K μ H u S' Q)(p:Pre μ μ1)(k:bq H H1):Aft K μ1 H1 u S' Q:=
 λμ' v H' p' k'=>a μ' v H' (p.trans p') (k.trans k')
theorem FlP.mono{K:KX}{μ μ1:List Addr}{H H1:Hp}{D:Ends}{r:Fl×Rho×Sto}(a:FlP K μ H D r)(p:Pre μ μ1)(k:bq H H1):FlP K μ1 H1 D r:=by
 obtain⟨f,ρ',S'⟩:=r
 cases f with
 | nx=>exact λμ' σ' H' p' k'=>a μ' σ' H' (p.trans p') (k.trans k')
 | bk=>exact λμ' σ' H' p' k'=>a μ' σ' H' (p.trans p') (k.trans k')
 | ct=>exact λμ' σ' H' p' k'=>a μ' σ' H' (p.trans p') (k.trans k')
 | rt u=>exact Aft.mono a p k
end _G
end
section
namespace _G
open PySem PySem.Spec _L
open PyProof.Rows hiding St
section
variable {K:KX}{σ:St}{H:Hp}{Q:VK}
theorem rW{A B:Prop}(h:A):if true=true then A else B:=by rw[if_pos rfl];exact h
theorem se{A B:Prop}(h:B):if false=true then A else B:=by rw[if_neg bz];exact h
theorem OW{i:Nat}(h:tM K (ab i) σ H Q):NT i σ H Q:=by
 obtain⟨μ,S,ρ,u,S',hr,er,e,k⟩:=h
 unfold ab at e
 split at e
 ·rename_i w q
  cases e
  obtain⟨v,hv,ru⟩:=er.get i _ q
  exact⟨v,hv,k μ v H (Pre.refl _) (bq.refl _) hr ru⟩
 ·cases e
theorem r_c{u:U}{v:V}(hv: ∀H μ,RU H μ u v)(h:tM K (mC u) σ H Q):tC v σ H Q:=by
 obtain⟨μ,S,ρ,u',S',hr,er,e,k⟩:=h
 cases e
 exact k μ v H (Pre.refl _) (bq.refl _) hr (hv _ _)
noncomputable def OpU(K:KX)(r:R2)(f:F2):Prop:= ∀(μ:List Addr) (S:Sto) (H:Hp) (x y:U) (vx vy:V) (u:U) (S':Sto) (Q:VK),HR K μ S H->RU H μ x vx->RU H μ y vy->f x y S=some (u,S')->Aft K μ H u S' Q->r vx vy H Q
theorem xO{r:R2}{f:F2}{a b:ME}(o:OpU K r f)(h:tM K (m2 f a b) σ H Q):tOp r (tM K a) (tM K b) σ H Q:=by
 obtain⟨μ,S,ρ,u,S',hr,er,e,k⟩:=h
 obtain⟨x,S1,e1,e⟩:=be e
 obtain⟨y,S2,e2,e⟩:=be e
 refine⟨μ,S,ρ,x,S1,hr,er,e1,λμ1 vx H1 p1 k1 hr1 rx =>?_⟩
 refine⟨μ1,S1,ρ,y,S2,hr1,er.mono k1 p1,e2,λμ2 vy H2 p2 k2 hr2 ry =>?_⟩
 exact o μ2 S2 H2 x y vx vy u S' Q hr2 (RU.mono k2 p2 x vx rx) ry e (k.mono (p1.trans p2) (k1.trans k2))
noncomputable def UnU(K:KX)(r:V->Hp->VK->Prop)(f:U->Sto->Res U):Prop:= ∀(μ:List Addr) (S:Sto) (H:Hp) (x:U) (vx:V) (u:U) (S':Sto) (Q:VK),HR K μ S H->RU H μ x vx->f x S=some (u,S')->Aft K μ H u S' Q->r vx H Q
theorem QK{r:V->Hp->VK->Prop}{f:U->Sto->Res U}{a:ME}(o:UnU K r f)(h:tM K (m1 f a) σ H Q):tUn r (tM K a) σ H Q:=by
 obtain⟨μ,S,ρ,u,S',hr,er,e,k⟩:=h
 obtain⟨x,S1,e1,e⟩:=be e
 refine⟨μ,S,ρ,x,S1,hr,er,e1,λμ1 vx H1 p1 k1 hr1 rx =>?_⟩
 exact o μ1 S1 H1 x vx u S' Q hr1 rx e (k.mono p1 k1)
theorem Aft.now{μ:List Addr}{S:Sto}{u:U}{v:V}(k:Aft K μ H u S Q)(hr:HR K μ S H)(r:RU H μ u v):Q v H:=k μ v H (Pre.refl _) (bq.refl _) hr r
theorem eX{μ:List Addr}{i:Int}:RU H μ (.int i) (.int i):=by simp[RU]
theorem iD{μ:List Addr}{b:Bool}:RU H μ (.bl b) (.bl b):=by simp[RU]
theorem rH{μ:List Addr}:RU H μ .non .non:=by simp[RU]
theorem ll{μ:List Addr}{us:List U}{vs:List V}{a:Addr}(e:H a=some (.tup vs))(r:RUs H μ us vs):RU H μ (.tup us) (.ref a):=by
 simp only[RU];exact⟨a,vs,rfl,e,r⟩
theorem AI{μ:List Addr}{n:Nat}{a:Addr}(e:μ[n]? = some a):RU H μ (.ref n) (.ref a):=by
 simp only[RU];exact⟨a,rfl,e⟩
theorem cZ{μ:List Addr}{i:Int}{v:V}(h:RU H μ (.int i) v):v = .int i:=by simpa only [RU]using h
theorem jM{μ:List Addr}{b:Bool}{v:V}(h:RU H μ (.bl b) v):v = .bl b:=by simpa only [RU]using h
theorem gp{μ:List Addr}{us:List U}{v:V}(h:RU H μ (.tup us) v): ∃a vs,v = .ref a/\H a=some (.tup vs)/\RUs H μ us vs:=by simpa only [RU]using h
theorem fJ{μ:List Addr}{n:Nat}{v:V}(h:RU H μ (.ref n) v): ∃a,v = .ref a/\μ[n]? = some a:=by simpa only [RU]using h
theorem B5{g:Int->Int->V}{f:F2}{k:Int->Int->U}(hf: ∀x y S u S',f x y S=some (u,S') -> ∃i j,x = .int i/\y = .int j/\u=k i j/\S'=S)(hg: ∀H μ i j,RU H μ (k i j) (g i j)):OpU K (rI0 g) f:=by
 intro μ S H x y vx vy u S' Q hr rx ry e a
 obtain⟨i,j,rfl,rfl,rfl,rfl⟩:=hf x y S u S' e
 exact⟨i,j,cZ rx,cZ ry,a.now hr (hg _ _ _ _)⟩
theorem A3{C:Int->Int->Prop}{g:Int->Int->V}{f:F2}{k:Int->Int->U}(hf: ∀x y S u S',f x y S=some (u,S') -> ∃i j,x = .int i/\y = .int j/\C i j/\u=k i j/\S'=S)(hg: ∀H μ i j,RU H μ (k i j) (g i j)):OpU K (rI C g) f:=by
 intro μ S H x y vx vy u S' Q hr rx ry e a
 obtain⟨i,j,rfl,rfl,c,rfl,rfl⟩:=hf x y S u S' e
 exact⟨i,j,cZ rx,cZ ry,c,a.now hr (hg _ _ _ _)⟩
theorem Km:OpU K (rI0 λi j => .int (i - j)) u0:=B5 (k:=λi j => .int (i - j)) (λx y S u S' h=>by
 unfold u0 at h;split at h <;> simp at h;obtain⟨rfl,rfl⟩:=h;exact⟨_,_,rfl,rfl,rfl,rfl⟩) λ_ _ _ _=>eX
theorem Ld:OpU K (rI HS λi j => .int (i*j)) hV:=by
 intro μ S H x y vx vy u S' Q hr rx ry e a
 unfold hV at e
 split at e
 ·split at e
  ·rename_i hc
   simp at e;obtain⟨rfl,rfl⟩:=e
   exact⟨_,_,cZ rx,cZ ry,hc,a.now hr eX⟩
  ·cases e
 ·cases e
theorem Li:OpU K (rI OY λi j => .int (i / j)) oDiv:=A3 (k:=λi j => .int (i / j)) (λx y S u S' h=>by
 unfold oDiv at h;split at h
 ·split at h
  ·rename_i hc;simp at h;obtain⟨rfl,rfl⟩:=h;exact⟨_,_,rfl,rfl,hc,rfl,rfl⟩
  ·cases h
 ·cases h) λ_ _ _ _=>eX
theorem KS:OpU K (rI (λ_ j=>0<j) λi j => .int (i % j)) oMod:=A3 (k:=λi j => .int (i % j)) (λx y S u S' h=>by
 unfold oMod at h;split at h
 ·split at h
  ·rename_i hc;simp at h;obtain⟨rfl,rfl⟩:=h;exact⟨_,_,rfl,rfl,hc,rfl,rfl⟩
  ·cases h
 ·cases h) λ_ _ _ _=>eX
theorem KQ:OpU K (rI Pb λi j => .int (i ^ j.toNat)) xH:=A3 (k:=λi j => .int (i ^ j.toNat)) (λx y S u S' h=>by
 unfold xH at h;split at h
 ·split at h
  ·rename_i hc;simp at h;obtain⟨rfl,rfl⟩:=h;exact⟨_,_,rfl,rfl,hc,rfl,rfl⟩
  ·cases h
 ·cases h) λ_ _ _ _=>eX
theorem AE{p:Int->Int->Bool}:OpU K (rI0 λi j => .bl (p i j)) (GP p):=B5 (k:=λi j => .bl (p i j)) (λx y S u S' h=>by
 unfold GP at h;split at h <;> simp at h;obtain⟨rfl,rfl⟩:=h;exact⟨_,_,rfl,rfl,rfl,rfl⟩) λ_ _ _ _=>iD
noncomputable def JX(K:av):R2:=λx y H Q =>∃a b ys,x = .ref a/\y = .ref b/\SqT K H a []/\SqT K H b ys/\Q (.ref b) H
theorem H9{X:Cx}:OpR X (binaryOp .Add) (JX X.K):=by
 intro pins s σ H x y v u Q I rx ry h
 obtain⟨a,b,ys,rfl,rfl,h1,h2,q⟩:=h
 cases (show v=bj a from rx)
 cases (show u=bj b from ry)
 obtain⟨its,r1,p1,_⟩:=I.tuple h1
 obtain⟨its2,r2,p2,_⟩:=I.tuple h2
 cases r1
 exact HT.cat_tup0 p1 p2 ⟨.ref b,H,I,rfl,q⟩
theorem LQ:OpU K (λx y H Q=>rI0 (λi j => .int (i+j)) x y H Q\/JL K x y H Q\/JX K x y H Q) da:=by
 intro μ S H x y vx vy u S' Q hr rx ry e a
 unfold da at e
 split at e
 ·simp at e;obtain⟨rfl,rfl⟩:=e
  exact .inl ⟨_,_,cZ rx,cZ ry,a.now hr eX⟩
 ·rename_i xs ys
  split at e
  ·rename_i hc
   simp at e;obtain⟨rfl,rfl⟩:=e
   obtain⟨p,vs,rfl,hp,r1⟩:=gp rx
   obtain⟨q,ws,rfl,hq,r2⟩:=gp ry
   by_cases hx:xs = []
   ·subst hx
    have hv:vs = []:=by have:=r1.len;exact dw (by simpa using this.symm)
    subst hv
    exact .inr (.inr ⟨p,q,ws,rfl,rfl,.inl (.inl hp),.inl (.inl hq),a.now hr (ll hq r2)⟩)
   refine .inr (.inl ⟨p,q,vs,ws,rfl,rfl,.inl (.inl hp),.inl (.inl hq),?_,?_,λz =>?_,λz t ht =>?_⟩)
   ·intro z;subst z;have:=r1.len;exact hx (dw (by simpa using this))
   ·have h1:=r1.len;have h2:=r2.len;unfold big at hc;rw[sizeLine_eq];omega
   ·subst z
    have:ys = []:=by have:=r2.len;exact dw (by simpa using this)
    subst this
    rw[iB]at a
    exact a.now hr (ll hp r1)
   ·refine a μ _ _ (Pre.refl _) (bq.new ht) (hr.tup ht) ?_
    have kp:bq H (upd H t (.tup (vs++ws))):=bq.new ht
    exact ll dh ((RUs.mono kp (Pre.refl _) _ _ r1).append (RUs.mono kp (Pre.refl _) _ _ r2))
  ·cases e
 ·cases e
theorem HR.seq{μ:List Addr}{S:Sto}{x:U}{v:V}{us:List U}(hr:HR K μ S H)(r:RU H μ x v)(e:d0 S x=some us): ∃a vs,v = .ref a/\(SqL K H a vs\/SqT K H a vs)/\RUs H μ us vs:=by
 unfold d0 at e
 split at e
 ·cases e
  obtain⟨a,vs,rfl,h,q⟩:=gp r
  exact⟨a,vs,rfl,.inr (.inl (.inl h)),q⟩
 ·obtain⟨a,rfl,ha⟩:=fJ r
  obtain⟨a',vs,ha',hs,q⟩:=hr.sq e
  rw[ha]at ha';cases ha'
  exact⟨a,vs,rfl,.inl hs,q⟩
 ·cases e
theorem Jj{μ:List Addr}{us:List U}{vs:List V}{i:Int}{u:U}(r:RUs H μ us vs)(e:atI us i=some u): ∃v,atI vs i=some v/\RU H μ u v:=by
 unfold atI at e ⊢
 rw[<- r.len]
 cases q:ixN us.length i with
 | none=>rw[q]at e;cases e
 | some j=>
   rw[q]at e
   exact r.get e
theorem pU{μ:List Addr}{y:U}{v:V}{k:Key}(r:RU H μ y v)(e:keyOf y=some k):v=kV k:=by
 cases y <;> simp only[keyOf,fC,reduceCtorEq]at e <;> subst e <;> (simp only[RU]at r;exact r)
theorem BM{κ:Type} [DecidableEq κ] {μ:List Addr}{k:κ}{u:U}: ∀{kvs:List (κ×U)}{vs:List V},RUs H μ (kvs.map (·.2)) vs->oB kvs k=some u -> ∃v,mU (dV kvs vs) k=some v/\RU H μ u v
 | [],vs,r,e=>by cases e
 | (j,x)::kvs,vs,r,e=>by
   obtain⟨v,r',rfl,a,b⟩:=r.inv
   show ∃w,mU ((j,v)::dV kvs r') k=some w/\_
   by_cases h:j=k
   ·rw[nr h]
    simp[oB,cJ,h]at e
    subst e
    exact⟨v,rfl,a⟩
   ·rw[mN h]
    refine BM b ?_
    simpa [oB,cJ,h]using e
theorem ux{κ:Type} [DecidableEq κ] {k:κ}: ∀{kvs:List (κ×U)}{vs:List V},kvs.length=vs.length->(mU (dV kvs vs) k).isSome=(oB kvs k).isSome
 | [],vs,_=>by simp[dV,mU,oB]
 | (j,x)::kvs,[],h=>by simp at h
 | (j,x)::kvs,v::vs,h=>by
   show(mU ((j,v)::dV kvs vs) k).isSome=_
   by_cases hj:j=k
   ·rw[nr hj];simp[oB,cJ,hj]
   ·rw[mN hj,ux (by simpa using h)];simp[oB,cJ,hj]
theorem Em{κ:Type} [DecidableEq κ] {k:κ}: ∀{kvs:List (κ×U)}{vs:List V},kvs.length=vs.length->((dV kvs vs).any λkv=>decide (kv.1=k))=kvs.any λkv=>decide (kv.1=k)
 | [],vs,_=>by simp[dV]
 | (j,x)::kvs,[],h=>by simp at h
 | (j,x)::kvs,v::vs,h=>by
   show(((j,v)::dV kvs vs).any λkv=>decide (kv.1=k))=_
   rw[ix,ix,Em (by simpa using h)]
theorem FE{κ:Type}{kvs:List (κ×U)}{vs:List V}(h:kvs.length=vs.length):(dV kvs vs).length=kvs.length:=by
 simp[dV,h]
theorem BB{κ:Type} [DecidableEq κ] {μ:List Addr}{k:κ}{u:U}{v:V} (ru:RU H μ u v): ∀{kvs:List (κ×U)}{vs:List V},RUs H μ (kvs.map (·.2)) vs ->
  ∃ws,dV (kvs.map λkv=>if kv.1=k then(kv.1,u) else kv) ws=(dV kvs vs).map (λkv=>if kv.1=k then(kv.1,v) else kv)/\RUs H μ ((kvs.map λkv=>if kv.1=k then(kv.1,u) else kv).map (·.2)) ws
 | [],vs,r=>⟨[],by simp[dV],.nil⟩
 | (j,x)::kvs,vs,r=>by
   obtain⟨w,r',rfl,a,b⟩:=r.inv
   obtain⟨ws,e,q⟩:=BB ru b
   show ∃ws',dV ((if j=k then(j,u) else(j,x))::kvs.map λkv=>if kv.1=k then(kv.1,u) else kv) ws'=(if j=k then(j,v) else(j,w))::(dV kvs r').map (λkv=>if kv.1=k then(kv.1,v) else kv)/\RUs H μ (((if j=k then(j,u) else(j,x))::kvs.map λkv=>if kv.1=k then(kv.1,u) else kv).map (·.2)) ws'
   by_cases h:j=k
   ·rw[if_pos h,if_pos h]
    exact⟨v::ws,by rw[<- e];rfl,.cons ru q⟩
   ·rw[if_neg h,if_neg h]
    exact⟨w::ws,by rw[<- e];rfl,.cons a q⟩
theorem JF{κ:Type} [DecidableEq κ] {μ:List Addr}{k:κ}{u:U}{v:V}{kvs:List (κ×U)}{vs:List V} (ru:RU H μ u v) (r:RUs H μ (kvs.map (·.2)) vs): ∃ws,dV (AD kvs k u) ws=putK (dV kvs vs) k v/\RUs H μ ((AD kvs k u).map (·.2)) ws:=by
 have hl:kvs.length=vs.length:=by have:=r.len;rwa[ak]at this
 unfold AD putK
 rw[Em hl]
 split
 ·exact BB ru r
 ·refine⟨vs++[v],?_,by rw[cj];exact r.append (.cons ru .nil)⟩
  unfold dV
  rw[cj,List.zip_append (by simpa using hl)]
  rfl
theorem HR.dic{μ:List Addr}{S:Sto}{x:U}{v:V}{kvs:List (Key×U)}(hr:HR K μ S H)(r:RU H μ x v)(e:fP S x=some kvs): ∃a vs,v = .ref a/\H a=some (.dK (dV kvs vs))/\RUs H μ (kvs.map (·.2)) vs:=by
 unfold fP at e
 split at e
 ·split at e
  ·rename_i q
   cases e
   obtain⟨a,rfl,ha⟩:=fJ r
   obtain⟨vs,e1,r1⟩:=hr.cell _ _ a q ha
   exact⟨a,vs,rfl,e1,r1⟩
  ·cases e
 ·cases e
noncomputable def PR:R2:=λx y H Q =>∃a v,x = .ref a/\v5 H a y (some v)/\Q v H
noncomputable def QO(K:av):R2:=λx y H Q=>rIx K x y H Q\/PR x y H Q
theorem LG{X:Cx}(hu:X.A.units+1<cLine):IxR X PR:=by
 intro value slice pins s σ H x y v u Q I rx ry h hs
 obtain⟨a,w,rfl,g,q⟩:=h
 obtain rfl:v=bj a:=rx
 exact tail_any (yw I g) PySem.F.slot_dict_getitem.lookup (Do hu I g ry λw' s3 I3 rw'=>⟨w,H,I3,rw',q⟩) hs
theorem Pj:OpU K (QO K) oIx:=by
 intro μ S H x y vx vy u S' Q hr rx ry e a
 unfold oIx at e
 split at e
 ·rename_i kvs qd
  cases qk:keyOf y with
  | none=>rw[qk]at e;cases e
  | some kk=>
    rw[qk]at e
    simp only[ag]at e
    cases qv:oB kvs kk with
    | none=>rw[qv]at e;cases e
    | some w=>
      rw[qv]at e
      simp at e;obtain⟨rfl,rfl⟩:=e
      obtain⟨p,vs,rfl,hp,r⟩:=hr.dic rx qd
      obtain⟨v,hv,rv⟩:=BM r qv
      rw[pU ry qk]
      exact .inr ⟨p,v,rfl,.inl ⟨_,kk,.inl hp,rfl,hv.symm⟩,a.now hr rv⟩
 split at e
 ·rename_i i
  refine .inl ?_
  cases q:d0 S x with
  | none=>rw[q]at e;cases e
  | some us=>
    rw[q]at e
    simp only[ag]at e
    cases z:atI us i with
    | none=>rw[z]at e;cases e
    | some w=>
      rw[z]at e
      simp at e;obtain⟨rfl,rfl⟩:=e
      obtain⟨p,vs,rfl,hs,r⟩:=hr.seq rx q
      obtain⟨v,hv,rv⟩:=Jj r z
      rcases hs with hs |hs
      ·exact .inl ⟨p,vs,i,v,rfl,cZ ry,hs,hv,a.now hr rv⟩
      ·exact .inr (.inl ⟨p,vs,i,v,rfl,cZ ry,hs,hv,a.now hr rv⟩)
 ·cases e
theorem MB:UnU K (rU λi => .int (-i)) jn:=by
 intro μ S H x vx u S' Q hr rx e a
 unfold jn at e
 split at e
 ·cases e
  exact⟨_,cZ rx,a.now hr eX⟩
 ·cases e
theorem Nx{Q:List V->Hp->Prop}(h:tMA K af σ H Q):AF σ H Q:=by
 obtain⟨μ,S,ρ,us,S',hr,er,e,k⟩:=h
 cases e
 exact k μ [] H (Pre.refl _) (bq.refl _) hr .nil
theorem Mp{a:ME}{r:MA}{Q:List V->Hp->Prop}(h:tMA K (aa a r) σ H Q):uU (tM K a) (tMA K r) σ H Q:=by
 obtain⟨μ,S,ρ,us,S',hr,er,e,k⟩:=h
 obtain⟨x,S1,e1,e⟩:=be e
 obtain⟨xs,S2,e2,e⟩:=be e
 cases e
 refine⟨μ,S,ρ,x,S1,hr,er,e1,λμ1 vx H1 p1 k1 hr1 rx =>?_⟩
 refine⟨μ1,S1,ρ,xs,_,hr1,er.mono k1 p1,e2,λμ2 vs H2 p2 k2 hr2 rs =>?_⟩
 exact k μ2 _ H2 (p1.trans p2) (k1.trans k2) hr2 (.cons (RU.mono k2 p2 x vx rx) rs)
theorem NK{a:MA}(h:tM K (fN a) σ H Q):NG (tMA K a) σ H Q:=by
 obtain⟨μ,S,ρ,u,S',hr,er,e,k⟩:=h
 obtain⟨xs,S1,e1,e⟩:=be e
 split at e
 ·rename_i hc
  cases e
  refine⟨μ,S,ρ,xs,_,hr,er,e1,λμ1 vs H1 p1 k1 hr1 rs=>⟨?_,λp hp =>?_⟩⟩
  ·have:=rs.len;unfold big at hc;rw[sizeLine_eq];omega
  ·exact k μ1 _ _ p1 (k1.trans (bq.new hp)) (hr1.tup hp) (ll dh (RUs.mono (bq.new hp) (Pre.refl _) _ _ rs))
 ·cases e
theorem lH{μ:List Addr}{S:Sto}{us:List U}{vs:List V}{p:Addr}(k:Aft K μ H (.ref S.length) (S++[.lst us]) Q)(hr:HR K μ S H)(rs:RUs H μ us vs)(hp:H p=none):Q (.ref p) (upd H p (.lst vs)):=by
 refine k (μ++[p]) _ _ ⟨[p],rfl⟩ (bq.new hp) (hr.new hp rs) (AI ?_)
 rw[<- hr.len,az (aq _)];simp
theorem PM{a:MA}(h:tM K (dz a) σ H Q):O6 (tMA K a) σ H Q:=by
 obtain⟨μ,S,ρ,u,S',hr,er,e,k⟩:=h
 obtain⟨xs,S1,e1,e⟩:=be e
 split at e
 ·rename_i hc
  cases e
  refine⟨μ,S,ρ,xs,S1,hr,er,e1,λμ1 vs H1 p1 k1 hr1 rs=>⟨?_,λp hp =>?_⟩⟩
  ·have:=rs.len;unfold big at hc;rw[sizeLine_eq];omega
  ·exact lH (k.mono p1 k1) hr1 rs hp
 ·cases e
noncomputable def rT(K:KX)(r:List V->Hp->VK->Prop)(f:MF):Prop:= ∀(μ:List Addr) (S:Sto) (H:Hp) (us:List U) (vs:List V) (u:U) (S':Sto) (Q:VK),HR K μ S H->RUs H μ us vs->f us S=some (u,S')->Aft K μ H u S' Q->r vs H Q
theorem AG{r:List V->Hp->VK->Prop}{f:MF}{a:MA}(o:rT K r f)(h:tM K (mFn f a) σ H Q):tCB r (tMA K a) σ H Q:=by
 obtain⟨μ,S,ρ,u,S',hr,er,e,k⟩:=h
 obtain⟨xs,S1,e1,e⟩:=be e
 refine⟨μ,S,ρ,xs,S1,hr,er,e1,λμ1 vs H1 p1 k1 hr1 rs =>?_⟩
 exact o μ1 S1 H1 xs vs u S' Q hr1 rs e (k.mono p1 k1)
noncomputable def spM(K:KX)(m:MF):Sp:=λvs H Q _ =>∃μ S us u S',HR K μ S H/\RUs H μ us vs/\m us S=some (u,S')/\Aft K μ H u S' Q
theorem Gm{f:MF}{a:MA}{E:XK}(h:tM K (mFn f a) σ H Q):BX (spM K f) [] E (tMA K a) σ H Q:=by
 obtain⟨μ,S,ρ,u,S',hr,er,e,k⟩:=h
 obtain⟨xs,S1,e1,e⟩:=be e
 refine⟨μ,S,ρ,xs,S1,hr,er,e1,λμ1 vs H1 p1 k1 hr1 rs =>?_⟩
 show spM K f (vs++[]) H1 Q E
 rw[iB]
 exact⟨μ1,S1,xs,u,S',hr1,rs,e,k.mono p1 k1⟩
theorem K4:rT K (λxs H Q=>(∃p ys,xs = [.ref p]/\(SqL K H p ys\/SqT K H p ys)/\Q (.int ys.length) H) \/ ∃a kvs,xs = [V.ref a]/\H a=some (.dK kvs)/\Q (.int kvs.length) H) bJ:=by
 intro μ S H us vs u S' Q hr rs e a
 unfold bJ at e
 split at e
 ·rename_i x
  obtain⟨v,r,rfl,rx,rn⟩:=rs.inv
  rw[rn.nil_inv]
  split at e
  ·rename_i kvs qd
   cases e
   obtain⟨p,ws,rfl,hp,r'⟩:=hr.dic rx qd
   refine .inr ⟨p,_,rfl,hp,?_⟩
   have hl:kvs.length=ws.length:=by have:=r'.len;rwa[ak]at this
   rw[FE hl]
   exact a.now hr eX
  cases q:d0 S x with
  | none=>rw[q]at e;cases e
  | some ws=>
    rw[q]at e;cases e
    obtain⟨p,ys,rfl,hs,r'⟩:=hr.seq rx q
    refine .inl ⟨p,ys,rfl,hs,?_⟩
    rw[<- r'.len]
    exact a.now hr eX
 ·cases e
theorem Ew:rT K (λxs H Q =>∃p ys,xs = [.ref p]/\((SqL K H p ys /\ ∀l,H l=none->Q (.ref l) (upd H l (.tup ys)))\/(SqT K H p ys/\Q (.ref p) H))) bT:=by
 intro μ S H us vs u S' Q hr rs e a
 unfold bT at e
 split at e
 ·rename_i x
  obtain⟨v,r,rfl,rx,rn⟩:=rs.inv
  rw[rn.nil_inv]
  unfold d0 at e
  split at e
  ·cases e
   obtain⟨p,ys,rfl,hp,r'⟩:=gp rx
   exact⟨p,ys,rfl,.inr ⟨.inl (.inl hp),a.now hr (ll hp r')⟩⟩
  ·rename_i n
   cases q:getL S n with
   | none=>rw[q]at e;cases e
   | some ws=>
     rw[q]at e;cases e
     obtain⟨p,rfl,hp⟩:=fJ rx
     obtain⟨p',ys,hp',hs,r'⟩:=hr.sq q
     rw[hp]at hp';cases hp'
     refine⟨p,ys,rfl,.inl ⟨hs,λl hl =>?_⟩⟩
     exact a μ _ _ (Pre.refl _) (bq.new hl) (hr.tup hl) (ll dh (RUs.mono (bq.new hl) (Pre.refl _) _ _ r'))
  ·cases e
 ·cases e
theorem K5:rT K (λxs H Q =>∃i j,xs = [.int i,.int j]/\Q (.int (if j > i then j else i)) H) zX:=by
 intro μ S H us vs u S' Q hr rs e a
 unfold zX at e
 split at e
 ·cases e
  obtain⟨v,r,rfl,rx,rs⟩:=rs.inv
  obtain⟨w,r,rfl,ry,rn⟩:=rs.inv
  rw[rn.nil_inv,cZ rx,cZ ry]
  exact⟨_,_,rfl,a.now hr eX⟩
 ·cases e
theorem wB: ∀{ns:List Int}{m:Int},AN ns=some m->m∈ns /\ ∀a∈ns,m<=a
 | [],m,h=>by cases h
 | x::xs,m,h=>by
   unfold AN at h
   cases q:AN xs with
   | none=>
     rw[q]at h;cases h
     cases xs with
     | nil=>exact⟨aU,λa ha=>by simp at ha;omega⟩
     | cons y ys=>
       exfalso
       unfold AN at q
       split at q <;> cases q
   | some k=>
     rw[q]at h
     obtain⟨h1,h2⟩:=wB q
     have e:(if k<x then k else x)=m:=bx h
     by_cases hk:k<x
     ·rw[if_pos hk]at e;subst e
      refine⟨aw _ h1,λa ha =>?_⟩
      rcases aK.mp ha with z |z
      ·omega
      ·exact h2 a z
     ·rw[if_neg hk]at e;subst e
      refine⟨aU,λa ha =>?_⟩
      rcases aK.mp ha with z |z
      ·omega
      ·have:=h2 a z;omega
theorem nX{μ:List Addr}: ∀{us:List U}{vs:List V}{ns:List Int},RUs H μ us vs->cH oA us=some ns->vs=ns.map V.int
 | [],vs,ns,r,e=>by cases e;rw[r.nil_inv];rfl
 | u::us,vs,ns,r,e=>by
   obtain⟨v,r',rfl,a,b⟩:=r.inv
   unfold cH at e
   cases u with
   | int x=>
     simp only[oA,ag]at e
     cases q:cH oA us with
     | none=>rw[q]at e;cases e
     | some cs=>
       rw[q]at e;cases e
       rw[cZ a,nX b q];rfl
   | _=>cases e
noncomputable def Fm(K:av):List V->Hp->VK->Prop:=λxs H Q =>∃p t a r,xs = [.ref p]/\SqL K H p (.ref t::r)/\SqT K H t (a.map V.int)/\(∀u∈r,∃t' b,u = .ref t'/\SqT K H t' (b.map V.int)/\HT.lexLt b a=false)/\Q (.ref t) H
noncomputable def P0(K:av):List V->Hp->VK->Prop:=λxs H Q=>((∃i j,xs = [.int i,.int j]/\Q (.int (if j<i then j else i)) H) \/ ∃(p:Addr) (ns:List Int) (m:Int),xs = [.ref p]/\SqL K H p (ns.map V.int)/\m∈ns/\(∀a∈ns,m<=a)/\Q (.int m) H)\/Fm K xs H Q
theorem nY: ∀{ns:List Int}{us:List Value},cy (ns.map V.int) us->IntsAre us ns
 | [],us,r=>by cases r;exact .nil
 | n::ns,us,r=>by
   cases r with
   | cons a b=>
     obtain⟨t,rfl⟩:=a
     exact .cons n t (nY b)
theorem qH: ∀l:List Int,HT.lexLt l l=false
 | []=>rfl
 | x::l=>by rw[HT.lexLt_cons,if_pos rfl];exact qH l
theorem Dz {X:Cx} (hc:X.calm=true) (hu:X.A.units+64 < cLine):iq X (.builtin "min") (Fm X.K):=by
 intro pins s σ H xs us Q I rs h
 obtain⟨p,t,a,r,rfl,hS,hT,hall,q⟩:=h
 cases rs with
 | cons r1 rr=>
   cases rr
   cases (show _=bj p from r1)
   obtain⟨its,rv,pl,_⟩:=I.list hS
   have e0:its.toArray[0]? = some (bj t):=by
    obtain⟨u,hu,ru⟩:=rv.get (i:=0) (x:= .ref t) rfl
    cases (show u=bj t from ru)
    simpa using hu
   obtain⟨ia,ra,ta,_⟩:=I.tuple hT
   refine Qi (I.ok.hd hc) pl.isList e0 (λj v s' Q' E' hv hd hq =>?_) λh' tk hk=>⟨.ref t,H,I.kept λb u e=>hk b u (by simp) e,rfl,q⟩
   have hj:j<(V.ref t::r).length:=by
    have:=(kY.mp hv).1
    rw[rv.length];simpa using this
   obtain⟨u,hu',ru⟩:=rv.get (i:=j) (x:=(V.ref t::r)[j]) (bw hj)
   have ev:u=v:=by
    have:its[j]? = some v:=by simpa using hv
    rw[hu']at this;exact bx this
   obtain⟨t',b,e1,hb,hl⟩ : ∃t' b,(V.ref t::r)[j] = .ref t'/\SqT X.K H t' (b.map V.int)/\HT.lexLt b a=false:=by
    rcases aK.mp (fk hj) with z |z
    ·exact⟨t,a,z,hT,qH a⟩
    ·exact hall _ z
   rw[e1]at ru
   cases (show u=bj t' from ru)
   subst ev
   obtain⟨ib,rb,tb,_⟩:=I.tuple hb
   have mv: ∀{c:Addr}{l:Array Value},IsTup s.heap c l->IsTup s'.heap c l:=fun⟨o,ho,z⟩=>⟨o,hd _ _ (by simp) ho,z⟩
   exact HT.lt_tupInts (mv tb) (mv ta) (nY rb) (nY ra) (show X.A.units+1<cLine by omega) (by rw[hl];exact hq)
theorem De {X:Cx} (hc:X.calm=true) (hu:X.A.units+64 < cLine):iq X (.builtin "min") (P0 X.K):=by
 intro pins s σ H xs us Q I rs h
 rcases h with (h | ⟨p,ns,m,rfl,hS,hm,hle,q⟩) |h
 ·exact CC hc pins s σ H xs us Q I rs h
 rotate_left
 ·exact Dz hc hu pins s σ H xs us Q I rs h
 cases rs with
 | cons r1 rr=>
   cases rr
   cases (show _=bj p from r1)
   obtain⟨its,rv,pl,_⟩:=I.list hS
   have hI:=nY rv
   have hl:=pl.isList
   obtain⟨ys,ey⟩:=hI.allInts.items
   have en:ns=ys.toList.map vD:=by rw[<- hI.numsOf,<- nums_intItems,<- ey]
   have lenE:ns.length=ys.size:=by rw[en];simp
   have pos:0<ys.size:=by rw[<- lenE];exact oZ hm
   rw[ey]at hl
   refine min_intList (I.ok.hd hc) hl pos λv h' tk hv hk =>?_
   obtain⟨t,rfl⟩:=intItems_at hv
   obtain⟨b1,b2⟩:=argBest_lt (numAt ys) (ys.size - 1)
   have hin:numAt ys (argBest (λi j=>decide (numAt ys i<numAt ys j)) (ys.size - 1))∈ns:=by
    rw[en,numAt_eq]
    exact getD_mem (by rw[ak,cK];omega)
   obtain⟨j,hj,ej⟩:=mem_getD (show m∈ys.toList.map vD from en▸hm)
   have hj':j<=ys.size - 1:=by rw[ak,cK]at hj;omega
   have le2:=b2 j hj'
   rw[numAt_eq ys j,ej]at le2
   have le1:=hle _ hin
   have eq:numAt ys (argBest (λi j=>decide (numAt ys i<numAt ys j)) (ys.size - 1))=m:=by omega
   exact⟨.int m,H,I.kept hk,⟨t,by rw[eq]⟩,q⟩
theorem zo{μ:List Addr}{S:Sto}(hr:HR K μ S H): ∀{us:List U}{vs:List V}{l:List (List Int)},RUs H μ us vs->cH jt us=some l -> ∀{a:List Int},(l.all λb => !HT.lexLt b a)=true -> ∀v∈vs,∃t' b,v = .ref t'/\SqT K H t' (b.map V.int)/\HT.lexLt b a=false
 | [],vs,l,r,e,a,h=>by rw[r.nil_inv];intro v hv;cases hv
 | u::us,vs,l,r,e,a,h=>by
   obtain⟨v,r',rfl,a1,b1⟩:=r.inv
   unfold cH at e
   cases u with
   | tup ws=>
     cases q1:cH oA ws with
     | none=>simp only[jt,q1,Option.bind_none]at e;cases e
     | some ns=>
       simp only[jt,q1,ag]at e
       cases q:cH jt us with
       | none=>rw[q]at e;cases e
       | some cs=>
         rw[q]at e;cases e
         rw[b9,aA]at h
         intro v' hv
         rcases aK.mp hv with rfl |hv
         ·obtain⟨p,ps,rfl,hp,rs⟩:=gp a1
          rw[nX rs q1]at hp
          exact⟨p,ns,rfl,(.inl (.inl hp)),by simpa using h.1⟩
         ·exact zo hr b1 q h.2 v' hv
   | _=>cases e
theorem Od:OpU K (λx y H Q=>rI0 (λi j => .bl (decide (j<i))) x y H Q\/Pe K x y H Q) oGt:=by
 intro μ S H x y vx vy u S' Q hr rx ry e a
 unfold oGt at e
 split at e
 ·simp at e;obtain⟨rfl,rfl⟩:=e
  exact .inl ⟨_,_,cZ rx,cZ ry,a.now hr iD⟩
 ·rename_i xs ys
  cases q1:cH oA xs with
  | none=>rw[q1]at e;cases e
  | some ns=>
    cases q2:cH oA ys with
    | none=>rw[q1,q2]at e;cases e
    | some ms=>
      rw[q1,q2]at e;cases e
      obtain⟨p,vs,rfl,hp,r1⟩:=gp rx
      obtain⟨q,ws,rfl,hq,r2⟩:=gp ry
      exact .inr ⟨p,q,ns,ms,rfl,rfl,.inl (.inl (nX r1 q1▸hp)),.inl (.inl (nX r2 q2▸hq)),a.now hr iD⟩
 ·cases e
theorem IK{μ:List Addr}{S S':Sto}{n:Nat}{v:V}{xs:List U}{u:U}{Q:VK}(hr:HR K μ S H)(rx:RU H μ (.ref n) v)(q:getL S n=some xs)(e:(Mx xs).map (λu=>(u,S))=some (u,S'))(a:Aft K μ H u S' Q):Fm K [v] H Q:=by
 cases xs with
 | nil=>cases e
 | cons x r=>
   change ((jt x).bind λa=>(cH jt r).bind λl=>if (l.all λb => !HT.lexLt b a)=true then some x else none).map (λu=>(u,S))=some (u,S') at e
   cases q1:jt x with
   | none=>rw[q1]at e;cases e
   | some na=>
     rw[q1]at e
     simp only[ag]at e
     cases q2:cH jt r with
     | none=>rw[q2]at e;cases e
     | some l=>
       rw[q2]at e
       simp only[ag]at e
       by_cases h:(l.all λb => !HT.lexLt b na)=true
       ·rw[if_pos h]at e;cases e
        obtain⟨p,rfl,hp⟩:=fJ rx
        obtain⟨p',ys,hp',hs,r'⟩:=hr.sq q
        rw[hp]at hp';cases hp'
        obtain⟨w,rw',rfl,ra,rb⟩:=r'.inv
        cases u with
        | tup ws=>
          obtain⟨t,ts,rfl,ht,rt⟩:=gp ra
          have:=nX rt (show cH oA ws=some na from q1)
          exact⟨p,t,na,rw',rfl,hs,(.inl (.inl (this▸ht))),zo hr rb q2 h,a.now hr ra⟩
        | _=>cases q1
       ·rw[if_neg h]at e;cases e
theorem La:rT K (P0 K) oy:=by
 intro μ S H us vs u S' Q hr rs e a
 unfold oy at e
 split at e
 ·cases e
  obtain⟨v,r,rfl,rx,rs⟩:=rs.inv
  obtain⟨w,r,rfl,ry,rn⟩:=rs.inv
  rw[rn.nil_inv,cZ rx,cZ ry]
  exact .inl (.inl ⟨_,_,rfl,a.now hr eX⟩)
 ·rename_i n
  obtain⟨v,r,rfl,rx,rn⟩:=rs.inv
  rw[rn.nil_inv]
  cases q:getL S n with
  | none=>rw[q]at e;cases e
  | some xs=>
    rw[q]at e
    simp only[ag]at e
    rcases Option.or_eq_some_iff.mp e with e | ⟨_,e⟩
    rotate_left
    ·exact .inr (IK hr rx q e a)
    cases q2:cH oA xs with
    | none=>rw[q2]at e;cases e
    | some ns=>
      rw[q2]at e
      simp only[ag]at e
      cases q3:AN ns with
      | none=>rw[q3]at e;cases e
      | some m=>
        rw[q3]at e;cases e
        obtain⟨p,rfl,hp⟩:=fJ rx
        obtain⟨p',ys,hp',hs,r'⟩:=hr.sq q
        rw[hp]at hp';cases hp'
        rw[nX r' q2]at hs
        obtain⟨h1,h2⟩:=wB q3
        exact .inl (.inr ⟨p,ns,_,rfl,hs,h1,h2,a.now hr eX⟩)
 ·cases e
noncomputable def MtU(K:KX)(r:V->List V->Hp->VK->Prop)(f:Nat->List U->Sto->Res U):Prop:= ∀(μ:List Addr) (S:Sto) (H:Hp) (n:Nat) (p:Addr) (us:List U) (vs:List V) (u:U) (S':Sto) (Q:VK),HR K μ S H->μ[n]? = some p->RUs H μ us vs->f n us S=some (u,S')->Aft K μ H u S' Q->r (.ref p) vs H Q
theorem Lv {r:V->List V->Hp->VK->Prop}{f:Nat->List U->Sto->Res U}{o:ME}{a:MA} (m:MtU K r f) (h:tM K (mML f o a) σ H Q):tBM K "list" r (tM K o) (tMA K a) σ H Q:=by
 obtain⟨μ,S,ρ,u,S',hr,er,e,k⟩:=h
 obtain⟨x,S1,e1,e⟩:=be e
 split at e
 ·rename_i n
  cases q:getL S1 n with
  | none=>rw[q]at e;cases e
  | some ws=>
    rw[q]at e
    obtain⟨xs,S2,e2,e⟩:=be e
    refine⟨μ,S,ρ,_,S1,hr,er,e1,λμ1 vx H1 p1 k1 hr1 rx =>?_⟩
    obtain⟨p,rfl,hp⟩:=fJ rx
    obtain⟨p',ys,hp',hs,r'⟩:=hr1.sq q
    rw[hp]at hp';cases hp'
    refine⟨.inl ⟨rfl,ys,hs⟩,μ1,S1,ρ,xs,S2,hr1,er.mono k1 p1,e2,λμ2 vs H2 p2 k2 hr2 rs =>?_⟩
    exact m μ2 S2 H2 n p xs vs u S' Q hr2 (p2.get hp) rs e (k.mono (p1.trans p2) (k1.trans k2))
 ·cases e
theorem N9 {r:V->List V->Hp->VK->Prop}{f:Nat->List U->Sto->Res U}{o:ME} (m:MtU K r f) (h:tM K (mML f o af) σ H Q):N4 K "list" r (tM K o) σ H Q:=by
 obtain⟨μ,S,ρ,u,S',hr,er,e,k⟩:=h
 obtain⟨x,S1,e1,e⟩:=be e
 split at e
 ·rename_i n
  cases q:getL S1 n with
  | none=>rw[q]at e;cases e
  | some ws=>
    rw[q]at e
    refine⟨μ,S,ρ,_,S1,hr,er,e1,λμ1 vx H1 p1 k1 hr1 rx =>?_⟩
    obtain⟨p,rfl,hp⟩:=fJ rx
    obtain⟨p',ys,hp',hs,r'⟩:=hr1.sq q
    rw[hp]at hp';cases hp'
    exact⟨.inl ⟨rfl,ys,hs⟩,m μ1 S1 H1 n p [] [] u S' Q hr1 hp .nil e (k.mono p1 k1)⟩
 ·cases e
theorem xZ{μ:List Addr}{S:Sto}{n:Nat}{us ws:List U}{vs:List V}{p:Addr}{u:U}{v:V}(k:Aft K μ H u (S.set n (.lst ws)) Q)(hr:HR K μ S H)(e:S[n]? = some (.lst us))(hp:μ[n]? = some p)(rs:RUs H μ ws vs)(ru:RU H μ u v):
  Q v (upd H p (.lst vs)):=by
 obtain⟨vs0,e0,_⟩:=hr.cell n _ p e hp
 exact k μ _ _ (Pre.refl _) (bq.wr e0) (hr.wr e hp rs) (RU.mono (bq.wr e0) (Pre.refl _) _ _ ru)
theorem Dc:MtU K BL cU:=by
 intro μ S H n p us vs u S' Q hr hp rs e a
 unfold cU at e
 split at e
 ·split at e
  ·rename_i ws q
   split at e
   ·rename_i hc
    cases e
    obtain⟨v,r,rfl,rx,rn⟩:=rs.inv
    rw[rn.nil_inv]
    obtain⟨xs,e0,r0⟩:=hr.cell n _ p q hp
    refine⟨p,xs,v,rfl,rfl,e0,?_,xZ a hr q hp (r0.append (.cons rx .nil)) rH⟩
    have:=r0.len;unfold big at hc;rw[sizeLine_eq];omega
   ·cases e
  ·cases e
 ·cases e
theorem LF{n:Nat}{i:Int}{j:Nat}(h:ixN n i=some j):j<n /\ -(n:Int)<=i/\i<n:=by
 unfold ixN at h
 split at h
 ·split at h
  ·cases h;omega
  ·cases h
 ·split at h
  ·cases h;omega
  ·cases h
theorem Io{n:Nat}{i:Int}{j:Nat}(h:ixN n i=some j):seqIndex? i n=some j:=by
 unfold ixN at h
 unfold seqIndex?
 split at h
 ·split at h
  ·cases h
   rename_i h0 h1
   simp only[show ¬i<0 by omega,if_false]
   first
    | (rw[if_pos (by omega)])
    | (simp;omega)
  ·cases h
 ·split at h
  ·cases h
   rename_i h0 h1
   simp only[show i<0 by omega,if_true]
   first
    | (rw[if_pos (by omega)])
    | (simp;omega)
  ·cases h
theorem LR:MtU K Py xq:=by
 intro μ S H n p us vs u S' Q hr hp rs e a
 unfold xq at e
 split at e
 ·split at e
  ·rename_i ws q
   cases z:ws[ws.length - 1]? with
   | none=>rw[z]at e;cases e
   | some y=>
     rw[z]at e;cases e
     rw[rs.nil_inv]
     obtain⟨xs,e0,r0⟩:=hr.cell n _ p q hp
     obtain⟨v,hv,rv⟩:=r0.get z
     exact⟨p,xs,v,rfl,rfl,e0,by rw[<- r0.len];exact hv,xZ a hr q hp r0.dropLast rv⟩
  ·cases e
 ·cases e
theorem E2:MtU K Ec km:=by
 intro μ S H n p us vs u S' Q hr hp rs e a
 unfold km at e
 split at e
 ·rename_i i
  split at e
  ·rename_i ws q
   split at e
   rotate_left
   ·cases e
   rename_i hR
   cases z:ixN ws.length i with
   | none=>rw[z]at e;cases e
   | some j=>
     rw[z]at e
     simp only[ag]at e
     cases z2:ws[j]? with
     | none=>rw[z2]at e;cases e
     | some y=>
       rw[z2]at e;cases e
       obtain⟨v,r,rfl,rx,rn⟩:=rs.inv
       rw[rn.nil_inv,cZ rx]
       obtain⟨xs,e0,r0⟩:=hr.cell n _ p q hp
       obtain⟨w,hw,rw'⟩:=r0.get z2
       have hl:=LF z
       have hlen:=r0.len
       refine⟨p,xs,i,j,w,rfl,rfl,e0,?_,?_,?_,hw,xZ a hr q hp (r0.eraseIdx j) rw'⟩
       ·have:=hR.1;omega
       ·have:=hR.2;omega
       ·rw[<- hlen];exact Io z
  ·cases e
 ·cases e
theorem Am{t:TE}{m:ME}{Q:Bool->Hp->Prop}(ht: ∀Q,tM K m σ H Q->t σ H Q)(h:tMT K (cOf m) σ H Q):GH t σ H Q:=by
 obtain⟨μ,S,ρ,b,S',hr,er,e,k⟩:=h
 obtain⟨x,S1,e1,e⟩:=be e
 split at e
 ·cases e
  refine ht _ ⟨μ,S,ρ,_,_,hr,er,e1,λμ1 vx H1 p1 k1 hr1 rx =>?_⟩
  exact⟨_,jM rx,k μ1 H1 p1 k1 hr1⟩
 ·cases e
theorem Qc{t:TE}{m:ME}{Q:Bool->Hp->Prop}(ht: ∀Q,tM K m σ H Q->t σ H Q)(h:tMT K (cOf m) σ H Q):tB t σ H Q:=Am ht h
theorem Ot{a b:MT}{Q:Bool->Hp->Prop}(h:tMT K (pv a b) σ H Q):_L.Oj (tMT K a) (tMT K b) σ H Q:=by
 obtain⟨μ,S,ρ,c,S',hr,er,e,k⟩:=h
 obtain⟨x,S1,e1,e⟩:=be e
 refine⟨μ,S,ρ,x,S1,hr,er,e1,λμ1 H1 p1 k1 hr1 =>?_⟩
 cases x with
 | true=>exact rW ⟨μ1,S1,ρ,c,S',hr1,er.mono k1 p1,e,λμ2 H2 p2 k2=>k μ2 H2 (p1.trans p2) (k1.trans k2)⟩
 | false=>
   have e':some (false,S1)=some (c,S'):=e
   cases e'
   exact se (k μ1 H1 p1 k1 hr1)
theorem P8{a b:MT}{Q:Bool->Hp->Prop}(h:tMT K (cOr a b) σ H Q):_L.tOr (tMT K a) (tMT K b) σ H Q:=by
 obtain⟨μ,S,ρ,c,S',hr,er,e,k⟩:=h
 obtain⟨x,S1,e1,e⟩:=be e
 refine⟨μ,S,ρ,x,S1,hr,er,e1,λμ1 H1 p1 k1 hr1 =>?_⟩
 cases x with
 | true=>
   have e':some (true,S1)=some (c,S'):=e
   cases e'
   exact rW (k μ1 H1 p1 k1 hr1)
 | false=>exact se ⟨μ1,S1,ρ,c,S',hr1,er.mono k1 p1,e,λμ2 H2 p2 k2=>k μ2 H2 (p1.trans p2) (k1.trans k2)⟩
theorem PL{a:MT}{Q:Bool->Hp->Prop}(h:tMT K (nA a) σ H Q):_L.PX (tMT K a) σ H Q:=by
 obtain⟨μ,S,ρ,c,S',hr,er,e,k⟩:=h
 obtain⟨x,S1,e1,e⟩:=be e
 cases e
 exact⟨μ,S,ρ,x,_,hr,er,e1,λμ1 H1 p1 k1 hr1=>k μ1 H1 p1 k1 hr1⟩
theorem NO{c:MT}{a b:ME}(h:tM K (v7 c a b) σ H Q):tIf (tMT K c) (tM K a) (tM K b) σ H Q:=by
 obtain⟨μ,S,ρ,u,S',hr,er,e,k⟩:=h
 obtain⟨x,S1,e1,e⟩:=be e
 refine⟨μ,S,ρ,x,S1,hr,er,e1,λμ1 H1 p1 k1 hr1 =>?_⟩
 cases x with
 | true=>exact rW ⟨μ1,S1,ρ,u,S',hr1,er.mono k1 p1,e,k.mono p1 k1⟩
 | false=>exact se ⟨μ1,S1,ρ,u,S',hr1,er.mono k1 p1,e,k.mono p1 k1⟩
section
variable {D:Ends}
theorem Fq(h:tMS K cP D σ H):FY D σ H:=by
 obtain⟨μ,S,ρ,r,hr,er,e,k⟩:=h
 cases e
 exact k μ σ H (Pre.refl _) (bq.refl _) hr er
theorem ND{a b:MS}(h:tMS K (bc a b) D σ H):MZ (tMS K a) (tMS K b) D σ H:=by
 obtain⟨μ,S,ρ,r,hr,er,e,k⟩:=h
 unfold bc at e
 split at e
 ·rename_i ρ1 S1 q
  refine⟨μ,S,ρ,_,hr,er,q,λμ1 σ1 H1 p1 k1 hr1 er1 =>?_⟩
  exact⟨μ1,S1,ρ1,r,hr1,er1,e,k.mono p1 k1⟩
 ·rename_i q
  refine⟨μ,S,ρ,r,hr,er,e,?_⟩
  obtain⟨f,ρ',S'⟩:=r
  cases f with
  | nx=>exact absurd e (q ρ' S')
  | bk=>exact k
  | ct=>exact k
  | rt u=>exact k
theorem J2{i:Nat}{m:ME}(h:tMS K (bI i m) D σ H):Gu (tM K m) (jq i) D σ H:=by
 obtain⟨μ,S,ρ,r,hr,er,e,k⟩:=h
 obtain⟨x,S1,e1,e⟩:=be e
 cases e
 exact⟨μ,S,ρ,x,S1,hr,er,e1,λμ1 vx H1 p1 k1 hr1 rx=>k μ1 _ H1 p1 k1 hr1 ((er.mono k1 p1).set rx i)⟩
noncomputable def On:E9:=λo i v H Q =>∃a H',o = .ref a/\Du H a i v H'/\Q H'
noncomputable def J0:E9:=λo i v H Q=>JQ o i v H Q\/On o i v H Q
theorem Hh{X:Cx}(hu:X.A.units+1<cLine):LB X J0:=by
 intro pins s σ H o i v ov iv u Q I ro ri rv h
 rcases h with h | ⟨a,H',rfl,g,q⟩
 ·exact set_list pins s σ H o i v ov iv u Q I ro ri rv h
 ·obtain rfl:ov=bj a:=ro
  exact CZ hu I g ri rv λs4 I4=>⟨H',I4,q⟩
theorem Iv{o i m:ME}(h:tMS K (jH o i m) D σ H):Gu (tM K m) (Pq (tM K o) (tM K i) J0) D σ H:=by
 obtain⟨μ,S,ρ,r,hr,er,e,k⟩:=h
 obtain⟨x,S1,e1,e⟩:=be e
 obtain⟨p,S2,e2,e⟩:=be e
 obtain⟨j,S3,e3,e⟩:=be e
 cases p with
 | ref n=>
   simp only at e
   split at e
   ·rename_i us q
    split at e
    rotate_left
    ·cases e
    rename_i kk
    cases z:ixN us.length kk with
    | none=>rw[z]at e;cases e
    | some m'=>
      rw[z]at e;cases e
      refine⟨μ,S,ρ,x,S1,hr,er,e1,λμ1 vx H1 p1 k1 hr1 rx =>?_⟩
      refine⟨μ1,S1,ρ,_,S2,hr1,er.mono k1 p1,e2,λμ2 vo H2 p2 k2 hr2 ro =>?_⟩
      refine⟨μ2,S2,ρ,_,S3,hr2,er.mono (k1.trans k2) (p1.trans p2),e3,λμ3 vi H3 p3 k3 hr3 ri =>?_⟩
      obtain⟨a,rfl,ha⟩:=fJ ro
      have ha3:=p3.get ha
      obtain⟨vs,e0,r0⟩:=hr3.cell n _ a q ha3
      have rx3:RU H3 μ3 x vx:=RU.mono (k2.trans k3) (p2.trans p3) _ _ rx
      refine .inl ⟨a,vs,kk,m',rfl,cZ ri,e0,by rw[<- r0.len];exact z,?_⟩
      have kw:bq H3 (upd H3 a (.lst (vs.set m' vx))):=bq.wr e0
      exact k μ3 _ _ (p1.trans (p2.trans p3)) (k1.trans (k2.trans (k3.trans kw))) (hr3.wr q ha3 (r0.set rx3 m')) (er.mono (k1.trans (k2.trans (k3.trans kw))) (p1.trans (p2.trans p3)))
   ·rename_i kvs q
    cases qk:keyOf j with
    | none=>rw[qk]at e;cases e
    | some kk=>
      rw[qk]at e
      simp only[ag]at e
      split at e
      ·rename_i hz
       cases e
       refine⟨μ,S,ρ,x,S1,hr,er,e1,λμ1 vx H1 p1 k1 hr1 rx =>?_⟩
       refine⟨μ1,S1,ρ,_,S2,hr1,er.mono k1 p1,e2,λμ2 vo H2 p2 k2 hr2 ro =>?_⟩
       refine⟨μ2,S2,ρ,_,S3,hr2,er.mono (k1.trans k2) (p1.trans p2),e3,λμ3 vi H3 p3 k3 hr3 ri =>?_⟩
       obtain⟨a,rfl,ha⟩:=fJ ro
       have ha3:=p3.get ha
       obtain⟨vs,e0,r0⟩:=hr3.cell n _ a q ha3
       have rx3:RU H3 μ3 x vx:=RU.mono (k2.trans k3) (p2.trans p3) _ _ rx
       have hl:kvs.length=vs.length:=by have:=r0.len;rwa[ak]at this
       obtain⟨ws,ew,rw'⟩:=JF (k:=kk) rx3 r0
       have kw:bq H3 (upd H3 a (.dK (putK (dV kvs vs) kk vx))):=bq.wrG e0 (λ_ z=>by cases z) λ_ _ z=>by cases z
       refine .inr ⟨a,_,rfl,.inl ⟨_,kk,e0,pU ri qk,by rw[FE hl,sizeLine_eq];exact hz,rfl⟩,?_⟩
       exact k μ3 _ _ (p1.trans (p2.trans p3)) (k1.trans (k2.trans (k3.trans kw))) (hr3.wrC q ha3 rfl ⟨ws,by rw[ew];exact dh,RUs.mono kw (Pre.refl _) _ _ rw'⟩) (er.mono (k1.trans (k2.trans (k3.trans kw))) (p1.trans (p2.trans p3)))
      ·cases e
   ·cases e
 | _=>cases e
theorem KB{m:ME}(h:tMS K (du m) D σ H):Kh (tM K m) D σ H:=by
 obtain⟨μ,S,ρ,r,hr,er,e,k⟩:=h
 obtain⟨x,S1,e1,e⟩:=be e
 cases e
 exact⟨μ,S,ρ,x,S1,hr,er,e1,λμ1 vx H1 p1 k1 hr1 rx=>k μ1 σ H1 p1 k1 hr1 (er.mono k1 p1)⟩
theorem Oc{m:ME}(h:tMS K (bH m) D σ H):NA (tM K m) D σ H:=by
 obtain⟨μ,S,ρ,r,hr,er,e,k⟩:=h
 obtain⟨x,S1,e1,e⟩:=be e
 cases e
 exact⟨μ,S,ρ,x,S1,hr,er,e1,k⟩
theorem Qd{c:MT}{a b:MS}(h:tMS K (sIf c a b) D σ H):Pc (tMT K c) (tMS K a) (tMS K b) D σ H:=by
 obtain⟨μ,S,ρ,r,hr,er,e,k⟩:=h
 obtain⟨x,S1,e1,e⟩:=be e
 refine⟨μ,S,ρ,x,S1,hr,er,e1,λμ1 H1 p1 k1 hr1 =>?_⟩
 cases x with
 | true=>exact rW ⟨μ1,S1,ρ,r,hr1,er.mono k1 p1,e,k.mono p1 k1⟩
 | false=>exact se ⟨μ1,S1,ρ,r,hr1,er.mono k1 p1,e,k.mono p1 k1⟩
theorem nI{b:MS}{ρ:Rho}{S:Sto}{μ μ0:List Addr}{H0:Hp}{k:MS}{r:Fl×Rho×Sto}{N:St->Hp->Prop}(hr:HR K μ S H)(er:ER H μ ρ σ)(e:aft (b ρ S) k=some r)(p:Pre μ0 μ)(kp:bq H0 H)(fl:FlP K μ0 H0 D r)
  (hN: ∀μ1 σ1 H1 ρ1 S1,Pre μ0 μ1->bq H0 H1->HR K μ1 S1 H1->ER H1 μ1 ρ1 σ1->k ρ1 S1=some r->N σ1 H1):tMS K b { D with nx:=N,ct:=N,bk:=D.nx } σ H:=by
 unfold aft at e
 split at e
 ·rename_i ρ1 S1 q
  exact⟨μ,S,ρ,_,hr,er,q,λμ1 σ1 H1 p1 k1 hr1 er1=>hN μ1 σ1 H1 ρ1 S1 (p.trans p1) (kp.trans k1) hr1 er1 e⟩
 ·rename_i ρ1 S1 q
  exact⟨μ,S,ρ,_,hr,er,q,λμ1 σ1 H1 p1 k1 hr1 er1=>hN μ1 σ1 H1 ρ1 S1 (p.trans p1) (kp.trans k1) hr1 er1 e⟩
 ·rename_i ρ1 S1 q
  cases e
  exact⟨μ,S,ρ,_,hr,er,q,λμ1 σ1 H1 p1 k1 hr1 er1=>fl μ1 σ1 H1 (p.trans p1) (kp.trans k1) hr1 er1⟩
 ·rename_i q1 q2 q3
  refine⟨μ,S,ρ,r,hr,er,e,?_⟩
  obtain⟨f,ρ',S'⟩:=r
  cases f with
  | nx=>exact absurd e (q1 ρ' S')
  | ct=>exact absurd e (q2 ρ' S')
  | bk=>exact absurd e (q3 ρ' S')
  | rt u=>exact Aft.mono fl p kp
theorem drop_cons{α:Type}{l:List α}{i:Nat}{x:α}(h:l[i]? = some x):l.drop i=x::l.drop (i+1):=by
 obtain⟨hi,e⟩:=ah.mp h
 rw[lX hi,e]
theorem Ks{i:Nat}{b:MS}{us:List U}{vs:List V}{ρ:Rho}{S:Sto}{μ:List Addr}{a:Addr}{r:Fl×Rho×Sto}(hr:HR K μ S H)(er:ER H μ ρ σ)(e:sJ i b us ρ S=some r)(fl:FlP K μ H D r)(ha:H a=some (.tup vs))(ru:RUs H μ us vs):
  ∃W:Nat->Nat->St->Hp->Prop,(∃m,W 0 m σ H) /\ ∀k m σ H,W k m σ H ->
   ((Itt K a).stop k H/\D.nx σ H)\/((Itt K a).go k H /\ ∃N:St->Hp->Prop,(∀σ' H',N σ' H' -> ∃m',m'<m/\W (k+1) m' σ' H') /\ ∀x H',(Itt K a).yld k H x H'->jq i x σ H' λσ2 H2=>tMS K b { D with nx:=N,ct:=N,bk:=D.nx } σ2 H2):=by
 refine HP (xs:=vs) (λk σ1 H1 =>∃μ1 S1 ρ1,Pre μ μ1/\bq H H1/\HR K μ1 S1 H1/\ER H1 μ1 ρ1 σ1/\sJ i b (us.drop k) ρ1 S1=some r) ⟨μ,S,ρ,Pre.refl _,bq.refl _,hr,er,e⟩ ?_ ?_ ?_
 ·rintro k σ1 H1 _ ⟨μ1,S1,ρ1,p1,k1,_⟩
  exact .inl (.inl (k1 a vs ha))
 ·rintro k x σ1 H1 hx ⟨μ1,S1,ρ1,p1,k1,hr1,er1,e1⟩
  have hk:k<us.length:=by rw[ru.len];exact(ah.mp hx).1
  have hu:us[k]? = some us[k]:=by simp[hk]
  obtain⟨v,hv,rv⟩:=ru.get hu
  rw[hx]at hv;cases hv
  rw[drop_cons hu]at e1
  have rv1:RU H1 μ1 us[k] x:=RU.mono k1 p1 _ _ rv
  exact nI hr1 (er1.set rv1 i) e1 p1 k1 fl λμ2 σ2 H2 ρ2 S2 p2 k2 hr2 er2 e2=>⟨μ2,S2,ρ2,p2,k2,hr2,er2,e2⟩
 ·rintro σ1 H1 ⟨μ1,S1,ρ1,p1,k1,hr1,er1,e1⟩
  rw[<- ru.len,oi]at e1
  cases e1
  exact fl μ1 σ1 H1 p1 k1 hr1 er1
theorem Eb{i:Nat}{b:MS}{lo:Int}{n:Nat}{ρ:Rho}{S:Sto}{μ:List Addr}{r:Fl×Rho×Sto}(hr:HR K μ S H)(er:ER H μ ρ σ)(e:sJ i b (bh lo n) ρ S=some r)(fl:FlP K μ H D r):
  ∃W:Nat->Nat->St->Hp->Prop,(∃m,W 0 m σ H) /\ ∀k m σ H,W k m σ H ->
   ((Itr lo n).stop k H/\D.nx σ H)\/((Itr lo n).go k H /\ ∃N:St->Hp->Prop,(∀σ' H',N σ' H' -> ∃m',m'<m/\W (k+1) m' σ' H') /\ ∀x H',(Itr lo n).yld k H x H'->jq i x σ H' λσ2 H2=>tMS K b { D with nx:=N,ct:=N,bk:=D.nx } σ2 H2):=by
 refine DA (λk σ1 H1 =>∃μ1 S1 ρ1,Pre μ μ1/\bq H H1/\HR K μ1 S1 H1/\ER H1 μ1 ρ1 σ1/\sJ i b ((bh lo n).drop k) ρ1 S1=some r) ⟨μ,S,ρ,Pre.refl _,bq.refl _,hr,er,e⟩ ?_ ?_
 ·rintro k σ1 H1 hk ⟨μ1,S1,ρ1,p1,k1,hr1,er1,e1⟩
  have hu:(bh lo n)[k]? = some (.int (lo+k)):=by simp[bh,hk]
  rw[drop_cons hu]at e1
  exact nI hr1 (er1.set eX i) e1 p1 k1 fl λμ2 σ2 H2 ρ2 S2 p2 k2 hr2 er2 e2=>⟨μ2,S2,ρ2,p2,k2,hr2,er2,e2⟩
 ·rintro σ1 H1 ⟨μ1,S1,ρ1,p1,k1,hr1,er1,e1⟩
  have hl:(bh lo n).length=n:=by simp[bh]
  rw[List.drop_eq_nil_of_le (by exact wj (by assumption))]at e1
  cases e1
  exact fl μ1 σ1 H1 p1 k1 hr1 er1
theorem Ma{i:Nat}{b:MS}{n f:Nat}{ρ:Rho}{S:Sto}{μ:List Addr}{a:Addr}{r:Fl×Rho×Sto}(hr:HR K μ S H)(er:ER H μ ρ σ)(e:forL i b n f 0 ρ S=some r)(fl:FlP K μ H D r)(ha:μ[n]? = some a):
  ∃W:Nat->Nat->St->Hp->Prop,(∃m,W 0 m σ H) /\ ∀k m σ H,W k m σ H ->
   ((Itl K a).stop k H/\D.nx σ H)\/((Itl K a).go k H /\ ∃N:St->Hp->Prop,(∀σ' H',N σ' H' -> ∃m',m'<m/\W (k+1) m' σ' H') /\ ∀x H',(Itl K a).yld k H x H'->jq i x σ H' λσ2 H2=>tMS K b { D with nx:=N,ct:=N,bk:=D.nx } σ2 H2):=by
 refine⟨λk m σ1 H1 =>∃μ1 S1 ρ1,Pre μ μ1/\bq H H1/\HR K μ1 S1 H1/\ER H1 μ1 ρ1 σ1/\forL i b n m k ρ1 S1=some r,⟨f,μ,S,ρ,Pre.refl _,bq.refl _,hr,er,e⟩,?_⟩
 rintro k m σ1 H1 ⟨μ1,S1,ρ1,p1,k1,hr1,er1,e1⟩
 cases m with
 | zero=>cases e1
 | succ m=>
   unfold forL at e1
   cases q:getL S1 n with
   | none=>rw[q]at e1;cases e1
   | some us=>
     rw[q]at e1
     simp only[ag]at e1
     obtain⟨a',vs,ha',hs,rs⟩:=hr1.sq q
     rw[p1.get ha]at ha';cases ha'
     cases z:us[k]? with
     | none=>
       rw[z]at e1
       cases e1
       refine .inl ⟨⟨vs,hs,?_⟩,fl μ1 σ1 H1 p1 k1 hr1 er1⟩
       rw[<- rs.len];exact lY.mp z
     | some u=>
       rw[z]at e1
       obtain⟨v,hv,rv⟩:=rs.get z
       refine .inr ⟨⟨vs,v,hs,hv⟩,λσ2 H2 =>∃μ2 S2 ρ2,Pre μ μ2/\bq H H2/\HR K μ2 S2 H2/\ER H2 μ2 ρ2 σ2/\forL i b n m (k+1) ρ2 S2=some r,λσ' H' w=>⟨m,cM _,w⟩,λx H' y =>?_⟩
       obtain⟨e',y⟩:=y
       subst e'
       have hx:=y vs hs
       rw[hv]at hx;cases hx
       exact nI hr1 (er1.set rv i) e1 p1 k1 fl λμ2 σ2 H2 ρ2 S2 p2 k2 hr2 er2 e2=>⟨μ2,S2,ρ2,p2,k2,hr2,er2,e2⟩
theorem Ib{c:MT}{b:MS}(h:tMS K (q0 c b) D σ H):GM (tMT K c) (tMS K b) D σ H:=by
 obtain⟨μ,S,ρ,r,hr,er,e,fl⟩:=h
 refine⟨λm σ1 H1 =>∃μ1 S1 ρ1,Pre μ μ1/\bq H H1/\HR K μ1 S1 H1/\ER H1 μ1 ρ1 σ1/\whl c b m ρ1 S1=some r,⟨fuel,μ,S,ρ,Pre.refl _,bq.refl _,hr,er,e⟩,?_⟩
 rintro m σ1 H1 ⟨μ1,S1,ρ1,p1,k1,hr1,er1,e1⟩
 cases m with
 | zero=>cases e1
 | succ m=>
   unfold whl at e1
   obtain⟨x,S2,e2,e1⟩:=be e1
   refine⟨μ1,S1,ρ1,x,S2,hr1,er1,e2,λμ2 H2 p2 k2 hr2 =>?_⟩
   cases x with
   | true=>
     refine rW ⟨λσ3 H3 =>∃μ3 S3 ρ3,Pre μ μ3/\bq H H3/\HR K μ3 S3 H3/\ER H3 μ3 ρ3 σ3/\whl c b m ρ3 S3=some r,λσ' H' w=>⟨m,cM _,w⟩,?_⟩
     exact nI hr2 (er1.mono k2 p2) e1 (p1.trans p2) (k1.trans k2) fl λμ3 σ3 H3 ρ3 S3 p3 k3 hr3 er3 e3=>⟨μ3,S3,ρ3,p3,k3,hr3,er3,e3⟩
   | false=>
     have e':some (Fl.nx,ρ1,S2)=some r:=e1
     cases e'
     exact se (fl μ2 σ1 H2 (p1.trans p2) (k1.trans k2) hr2 (er1.mono k2 p2))
end
end
end _G
end
section
namespace _G
open PySem PySem.Spec _L
open PyProof.Rows hiding St
section
variable {K:KX}{σ:St}{H:Hp}{Q:VK}{D:Ends}
theorem JT{a:MA}{R:It->Hp->Prop}{μ:List Addr}{S S1:Sto}{ρ:Rho}{src:Src}(hr:HR K μ S H)(er:ER H μ ρ σ)(e:iR1 a ρ S=some (src,S1))
  (hR: ∀μ1 H1 n,Pre μ μ1->bq H H1->HR K μ1 S1 H1->src = .imm (bh 0 n)->R (Itr 0 n) H1):zA (tMA K a) σ H R:=by
 obtain⟨xs,S2,e1,e⟩:=be e
 split at e
 ·rename_i j
  split at e
  ·rename_i hj
   cases e
   refine⟨μ,S,ρ,_,_,hr,er,e1,λμ1 vs H1 p1 k1 hr1 rs =>?_⟩
   obtain⟨v,r,rfl,rx,rn⟩:=rs.inv
   rw[rn.nil_inv,cZ rx]
   exact⟨j,rfl,hj.1,hj.2,hR μ1 H1 _ p1 k1 hr1 rfl⟩
  ·cases e
 ·cases e
theorem Kd{a:MA}{R:It->Hp->Prop}{μ:List Addr}{S S1:Sto}{ρ:Rho}{src:Src}(hr:HR K μ S H)(er:ER H μ ρ σ)(e:iR2 a ρ S=some (src,S1))
  (hR: ∀μ1 H1 lo n,Pre μ μ1->bq H H1->HR K μ1 S1 H1->src = .imm (bh lo n)->R (Itr lo n) H1):yN (tMA K a) σ H R:=by
 obtain⟨xs,S2,e1,e⟩:=be e
 split at e
 ·rename_i i j
  split at e
  ·rename_i hj
   cases e
   refine⟨μ,S,ρ,_,_,hr,er,e1,λμ1 vs H1 p1 k1 hr1 rs =>?_⟩
   obtain⟨v,r,rfl,rx,rs⟩:=rs.inv
   obtain⟨w,r,rfl,ry,rn⟩:=rs.inv
   rw[rn.nil_inv,cZ rx,cZ ry]
   exact⟨i,j,rfl,⟨hj.1.1,hj.1.2,hj.2.1,hj.2.2⟩,hR μ1 H1 _ _ p1 k1 hr1 rfl⟩
  ·cases e
 ·cases e
theorem A2{a:ME}{R:It->Hp->Prop}{μ:List Addr}{S S1:Sto}{ρ:Rho}{src:Src}(hr:HR K μ S H)(er:ER H μ ρ σ)(e:dD a ρ S=some (src,S1))
  (hT: ∀μ1 H1 us p vs,Pre μ μ1->bq H H1->HR K μ1 S1 H1->src = .imm us->H1 p=some (.tup vs)->RUs H1 μ1 us vs->R (Itt K p) H1)
  (hL: ∀μ1 H1 n p,Pre μ μ1->bq H H1->HR K μ1 S1 H1->src = .mut n->μ1[n]? = some p->R (Itl K p) H1):wG K (tM K a) σ H R\/CG K (tM K a) σ H R:=by
 obtain⟨x,S2,e1,e⟩:=be e
 split at e
 ·cases e
  refine .inr ⟨μ,S,ρ,_,_,hr,er,e1,λμ1 vx H1 p1 k1 hr1 rx =>?_⟩
  obtain⟨p,vs,rfl,hp,r⟩:=gp rx
  exact⟨p,rfl,⟨vs,.inl (.inl hp)⟩,hT μ1 H1 _ p vs p1 k1 hr1 rfl hp r⟩
 ·rename_i n
  cases q:getL S2 n with
  | none=>rw[q]at e;cases e
  | some ws=>
    rw[q]at e;cases e
    refine .inl ⟨μ,S,ρ,_,_,hr,er,e1,λμ1 vx H1 p1 k1 hr1 rx =>?_⟩
    obtain⟨p,rfl,hp⟩:=fJ rx
    obtain⟨p',ys,hp',hs,r'⟩:=hr1.sq q
    rw[hp]at hp';cases hp'
    exact⟨p,rfl,⟨ys,hs⟩,hL μ1 H1 n p p1 k1 hr1 rfl hp⟩
 ·cases e
theorem OF{i:Nat}{a:MA}{b:MS}(h:tMS K (fH i (iR1 a) b) D σ H):xM (zA (tMA K a)) (jq i) (tMS K b) D σ H:=by
 obtain⟨μ,S,ρ,r,hr,er,e,fl⟩:=h
 obtain⟨src,S1,e1,e⟩:=be e
 refine JT hr er e1 λμ1 H1 n p1 k1 hr1 hs =>?_
 subst hs
 exact Eb hr1 (er.mono k1 p1) e (fl.mono p1 k1)
theorem MW{i:Nat}{a:MA}{b:MS}(h:tMS K (fH i (iR2 a) b) D σ H):xM (yN (tMA K a)) (jq i) (tMS K b) D σ H:=by
 obtain⟨μ,S,ρ,r,hr,er,e,fl⟩:=h
 obtain⟨src,S1,e1,e⟩:=be e
 refine Kd hr er e1 λμ1 H1 lo n p1 k1 hr1 hs =>?_
 subst hs
 exact Eb hr1 (er.mono k1 p1) e (fl.mono p1 k1)
theorem Qj{i:Nat}{a:ME}{b:MS}(h:tMS K (fH i (dD a) b) D σ H):xM (λσ H R=>wG K (tM K a) σ H R\/CG K (tM K a) σ H R) (jq i) (tMS K b) D σ H:=by
 obtain⟨μ,S,ρ,r,hr,er,e,fl⟩:=h
 obtain⟨src,S1,e1,e⟩:=be e
 refine A2 hr er e1 (λμ1 H1 us p vs p1 k1 hr1 hs hp rs =>?_) λμ1 H1 n p p1 k1 hr1 hs hp =>?_
 ·subst hs
  exact Ks hr1 (er.mono k1 p1) e (fl.mono p1 k1) hp rs
 ·subst hs
  exact Ma hr1 (er.mono k1 p1) e (fl.mono p1 k1) hp
theorem qX{t:MT}{e:ME}{ρ:Rho}: ∀{us acc ys:List U}{S S':Sto},gX t e ρ us acc S=some (ys,S')->acc.length<=ys.length
 | [],acc,ys,S,S',h=>by cases h;exact aq _
 | x::us,acc,ys,S,S',h=>by
   obtain⟨k,S1,e1,h⟩:=be h
   cases k with
   | true=>
     obtain⟨y,S2,e2,h⟩:=be (show bnd (e (ρ++[some x]) S1) (λy S2=>gX t e ρ us (acc++[y]) S2)=some (ys,S') from h)
     have:=qX h
     simp at this;exact ba (by assumption)
   | false=>exact qX (show gX t e ρ us acc S1=some (ys,S') from h)
theorem rL{t:MT}{e:ME}{ρ:Rho}{n:Nat}: ∀{f i:Nat}{acc ys:List U}{S S':Sto},j4 t e ρ n f i acc S=some (ys,S')->acc.length<=ys.length
 | 0,i,acc,ys,S,S',h=>by cases h
 | f+1,i,acc,ys,S,S',h=>by
   unfold j4 at h
   cases q:getL S n with
   | none=>rw[q]at h;cases h
   | some us=>
     rw[q]at h
     simp only[ag]at h
     cases z:us[i]? with
     | none=>rw[z]at h;cases h;exact aq _
     | some x=>
       rw[z]at h
       obtain⟨k,S1,e1,h⟩:=be h
       cases k with
       | true=>
         obtain⟨y,S2,e2,h⟩:=be (show bnd (e (ρ++[some x]) S1) (λy S2=>j4 t e ρ n f (i+1) (acc++[y]) S2)=some (ys,S') from h)
         have:=rL h
         simp at this;exact ba (by assumption)
       | false=>exact rL (show j4 t e ρ n f (i+1) acc S1=some (ys,S') from h)
noncomputable def zb(J:It)(σ:St)(tt:TT)(te:TE)(H1:Hp)(Q:VK):Prop:= ∃W:Nat->Nat->List V->Hp->Prop,(∃m,W 0 m [] H1) /\ ∀i m ys H,W i m ys H->ys.length<sizeLine /\
 ((J.stop i H /\ ∀D,H D=none->Q (.ref D) (upd H D (.lst ys))) \/
  (J.go i H /\ ∀x H',J.yld i H x H'->tt (σ++[some x]) H' λb H3=>if b=true then te (σ++[some x]) H3 λy H4 =>∃m',m'<m/\W (i+1) m' (ys++[y]) H4 else ∃m',m'<m/\W (i+1) m' ys H3))
theorem wQ{t:MT}{e:ME}{ρ':Rho}{σ':St}{H1:Hp}{μ1:List Addr}{S1 S':Sto}{au ys:List U}{acc:List V}{next:List U->Sto->Res (List U)}(W:List V->Hp->Prop)(hr1:HR K μ1 S1 H1)(er1:ER H1 μ1 ρ' σ')(ra:RUs H1 μ1 au acc)
  (e1:bnd (t ρ' S1) (λk S2=>if k then bnd (e ρ' S2) λy S3=>next (au++[y]) S3 else next au S2)=some (ys,S'))
  (hW: ∀μ2 S2 au2 acc2 H2,Pre μ1 μ2->bq H1 H2->HR K μ2 S2 H2->RUs H2 μ2 au2 acc2->next au2 S2=some (ys,S')->W acc2 H2):
  tMT K t σ' H1 λb H3=>if b=true then tM K e σ' H3 λy H4=>W (acc++[y]) H4 else W acc H3:=by
 obtain⟨b,S2,e2,e1⟩:=be e1
 refine⟨μ1,S1,_,b,S2,hr1,er1,e2,λμ2 H2 p2 k2 hr2 =>?_⟩
 have ra2:=RUs.mono k2 p2 _ _ ra
 cases b with
 | true=>
   obtain⟨y',S3,e3,e1⟩:=be (show bnd (e ρ' S2) (λy S2=>next (au++[y]) S2)=some (ys,S') from e1)
   exact rW ⟨μ2,S2,_,y',S3,hr2,er1.mono k2 p2,e3,λμ3 v3 H3 p3 k3 hr3 rv3=>hW μ3 S3 _ _ H3 (p2.trans p3) (k2.trans k3) hr3 ((RUs.mono k3 p3 _ _ ra2).append (.cons rv3 .nil)) e1⟩
 | false=>exact se (hW μ2 S2 _ _ H2 p2 k2 hr2 ra2 e1)
theorem ua{J:It}{t:MT}{e:ME}{ρ:Rho}{us ys:List U}{μ:List Addr}{S S':Sto}(hr:HR K μ S H)(er:ER H μ ρ σ)(h:gX t e ρ us [] S=some (ys,S'))(hz:ys.length<big)(k:Aft K μ H (.ref S'.length) (S'++[.lst ys]) Q)
  (hstop: ∀H',bq H H'->J.stop us.length H') (hgo: ∀(i:Nat) H',i<us.length->bq H H'->J.go i H')
  (hy: ∀(i:Nat) H' x H'' (u:U),us[i]? = some u->bq H H'->J.yld i H' x H''->H''=H'/\RU H μ u x):zb J σ (tMT K t) (tM K e) H Q:=by
 have hz':ys.length<sizeLine:=by unfold big at hz;rw[sizeLine_eq];exact hz
 refine⟨λi m acc H1=>m=us.length - i/\i<=us.length /\ ∃μ1 S1 au,Pre μ μ1/\bq H H1/\HR K μ1 S1 H1/\RUs H1 μ1 au acc/\gX t e ρ (us.drop i) au S1=some (ys,S'),⟨_,rfl,dc _,μ,S,[],Pre.refl _,bq.refl _,hr,.nil,h⟩,?_⟩
 rintro i m acc H1 ⟨rfl,hi,μ1,S1,au,p1,k1,hr1,ra,e1⟩
 have hl:=qX e1
 have hl2:=ra.len
 refine⟨by omega,?_⟩
 by_cases hlt:i<us.length
 ·have hu:us[i]? = some us[i]:=by simp[hlt]
  rw[drop_cons hu]at e1
  refine .inr ⟨hgo i H1 hlt k1,λx H' y =>?_⟩
  obtain⟨rfl,rx⟩:=hy i H1 x H' us[i] hu k1 y
  have er1:ER H' μ1 (ρ++[some us[i]]) (σ++[some x]):=(er.mono k1 p1).push (RU.mono k1 p1 _ _ rx)
  exact wQ (next:=gX t e ρ (us.drop (i+1))) (λacc H1 =>∃m',m'<us.length - i/\m'=us.length - (i+1)/\i+1<=us.length /\ ∃μ1 S1 au,Pre μ μ1/\bq H H1/\HR K μ1 S1 H1/\RUs H1 μ1 au acc/\gX t e ρ (us.drop (i+1)) au S1=some (ys,S')) hr1 er1 ra e1 λμ2 S2 au2 acc2 H2 p2 k2 hr2 ra2 q=>⟨us.length - (i+1),by omega,rfl,hlt,μ2,S2,au2,p1.trans p2,k1.trans k2,hr2,ra2,q⟩
 ·have e:i=us.length:=by omega
  subst e
  rw[oi]at e1
  cases e1
  exact .inl ⟨hstop H1 k1,λD hD=>lH (k.mono p1 k1) hr1 ra hD⟩
theorem Gc{t:MT}{e:ME}{ρ:Rho}{n f:Nat}{ys:List U}{μ:List Addr}{S S':Sto}{p:Addr}(hr:HR K μ S H)(er:ER H μ ρ σ)(h:j4 t e ρ n f 0 [] S=some (ys,S'))(hz:ys.length<big)(k:Aft K μ H (.ref S'.length) (S'++[.lst ys]) Q)
  (hp:μ[n]? = some p):zb (Itl K p) σ (tMT K t) (tM K e) H Q:=by
 have hz':ys.length<sizeLine:=by unfold big at hz;rw[sizeLine_eq];exact hz
 refine⟨λi m acc H1 =>∃μ1 S1 au,Pre μ μ1/\bq H H1/\HR K μ1 S1 H1/\RUs H1 μ1 au acc/\j4 t e ρ n m i au S1=some (ys,S'),⟨f,μ,S,[],Pre.refl _,bq.refl _,hr,.nil,h⟩,?_⟩
 rintro i m acc H1 ⟨μ1,S1,au,p1,k1,hr1,ra,e1⟩
 have hl:=rL e1
 have hl2:=ra.len
 refine⟨by omega,?_⟩
 cases m with
 | zero=>cases e1
 | succ m=>
   unfold j4 at e1
   cases q:getL S1 n with
   | none=>rw[q]at e1;cases e1
   | some us=>
     rw[q]at e1
     simp only[ag]at e1
     obtain⟨a',vs,ha',hs,rs⟩:=hr1.sq q
     rw[p1.get hp]at ha';cases ha'
     cases z:us[i]? with
     | none=>
       rw[z]at e1
       cases e1
       exact .inl ⟨⟨vs,hs,by rw[<- rs.len];exact lY.mp z⟩,λD hD=>lH (k.mono p1 k1) hr1 ra hD⟩
     | some u=>
       rw[z]at e1
       obtain⟨v,hv,rv⟩:=rs.get z
       refine .inr ⟨⟨vs,v,hs,hv⟩,λx H' y =>?_⟩
       obtain⟨e',y⟩:=y
       subst e'
       have hx:=y vs hs
       rw[hv]at hx;cases hx
       exact wQ (next:=j4 t e ρ n m (i+1)) (λacc H1 =>∃m',m'<m+1 /\ ∃μ1 S1 au,Pre μ μ1/\bq H H1/\HR K μ1 S1 H1/\RUs H1 μ1 au acc/\j4 t e ρ n m' (i+1) au S1=some (ys,S')) hr1 ((er.mono k1 p1).push rv) ra e1 λμ2 S2 au2 acc2 H2 p2 k2 hr2 ra2 q=>⟨m,cM _,μ2,S2,au2,p1.trans p2,k1.trans k2,hr2,ra2,q⟩
theorem yE{lo:Int}{n:Nat}{t:MT}{e:ME}{ρ:Rho}{ys:List U}{μ:List Addr}{S S':Sto}(hr:HR K μ S H)(er:ER H μ ρ σ)(h:gX t e ρ (bh lo n) [] S=some (ys,S'))(hz:ys.length<big)(k:Aft K μ H (.ref S'.length) (S'++[.lst ys]) Q):
  zb (Itr lo n) σ (tMT K t) (tM K e) H Q:=by
 have hl:(bh lo n).length=n:=by simp[bh]
 refine ua hr er h hz k (λH' _=>by rw[hl];exact aq _) (λi H' hi _=>by rw[hl]at hi;exact hi) λi H' x H'' u hu _ y =>?_
 obtain⟨rfl,rfl⟩:=y
 have hi:i<n:=by rw[<- hl];exact(ah.mp hu).1
 have e2:(bh lo n)[i]? = some (.int (lo+i)):=by simp[bh,hi]
 rw[e2]at hu;cases hu
 exact⟨rfl,eX⟩
theorem F9{us:List U}{vs:List V}{p:Addr}{t:MT}{e:ME}{ρ:Rho}{ys:List U}{μ:List Addr}{S S':Sto}(hr:HR K μ S H)(er:ER H μ ρ σ)(h:gX t e ρ us [] S=some (ys,S'))(hz:ys.length<big)(k:Aft K μ H (.ref S'.length) (S'++[.lst ys]) Q)
  (hp:H p=some (.tup vs)) (rs:RUs H μ us vs):zb (Itt K p) σ (tMT K t) (tM K e) H Q:=by
 refine ua hr er h hz k (λH' kp=>⟨vs,.inl (.inl (kp p vs hp)),by rw[rs.len];exact aq _⟩) (λi H' hi kp =>?_) λi H' x H'' u hu kp y =>?_
 ·have hi':i<vs.length:=by rw[<- rs.len];exact hi
  exact⟨vs,vs[i],.inl (.inl (kp p vs hp)),by simp[hi']⟩
 ·obtain⟨rfl,y⟩:=y
  obtain⟨v,hv,rv⟩:=rs.get hu
  have:=y vs (.inl (.inl (kp p vs hp)))
  rw[hv]at this;cases this
  exact⟨rfl,rv⟩
theorem M9{a:MA}{t:MT}{e:ME}(h:tM K (cm (iR1 a) t e) σ H Q):pX (zA (tMA K a)) (tMT K t) (tM K e) σ H Q:=by
 obtain⟨μ,S,ρ,u,S',hr,er,e0,k⟩:=h
 obtain⟨src,S1,e1,e0⟩:=be e0
 obtain⟨ys,S2,e2,e0⟩:=be e0
 split at e0
 ·rename_i hz
  cases e0
  refine JT hr er e1 λμ1 H1 n p1 k1 hr1 hs =>?_
  subst hs
  exact yE hr1 (er.mono k1 p1) e2 hz (k.mono p1 k1)
 ·cases e0
theorem Ng{a:MA}{t:MT}{e:ME}(h:tM K (cm (iR2 a) t e) σ H Q):pX (yN (tMA K a)) (tMT K t) (tM K e) σ H Q:=by
 obtain⟨μ,S,ρ,u,S',hr,er,e0,k⟩:=h
 obtain⟨src,S1,e1,e0⟩:=be e0
 obtain⟨ys,S2,e2,e0⟩:=be e0
 split at e0
 ·rename_i hz
  cases e0
  refine Kd hr er e1 λμ1 H1 lo n p1 k1 hr1 hs =>?_
  subst hs
  exact yE hr1 (er.mono k1 p1) e2 hz (k.mono p1 k1)
 ·cases e0
theorem QC{a:ME}{t:MT}{e:ME}(h:tM K (cm (dD a) t e) σ H Q):pX (λσ H R=>wG K (tM K a) σ H R\/CG K (tM K a) σ H R) (tMT K t) (tM K e) σ H Q:=by
 obtain⟨μ,S,ρ,u,S',hr,er,e0,k⟩:=h
 obtain⟨src,S1,e1,e0⟩:=be e0
 obtain⟨ys,S2,e2,e0⟩:=be e0
 split at e0
 ·rename_i hz
  cases e0
  refine A2 hr er e1 (λμ1 H1 us p vs p1 k1 hr1 hs hp rs =>?_) λμ1 H1 n p p1 k1 hr1 hs hp =>?_
  ·subst hs
   exact F9 hr1 (er.mono k1 p1) e2 hz (k.mono p1 k1) hp rs
  ·subst hs
   exact Gc hr1 (er.mono k1 p1) e2 hz (k.mono p1 k1) hp
 ·cases e0
end
end _G
end
section
namespace _G
open PySem PySem.Spec _L
open PyProof.Rows hiding St
section
variable {K:KX}{σ:St}{H:Hp}{Q:VK}{D:Ends}
theorem RUs.revs{H:Hp}{μ:List Addr}: ∀{us:List U}{vs:List V},RUs H μ us vs->RUs H μ us.reverse vs.reverse
 | [],vs,r=>by rw[r.nil_inv];exact .nil
 | u::us,vs,r=>by
   obtain⟨v,vs,rfl,a,b⟩:=r.inv
   rw[vE,vE]
   exact(RUs.revs b).append (.cons a .nil)
theorem FS{a:MA}{R:It->Hp->Prop}{μ:List Addr}{S S1:Sto}{ρ:Rho}{src:Src}(hr:HR K μ S H)(er:ER H μ ρ σ)(e:zk a ρ S=some (src,S1))
  (hR: ∀μ1 H1 us p vs,Pre μ μ1->bq H H1->HR K μ1 S1 H1->src = .imm us.reverse->H1 p=some (.tup vs)->RUs H1 μ1 us vs->R (Itv K p vs.length) H1):yM K (tMA K a) σ H R:=by
 obtain⟨xs,S2,e1,e⟩:=be e
 split at e
 ·rename_i us
  cases e
  refine⟨μ,S,ρ,_,_,hr,er,e1,λμ1 vs H1 p1 k1 hr1 rs =>?_⟩
  obtain⟨v,r,rfl,rx,rn⟩:=rs.inv
  rw[rn.nil_inv]
  obtain⟨p,vs,rfl,hp,r⟩:=gp rx
  exact⟨p,vs,rfl,.inl (.inl hp),hR μ1 H1 _ p vs p1 k1 hr1 rfl hp r⟩
 ·cases e
theorem Gf{us:List U}{vs:List V}{p:Addr}{t:MT}{e:ME}{ρ:Rho}{ys:List U}{μ:List Addr}{S S':Sto}(hr:HR K μ S H)(er:ER H μ ρ σ)(h:gX t e ρ us.reverse [] S=some (ys,S'))(hz:ys.length<big)(k:Aft K μ H (.ref S'.length) (S'++[.lst ys]) Q)
  (hp:H p=some (.tup vs)) (rs:RUs H μ us vs):zb (Itv K p vs.length) σ (tMT K t) (tM K e) H Q:=by
 have rr:=rs.revs
 have hl:=rr.len
 refine ua hr er h hz k (λH' kp=>⟨vs,.inl (.inl (kp p vs hp)),rfl,by rw[hl,si];exact aq _⟩) (λi H' hi kp =>?_) λi H' x H'' u hu kp y =>?_
 ·have hi':i<vs.reverse.length:=by rw[<- hl];exact hi
  exact⟨vs,vs.reverse[i],.inl (.inl (kp p vs hp)),rfl,bw hi'⟩
 ·obtain⟨rfl,y⟩:=y
  obtain⟨v,hv,rv⟩:=rr.get hu
  have:=y vs (.inl (.inl (kp p vs hp)))
  rw[hv]at this;cases this
  exact⟨rfl,rv⟩
theorem KJ{a:MA}{t:MT}{e:ME}(h:tM K (cm (zk a) t e) σ H Q):pX (yM K (tMA K a)) (tMT K t) (tM K e) σ H Q:=by
 obtain⟨μ,S,ρ,u,S',hr,er,e0,k⟩:=h
 obtain⟨src,S1,e1,e0⟩:=be e0
 obtain⟨ys,S2,e2,e0⟩:=be e0
 split at e0
 ·rename_i hz
  cases e0
  refine FS hr er e1 λμ1 H1 us p vs p1 k1 hr1 hs hp rs =>?_
  subst hs
  exact Gf hr1 (er.mono k1 p1) e2 hz (k.mono p1 k1) hp rs
 ·cases e0
theorem FG{i:Nat}{b:MS}{us:List U}{vs:List V}{ρ:Rho}{S:Sto}{μ:List Addr}{a:Addr}{r:Fl×Rho×Sto}(hr:HR K μ S H)(er:ER H μ ρ σ)(e:sJ i b us.reverse ρ S=some r)(fl:FlP K μ H D r)(ha:H a=some (.tup vs))(ru:RUs H μ us vs):
  ∃W:Nat->Nat->St->Hp->Prop,(∃m,W 0 m σ H) /\ ∀k m σ H,W k m σ H ->
   ((Itv K a vs.length).stop k H/\D.nx σ H)\/((Itv K a vs.length).go k H /\ ∃N:St->Hp->Prop,(∀σ' H',N σ' H' -> ∃m',m'<m/\W (k+1) m' σ' H') /\ ∀x H',(Itv K a vs.length).yld k H x H'->jq i x σ H' λσ2 H2=>tMS K b { D with nx:=N,ct:=N,bk:=D.nx } σ2 H2):=by
 have rr:=ru.revs
 refine⟨λk m σ1 H1=>m+k=us.reverse.length /\ ∃μ1 S1 ρ1,Pre μ μ1/\bq H H1/\HR K μ1 S1 H1/\ER H1 μ1 ρ1 σ1/\sJ i b (us.reverse.drop k) ρ1 S1=some r,⟨us.reverse.length,rfl,μ,S,ρ,Pre.refl _,bq.refl _,hr,er,e⟩,?_⟩
 rintro k m σ1 H1 ⟨hm,μ1,S1,ρ1,p1,k1,hr1,er1,e1⟩
 have hq:SqT K H1 a vs:= .inl (.inl (k1 a vs ha))
 cases m with
 | zero=>
   have hk:k=us.reverse.length:=by omega
   subst hk
   rw[oi]at e1
   cases e1
   exact .inl ⟨⟨vs,hq,rfl,by rw[rr.len,si];exact aq _⟩,fl μ1 σ1 H1 p1 k1 hr1 er1⟩
 | succ m=>
   have hk:k<us.reverse.length:=by omega
   have hu:us.reverse[k]? = some us.reverse[k]:=bw hk
   obtain⟨v,hv,rv⟩:=rr.get hu
   rw[drop_cons hu]at e1
   refine .inr ⟨⟨vs,v,hq,rfl,hv⟩,λσ2 H2 =>∃μ2 S2 ρ2,Pre μ μ2/\bq H H2/\HR K μ2 S2 H2/\ER H2 μ2 ρ2 σ2/\sJ i b (us.reverse.drop (k+1)) ρ2 S2=some r,λσ' H' w=>⟨m,cM _,by omega,w⟩,λx H' y =>?_⟩
   obtain⟨e',y⟩:=y
   subst e'
   have hx:=y vs hq
   rw[hv]at hx;cases hx
   exact nI hr1 (er1.set (RU.mono k1 p1 _ _ rv) i) e1 p1 k1 fl λμ2 σ2 H2 ρ2 S2 p2 k2 hr2 er2 e2=>⟨μ2,S2,ρ2,p2,k2,hr2,er2,e2⟩
theorem MN{i:Nat}{a:MA}{b:MS}(h:tMS K (fH i (zk a) b) D σ H):xM (yM K (tMA K a)) (jq i) (tMS K b) D σ H:=by
 obtain⟨μ,S,ρ,r,hr,er,e,fl⟩:=h
 obtain⟨src,S1,e1,e⟩:=be e
 refine FS hr er e1 λμ1 H1 us p vs p1 k1 hr1 hs hp rs =>?_
 subst hs
 exact FG hr1 (er.mono k1 p1) e (fl.mono p1 k1) hp rs
end
end _G
end
section
namespace _G
open PySem PySem.Spec _L
open PyProof.Rows hiding St
theorem PE.con{X:Cx}{e:Expr}{t t':TE}(h:PE X e t)(hm: ∀σ H Q,t' σ H Q->t σ H Q):PE X e t':=λpins s σ H Q I q=>h pins s σ H Q I (hm σ H Q q)
theorem PT.con{X:Cx}{e:Expr}{t t':TT}(h:PT X e t)(hm: ∀σ H Q,t' σ H Q->t σ H Q):PT X e t':=λpins s σ H Q I q=>h pins s σ H Q I (hm σ H Q q)
theorem PW.con{X:Cx}{e:Expr}{t t':TT}(h:PW X e t)(hm: ∀σ H Q,t' σ H Q->t σ H Q):PW X e t':=λwh pins s σ H Q I q=>h wh pins s σ H Q I (hm σ H Q q)
theorem PA.con{X:Cx}{e:List Expr}{t t':TA}(h:PA X e t)(hm: ∀σ H Q,t' σ H Q->t σ H Q):PA X e t':=λpos pins s σ H Q I q=>h pos pins s σ H Q I (hm σ H Q q)
theorem PS.con{X:Cx}{e:Stmt}{t t':TS}(h:PS X e t)(hm: ∀D σ H,t' D σ H->t D σ H):PS X e t':=λpins s σ H D I q=>h pins s σ H D I (hm D σ H q)
theorem PSs.con{X:Cx}{e:List Stmt}{t t':TS}(h:PSs X e t)(hm: ∀D σ H,t' D σ H->t D σ H):PSs X e t':=λpins s σ H D I q=>h pins s σ H D I (hm D σ H q)
theorem PTs.con{X:Cx}{e:List Expr}{t t':TT}(h:PTs X e t)(hm: ∀σ H Q,t' σ H Q->t σ H Q):PTs X e t':=λpins s σ H Q I q=>h pins s σ H Q I (hm σ H Q q)
theorem PI.or{X:Cx}{tg it:Expr}{w1 w2:TI}(h1:PI X tg it w1)(h2:PI X tg it w2):PI X tg it (λσ H R=>w1 σ H R\/w2 σ H R):=λpins s σ H R I q=>by
 rcases q with q |q
 ·exact h1 pins s σ H R I q
 ·exact h2 pins s σ H R I q
structure Mo where
 P:Program
 w:World
 K:KX
 mg:Str->Option Value
 base:Heap
 mkr:Option (Addr×Str)
noncomputable def vL(ns:List (Str×NameKind))(x:Str):Bool:=match ns.lookup x with
 | some .local=>true
 | some .cell=>true
 | some .free=>true
 | _=>false
noncomputable def uq(ns:List (Str×NameKind))(x:Str):Bool:=match ns.lookup x with
 | some .local=>true
 | some .cell=>true
 | _=>false
noncomputable def fb(ns:List (Str×NameKind))(x:Str):Bool:=match ns.lookup x with
 | some .globalImplicit=>true
 | _=>false
structure Sc(M:Mo)(X:Cx)(k:Nat)(N:List Str)(ns:List (Str×NameKind)):Prop where
 hP:X.prog=M.P
 hw:X.w=M.w
 hK:X.K=M.K
 hm:X.mg=M.mg
 hb:X.base=M.base
 hN:X.N=N
 nd:N.Nodup
 calm:X.calm=true
 loc: ∀y,ns.lookup y=some .local->X.env.scope.names.lookup y=some .local
 cel: ∀y,ns.lookup y=some .cell->X.env.scope.names.lookup y=some .cell/\X.fn y=true
 fre: ∀y,ns.lookup y=some .free->X.env.scope.names.lookup y=some .cell\/X.env.scope.names.lookup y=some .free
 glo: ∀y,ns.lookup y=some .globalImplicit->X.env.scope.names.lookup y=some .globalImplicit
 room:kQ k X.A
 own:PassesOwn (model X.prog X.w) X.A X.env X.xe
 cod: ∀c q,M.mkr=some (c,q)->X.env.code = .ref c/\X.env.qual=q
section
variable {M:Mo}{X:Cx}{k:Nat}{N:List Str}{ns:List (Str×NameKind)}
theorem Sc.vis(S:Sc M X k N ns){x:Str}(h:vL ns x=true):Vis X.env.scope x:=by
 unfold vL at h
 split at h
 ·rename_i e;exact .inl (S.loc x e)
 ·rename_i e;exact .inr (.inl (S.cel x e).1)
 ·rename_i e;exact .inr (S.fre x e)
 ·cases h
theorem Sc.lo(S:Sc M X k N ns){x:Str}(h:uq ns x=true):Loc X.env.scope x/\(X.fn x=true\/X.env.scope.names.lookup x=some .local):=by
 unfold uq at h
 split at h
 ·rename_i e;exact⟨.inl (S.loc x e),.inr (S.loc x e)⟩
 ·rename_i e;exact⟨.inr (S.cel x e).1,.inl (S.cel x e).2⟩
 ·cases h
theorem Sc.gl(S:Sc M X k N ns){x:Str}(h:fb ns x=true):Gl X x:=by
 unfold fb at h
 split at h
 ·rename_i e;exact S.glo x e
 ·cases h
variable {a b c e:Expr}{es:List Expr}{ma mb mc:ME}{mt:MT}{mas:MA}{pos p1 p2:Pos}{x:Str}
theorem OG (S:Sc M X k N ns) (i:Nat) (hi:N[i]? = some x) (hv:vL ns x=true) (hd:(x == ("__debug__":Str))=false) (hcd:(x == ("__classdict__":Str))=false):PE X (.Name x pos) (tM M.K (ab i)):=
 PE.con (GO (by rw[S.hN];exact hi) (S.vis hv) hd hcd) λ_ _ _ h=>OW h
theorem PN{i:Int}{j}:PE X (.Constant (.int i) j pos) (tM M.K (mC (.int i))):=PE.con LK λ_ _ _ h=>r_c (λ_ _=>eX) h
theorem QF{i:Bool}{j}:PE X (.Constant (.bool i) j pos) (tM M.K (mC (.bl i))):=PE.con Pt λ_ _ _ h=>r_c (λ_ _=>iD) h
theorem PY{j}:PE X (.Constant .none j pos) (tM M.K (mC .non)):=PE.con Ll λ_ _ _ h=>r_c (λ_ _=>rH) h
theorem MJ {u:U}{v:V}{g:Value} (S:Sc M X k N ns) (hg:fb ns x=true) (hm:M.mg x=some g) (r:RelV v g) (hv : ∀ H μ,RU H μ u v) (hd:(x == ("__debug__":Str))=false):PE X (.Name x pos) (tM M.K (mC u)):=
 PE.con (IR (S.gl hg) (by rw[S.hm];exact hm) r hd) λ_ _ _ h=>r_c hv h
theorem NV(S:Sc M X k N ns)(ha:PE X a (tM M.K ma))(hb:PE X b (tM M.K mb)):PE X (.BinOp a .Add b pos) (tM M.K (m2 da ma mb)):=
 PE.con (wK (LN.or (OpR.or (S.hK▸Ht) (S.hK▸H9))) ha hb) λ_ _ _ h=>xO LQ h
theorem M5(ha:PE X a (tM M.K ma))(hb:PE X b (tM M.K mb)):PE X (.BinOp a .Sub b pos) (tM M.K (m2 u0 ma mb)):=PE.con (wK Kx ha hb) λ_ _ _ h=>xO Km h
theorem Pp(S:Sc M X k N ns)(ha:PE X a (tM M.K ma))(hb:PE X b (tM M.K mb)):PE X (.BinOp a .Mult b pos) (tM M.K (m2 hV ma mb)):=PE.con (wK LI ha hb) λ_ _ _ h=>xO Ld h
theorem OM(ha:PE X a (tM M.K ma))(hb:PE X b (tM M.K mb)):PE X (.BinOp a .FloorDiv b pos) (tM M.K (m2 oDiv ma mb)):=PE.con (wK Hy ha hb) λ_ _ _ h=>xO Li h
theorem Oo(ha:PE X a (tM M.K ma))(hb:PE X b (tM M.K mb)):PE X (.BinOp a .Mod b pos) (tM M.K (m2 oMod ma mb)):=PE.con (wK Kp ha hb) λ_ _ _ h=>xO KS h
theorem NF(ha:PE X a (tM M.K ma))(hb:PE X b (tM M.K mb)):PE X (.BinOp a .Pow b pos) (tM M.K (m2 xH ma mb)):=PE.con (wK KP ha hb) λ_ _ _ h=>xO KQ h
theorem Nm(ha:PE X a (tM M.K ma)):PE X (.UnaryOp .USub a pos) (tM M.K (m1 jn ma)):=PE.con (Nq L5 ha) λ_ _ _ h=>QK MB h
theorem Qs(S:Sc M X k N ns)(ha:PE X a (tM M.K ma))(hb:PE X b (tM M.K mb))(hs:xT b):PE X (.Subscript a b pos) (tM M.K (m2 oIx ma mb)):=
 PE.con (Pa (IxR.or (S.hK▸Ku) (LG (by have:=S.room.units;omega))) ha hb hs) λ_ _ _ h=>xO Pj h
theorem OQ(hc:PT X c (tMT M.K mt))(ha:PE X a (tM M.K ma))(hb:PE X b (tM M.K mb)):PE X (.IfExp c a b pos) (tM M.K (v7 mt ma mb)):=PE.con (ET hc ha hb) λ_ _ _ h=>NO h
theorem PU:PA X [] (tMA M.K af):=PA.con vg λ_ _ _ h=>Nx h
theorem MH(ha:PE X a (tM M.K ma))(hr:PA X es (tMA M.K mas))(hs:autoParam (starEach (a::es) X.env=(false,eval a X.env)::starEach es X.env) au1._auto_1):PA X (a::es) (tMA M.K (aa ma mas)):=
 PA.con (nN ha hr hs) λ_ _ _ h=>Mp h
theorem NI{x1}(h:PA X es (tMA M.K mas)):PE X (.Tuple es x1 pos) (tM M.K (fN mas)):=PE.con (Mn h) λ_ _ _ h=>NK h
theorem NJ(h:PA X es (tMA M.K mas)):PE X (.List es pos) (tM M.K (dz mas)):=PE.con (Kt h) λ_ _ _ h=>PM h
theorem Nr(ha:PT X a (tMT M.K mt)){mt':MT}(hb:PW X (.BoolOp .And (b::es) pos) (tMT M.K mt')):PW X (.BoolOp .And (a::b::es) pos) (tMT M.K (pv mt mt')):=PW.con (KE ha hb) λ_ _ _ h=>Ot h
theorem QJ(ha:PT X a (tMT M.K mt)){mt':MT}(hb:PW X (.BoolOp .Or (b::es) pos) (tMT M.K mt')):PW X (.BoolOp .Or (a::b::es) pos) (tMT M.K (cOr mt mt')):=PW.con (MQ ha hb) λ_ _ _ h=>P8 h
theorem KL(ha:PT X a (tMT M.K mt)):PW X (.BoolOp .And [a] pos) (tMT M.K mt):=Hg ha
theorem OT(ha:PT X a (tMT M.K mt)):PW X (.BoolOp .Or [a] pos) (tMT M.K mt):=Lp ha
theorem Pi(ha:PT X a (tMT M.K mt)):PT X (.UnaryOp .Not a pos) (tMT M.K (nA mt)):=PT.con (LM ha) λ_ _ _ h=>PL h
theorem N5(ha:PE X a (tM M.K ma))(he:autoParam (∀whole,isTrue a X.env whole=(do let v <- whole;standAt a.pos;holding [v] (truthy v))) au3._auto_1):PT X a (tMT M.K (cOf ma)):=PT.con (Lm ha he) λ_ _ _ h=>Qc (λ_ q=>q) h
theorem Eo (S:Sc M X k N ns) (hg:fb ns "len"=true) (hm:M.mg "len"=none) (ha:PA X (e::es) (tMA M.K mas)) (he:autoParam (starEach (e::es) X.env=(false,eval e X.env)::starEach es X.env) au1._auto_1) (hpl:autoParam ((backTo pos (starEach es X.env)).any (·.1)=false) au1._auto_1) :
  PE X (.Call (.Name "len" p1) (e::es) [] pos) (tM M.K (mFn bJ mas)):=
 PE.con (kK (iq.or (S.hK▸xn) CK) (S.gl hg) (by rw[S.hm];exact hm) PySem.boot_len ha (by decide) (by decide) he hpl) λ_ _ _ h=>AG K4 h
theorem HH (S:Sc M X k N ns) (hg:fb ns "tuple"=true) (hm:M.mg "tuple"=none) (ha:PA X (e::es) (tMA M.K mas)) (he:autoParam (starEach (e::es) X.env=(false,eval e X.env)::starEach es X.env) au1._auto_1) (hpl:autoParam ((backTo pos (starEach es X.env)).any (·.1)=false) au1._auto_1) :
  PE X (.Call (.Name "tuple" p1) (e::es) [] pos) (tM M.K (mFn bT mas)):=
 PE.con (nM (S.hK▸vZ) (S.gl hg) (by rw[S.hm];exact hm) kD ha (by decide) (by decide) he hpl) λ_ _ _ h=>AG Ew h
theorem NY (S:Sc M X k N ns) (hg:fb ns "max"=true) (hm:M.mg "max"=none) (ha:PA X (e::es) (tMA M.K mas)) (he:autoParam (starEach (e::es) X.env=(false,eval e X.env)::starEach es X.env) au1._auto_1) (hpl:autoParam ((backTo pos (starEach es X.env)).any (·.1)=false) au1._auto_1) :
  PE X (.Call (.Name "max" p1) (e::es) [] pos) (tM M.K (mFn zX mas)):=
 PE.con (kK (CT S.calm) (S.gl hg) (by rw[S.hm];exact hm) PyProof.Rows.boot_max ha (by decide) (by decide) he hpl) λ_ _ _ h=>AG K5 h
theorem N8 (S:Sc M X k N ns) (hg:fb ns "min"=true) (hm:M.mg "min"=none) (ha:PA X (e::es) (tMA M.K mas)) (he:autoParam (starEach (e::es) X.env=(false,eval e X.env)::starEach es X.env) au1._auto_1) (hpl:autoParam ((backTo pos (starEach es X.env)).any (·.1)=false) au1._auto_1) :
  PE X (.Call (.Name "min" p1) (e::es) [] pos) (tM M.K (mFn oy mas)):=
 PE.con (kK (S.hK▸De S.calm (by have:=S.room.units;assumption)) (S.gl hg) (by rw[S.hm];exact hm) PyProof.Rows.boot_min ha (by decide) (by decide) he hpl) λ_ _ _ h=>AG La h
structure Fn(M:Mo)(x:Str)(k:Nat)(ps:List Str)(m:MF):Prop where
 ex: ∃(f:Addr) (fd:FuncData),M.mg x=some (.ref f)/\cW M.K (.ref f)=true/\Binds M.K fd ps []/\jB M.P M.w M.K M.mg M.base CX0 k f fd ps (spM M.K m)
theorem Mv {mf:MF}{ps:List Str}{k':Nat} (S:Sc M X k N ns) (F:Fn M x k' ps mf) (hk:k'<=k) (hg:fb ns x=true) (ha:PA X (e::es) (tMA M.K mas)) (hd:(x == ("__debug__":Str))=false) (he:autoParam (starEach (e::es) X.env=(false,eval e X.env)::starEach es X.env) au1._auto_1) (hpl:autoParam ((backTo pos (starEach es X.env)).any (·.1)=false) au1._auto_1) :
  PE X (.Call (.Name x p1) (e::es) [] pos) (tM M.K (mFn mf mas)):=by
 obtain⟨f,fd,hm,hkp,hb,F⟩:=F.ex
 rw[<- S.hP,<- S.hw,<- S.hK,<- S.hm,<- S.hb]at F
 rw[<- S.hm]at hm
 rw[<- S.hK]at hkp hb
 exact PE.con (JH F (S.room.mono hk) (S.gl hg) hm hkp hb .nil BO ha hd he hpl) λ_ _ _ h=>Gm h
theorem IB {mf:MF}{ps:List Str}{k':Nat} (S:Sc M X k N ns) (F:Fn M x k' ps mf) (hk:k'<=k) (hg:fb ns x=true) (hd:(x == ("__debug__":Str))=false) :
  PE X (.Call (.Name x p1) [] [] pos) (tM M.K (mFn mf af)):=by
 obtain⟨f,fd,hm,hkp,hb,F⟩:=F.ex
 rw[<- S.hP,<- S.hw,<- S.hK,<- S.hm,<- S.hb]at F
 rw[<- S.hm]at hm
 rw[<- S.hK]at hkp hb
 refine PE.con (F8 F (S.room.mono hk) (S.gl hg) hm hkp hb .nil BO hd) λσ H Q h =>?_
 obtain⟨μ,S,ρ,u,S',hr,er,e,kk⟩:=h
 exact⟨μ,S,[],u,S',hr,.nil,e,kk⟩
theorem Fu (S:Sc M X k N ns) (ho:PE X a (tM M.K ma)) (ha:PA X (e::es) (tMA M.K mas)) (hbase:autoParam (attributeBase a "append" X.env (eval a X.env)=eval a X.env) au1._auto_1)
  (hfew:autoParam (((backTo pos (starEach (e::es) X.env)).all (λx => !x.1)&&(backToKw pos (keywordEach [] X.env)).all (λx=>x.1.isSome)
   && decide ((e::es).length+([]:List Keyword).length+(if ([]:List Keyword).isEmpty then 0 else 1)<30))=true) au1._auto_1)
  (hline:autoParam ((p1.endLine==pos.line)=true) au1._auto_1) (hs:autoParam (starEach (e::es) X.env=(false,eval e X.env)::starEach es X.env) au1._auto_1) (hpl:autoParam ((backTo pos (starEach es X.env)).any (·.1)=false) au1._auto_1):
  PE X (.Call (.Attribute a "append" p1) (e::es) [] pos) (tM M.K (mML cU ma mas)):=by
 exact PE.con (FP iz PySem.F.slot_list_append PySem.F.type_list_append CJ ho ha hbase hfew hline hs hpl) λ_ _ _ h=>S.hK▸Lv Dc h
theorem Hu (S:Sc M X k N ns) (ho:PE X a (tM M.K ma)) (ha:PA X (e::es) (tMA M.K mas)) (hbase:autoParam (attributeBase a "pop" X.env (eval a X.env)=eval a X.env) au1._auto_1)
  (hfew:autoParam (((backTo pos (starEach (e::es) X.env)).all (λx => !x.1)&&(backToKw pos (keywordEach [] X.env)).all (λx=>x.1.isSome)
   && decide ((e::es).length+([]:List Keyword).length+(if ([]:List Keyword).isEmpty then 0 else 1)<30))=true) au1._auto_1)
  (hline:autoParam ((p1.endLine==pos.line)=true) au1._auto_1) (hs:autoParam (starEach (e::es) X.env=(false,eval e X.env)::starEach es X.env) au1._auto_1) (hpl:autoParam ((backTo pos (starEach es X.env)).any (·.1)=false) au1._auto_1):
  PE X (.Call (.Attribute a "pop" p1) (e::es) [] pos) (tM M.K (mML km ma mas)):=by
 exact PE.con (FP iz Co Cp EE ho ha hbase hfew hline hs hpl) λ_ _ _ h=>S.hK▸Lv E2 h
theorem N7 {tg:Expr} (S:Sc M X k N ns) (hg:fb ns "range"=true) (hm:M.mg "range"=none) (ha:PA X [a] (tMA M.K mas)) (hs:autoParam (starEach [a] X.env = [(false,eval a X.env)]) au1._auto_1):PI X tg (.Call (.Name "range" p1) [a] [] pos) (zA (tMA M.K mas)):=
 DL (S.gl hg) (by rw[S.hm];exact hm) ha hs
theorem PZ {tg:Expr} (S:Sc M X k N ns) (hg:fb ns "range"=true) (hm:M.mg "range"=none) (ha:PA X [a,b] (tMA M.K mas)) (hs:autoParam (starEach [a,b] X.env = [(false,eval a X.env),(false,eval b X.env)]) au1._auto_1) (hs2:autoParam (starEach [b] X.env = [(false,eval b X.env)]) au1._auto_1):PI X tg (.Call (.Name "range" p1) [a,b] [] pos) (yN (tMA M.K mas)):=
 Df (S.gl hg) (by rw[S.hm];exact hm) ha hs hs2
theorem Ly {tg:Expr} (S:Sc M X k N ns) (hg:fb ns "reversed"=true) (hm:M.mg "reversed"=none) (ha:PA X [a] (tMA M.K mas)) (hs:autoParam (starEach [a] X.env = [(false,eval a X.env)]) au1._auto_1):PI X tg (.Call (.Name "reversed" p1) [a] [] pos) (yM M.K (tMA M.K mas)):=
 S.hK▸LU (S.gl hg) (by rw[S.hm];exact hm) ha hs
theorem OD{tg:Expr}(S:Sc M X k N ns)(ha:PE X a (tM M.K ma)):PI X tg a (λσ H R=>wG M.K (tM M.K ma) σ H R\/CG M.K (tM M.K ma) σ H R):=by
 have h:=PI.or (HW (tg:=tg) ha) (K3 ha)
 rw[S.hK]at h
 exact h
noncomputable def xV(N N':List Str)(ns names:List (Str×NameKind))(xs:List Str):Bool:=
 decide ((names.map (·.1)).Nodup)&&names.all (λy=>if y.2==.free then(match ns.lookup y.1 with |some .cell=>true |some .free=>true |_=>false) else true)&&xs.all (uq names)&&decide N'.Nodup &&
 (N'.length==N.length+xs.length)&&((aB xs.length).all λj=>N'[N.length+j]? == xs[j]?)&&(aB N.length).all λi=>match N'[i]? with
  | none=>true
  | some y=>if vL names y then N[i]? == some y&&names.lookup y==some .free else true
noncomputable def nR(N N':List Str)(ns names:List (Str×NameKind))(x:Str):Bool:=xV N N' ns names [x]
theorem AO{N':List Str}{scope:Scope}{xs:List Str}(S:Sc M X k N ns)(hk:scope.kind = .function)(h:xV N N' ns scope.names xs=true):jk X N' scope xs:=by
 unfold xV at h
 simp only[aA]at h
 obtain⟨⟨⟨⟨⟨⟨h1,h2⟩,h3⟩,h4⟩,h5⟩,h6⟩,h7⟩:=h
 refine⟨hk,of_decide_eq_true h1,λy hy e =>?_,λx hx =>?_,of_decide_eq_true h4,?_,λj x hj =>?_,λi y hi e hv =>?_⟩
 ·have:=bP.mp h2 y hy
  rw[if_pos (by rw[e];rfl)]at this
  split at this
  ·rename_i q;exact .inl (S.cel y.1 q).1
  ·rename_i q;exact S.fre y.1 q
  ·cases this
 ·have h3:=bP.mp h3 x hx
  unfold uq at h3
  split at h3
  ·rename_i q;exact .inl q
  ·rename_i q;exact .inr q
  ·cases h3
 ·rw[S.hN];exact eq_of_beq h5
 ·have hl:=(ah.mp hj).1
  have:=bP.mp h6 j (bp.mpr hl)
  rw[S.hN,eq_of_beq this];exact hj
 ·rw[S.hN]at hi ⊢
  have:=bP.mp h7 i (bp.mpr hi)
  rw[e]at this
  simp only at this
  have hvb:vL scope.names y=true:=by
   unfold vL
   rcases hv with q |q |q <;> rw[q]
  rw[if_pos hvb,aA]at this
  exact⟨eq_of_beq this.1,eq_of_beq this.2⟩
theorem wz{N':List Str}{scope:Scope}(S:Sc M X k N ns)(hk:scope.kind = .function)(h:nR N N' ns scope.names x=true):jk X N' scope [x]:=AO S hk h
theorem xC{N':List Str}{scope:Scope}{xs:List Str}(S:Sc M X k N ns)(C:jk X N' scope xs)(s₂:Shared)(H₂:Hp)(fp:List Addr):Sc M (blk X N' scope s₂ H₂ fp) k N' scope.names where
 hP:=S.hP
 hw:=S.hw
 hK:=S.hK
 hm:=S.hm
 hb:=S.hb
 hN:=rfl
 nd:=C.ndN
 calm:=S.calm
 loc:=λy h=>lookup_relabel_local h
 cel:=λy h=>⟨lx h,by show(scope.names.lookup y==some .cell)=true;rw[h];rfl⟩
 fre:=λy h=>lG h
 glo:=λy h=>pZ h
 room:=S.room
 own:=vq
 cod:=S.cod
theorem Fw{N':List Str}{scope:Scope}{px:Pos}{iter elt:Expr}{ifs:List Expr}{wi:TI}{mi:MI}(S:Sc M X k N ns)(hk:scope.kind = .function)(ok:nR N N' ns scope.names x=true)(hi:PI X (.Name x px) iter wi)
  (ht: ∀X',Sc M X' k N' scope.names->PTs X' ifs (tMT M.K mt)) (he: ∀X',Sc M X' k N' scope.names->PE X' elt (tM M.K mc)) (hr: ∀σ H Q,tM M.K (cm mi mt mc) σ H Q->pX wi (tMT M.K mt) (tM M.K mc) σ H Q)
  (hs:autoParam (∀x,foldedSetIterable iter X.env x=pure x) au3._auto_1):PE X (.ListComp elt [⟨.Name x px,iter,ifs,0⟩] scope pos) (tM M.K (cm mi mt mc)):=by
 have C:=wz S hk ok
 exact PE.con (Ia S.calm C hi (λs₂ H₂ fp=>ht _ (xC S C s₂ H₂ fp)) (λs₂ H₂ fp=>he _ (xC S C s₂ H₂ fp)) hs) hr
theorem KF:PTs X [] (tMT M.K cTT):=PTs.con Jg λσ H Q h=>by
 obtain⟨μ,S,ρ,b,S',hr,er,e,kk⟩:=h
 cases e
 exact kk μ H (Pre.refl _) (bq.refl _) hr
theorem NL(h:PT X c (tMT M.K mt)):PTs X [c] (tMT M.K mt):=Ic h
variable {st:Stmt}{sts:List Stmt}{ms ms':MS}
theorem Px:PSs X [] (tMS M.K cP):=PSs.con Ip λ_ _ _ h=>Fq h
theorem OJ(h1:PS X st (tMS M.K ms))(h2:PSs X sts (tMS M.K ms')):PSs X (st::sts) (tMS M.K (bc ms ms')):=PSs.con (FI h1 h2) λ_ _ _ h=>ND h
theorem PF(h1:PS X st (tMS M.K ms)):PSs X [st] (tMS M.K ms):=Hk h1
theorem JY(S:Sc M X k N ns)(i:Nat)(hi:N[i]? = some x)(ho:uq ns x=true)(he:PE X e (tM M.K ma))(hs:autoParam (swapsWith e (some (.Name x p1)) pos.line X.env=pure false) au1._auto_1):PS X (.Assign [.Name x p1] e pos) (tMS M.K (bI i ma)):=
 PS.con (KH (by rw[S.hN];exact S.nd) (by rw[S.hN];exact hi) (S.lo ho).1 he hs (S.lo ho).2) λ_ _ _ h=>J2 h
theorem Hv(S:Sc M X k N ns)(ho:PE X a (tM M.K ma))(hi:PE X b (tM M.K mb))(he:PE X e (tM M.K mc))(hs:autoParam (swapsWithSole [.Subscript a b p1] e pos.line X.env=pure false) au1._auto_1)(hw:autoParam (swappedStores [.Subscript a b p1] e X.env=pure none) au1._auto_1)
  (h1:autoParam ((assignEach [.Subscript a b p1] X.env).map (·.2) = [assign (.Subscript a b p1) X.env]) au1._auto_1)
  (hasn:autoParam (∀v,assign (.Subscript a b p1) X.env v=(do
   let ov <- holding [v] (eval a X.env)
   let iv <- holding [v,ov] (eval b X.env)
   standAt p1
   holding [v,ov,iv] (setItem ov iv v)
   release [v,ov,iv] [])) au3._auto_1):PS X (.Assign [.Subscript a b p1] e pos) (tMS M.K (jH ma mb mc)):=
 PS.con (K6 he (Ln ho hi (Hh (by have:=S.room.units;omega)) hasn) hs hw h1) λ_ _ _ h=>Iv h
theorem My(he:PE X e (tM M.K ma))(hs:autoParam (swapsWith e none pos.line X.env=pure false) au1._auto_1):PS X (.Expr e pos) (tMS M.K (du ma)):=PS.con (Ir he hs) λ_ _ _ h=>KB h
theorem O4(he:PE X e (tM M.K ma)):PS X (.Return (some e) pos) (tMS M.K (bH ma)):=PS.con (LL he) λ_ _ _ h=>Oc h
theorem QB{sts':List Stmt}(hc:PT X c (tMT M.K mt))(ha:PSs X sts (tMS M.K ms))(hb:PSs X sts' (tMS M.K ms')):PS X (.If c sts sts' pos) (tMS M.K (sIf mt ms ms')):=PS.con (O9 hc ha hb) λ_ _ _ h=>Qd h
theorem O8{iter:Expr}{wi:TI}{mi:MI}(S:Sc M X k N ns)(i:Nat)(hi:N[i]? = some x)(ho:uq ns x=true)(hit:PI X (.Name x p1) iter wi)(hb:PSs X sts (tMS M.K ms))(hr: ∀D σ H,tMS M.K (fH i mi ms) D σ H->xM wi (jq i) (tMS M.K ms) D σ H)
  (hs:autoParam (∀x,foldedSetIterable iter X.env x=pure x) au3._auto_1):PS X (.For (.Name x p1) iter sts [] pos) (tMS M.K (fH i mi ms)):=
 PS.con (FT S.own S.calm hit (Bt (by rw[S.hN];exact S.nd) (by rw[S.hN];exact hi) (S.lo ho).1 (S.lo ho).2) hb hs) hr
theorem Je(S:Sc M X k N ns)(hc:PT X c (tMT M.K mt))(hb:PSs X sts (tMS M.K ms)):PS X (.While c sts [] pos) (tMS M.K (q0 mt ms)):=PS.con (Eu S.own hc hb) λ_ _ _ h=>Ib h
end
theorem Sc.def {M:Mo}{N ps:List Str}{qual:Str}{scope:Scope}{f:Addr}{cdv:Value}{A:Around}{outer:List Env}{s:Shared}{H:Hp}{E:XK}{k:Nat} (S:aX N ps scope) (hr:kQ k (A.deeper (envOfC qual scope s.heap.objs.size f cdv))) (h0 : ∀ c q,M.mkr=some (c,q)->cdv = .ref c/\qual++".<locals>."=q) :
  Sc M (AK CX0 M.P M.w M.K M.mg M.base N qual scope f cdv A outer s H E).nox k N scope.names:=
 ⟨rfl,rfl,rfl,rfl,rfl,rfl,S.nd,rfl,λ_ h=>h,λ_ h=>⟨h,rfl⟩,λ_ h => .inr h,λ_ h=>h,hr,vq,h0⟩
theorem wM{H:Hp}{μ:List Addr}{N:List Str}{us:List U}{vs:List V}(r:RUs H μ us vs):ER H μ (us.map some++cq (N.length - us.length) none) (_L.start N vs):=by
 unfold _L.start
 refine⟨by simp[r.len],λi u h =>?_⟩
 by_cases hi:i<us.length
 ·rw[aS (by simpa using hi),bO]at h
  cases e:us[i]? with
  | none=>rw[e]at h;cases h
  | some w=>
    rw[e]at h;cases h
    obtain⟨v,hv,rv⟩:=r.get e
    refine⟨v,?_,rv⟩
    rw[aS (by simpa [<- r.len]using hi),bO,hv];rfl
 ·rw[az (by simpa using hi)]at h
  rw[iO]at h
  split at h <;> cases h
theorem Fy{M:Mo}(h0:M.mkr=none){x qual:Str}{st:Stmt}{f:Addr}{fd:FuncData}{N ps:List Str}{k:Nat}{ms:MS}(F:Fun M.K x qual st f fd)(S:aX N ps (ao st))
  (hb: ∀X,Sc M X k N (ao st).names->PSs X (aN st) (tMS M.K ms)):jB M.P M.w M.K M.mg M.base CX0 (k+1) f fd ps (spM M.K (run ps.length N.length ms)):=by
 refine F.ok S (λvs H Q E h =>?_) λcdv A outer s H vs Q E hr h=>⟨tMS M.K ms,hb _ (Sc.def S hr λc q h=>by rw[h0]at h;cases h),?_⟩
 ·obtain⟨μ,S',us,u,S'',hr,rs,e,_⟩:=h
  unfold run at e
  split at e
  ·rename_i hl;rw[<- rs.len];exact hl
  ·cases e
 ·obtain⟨μ,S1,us,u,S2,hr,rs,e,ka⟩:=h
  unfold run at e
  split at e
  ·rename_i hl
   have er:=wM (N:=N) rs
   rw[hl]at er
   split at e
   ·rename_i w ρ' S3 q
    cases e
    exact⟨μ,S1,_,_,hr,er,q,ka⟩
   ·rename_i ρ' S3 q
    cases e
    exact⟨μ,S1,_,_,hr,er,q,λμ' σ' H' p' k' hr' er'=>ka μ' _ H' p' k' hr' rH⟩
   ·cases e
  ·cases e
end _G
end
section
namespace _G
open PySem PySem.Spec _L
open PyProof.Rows hiding St
mutual
inductive rF(K:av)(H:Hp):V->PyData->Prop where
 | non:rF K H .non .none
 | bl (b:Bool):rF K H (.bl b) (.bool b)
 | int (i:Int):rF K H (.int i) (.int i)
 | str (x:Str):rF K H (.str x) (.str x)
 | tup {a:Addr}{vs:List V}{ds:List PyData}:SqT K H a vs->lW K H vs ds->rF K H (.ref a) (.tuple ds)
 | lst {a:Addr}{vs:List V}{ds:List PyData}:SqL K H a vs->lW K H vs ds->rF K H (.ref a) (.list ds)
inductive lW(K:av)(H:Hp):List V->List PyData->Prop where
 | nil:lW K H [] []
 | cons {v:V}{vs:List V}{d:PyData}{ds:List PyData}:rF K H v d->lW K H vs ds->lW K H (v::vs) (d::ds)
end
section
variable {X:Cx}{pins:List (Addr×Obj)}{σ:St}{H:Hp}{s:Shared}
mutual
theorem rF.reads(I:Inv X pins σ H s): ∀{v:V}{d:PyData}{w:Value},rF X.K H v d->RelV v w -> ∃as,Reads s.heap w d as
 | _,_,_,.non,r=>⟨[],by cases (show _=jx from r);exact .none⟩
 | _,_,_,.bl b,r=>⟨[],by cases (show _=oC b from r);exact .bool b⟩
 | _,_,_,.int i,r=>by
   obtain⟨t,e⟩:=(show ∃t,_=nC i t from r)
   subst e;exact⟨[],.int i t⟩
 | _,_,_,.str x,r=>by
   obtain⟨t,e⟩:=(show ∃t,_=wc x t from r)
   subst e;exact⟨[],.str x t⟩
 | _,_,_,.tup (a:=a) h rs,r=>by
   cases (show _=bj a from r)
   obtain⟨its,rv,⟨o,e,c,n,dt⟩,_⟩:=I.tuple h
   obtain⟨as,q⟩:=lW.reads I rs rv
   exact⟨as,.tuple e c dt q⟩
 | _,_,_,.lst (a:=a) h rs,r=>by
   cases (show _=bj a from r)
   obtain⟨its,rv,⟨o,n,e,c,dd,dt⟩,_⟩:=I.list h
   obtain⟨as,q⟩:=lW.reads I rs rv
   exact⟨a::as,.list e c dt q⟩
theorem lW.reads(I:Inv X pins σ H s): ∀{vs:List V}{ds:List PyData}{ws:List Value},lW X.K H vs ds->cy vs ws -> ∃as,ReadsAll s.heap ws ds as
 | _,_,_,.nil,r=>by cases r;exact⟨[],.nil⟩
 | _,_,_,.cons h rs,r=>by
   cases r with
   | cons r1 r2=>
     obtain⟨as,q⟩:=rF.reads I h r1
     obtain⟨bs,q'⟩:=lW.reads I rs r2
     exact⟨as++bs,.cons q q'⟩
end
end
theorem qE{α β:Type}{f:α->Option β}{P:α->β->Prop}(hf: ∀x y,f x=some y->P x y): ∀{xs:List α}{ys:List β},cH f xs=some ys->Paired P xs ys
 | [],ys,h=>by cases h;exact .nil
 | x::xs,ys,h=>by
   unfold cH at h
   cases e:f x with
   | none=>rw[e]at h;cases h
   | some y=>
     rw[e]at h
     simp only[ag]at h
     cases e2:cH f xs with
     | none=>rw[e2]at h;cases h
     | some zs=>
       rw[e2]at h;cases h
       exact .cons (hf x y e) (qE hf e2)
theorem tN{f:Nat}: ∀{us:List U}{ds:List PyData},Paired (λ(_:U) (d:PyData)=>d.canLay0=true/\d.depth<=f) us ds->lT ds=true/\jS ds<=f
 | _,_,.nil=>⟨by simp[lT],by simp[jS]⟩
 | _,_,.cons h t=>by
   obtain⟨a,b⟩:=tN t
   exact⟨by simp[lT,h.1,a],by simp only[jS];exact Nat.max_le.mpr ⟨h.2,b⟩⟩
section
variable {K:KX}{H:Hp}{μ:List Addr}{S:Sto}
theorem tE{f:Nat}(hr:HR K μ S H)(ih: ∀(u:U) (d:PyData),toD S f u=some d -> ∀v,RU H μ u v->rF K H v d): ∀{us:List U}{ds:List PyData},cH (toD S f) us=some ds -> ∀{vs:List V},RUs H μ us vs->lW K H vs ds
 | [],ds,h,vs,r=>by cases h;rw[r.nil_inv];exact .nil
 | u::us,ds,h,vs,r=>by
   unfold cH at h
   cases e:toD S f u with
   | none=>rw[e]at h;cases h
   | some y=>
     rw[e]at h
     simp only[ag]at h
     cases e2:cH (toD S f) us with
     | none=>rw[e2]at h;cases h
     | some zs=>
       rw[e2]at h;cases h
       obtain⟨v,r',rfl,a,b⟩:=r.inv
       exact .cons (ih u y e v a) (tE hr ih e2 b)
theorem tF(hr:HR K μ S H): ∀(f:Nat) (u:U) (d:PyData),toD S f u=some d -> ∀v,RU H μ u v->rF K H v d
 | 0,u,d,h,v,r=>by cases u <;> cases h
 | f+1,.non,d,h,v,r=>by cases h;rw[show v = .non by simpa only [RU]using r];exact .non
 | f+1,.bl b,d,h,v,r=>by cases h;rw[jM r];exact .bl b
 | f+1,.int i,d,h,v,r=>by cases h;rw[cZ r];exact .int i
 | f+1,.str x,d,h,v,r=>by
   unfold toD at h
   split at h
   ·cases h;rw[show v = .str x by simpa only [RU]using r];exact .str x
   ·cases h
 | f+1,.tup us,d,h,v,r=>by
   unfold toD at h
   cases e:cH (toD S f) us with
   | none=>rw[e]at h;cases h
   | some ds=>
     rw[e]at h;cases h
     obtain⟨a,vs,rfl,ha,rs⟩:=gp r
     exact .tup (.inl (.inl ha)) (tE hr (tF hr f) e rs)
 | f+1,.ref n,d,h,v,r=>by
   unfold toD at h
   cases e0:getL S n with
   | none=>rw[e0]at h;cases h
   | some us=>
     rw[e0]at h
     simp only[ag]at h
     cases e:cH (toD S f) us with
     | none=>rw[e]at h;cases h
     | some ds=>
       rw[e]at h;cases h
       obtain⟨a,rfl,ha⟩:=fJ r
       obtain⟨a',vs,ha',hs,rs⟩:=hr.sq e0
       rw[ha]at ha';cases ha'
       exact .lst hs (tE hr (tF hr f) e rs)
 | f+1,.obj a,d,h,v,r=>by cases h
end
theorem tz(S:Sto): ∀(f:Nat) (u:U) (d:PyData),toD S f u=some d->d.canLay0=true/\d.depth<=f
 | 0,u,d,h=>by cases u <;> cases h
 | f+1,.non,d,h=>by cases h;exact⟨by simp[iY],by simp[kh]⟩
 | f+1,.bl b,d,h=>by cases h;exact⟨by simp[iY],by simp[kh]⟩
 | f+1,.int i,d,h=>by cases h;exact⟨by simp[iY],by simp[kh]⟩
 | f+1,.str x,d,h=>by
   unfold toD at h
   split at h
   ·rename_i q;cases h;exact⟨q,by simp[kh]⟩
   ·cases h
 | f+1,.tup us,d,h=>by
   unfold toD at h
   cases e:cH (toD S f) us with
   | none=>rw[e]at h;cases h
   | some ds=>
     rw[e]at h;cases h
     obtain⟨a,b⟩:=tN (qE (λx y q=>tz S f x y q) e)
     exact⟨by simpa [iY]using a,by simp only[kh];exact Nat.lt_succ_of_le (by assumption)⟩
 | f+1,.ref n,d,h=>by
   unfold toD at h
   cases e0:getL S n with
   | none=>rw[e0]at h;cases h
   | some us=>
     rw[e0]at h
     simp only[ag]at h
     cases e:cH (toD S f) us with
     | none=>rw[e]at h;cases h
     | some ds=>
       rw[e]at h;cases h
       obtain⟨a,b⟩:=tN (qE (λx y q=>tz S f x y q) e)
       exact⟨by simpa [iY]using a,by simp only[kh];exact Nat.lt_succ_of_le (by assumption)⟩
 | f+1,.obj a,d,h=>by cases h
noncomputable def uP(K:av)(H:Hp)(v:V)(d:PyData):Prop:=rF K H v d/\d.canLay0=true/\d.depth<=40
noncomputable def PQ(K:av):R2:=λx y H Q =>∃a b,uP K H x a/\uP K H y b/\Q (.bl (kC a b)) H
noncomputable def P1(K:av):R2:=λx y H Q =>∃a b,uP K H x a/\uP K H y b/\Q (.bl (!kC a b)) H
theorem og{K:av}{H:Hp}{v:V}{d:PyData}(h:uP K H v d):SeqAt.shaped d=true:=by
 unfold SeqAt.shaped
 rw[h.2.1,decide_eq_true (aF h.2.2 (by decide))];rfl
section
variable {X:Cx}
theorem KR(hu:X.A.units+64<cLine):OpR X (compareOp .Eq) (PQ X.K):=by
 intro pins s σ H x y v u Q I rx ry h
 obtain⟨a,b,ha,hb,q⟩:=h
 obtain⟨as,r1⟩:=ha.1.reads I rx
 obtain⟨bs,r2⟩:=hb.1.reads I ry
 exact SeqAt.compareEq_shaped r1 r2 (og ha) (og hb) hu ⟨.bl _,H,I,rfl,q⟩
theorem L3(hu:X.A.units+64<cLine):OpR X (compareOp .NotEq) (P1 X.K):=by
 intro pins s σ H x y v u Q I rx ry h
 obtain⟨a,b,ha,hb,q⟩:=h
 obtain⟨as,r1⟩:=ha.1.reads I rx
 obtain⟨bs,r2⟩:=hb.1.reads I ry
 exact SeqAt.compareNe_shaped r1 r2 (og ha) (og hb) hu ⟨.bl _,H,I,rfl,q⟩
end
section
variable {K:KX}{μ:List Addr}{S:Sto}{H:Hp}
theorem zZ{u:U}{v:V}{d:PyData}(hr:HR K μ S H)(r:RU H μ u v)(h:toD S 40 u=some d):uP K H v d:=⟨tF hr 40 u d h v r,tz S 40 u d h⟩
theorem B2{x y:U}{b:Bool}(h:eqU S x y=some b): ∃a c,toD S 40 x=some a/\toD S 40 y=some c/\b=kC a c:=by
 unfold eqU at h
 cases e1:toD S 40 x with
 | none=>rw[e1]at h;cases h
 | some a=>
   rw[e1]at h
   simp only[ag]at h
   cases e2:toD S 40 y with
   | none=>rw[e2]at h;cases h
   | some c=>rw[e2]at h;cases h;exact⟨a,c,rfl,rfl,rfl⟩
theorem Nw:OpU K (PQ K) oEq:=by
 intro μ S H x y vx vy u S' Q hr rx ry e a
 unfold oEq at e
 cases q:eqU S x y with
 | none=>rw[q]at e;cases e
 | some b=>
   rw[q]at e;cases e
   obtain⟨d1,d2,e1,e2,rfl⟩:=B2 q
   exact⟨d1,d2,zZ hr rx e1,zZ hr ry e2,a.now hr iD⟩
theorem Oq:OpU K (P1 K) oNe:=by
 intro μ S H x y vx vy u S' Q hr rx ry e a
 unfold oNe at e
 cases q:eqU S x y with
 | none=>rw[q]at e;cases e
 | some b=>
   rw[q]at e;cases e
   obtain⟨d1,d2,e1,e2,rfl⟩:=B2 q
   exact⟨d1,d2,zZ hr rx e1,zZ hr ry e2,a.now hr iD⟩
end
end _G
end
section
namespace _G
open PySem PySem.Spec _L
open PyProof.Rows hiding St
section
noncomputable def Nd(K:av):V->Option Int->Option Int->Hp->VK->Prop:=λx lo hi H Q =>∃a xs,x = .ref a/\SqT K H a xs /\
 (HT.sIx xs.length 0 lo=0/\HT.sIx xs.length xs.length hi=xs.length)/\Q (.ref a) H
theorem GC{X:Cx}:SlR X (Nd X.K):=by
 intro pins s σ H x v vl vu lo hi sl Q I rx hs pl pu h
 obtain⟨a,xs,rfl,hx,hw,q⟩:=h
 cases rx
 obtain⟨its,r,ht,hz⟩:=I.tuple hx
 have hlen:its.toArray.size=xs.length:=by rw[aD];exact r.length.symm
 refine⟨"tuple",_,PyProof.Rows.slot_tuple_getitem.lookup,ht.typeIs,?_⟩
 exact HT.getItem_tuple_whole ht hs pl pu (by rw[hlen];exact hw) ⟨.ref a,H,I,rfl,q⟩
noncomputable def rSl(K:av):V->Option Int->Option Int->Hp->VK->Prop:=λx lo hi H Q=>N2 K x lo hi H Q\/(Nd K x lo hi H Q\/Nf K x lo hi H Q)
theorem Mu{X:Cx}:SlR X (rSl X.K):=SlR.or KN (SlR.or GC HN)
noncomputable def tO(K:KX):Option ME->TO
 | none=>B4
 | some m=>JI (tM K m)
theorem BU{H:Hp}{μ:List Addr}{us:List U}{vs:List V}(r:RUs H μ us vs)(lo hi:Option Int):RUs H μ (cut us lo hi) (zW vs lo hi):=by
 unfold cut zW
 rw[r.len]
 exact(r.drop _).take _
section
variable {K:KX}{σ:St}{H:Hp}{Q:VK}
theorem Ef{a:Option ME}{μ:List Addr}{S S1:Sto}{ρ:Rho}{o:Option Int}{Q:Option Int->Hp->Prop}(hr:HR K μ S H)(er:ER H μ ρ σ)(e:wH a ρ S=some (o,S1))
  (k: ∀μ1 H1,Pre μ μ1->bq H H1->HR K μ1 S1 H1->Q o H1):tO K a σ H Q:=by
 cases a with
 | none=>cases e;exact k μ H (Pre.refl _) (bq.refl _) hr
 | some m=>
   obtain⟨x,S2,e1,e⟩:=be (show bnd (m ρ S) (λx S1=>match x with
    | .int i=>some (some i,S1)
    | _=>none)=some (o,S1) from e)
   split at e
   ·cases e
    exact⟨μ,S,ρ,_,_,hr,er,e1,λμ1 v H1 p1 k1 hr1 rx=>⟨_,cZ rx,k μ1 H1 p1 k1 hr1⟩⟩
   ·cases e
theorem IV{a:ME}{lo hi:Option ME}(h:tM K (mSl a lo hi) σ H Q):tSl (rSl K) (tM K a) (tO K lo) (tO K hi) σ H Q:=by
 obtain⟨μ,S,ρ,u,S',hr,er,e,k⟩:=h
 obtain⟨x,S1,e1,e⟩:=be e
 obtain⟨l,S2,e2,e⟩:=be e
 obtain⟨r,S3,e3,e⟩:=be e
 refine⟨μ,S,ρ,x,S1,hr,er,e1,λμ1 vx H1 p1 k1 hr1 rx =>?_⟩
 refine Ef hr1 (er.mono k1 p1) e2 λμ2 H2 p2 k2 hr2 =>?_
 refine Ef hr2 (er.mono (k1.trans k2) (p1.trans p2)) e3 λμ3 H3 p3 k3 hr3 =>?_
 have k':=k.mono (p1.trans (p2.trans p3)) (k1.trans (k2.trans k3))
 have rx3:=RU.mono (k2.trans k3) (p2.trans p3) _ _ rx
 cases x with
 | tup us=>
   cases e
   obtain⟨p,vs,rfl,hp,rs⟩:=gp rx3
   by_cases hw:HT.sIx vs.length 0 l=0/\HT.sIx vs.length vs.length r=vs.length
   ·refine .inr (.inl ⟨p,vs,rfl,.inl (.inl hp),hw,k'.now hr3 ?_⟩)
    have e4:cut us l r=us:=by
     unfold cut
     rw[rs.len,hw.1,hw.2]
     simp[<- rs.len]
    rw[e4]
    exact ll hp rs
   ·refine .inl ⟨p,vs,rfl,.inl (.inl hp),hw,λt ht =>?_⟩
    refine k' μ3 _ _ (Pre.refl _) (bq.new ht) (hr3.tup ht) (ll dh (RUs.mono (bq.new ht) (Pre.refl _) _ _ (BU rs l r)))
 | ref n=>
   simp only at e
   cases q:getL S3 n with
   | none=>rw[q]at e;cases e
   | some us=>
     rw[q]at e;cases e
     obtain⟨p,rfl,hp⟩:=fJ rx3
     obtain⟨p',vs,hp',hs,rs⟩:=hr3.sq q
     rw[hp]at hp';cases hp'
     exact .inr (.inr ⟨p,vs,rfl,hs,λt ht=>lH k' hr3 (BU rs l r) ht⟩)
 | _=>cases e
end
section
variable {M:Mo}{X:Cx}{k:Nat}{N:List Str}{ns:List (Str×NameKind)}{a b c e:Expr}{es:List Expr}{ma mb mc:ME}{mt:MT}{mas:MA}{pos p1 p2:Pos}{x:Str}
inductive mY(M:Mo)(X:Cx):Option Expr->Option ME->Prop where
 | none:mY M X .none .none
 | some {e:Expr}{m:ME}:PE X e (tM M.K m)->mY M X (.some e) (.some m)
theorem mY.po{lo:Option Expr}{m:Option ME}(h:mY M X lo m):PO X lo (tO M.K m):=by
 cases h with
 | none=>exact HG
 | some h=>exact Hf h
theorem Jo{lo hi:Option Expr}{ml mh:Option ME}(S:Sc M X k N ns)(ha:PE X a (tM M.K ma))(hl:mY M X lo ml)(hh:mY M X hi mh):PE X (.Subscript a (.Slice lo hi none p2) pos) (tM M.K (mSl ma ml mh)):=
 PE.con (Er (S.hK▸Mu) ha hl.po hh.po) λ_ _ _ h=>IV h
end
noncomputable def ig(a b:ME):ME:=λρ S=>bnd (a ρ S) λx S1=>match x with
 | .bl true=>b ρ S1
 | .bl false=>some (.bl false,S1)
 | _=>none
noncomputable def mOr(a b:ME):ME:=λρ S=>bnd (a ρ S) λx S1=>match x with
 | .bl true=>some (.bl true,S1)
 | .bl false=>b ρ S1
 | _=>none
noncomputable def AS:U->Sto->Res U:=λx S=>match x with
 | .bl b=>some (.bl (!b),S)
 | _=>none
section
variable {K:KX}{σ:St}{H:Hp}{Q:VK}
theorem Ls{a b:ME}(h:tM K (ig a b) σ H Q):Ki (tM K a) (tM K b) σ H Q:=by
 obtain⟨μ,S,ρ,u,S',hr,er,e,k⟩:=h
 obtain⟨x,S1,e1,e⟩:=be e
 refine⟨μ,S,ρ,x,S1,hr,er,e1,λμ1 vx H1 p1 k1 hr1 rx =>?_⟩
 split at e
 ·exact⟨true,jM rx,rW ⟨μ1,S1,ρ,u,S',hr1,er.mono k1 p1,e,k.mono p1 k1⟩⟩
 ·cases e
  exact⟨false,jM rx,se (k μ1 _ H1 p1 k1 hr1 iD)⟩
 ·cases e
theorem OP{a b:ME}(h:tM K (mOr a b) σ H Q):OX (tM K a) (tM K b) σ H Q:=by
 obtain⟨μ,S,ρ,u,S',hr,er,e,k⟩:=h
 obtain⟨x,S1,e1,e⟩:=be e
 refine⟨μ,S,ρ,x,S1,hr,er,e1,λμ1 vx H1 p1 k1 hr1 rx =>?_⟩
 split at e
 ·cases e
  exact⟨true,jM rx,rW (k μ1 _ H1 p1 k1 hr1 iD)⟩
 ·exact⟨false,jM rx,se ⟨μ1,S1,ρ,u,S',hr1,er.mono k1 p1,e,k.mono p1 k1⟩⟩
 ·cases e
theorem LV{a:ME}(h:tM K (m1 AS a) σ H Q):JK (tM K a) σ H Q:=by
 obtain⟨μ,S,ρ,u,S',hr,er,e,k⟩:=h
 obtain⟨x,S1,e1,e⟩:=be e
 refine⟨μ,S,ρ,x,S1,hr,er,e1,λμ1 vx H1 p1 k1 hr1 rx =>?_⟩
 unfold AS at e
 split at e
 ·cases e
  exact⟨_,jM rx,k μ1 _ H1 p1 k1 hr1 iD⟩
 ·cases e
end
section
variable {X:Cx}{a b:Expr}{ta:TA}{p pos:Pos}
noncomputable def J7(ta:TA):TE:=λσ H Q=>ta σ H λvs H1 =>∃j:Int,vs = [.int j] /\ -(2 ^ 62)<=j/\j<2 ^ 62 /\ ∀r,H1 r=none->Q (.ref r) (upd H1 r (.rng 0 j))
noncomputable def EL(ta:TA):TE:=λσ H Q=>ta σ H λvs H1 =>∃i j:Int,vs = [.int i,.int j]/\(-(2 ^ 62)<=i/\i<2 ^ 62 /\ -(2 ^ 62)<=j/\j<2 ^ 62) /\ ∀r,H1 r=none->Q (.ref r) (upd H1 r (.rng i j))
theorem zT{pins:List (Addr×Obj)}{σ:St}{H:Hp}{s:Shared}{Q:VK}{lo hi:Int}{t u v:Tok}{tk:Nat}(I:Inv X pins σ H s)(q: ∀r,H r=none->Q (.ref r) (upd H r (.rng lo hi))):
  EP X pins σ Q (.ref s.heap.objs.size) { s with heap:=s.heap.push { cls := .type "range",data := .fields #[.int lo t,.int hi u,.int 1 v] },toks:=tk }:=by
 refine⟨.ref s.heap.objs.size,_,I.laid (t':=tk) (o:= .rng lo hi) (λb ob q=>ar _ q) (aq _) ?_,rfl,q _ (I.hok.fresh (aq _))⟩
 exact⟨t,u,v,aC _ rfl⟩
theorem HA (hg:Gl X "range") (hm:X.mg "range"=none) (ha:PA X [a] ta) (hs:autoParam (starEach [a] X.env = [(false,eval a X.env)]) au1._auto_1):PE X (.Call (.Name "range" p) [a] [] pos) (J7 ta):=by
 intro pins s σ H Q I h
 refine Call_ (ko I hg hm boot_range (cz (thn (ha pos pins s σ H _ I h) λus s1 ⟨vs,H1,I1,r1,q1⟩ =>?_) (by rw[hs];rfl) rfl))
 obtain⟨j,e,q1,q2,q⟩:=q1
 subst e
 cases r1 with
 | cons r rr=>
   cases rr
   obtain⟨t,rfl⟩:=r
   exact call_range_1 (zT I1 q)
theorem BP (hg:Gl X "range") (hm:X.mg "range"=none) (ha:PA X [a,b] ta) (hs:autoParam (starEach [a,b] X.env = [(false,eval a X.env),(false,eval b X.env)]) au1._auto_1) (hs2:autoParam (starEach [b] X.env = [(false,eval b X.env)]) au1._auto_1) :
  PE X (.Call (.Name "range" p) [a,b] [] pos) (EL ta):=by
 intro pins s σ H Q I h
 refine Call_ (ko I hg hm boot_range (cz (thn (ha pos pins s σ H _ I h) λus s1 ⟨vs,H1,I1,r1,q1⟩ =>?_) (by rw[hs,hs2]) (by rw[hs2];rfl)))
 obtain⟨i,j,e,⟨q1,q2,q3,q4⟩,q⟩:=q1
 subst e
 cases r1 with
 | cons r rr=>
   cases rr with
   | cons r' rr=>
     cases rr
     obtain⟨t,rfl⟩:=r
     obtain⟨t',rfl⟩:=r'
     exact call_range_2 (zT I1 q)
theorem yi: ∀{xs:List V}{us:List Value},xs.length=us.length->(∀(i:Nat) (x:V) (u:Value),xs[i]? = some x->us[i]? = some u->RelV x u)->cy xs us
 | [],[],_,_ => .nil
 | [],_::_,h,_=>by simp at h
 | _::_,[],h,_=>by simp at h
 | x::xs,u::us,h,k => .cons (k 0 x u rfl rfl) (yi (by simpa using h) λi y w h1 h2=>k (i+1) y w (by simpa using h1) (by simpa using h2))
noncomputable def lZ(i:Int)(n:Nat):List V:=(aB n).map λ(k:Nat) => .int (i+k)
theorem vJ (hc:X.calm=true):iq X (.type "list") (fun xs H Q => ∃ r lo hi,xs = [.ref r]/\H r=some (.rng lo hi)/\(-(2 ^ 62)<=lo/\lo < 2 ^ 62 /\ -(2 ^ 62)<=hi/\hi < 2 ^ 62)/\(hi - lo).toNat<=sizeLine /\ ∀ l,H l=none->Q (.ref l) (upd H l (.lst (lZ lo (hi - lo).toNat)))):=by
 intro pins s σ H xs us Q I rs h
 obtain⟨r,lo,hi,rfl,hr,⟨h1,h2,h3,h4⟩,hz,q⟩:=h
 cases rs with
 | cons r1 rr=>
   cases rr
   cases (show _=bj r from r1)
   obtain⟨t,u,v,e⟩:=I.hok r _ hr
   have hn:dX lo hi 1=((hi - lo).toNat:Nat):=by rw[rangeSize_one];split <;> omega
   refine call_list_range (n:=(hi - lo).toNat) (I.ok.hd hc) e (small_one h1 h2 h3 h4) hn (by rw[sizeLine_eq]at hz;exact hz) λh' tk acc c' hk hl hacc =>?_
   obtain⟨hsz,hit⟩:=hacc
   refine⟨.ref s.heap.objs.size,_,I.laid (t':=tk) (o:= .lst (lZ lo (hi - lo).toNat)) hk (aq _) ?_,rfl,q _ (I.hok.fresh (aq _))⟩
   refine⟨by rw[lZ,ak,bB];exact hz,acc.toList,c',?_,by simpa using hl⟩
   refine yi (by rw[lZ,ak,bB,cK,hsz]) λi x w h5 h6 =>?_
   have hlt:i<(hi - lo).toNat:=by
    have:=(ah.mp h5).1
    rwa[lZ,ak,bB]at this
   have hx:(lZ lo (hi - lo).toNat)[i]? = some (.int (lo+i)):=by simp[lZ,hlt]
   rw[hx]at h5;cases h5
   obtain⟨t',e'⟩:=hit i w (by simpa using h6)
   exact⟨t',by rw[e'];simp⟩
end
end
end _G
end
section
namespace _G
open PySem PySem.Spec _L
open PyProof.Rows hiding St
section
theorem Bv{H:Hp}{μ:List Addr}(i:Int)(n:Nat):RUs H μ (bh i n) (lZ i n):=by
 unfold bh lZ
 induction n with
 | zero=>simpa using RUs.nil
 | succ n ih=>rw[fY,cj,cj];exact ih.append (.cons eX .nil)
section
variable {K:KX}{σ:St}{H:Hp}{Q:VK}
noncomputable def rLR:List V->Hp->VK->Prop:=λxs H Q =>∃r lo hi,xs = [.ref r]/\H r=some (.rng lo hi)/\(-(2 ^ 62)<=lo/\lo<2 ^ 62 /\ -(2 ^ 62)<=hi/\hi<2 ^ 62)/\(hi - lo).toNat<=sizeLine /\ ∀l,H l=none->Q (.ref l) (upd H l (.lst (lZ lo (hi - lo).toNat)))
theorem HR.rng{μ:List Addr}{S:Sto}{p:Addr}{i j:Int}(h:HR K μ S H)(hp:H p=none):HR K μ S (upd H p (.rng i j)):=by
 have kp:bq H (upd H p (.rng i j)):=bq.new hp
 refine⟨h.len,h.inj,λm c b q1 q2=>(h.cell m c b q1 q2).mono kp (Pre.refl _) (λhc =>?_) λo u hf =>?_,h.ext.upd kp (Pre.refl _) λo1 q=>by rw[hp]at q;cases q⟩
 ·obtain⟨o,e,_⟩:=(h.cell m _ b q1 q2).has hc
  exact bD (bG e hp)
 ·rw[bD (bG hf hp)];exact hf
theorem JB{μ:List Addr}{S1:Sto}{i j:Int}{r:Addr}(hr1:HR K μ S1 H)(ho:okR i/\okR j)(hz:(bh i (j - i).toNat).length<=big)(k:Aft K μ H (.ref S1.length) (S1++[.lst (bh i (j - i).toNat)]) Q)(hrn:H r=none):rLR [.ref r] (upd H r (.rng i j)) Q:=by
 refine⟨r,i,j,rfl,dh,⟨ho.1.1,ho.1.2,ho.2.1,ho.2.2⟩,?_,λl hl =>?_⟩
 ·unfold bh big at hz;rw[ak,bB]at hz;rw[sizeLine_eq];exact hz
 ·exact lH (k.mono (Pre.refl _) (bq.new hrn)) (hr1.rng hrn) (Bv _ _) hl
theorem Fg{a:MA}(h:tM K (kr (iR2 a)) σ H Q):tCB rLR (uU (EL (tMA K a)) AF) σ H Q:=by
 obtain⟨μ,S,ρ,u,S',hr,er,e,k⟩:=h
 obtain⟨src,S1,e1,e⟩:=be e
 obtain⟨xs,S2,e2,e1⟩:=be e1
 refine⟨μ,S,ρ,xs,S2,hr,er,e2,λμ1 vs H1 p1 k1 hr1 rs =>?_⟩
 split at e1
 ·rename_i i j
  split at e1
  ·rename_i hj
   cases e1
   simp only at e
   split at e
   ·rename_i hz
    cases e
    obtain⟨v,r,rfl,rx,rs⟩:=rs.inv
    obtain⟨w,r,rfl,ry,rn⟩:=rs.inv
    rw[rn.nil_inv,cZ rx,cZ ry]
    exact⟨i,j,rfl,⟨hj.1.1,hj.1.2,hj.2.1,hj.2.2⟩,λr hrn=>JB hr1 hj hz (k.mono p1 k1) hrn⟩
   ·cases e
  ·cases e1
 ·cases e1
end
noncomputable def p8:List String := ["NoneType","bool","int","str","list","tuple","dict"]
noncomputable def lM:List String := ["bool","int","str","list","tuple","dict"]
theorem LD(K:av){t T:String}(ht:t∈p8)(hT:T∈lM):PySem.W.kitOne K (.type t) (.type T)=some (Jb t T):=by
 simp only[p8,lM,aK,jy,or_false]at ht hT
 rcases ht with rfl |rfl |rfl |rfl |rfl |rfl |rfl <;> rcases hT with rfl |rfl |rfl |rfl |rfl |rfl <;> first |rfl |kernel_rfl
theorem Gy {X:Cx}:iq X (.builtin "isinstance") (fun xs H Q => ∃ x t T,xs = [x,.ty T]/\pd X.K H x (.type t)/\t∈p8/\T∈lM/\Q (.bl (Jb t T)) H):=by
 intro pins s σ H xs us Q I rs h
 obtain⟨x,t,T,rfl,ty,ht,hT,q⟩:=h
 cases rs with
 | cons r1 rr=>
   cases rr with
   | cons r2 rr=>
     cases rr
     cases (show _=z3 T from r2)
     exact CQ I r1 ty (LD X.K ht hT) λtk=>⟨.bl _,H,I.tok _,rfl,q⟩
theorem MV{K:KX}{μ:List Addr}{S:Sto}{H:Hp}{x:U}{v:V}{t:String}(hr:HR K μ S H)(r:RU H μ x v)(e:tyU S x=some t):pd K H v (.type t)/\t∈p8:=by
 unfold tyU at e
 split at e
 ·cases e;rw[show v = .non by simpa only [RU]using r];exact⟨.non,by decide⟩
 ·cases e;rw[jM r];exact⟨.bl _,by decide⟩
 ·cases e;rw[cZ r];exact⟨.int _,by decide⟩
 ·cases e;rw[show v = .str _ by simpa only [RU]using r];exact⟨.str _,by decide⟩
 ·cases e;obtain⟨a,vs,rfl,ha,_⟩:=gp r;exact⟨.tup ha,by decide⟩
 ·split at e
  ·rename_i q
   cases e
   obtain⟨a,rfl,ha⟩:=fJ r
   obtain⟨vs,e1,_⟩:=hr.cell _ _ a q ha
   exact⟨.lst e1,by decide⟩
  ·rename_i q
   cases e
   obtain⟨a,rfl,ha⟩:=fJ r
   obtain⟨vs,e1,_⟩:=hr.cell _ _ a q ha
   exact⟨.dK e1,by decide⟩
  ·cases e
 ·cases e
theorem OR{K:KX}{σ:St}{H:Hp}{Q:VK}{a:ME}{T:String}(hT:T∈lM)(h:tM K (m1 (pC T) a) σ H Q):
  tCB (λxs H Q =>∃x t T,xs = [x,.ty T]/\pd K H x (.type t)/\t∈p8/\T∈lM/\Q (.bl (Jb t T)) H) (uU (tM K a) (uU (tC (.ty T)) AF)) σ H Q:=by
 obtain⟨μ,S,ρ,u,S',hr,er,e,k⟩:=h
 obtain⟨x,S1,e1,e⟩:=be e
 refine⟨μ,S,ρ,x,S1,hr,er,e1,λμ1 vx H1 p1 k1 hr1 rx =>?_⟩
 unfold pC at e
 cases q:tyU S1 x with
 | none=>rw[q]at e;cases e
 | some t=>
   rw[q]at e;cases e
   obtain⟨ty,ht⟩:=MV hr1 rx q
   exact⟨vx,t,T,rfl,ty,ht,hT,k μ1 _ H1 p1 k1 hr1 iD⟩
noncomputable def EA(S:Sto)(x:U)(us:List U):Option Nat:=(cH (toD S 39) us).bind λds=>(toD S 40 x).bind λd=>ds.findIdx? λy=>kC y d
noncomputable def eO:List U->List U->Sto->Res U:=λus xs S=>match xs with
 | [x]=>(EA S x us).map λk=>(.int k,S)
 | _=>none
noncomputable def Me(K:av)(to:TE)(t:TA):TE:=λσ H Q=>to σ H λx H1=>(∃p ys,x = .ref p/\H1 p=some (.tup ys))/\t σ H1 λxs H2 =>∃p ys v ds d j,x = .ref p/\xs = [v]/\H2 p=some (.tup ys) /\
 lW K H2 ys ds/\lT ds=true/\jS ds<=40/\uP K H2 v d/\ds.findIdx? (λy=>kC y d)=some j/\Q (.int j) H2
theorem Fc{X:Cx}{o e:Expr}{es:List Expr}{to:TE}{t:TA}{apos cpos:Pos}(hu:X.A.units+64<cLine)(ho:PE X o to)(ha:PA X (e::es) t)
  (hbase:autoParam (attributeBase o "index" X.env (eval o X.env)=eval o X.env) au1._auto_1)
  (hfew:autoParam (((backTo cpos (starEach (e::es) X.env)).all (λx => !x.1)&&(backToKw cpos (keywordEach [] X.env)).all (λx=>x.1.isSome)
   && decide ((e::es).length+([]:List Keyword).length+(if ([]:List Keyword).isEmpty then 0 else 1)<30))=true) au1._auto_1)
  (hline:autoParam ((apos.endLine==cpos.line)=true) au1._auto_1) (hs:autoParam (starEach (e::es) X.env=(false,eval e X.env)::starEach es X.env) au1._auto_1) (hplain:autoParam ((backTo cpos (starEach es X.env)).any (·.1)=false) au1._auto_1):
  PE X (.Call (.Attribute o "index" apos) (e::es) [] cpos) (Me X.K to t):=by
 intro pins s σ H Q I h
 refine wpAny_Call_method_late hbase hfew hline rfl (thn (ho pins s σ H _ I h) λv s1 ⟨x,H1,I1,r1,⟨p,ys,hx,hp⟩,q1⟩ =>?_)
 subst hx
 cases (show v=bj p from r1)
 obtain⟨_,its,rv,⟨o1,e1,c1,n1,d1⟩,o2,e2,c2⟩:=I1.hok p _ hp
 refine⟨"tuple",_,PySem.F.plainAttrs_tuple,z7,PySem.F.type_tuple_index,⟨o1,e1,c1⟩,fun a ea=>by cases ea;exact⟨o2,e2,c2⟩,?_⟩
 have hA:=ha cpos pins s1 σ H1 _ I1 q1
 rw[hs]at hA ⊢
 refine oE (by show(false||(backTo cpos (starEach es X.env)).any (·.1))=false;rw[hplain] <;> rfl) (qK ?_)
 refine thn hA λus s2 ⟨vs,H2,I2,r2,q2⟩ =>?_
 obtain⟨p',ys',v',ds,d,j,hx,hxs,hp',rd,hl,hdp,hd,hj,q⟩:=q2
 cases hx
 subst hxs
 cases r2 with
 | cons ra rr=>
   cases rr
   obtain⟨_,its2,rv2,⟨⟨cls,dd,data,sl⟩,e3,c3,n3,d3⟩,_⟩:=I2.hok p _ hp'
   simp only at c3 d3
   subst c3 d3
   obtain⟨as,rds⟩:=rd.reads I2 rv2
   obtain⟨bs,rdv⟩:=hd.1.reads I2 ra
   have hlen:its2.length=ds.length:=SeqAt.ReadsAll.length _ _ _ rds
   have hjl:j<ds.length:=by
    obtain⟨h1,_⟩:=dN.mp hj
    exact h1
   have hmap:=SeqAt.readsAll_map ds _ _ hl rds
   have hget: ∀(m:Nat) (h1:m<its2.length) (h2:m<ds.length),SeqAt.readOf s2.heap its2[m]=ds[m]:=λm h1 h2=>by
    have:=congrArg (λl=>l[m]?) hmap
    simp[h1,h2]at this
    exact this
   have heq:=SeqAt.items_eqAt (A:=X.A) (vs:=its2.toArray) (by simpa using rds) rdv hl hd.2.1 (by have:=ky (jS ds) d.depth;omega)
   obtain⟨h1,h2,h3⟩:=dN.mp hj
   refine call_meets z7 ⟨_,e3,rfl⟩ PySem.F.entry_tuple_index (PySem.F.args_tuple_index_2 _ _)
    (v8 p its2.toArray n3 dd sl _ (λy=>kC (SeqAt.readOf s2.heap y) d) j (by rw[aD];omega) ?_ ?_) ⟨e3,heq,?_⟩
   ·have:=hget j (by omega) hjl
    simp only[G9,this];exact h2
   ·intro m hm hmj
    rw[aD]at hm
    have:=hget m hm (by exact cR (by assumption) (by assumption))
    simp only[G9,this]
    simpa using h3 m hmj
   ·exact⟨.int j,H2,I2.tok _,⟨_,rfl⟩,q⟩
theorem II{K:KX}{σ:St}{H:Hp}{Q:VK}{o:ME}{a:MA}(h:tM K (mMT eO o a) σ H Q):Me K (tM K o) (tMA K a) σ H Q:=by
 obtain⟨μ,S,ρ,u,S',hr,er,e,k⟩:=h
 obtain⟨x,S1,e1,e⟩:=be e
 refine⟨μ,S,ρ,x,S1,hr,er,e1,λμ1 vx H1 p1 k1 hr1 rx =>?_⟩
 cases x with
 | tup us=>
   obtain⟨xs,S2,e2,e⟩:=be e
   obtain⟨p,vs,rfl,hp,rs⟩:=gp rx
   refine⟨⟨p,vs,rfl,hp⟩,μ1,S1,ρ,xs,S2,hr1,er.mono k1 p1,e2,λμ2 ws H2 p2 k2 hr2 rws =>?_⟩
   unfold eO at e
   split at e
   ·rename_i x
    obtain⟨v,r,rfl,rx',rn⟩:=rws.inv
    rw[rn.nil_inv]
    cases q:EA S2 x us with
    | none=>rw[q]at e;cases e
    | some j=>
      rw[q]at e;cases e
      unfold EA at q
      cases q1:cH (toD S' 39) us with
      | none=>rw[q1]at q;cases q
      | some ds=>
        rw[q1]at q
        simp only[ag]at q
        cases q2:toD S' 40 x with
        | none=>rw[q2]at q;cases q
        | some d=>
          rw[q2]at q
          simp only[ag]at q
          obtain⟨l1,l2⟩:=tN (qE (λx y z=>tz S' 39 x y z) q1)
          exact⟨p,vs,v,ds,d,j,rfl,rfl,k2 p vs hp,tE hr2 (tF hr2 39) q1 (RUs.mono k2 p2 _ _ rs),l1,by exact aF (by assumption) (by decide),zZ hr2 rx' q2,q,k μ2 _ H2 (p1.trans p2) (k1.trans k2) hr2 eX⟩
   ·cases e
 | _=>cases e
end
end _G
end
section
namespace _G
open PySem PySem.Spec _L
open PyProof.Rows hiding St
section
theorem IU{h h':Heap}{o:Obj}(hk: ∀b x,b ∉ [h.objs.size]->(h.push o).get? b=some x->h'.get? b=some x): ∀b x,h.get? b=some x->h'.get? b=some x:=
 λb x e=>hk b x (λhm=>by rw[bR.mp hm]at e;exact cf _ (aG e)) (ar _ e)
theorem A5(bs:List Bool):((aB bs.length).all λi=>(bs[i]?).getD true)=bs.all id:=by
 rw[Bool.eq_iff_iff,bP,bP]
 constructor
 ·intro h b hb
  obtain⟨i,hi,rfl⟩:=sk hb
  have:=h i (bp.mpr hi)
  simpa [bw hi]using this
 ·intro h i hi
  have hi':=bp.mp hi
  simp only[bw hi',Option.getD_some]
  exact h _ (fk hi')
theorem Dl{bs:List Bool}: ∀{us:List Value}{i:Nat}{v:Value},cy (bs.map V.bl) us->us[i]? = some v -> ∃b,bs[i]? = some b/\v = .bool b:=λ{us i v} r h=>by
 have hl:=r.length
 rw[ak]at hl
 have hi:i<bs.length:=by rw[hl];exact(ah.mp h).1
 obtain⟨u,hu,ru⟩:=r.get (i:=i) (x:= .bl bs[i]) (by simp[hi])
 rw[h]at hu;cases hu
 exact⟨bs[i],by simp[hi],ru⟩
section
variable {X:Cx}
theorem Cv (hc:X.calm=true):iq X (.builtin "all") (fun xs H Q => ∃ (p:Addr) (bs:List Bool),xs = [.ref p]/\SqL X.K H p (bs.map V.bl)/\Q (.bl (bs.all id)) H):=by
 intro pins s σ H xs us Q I rs h
 obtain⟨p,bs,rfl,hS,q⟩:=h
 cases rs with
 | cons r1 rr=>
   cases rr
   cases (show _=bj p from r1)
   obtain⟨its,rv,pl,_⟩:=I.list hS
   have hl:=pl.isList
   have hlt:p<s.heap.objs.size:=by obtain⟨_,e,_⟩:=hl;exact aG e
   refine call_all_walk (oX hl ?_)
   refine⟨s.heap.objs.size,[s.heap.objs.size,p],[s.heap.objs.size],its.toArray.size,_,_,λi=>(bs[i]?).getD true,rfl,Walks.list (A:=X.A.in1) (I.ok.hd hc) _ p (aT hlt) its.toArray,
    ⟨⟨_,aC _ rfl,rfl,rfl⟩,hl.push _⟩,λi v s' Q' E' hP hQ =>?_,λh' tk hk =>?_⟩
   ·obtain⟨b,e,rfl⟩:=Dl rv (by simpa using hP)
    simp only[e,Option.getD_some]at hQ
    exact dE hQ
   ·have e:((aB its.toArray.size).all λi=>(bs[i]?).getD true)=bs.all id:=by
     rw[aD,<- rv.length,ak];exact A5 bs
    rw[e]
    exact⟨.bl _,H,I.kept (IU hk),rfl,q⟩
end
noncomputable def mJ:U->Option Bool
 | .bl b=>some b
 | _=>none
noncomputable def vW:MF:=λus S=>match us with
 | [.ref n]=>(getL S n).bind λxs=>(cH mJ xs).map λbs=>(.bl (bs.all id),S)
 | _=>none
theorem zH{H:Hp}{μ:List Addr}: ∀{us:List U}{vs:List V}{bs:List Bool},RUs H μ us vs->cH mJ us=some bs->vs=bs.map V.bl
 | [],vs,bs,r,e=>by cases e;rw[r.nil_inv];rfl
 | u::us,vs,bs,r,e=>by
   obtain⟨v,r',rfl,a,b⟩:=r.inv
   unfold cH at e
   cases u with
   | bl x=>
     simp only[mJ,ag]at e
     cases q:cH mJ us with
     | none=>rw[q]at e;cases e
     | some cs=>
       rw[q]at e;cases e
       rw[jM a,zH b q];rfl
   | _=>cases e
section
variable {K:KX}
theorem Mh:rT K (λxs H Q =>∃(p:Addr) (bs:List Bool),xs = [.ref p]/\SqL K H p (bs.map V.bl)/\Q (.bl (bs.all id)) H) vW:=by
 intro μ S H us vs u S' Q hr rs e a
 unfold vW at e
 split at e
 ·rename_i n
  obtain⟨v,r,rfl,rx,rn⟩:=rs.inv
  rw[rn.nil_inv]
  cases q:getL S n with
  | none=>rw[q]at e;cases e
  | some xs=>
    rw[q]at e
    simp only[ag]at e
    cases q2:cH mJ xs with
    | none=>rw[q2]at e;cases e
    | some bs=>
      rw[q2]at e;cases e
      obtain⟨p,rfl,hp⟩:=fJ rx
      obtain⟨p',ys,hp',hs,r'⟩:=hr.sq q
      rw[hp]at hp';cases hp'
      rw[zH r' q2]at hs
      exact⟨p,bs,rfl,hs,a.now hr iD⟩
 ·cases e
end
end
end _G
end
section
namespace _G
open PySem PySem.Spec _L
open PyProof.Rows hiding St
section
noncomputable def ft:U->Option V
 | .non=>some .non
 | .bl b=>some (.bl b)
 | .int i=>some (.int i)
 | .str x=>some (.str x)
 | _=>none
noncomputable def oIn:F2:=λx y S=>match fP S y with
 | some kvs=>(keyOf x).map λk=>(.bl (oB kvs k).isSome,S)
 | none=>(ft x).bind λvx=>(d0 S y).bind λys=>(cH ft ys).map λvs=>(.bl (inV vx vs),S)
noncomputable def o6:F2:=λx y S=>match fP S y with
 | some kvs=>(keyOf x).map λk=>(.bl (!(oB kvs k).isSome),S)
 | none=>(ft x).bind λvx=>(d0 S y).bind λys=>(cH ft ys).map λvs=>(.bl (!inV vx vs),S)
theorem xG{H:Hp}{μ:List Addr}{u:U}{v w:V}(e:ft u=some v)(r:RU H μ u w):w=v/\oM v=true:=by
 cases u <;> simp only[ft,fC,reduceCtorEq]at e <;> subst e <;> exact⟨by simpa only [RU]using r,rfl⟩
theorem ug{H:Hp}{μ:List Addr}: ∀{us:List U}{vs ws:List V},cH ft us=some vs->RUs H μ us ws->ws=vs/\vs.all oM=true
 | [],vs,ws,e,r=>by cases e;rw[r.nil_inv];exact⟨rfl,rfl⟩
 | u::us,vs,ws,e,r=>by
   obtain⟨v,r',rfl,a,b⟩:=r.inv
   unfold cH at e
   cases q1:ft u with
   | none=>rw[q1]at e;cases e
   | some x=>
     cases q2:cH ft us with
     | none=>rw[q1,q2]at e;cases e
     | some xs=>
       rw[q1,q2]at e;cases e
       obtain⟨e1,f1⟩:=xG q1 a
       obtain⟨e2,f2⟩:=ug q2 b
       exact⟨by rw[e1,e2],by rw[b9,f1,f2];rfl⟩
section
variable {K:KX}
noncomputable def Iq(K:av)(neg:Bool):R2:=λy x H Q=>rIn K neg y x H Q \/ ∃a o,x = .ref a/\v5 H a y o/\Q (.bl (if neg then !o.isSome else o.isSome)) H
theorem Kn{X:Cx}(hu:X.A.units+1<cLine):OpR X (compareOp .In) (Iq X.K false):=by
 intro pins s σ H x y v u Q I rx ry h
 rcases h with h | ⟨a,o,rfl,g,q⟩
 ·exact Dr pins s σ H x y v u Q I rx ry h
 ·obtain rfl:u=bj a:=ry
  exact Qa hu I g rx λs3 I3=>⟨.bl o.isSome,H,I3,rfl,q⟩
theorem CS{X:Cx}(hu:X.A.units+1<cLine):OpR X (compareOp .NotIn) (Iq X.K true):=by
 intro pins s σ H x y v u Q I rx ry h
 rcases h with h | ⟨a,o,rfl,g,q⟩
 ·exact xy pins s σ H x y v u Q I rx ry h
 ·obtain rfl:u=bj a:=ry
  exact Jc hu I g rx λs3 I3=>⟨.bl (!o.isSome),H,I3,rfl,q⟩
theorem Ov:OpU K (Iq K false) oIn:=by
 intro μ S H x y vx vy u S' Q hr rx ry e a
 unfold oIn at e
 split at e
 ·rename_i kvs qd
  cases qk:keyOf x with
  | none=>rw[qk]at e;cases e
  | some kk=>
    rw[qk]at e;cases e
    obtain⟨p,vs,rfl,hp,r⟩:=hr.dic ry qd
    have hl:kvs.length=vs.length:=by have:=r.len;rwa[ak]at this
    refine .inr ⟨p,_,rfl,.inl ⟨_,kk,.inl hp,pU rx qk,rfl⟩,?_⟩
    simp only[d4,if_false]
    rw[ux hl]
    exact a.now hr iD
 refine .inl ?_
 cases q1:ft x with
 | none=>rw[q1]at e;cases e
 | some fx=>
   cases q2:d0 S y with
   | none=>rw[q1,q2]at e;cases e
   | some ys=>
     cases q3:cH ft ys with
     | none=>rw[q1,q2]at e;simp only[ag,q3]at e;cases e
     | some vs=>
       rw[q1,q2]at e;simp only[ag,q3]at e;cases e
       obtain⟨rfl,f1⟩:=xG q1 rx
       obtain⟨p,zs,rfl,hs,r'⟩:=hr.seq ry q2
       obtain⟨rfl,f2⟩:=ug q3 r'
       exact⟨p,zs,rfl,hs,f1,f2,a.now hr iD⟩
theorem Eh:OpU K (Iq K true) o6:=by
 intro μ S H x y vx vy u S' Q hr rx ry e a
 unfold o6 at e
 split at e
 ·rename_i kvs qd
  cases qk:keyOf x with
  | none=>rw[qk]at e;cases e
  | some kk=>
    rw[qk]at e;cases e
    obtain⟨p,vs,rfl,hp,r⟩:=hr.dic ry qd
    have hl:kvs.length=vs.length:=by have:=r.len;rwa[ak]at this
    refine .inr ⟨p,_,rfl,.inl ⟨_,kk,.inl hp,pU rx qk,rfl⟩,?_⟩
    simp only[if_true]
    rw[ux hl]
    exact a.now hr iD
 refine .inl ?_
 cases q1:ft x with
 | none=>rw[q1]at e;cases e
 | some fx=>
   cases q2:d0 S y with
   | none=>rw[q1,q2]at e;cases e
   | some ys=>
     cases q3:cH ft ys with
     | none=>rw[q1,q2]at e;simp only[ag,q3]at e;cases e
     | some vs=>
       rw[q1,q2]at e;simp only[ag,q3]at e;cases e
       obtain⟨rfl,f1⟩:=xG q1 rx
       obtain⟨p,zs,rfl,hs,r'⟩:=hr.seq ry q2
       obtain⟨rfl,f2⟩:=ug q3 r'
       exact⟨p,zs,rfl,hs,f1,f2,a.now hr iD⟩
noncomputable def isU(x:U):U->Option Bool
 | .non=>(match x with
   | .non=>some true
   | .bl _=>some false
   | .tup _=>some false
   | .ref _=>some false
   | .int _=>some false
   | _=>none)
 | .bl j=>(match x with
   | .bl i=>some (i==j)
   | .non=>some false
   | _=>none)
 | _=>none
noncomputable def oIs:F2:=λx y S=>(isU x y).map λb=>(.bl b,S)
noncomputable def fR:F2:=λx y S=>(isU x y).map λb=>(.bl (!b),S)
noncomputable def rIs(neg:Bool):R2:=λx y H Q=>(∃i j,x = .bl i/\y = .bl j/\Q (.bl (if neg then i != j else i==j)) H)\/(∃i,x = .bl i/\y = .non/\Q (.bl neg) H) \/
 (∃j,x = .non/\y = .bl j/\Q (.bl neg) H)\/(x = .non/\y = .non/\Q (.bl (!neg)) H) \/
 (∃p,x = .ref p/\y = .non/\Q (.bl neg) H)\/(∃i,x = .int i/\y = .non/\Q (.bl neg) H)
theorem KC{X:Cx}:OpR X (compareOp .Is) (rIs false):=by
 intro pins s σ H x y v u Q I rx ry h
 rcases h with⟨i,j,rfl,rfl,q⟩ | ⟨i,rfl,rfl,q⟩ | ⟨j,rfl,rfl,q⟩ | ⟨rfl,rfl,q⟩ | ⟨p,rfl,rfl,q⟩ | ⟨i,rfl,rfl,q⟩
 ·cases rx;cases ry
  exact is_bool ⟨.bl _,H,I,rfl,q⟩
 ·cases rx;cases ry
  exact is_bool_none ⟨.bl _,H,I,rfl,q⟩
 ·cases rx;cases ry
  exact ax ⟨.bl _,H,I,rfl,q⟩
 ·cases rx;cases ry
  exact is_none_none ⟨.bl _,H,I,rfl,q⟩
 ·cases rx;cases ry
  exact ax ⟨.bl _,H,I,rfl,q⟩
 ·obtain⟨t,rfl⟩:=rx;cases ry
  exact ax ⟨.bl _,H,I,rfl,q⟩
theorem CP{X:Cx}:OpR X (compareOp .IsNot) (rIs true):=by
 intro pins s σ H x y v u Q I rx ry h
 rcases h with⟨i,j,rfl,rfl,q⟩ | ⟨i,rfl,rfl,q⟩ | ⟨j,rfl,rfl,q⟩ | ⟨rfl,rfl,q⟩ | ⟨p,rfl,rfl,q⟩ | ⟨i,rfl,rfl,q⟩
 ·cases rx;cases ry
  exact isnot_bool ⟨.bl _,H,I,rfl,q⟩
 ·cases rx;cases ry
  exact isnot_bool_none ⟨.bl _,H,I,rfl,q⟩
 ·cases rx;cases ry
  exact ax ⟨.bl _,H,I,rfl,q⟩
 ·cases rx;cases ry
  exact isnot_none_none ⟨.bl _,H,I,rfl,q⟩
 ·cases rx;cases ry
  exact ax ⟨.bl _,H,I,rfl,q⟩
 ·obtain⟨t,rfl⟩:=rx;cases ry
  exact ax ⟨.bl _,H,I,rfl,q⟩
theorem AZ{H:Hp}{μ:List Addr}{v:V}(h:RU H μ .non v):v = .non:=by simpa only [RU]using h
theorem ES{neg:Bool}{μ:List Addr}{H:Hp}{x y:U}{vx vy:V}{b:Bool}{Q:VK}(rx:RU H μ x vx)(ry:RU H μ y vy)(e:isU x y=some b)(a:Q (.bl (if neg then !b else b)) H):rIs neg vx vy H Q:=by
 have hf:(if neg then !false else false)=neg:=by cases neg <;> rfl
 have ht:(if neg then !true else true) = !neg:=by cases neg <;> rfl
 cases y with
 | non=>
   have hy:=AZ ry
   subst hy
   cases x with
   | non=>cases e;rw[ht]at a;exact .inr (.inr (.inr (.inl ⟨AZ rx,rfl,a⟩)))
   | bl i=>cases e;rw[hf]at a;exact .inr (.inl ⟨_,jM rx,rfl,a⟩)
   | tup us=>cases e;rw[hf]at a;obtain⟨p,_,rfl,_⟩:=gp rx;exact .inr (.inr (.inr (.inr (.inl ⟨_,rfl,rfl,a⟩))))
   | ref n=>cases e;rw[hf]at a;obtain⟨p,rfl,_⟩:=fJ rx;exact .inr (.inr (.inr (.inr (.inl ⟨_,rfl,rfl,a⟩))))
   | int i=>cases e;rw[hf]at a;exact .inr (.inr (.inr (.inr (.inr ⟨_,cZ rx,rfl,a⟩))))
   | _=>cases e
 | bl j=>
   have hy:=jM ry
   subst hy
   cases x with
   | bl i=>cases e;exact .inl ⟨_,_,jM rx,rfl,a⟩
   | non=>cases e;rw[hf]at a;exact .inr (.inr (.inl ⟨_,AZ rx,rfl,a⟩))
   | _=>cases e
 | _=>cases e
theorem M2:OpU K (rIs false) oIs:=by
 intro μ S H x y vx vy u S' Q hr rx ry e a
 unfold oIs at e
 cases q:isU x y with
 | none=>rw[q]at e;cases e
 | some b=>rw[q]at e;cases e;exact ES rx ry q (a.now hr iD)
theorem Ej:OpU K (rIs true) fR:=by
 intro μ S H x y vx vy u S' Q hr rx ry e a
 unfold fR at e
 cases q:isU x y with
 | none=>rw[q]at e;cases e
 | some b=>rw[q]at e;cases e;exact ES rx ry q (a.now hr iD)
noncomputable def mCh(f g:F2)(a b c:ME):ME:=λρ S=>bnd (a ρ S) λx S1=>bnd (b ρ S1) λy S2=>bnd (f x y S2) λz S3=>match z with
 | .bl true=>bnd (c ρ S3) λw S4=>g y w S4
 | .bl false=>some (.bl false,S3)
 | _=>none
theorem B9{σ:St}{H:Hp}{Q:VK}{r r':R2}{f g:F2}{a b c:ME}(o:OpU K r f)(o':OpU K r' g)(h:tM K (mCh f g a b c) σ H Q):A8 r r' (tM K a) (tM K b) (tM K c) σ H Q:=by
 obtain⟨μ,S,ρ,u,S',hr,er,e,k⟩:=h
 obtain⟨x,S1,e1,e⟩:=be e
 obtain⟨y,S2,e2,e⟩:=be e
 obtain⟨z,S3,e3,e⟩:=be e
 refine⟨μ,S,ρ,x,S1,hr,er,e1,λμ1 vx H1 p1 k1 hr1 rx =>?_⟩
 refine⟨μ1,S1,ρ,y,S2,hr1,er.mono k1 p1,e2,λμ2 vy H2 p2 k2 hr2 ry =>?_⟩
 refine o μ2 S2 H2 x y vx vy z S3 _ hr2 (RU.mono k2 p2 x vx rx) ry e3 λμ3 vz H3 p3 k3 hr3 rz =>?_
 split at e
 ·refine⟨true,jM rz,?_⟩
  rw[if_pos rfl]
  obtain⟨w,S4,e4,e⟩:=be e
  refine⟨μ3,S3,ρ,w,S4,hr3,er.mono ((k1.trans k2).trans k3) ((p1.trans p2).trans p3),e4,λμ4 vw H4 p4 k4 hr4 rw' =>?_⟩
  exact o' μ4 S4 H4 y w vy vw u S' Q hr4 (RU.mono (k3.trans k4) (p3.trans p4) y vy ry) rw' e (k.mono (((p1.trans p2).trans p3).trans p4) (((k1.trans k2).trans k3).trans k4))
 ·cases e
  refine⟨false,jM rz,?_⟩
  rw[if_neg bz]
  exact k μ3 _ H3 ((p1.trans p2).trans p3) ((k1.trans k2).trans k3) hr3 iD
 ·cases e
noncomputable def j6:Nat->List U->Sto->Res U:=λn xs S=>match xs with
 | [.ref m]=>match S[n]?,S[m]? with
   | some (.lst us),some (.lst ws)=>if us.length+ws.length<=big then some (.non,S.set n (.lst (us++ws))) else none
   | _,_=>none
 | _=>none
theorem DG:MtU K Bs j6:=by
 intro μ S H n p us vs u S' Q hr hp rs e a
 unfold j6 at e
 split at e
 ·rename_i m
  split at e
  ·rename_i xs ws q q2
   split at e
   ·rename_i hc
    cases e
    obtain⟨v,r,rfl,rx,rn⟩:=rs.inv
    rw[rn.nil_inv]
    obtain⟨b,rfl,hb⟩:=fJ rx
    obtain⟨ys,e0,r0⟩:=hr.cell n _ p q hp
    obtain⟨zs,e1,r1⟩:=hr.cell m _ b q2 hb
    refine⟨p,b,ys,zs,rfl,rfl,e0,e1,?_,xZ a hr q hp (r0.append r1) rH⟩
    have:=r0.len;have:=r1.len;unfold big at hc;rw[sizeLine_eq];omega
   ·cases e
  ·cases e
 ·cases e
end
noncomputable def qF(ns:List Int):List Int:=ns.mergeSort λi j=>decide (i<=j)
noncomputable def pR:U->Option Int
 | .int i=>some i
 | _=>none
noncomputable def Bb(n:Nat):Prop:=n<64
noncomputable instance(n:Nat):Decidable (Bb n):=cN _
noncomputable def pz:_L.Key×U->Option Int
 | (.inl i,_)=>some i
 | _=>none
noncomputable def uJ(S:Sto)(x:U):Option (List Int):=match fP S x with
 | some kvs=>cH pz kvs
 | none=>(d0 S x).bind λxs=>cH pR xs
noncomputable def eJ:MF:=λus S=>match us with
 | [x]=>(uJ S x).bind λns=>if Bb ns.length then some (.ref S.length,S++[.lst ((qF ns).map U.int)]) else none
 | _=>none
theorem jP(ns:List Int):(qF ns).Perm ns:=List.mergeSort_perm _ _
theorem uO(ns:List Int):(qF ns).Pairwise (· <= ·):=by
 have h:=List.pairwise_mergeSort (le:=λ(i j:Int)=>decide (i<=j)) (λa b c h1 h2=>by simp at *;omega) (λa b=>by simp;omega) ns
 exact h.imp λh=>by simpa using h
theorem rY: ∀{as bs:List Int},as.Perm bs->as.Pairwise (· <= ·)->bs.Pairwise (· <= ·)->as=bs
 | [],bs,p,_,_=>by rw[List.nil_perm.mp p]
 | a::as,[],p,_,_=>by cases List.perm_nil.mp p
 | a::as,b::bs,p,h1,h2=>by
   rw[tR]at h1 h2
   have e:a=b:=by
    have m1:a∈b::bs:=p.subset (by simp)
    have m2:b∈a::as:=p.symm.subset (by simp)
    rcases aK.mp m1 with e |m1
    ·exact e
    ·rcases aK.mp m2 with e |m2
     ·exact e.symm
     ·have:=h1.1 b m2;have:=h2.1 a m1;omega
   subst e
   rw[rY (List.perm_cons _ |>.mp p) h1.2 h2.2]
theorem uB{ns ms:List Int}(p:ms.Perm ns)(h:ms.Pairwise (· <= ·)):ms=qF ns:=rY (p.trans (jP ns).symm) h (uO ns)
theorem xB{H:Hp}{μ:List Addr}: ∀{us:List U}{vs:List V}{ns:List Int},RUs H μ us vs->cH pR us=some ns->vs=ns.map V.int
 | [],vs,ns,r,e=>by cases e;rw[r.nil_inv];rfl
 | u::us,vs,ns,r,e=>by
   obtain⟨v,r',rfl,a,b⟩:=r.inv
   unfold cH at e
   cases u with
   | int x=>
     simp only[pR,ag]at e
     cases q:cH pR us with
     | none=>rw[q]at e;cases e
     | some cs=>
       rw[q]at e;cases e
       rw[cZ a,xB b q];rfl
   | _=>cases e
theorem intsAre_of: ∀{ns:List Int}{us:List Value},cy (ns.map V.int) us->IntsAre us ns
 | [],us,r=>by cases r;exact .nil
 | n::ns,us,r=>by
   cases r with
   | cons a b=>
     obtain⟨t,rfl⟩:=a
     exact .cons n t (intsAre_of b)
theorem rj: ∀{ns:List Int}{us:List Value},IntsAre us ns->cy (ns.map V.int) us
 | _,_,.nil => .nil
 | _,_,.cons n t r => .cons ⟨t,rfl⟩ (rj r)
theorem j9: ∀{ns:List Int}{us:List Value},IntsAre us ns->us.length=ns.length
 | _,_,.nil=>rfl
 | _,_,.cons n t r=>by simp[j9 r]
theorem An {prog:Program}{w:World}{A:Around}{E:Value->Shared->Prop}{s:Shared}{Q:List Value->Shared->Prop} (it:Addr) {T:String}{o:Obj}{items:Array Value}{n:Nat} (hT:T="list"\/T="tuple")
  (ho:s.heap.get? it=some o) (hc:o.cls = .type T) (hd:o.data = .seq items n) (hsz:items.size<=sizeLine)
  (hQ: ∀h',(∀b o',s.heap.get? b=some o'->h'.get? b=some o')->s.heap.objs.size<=h'.objs.size->Q items.toList { s with heap:=h' }):
  aI (model prog w) A (collect (.ref it)) Q E s:=by
 unfold collect
 refine ae (nF (cw rO ?_))
 rw[bK rQ _]
 show aI _ A.in1 (newList [] >>= fun l=>again (.builtin "list.__iadd__" ⟨[l,.ref it],[]⟩)) _ _ s
 refine ae (cp (ax ⟨plainId_quiet gQ _,cw yl ?_⟩))
 rw[bK gQ _]
 have hS:(s.heap.push { cls := .type "list",data := .seq ([]:List Value).toArray }).get? s.heap.objs.size=some { cls := .type "list",data := .seq #[] 0 }:=aC _ rfl
 have hS₂:=dB (d5 (· ++ items)) hS rfl
 refine dj (wpAny_extend_seq (hsz:=hsz) (A:=A) (R:=fun r s'=>r = .ok (.ret (.ref s.heap.objs.size))/\s'={ s with heap:=(s.heap.push { cls := .type "list",data := .seq ([]:List Value).toArray }).update s.heap.objs.size (d5 (· ++ items)) })
  (s:={ s with heap:=s.heap.push { cls := .type "list",data := .seq ([]:List Value).toArray } }) _ it _ 0 hT hS (ar _ ho) hc hd ⟨rfl,rfl⟩) (fun fin s' h => ?_) (fun e s' h=>absurd h.1 (by simp))
 have fin':aI (model prog w) A (match bj s.heap.objs.size with
   | bj a=>do
     match (<- load a).data with
      | Data.seq xs _=>pure xs.toList
      | _=>unsupported "internal:collect"
   | _=>unsupported "internal:collect") Q E { s with heap:=(s.heap.push { cls := .type "list",data := .seq ([]:List Value).toArray }).update s.heap.objs.size (d5 (· ++ items)) }:=by
  show aI _ A (load s.heap.objs.size >>= _) _ _ _
  refine ae (GT hS₂ (ax ?_))
  show Q ((#[]:Array Value)++items).toList _
  rw[show((#[]:Array Value)++items).toList=items.toList by simp]
  exact hQ _ (λb o' hb=>(ck _ _ (dk (aG hb))).trans (ar _ hb)) (by rw[Heap.size_update,size_push'];exact dJ _)
 cases fin with
 | done f=>
   obtain⟨e,rfl⟩:=h
   cases e
   exact fin'
 | again c'=>exact⟨h.1,iC h.2 λr s'' hr=>by obtain⟨rfl,rfl⟩:=hr;exact fin'⟩
theorem tT {prog:Program}{w:World}{A:Around}{E:Value->Shared->Prop}{s:Shared}{l:Addr}{T:String}{o:Obj}{n:Nat}{vs:List Value}{ns:List Int}{Q:Value->Shared->Prop} (hT:T="list"\/T="tuple")
  (ho:s.heap.get? l=some o) (hc:o.cls = .type T) (hd:o.data = .seq vs.toArray n) (hI:IntsAre vs ns) (h64:vs.length<64)
  (h: ∀(out:Array Value) (ns':List Int) (a:Addr) (e:Nat) (h':Heap),IntsAre out.toList ns'->ns'.Perm ns->ns'.Pairwise (· <= ·)->s.heap.objs.size<=a->(∀b o',s.heap.get? b=some o'->h'.get? b=some o') ->
   h'.get? a=some (seqObj "list" out e)->Q (.ref a) { s with heap:=h' }) :
  aI (model prog w) A (call (.builtin "sorted") [.ref l]) Q E s:=by
 refine Ad kind_sorted plain_sorted entry_sorted (args_sorted1 _) ?_
 unfold Builtin.«sorted»
 refine ae (m:=checkCount "sorted" 1 1 _) (ax ?_)
 refine ae (An l hT ho hc hd (by rw[aD,sizeLine_eq];omega) λh1 hk hle =>?_)
 refine ae (wpAny_newList ?_)
 have hoL:(h1.push (seqObj "list" vs.toArray 0)).get? h1.objs.size=some (seqObj "list" vs.toArray 0):=aC _ rfl
 show aI _ _ _ _ _ { s with heap:=h1.push (seqObj "list" vs.toArray 0) }
 refine ae (dI (fT slot_list_sort ⟨_,hoL,rfl⟩ entry_list_sort (list_sort_tree hoL hI h64 λout ns' a1 a2 a3=>⟨_,rfl,?_⟩) (args_list_sort _)))
 obtain⟨e,he⟩:=sortedHeap_at (out:=out) hoL
 exact ax ⟨_,rfl,h out ns' _ e _ a1 a2 a3 hle (λb o' hb=>by
  have hb1:=hk b o' hb
  have hlt:=aG hb1
  rw[sortedHeap_old (aT hlt) (by rw[size_push'];exact dU hlt),Heap.get?_push_ne _ _ _ (aT hlt)]
  exact hb1) he⟩
theorem xk{prog:Program}{w:World}{A:Around}{E:Value->Shared->Prop}{s:Shared}{Q:List Value->Shared->Prop}{d:Addr}{vs:List (Key×Value)}{ep:Nat}(hh:A.handled=none)(hS:(d==sysModules)=false)(hm:s.heap.DictAt (dZ prog w) d vs ep)(hn:vs.length<=sizeLine)
  (hQ: ∀s' acc,(∀b o,s.heap.get? b=some o->s'.heap.get? b=some o)->s'.gens=s.gens->s'.drawn=s.drawn->s'.os=s.os->ItemsOf (λi v =>∃k x,vs[i]? = some (k,x)/\(dZ prog w).is k v=true) acc vs.length->s.heap.objs.size<=s'.heap.objs.size->Q acc.toList s'):aI (model prog w) A (collect (.ref d)) Q E s:=by
 have hdl:d<s.heap.objs.size:=hm.lt_size
 let lo:Obj:={ cls := .type "list",data := .seq ([]:List Value).toArray }
 let io:Obj:={ cls := .type "dict_keyiterator",data := .fields #[.ref d,.int 0 0,.int vs.length 0,.int ep 0] }
 have hm1:(s.heap.push lo).DictAt (dZ prog w) d vs ep:=hm.push lo
 have hT1:Ac { s with heap:=s.heap.push lo } (.ref d) "dict":=hm1.dictOf.typeIs
 unfold collect
 refine ae (nF (cw rO ?_))
 rw[bK rQ _]
 show aI _ A.in1 (newList [] >>= fun l=>again (.builtin "list.__iadd__" ⟨[l,.ref d],[]⟩)) _ _ s
 refine ae (cp (ax ⟨plainId_quiet gQ _,cw yl ?_⟩))
 rw[bK gQ _]
 show aI _ A.in1 (sX (.ref s.heap.objs.size) (.ref d) (.ref s.heap.objs.size)) _ _ _
 unfold sX
 refine ae (mm hT1 ?_)
 have hne:vF (.ref s.heap.objs.size) (.ref d)=false:=by simp[vF];exact dk hdl
 rw[if_neg (by rw[hne];decide)]
 refine ae (wpAny_pyIter_dict hS hm1 ?_)
 refine ae (dI ?_)
 unfold Builtin.List.listLengthHint
 have hT2:Ac { s with heap:=(s.heap.push lo).push io } (.ref d) "dict":=(hm1.push io).dictOf.typeIs
 refine ae (sh hT2 PySem.F.slot_dict_len.lookup ?_)
 generalize hid:("dict.__len__":String)=id0
 wp_delta
 rw [show splitId id0=some ("dict","__len__") from by subst hid;decide +kernel]
 subst hid
 refine ae (Bj (b:=true) hT2 (by rw[isSubtype_type];kernel_rfl) ?_)
 simp only[iy,d4,if_false]
 rw[if_pos (by decide +kernel)]
 refine ae (mm hT2 (ax ?_))
 rw[if_pos (by decide +kernel)]
 refine ae (yk (ae ?_))
 have hne2:s.heap.objs.size≠(s.heap.push lo).objs.size:=by rw[bA];exact aT (cM _)
 have hL1:((s.heap.push lo).push io).get? s.heap.objs.size=some lo:=ar _ (aC _ rfl)
 show aI _ A.in1 (updateSeq s.heap.objs.size (·.push .none) >>= λ_=>updateSeq s.heap.objs.size (·.pop)) _ _ _
 refine ae (sj hL1 rfl ?_)
 have hL2:=dB (d5 (·.push jx)) hL1 rfl
 refine sj hL2 rfl ?_
 have hL3:=dB (d5 (·.pop)) hL2 rfl
 have oth: ∀b o,b≠s.heap.objs.size->((s.heap.push lo).push io).get? b=some o->((((s.heap.push lo).push io).update s.heap.objs.size (d5 (·.push jx))).update s.heap.objs.size (d5 (·.pop))).get? b=some o:=
  λb o hb e=>(ck _ _ (eG hb)).trans ((ck _ _ (eG hb)).trans e)
 have hI:(s.heap.push lo).objs.size=s.heap.objs.size+1:=bA ..
 have hdI:d≠(s.heap.push lo).objs.size:=by rw[hI];exact aT (dU hdl)
 have W:=(Walks.dictKeys (prog:=prog) (w:=w) (A:=A.in1) (knd:=dZ prog w) hh (s.heap.push lo).objs.size d hdI vs ep).toS
 have hSf:s.heap.objs.size ∉ [(s.heap.push lo).objs.size,d]:=by
  rw[hI]
  intro z
  rcases aK.mp z with z |z
  ·omega
  ·rw[bR]at z;exact absurd z (dk hdl)
 have it0:((s.heap.push lo).push io).IsKeyIter (s.heap.push lo).objs.size d 0 vs.length ep:=⟨io,aC _ rfl,rfl,rfl⟩
 refine ax ⟨plainId_quiet F.plain_extend_loop _,codeAny_extend_loopS W hn s.heap.objs.size hSf _ vs.length 0 _ _ _ rfl (dc _) ?_ hL3 (ItemsOf.nil _) λs' acc' c' hmv hS' hacc =>?_⟩
 ·exact⟨it0.at λo e=>oth _ o (eG hne2) e,(hm1.push io).at' λo e=>oth _ o (aT hdl) e⟩
 ·show aI _ A (load s.heap.objs.size >>= _) _ _ s'
  refine ae (GT hS' (ax (hQ s' acc' (λb o e =>?_) hmv.gens hmv.drawn hmv.os hacc (ba (aG hS')))))
  have hb:b<s.heap.objs.size:=aG e
  refine hmv.heap b o ?_ (oth b o (aT hb) (ar _ (ar _ e)))
  rw[hI]
  intro z
  rcases aK.mp z with z |z
  ·exact absurd z (aT hb)
  ·rw[bR]at z;exact absurd z (aT (dU hb))
theorem wo: ∀{l:List Value}{ns:List Int},l.length=ns.length->(∀(j:Nat) (v:Value),l[j]? = some v -> ∃i t,ns[j]? = some i/\v = .int i t)->IntsAre l ns
 | [],[],_,_ => .nil
 | [],_::_,h,_=>by simp at h
 | _::_,[],h,_=>by simp at h
 | v::l,n::ns,h,k=>by
   obtain⟨i,t,e,rfl⟩:=k 0 v rfl
   simp at e;subst e
   exact .cons n t (wo (by simpa using h) λj w hj=>by simpa using k (j+1) w (by simpa using hj))
theorem yI{prog:Program}{w:World}{A:Around}{E:Value->Shared->Prop}{s:Shared}{d:Addr}{vs:List (Key×Value)}{ns:List Int}{Q:Value->Shared->Prop}(hh:A.handled=none)(hS:(d==sysModules)=false)(hm:s.heap.DictOf (dZ prog w) d vs)(hk:vs.map (·.1)=ns.map fS)(h64:ns.length<64)
  (h: ∀(out:Array Value) (ns':List Int) (a:Addr) (e:Nat) (h':Heap) (tk:Nat),IntsAre out.toList ns'->ns'.Perm ns->ns'.Pairwise (· <= ·)->s.heap.objs.size<=a->(∀b o',s.heap.get? b=some o'->h'.get? b=some o') ->
   h'.get? a=some (seqObj "list" out e)->Q (.ref a) { s with heap:=h',toks:=tk }) :
  aI (model prog w) A (call (.builtin "sorted") [.ref d]) Q E s:=by
 obtain⟨ep,hm⟩:=hm.dictAt
 have hlen:vs.length=ns.length:=by have:=congrArg G6 hk;simpa using this
 refine Ad kind_sorted plain_sorted entry_sorted (args_sorted1 _) ?_
 unfold Builtin.«sorted»
 refine ae (m:=checkCount "sorted" 1 1 _) (ax (ae (xk hh hS hm (by rw [hlen,sizeLine_eq];omega) fun s1 acc hk1 hg hdr hos hacc hle => ?_)))
 have hI:IntsAre acc.toList ns:=wo (by rw[<- hlen,<- hacc.1];simp) λj v hj=>by
  obtain⟨k,x,e,ik⟩:=hacc.2 j v (by simpa using hj)
  have e2:(vs.map (·.1))[j]? = some k:=by rw[bO,e];rfl
  rw[hk,bO]at e2
  cases q:ns[j]? with
  | none=>rw[q]at e2;cases e2
  | some i=>
    rw[q]at e2
    have e3:fS i=k:=bx e2
    subst e3
    rcases eu (show ui (fS i) v=true from ik) with⟨i',t,e4,e5⟩ | ⟨y,t,e4,_⟩
    ·cases e4;exact⟨_,t,rfl,e5⟩
    ·cases e4
 have hal:acc.toList.length<64:=by rw[j9 hI];exact h64
 refine ae (wpAny_newList ?_)
 have hoL:(s1.heap.push (seqObj "list" acc 0)).get? s1.heap.objs.size=some (seqObj "list" acc.toList.toArray 0):=aC _ rfl
 show aI _ _ _ _ _ { s1 with heap:=s1.heap.push (seqObj "list" acc 0) }
 refine ae (dI (fT slot_list_sort ⟨_,hoL,rfl⟩ entry_list_sort (list_sort_tree hoL hI hal λout ns' a1 a2 a3=>⟨_,rfl,?_⟩) (args_list_sort _)))
 obtain⟨e,he⟩:=sortedHeap_at (out:=out) hoL
 have hq:=h out ns' _ e _ s1.toks a1 a2 a3 hle (λb o' hb=>by
  have hb1:=hk1 b o' hb
  have hlt:=aG hb1
  rw[sortedHeap_old (aT hlt) (by rw[size_push'];exact dU hlt),Heap.get?_push_ne _ _ _ (aT hlt)]
  exact hb1) he
 rw[<- hg,<- hdr,<- hos]at hq
 exact ax ⟨_,rfl,hq⟩
section
variable {X:Cx}
noncomputable def Bl(K:av):List V->Hp->VK->Prop:=λxs H Q =>∃(p:Addr) (ns:List Int),xs = [.ref p]/\((SqL K H p (ns.map V.int)\/SqT K H p (ns.map V.int)) \/ ∃kvs,H p=some (.dK kvs)/\kvs.map (·.1)=ns.map fS)/\ns.length<64 /\ ∀l,H l=none->Q (.ref l) (upd H l (.lst ((qF ns).map V.int)))
theorem Jq{kvs:List (Key×V)}{vs:List (Key×Value)}(h:KV kvs vs):vs.map (·.1)=kvs.map (·.1):=by
 induction h with
 | nil=>rfl
 | cons a _ ih=>rw[bE,bE,ih,a.1]
theorem zj (hc:X.calm=true):iq X (.builtin "sorted") (Bl X.K):=by
 intro pins s σ H xs us Q I rs h
 obtain⟨p,ns,rfl,hS,h64,q⟩:=h
 cases rs with
 | cons r1 rr=>
   cases rr
   cases (show _=bj p from r1)
   have fin: ∀(out:Array Value) (ns':List Int) (a:Addr) (e:Nat) (h':Heap) (tk:Nat),IntsAre out.toList ns'->ns'.Perm ns->ns'.Pairwise (· <= ·)->s.heap.objs.size<=a->(∀b o',s.heap.get? b=some o'->h'.get? b=some o') ->
    h'.get? a=some (seqObj "list" out e)->EP X pins σ Q (.ref a) { s with heap:=h',toks:=tk }:=by
    intro out ns' a e h' tk a1 a2 a3 hle hk he
    have e':=uB a2 a3
    subst e'
    refine⟨.ref a,_,I.laid (t':=tk) (o:= .lst ((qF ns).map V.int)) hk hle ?_,rfl,q _ (I.hok.fresh hle)⟩
    refine⟨by rw[ak,(jP ns).length_eq,sizeLine_eq];omega,out.toList,e,rj a1,?_⟩
    rw[he]
   rcases hS with (hS |hS) | ⟨kvs,hp,hks⟩
   ·obtain⟨its,rv,pl,_⟩:=I.list hS
    have hl:=pl.isList
    obtain⟨o,ho,hc,n,hd⟩:=hl
    have hI:=intsAre_of rv
    exact tT (.inl rfl) ho hc hd hI (by rw[j9 hI];exact h64) λout ns' a e h'=>fin out ns' a e h' s.toks
   ·obtain⟨its,rv,pl,_⟩:=I.tuple hS
    obtain⟨o,ho,hc,n,hd⟩:=pl
    have hI:=intsAre_of rv
    exact tT (.inr rfl) ho hc hd hI (by rw[j9 hI];exact h64) λout ns' a e h'=>fin out ns' a e h' s.toks
   ·obtain⟨_,hsm,vs,rel,dd⟩:=(show eT X.prog X.w H s.heap p (.dK kvs) from I.hok p _ hp)
    exact yI (I.ok.hd hc) hsm dd (by rw[Jq rel];exact hks) h64 fin
end
section
variable {K:KX}
theorem t6{H:Hp}{μ:List Addr}: ∀ns:List Int,RUs H μ (ns.map U.int) (ns.map V.int)
 | [] => .nil
 | n::ns => .cons eX (t6 ns)
theorem BH: ∀{kvs:List (Key×U)}{vs:List V},kvs.length=vs.length->(dV kvs vs).map (·.1)=kvs.map (·.1)
 | [],_,_=>rfl
 | _::_,[],h=>by simp at h
 | kv::kvs,v::vs,h=>by
   show kv.1::(dV kvs vs).map (·.1)=kv.1::kvs.map (·.1)
   rw[BH (by simpa using h)]
theorem wV: ∀{kvs:List (Key×U)}{ns:List Int},cH pz kvs=some ns->kvs.map (·.1)=ns.map fS
 | [],ns,h=>by cases h;rfl
 | (k,u)::kvs,ns,h=>by
   unfold cH at h
   cases k with
   | inr x=>cases h
   | inl i=>
     simp only[pz,ag]at h
     cases q:cH pz kvs with
     | none=>rw[q]at h;cases h
     | some ms=>
       rw[q]at h;cases h
       rw[bE,wV q];rfl
theorem DF:rT K (Bl K) eJ:=by
 intro μ S H us vs u S' Q hr rs e a
 unfold eJ at e
 split at e
 ·rename_i x
  obtain⟨v,r,rfl,rx,rn⟩:=rs.inv
  rw[rn.nil_inv]
  cases q:uJ S x with
  | none=>rw[q]at e;cases e
  | some ns=>
    rw[q]at e;simp only[ag]at e
    split at e
    rotate_left
    ·cases e
    rename_i hc
    cases e
    unfold uJ at q
    split at q
    ·rename_i kvs qd
     obtain⟨p,ws,rfl,hp,r'⟩:=hr.dic rx qd
     have hl:kvs.length=ws.length:=by have:=r'.len;rwa[ak]at this
     exact⟨p,ns,rfl,.inr ⟨_,hp,by rw[BH hl];exact wV q⟩,hc,λl hl=>lH a hr (t6 _) hl⟩
    ·cases q1:d0 S x with
     | none=>rw[q1]at q;cases q
     | some ws=>
       rw[q1]at q
       obtain⟨p,ys,rfl,hs,r'⟩:=hr.seq rx q1
       rw[xB r' q]at hs
       exact⟨p,ns,rfl,.inl hs,hc,λl hl=>lH a hr (t6 _) hl⟩
 ·cases e
end
section
variable {X:Cx}
end
section
variable {K:KX}
end
end
end _G
end
section
namespace _G
open PySem PySem.Spec _L
open PyProof.Rows hiding St
section
end
end _G
end
section
namespace _G
open PySem PySem.Spec _L
open PyProof.Rows hiding St
section
noncomputable def He(n:Nat):Prop:=n<4000
noncomputable instance(n:Nat):Decidable (He n):=cN _
noncomputable def bLS:MF:=λus S=>match us with
 | [x]=>((d0 S x).bind λxs=>cH pR xs).bind λns=>if He ns.length then some (.int (ddp ns).length,S) else none
 | _=>none
end
noncomputable def rLS(K:av):List V->Hp->VK->Prop:=λxs H Q =>∃(p:Addr) (ns:List Int),xs = [.ref p]/\(SqL K H p (ns.map V.int)\/SqT K H p (ns.map V.int))/\He ns.length/\Q (.int (ddp ns).length) H
theorem MX{K:KX}:rT K (rLS K) bLS:=by
 intro μ S H us vs u S' Q hr rs e a
 unfold bLS at e
 split at e
 ·rename_i x
  obtain⟨v,r,rfl,rx,rn⟩:=rs.inv
  rw[rn.nil_inv]
  cases q1:d0 S x with
  | none=>rw[q1]at e;cases e
  | some ws=>
    rw[q1]at e
    simp only[ag]at e
    cases q:cH pR ws with
    | none=>rw[q]at e;cases e
    | some ns=>
      rw[q]at e
      simp only[ag]at e
      split at e
      rotate_left
      ·cases e
      rename_i hc
      cases e
      obtain⟨p,ys,rfl,hs,r'⟩:=hr.seq rx q1
      rw[xB r' q]at hs
      exact⟨p,ns,rfl,hs,hc,a.now hr eX⟩
 ·cases e
theorem Pf {X:Cx}{e:Expr}{t:TA}{p q rp pos:Pos} (hc:X.calm=true) (hg:Gl X "len") (hm:X.mg "len"=none) (hg2:Gl X "set") (hm2:X.mg "set"=none) (ha:PA X [e] t) (he:starEach [e] X.env=(false,eval e X.env)::starEach [] X.env):PE X (.Call (.Name "len" p) [.Call (.Name "set" q) [e] [] rp] [] pos) (tCB (rLS X.K) t):=by
 intro pins s σ H Q I h
 refine ek (ko I hg hm boot_len ?_ (by decide) (by decide))
 refine qM ?_ rfl rfl
 show aI _ _ (spliced ((false,eval (.Call (.Name "set" q) [e] [] rp) X.env)::backTo pos (starEach [] X.env))) _ _ s
 refine kX (ek (ko I hg2 hm2 PyProof.Rows.boot_set ?_ (by decide) (by decide)))
 refine cz (thn (ha rp pins s σ H _ I h) λus s1 ⟨vs,H1,I1,r1,q1⟩ =>?_) he rfl
 obtain⟨a,ns,rfl,hS,hk1,qq⟩:=q1
 have hk1:ns.length<4000:=hk1
 cases r1 with
 | cons r1 rr=>
   cases rr
   cases (show _=bj a from r1)
   have hh:=I1.ok.hd hc
   have fin : ∀ (T:String) (items:Array Value) (nl:Nat) (od:Option Addr) (osl:Array (Option Value)),T="list"\/T="tuple"->s1.heap.get? a=some { cls := .type T,dict:=od,data := .seq items nl,slots:=osl }->IntsAre items.toList ns ->
     aI (model X.prog X.w) X.A (call (.type "set") [.ref a]) (fun u s2=>aI (model X.prog X.w) X.A (spliced (backTo pos (starEach [] X.env))) (fun us s3=>aI (model X.prog X.w) X.A (call (.builtin "len") (u::us)) (EP X pins σ Q) X.xe s3) X.xe s2) X.xe s1:=by
    intro T items nl od osl hT hol hi
    refine FA hT hh hol hi (by unfold scanBound;exact ay (by assumption) (by decide)) λh2 tk hset hold=>vn ?_
    obtain⟨es,ep,tb,ho,he2⟩:=hset
    have hl:=he2.len
    have hd:=Bm ns
    refine call_len_set (s:={ s1 with heap:=h2,toks:=tk }) ho ⟨rfl,rfl,rfl⟩ rfl he2.fit (by omega) ?_
    have I2:Inv X pins σ H1 { s1 with heap:=h2,toks:=tk+1+1 }:=I1.kept λb o e=>hold b o (by simp) e
    refine⟨.int (ddp ns).length,H1,I2,⟨_,by rw[hl]⟩,qq⟩
   rcases hS with hS |hS
   ·obtain⟨its,rv,pl,_⟩:=I1.list hS
    obtain⟨⟨oc,od,odt,osl⟩,ho,hcl,n,hd⟩:=pl.isList
    simp only at hcl hd
    subst hcl hd
    exact fin "list" _ n _ _ (.inl rfl) ho (intsAre_of rv)
   ·obtain⟨its,rv,pl,_⟩:=I1.tuple hS
    obtain⟨⟨oc,od,odt,osl⟩,ho,hcl,n,hd⟩:=pl
    simp only at hcl hd
    subst hcl hd
    exact fin "tuple" _ n _ _ (.inr rfl) ho (intsAre_of rv)
end _G
end
section
namespace _G
open PySem PySem.Spec _L
open PyProof.Rows hiding St
section
section
variable {prog:Program}{w:World}{A:Around}{E:Value->Shared->Prop}{s:Shared}
end
section
variable {X:Cx}{e:Expr}{te:TE}{pos p2 p3 p4:Pos}{j:Nat}
end
section
variable {K:KX}{σ:St}{H:Hp}{Q:VK}
end
end
end _G
end
section
namespace _G
open PySem PySem.Spec _L
open PyProof.Rows hiding St
section
noncomputable def uy(k v:ME):ME:=λρ S=>bnd (k ρ (S++[.dic []])) λx S1=>bnd (v ρ S1) λy S2=>(keyOf x).bind λkk=>match S2[S.length]? with
 | some (.dic [])=>some (.ref S.length,S2.set S.length (.dic [(kk,y)]))
 | _=>none
section
variable {K:KX}{σ:St}{H:Hp}{Q:VK}
theorem Ik{μ:List Addr}{S:Sto}{p:Addr}(hr:HR K μ S H)(hp:H p=none):HR K (μ++[p]) (S++[.dic []]) (upd H p (.dK [])):=
 hr.newC hp rfl ⟨[],dh,.nil⟩
theorem IG{μ:List Addr}{S:Sto}{p:Addr}(hr:HR K μ S H):(μ++[p])[S.length]? = some p:=by
 rw[<- hr.len,az (aq _)];simp
theorem Kr{a b:ME}(h:tM K (uy a b) σ H Q):JO [(tM K a,tM K b)] σ H Q:=by
 obtain⟨μ,S,ρ,u,S',hr,er,e,k⟩:=h
 intro p hp
 obtain⟨x,S1,e1,e⟩:=be e
 obtain⟨y,S2,e2,e⟩:=be e
 have pre:Pre μ (μ++[p]):=⟨[p],rfl⟩
 refine⟨μ++[p],S++[.dic []],ρ,x,S1,Ik hr hp,er.mono (bq.new hp) pre,e1,λμ1 vx H1 p1 k1 hr1 rx =>?_⟩
 refine⟨μ1,S1,ρ,y,S2,hr1,er.mono ((bq.new hp).trans k1) (pre.trans p1),e2,λμ2 vy H2 p2 k2 hr2 ry =>?_⟩
 cases qk:keyOf x with
 | none=>rw[qk]at e;cases e
 | some kk=>
   rw[qk]at e
   simp only[ag]at e
   split at e
   ·rename_i q
    cases e
    have hm:=p2.get (p1.get (IG hr (p:=p)))
    obtain⟨vs,e0,r0⟩:=hr2.cell _ _ p q hm
    have hv:vs = []:=r0.nil_inv
    subst hv
    have kw:bq H2 (upd H2 p (.dK (rG [] [(kk,vy)]))):=bq.wrG e0 (λ_ z=>by cases z) λ_ _ z=>by cases z
    refine⟨e0,[(kk,vy)],?_,by simp,?_⟩
    ·rw[pU (RU.mono k2 p2 _ _ rx) qk];rfl
    ·refine k μ2 _ _ (pre.trans (p1.trans p2)) ((bq.new hp).trans (k1.trans (k2.trans kw))) (hr2.wrC q hm rfl ⟨[vy],by rw[dh];rfl,.cons (RU.mono kw (Pre.refl _) _ _ ry) .nil⟩) (AI hm)
   ·cases e
noncomputable def Nu(i:Int):Prop:=i.natAbs.log2<1920
noncomputable instance(i:Int):Decidable (Nu i):=cN _
end
end
end _G
end
section
namespace _G
open PySem PySem.Spec _L
open PyProof.Rows hiding St
section
abbrev MG:=U->Rho->Sto->Option (Rho×Sto)
abbrev MGs:=List U->Rho->Sto->Option (Rho×Sto)
noncomputable def gN(i:Nat):MG:=λu ρ S=>some (ρ.set i (some u),S)
noncomputable def mE:MGs:=λus ρ S=>match us with
 | []=>some (ρ,S)
 | _=>none
noncomputable def eK(g:MG)(r:MGs):MGs:=λus ρ S=>match us with
 | []=>none
 | u::us=>(g u ρ S).bind λp=>r us p.1 p.2
noncomputable def gTp(n:Nat)(gs:MGs):MG:=λu ρ S=>match u with
 | .tup us=>if us.length=n then gs us ρ S else none
 | _=>none
noncomputable def tG(K:KX)(g:MG):TG:=λv σ H Q =>∃μ S ρ u r,HR K μ S H/\ER H μ ρ σ/\RU H μ u v/\g u ρ S=some r /\ ∀μ' σ' H',Pre μ μ'->bq H H'->HR K μ' r.2 H'->ER H' μ' r.1 σ'->Q σ' H'
noncomputable def tGs(K:KX)(g:MGs):TGs:=λvs σ H Q =>∃μ S ρ us r,HR K μ S H/\ER H μ ρ σ/\RUs H μ us vs/\g us ρ S=some r /\ ∀μ' σ' H',Pre μ μ'->bq H H'->HR K μ' r.2 H'->ER H' μ' r.1 σ'->Q σ' H'
theorem PG.con{X:Cx}{tg:Expr}{t u:TG}(h:PG X tg t)(k: ∀v σ H Q,u v σ H Q->t v σ H Q):PG X tg u:=λpins s σ H v w Q I r q=>h pins s σ H v w Q I r (k _ _ _ _ q)
theorem PGs.con{X:Cx}{tg:List Expr}{t u:TGs}(h:PGs X tg t)(k: ∀v σ H Q,u v σ H Q->t v σ H Q):PGs X tg u:=λpins s σ H v w Q I r q=>h pins s σ H v w Q I r (k _ _ _ _ q)
section
variable {K:KX}{σ:St}{H:Hp}{Q:St->Hp->Prop}{v:V}{D:Ends}
theorem QA{i:Nat}(h:tG K (gN i) v σ H Q):jq i v σ H Q:=by
 obtain⟨μ,S,ρ,u,r,hr,er,ru,e,k⟩:=h
 cases e
 exact k μ _ H (Pre.refl _) (bq.refl _) hr (er.set ru i)
theorem MD{vs:List V}(h:tGs K mE vs σ H Q):Oa vs σ H Q:=by
 obtain⟨μ,S,ρ,us,r,hr,er,rs,e,k⟩:=h
 cases us with
 | nil=>cases e;exact⟨rs.nil_inv,k μ _ H (Pre.refl _) (bq.refl _) hr er⟩
 | cons u us=>cases e
theorem HZ{g:MG}{gs:MGs}{vs:List V}(h:tGs K (eK g gs) vs σ H Q):J6 (tG K g) (tGs K gs) vs σ H Q:=by
 obtain⟨μ,S,ρ,us,r,hr,er,rs,e,k⟩:=h
 cases us with
 | nil=>cases e
 | cons u us=>
   obtain⟨v,vr,rfl,ra,rb⟩:=rs.inv
   cases q:g u ρ S with
   | none=>rw[show eK g gs (u::us) ρ S=(g u ρ S).bind λp=>gs us p.1 p.2 from rfl,q]at e;cases e
   | some p=>
     rw[show eK g gs (u::us) ρ S=(g u ρ S).bind λp=>gs us p.1 p.2 from rfl,q]at e
     refine⟨v,vr,rfl,μ,S,ρ,u,p,hr,er,ra,q,λμ1 σ1 H1 p1 k1 hr1 er1 =>?_⟩
     exact⟨μ1,p.2,p.1,us,r,hr1,er1,RUs.mono k1 p1 _ _ rb,e,λμ2 σ2 H2 p2 k2=>k μ2 σ2 H2 (p1.trans p2) (k1.trans k2)⟩
theorem NC{n:Nat}{gs:MGs}(h:tG K (gTp n gs) v σ H Q):P2 K n (tGs K gs) v σ H Q:=by
 obtain⟨μ,S,ρ,u,r,hr,er,ru,e,k⟩:=h
 unfold gTp at e
 split at e
 ·rename_i us
  split at e
  ·rename_i hl
   obtain⟨a,vs,rfl,ha,rs⟩:=gp ru
   exact⟨a,vs,rfl,.inl (.inl ha),by rw[<- rs.len];exact hl,μ,S,ρ,us,r,hr,er,rs,e,k⟩
  ·cases e
 ·cases e
end
end
end _G
end
section
namespace _G
open PySem PySem.Spec _L
open PyProof.Rows hiding St
section
noncomputable def y0(g:MG)(b:MS):List U->MS
 | [],ρ,S=>some (.nx,ρ,S)
 | x::xs,ρ,S=>(g x ρ S).bind λp=>aft (b p.1 p.2) (y0 g b xs)
noncomputable def oU(g:MG)(b:MS)(n:Nat):Nat->Nat->MS
 | 0,_,_,_=>none
 | f+1,k,ρ,S=>(getL S n).bind λus=>match us[k]? with
   | none=>some (.nx,ρ,S)
   | some x=>(g x ρ S).bind λp=>aft (b p.1 p.2) (oU g b n f (k+1))
noncomputable def JU(g:MG)(b:MS)(n:Nat):Nat->Nat->MS
 | 0,_,_,_=>none
 | f+1,k,ρ,S=>(getL S n).bind λus=>match us[k]? with
   | none=>some (.nx,ρ,S)
   | some x=>(g (.tup [.int k,x]) ρ S).bind λp=>aft (b p.1 p.2) (JU g b n f (k+1))
noncomputable def J5(g:MG)(b:MS):Src->MS
 | .imm us=>y0 g b us
 | .mut n=>oU g b n fuel 0
 | .enl n=>JU g b n fuel 0
 | _=>λ_ _=>none
noncomputable def nh(g:MG)(it:MI)(b:MS):MS:=λρ S=>bnd (it ρ S) λsrc S1=>J5 g b src ρ S1
section
variable {K:KX}{σ:St}{H:Hp}{Q:VK}{D:Ends}
theorem yH{g:MG}{b:MS}{ρ:Rho}{S:Sto}{x:U}{v:V}{μ μ0:List Addr}{H0:Hp}{k:MS}{r:Fl×Rho×Sto}{N:St->Hp->Prop}(hr:HR K μ S H)(er:ER H μ ρ σ)(rx:RU H μ x v)(e:((g x ρ S).bind λp=>aft (b p.1 p.2) k)=some r)(p:Pre μ0 μ)(kp:bq H0 H)(fl:FlP K μ0 H0 D r)
  (hN: ∀μ1 σ1 H1 ρ1 S1,Pre μ0 μ1->bq H0 H1->HR K μ1 S1 H1->ER H1 μ1 ρ1 σ1->k ρ1 S1=some r->N σ1 H1):tG K g v σ H λσ2 H2=>tMS K b { D with nx:=N,ct:=N,bk:=D.nx } σ2 H2:=by
 cases q:g x ρ S with
 | none=>rw[q]at e;cases e
 | some y=>
   rw[q]at e
   exact⟨μ,S,ρ,x,y,hr,er,rx,q,λμ1 σ1 H1 p1 k1 hr1 er1=>nI hr1 er1 e (p.trans p1) (kp.trans k1) fl hN⟩
theorem Ju{g:MG}{b:MS}{us:List U}{vs:List V}{ρ:Rho}{S:Sto}{μ:List Addr}{a:Addr}{r:Fl×Rho×Sto}(hr:HR K μ S H)(er:ER H μ ρ σ)(e:y0 g b us ρ S=some r)(fl:FlP K μ H D r)(ha:H a=some (.tup vs))(ru:RUs H μ us vs):
  ∃W:Nat->Nat->St->Hp->Prop,(∃m,W 0 m σ H) /\ ∀k m σ H,W k m σ H ->
   ((Itt K a).stop k H/\D.nx σ H)\/((Itt K a).go k H /\ ∃N:St->Hp->Prop,(∀σ' H',N σ' H' -> ∃m',m'<m/\W (k+1) m' σ' H') /\ ∀x H',(Itt K a).yld k H x H'->tG K g x σ H' λσ2 H2=>tMS K b { D with nx:=N,ct:=N,bk:=D.nx } σ2 H2):=by
 refine⟨λk m σ1 H1=>m+k=us.length /\ ∃μ1 S1 ρ1,Pre μ μ1/\bq H H1/\HR K μ1 S1 H1/\ER H1 μ1 ρ1 σ1/\y0 g b (us.drop k) ρ1 S1=some r,⟨us.length,rfl,μ,S,ρ,Pre.refl _,bq.refl _,hr,er,e⟩,?_⟩
 rintro k m σ1 H1 ⟨hm,μ1,S1,ρ1,p1,k1,hr1,er1,e1⟩
 have hq:SqT K H1 a vs:= .inl (.inl (k1 a vs ha))
 cases m with
 | zero=>
   have hk:k=us.length:=by omega
   subst hk
   rw[oi]at e1
   cases e1
   exact .inl ⟨⟨vs,hq,by rw[ru.len];exact aq _⟩,fl μ1 σ1 H1 p1 k1 hr1 er1⟩
 | succ m=>
   have hk:k<us.length:=by omega
   have hu:us[k]? = some us[k]:=by simp[hk]
   obtain⟨v,hv,rv⟩:=ru.get hu
   rw[drop_cons hu]at e1
   refine .inr ⟨⟨vs,v,hq,hv⟩,λσ2 H2 =>∃μ2 S2 ρ2,Pre μ μ2/\bq H H2/\HR K μ2 S2 H2/\ER H2 μ2 ρ2 σ2/\y0 g b (us.drop (k+1)) ρ2 S2=some r,λσ' H' w=>⟨m,cM _,by omega,w⟩,λx H' y =>?_⟩
   obtain⟨e',y⟩:=y
   subst e'
   have hx:=y vs hq
   rw[hv]at hx;cases hx
   exact yH hr1 er1 (RU.mono k1 p1 _ _ rv) e1 p1 k1 fl λμ2 σ2 H2 ρ2 S2 p2 k2 hr2 er2 e2=>⟨μ2,S2,ρ2,p2,k2,hr2,er2,e2⟩
theorem ID{g:MG}{b:MS}{n f:Nat}{ρ:Rho}{S:Sto}{μ:List Addr}{a:Addr}{r:Fl×Rho×Sto}(hr:HR K μ S H)(er:ER H μ ρ σ)(e:oU g b n f 0 ρ S=some r)(fl:FlP K μ H D r)(ha:μ[n]? = some a):
  ∃W:Nat->Nat->St->Hp->Prop,(∃m,W 0 m σ H) /\ ∀k m σ H,W k m σ H ->
   ((Itl K a).stop k H/\D.nx σ H)\/((Itl K a).go k H /\ ∃N:St->Hp->Prop,(∀σ' H',N σ' H' -> ∃m',m'<m/\W (k+1) m' σ' H') /\ ∀x H',(Itl K a).yld k H x H'->tG K g x σ H' λσ2 H2=>tMS K b { D with nx:=N,ct:=N,bk:=D.nx } σ2 H2):=by
 refine⟨λk m σ1 H1 =>∃μ1 S1 ρ1,Pre μ μ1/\bq H H1/\HR K μ1 S1 H1/\ER H1 μ1 ρ1 σ1/\oU g b n m k ρ1 S1=some r,⟨f,μ,S,ρ,Pre.refl _,bq.refl _,hr,er,e⟩,?_⟩
 rintro k m σ1 H1 ⟨μ1,S1,ρ1,p1,k1,hr1,er1,e1⟩
 cases m with
 | zero=>cases e1
 | succ m=>
   unfold oU at e1
   cases q:getL S1 n with
   | none=>rw[q]at e1;cases e1
   | some us=>
     rw[q]at e1
     simp only[ag]at e1
     obtain⟨a',vs,ha',hs,rs⟩:=hr1.sq q
     rw[p1.get ha]at ha';cases ha'
     cases z:us[k]? with
     | none=>
       rw[z]at e1
       cases e1
       refine .inl ⟨⟨vs,hs,?_⟩,fl μ1 σ1 H1 p1 k1 hr1 er1⟩
       rw[<- rs.len];exact lY.mp z
     | some u=>
       rw[z]at e1
       obtain⟨v,hv,rv⟩:=rs.get z
       refine .inr ⟨⟨vs,v,hs,hv⟩,λσ2 H2 =>∃μ2 S2 ρ2,Pre μ μ2/\bq H H2/\HR K μ2 S2 H2/\ER H2 μ2 ρ2 σ2/\oU g b n m (k+1) ρ2 S2=some r,λσ' H' w=>⟨m,cM _,w⟩,λx H' y =>?_⟩
       obtain⟨e',y⟩:=y
       subst e'
       have hx:=y vs hs
       rw[hv]at hx;cases hx
       exact yH hr1 er1 rv e1 p1 k1 fl λμ2 σ2 H2 ρ2 S2 p2 k2 hr2 er2 e2=>⟨μ2,S2,ρ2,p2,k2,hr2,er2,e2⟩
theorem Ol{g:MG}{a:ME}{b:MS}(h:tMS K (nh g (dD a) b) D σ H):xM (λσ H R=>wG K (tM K a) σ H R\/CG K (tM K a) σ H R) (tG K g) (tMS K b) D σ H:=by
 obtain⟨μ,S,ρ,r,hr,er,e,fl⟩:=h
 obtain⟨src,S1,e1,e⟩:=be e
 refine A2 hr er e1 (λμ1 H1 us p vs p1 k1 hr1 hs hp rs =>?_) λμ1 H1 n p p1 k1 hr1 hs hp =>?_
 ·subst hs
  exact Ju hr1 (er.mono k1 p1) e (fl.mono p1 k1) hp rs
 ·subst hs
  exact ID hr1 (er.mono k1 p1) e (fl.mono p1 k1) hp
end
end
end _G
end
section
namespace _G
open PySem PySem.Spec _L
open PyProof.Rows hiding St
section
section
variable {K:KX}{σ:St}{H:Hp}{Q:VK}
end
end
end _G
end
section
namespace _G
open PySem PySem.Spec _L
open PyProof.Rows hiding St
section
section
variable {prog:Program}{w:World}{A:Around}{E:Value->Shared->Prop}{s:Shared}
theorem vO{Q:List Value->Shared->Prop}{r:Addr}{a b c:Int}{t u v:Tok}{n:Nat}(hh:A.handled=none)(hr:IsRange s.heap r a b c t u v)(hsmall:nG a b c=true)
  (hn:dX a b c=n) (hlen:n<=2 ^ 24)
  (hQ: ∀(h':Heap) (tk:Nat) (acc:Array Value),(∀b o,s.heap.get? b=some o->h'.get? b=some o)->s.heap.objs.size<=h'.objs.size->ItemsOf (λi v =>∃t,v = .int (a+i*c) t) acc n->Q acc.toList { s with heap:=h',toks:=tk }):
  aI (model prog w) A (collect (.ref r)) Q E s:=by
 unfold collect
 refine ae (nF (cw rO ?_))
 rw[bK rQ _]
 show aI _ A.in1 (newList [] >>= fun l=>again (.builtin "list.__iadd__" ⟨[l,.ref r],[]⟩)) _ _ s
 refine ae (cp (ax ⟨plainId_quiet gQ _,cw yl ?_⟩))
 rw[bK gQ _]
 have hS:(s.heap.push { cls := .type "list",data := .seq ([]:List Value).toArray }).get? s.heap.objs.size=some { cls := .type "list",data := .seq #[] 0 }:=aC _ rfl
 have lt: ∀b o,s.heap.get? b=some o->b≠s.heap.objs.size:=λb o e=>aT (aG e)
 refine dj (wpAny_extend_range (A:=A) (R:=λx s' =>∃h' tk acc c',x = .ok (.ret (.ref s.heap.objs.size))/\s'={ s with heap:=h',toks:=tk }/\(∀b o,s.heap.get? b=some o->h'.get? b=some o) /\
   h'.get? s.heap.objs.size=some { cls := .type "list",dict:=none,data := .seq acc c',slots := #[] }/\ItemsOf (fun i v => ∃ t,v = .int (a+i*c) t) acc n)
  (s:={ s with heap:=s.heap.push { cls := .type "list",data := .seq ([]:List Value).toArray } }) hh (ar _ hr) hsmall hn hlen s.heap.objs.size (.ref s.heap.objs.size) 0 hS
  λh' tk acc c' hk hS' hacc=>⟨h',tk,acc,c',rfl,rfl,λb o e=>hk b o (lt b o e) (ar _ e),hS',hacc⟩) (λfin s' h =>?_) (λe s' h=>by obtain⟨_,_,_,_,h,_⟩:=h;cases h)
 have fin': ∀x s',(∃h' tk acc c',x=(.ok (.ret (.ref s.heap.objs.size)):Result)/\s'={ s with heap:=h',toks:=tk }/\(∀b o,s.heap.get? b=some o->h'.get? b=some o) /\
   h'.get? s.heap.objs.size=some { cls := .type "list",dict:=none,data := .seq acc c',slots := #[] }/\ItemsOf (fun i v => ∃ t,v = .int (a+i*c) t) acc n)->x = .ok (.ret (.ref s.heap.objs.size))/\aI (model prog w) A (match bj s.heap.objs.size with
   | bj a=>do
     match (<- load a).data with
      | Data.seq xs _=>pure xs.toList
      | _=>unsupported "internal:collect"
   | _=>unsupported "internal:collect") Q E s':=by
  rintro x s' ⟨h',tk,acc,c',rfl,rfl,hk,hS',hacc⟩
  refine⟨rfl,?_⟩
  show aI _ A (load s.heap.objs.size >>= _) _ _ _
  refine ae (GT hS' (ax ?_))
  exact hQ h' tk acc hk (ba (aG hS')) hacc
 cases fin with
 | done f=>
   obtain⟨e,q⟩:=fin' _ _ h
   cases e
   exact q
 | again c'=>exact⟨h.1,iC h.2 λr s'' hr=>by
   obtain⟨e,q⟩:=fin' _ _ hr
   subst e
   exact q⟩
theorem mZ{Q₁:Value->Shared->Prop}{r:Addr}{a b c:Int}{t u v:Tok}{n:Nat}(hh:A.handled=none)(hr:IsRange s.heap r a b c t u v)(hsmall:nG a b c=true)
  (hn:dX a b c=n) (hlen:n<=2 ^ 24)
  (h : ∀ (h':Heap) (tk:Nat) (acc:Array Value),(∀ b o,s.heap.get? b=some o->h'.get? b=some o)->s.heap.objs.size<=h'.objs.size->ItemsOf (fun i v => ∃ t,v = .int (a+i*c) t) acc n->Q₁ (.ref h'.objs.size) { s with heap:=h'.push { cls := .type "tuple",data := .seq acc },toks:=tk }) :
  md (model prog w) A (.call (.builtin "tuple.__new__") ⟨[.type "tuple",.ref r],[]⟩) (wants Q₁ E) s:=by
 refine DR ?_
 show aI _ A.in1 (do checkBuiltinCall "tuple.__new__" ⟨[.type "tuple",.ref r],[]⟩;again (.builtin "tuple.__new__" ⟨[.type "tuple",.ref r],[]⟩)) _ _ s
 refine ae (f9 (F.newCall_tuple_1 _) (ax ⟨plainId_quiet F.plain_tuple_new _,cw F.entry_tuple_new ?_⟩))
 rw[bK F.plain_tuple_new _]
 have hsub:=sub_tuple_self
 have hinit:=init_tuple_lookup
 have hmh:=madeHere_tuple
 have hTI:s.TypeIs (.ref r) "range":=⟨_,hr,rfl⟩
 have hh1:A.in1.handled=none:=hh
 wp_walk using mm hTI,vO hh1 hr hsmall hn hlen
 intro h' tk acc hk hle hacc
 show aI _ _ (dS acc.toList.toArray >>= λv=>ret v) _ _ _
 unfold dS
 refine ae (cp ?_ (by show acc.toList.toArray.size<=sizeLine;simp only[Array.toArray_toList];rw[hacc.1,sizeLine_eq];exact hlen))
 refine ax ?_
 have e:acc.toList.toArray=acc:=by simp
 rw[e]
 exact h h' tk acc hk hle hacc
theorem rf{Q:Value->Shared->Prop}{r:Addr}{a b c:Int}{t u v:Tok}{n:Nat}(hh:A.handled=none)(hr:IsRange s.heap r a b c t u v)(hsmall:nG a b c=true)
  (hn:dX a b c=n) (hlen:n<=2 ^ 24)
  (h : ∀ (h':Heap) (tk:Nat) (acc:Array Value),(∀ b o,s.heap.get? b=some o->h'.get? b=some o)->s.heap.objs.size<=h'.objs.size->ItemsOf (fun i v => ∃ t,v = .int (a+i*c) t) acc n->Q (.ref h'.objs.size) { s with heap:=h'.push { cls := .type "tuple",data := .seq acc },toks:=tk }) :
  aI (model prog w) A (call (.type "tuple") [.ref r]) Q E s:=by
 refine callType_codes (Q₁:=fun obj s₁=>s₁.TypeIs obj "tuple"/\Q obj s₁) F.called_tuple (F.typeCall_tuple_1 _) F.entry_object_init
  (mZ hh hr hsmall hn hlen λh' tk acc hk hle hacc=>⟨⟨_,aC _ rfl,rfl⟩,h h' tk acc hk hle hacc⟩) λobj s₁ h₁ =>?_
 exact⟨h₁.1,F.args_object_init_2 obj _,object_init_meets F.called_tuple.init.lookup F.called_tuple.made (by decide) prog w A.in1 _ s₁ ⟨h₁.1,rfl,h₁.2⟩⟩
end
theorem mO {X:Cx} (hc:X.calm=true):iq X (.type "tuple") (fun xs H Q => ∃ r lo hi,xs = [.ref r]/\H r=some (.rng lo hi)/\(-(2 ^ 62)<=lo/\lo < 2 ^ 62 /\ -(2 ^ 62)<=hi/\hi < 2 ^ 62)/\(hi - lo).toNat<=sizeLine /\ ∀ l,H l=none->Q (.ref l) (upd H l (.tup (lZ lo (hi - lo).toNat)))):=by
 intro pins s σ H xs us Q I rs h
 obtain⟨r,lo,hi,rfl,hr,⟨h1,h2,h3,h4⟩,hz,q⟩:=h
 cases rs with
 | cons r1 rr=>
   cases rr
   cases (show _=bj r from r1)
   obtain⟨t,u,v,e⟩:=I.hok r _ hr
   have hn:dX lo hi 1=((hi - lo).toNat:Nat):=by rw[rangeSize_one];split <;> omega
   refine rf (n:=(hi - lo).toNat) (I.ok.hd hc) e (small_one h1 h2 h3 h4) hn (by rw[sizeLine_eq]at hz;exact hz) λh' tk acc hk hle hacc =>?_
   obtain⟨hsz,hit⟩:=hacc
   refine⟨.ref h'.objs.size,_,I.laid (t':=tk) (o:= .tup (lZ lo (hi - lo).toNat)) (λb o e=>ar _ (hk b o e)) hle ?_,rfl,q _ (I.hok.fresh hle)⟩
   refine⟨by rw[lZ,ak,bB];exact hz,acc.toList,?_,Cm _ _,_,aC _ rfl,rfl⟩
   refine yi (by rw[lZ,ak,bB,cK,hsz]) λi x w h5 h6 =>?_
   have hlt:i<(hi - lo).toNat:=by
    have:=(ah.mp h5).1
    rwa[lZ,ak,bB]at this
   have hx:(lZ lo (hi - lo).toNat)[i]? = some (.int (lo+i)):=by simp[lZ,hlt]
   rw[hx]at h5;cases h5
   obtain⟨t',e'⟩:=hit i w (by simpa using h6)
   exact⟨t',by rw[e'];simp⟩
section
variable {K:KX}{σ:St}{H:Hp}{Q:VK}
noncomputable def rTR:List V->Hp->VK->Prop:=λxs H Q =>∃r lo hi,xs = [.ref r]/\H r=some (.rng lo hi)/\(-(2 ^ 62)<=lo/\lo<2 ^ 62 /\ -(2 ^ 62)<=hi/\hi<2 ^ 62)/\(hi - lo).toNat<=sizeLine /\ ∀l,H l=none->Q (.ref l) (upd H l (.tup (lZ lo (hi - lo).toNat)))
theorem zy{μ:List Addr}{S1:Sto}{i j:Int}{r:Addr}(hr1:HR K μ S1 H)(ho:okR i/\okR j)(hz:(bh i (j - i).toNat).length<=big)(k:Aft K μ H (.tup (bh i (j - i).toNat)) S1 Q)(hrn:H r=none):rTR [.ref r] (upd H r (.rng i j)) Q:=by
 refine⟨r,i,j,rfl,dh,⟨ho.1.1,ho.1.2,ho.2.1,ho.2.2⟩,?_,λl hl =>?_⟩
 ·unfold bh big at hz;rw[ak,bB]at hz;rw[sizeLine_eq];exact hz
 ·have k2:=k.mono (Pre.refl _) (bq.new hrn (o:= .rng i j))
  exact k2 μ _ _ (Pre.refl _) (bq.new hl) ((hr1.rng hrn).tup hl) (ll dh (RUs.mono (bq.new hl) (Pre.refl _) _ _ (Bv _ _)))
theorem Jk{a:MA}(h:tM K (j5 (iR1 a)) σ H Q):tCB rTR (uU (J7 (tMA K a)) AF) σ H Q:=by
 obtain⟨μ,S,ρ,u,S',hr,er,e,k⟩:=h
 obtain⟨src,S1,e1,e⟩:=be e
 obtain⟨xs,S2,e2,e1⟩:=be e1
 refine⟨μ,S,ρ,xs,S2,hr,er,e2,λμ1 vs H1 p1 k1 hr1 rs =>?_⟩
 split at e1
 ·rename_i j
  split at e1
  ·rename_i hj
   cases e1
   simp only at e
   split at e
   ·rename_i hz
    cases e
    obtain⟨v,r,rfl,rx,rn⟩:=rs.inv
    rw[rn.nil_inv,cZ rx]
    refine⟨j,rfl,hj.1,hj.2,λr hrn =>?_⟩
    have ez:(j - 0).toNat=j.toNat:=by simp
    exact zy (i:=0) hr1 ⟨⟨by decide,by decide⟩,hj⟩ (by rw[ez];exact hz) (by rw[ez];exact k.mono p1 k1) hrn
   ·cases e
  ·cases e1
 ·cases e1
theorem Ji{a:MA}(h:tM K (j5 (iR2 a)) σ H Q):tCB rTR (uU (EL (tMA K a)) AF) σ H Q:=by
 obtain⟨μ,S,ρ,u,S',hr,er,e,k⟩:=h
 obtain⟨src,S1,e1,e⟩:=be e
 obtain⟨xs,S2,e2,e1⟩:=be e1
 refine⟨μ,S,ρ,xs,S2,hr,er,e2,λμ1 vs H1 p1 k1 hr1 rs =>?_⟩
 split at e1
 ·rename_i i j
  split at e1
  ·rename_i hj
   cases e1
   simp only at e
   split at e
   ·rename_i hz
    cases e
    obtain⟨v,r,rfl,rx,rs⟩:=rs.inv
    obtain⟨w,r,rfl,ry,rn⟩:=rs.inv
    rw[rn.nil_inv,cZ rx,cZ ry]
    exact⟨i,j,rfl,⟨hj.1.1,hj.1.2,hj.2.1,hj.2.2⟩,λr hrn=>zy hr1 hj hz (k.mono p1 k1) hrn⟩
   ·cases e
  ·cases e1
 ·cases e1
end
end
end _G
end
section
namespace _G
open PySem PySem.Spec _L
open PyProof.Rows hiding St
section
noncomputable def sD(i:Nat)(f:Addr)(φ:MF)(a:MA):ME:=λρ S=>match ρ[i]? with
 | some (some (.obj g))=>if g=f then mFn φ a ρ S else none
 | _=>none
noncomputable def pk(is:List Nat)(ρ:Rho):Option (List U):=cH (λi=>(ρ[i]?).bind id) is
noncomputable def tW(np:Nat)(ml:ME)(cs:List U):MF:=λus S=>if us.length=np then ml (us.map some++cs.map some) S else none
noncomputable def o9(F:Addr->MF->MF)(np:Nat)(is:List Nat)(ml:ME)(ma:ME):ME:=λρ S=>bnd (ma ρ S) λx S1=>(pk is ρ).bind λcs=>
 open Classical in
 if h: ∃r,∀f,F f (tW np ml cs) [x,.obj f] S1=some r then some h.choose else none
theorem GA{F:Addr->MF->MF}{np:Nat}{is:List Nat}{ml ma:ME}{ρ:Rho}{S S1:Sto}{x:U}{cs:List U}{r:U×Sto}(ha:ma ρ S=some (x,S1))(hc:pk is ρ=some cs)(h: ∀f,F f (tW np ml cs) [x,.obj f] S1=some r):
  o9 F np is ml ma ρ S=some r:=by
 have hx: ∃r,∀f,F f (tW np ml cs) [x,.obj f] S1=some r:=⟨r,h⟩
 unfold o9
 rw[ha]
 simp only[aE,hc,ag]
 rw[dif_pos hx]
 have e:=(hx.choose_spec 0).symm.trans (h 0)
 exact e
end
structure Lam(M:Mo)(f:Addr)(k:Nat)(ps:List Str)(φ:MF):Prop where
 ex: ∃fd:FuncData,((∃(oc:Value) (od:Option Addr) (sl:Array (Option Value)),M.base.get? f=some ⟨oc,od,.func fd,sl⟩)\/cW M.K (.ref f)=true)/\Binds M.K fd ps []/\jB M.P M.w M.K M.mg M.base CX0 k f fd ps (spM M.K φ)
section
variable {M:Mo}{X:Cx}{k:Nat}{N:List Str}{ns:List (Str×NameKind)}{e:Expr}{es:List Expr}{mas:MA}{x:Str}{p1 pos:Pos}
theorem HD{f:Addr}{φ:MF}{ps:List Str}{k':Nat}(S:Sc M X k N ns)(F:Lam M f k' ps φ)(hk:k'<=k)(i:Nat)(hi:N[i]? = some x)(hv:vL ns x=true)(ha:PA X (e::es) (tMA M.K mas))
  (hd:(x == ("__debug__":Str))=false) (hcd:(x == ("__classdict__":Str))=false)
  (he:starEach (e::es) X.env=(false,eval e X.env)::starEach es X.env) (hpl:(backTo pos (starEach es X.env)).any (·.1)=false):
  PE X (.Call (.Name x p1) (e::es) [] pos) (tM M.K (sD i f φ mas)):=by
 obtain⟨fd,hf,hb,F⟩:=F.ex
 rw[<- S.hP,<- S.hw,<- S.hK,<- S.hm,<- S.hb]at F
 rw[<- S.hb,<- S.hK]at hf
 rw[<- S.hK]at hb
 intro pins s σ H Q I h
 obtain⟨μ,S0,ρ,u,S',hr,er,q,aft⟩:=h
 unfold sD at q
 split at q
 rotate_left
 ·cases q
 rename_i g hg
 split at q
 rotate_left
 ·cases q
 rename_i hgf
 subst hgf
 obtain⟨v,hσ,rv⟩:=er.get i _ hg
 have hv':v = .ref g:=by simpa only [RU]using rv
 subst hv'
 refine ek (thn (GO (X:=X) (by rw[S.hN];exact hi) (S.vis hv) hd hcd pins s σ H (λv H1=>v = .ref g/\H1=H) I ⟨_,hσ,rfl,rfl⟩) λw s1 ⟨v,H1,I1,r1,e1,e2⟩ =>?_)
 subst e1;subst e2
 obtain rfl:w=bj g:=r1
 have hc:BX (spM M.K φ) [] E0 (tMA M.K mas) σ H1 Q:=Gm ⟨μ,S0,ρ,u,S',hr,er,q,aft⟩
 have hA:=ha pos pins s1 σ H1 _ I1 hc
 rcases hf with⟨oc,od,sl,hf⟩ |hf
 rotate_left
 ·exact rN (h₀:=X.base) I1.ok.mod.kin hf (thn hA λus s2 ⟨vs,H2,I2,r2,q2⟩=>⟨I2.kIn,ye F (S.room.mono hk) hb .nil BO I2 r2 q2⟩) he hpl
 rw[he]
 refine PySem.W.callWith_of (P:=λh=>h.get? g=some ⟨oc,od,.func fd,sl⟩) (by show((false||(backTo pos (starEach es X.env)).any (·.1))||false)=false;rw[hpl];rfl)
  (λh q=>⟨.frame,.inl rfl,(PySem.W.Looks.ld (part:=none) q).andThen .now⟩) (qK ?_)
 rw[he]at hA
 refine thn hA λus s2 ⟨vs,H2,I2,r2,q2⟩=>⟨I2.bk g _ hf,?_⟩
 exact ye F (S.room.mono hk) hb .nil BO I2 r2 q2
end
end _G
end
section
namespace _G
open PySem PySem.Spec _L
open PySem.W (envX kla_fn kla_obj CodeHd tabObj)
open PyProof.Rows hiding St
structure ny(ps fs:List Str)(scope:Scope):Prop where
 kind:scope.kind = .function
 co:scope.isCoroutine=false
 gen:scope.isGenerator=false
 nd:(ps++fs).Nodup
 par: ∀p∈ps,scope.names.lookup p=some .local\/scope.names.lookup p=some .cell
 cel: ∀x∈scope.names,x.2 = .cell->scope.names.lookup x.1=some .cell
 fre: ∀y∈scope.names,y.2 = .free->y.1∈fs
 free: ∀y∈fs,scope.names.lookup y=some .free
theorem pb: ∀(names:List (Str×NameKind)) (n:Nat) (a b:List (Str×Addr)),cellsFrom n names (a++b)=cellsFrom n names a++b
 | [],_,_,_=>rfl
 | (x,k)::r,n,a,b=>by
   unfold cellsFrom
   cases k==cD with
   | true=>exact pb r (n+1) ((x,n)::a) b
   | false=>exact pb r n a b
theorem Cw(names:List (Str×NameKind))(n:Nat)(b:List (Str×Addr)):cellsFrom n names b=cellsFrom n names []++b:=pb names n [] b
theorem qV: ∀(names:List (Str×NameKind)) (n:Nat) (a:List (Str×Addr)) {x:Str}{c:Addr},(x,c)∈cellsFrom n names a->(x,cD)∈names\/(x,c)∈a
 | [],_,_,_,_,h => .inr h
 | (y,k)::r,n,a,x,c,h=>by
   unfold cellsFrom at h
   split at h
   ·rename_i hk
    rcases qV r (n+1) _ h with h |h
    ·exact .inl (aw _ h)
    ·rcases aK.mp h with e |h
     ·cases e;rw[eq_of_beq hk];exact .inl aU
     ·exact .inr h
   ·exact(qV r n a h).imp (aw _) id
theorem gO{α:Type}{x:Str}{c:α}: ∀{a b:List (Str×α)},a.lookup x=some c->(a++b).lookup x=some c
 | a,b,h=>by rw[iE,h];rfl
theorem jj{α:Type}{x:Str}: ∀{a b:List (Str×α)},a.lookup x=none->(a++b).lookup x=b.lookup x
 | a,b,h=>by rw[iE,h];rfl
theorem iM{α:Type}{x:Str}{c:α}{a b:List (Str×α)}(h:(a++b).lookup x=some c):a.lookup x=some c\/(a.lookup x=none/\b.lookup x=some c):=by
 cases q:a.lookup x with
 | some d=>rw[gO q]at h;exact .inl h
 | none=>rw[jj q]at h;exact .inr ⟨rfl,h⟩
theorem t8{f g:Str×Value->PUnit->Sem (ForInStep PUnit)}: ∀{l:List (Str×Value)},(∀x∈l,∀u,f x u=g x u)->forIn l sY f=forIn l sY g
 | [],_=>rfl
 | x::l,h=>by
   rw[kg,kg,h x aU]
   have ih:=t8 (l:=l) λy hy=>h y (aw _ hy)
   congr 1
   funext r
   cases r with
   | done u=>rfl
   | yield u=>exact ih
theorem Ax{env:Env}{cs:List (Str×Addr)}{x:Str}{v:Value}(h:env.kindOf x=some .local\/env.cells.lookup x=cs.lookup x):storeName env x v=storeName { env with cells:=cs } x v:=by
 rcases h with h |h
 ·have h':Env.kindOf { env with cells:=cs } x=some .local:=h
  unfold storeName
  rw[h,h']
  rfl
 ·have e:cellOf env x=cellOf { env with cells:=cs } x:=by unfold cellOf;rw[h]
  unfold storeName
  rw[e]
  rfl
theorem HQ{M:Model}{A:Around}{E:Value->Shared->Prop}{s:Shared}{scope:Scope}{g:Addr}{cl:List (Str×Addr)}{binds:List (Str×Value)}{qual:Str}{func:Option Addr}{code:Value}{bt:Addr}{Q:Env->Shared->Prop}(hk:scope.kind = .function)
  (hb: ∀x∈binds,scope.names.lookup x.1=some .local\/scope.names.lookup x.1=some .cell)
  (hQ: ∀s',InCallC s s.heap.objs.size (bindL (λx=>scope.names.lookup x) binds λ_=>none) (cellsFrom (s.heap.objs.size+1) scope.names []) (bindC (λx=>scope.names.lookup x) binds λ_=>none) s' ->
   Q (newEnv scope s.heap.objs.size g (cellsFrom (s.heap.objs.size+1) scope.names []++cl) qual func code none bt) s'):
  aI M A (newFunctionEnv scope g cl binds qual func code none bt) Q E s:=by
 have ok:CellsOk (pushCells (s.heap.push { cls := .type "frame",data := .dict #[] }) scope.names) (s.heap.objs.size+1) (cellsFrom (s.heap.push { cls := .type "frame",data := .dict #[] }).objs.size scope.names []):=
  cellsFrom_ok scope.names _ _ [] ⟨λ_ _ z=>(nomatch z),hX⟩ (by rw[bA];exact aq _)
 rw[bA]at ok
 have inC:InCallC s s.heap.objs.size (fun _=>none) (cellsFrom (s.heap.objs.size+1) scope.names []) (fun _=>none) { s with heap:=pushCells (s.heap.push { cls := .type "frame",data := .dict #[] }) scope.names }:=
  ⟨⟨⟨_,s.toks,rfl⟩,(Heap.Ns.new s.heap (.type "frame")).keeps fun b o e=>pushCells_keeps _ _ b o e,fun b o e=>pushCells_keeps _ _ b o (ar _ e),aq _⟩,
   λn c hc=>(ok.empty n c (mem_of_lookup hc)).1,ok.apart,λn c hm=>Nat.lt_of_succ_le (ok.empty n c hm).2⟩
 simp only[newFunctionEnv,Option.isSome_none,d4,if_false]
 refine ae (wpAny_alloc (ae (wpAny_layCells _ (λnm kd cs=>by cases q:kd==cD <;> simp[q]) _ _ _ _ ?_)))
 rw [show ({ s with heap:=s.heap.push { cls := .type "frame",data := .dict #[] } }:Shared).heap.objs.size=s.heap.objs.size+1 from bA ..,Cw]
 refine ae ?_
 have same: ∀x∈binds,∀v:Value,storeName (newEnv scope s.heap.objs.size g (cellsFrom (s.heap.objs.size+1) scope.names []++cl) qual func code none bt) x.1 v=storeName (newEnv scope s.heap.objs.size g (cellsFrom (s.heap.objs.size+1) scope.names []) qual func code none bt) x.1 v:=λx hx v=>by
  refine Ax (env:=newEnv scope s.heap.objs.size g (cellsFrom (s.heap.objs.size+1) scope.names []++cl) qual func code none bt) ?_
  rcases hb x hx with h |h
  ·exact .inl h
  ·obtain⟨c,hc⟩:=jG (n:=s.heap.objs.size+1) h
   exact .inr (by rw[hc];exact gO hc)
 show aI M A (forIn binds sY λx _=>(do storeName (newEnv scope s.heap.objs.size g (cellsFrom (s.heap.objs.size+1) scope.names []++cl) qual func code none bt) x.1 x.2;pure (dO sY))) _ E _
 rw[t8 (g:=λx _=>(do storeName (newEnv scope s.heap.objs.size g (cellsFrom (s.heap.objs.size+1) scope.names []) qual func code none bt) x.1 x.2;pure (dO sY))) λx hx u=>by rw[same x hx]]
 refine wpAny_bindParams (s₀:=s) (env:=newEnv scope s.heap.objs.size g (cellsFrom (s.heap.objs.size+1) scope.names []) qual func code none bt) _ (λ_ _ _=>rfl) hk binds _ _ _ _ inC (λx hx =>?_) λs' x=>ax (hQ s' x)
 rcases hb x hx with h |h
 ·exact .inl h
 ·obtain⟨c,hc⟩:=jG (n:=s.heap.objs.size+1) h
  exact .inr ⟨h,by show((cellsFrom (s.heap.objs.size+1) scope.names []).lookup x.1).isSome=true;rw[hc];rfl⟩
noncomputable def oI(base:Heap)(cl:List (Str×Addr)):List Str->List V->Prop
 | [],[]=>True
 | y::fs,v::vs=>(∃c o u,cl.lookup y=some c/\base.get? c=some o/\o.data = .cell (some u)/\RelV v u)/\oI base cl fs vs
 | _,_=>False
theorem oI.len{base:Heap}{cl:List (Str×Addr)}: ∀{fs:List Str}{vs:List V},oI base cl fs vs->fs.length=vs.length
 | [],[],_=>rfl
 | _::_,_::_,h=>by simp[oI.len h.2]
 | [],_::_,h=>h.elim
 | _::_,[],h=>h.elim
theorem oI.get{base:Heap}{cl:List (Str×Addr)}: ∀{fs:List Str}{vs:List V}{i:Nat}{y:Str}{v:V},oI base cl fs vs->fs[i]? = some y->vs[i]? = some v -> ∃c o u,cl.lookup y=some c/\base.get? c=some o/\o.data = .cell (some u)/\RelV v u
 | [],_,i,y,v,_,h1,_=>by simp at h1
 | _::_,[],i,y,v,h,_,_=>h.elim
 | _::_,_::_,0,y,v,h,h1,h2=>by
   simp at h1 h2;subst h1;subst h2
   exact h.1
 | _::_,_::_,i+1,y,v,h,h1,h2=>oI.get (i:=i) h.2 (by simpa using h1) (by simpa using h2)
noncomputable def xJ(qual:Str)(scope:Scope)(L f:Addr)(cd:Value)(cl:List (Str×Addr)):Env:=envX qual scope L f cd (cellsFrom (L+1) scope.names []++cl)
noncomputable def FK(P:Program)(w:World)(K:av)(mg:Str->Option Value)(base:Heap)(N:List Str)(qual:Str)(scope:Scope)(f:Addr)(cd:Value)(cl:List (Str×Addr))(A:Around)(outer:List Env)(s:Shared)(H:Hp):Cx where
 prog:=P
 w:=w
 K:=K
 mg:=mg
 base:=base
 A:=A.deeper (xJ qual scope s.heap.objs.size f cd cl)
 N:=N
 s₀:=s
 H₀:=H
 env:=xJ qual scope s.heap.objs.size f cd cl
 outer:=outer
 stack:=xJ qual scope s.heap.objs.size f cd cl::outer
 ex:= []
 calm:=true
 fn:=λx=>scope.names.lookup x==some .cell
 pn:= []
 xe:=λ_ _=>False
theorem Im{P:Program}{w:World}{K:av}{mg:Str->Option Value}{base:Heap}{ps fs:List Str}{qual:Str}{scope:Scope}{f:Addr}{cd:Value}{cl:List (Str×Addr)}{A:Around}{outer:List Env}{s s1:Shared}{H:Hp}{us:List Value}{vs cv:List V}
  (S:ny ps fs scope) (hd:A.handled=none) (e0:Di P w K mg base A outer s H) (hl:vs.length=ps.length) (r:cy vs us) (C:oI base cl fs cv)
  (hcl: ∀y c,cl.lookup y=some c -> ∃o v,base.get? c=some o/\o.data = .cell v) (inj: ∀x y c,cl.lookup x=some c->cl.lookup y=some c->x=y)
  (x:InCallC s s.heap.objs.size (bindL (λy=>scope.names.lookup y) (ps.zip us) λ_=>none) (cellsFrom (s.heap.objs.size+1) scope.names []) (bindC (λy=>scope.names.lookup y) (ps.zip us) λ_=>none) s1):
  Inv (FK P w K mg base (ps++fs) qual scope f cd cl A outer s H) [] (vs.map some++cv.map some) H s1:=by
 obtain⟨h1,tk,rfl,hk⟩:=x.done
 have ndP:ps.Nodup:=(eA.mp S.nd).1
 have newc: ∀y c,(cellsFrom (s.heap.objs.size+1) scope.names []).lookup y=some c->scope.names.lookup y=some .cell/\s.heap.objs.size<c:=λy c e=>by
  have m:=mem_of_lookup e
  rcases qV _ _ _ m with z |z
  ·exact⟨S.cel _ z rfl,x.above y c m⟩
  ·simp at z
 have oldc: ∀y c,cl.lookup y=some c->c<s.heap.objs.size/\(∃v,h1.IsCell c v)/\H c=none:=λy c e=>by
  obtain⟨o,v,e1,e2⟩:=hcl y c e
  exact⟨aG (e0.bs c o e1).1,⟨v,o,hk _ _ (e0.bs c o e1).1,e2⟩,(e0.bs c o e1).2⟩
 have frc: ∀y∈fs,(cellsFrom (s.heap.objs.size+1) scope.names []).lookup y=none:=λy hy=>by
  cases q:(cellsFrom (s.heap.objs.size+1) scope.names []).lookup y with
  | none=>rfl
  | some c=>
    have:=(newc y c q).1
    rw[S.free y hy]at this;cases this
 have noA: ∀b:Addr,b∉(FK P w K mg base (ps++fs) qual scope f cd cl A outer s H).ex:=λb z=>absurd (show b∈([]:List Addr) from z) (by simp)
 refine⟨⟨e0.mod,S.kind,rfl,rfl,aq _,λy z c e1 e2 =>?_,λy hy =>?_,λy c hy e =>?_,λ_=>hd,DV e0.frames,.inr ⟨rfl,rfl⟩,λb z=>absurd z (noA b),e0.bs,e0.bsz,λb _ _=>noA b,λb z=>absurd z (noA b),e0.funs,e0.frf⟩,
  rfl,e0.bare,Un.kept hk,⟨_,x.toInCall.ns,λi y v h2 h3 h4 =>?_⟩,λy c h =>?_,e0.hok.fresh (aq _),λy c h =>?_,λp hp=>absurd (show p∈([]:List (Addr×Obj)) from hp) (by simp),e0.hok.kept hk,?_⟩
 ·rcases iM e1 with e1 | ⟨_,e1⟩
  ·rcases iM e2 with e2 | ⟨_,e2⟩
   ·exact name_of_addr x.apart (mem_of_lookup e1) (mem_of_lookup e2)
   ·exact absurd (cR (newc y c e1).2 (oldc z c e2).1) (cf _)
  ·rcases iM e2 with e2 | ⟨_,e2⟩
   ·exact absurd (cR (newc z c e2).2 (oldc y c e1).1) (cf _)
   ·exact inj y z c e1 e2
 ·have hy:scope.names.lookup y=some .cell\/scope.names.lookup y=some .free:=hy
  rcases hy with hy |hy
  ·obtain⟨c,hc⟩:=jG (n:=s.heap.objs.size+1) hy
   exact⟨c,gO hc⟩
  ·have hf:=S.fre _ (mem_of_lookup hy) rfl
   obtain⟨i,hi⟩:=List.getElem?_of_mem hf
   have hi2:i<cv.length:=by rw[<- C.len];exact(ah.mp hi).1
   obtain⟨c,o,u,e,_⟩:=C.get hi (bw hi2)
   exact⟨c,(jj (frc y hf)).trans e⟩
 ·rcases iM e with e | ⟨_,e⟩
  ·exact ba (newc y c e).2
  ·have hy':scope.names.lookup y=some .cell:=eq_of_beq hy
   obtain⟨c',hc'⟩:=jG (n:=s.heap.objs.size+1) hy'
   rename_i z
   rw[hc']at z;cases z
 ·have hN:(ps++fs)[i]? = some y:=h2
  by_cases hi:i<ps.length
  ·rw[aS hi]at hN
   rw[aS (by simpa [hl]using hi),bO]at h3
   cases e:vs[i]? with
   | none=>rw[e]at h3;cases h3
   | some a=>
     rw[e]at h3;cases h3
     obtain⟨u,hu,rv⟩:=r.get e
     refine⟨u,rv,?_⟩
     rcases S.par y (cY hN) with kd |kd
     ·exact .inl ⟨kd,qU ndP hN hu kd⟩
     ·obtain⟨c,hc⟩:=jG (n:=s.heap.objs.size+1) kd
      refine .inr ⟨.inl kd,c,gO hc,?_⟩
      have z:=x.cell y c hc
      rw[qZ ndP hN hu (by show scope.names.lookup y≠_;rw[kd];decide)]at z
      exact z
  ·rw[az (by exact bX (by assumption))]at hN
   rw[az (by simp;omega),bO]at h3
   simp only[ak,hl]at h3
   cases e:cv[i - ps.length]? with
   | none=>rw[e]at h3;cases h3
   | some a=>
     rw[e]at h3;cases h3
     have hf:=cY hN
     obtain⟨c,o,u,e1,e2,e3,e4⟩:=C.get hN e
     exact⟨u,e4,.inr ⟨.inr (S.free y hf),c,(jj (frc y hf)).trans e1,o,hk _ _ (e0.bs c o e2).1,e3⟩⟩
 ·rcases iM h with e | ⟨_,e⟩
  ·exact⟨_,x.cell y c e⟩
  ·exact(oldc y c e).2.1
 ·rcases iM h with e | ⟨_,e⟩
  ·exact e0.hok.fresh (ba (newc y c e).2)
  ·exact(oldc y c e).2.2
 ·show(vs.map some++cv.map some).length=(ps++fs).length
  simp[hl,C.len]
theorem MP{M:Mo}(h0:M.mkr=none){name qual:Str}{params:Arguments}{body:Expr}{scope:Scope}{cl:List (Str×Addr)}{pm ctv:Value}{c f:Addr}{oc:Obj}{ws:Array Value}{t:Tok}{ps fs:List Str}{k:Nat}{ml:ME}{od:Option Addr}{fc:Value}{fsl:Array (Option Value)}
  (hf:M.base.get? f=some ⟨fc,od,.func (kla_fn name qual params body scope cl pm (.ref c) ctv),fsl⟩) (hc:(c,oc)∈M.K.cds) (hoc:oc.data = .fields ws) (hq:ws[1]? = some (.str qual t))
  (S:ny ps fs scope) (C:oI M.base cl fs M.K.capv) (hcl: ∀y c,cl.lookup y=some c -> ∃o v,M.base.get? c=some o/\o.data = .cell v) (inj: ∀x y c,cl.lookup x=some c->cl.lookup y=some c->x=y)
  (hb: ∀X,Sc M X k (ps++fs) scope.names->PE X body (tM M.K ml)):
  jB M.P M.w M.K M.mg M.base CX0 (k+1) f (kla_fn name qual params body scope cl pm (.ref c) ctv) ps (spM M.K (tW ps.length ml M.K.caps)):=by
 have len: ∀vs H Q E,spM M.K (tW ps.length ml M.K.caps) vs H Q E->vs.length=ps.length:=λvs H Q E h=>by
  obtain⟨μ,S',us,u,S'',hr,rs,e,_⟩:=h
  unfold tW at e
  split at e
  ·rename_i hl;rw[<- rs.len];exact hl
  ·cases e
 refine⟨len,λA outer s H args us vs Q E hr e0 hbd r hsp =>?_⟩
 have hl:=len _ _ _ _ hsp
 obtain⟨μ,S1,zs,u,S2,hR,rs,e,ka⟩:=hsp
 have hco:s.heap.get? c=some oc:=(e0.hok c _ (hR.ext.cds _ hc)).1
 have lim:s.heap.NoLimit:=e0.mod.nolimit.keeps λb o e=>(e0.bs b o e).1
 refine PySem.W.kla_callFunE hr.depth (e0.bs f _ hf).1 rfl S.co S.gen rfl ⟨c,oc,ws,t,rfl,hco,hoc,hq⟩ (hbd _ _ _ _ ?_)
 refine HQ S.kind (λx hx=>S.par _ (pE hx).1) λs1 x=>⟨lim.keeps x.toInCall.keep,?_⟩
 show md _ _ (.expr body (xJ qual scope s.heap.objs.size f (.ref c) cl)) _ _
 have I:=Im (qual:=qual) (f:=f) (cd:= .ref c) S hr.hd e0 hl r C hcl inj x
 have SS:Sc M (FK M.P M.w M.K M.mg M.base (ps++fs) qual scope f (.ref c) cl A outer s H) k (ps++fs) scope.names:=
  ⟨rfl,rfl,rfl,rfl,rfl,rfl,S.nd,rfl,λ_ h=>h,λy h=>⟨h,by show(scope.names.lookup y==some .cell)=true;rw[h];rfl⟩,λ_ h => .inr h,λ_ h=>h,hr.deeper _,vq,λc q h=>by rw[h0]at h;cases h⟩
 unfold tW at e
 split at e
 rotate_left
 ·cases e
 have er:ER H μ (zs.map some++M.K.caps.map some) (vs.map some++M.K.capv.map some):=by
  have all:=rs.append hR.ext.cap
  refine⟨by simp[rs.len,hR.ext.cap.len],λi w hw =>?_⟩
  rw[<- cj,bO]at hw
  cases q:(zs++M.K.caps)[i]? with
  | none=>rw[q]at hw;cases hw
  | some w'=>
    rw[q]at hw;cases hw
    obtain⟨v,hv,rv⟩:=all.get q
    exact⟨v,by rw[<- cj,bO,hv];rfl,rv⟩
 refine PySem.W.kla_codeExpr (dj (hb _ SS [] _ _ H Q I ⟨μ,S1,_,u,S2,hR,er,e,ka⟩) (λv s' hs =>?_) λe s' hs=>hs.elim)
 obtain⟨x,H',J,rv,q⟩:=hs
 exact⟨x,H',J.os,J.bare,J.base,J.hok,rv,q⟩
noncomputable def gZ(cells:List (Str×Addr)):List (Str×NameKind)->List (Str×Addr)->List (Str×Addr)
 | [],acc=>acc
 | (y,k)::r,acc=>if k==.free then(match cells.lookup y with
   | some c=>gZ cells r ((y,c)::acc)
   | none=>gZ cells r acc) else gZ cells r acc
theorem AW{env:Env}{scope:Scope}(h: ∀y∈scope.names,y.2 = .free -> ∃c,env.cells.lookup y.1=some c):closureFor scope env=pure (gZ env.cells scope.names []):=by
 unfold closureFor
 have key: ∀(l:List (Str×NameKind)) (acc:List (Str×Addr)),(∀y∈l,y.2 = .free -> ∃c,env.cells.lookup y.1=some c) ->
   (forIn l acc λ(x:Str×NameKind) (r:List (Str×Addr))=>if (x.2==aQ)=true then(do let a <- cellOf env x.1;pure (dO ((x.1,a)::r))) else pure (dO r):Sem _)=pure (gZ env.cells l acc):=by
  intro l
  induction l with
  | nil=>intro acc _;rfl
  | cons y l ih=>
    intro acc hh
    rw[kg]
    unfold gZ
    cases q:y.2==aQ with
    | true=>
      obtain⟨c,hc⟩:=hh y aU (eq_of_beq q)
      have e:cellOf env y.1=pure c:=by unfold cellOf;rw[hc]
      simp only[if_true,e,pure_bind,hc]
      exact ih _ λz hz=>hh z (aw _ hz)
    | false=>
      simp only[d4,if_false,pure_bind]
      exact ih _ λz hz=>hh z (aw _ hz)
 have e:=key scope.names [] h
 show(forIn scope.names ([]:List (Str×Addr)) _ >>= λr=>pure r:Sem _)=_
 rw[bind_pure]
 refine Eq.trans ?_ e
 congr 1
theorem nJ{cells:List (Str×Addr)}: ∀(l:List (Str×NameKind)) (acc:List (Str×Addr)) {y:Str}{c:Addr},(y,c)∈gZ cells l acc->(y,c)∈acc\/(cells.lookup y=some c/\(y,aQ)∈l)
 | [],acc,y,c,h => .inl h
 | (z,k)::l,acc,y,c,h=>by
   unfold gZ at h
   split at h
   ·rename_i hk
    split at h
    ·rename_i d hd
     rcases nJ l _ h with h |h
     ·rcases aK.mp h with e |h
      ·cases e;exact .inr ⟨hd,by rw[eq_of_beq hk];exact aU⟩
      ·exact .inl h
     ·exact .inr ⟨h.1,aw _ h.2⟩
    ·exact(nJ l _ h).imp id λh=>⟨h.1,aw _ h.2⟩
   ·exact(nJ l _ h).imp id λh=>⟨h.1,aw _ h.2⟩
theorem nQ{cells:List (Str×Addr)}: ∀(l:List (Str×NameKind)) (acc:List (Str×Addr)) {y:Str}{c:Addr},(y,c)∈acc->(y,c)∈gZ cells l acc
 | [],acc,y,c,h=>h
 | (z,k)::l,acc,y,c,h=>by
   unfold gZ
   split
   ·split
    ·exact nQ l _ (aw _ h)
    ·exact nQ l _ h
   ·exact nQ l _ h
theorem nW{cells:List (Str×Addr)}: ∀(l:List (Str×NameKind)) (acc:List (Str×Addr)) {y:Str}{c:Addr},(y,aQ)∈l->cells.lookup y=some c->(y,c)∈gZ cells l acc
 | [],acc,y,c,h,_=>by simp at h
 | (z,k)::l,acc,y,c,h,hc=>by
   unfold gZ
   rcases aK.mp h with e |h
   ·cases e
    simp only[beq_self_eq_true,if_true,hc]
    exact nQ l _ aU
   ·split
    ·split
     ·exact nW l _ h hc
     ·exact nW l _ h hc
    ·exact nW l _ h hc
theorem lookup_mem{α:Type}: ∀{l:List (Str×α)}{y:Str}{c:α},(y,c)∈l -> ∃d,l.lookup y=some d
 | [],y,c,h=>by simp at h
 | (z,d)::l,y,c,h=>by
   rw[aL]
   cases q:y==z with
   | true=>exact⟨d,rfl⟩
   | false=>
     rcases aK.mp h with e |h
     ·cases e;simp at q
     ·exact lookup_mem h
theorem ly{cells:List (Str×Addr)}{l:List (Str×NameKind)}{y:Str}{c:Addr}(h:(gZ cells l []).lookup y=some c):cells.lookup y=some c/\(y,aQ)∈l:=by
 rcases nJ l [] (b0 h) with h |h
 ·simp at h
 ·exact h
theorem Cz{cells:List (Str×Addr)}{l:List (Str×NameKind)}{y:Str}{c:Addr}(h:(y,aQ)∈l)(hc:cells.lookup y=some c):(gZ cells l []).lookup y=some c:=by
 obtain⟨d,hd⟩:=lookup_mem (nW l [] h hc)
 have:=(ly hd).1
 rw[hc]at this;cases this
 exact hd
end _G
end
section
namespace _G
open PySem PySem.Spec _L
open PySem.W (envX kla_fn kla_obj CodeHd tabObj)
open PyProof.Rows hiding St
theorem A4{pos:Pos}{a b:Int}{c cv:Value}(l:List Value)(h:TriplesOk l)(hc:codeAmong pos (l++[rawInt a,rawInt b,c])=some cv):codeAmong pos l=some cv\/cv=c:=by
 fun_induction TriplesOk l with
 | case1=>
   simp only[dW,rawInt,codeAmong]at hc
   split at hc
   ·cases hc;exact .inr rfl
   ·cases hc
 | case2 x t y u z rest ih=>
   simp only[List.cons_append,codeAmong]at hc ⊢
   split at hc
   ·rename_i q;rw[if_pos q];exact .inl hc
   ·rename_i q;rw[if_neg q];exact ih h hc
 | case3 l h1 h2=>exact h.elim
section
variable {K:KX}{H:Hp}{μ:List Addr}{S:Sto}
theorem HR.table{P c:Addr}{ps:Array Value}{oc:Obj}{ws:Array Value}{t:Tok}{a b:Int}{q:Str}(h:HR K μ S H)(hP:H P=some (.tbl ps))(hc:H c=none)(hoc:oc.data = .fields ws)(hq:ws[1]? = some (.str q t))(un: ∀r∈K.tabs,r.1=P->r.2=q):
  bq H (upd (upd H c (.frz oc fz)) P (.tbl (ps ++ #[rawInt a,rawInt b,.ref c])))/\HR K μ S (upd (upd H c (.frz oc fz)) P (.tbl (ps ++ #[rawInt a,rawInt b,.ref c]))):=by
 have stay: ∀x o,H x=some o->(∀ps,o≠.tbl ps)->upd (upd H c (.frz oc fz)) P (.tbl (ps ++ #[rawInt a,rawInt b,.ref c])) x=some o:=λx o e n=>by
  rw[bD (pY e hP (n ps)),bD (bG e hc)];exact e
 have kp:bq H (upd (upd H c (.frz oc fz)) P (.tbl (ps ++ #[rawInt a,rawInt b,.ref c]))):=⟨λx vs e=>stay x _ e (λ_ z=>nomatch z),λx o u e=>stay x _ e (λ_ z=>nomatch z)⟩
 have fr: ∀x o u,H x=some (.frz o u)->upd (upd H c (.frz oc fz)) P (.tbl (ps ++ #[rawInt a,rawInt b,.ref c])) x=some (.frz o u):=λx o u e=>stay x _ e λ_ z=>by cases z
 have hcP:c≠P:=(bG hP hc).symm
 refine⟨kp,h.len,h.inj,λm d x q1 q2=>(h.cell m d x q1 q2).mono kp (Pre.refl _) (λhd =>?_) λo u e=>fr x o u e,RUs.mono kp (Pre.refl _) _ _ h.ext.cap,λr hr=>fr _ _ _ (h.ext.cds r hr),λr hr =>?_⟩
 ·obtain⟨o,e,_,_,nb⟩:=(h.cell m d x q1 q2).has hd
  rw[stay x o e nb,e]
 ·obtain⟨ps',e,tr,al⟩:=h.ext.tab r hr
  by_cases hr':r.1=P
  ·rw[hr',hP]at e
   cases e
   refine⟨ps ++ #[rawInt a,rawInt b,.ref c],by rw[hr',dh],by rw[Ha];exact TriplesOk_snoc _ _ _ _ tr,λpos cv hcv =>?_⟩
   rw[Ha]at hcv
   rcases A4 _ tr hcv with z |z
   ·obtain⟨d,od,vs,t',e1,e2,e3,e4⟩:=al pos cv z
    exact⟨d,od,vs,t',e1,fr _ _ _ e2,e3,e4⟩
   ·exact⟨c,oc,ws,t,z,by rw[bD hcP,dh],hoc,by rw[un r hr hr'];exact hq⟩
  ·refine⟨ps',by rw[bD hr',bD (bG e hc)];exact e,tr,λpos cv hcv =>?_⟩
   obtain⟨d,od,vs,t',e1,e2,e3,e4⟩:=al pos cv hcv
   exact⟨d,od,vs,t',e1,fr _ _ _ e2,e3,e4⟩
end
section
variable {X:Cx}{pins:List (Addr×Obj)}{σ:St}{H:Hp}{s:Shared}
theorem Dx{P c:Addr}{ps more:Array Value}{oc ob:Obj}{h':Heap}{tk:Nat}(I:Inv X pins σ H s)(hP:H P=some (.tbl ps))(hx:Heap.ExtBut P s.heap h')(hge:s.heap.objs.size<=c)(hc:h'.get? c=some oc)(htb:h'.get? P=some (tabObj (ps++more))):
  Inv X pins σ (upd (upd H c (.frz oc fz)) P (.tbl (ps++more))) { s with heap:=h'.push ob,toks:=tk }:=by
 have hcn:H c=none:=I.hok.fresh hge
 have kp: ∀b o,b≠P->s.heap.get? b=some o->(h'.push ob).get? b=some o:=λb o n e=>ar _ (hx b o n e)
 have nP: ∀b,H b=none->b≠P:=λb n z=>by rw[z,hP]at n;cases n
 have stay: ∀x o,H x=some o->(∀ps,o≠.tbl ps)->upd (upd H c (.frz oc fz)) P (.tbl (ps++more)) x=some o:=λx o e n=>by
  rw[bD (pY e hP (n ps)),bD (bG e hcn)];exact e
 refine I.step (g':=s.gens) (d':=s.drawn) (ch:= []) (λ_ z=>nomatch z) (λb o _ _ _ e n=>kp b o (nP b n) e) (λb o _ _ _ e n=>⟨o.slots,kp b o (nP b n) e⟩)
  (λb o _ e n=>by rw[bD (nP b n),bD (aT (ai (aG e) hge))];exact n) (λb o _ e =>?_) (λb xs e=>stay b _ e λ_ z=>by cases z) (λb o u e=>stay b _ e λ_ z=>by cases z)
  (λb qs e =>?_) (λm hm =>?_) (λb u e =>?_) I.bare
 ·by_cases hb:b=P
  ·exact⟨_,by rw[hb];exact ar _ htb⟩
  ·exact⟨o,kp b o hb e⟩
 ·by_cases hb:b=P
  ·rw[hb,hP]at e
   cases e
   exact⟨more,by rw[hb,dh]⟩
  ·exact⟨#[],by rw[bD hb,bD (bG e hcn),e];simp⟩
 ·exact(hm.extBut hx (nP _ I.free)).push _
 ·by_cases hb:b=P
  ·rw[hb,dh]at e
   cases e
   rw[hb]
   exact ar _ htb
  ·rw[bD hb]at e
   by_cases hbc:b=c
   ·rw[hbc,dh]at e
    cases e
    rw[hbc]
    exact⟨ar _ hc,trivial,⟨_,ar _ hc⟩,λ_ _ _ _=>trivial⟩
   ·rw[bD hbc]at e
    refine(I.hok b u e).stay (λd v hd q=>kp d v ?_ q) (λd q=>stay d _ q λ_ z=>by cases z) λd xs q=>stay d _ q λ_ z=>by cases z
    rcases hd with z |z
    ·rw[z];exact hb
    ·exact pY z hP (by intro z;cases z)
noncomputable def baseOf(h:Heap)(H:Hp)(fr:List Addr):Heap:=PySem.W.hideAll (wa h H) fr
theorem jA{h:Heap}{H:Hp}{fr:List Addr}{b:Addr}{o:Obj}(e:h.get? b=some o)(n:H b=none)(hf:b∉fr):(baseOf h H fr).get? b=some o:=DU _ (ql e n) hf
theorem CY{h:Heap}{H:Hp}{fr:List Addr}{b:Addr}{o:Obj}(e:(baseOf h H fr).get? b=some o):h.get? b=some o/\H b=none:=Bn (GQ fr e)
theorem zl(I:Inv X pins σ H s): ∀b o,X.base.get? b=some o->(baseOf s.heap H (frs X.stack)).get? b=some o:=λb o e=>
 jA (I.bs b o e).1 (I.bs b o e).2 λz=>by
  have:=(I.stack.mem z).1
  rw[e]at this;cases this
theorem Dg(I:Inv X pins σ H s):Di X.prog X.w X.K X.mg (baseOf s.heap H (frs X.stack)) X.A X.stack s H:=by
 have k:=zl I
 obtain⟨m1,m2,⟨mb,m3,m4⟩,m5⟩:=I.ok.mod
 refine⟨I.ok.frames,⟨m1.keeps k,m2.keeps k,⟨mb,m3.keeps k,m4⟩,m5.keeps k⟩,λb o e=>CY e,by rw[baseOf,DO,wC];exact aq _,?_,I.stkFree,I.hok,I.bare⟩
 have all: ∀l:List Env,(∀b∈frs l,b∈frs X.stack)->s.heap.FunFrames X.base l->s.heap.FunFrames (baseOf s.heap H (frs X.stack)) l:=by
  intro l
  induction l with
  | nil=>intro _ _;trivial
  | cons env r ih=>
    intro hs hl
    obtain⟨hk,⟨L,o,hf,hn,ho,hd⟩,hr⟩:=hl
    have hL:L∈frs X.stack:=hs L (by unfold frs;rw[h9,hf];exact aU)
    exact⟨hk,⟨L,o,hf,DP _ hL,ho,hd⟩,ih (λb hb=>hs b (by unfold frs;rw[h9,hf];exact aw _ hb)) hr⟩
 exact all X.stack (λ_ h=>h) I.stack
end
end _G
end
section
namespace _G
open PySem PySem.Spec _L
open PySem.W (envX kla_fn kla_obj CodeHd tabObj)
open PyProof.Rows hiding St
noncomputable def gm (mg:Str->Option Value) (base:Heap):Prop := ∃ bm ob,mg "__builtins__"=some (.ref bm)/\bm≠builtinsNs/\base.get? bm=some ob/\ob.cls = .type "module"/\ob.dict=some builtinsNs/\ob.data = .plain
theorem gm.keeps{mg:Str->Option Value}{b b':Heap}(h:gm mg b)(k: ∀a o,b.get? a=some o->b'.get? a=some o):gm mg b':=
 let ⟨bm,ob,e1,e2,e3,r⟩:=h;⟨bm,ob,e1,e2,k _ _ e3,r⟩
structure Mkr(M:Mo)(c P:Addr)(q:Str):Prop where
 hd: ∀h:Heap,M.K.K.In h->CodeHd h c P
 bl:gm M.mg M.base
 gP:mainGlobals≠P
 mem:(P,q)∈M.K.tabs
 un: ∀r∈M.K.tabs,r.1=P->r.2=q
noncomputable def KX.to(K:KX)(caps:List U)(capv:List V)(cds:List (Addr×Obj)):KX:=⟨K.K,caps,capv,cds,K.tabs⟩
noncomputable def Mo.to(M:Mo)(caps:List U)(capv:List V)(cds:List (Addr×Obj))(base:Heap):Mo:=⟨M.P,M.w,M.K.to caps capv cds,M.mg,base,none⟩
structure FnC(M:Mo)(x:Str)(k:Nat)(ps:List Str)(F:Addr->MF->MF):Prop where
 ex: ∃(f:Addr) (fd:FuncData),M.mg x=some (.ref f)/\cW M.K (.ref f)=true/\Binds M.K fd ps [] /\
  ∀(caps:List U) (capv:List V) (cds:List (Addr×Obj)) (base:Heap) (g:Addr) (j:Nat) (lps:List Str) (φ:MF),gm M.mg base->k<=j->Lam (M.to caps capv cds base) g j lps φ ->
   jB M.P M.w M.K M.mg base CX0 (j+1) f fd ps (spM (M.K.to caps capv cds) (F g φ))
noncomputable def tL:List (List Str) := [["x"],["least"],["walk"],["i","j"],["one","other"],["group","steps"]]
noncomputable def xp(p:Arguments):Bool:=p.posonlyargs.isEmpty&&(p.vararg.isNone&&(p.kwonlyargs.isEmpty&&(p.kw_defaults.isEmpty&&(p.kwarg.isNone&&p.defaults.isEmpty))))
noncomputable def ue(p:Arguments):Option (List Str):=if xp p&&tL.contains (p.args.map (·.arg)) then some (p.args.map (·.arg)) else none
theorem Aj{p:Arguments}(h:xp p=true):p=⟨[],p.args,none,[],[],none,[]⟩:=by
 obtain⟨a,b,c,d,e,f,g⟩:=p
 unfold xp at h
 simp only[aA,List.isEmpty_iff,Option.isNone_iff_eq_none]at h
 obtain⟨rfl,rfl,rfl,rfl,rfl,rfl⟩:=h
 rfl
theorem y4{p:Arguments}{ps:List Str}(h:ue p=some ps): ∃as,p=⟨[],as,none,[],[],none,[]⟩/\as.map (·.arg)=ps/\ps∈tL:=by
 unfold ue at h
 split at h
 ·rename_i q
  cases h
  rw[aA]at q
  exact⟨p.args,Aj q.1,rfl,List.contains_iff_mem.mp q.2⟩
 ·cases h
theorem NR{as:List Arg}{x:Str}(e:as.map (·.arg) = [x]): ∃an ps,as = [⟨x,an,ps⟩]:=by
 obtain⟨a,l,rfl,h1,h2⟩:=Hb.mp e
 rw[List.map_eq_nil_iff.mp h2]
 obtain⟨n,an,ps⟩:=a
 cases h1
 exact⟨an,ps,rfl⟩
theorem QH{as:List Arg}{x y:Str}(e:as.map (·.arg) = [x,y]): ∃an ps an2 ps2,as = [⟨x,an,ps⟩,⟨y,an2,ps2⟩]:=by
 obtain⟨a,l,rfl,h1,h2⟩:=Hb.mp e
 obtain⟨an2,ps2,rfl⟩:=NR h2
 obtain⟨n,an,ps⟩:=a
 cases h1
 exact⟨an,ps,an2,ps2,rfl⟩
theorem Nv{α:Type}{us:List α}(h:us.length=1): ∃a,us = [a]:=List.length_eq_one_iff.mp h
theorem QE{α:Type}{us:List α}(h:us.length=2): ∃a b,us = [a,b]:=by
 cases us with
 | nil=>cases h
 | cons a us=>
   obtain⟨b,rfl⟩:=Nv (Ae h)
   exact⟨a,b,rfl⟩
theorem Fk{ps:List Str}{as:List Arg}(e:as.map (·.arg)=ps)(hk:ps∈tL){fd:FuncData}(hp:fd.params=⟨[],as,none,[],[],none,[]⟩)(hd:fd.defaults = .none){us:List Value}(hl:us.length=ps.length):bindArgs fd ⟨us,[]⟩=pure (ps.zip us):=by
 obtain⟨c1,c2,pr,c4,c5,df,c7,c8,c9,c10,c11,c12,c13⟩:=fd
 cases hp
 cases hd
 simp only[tL,aK,jy,or_false]at hk
 rcases hk with rfl |rfl |rfl |rfl |rfl |rfl
 all_goals first
  | (obtain⟨an,q,rfl⟩:=NR e;obtain⟨a,rfl⟩:=Nv hl;rfl)
  | (obtain⟨an,q,an2,q2,rfl⟩:=QH e;obtain⟨a,b,rfl⟩:=QE hl;rfl)
theorem Dd{p:Arguments}{ps:List Str}(h:ue p=some ps)(nd:ps.Nodup){K:av}{name qual:Str}{body:Expr}{scope:Scope}{cl:List (Str×Addr)}{pm cdv ct:Value}:Binds K (kla_fn name qual p body scope cl pm cdv ct) ps []:=by
 obtain⟨as,rfl,e,hk⟩:=y4 h
 exact .all λus hl=>Fk e hk rfl rfl hl
theorem FW{p:Arguments}{ps:List Str}(h:ue p=some ps)(env:Env):defaultsOf p env=([],[]):=by
 obtain⟨as,rfl,_⟩:=y4 h
 rfl
section
variable {M:Mo}{X:Cx}{k:Nat}{N:List Str}{ns:List (Str×NameKind)}{pins:List (Addr×Obj)}{σ:St}{H:Hp}{s:Shared}
theorem zO(S:Sc M X k N ns)(I:Inv X pins σ H s){y:Str}{c:Addr}(hy:ns.lookup y=some .cell)(hc:X.env.cells.lookup y=some c):c∉frs X.stack:=λz=>by
 have fn:=(S.cel y hy).2
 rcases aK.mp (I.stkSub c z) with e |hb
 ·exact I.cne y c hc e
 ·obtain⟨_,o,ho,_⟩:=I.ok.funs.mem hb
  exact absurd (ai (aG ho) (I.ok.cab y c fn hc)) (cf _)
theorem BG(S:Sc M X k N ns)(I:Inv X pins σ H s){μ:List Addr}{ρ:Rho}(er:ER H μ ρ σ){names:List (Str×NameKind)}: ∀{fs:List Str}{is:List Nat}{cs:List U},(∀y∈fs,ns.lookup y=some .cell/\(y,aQ)∈names) ->
  cH (λy=>N.findIdx? (· == y)) fs=some is->pk is ρ=some cs -> ∃cv,RUs H μ cs cv/\oI (baseOf s.heap H (frs X.stack)) (gZ X.env.cells names []) fs cv
 | [],is,cs,_,h1,h2=>by cases h1;cases h2;exact⟨[],.nil,trivial⟩
 | y::fs,is,cs,hf,h1,h2=>by
   unfold cH at h1
   cases e1:N.findIdx? (· == y) with
   | none=>rw[e1]at h1;cases h1
   | some i=>
     rw[e1]at h1
     simp only[ag]at h1
     cases e2:cH (λy=>N.findIdx? (· == y)) fs with
     | none=>rw[e2]at h1;cases h1
     | some is'=>
       rw[e2]at h1;cases h1
       unfold pk cH at h2
       cases e3:(ρ[i]?).bind id with
       | none=>rw[e3]at h2;cases h2
       | some u=>
         rw[e3]at h2
         simp only[ag]at h2
         cases e4:cH (λi=>(ρ[i]?).bind id) is' with
         | none=>rw[e4]at h2;cases h2
         | some cs'=>
           rw[e4]at h2;cases h2
           obtain⟨cv,r1,r2⟩:=BG S I er (λz hz=>hf z (aw _ hz)) e2 (show pk is' ρ=some cs' from e4)
           have hρ:ρ[i]? = some (some u):=by
            cases q:ρ[i]? with
            | none=>rw[q]at e3;cases e3
            | some o=>rw[q]at e3;cases o with
              | none=>cases e3
              | some w=>cases e3;rfl
           obtain⟨v,hσ,rv⟩:=er.get i u hρ
           obtain⟨hi,hy,_⟩:=dN.mp e1
           have hN:X.N[i]? = some y:=by rw[S.hN,bw hi,eq_of_beq hy]
           obtain⟨m,hn,hl⟩:=I.loc
           have hcl:=(S.cel y (hf y aU).1).1
           obtain⟨w,rw',l⟩:=hl i y v hN hσ (.inr (.inl hcl))
           rcases l with⟨hk,_⟩ | ⟨_,c,hc,o,ho,hd⟩
           ·have hk':X.env.scope.names.lookup y=some .local:=hk
            rw[hcl]at hk';cases hk'
           ·refine⟨v::cv,.cons rv r1,⟨c,o,w,Cz (hf y aU).2 hc,?_,hd,rw'⟩,r2⟩
            exact jA ho (I.freeC y c hc) (zO S I (hf y aU).1 hc)
theorem Hr{F:Addr->MF->MF}{f0:Addr}{fd0:FuncData}{gps ps fs:List Str}{is:List Nat}{k' j:Nat}{ml:ME}{params:Arguments}{body:Expr}{scope:Scope}{qual:Str}{pm ctv:Value}{c' f:Addr}{oc:Obj}{ws:Array Value}{t:Tok}
  {μ:List Addr}{S1 S':Sto}{ρ:Rho}{x u:U}{cs:List U}{v1:V}{u1:Value}{Q:VK}
  (S:Sc M X k N ns) (hB:gm M.mg M.base) (hj:k'<=j+1) (hk:j+2<=k) (hbd:Binds M.K fd0 gps [])
  (FF: ∀(caps:List U) (capv:List V) (cds:List (Addr×Obj)) (base:Heap) (g:Addr) (j:Nat) (lps:List Str) (φ:MF),gm M.mg base->k'<=j->Lam (M.to caps capv cds base) g j lps φ->jB M.P M.w M.K M.mg base CX0 (j+1) f0 fd0 gps (spM (M.K.to caps capv cds) (F g φ)))
  (hps:ue params=some ps) (LS:ny ps fs scope) (hfs: ∀y∈fs,ns.lookup y=some .cell/\(y,aQ)∈scope.names) (his:cH (λy=>N.findIdx? (· == y)) fs=some is)
  (hb: ∀(caps:List U) (capv:List V) (cds:List (Addr×Obj)) (base:Heap),gm M.mg base -> ∀(X':Cx),Sc (M.to caps capv cds base) X' j (ps++fs) scope.names->PE X' body (tM (M.K.to caps capv cds) ml))
  (I:Inv X pins σ H s) (hr:HR M.K μ S1 H) (er:ER H μ ρ σ) (hcs:pk is ρ=some cs) (spec:F f (tW ps.length ml cs) [x,.obj f] S1=some (u,S')) (rx:RU H μ x v1) (ru:RelV v1 u1) (aft:Aft M.K μ H u S' Q)
  (hf:s.heap.get? f=some (kla_obj "<lambda>" qual params body scope (gZ X.env.cells scope.names []) pm c' ctv)) (hfn:H f=none) (hff:f∉frs X.stack) (hc:H c'=some (.frz oc fz)) (hoc:oc.data = .fields ws) (hq:ws[1]? = some (.str qual t)) :
  aI (model X.prog X.w) X.A (call (.ref f0) [u1,.ref f]) (EP X pins σ Q) X.xe s:=by
 obtain⟨cv,rc,C⟩:=BG S I er hfs his hcs
 have hB':gm M.mg (baseOf s.heap H (frs X.stack)):=hB.keeps λa o e=>zl I a o (by rw[S.hb];exact e)
 have lam:Lam (M.to cs cv (M.K.cds++[(c',oc)]) (baseOf s.heap H (frs X.stack))) f (j+1) ps (tW ps.length ml cs):=by
  refine⟨_,.inl ⟨_,_,_,jA hf hfn hff⟩,Dd hps (eA.mp LS.nd).1,?_⟩
  refine MP (M:=M.to cs cv (M.K.cds++[(c',oc)]) (baseOf s.heap H (frs X.stack))) rfl (jA hf hfn hff) (aY _ aU) hoc hq LS C (λy c e =>?_) (λy z c e1 e2=>I.ok.inj y z c (ly e1).1 (ly e2).1) (hb _ _ _ _ hB')
  obtain⟨e1,e2⟩:=ly e
  obtain⟨v,o,ho,hd⟩:=I.cell y c e1
  exact⟨o,v,jA ho (I.freeC y c e1) (zO S I (hfs y (LS.fre _ e2 rfl)).1 e1),hd⟩
 have FO:=FF _ _ _ _ f (j+1) ps _ hB' hj lam
 rw[<- S.hP,<- S.hw,<- S.hK,<- S.hm]at FO
 have hr':HR (M.K.to cs cv (M.K.cds++[(c',oc)])) μ S1 H:=⟨hr.len,hr.inj,hr.cell,rc,λq hq=>by
  rcases bo.mp hq with z |z
  ·exact hr.ext.cds q z
  ·have e:q=(c',oc):=by simpa using z
   rw[e];exact hc,hr.ext.tab⟩
 have hsp:spM (M.K.to cs cv (M.K.cds++[(c',oc)])) (F f (tW ps.length ml cs)) [v1,.ref f] H Q E0:=by
  refine⟨μ,S1,[x,.obj f],u,S',hr',.cons rx (.cons (by simp only[RU]) .nil),spec,λμ' v H' p' k' hr2 ru2 =>?_⟩
  refine aft μ' v H' p' k' ⟨hr2.len,hr2.inj,hr2.cell,RUs.mono k' p' _ _ hr.ext.cap,λq hq=>hr2.ext.cds q (bb _ hq),hr2.ext.tab⟩ ru2
 have hl:([u1,bj f]++[]).length=gps.length:=by have:=FO.len _ _ _ _ hsp;simpa using this
 rw[<- S.hK]at hbd
 refine wpAny_call (iC (FO.run X.A X.stack s H ⟨[u1,.ref f],[]⟩ [u1,.ref f] [v1,.ref f] Q E0 (S.room.mono hk) (Dg I) (hbd s _ I.kIn hl) (.cons ru (.cons rfl .nil)) hsp) λr s' hq =>?_)
 cases r with
 | error e=>exact hq.elim
 | ok fl=>
   cases fl with
   | ret u=>exact I.after hq
   | next=>exact cX hq
   | brk=>exact cX hq
   | cont=>exact cX hq
theorem Il{F:Addr->MF->MF}{gps ps fs:List Str}{is:List Nat}{k' j:Nat}{ml ma:ME}{g q:Str}{c P:Addr}{params:Arguments}{a body:Expr}{scope:Scope}{p1 lp pos:Pos}
  (S:Sc M X k N ns) (FC:FnC M g k' gps F) (hj:k'<=j+1) (hk:j+2<=k) (hmk:M.mkr=some (c,q)) (MK:Mkr M c P (q++"<lambda>"))
  (hg:fb ns g=true) (hgd:(g == ("__debug__":Str))=false) (ha:PE X a (tM M.K ma)) (hs:starEach [a,.Lambda params body scope lp] X.env=(false,eval a X.env)::starEach [.Lambda params body scope lp] X.env)
  (hps:ue params=some ps) (LS:ny ps fs scope) (hfs: ∀y∈fs,ns.lookup y=some .cell/\(y,aQ)∈scope.names) (his:cH (λy=>N.findIdx? (· == y)) fs=some is)
  (hb: ∀(caps:List U) (capv:List V) (cds:List (Addr×Obj)) (base:Heap),gm M.mg base -> ∀(X':Cx),Sc (M.to caps capv cds base) X' j (ps++fs) scope.names->PE X' body (tM (M.K.to caps capv cds) ml)):
  PE X (.Call (.Name g p1) [a,.Lambda params body scope lp] [] pos) (tM M.K (o9 F ps.length is ml ma)):=by
 intro pins s σ H Q I h
 obtain⟨μ,S0,ρ,u,S',hr,er,qm,aft⟩:=h
 unfold o9 at qm
 obtain⟨x,S1,e1,qm⟩:=be qm
 cases hcs:pk is ρ with
 | none=>rw[hcs]at qm;cases qm
 | some cs=>
 rw[hcs]at qm
 simp only[ag]at qm
 split at qm
 rotate_left
 ·cases qm
 rename_i hx
 have spec: ∀f,F f (tW ps.length ml cs) [x,.obj f] S1=some (u,S'):=λf=>(hx.choose_spec f).trans qm
 obtain⟨f0,fd0,hm,hkp,hbd,FF⟩:=FC.ex
 rw[<- S.hK]at hkp
 refine ek (tw I (S.gl hg) (by rw[S.hm];exact hm) ?_ hgd)
 refine rN (h₀:=X.base) I.ok.mod.kin hkp ?_ hs rfl
 rw[hs]
 show aI _ _ (spliced ((false,eval a X.env)::backTo pos (starEach [.Lambda params body scope lp] X.env))) _ _ s
 refine kX (thn (ha pins s σ H (λv H1 =>∃μ1,Pre μ μ1/\bq H H1/\HR M.K μ1 S1 H1/\RU H1 μ1 x v) I ⟨μ,S0,ρ,x,S1,hr,er,e1,λμ' v H' p k hr' ru=>⟨μ',p,k,hr',ru⟩⟩) λu1 s1 ⟨v1,H1,I1,r1,μ1,pr1,kp1,hr1,rx1⟩ =>?_)
 obtain⟨hcode,hqual⟩:=S.cod c q hmk
 obtain⟨ps0,hP,tr,al⟩:=hr1.ext.tab _ MK.mem
 have hPh:s1.heap.get? P=some (tabObj ps0):=I1.hok P _ hP
 have kin:M.K.K.In s1.heap:=by have:=I1.kIn;rwa[S.hK]at this
 have C:CodeHd s1.heap c P:=MK.hd _ kin
 have hgl:s1.heap.Ns mainGlobals X.mg:=I1.mod.glob.keeps I1.bk
 obtain⟨bm,ob,b1,b2,b5,b6,b7,b8⟩:=MK.bl
 have b5':s1.heap.get? bm=some ob:=I1.bk bm ob (by rw[S.hb];exact b5)
 have b3:bm≠mainGlobals:=λz=>by
  obtain⟨o,es,ep,e,hd,_⟩:=hgl
  rw[<- z,b5']at e;cases e;rw[b8]at hd;cases hd
 have b4:bm≠P:=λz=>by
  rw[z,hPh]at b5';cases b5';cases b8
 have BA:s1.heap.BuiltinsAt X.mg P:=⟨bm,ob,by rw[S.hm];exact b1,b2,b3,b4,b5',b6,b7,b8⟩
 have hclo:closureFor scope X.env=pure (gZ X.env.cells scope.names []):=AW λy hy hyf=>I.ok.has y.1 (.inl (S.cel y.1 (hfs y.1 (LS.fre y hy hyf)).1).1)
 show aI _ _ (spliced [(false,eval (.Lambda params body scope lp) X.env)]) _ _ s1
 refine kX (PySem.W.kla_eval (FW hps _) ?_)
 have fin: ∀(H2:Hp) (s2:Shared) (c' f:Addr) (ctv:Value) (oc:Obj) (ws:Array Value) (t:Tok),Inv X pins σ H2 s2->bq H1 H2->HR M.K μ1 S1 H2 ->
   s2.heap.get? f=some (kla_obj "<lambda>" (X.env.qual++"<lambda>") params body scope (gZ X.env.cells scope.names []) ((X.mg "__name__").getD .none) c' ctv)->H2 f=none->s1.heap.objs.size<=f->H2 c'=some (.frz oc fz)->oc.data = .fields ws->ws[1]? = some (.str (q++"<lambda>") t) ->
   aI (model X.prog X.w) X.A (spliced []) (λvs s₂=>X.K.In s₂.heap/\aI (model X.prog X.w) X.A (call (.ref f0) ([]++(u1::bj f::vs))) (EP X pins σ Q) X.xe s₂) X.xe s2:=by
  intro H2 s2 c' f ctv oc ws t I2 kp2 hr2 hf hfn hfs' hc hoc hq
  have hff:f∉frs X.stack:=λz=>by
   obtain⟨_,o,ho,_⟩:=I1.stack.mem z
   exact absurd (ai (aG ho) hfs') (cf _)
  rw[<- hqual]at hq
  exact vn ⟨I2.kIn,Hr S MK.bl hj hk hbd FF hps LS hfs his hb I2 hr2 (er.mono (kp1.trans kp2) pr1) hcs (spec f) (RU.mono kp2 (Pre.refl _) _ _ rx1) r1 (aft.mono pr1 (kp1.trans kp2)) hf hfn hff hc hoc hq⟩
 cases ham:codeAmong lp ps0.toList with
 | none=>
   refine PySem.W.kla_makeFunction (mg:=X.mg) hclo I1.ok.glob hgl hcode C hPh tr ham MK.gP BA λc' ctv h' tk hx hge hlt hrec htb =>?_
   obtain⟨c2,oc,ws,t,e,hoc,hd,hq'⟩:=hrec
   cases e
   have I2:=Dx (ob:=kla_obj "<lambda>" (X.env.qual++"<lambda>") params body scope (gZ X.env.cells scope.names []) ((X.mg "__name__").getD .none) c' ctv) (tk:=tk) I1 hP hx hge hoc htb
   rw[hqual]at hq'
   obtain⟨kp2,hr2⟩:=hr1.table (a:=(lp.line:Int)) (b:=(lp.col:Int)) hP (I1.hok.fresh hge) hd hq' MK.un
   have hsz:s1.heap.objs.size<=h'.objs.size:=aF hge (ba hlt)
   refine fin _ _ c' h'.objs.size ctv oc ws t I2 kp2 hr2 (aC _ rfl) ?_ hsz ?_ hd hq'
   ·rw[bD (dk (aG htb)),bD (dk hlt)]
    exact I1.hok.fresh hsz
   ·rw[bD (bG hP (I1.hok.fresh hge)).symm,dh]
 | some cv=>
   obtain⟨c',oc,ws,t,rfl,hfr,hd,hq'⟩:=al lp cv ham
   refine PySem.W.kla_makeFunctionHit (mg:=X.mg) hclo I1.ok.glob hgl hcode C hPh tr ham BA λctv h' tk hk hsz =>?_
   have I2:=I1.kept (t':=tk) (h':=h'.push (kla_obj "<lambda>" (X.env.qual++"<lambda>") params body scope (gZ X.env.cells scope.names []) ((X.mg "__name__").getD .none) c' ctv)) (fun b o e=>ar _ (hk b o e))
   exact fin H1 _ c' h'.objs.size ctv oc ws t I2 (bq.refl _) hr1 (aC _ rfl) (I1.hok.fresh hsz) hsz hfr hd hq'
end
end _G
end
section
namespace _G
open PySem PySem.Spec _L
open PyProof.Rows hiding St
noncomputable def Trc(e T:Addr)(cls:Value)(h:Heap):Prop:= ∃(oe:Obj) (vs:Array Value) (a0:Value) (oT:Obj) (ts:Array Value),h.get? e=some oe/\(oe.cls=cls/\vs[0]? = some a0)/\oe.data = .fields vs/\vs[1]? = some (.ref T)/\T≠e/\h.get? T=some oT/\oT.data = .fields ts/\ts[3]? = some .none
noncomputable def CX1(P:Program)(w:World):CXT:=λouter H s E ev s' =>∃(e T:Addr) (cls:Value) (H':Hp),ev = .ref e/\s'.os=s.os/\AllBare s'.gens/\Un (frs outer) [] H H' s.heap s'.heap/\HOk P w H' s'.heap/\Trc e T cls s'.heap/\s.heap.get? e=none/\s.heap.get? T=none/\H' e=none/\H' T=none/\E cls none H'
structure Left(fs:List Addr)(e T:Addr)(h h':Heap):Prop where
 keep: ∀b o,b∉fs->b≠e->b≠T->h.get? b=some o->h'.get? b=some o
 slot: ∀b o,b∈fs->h.get? b=some o -> ∃sl,h'.get? b=some { o with slots:=sl }
theorem Left.hok{P:Program}{w:World}{fs:List Addr}{e T:Addr}{H:Hp}{h h':Heap}(l:Left fs e T h h')(x:HOk P w H h)(hf: ∀b∈fs,H b=none)(he:H e=none)(hT:H T=none):HOk P w H h':=λa o q=>by
 refine(x a o q).stay (λb u hb e1 =>?_) (λ_ z=>z) λ_ _ z=>z
 have key: ∃o,H b=some o:=by
  rcases hb with rfl |z
  ·exact⟨_,q⟩
  ·exact⟨_,z⟩
 obtain⟨ob,key⟩:=key
 exact l.keep b u (λz=>by rw[hf b z]at key;cases key) (λz=>by rw[z,he]at key;cases key) (λz=>by rw[z,hT]at key;cases key) e1
section
variable {X:Cx}{pins:List (Addr×Obj)}{σ:St}{H H':Hp}{s s':Shared}
end
end _G
end
section
namespace _G
open PySem PySem.Spec _L
open PySem.W (envX kla_fn kla_obj CodeHd tabObj)
open PyProof.Rows hiding St
section
abbrev RF:=List U->Sto->Option (Nat×Sto)
noncomputable def kL(b:Nat->Bool)(is:List Nat):Cell:= .lst (is.map λi => .bl (b i))
noncomputable def Ox(b:Nat->Bool):Sto:= [kL b [0,1,2],kL b [3,4,5],kL b [0,1,2,3,4,5,6]]
noncomputable def bQ(q:Nat)(j:Nat):Bool:=decide (q=j)||decide (j=7)
noncomputable def P7(rz:List Nat)(φ:MF)(ψ:RF)(S:Sto):Res U:=match φ [] S with
 | some r=>some (.non,r.2++Ox λ_=>false)
 | none=>match ψ [] S with
   | some r=>if r.1∈rz then some (.ref (r.2.length+3),r.2++(Ox (bQ r.1)++[.lst [.int r.1]])) else none
   | none=>none
noncomputable def Qm(rz:List Nat)(g:Addr)(φ:MF)(ψ:RF):MF:=λus S=>match us with
 | [.obj a]=>if a=g then P7 rz φ ψ S else none
 | _=>none
end
noncomputable def Qk(cl:Nat->Addr)(K:KX)(μ:List Addr)(H:Hp)(C:Nat)(S':Sto)(E:XK):Prop:= ∀μ' H',Pre μ μ'->bq H H'->HR K μ' S' H'->E (.ref (cl C)) none H'
noncomputable def spX(cl:Nat->Addr)(K:KX)(r:RF):Sp:=λvs H _ E =>∃μ S us C S',HR K μ S H/\RUs H μ us vs/\r us S=some (C,S')/\Qk cl K μ H C S' E
structure FnX(M:Mo)(cl:Nat->Addr)(x:Str)(k:Nat)(ps:List Str)(r:RF):Prop where
 ex: ∃(f:Addr) (fd:FuncData),M.mg x=some (.ref f)/\cW M.K (.ref f)=true/\Binds M.K fd ps []/\jB M.P M.w M.K M.mg M.base (CX1 M.P M.w) k f fd ps (spX cl M.K r)
structure QP(M:Mo)(cl:Nat->Addr)(f:Addr)(k:Nat)(ps:List Str)(r:RF):Prop where
 ex: ∃fd:FuncData,((∃(oc:Value) (od:Option Addr) (sl:Array (Option Value)),M.base.get? f=some ⟨oc,od,.func fd,sl⟩)\/cW M.K (.ref f)=true)/\Binds M.K fd ps []/\jB M.P M.w M.K M.mg M.base (CX1 M.P M.w) k f fd ps (spX cl M.K r)
structure FnR(M:Mo)(cl:Nat->Addr)(x:Str)(k:Nat)(rz:List Nat):Prop where
 ex : ∃ (f:Addr) (fd:FuncData),M.mg x=some (.ref f)/\cW M.K (.ref f)=true/\Binds M.K fd ["call"] [] /\
  ∀(caps:List U) (capv:List V) (cds:List (Addr×Obj)) (base:Heap) (g:Addr) (j:Nat) (φ:MF) (ψ:RF),gm M.mg base->k<=j->Lam (M.to caps capv cds base) g j [] φ->QP (M.to caps capv cds base) cl g j [] ψ ->
   jB M.P M.w M.K M.mg base CX0 (j+1) f fd ["call"] (spM (M.K.to caps capv cds) (Qm rz g φ ψ))
section
variable {M:Mo}{X:Cx}{k:Nat}{N:List Str}{ns:List (Str×NameKind)}{pins:List (Addr×Obj)}{σ:St}{H:Hp}{s:Shared}{cl:Nat->Addr}{rz:List Nat}
end
end _G
end
section
namespace _G
open PySem PySem.Spec _L
open PySem.W (envX fnX fnMade CodeHd tabObj)
open PyProof.Rows hiding St
section
end
section
noncomputable def sml(i:Int):Prop:= -(2 ^ 64)<i/\i<2 ^ 64
noncomputable instance(i:Int):Decidable (sml i):=cN _
end
section
variable {M:Mo}{X:Cx}{k:Nat}{N:List Str}{ns:List (Str×NameKind)}
end
section
variable {M:Mo}{X:Cx}{k:Nat}{N:List Str}{ns:List (Str×NameKind)}{pins:List (Addr×Obj)}{σ:St}{H:Hp}{s:Shared}
end
end _G
end
section
namespace _G
open PySem PySem.Spec _L
open PyProof.Rows hiding St
section
abbrev NS:=List (Str×NameKind)
structure Zt where
 R:List (Str×RF)
 F:List (Str×List Nat)
 cl:Nat->Addr
 nm:Str
noncomputable def z0:Zt:=⟨[],[],fun _=>0,"<lambda>"⟩
noncomputable def Zt.to(z:Zt)(nm:Str):Zt:=⟨z.R,z.F,z.cl,nm⟩
structure Tb where
 D:List (Str×MF)
 C:List (Str×U)
 L:List (Str×Addr×MF)
 H:List (Str×(Addr->MF->MF))
 mkr:Bool
 Z:Zt
noncomputable def Tb.bare(T:Tb):Tb:=⟨T.D,T.C,[],T.H,false,T.Z⟩
noncomputable def frees(sc:Scope):List Str:=(sc.names.filter λy=>y.2==.free).map (·.1)
noncomputable def As(ps:List Str)(sc:Scope)(ns:NS):Bool:=
 sc.kind==.function && !sc.isCoroutine && !sc.isGenerator&&decide ((ps++frees sc).Nodup)&&ps.all (λp=>sc.names.lookup p==some .local||sc.names.lookup p==some .cell)&&sc.names.all (λy => !(y.2==.cell)||sc.names.lookup y.1==some .cell)&&(frees sc).all λy=>sc.names.lookup y==some .free&&ns.lookup y==some .cell
noncomputable def notStar:Expr->Bool
 | .Starred _ _=>false
 | _=>true
noncomputable def nK:Expr->Bool
 | .ListComp _ _ _ _=>false
 | .SetComp _ _ _ _=>false
 | .DictComp _ _ _ _ _=>false
 | _=>true
noncomputable def jl:Expr->Bool
 | .Set _ _ _=>false
 | _=>true
noncomputable def p9:Expr->Bool
 | .Slice _ _ _ _=>false
 | _=>true
noncomputable def baseOk:Expr->Bool
 | .Call (.Name _ _) [] [] _=>false
 | _=>true
noncomputable def plainT:Expr->Bool
 | .Name _ _=>true
 | .Call _ _ _ _=>true
 | .Subscript _ _ _=>true
 | .Constant _ _ _=>true
 | _=>false
noncomputable def dummy(N:List Str):Str:=⟨#[N.length+1]⟩
noncomputable def AB(N:List Str)(x:Str):List Str:=(N.map λy=>if y==x then dummy N else y)++[x]
noncomputable def fZ (x:Str):Bool := !(x == ("__debug__":Str)) && !(x == ("__classdict__":Str))
noncomputable def slot(N:List Str)(x:Str):Option Nat:=N.findIdx? (· == x)
noncomputable def Lq(g:Str):Option MF:=
 if g == ("len":Str) then some bJ else if g == ("tuple":Str) then some bT
 else if g == ("max":Str) then some zX else if g == ("min":Str) then some oy else if g == ("all":Str) then some vW
 else if g == ("sorted":Str) then some eJ    else none
noncomputable def kP:List Str := ["len","tuple","list","max","min","range","isinstance","bool","int","str","dict","all","any","sorted","reversed","zip","enumerate","set","sum","repr"]
noncomputable def GK(t:Str):Option String:=
 if t == ("tuple":Str) then some "tuple" else if t == ("list":Str) then some "list" else if t == ("int":Str) then some "int"
 else if t == ("bool":Str) then some "bool" else if t == ("str":Str) then some "str" else if t == ("dict":Str) then some "dict" else none
noncomputable def ML:Operator->Option F2
 | .Add=>some da
 | .Sub=>some u0
 | .Mult=>some hV
 | .FloorDiv=>some oDiv
 | .Mod=>some oMod
 | .Pow=>some xH
 | _=>none
noncomputable def zm:CmpOp->Option F2
 | .Lt=>some oLt
 | .LtE=>some oLe
 | .Gt=>some oGt
 | .GtE=>some oGe
 | .Eq=>some oEq
 | .NotEq=>some oNe
 | .In=>some oIn
 | .NotIn=>some o6
 | .Is=>some oIs
 | .IsNot=>some fR
noncomputable def sNo:MS:=λ_ _=>none
noncomputable def PV:MS:=λρ S=>some (.bk,ρ,S)
noncomputable def Nt:MS:=λρ S=>some (.ct,ρ,S)
noncomputable def FN(name:Str)(ma:ME)(mas:MA):Option ME:=
 if name == ("append":Str) then some (mML cU ma mas) else if name == ("pop":Str) then some (mML km ma mas)
 else if name == ("index":Str) then some (mMT eO ma mas)
 else if name == ("extend":Str) then some (mML j6 ma mas) else none
set_option genInjectivity false in
structure Rc where
 e:Tb->List Str->NS->Expr->Option ME
 c:Tb->List Str->NS->Str->List Expr->Option ME
 v:Tb->List Str->NS->Str->List Expr->Option ME
 o:Tb->List Str->NS->Option Expr->Option (Option ME)
 t:Tb->List Str->NS->Expr->Option MT
 l:Tb->List Str->NS->Bool->List Expr->Option MT
 f:Tb->List Str->NS->List Expr->Option MT
 a:Tb->List Str->NS->List Expr->Option MA
 i:Tb->List Str->NS->Expr->Option MI
 g:Tb->List Str->NS->Expr->Option MG
 gs:Tb->List Str->NS->List Expr->Option MGs
 s:Tb->List Str->NS->Stmt->Option MS
 b:Tb->List Str->NS->List Stmt->Option MS
section
variable (R:Rc) (T:Tb) (N:List Str) (ns:NS)
noncomputable def Oy:Const->Option ME
 | .int i=>some (mC (.int i))
 | .bool b=>some (mC (.bl b))
 | .none=>some (mC .non)
 | .str x=>some (mC (.str x))
 | _=>none
noncomputable def eUn(a:Expr):UnaryOp->Option ME
 | .USub=>(R.e T N ns a).map (m1 jn)
 | .Not=>(R.e T N ns a).map (m1 AS)
 | _=>none
noncomputable def eBo(op:BoolOp)(p:Pos):List Expr->Option ME
 | []=>none
 | [a]=>R.e T N ns a
 | a::b::r=>(R.e T N ns a).bind λma=>match op with
   | .And=>(R.e T N ns (.BoolOp .And (b::r) p)).map (ig ma)
   | .Or=>(R.e T N ns (.BoolOp .Or (b::r) p)).map (mOr ma)
noncomputable def eCm(a:Expr):List CmpOp->List Expr->Option ME
 | [op],[b]=>if jl b then(R.e T N ns a).bind λma=>(R.e T N ns b).bind λmb=>(zm op).map λf=>m2 f ma mb else none
 | [op,op'],[b,c]=>if jl b&&jl c then(R.e T N ns a).bind λma=>(R.e T N ns b).bind λmb=>(R.e T N ns c).bind λmc=>(zm op).bind λf=>(zm op').map λg=>mCh f g ma mb mc else none
 | _,_=>none
noncomputable def eSl(a:Expr)(lo hi:Option Expr):Option Expr->Option ME
 | none=>(R.e T N ns a).bind λma=>(R.o T N ns lo).bind λml=>(R.o T N ns hi).map (mSl ma ml)
 | some _=>none
noncomputable def eSb(a:Expr):Expr->Option ME
 | .Slice lo hi st _=>eSl R T N ns a lo hi st
 | b=>if p9 b then(R.e T N ns a).bind λma=>(R.e T N ns b).map (m2 oIx ma) else none
noncomputable def eDi:List (Option Expr)->List Expr->Option ME
 | [some a],[b]=>(R.e T N ns a).bind λma=>(R.e T N ns b).map (uy ma)
 | _,_=>none
noncomputable def eLn(elt it:Expr)(ifs:List Expr)(scope:Scope)(x:Str):Option ME:=
 (R.i T N ns it).bind λmi=>(R.f T (AB N x) scope.names ifs).bind λmt=>(R.e T (AB N x) scope.names elt).map (cm mi mt)
noncomputable def eLt(elt it:Expr)(ifs:List Expr)(scope:Scope):Expr->Option ME
 | .Name x _=>if scope.kind==.function&&nR N (AB N x) ns scope.names x&&jl it then eLn R T N ns elt it ifs scope x else none
 | _=>none
noncomputable def eLc(elt:Expr)(scope:Scope):List Comprehension->Option ME
 | [c]=>if c.is_async=0 then eLt R T N ns elt c.iter c.ifs scope c.target else none
 | _=>none
noncomputable def eRg(g:Str):List Expr->Option ME
 | [a]=>if g == ("list":Str) then none else (R.a T N ns [a]).map fun m=>j5 (iR1 m)
 | [a,b]=>if g == ("list":Str) then (R.a T N ns [a,b]).map fun m=>kr (iR2 m) else (R.a T N ns [a,b]).map fun m=>j5 (iR2 m)
 | _=>none
noncomputable def eLS:List Expr->Option ME
 | [a]=>(R.a T N ns [a]).map (mFn bLS)
 | _=>none
noncomputable def eC1(g:Str):Expr->Option ME
 | .Call (.Name r q) rs [] rp=>if (g == ("list":Str)||g == ("tuple":Str))&&r == ("range":Str) then (if fb ns r then eRg R T N ns g rs else none) else if g == ("len":Str)&&r == ("set":Str) then (if fb ns r then eLS R T N ns rs else none) else R.c T N ns g [.Call (.Name r q) rs [] rp]
 | a=>R.c T N ns g [a]
noncomputable def eIs(g t:Str)(tp:Pos)(a:Expr):Option ME:=
 if g == ("isinstance":Str) then (if fb ns t&&notStar a then (GK t).bind fun c=>(R.e T N ns a).map (m1 (pC c)) else none) else R.c T N ns g [a,.Name t tp]
noncomputable def OA(g:Str)(a:Expr)(p:Arguments)(b:Expr)(sc:Scope):Option ME:=
 if T.mkr&&T.Z.nm == ("<lambda>":Str)&&notStar a then (ue p).bind fun ps=>
    if As ps sc ns then(cH (λy=>N.findIdx? (· == y)) (frees sc)).bind λis=>(R.e T N ns a).bind λma=>(R.e T.bare (ps++frees sc) sc.names b).bind λml=>(T.H.lookup g).map λF=>o9 F ps.length is ml ma else none
   else none
noncomputable def eC2(g:Str)(a:Expr):Expr->Option ME
 | .Name t tp=>eIs R T N ns g t tp a
 | .Lambda p b sc _=>OA R T N ns g a p b sc
 | b=>R.c T N ns g [a,b]
noncomputable def eCf(g:Str):List Expr->Option ME
 | []=>(T.D.lookup g).map λmf=>mFn mf af
 | [a]=>eC1 R T N ns g a
 | [a,b]=>eC2 R T N ns g a b
 | a::b::c::r=>R.c T N ns g (a::b::c::r)
noncomputable def eMe(o:Expr)(name:Str)(p q:Pos):List Expr->Option ME
 | []=>if baseOk o&&(p.endLine == q.line)&&name == ("pop":Str) then (R.e T N ns o).map fun mo=>mML xq mo af else none
 | [a]=>if baseOk o&&(p.endLine==q.line)&&notStar a then(R.e T N ns o).bind λmo=>(R.a T N ns [a]).bind (FN name mo) else none
 | _=>none
noncomputable def eCa(as:List Expr)(q:Pos):Expr->Option ME
 | .Name g _=>if fb ns g&&fZ g then eCf R T N ns g as else R.v T N ns g as
 | .Attribute o name p=>eMe R T N ns o name p q as
 | _=>none
end
noncomputable def sE(R:Rc)(T:Tb):List Str->NS->Expr->Option ME:=λN ns e=>match e with
  | .Name x _=>if fZ x then(if vL ns x then(slot N x).map ab else if fb ns x then(T.C.lookup x).map mC else none) else none
  | .Constant c _ _=>Oy c
  | .BinOp a op b _=>(R.e T N ns a).bind λma=>(R.e T N ns b).bind λmb=>(ML op).map λf=>m2 f ma mb
  | .UnaryOp op a _=>eUn R T N ns a op
  | .BoolOp op vs p=>eBo R T N ns op p vs
  | .Compare a ops bs _=>eCm R T N ns a ops bs
  | .IfExp c a b _=>(R.t T N ns c).bind λmc=>(R.e T N ns a).bind λma=>(R.e T N ns b).map (v7 mc ma)
  | .Subscript a b _=>eSb R T N ns a b
  | .Dict ks vs _=>eDi R T N ns ks vs
  | .Tuple es _ _=>(R.a T N ns es).map fN
  | .List es _=>(R.a T N ns es).map dz
  | .ListComp elt gens scope _=>eLc R T N ns elt scope gens
  | .Call f as kws q=>if kws.isEmpty then eCa R T N ns as q f else none
  | _=>none
noncomputable def sC(R:Rc)(T:Tb):List Str->NS->Str->List Expr->Option ME:=λN ns g as=>(R.a T N ns as).bind λmas=>match Lq g with
  | some mf=>some (mFn mf mas)
  | none=>(T.D.lookup g).map λmf=>mFn mf mas
noncomputable def sV(R:Rc)(T:Tb):List Str->NS->Str->List Expr->Option ME:=λN ns g as=>match as with
 | []=>none
 | a::as=>if vL ns g&&fZ g then(T.L.lookup g).bind λq=>(slot N g).bind λi=>(R.a T N ns (a::as)).map (sD i q.1 q.2) else none
noncomputable def sO(R:Rc)(T:Tb):List Str->NS->Option Expr->Option (Option ME):=λN ns o=>match o with
  | none=>some none
  | some e=>(R.e T N ns e).map some
noncomputable def sT(R:Rc)(T:Tb):List Str->NS->Expr->Option MT:=λN ns e=>match e with
  | .UnaryOp .Not a _=>(R.t T N ns a).map nA
  | .BoolOp .And vs _=>R.l T N ns true vs
  | .BoolOp .Or vs _=>R.l T N ns false vs
  | .Compare a ops bs _=>(eCm R T N ns a ops bs).map cOf
  | e=>if plainT e then(R.e T N ns e).map cOf else none
noncomputable def sL(R:Rc)(T:Tb):List Str->NS->Bool->List Expr->Option MT:=λN ns b vs=>match vs with
  | []=>none
  | [a]=>R.t T N ns a
  | a::r=>(R.t T N ns a).bind λma=>(R.l T N ns b r).map λmr=>if b then pv ma mr else cOr ma mr
noncomputable def sF(R:Rc)(T:Tb):List Str->NS->List Expr->Option MT:=λN ns ifs=>match ifs with
  | []=>some cTT
  | [c]=>R.t T N ns c
  | _=>none
noncomputable def sA(R:Rc)(T:Tb):List Str->NS->List Expr->Option MA:=λN ns es=>match es with
  | []=>some af
  | e::r=>if notStar e then(R.e T N ns e).bind λm=>(R.a T N ns r).map (aa m) else none
noncomputable def sI(R:Rc)(T:Tb):List Str->NS->Expr->Option MI:=λN ns e=>match e with
  | .Call (.Name g q) as [] p=>
    if g == ("range":Str) then
     if fb ns g then match as with
      | [a]=>(R.a T N ns [a]).map iR1
      | [a,b]=>(R.a T N ns [a,b]).map iR2
      | _=>none
     else none
    else if g == ("reversed":Str) then
     if fb ns g then match as with
      | [a]=>(R.a T N ns [a]).map zk
      | _=>none
     else none
    else(R.e T N ns (.Call (.Name g q) as [] p)).map dD
  | e=>(R.e T N ns e).map dD
noncomputable def sG(R:Rc)(T:Tb):List Str->NS->Expr->Option MG:=λN ns e=>match e with
  | .Name x _=>if uq ns x then(slot N x).map gN else none
  | .Tuple es _ _=>(R.gs T N ns es).map (gTp es.length)
  | _=>none
noncomputable def sGs(R:Rc)(T:Tb):List Str->NS->List Expr->Option MGs:=λN ns es=>match es with
  | []=>some mE
  | e::r=>if notStar e then(R.g T N ns e).bind λg=>(R.gs T N ns r).map (eK g) else none
noncomputable def eIt(R:Rc)(T:Tb)(N:List Str)(ns:NS)(e:Expr):Option MI:=match e with
  | e=>(R.e T N ns e).map dD
noncomputable def Mw(R:Rc)(T:Tb)(N:List Str)(ns:NS)(y:Str)(elt it:Expr)(ifs:List Expr)(scope:Scope):Expr->Option MS
 | .Name x _=>
   if uq ns y&&(scope.kind==.function&&nR N (AB N x) ns scope.names x&&jl it) then
    (slot N y).bind λi=>(R.i T N ns it).bind λmi=>(R.f T (AB N x) scope.names ifs).bind λmt=>(R.e T (AB N x) scope.names elt).map λme=>bI i (cm mi mt me)
   else none
 | _=>none
noncomputable def ON(R:Rc)(T:Tb)(N:List Str)(ns:NS)(y:Str)(elt:Expr)(scope:Scope):List Comprehension->Option MS
 | [c]=>if c.is_async=0 then Mw R T N ns y elt c.iter c.ifs scope c.target else none
 | _=>none
noncomputable def Mt(R:Rc)(T:Tb)(N:List Str)(ns:NS)(x:Str):Expr->Option MS
 | .ListComp elt gens scope _=>ON R T N ns x elt scope gens
 | e=>if uq ns x&&nK e then(slot N x).bind λi=>(R.e T N ns e).map (bI i) else none
noncomputable def L4(R:Rc)(T:Tb)(N:List Str)(ns:NS)(e:Expr):Expr->Option MS
  | .Name x _=>Mt R T N ns x e
  | .Subscript a b _=>if nK e&&p9 b then(R.e T N ns a).bind λma=>(R.e T N ns b).bind λmb=>(R.e T N ns e).map (jH ma mb) else none
  | .Tuple ts kt pt=>none
  | _=>none
noncomputable def sAs(R:Rc)(T:Tb)(N:List Str)(ns:NS)(e:Expr):List Expr->Option MS
 | [t]=>L4 R T N ns e t
 | _=>none
noncomputable def sAu(R:Rc)(T:Tb)(N:List Str)(ns:NS)(x:Str)(e:Expr):Operator->Option MS
  | _=>none
noncomputable def K7(R:Rc)(T:Tb)(N:List Str)(ns:NS)(op:Operator)(e:Expr):Expr->Option MS
 | .Name x _=>sAu R T N ns x e op
 | _=>none
noncomputable def sRt(R:Rc)(T:Tb)(N:List Str)(ns:NS):Option Expr->Option MS
 | some e=>(R.e T N ns e).map bH
 | none=>some (bH (mC .non))
noncomputable def sFo(R:Rc)(T:Tb)(N:List Str)(ns:NS)(it:Expr)(body:List Stmt):Expr->Option MS
  | .Name x _=>if uq ns x&&jl it then(slot N x).bind λi=>(R.i T N ns it).bind λmi=>(R.b T N ns body).map (fH i mi) else none
  | .Tuple ts kt pt=>if jl it then(R.g T N ns (.Tuple ts kt pt)).bind λg=>(eIt R T N ns it).bind λmi=>(R.b T N ns body).map (nh g mi) else none
  | _=>none
noncomputable def Mq(R:Rc)(T:Tb)(N:List Str)(ns:NS)(t it:Expr)(body:List Stmt):List Stmt->Option MS
 | []=>sFo R T N ns it body t
 | _=>none
noncomputable def sWh(R:Rc)(T:Tb)(N:List Str)(ns:NS)(c:Expr)(body:List Stmt):List Stmt->Option MS
 | []=>(R.t T N ns c).bind λmc=>(R.b T N ns body).map (q0 mc)
 | _=>none
noncomputable def sS(R:Rc)(T:Tb):List Str->NS->Stmt->Option MS:=λN ns st=>match st with
  | .Assign ts e _=>sAs R T N ns e ts
  | .AugAssign t op e _=>K7 R T N ns op e t
  | .Expr e _=>if nK e then(R.e T N ns e).map du else none
  | .Return o _=>sRt R T N ns o
  | .If c a b _=>(R.t T N ns c).bind λmc=>(R.b T N ns a).bind λma=>(R.b T N ns b).map (sIf mc ma)
  | .For t it body els _=>Mq R T N ns t it body els
  | .While c body els _=>sWh R T N ns c body els
  | .Pass _=>some cP
  | .Break _=>some PV
  | .Raise _ _ _=>some sNo
  | .Continue _=>some Nt
  | _=>none
section
variable (R:Rc) (T:Tb) (N:List Str) (ns:NS)
end
noncomputable def sB(R:Rc)(T:Tb):List Str->NS->List Stmt->Option MS:=λN ns sts=>match sts with
  | []=>some cP
  | [s]=>R.s T N ns s
  | s::r=>(R.s T N ns s).bind λms=>(R.b T N ns r).map (bc ms)
noncomputable def rc:Nat->Rc
 | 0=>⟨λ_ _ _ _=>none,λ_ _ _ _ _=>none,λ_ _ _ _ _=>none,λ_ _ _ _=>none,λ_ _ _ _=>none,λ_ _ _ _ _=>none,λ_ _ _ _=>none,λ_ _ _ _=>none,λ_ _ _ _=>none,λ_ _ _ _=>none,λ_ _ _ _=>none,λ_ _ _ _=>none,λ_ _ _ _=>none⟩
 | n+1=>⟨sE (rc n),sC (rc n),sV (rc n),sO (rc n),sT (rc n),sL (rc n),sF (rc n),sA (rc n),sI (rc n),sG (rc n),sGs (rc n),sS (rc n),sB (rc n)⟩
abbrev cE(T:Tb)(n:Nat):=(rc n).e T
abbrev cC(T:Tb)(n:Nat):=(rc n).c T
abbrev cV(T:Tb)(n:Nat):=(rc n).v T
abbrev cO(T:Tb)(n:Nat):=(rc n).o T
abbrev cT(T:Tb)(n:Nat):=(rc n).t T
abbrev cL(T:Tb)(n:Nat):=(rc n).l T
abbrev cF(T:Tb)(n:Nat):=(rc n).f T
abbrev cA(T:Tb)(n:Nat):=(rc n).a T
abbrev cI(T:Tb)(n:Nat):=(rc n).i T
abbrev cG(T:Tb)(n:Nat):=(rc n).g T
abbrev cGs(T:Tb)(n:Nat):=(rc n).gs T
abbrev cS(T:Tb)(n:Nat):=(rc n).s T
abbrev cB(T:Tb)(n:Nat):=(rc n).b T
end
end _G
end
section
namespace _G
open PySem PySem.Spec _L
open PyProof.Rows hiding St
section
variable {env:Env}{e a b o:Expr}{es:List Expr}{pos q:Pos}
theorem de(h:notStar e=true)(es:List Expr)(env:Env):starEach (e::es) env=(false,eval e env)::starEach es env:=by
 cases e <;> first |rfl |cases h
theorem xS(pos:Pos)(env:Env): ∀{es:List Expr},es.all notStar=true->(backTo pos (starEach es env)).any (·.1)=false
 | [],_=>rfl
 | e::es,h=>by
   rw[b9,aA]at h
   rw[de h.1]
   show(false||(backTo pos (starEach es env)).any (·.1))=false
   rw[xS pos env h.2];rfl
theorem Gj(h:plainT e=true)(env:Env): ∀whole,isTrue e env whole=(do let v <- whole;standAt e.pos;holding [v] (truthy v)):=by
 intro whole
 cases e <;> first |rfl |cases h
theorem tQ(h:jl e=true)(env:Env): ∀x,foldedSetIterable e env x=pure x:=by
 intro x
 cases e <;> first |rfl |cases h
theorem xK(h:jl b=true)(op:CmpOp):behindInMarks op b=false:=by
 cases b <;> first |rfl |cases h
theorem Nb(h:p9 b=true):xT b:=by
 intro o i
 cases b <;> first |rfl |cases h
theorem qo(h:baseOk o=true)(name:Str)(env:Env):attributeBase o name env (eval o env)=eval o env:=by
 cases o with
 | Call f as ks p=>
   cases f with
   | Name x p=>
     cases as with
     | nil=>cases ks with
       | nil=>cases h
       | cons k ks=>rfl
     | cons a as=>rfl
   | _=>rfl
 | _=>rfl
theorem yc(h:nK e=true)(t:Option Expr)(line:Nat)(env:Env):swapsWith e t line env=pure false:=by
 cases e <;> first |rfl |cases h
theorem Iw(h:nK e=true)(t:Expr)(line:Nat)(env:Env):swapsWithSole [t] e line env=pure false:=by
 unfold swapsWithSole
 exact yc h _ _ _
theorem yb(h:notStar a=true)(q:Pos)(env:Env):((backTo q (starEach [a] env)).all (λx => !x.1)&&(backToKw q (keywordEach [] env)).all (λx=>x.1.isSome)
   && decide ([a].length+([]:List Keyword).length+(if ([]:List Keyword).isEmpty then 0 else 1)<30))=true:=by
 rw[de h];rfl
theorem Lo(h:p9 b=true)(env:Env): ∀v,assign (.Subscript a b pos) env v=(do
   let ov <- holding [v] (eval a env)
   let iv <- holding [v,ov] (eval b env)
   standAt pos
   holding [v,ov,iv] (setItem ov iv v)
   release [v,ov,iv] []):=by
 intro v
 cases b <;> first |rfl |cases h
theorem yW(h:notStar e=true)(es:List Expr)(env:Env):assignEach (e::es) env=(false,assign e env)::assignEach es env:=by
 cases e <;> first |rfl |cases h
theorem BN(env:Env): ∀es:List Expr,es.all notStar=true->(assignEach es env).length=es.length/\(assignEach es env).findIdx? (·.1)=none
 | [],_=>⟨rfl,rfl⟩
 | e::es,h=>by
   rw[b9,aA]at h
   obtain⟨a,b⟩:=BN env es h.2
   rw[yW h.1]
   exact⟨by simp[a],by rw[List.findIdx?_cons];simp[b]⟩
theorem Ay:swappedStores [.Subscript a b pos] e env=pure none:=by
 cases e <;> rfl
end
theorem iV{T:Tb}: ∀{n:Nat}{N:List Str}{ns:NS}{es:List Expr}{m:MA},cA T n N ns es=some m->es.all notStar=true
 | 0,_,_,_,_,h=>by simp[cA,rc]at h
 | n+1,_,_,[],_,h=>rfl
 | n+1,N,ns,e::es,m,h=>by
   simp only[cA,rc,sA]at h
   split at h
   ·rename_i hs
    cases e1:(rc n).e T N ns e with
    | none=>rw[e1]at h;cases h
    | some me=>
      rw[e1]at h
      simp only[ag]at h
      cases e2:(rc n).a T N ns es with
      | none=>rw[e2]at h;cases h
      | some mr=>rw[b9,hs,iV e2];rfl
   ·cases h
theorem zd{T:Tb}: ∀{n:Nat}{N:List Str}{ns:NS}{es:List Expr}{m:MGs},cGs T n N ns es=some m->es.all notStar=true
 | 0,_,_,_,_,h=>by simp[cGs,rc]at h
 | n+1,_,_,[],_,h=>rfl
 | n+1,N,ns,e::es,m,h=>by
   simp only[cGs,rc,sGs]at h
   split at h
   ·rename_i hs
    cases e1:(rc n).g T N ns e with
    | none=>rw[e1]at h;cases h
    | some me=>
      rw[e1]at h
      simp only[ag]at h
      cases e2:(rc n).gs T N ns es with
      | none=>rw[e2]at h;cases h
      | some mr=>rw[b9,hs,zd e2];rfl
   ·cases h
theorem slot_get{N:List Str}{x:Str}{i:Nat}(h:slot N x=some i):N[i]? = some x:=by
 unfold slot at h
 obtain⟨h1,h2,_⟩:=dN.mp h
 rw[bw h1,eq_of_beq h2]
theorem iw {x:Str} (h:fZ x=true):(x == ("__debug__":Str))=false/\(x == ("__classdict__":Str))=false:=by
 unfold fZ at h
 rw[aA]at h
 simpa using h
theorem bind_eq{α β:Type}{o:Option α}{f:α->Option β}{b:β}(h:o.bind f=some b): ∃a,o=some a/\f a=some b:=by
 cases o with
 | none=>cases h
 | some a=>exact⟨a,rfl,h⟩
theorem map_eq{α β:Type}{o:Option α}{f:α->β}{b:β}(h:o.map f=some b): ∃a,o=some a/\f a=b:=by
 cases o with
 | none=>cases h
 | some a=>exact⟨a,rfl,bx h⟩
section
variable {M:Mo}{X:Cx}{k:Nat}{N:List Str}{ns:NS}{a b c e:Expr}{es:List Expr}{ma mb mc:ME}{mt:MT}{mas:MA}{pos p1 p2:Pos}{x:Str}
theorem Nl (S:Sc M X k N ns) (hg:fb ns "all"=true) (hm:M.mg "all"=none) (ha:PA X (e::es) (tMA M.K mas)) (he:starEach (e::es) X.env=(false,eval e X.env)::starEach es X.env) (hpl:(backTo pos (starEach es X.env)).any (·.1)=false) :
  PE X (.Call (.Name "all" p1) (e::es) [] pos) (tM M.K (mFn vW mas)):=
 PE.con (kK (S.hK▸Cv S.calm) (S.gl hg) (by rw[S.hm];exact hm) PyProof.Rows.boot_all ha (by decide) (by decide) he hpl) λ_ _ _ h=>AG Mh h
theorem EI (S:Sc M X k N ns) (hg:fb ns "sorted"=true) (hm:M.mg "sorted"=none) (ha:PA X (e::es) (tMA M.K mas)) (he:starEach (e::es) X.env=(false,eval e X.env)::starEach es X.env) (hpl:(backTo pos (starEach es X.env)).any (·.1)=false) :
  PE X (.Call (.Name "sorted" p1) (e::es) [] pos) (tM M.K (mFn eJ mas)):=
 PE.con (kK (S.hK▸zj S.calm) (S.gl hg) (by rw[S.hm];exact hm) PyProof.Rows.boot_sorted ha (by decide) (by decide) he hpl) λ_ _ _ h=>AG DF h
theorem QG {as:Expr}{q rp:Pos} (S:Sc M X k N ns) (hg:fb ns "len"=true) (hm:M.mg "len"=none) (hg2:fb ns "set"=true) (hm2:M.mg "set"=none) (ha:PA X [as] (tMA M.K mas)) (hs:notStar as=true) :
  PE X (.Call (.Name "len" p1) [.Call (.Name "set" q) [as] [] rp] [] pos) (tM M.K (mFn bLS mas)):=
 PE.con (S.hK▸Pf S.calm (S.gl hg) (by rw[S.hm];exact hm) (S.gl hg2) (by rw[S.hm];exact hm2) ha (by rw[de hs])) λ_ _ _ h=>AG MX h
theorem GI (S:Sc M X k N ns) (ho:PE X b (tM M.K mb)) (ha:PA X [a] (tMA M.K mas)) (hb:baseOk b=true) (hs:notStar a=true) (hl:(p1.endLine == pos.line)=true):PE X (.Call (.Attribute b "extend" p1) [a] [] pos) (tM M.K (mML j6 mb mas)):=by
 exact PE.con (FP iz PySem.F.slot_list_extend PySem.F.type_list_extend CO ho ha (qo hb _ _) (yb hs _ _) hl (de hs _ _) rfl) λ_ _ _ h=>S.hK▸Lv DG h
theorem Gq{op:CmpOp}{f:F2}(S:Sc M X k N ns)(h:zm op=some f): ∃r,OpR X (compareOp op) r/\OpU M.K r f:=by
 cases op <;> simp only[zm,fC,reduceCtorEq]at h <;> subst h
 ·exact⟨_,S.hK▸KR S.room.units,Nw⟩
 ·exact⟨_,S.hK▸L3 S.room.units,Oq⟩
 ·exact⟨_,Ph,AE⟩
 ·exact⟨_,NQ,AE⟩
 ·exact⟨_,O3.or (S.hK▸Ko (by have:=S.room.units;omega)),Od⟩
 ·exact⟨_,OU,AE⟩
 ·exact⟨_,KC,M2⟩
 ·exact⟨_,CP,Ej⟩
 ·exact⟨_,S.hK▸Kn (by have:=S.room.units;omega),Ov⟩
 ·exact⟨_,S.hK▸CS (by have:=S.room.units;omega),Eh⟩
theorem LW{N':List Str}{scope:Scope}{px py spos:Pos}{iter elt:Expr}{ifs:List Expr}{wi:TI}{mi:MI}{y:Str}(S:Sc M X k N ns)(i:Nat)(hy:N[i]? = some y)(ho:uq ns y=true)(hk:scope.kind = .function)(ok:nR N N' ns scope.names x=true)(hi:PI X (.Name x px) iter wi)
  (ht: ∀X',Sc M X' k N' scope.names->PTs X' ifs (tMT M.K mt)) (he: ∀X',Sc M X' k N' scope.names->PE X' elt (tM M.K mc)) (hr: ∀σ H Q,tM M.K (cm mi mt mc) σ H Q->pX wi (tMT M.K mt) (tM M.K mc) σ H Q)
  (hs: ∀x,foldedSetIterable iter X.env x=pure x):PS X (.Assign [.Name y py] (.ListComp elt [⟨.Name x px,iter,ifs,0⟩] scope pos) spos) (tMS M.K (bI i (cm mi mt mc))):=by
 have C:=wz S hk ok
 have e: ∃b,swapsWith (.ListComp elt [⟨.Name x px,iter,ifs,0⟩] scope pos) (some (.Name y py)) spos.line X.env=pure b:=⟨_,rfl⟩
 obtain⟨b,e⟩:=e
 cases b with
 | true=>exact PS.con (IW (by rw[S.hN];exact S.nd) (by rw[S.hN];exact hy) (S.lo ho).1 S.calm C hi (λs₂ H₂ fp=>ht _ (xC S C s₂ H₂ fp)) (λs₂ H₂ fp=>he _ (xC S C s₂ H₂ fp)) e hs (S.lo ho).2) λ_ _ _ h=>hr _ _ _ (J2 h)
 | false=>exact JY S i hy ho (Fw S hk ok hi ht he hr hs) e
theorem Mk(ha:PE X a (tM M.K ma))(hb:PE X b (tM M.K mb)):PE X (.Dict [some a] [b] pos) (tM M.K (uy ma mb)):=
 PE.con (Ii (EK ha hb Jd) rfl rfl (by simp) (by simp)) λ_ _ _ h=>Kr h
theorem Gz {as bs:Expr}{q rp:Pos} (S:Sc M X k N ns) (hg:fb ns "list"=true) (hm:M.mg "list"=none) (hg2:fb ns "range"=true) (hm2:M.mg "range"=none) (ha:PA X [as,bs] (tMA M.K mas)) (hs:notStar as=true) (hs2:notStar bs=true) :
  PE X (.Call (.Name "list" p1) [.Call (.Name "range" q) [as,bs] [] rp] [] pos) (tM M.K (kr (iR2 mas))):=
 PE.con (nM (vJ S.calm) (S.gl hg) (by rw[S.hm];exact hm) PyProof.Rows.boot_list (nN (BP (S.gl hg2) (by rw[S.hm];exact hm2) ha (by rw[de hs,de hs2];rfl) (by rw[de hs2];rfl)) vg) (by decide) (by decide)) λ_ _ _ h=>Fg h
theorem IQ {as:Expr}{q rp:Pos} (S:Sc M X k N ns) (hg:fb ns "tuple"=true) (hm:M.mg "tuple"=none) (hg2:fb ns "range"=true) (hm2:M.mg "range"=none) (ha:PA X [as] (tMA M.K mas)) (hs:notStar as=true) :
  PE X (.Call (.Name "tuple" p1) [.Call (.Name "range" q) [as] [] rp] [] pos) (tM M.K (j5 (iR1 mas))):=
 PE.con (nM (mO S.calm) (S.gl hg) (by rw[S.hm];exact hm) kD (nN (HA (S.gl hg2) (by rw[S.hm];exact hm2) ha (by rw[de hs];rfl)) vg) (by decide) (by decide)) λ_ _ _ h=>Jk h
theorem Hi {as bs:Expr}{q rp:Pos} (S:Sc M X k N ns) (hg:fb ns "tuple"=true) (hm:M.mg "tuple"=none) (hg2:fb ns "range"=true) (hm2:M.mg "range"=none) (ha:PA X [as,bs] (tMA M.K mas)) (hs:notStar as=true) (hs2:notStar bs=true) :
  PE X (.Call (.Name "tuple" p1) [.Call (.Name "range" q) [as,bs] [] rp] [] pos) (tM M.K (j5 (iR2 mas))):=
 PE.con (nM (mO S.calm) (S.gl hg) (by rw[S.hm];exact hm) kD (nN (BP (S.gl hg2) (by rw[S.hm];exact hm2) ha (by rw[de hs,de hs2];rfl) (by rw[de hs2];rfl)) vg) (by decide) (by decide)) λ_ _ _ h=>Ji h
theorem Nz {t:Str}{c:String} (S:Sc M X k N ns) (hg:fb ns "isinstance"=true) (hm:M.mg "isinstance"=none) (hg2:fb ns t=true) (hm2:M.mg t=none) (hb:bootBuiltins t=some (.type c)) (hc:c∈lM) (hn:t≠"__name__") (hd:(t == ("__debug__":Str))=false)
  (ha:PE X a (tM M.K ma)) (hs:notStar a=true):PE X (.Call (.Name "isinstance" p1) [a,.Name t p2] [] pos) (tM M.K (m1 (pC c) ma)):=by
 refine PE.con (kK Gy (S.gl hg) (by rw[S.hm];exact hm) PyProof.Rows.boot_isinstance (nN ha (nN (JA (v:= .ty c) (S.gl hg2) (by rw[S.hm];exact hm2) hb rfl hn hd) vg) (de hs _ _)) (by decide) (by decide) (de hs _ _) rfl) λ_ _ _ h =>?_
 rw[S.hK]
 exact OR hc h
theorem HL (S:Sc M X k N ns) (ho:PE X b (tM M.K mb)) (ha:PA X [a] (tMA M.K mas)) (hb:baseOk b=true) (hs:notStar a=true) (hl:(p1.endLine == pos.line)=true):PE X (.Call (.Attribute b "index" p1) [a] [] pos) (tM M.K (mMT eO mb mas)):=by
 refine PE.con (t:=Me M.K (tM M.K mb) (tMA M.K mas)) ?_ λ_ _ _ h=>II h
 rw[<- S.hK]
 exact Fc S.room.units ho ha (qo hb _ _) (yb hs _ _) hl (de hs _ _) rfl
theorem Mz (S:Sc M X k N ns) (ho:PE X b (tM M.K mb)) (hb:baseOk b=true) (hl:(p1.endLine == pos.line)=true):PE X (.Call (.Attribute b "pop" p1) [] [] pos) (tM M.K (mML xq mb af)):=by
 exact PE.con (Lz iz Co Cp L6 ho (qo hb _ _) hl) λ_ _ _ h=>S.hK▸N9 LR h
section
variable {X:Cx}
end
theorem Qn{st:Stmt}:PS X st (tMS M.K sNo):=by
 intro pins s σ H D I h
 obtain⟨μ,S,ρ,r,hr,er,e,kk⟩:=h
 cases e
theorem Ou:PS X (.Break pos) (tMS M.K PV):=PS.con FJ λD σ H h=>by
 obtain⟨μ,S,ρ,r,hr,er,e,kk⟩:=h
 cases e
 exact kk μ σ H (Pre.refl _) (bq.refl _) hr er
theorem M7:PS X (.Continue pos) (tMS M.K Nt):=PS.con zD λD σ H h=>by
 obtain⟨μ,S,ρ,r,hr,er,e,kk⟩:=h
 cases e
 exact kk μ σ H (Pre.refl _) (bq.refl _) hr er
theorem Mr:PS X (.Pass pos) (tMS M.K cP):=PS.con IM λD σ H h=>Fq h
theorem LA:PS X (.Return none pos) (tMS M.K (bH (mC .non))):=PS.con Iy λD σ H h=>by
 obtain⟨μ,S,ρ,r,hr,er,e,kk⟩:=h
 cases e
 exact kk μ _ H (Pre.refl _) (bq.refl _) hr rH
theorem Mj(ha:PE X a (tM M.K ma))(hb:PE X (.BoolOp .And (b::es) pos) (tM M.K mb)):PE X (.BoolOp .And (a::b::es) pos) (tM M.K (ig ma mb)):=PE.con (Kw ha hb) λ_ _ _ h=>Ls h
theorem Oh(ha:PE X a (tM M.K ma))(hb:PE X (.BoolOp .Or (b::es) pos) (tM M.K mb)):PE X (.BoolOp .Or (a::b::es) pos) (tM M.K (mOr ma mb)):=PE.con (NZ ha hb) λ_ _ _ h=>OP h
theorem LJ(ha:PE X a (tM M.K ma)):PE X (.UnaryOp .Not a pos) (tM M.K (m1 AS ma)):=PE.con (Lc ha) λ_ _ _ h=>LV h
end
end _G
end
section
namespace _G
open PySem PySem.Spec _L
open PyProof.Rows hiding St
section
variable {M:Mo}{cl:Nat->Addr}{k n fu:Nat}{N:List Str}{ns:NS}{X:Cx}{E:XK}
end
end _G
end
section
namespace _G
open PySem PySem.Spec _L
open PyProof.Rows hiding St
structure TOk(M:Mo)(T:Tb)(k:Nat):Prop where
 D: ∀x mf,T.D.lookup x=some mf -> ∃k' ps,k'<=k/\Fn M x k' ps mf
 C: ∀x u,T.C.lookup x=some u -> ∃g v,M.mg x=some g/\RelV v g /\ ∀H μ,RU H μ u v
 B: ∀x∈kP,M.mg x=none
 L: ∀x q,T.L.lookup x=some q -> ∃k' ps,k'<=k/\Lam M q.1 k' ps q.2
 mkr:T.mkr=true -> ∃c q P,M.mkr=some (c,q)/\Mkr M c P (q++T.Z.nm)
 Z: ∀x r,T.Z.R.lookup x=some r -> ∃k' ps,k'<=k/\FnX M T.Z.cl x k' ps r
noncomputable def GOk(M:Mo)(T:Tb)(k:Nat):Prop:=TOk M T k/\(T.mkr=true -> ∃j,j+2<=k/\(∀x F,T.H.lookup x=some F -> ∃k' ps,k'<=j+1/\FnC M x k' ps F)/\(∀x rz,T.Z.F.lookup x=some rz -> ∃k',k'<=j+1/\FnR M T.Z.cl x k' rz) /\ ∀caps capv cds base,gm M.mg base->TOk (M.to caps capv cds base) T.bare j)
noncomputable def IOk(M:Mo)(X:Cx)(tg it:Expr)(mi:MI):Prop:= ∃wi,PI X tg it wi /\
 (∀i ms D σ H,tMS M.K (fH i mi ms) D σ H->xM wi (jq i) (tMS M.K ms) D σ H) /\
 (∀mt mc σ H Q,tM M.K (cm mi mt mc) σ H Q->pX wi (tMT M.K mt) (tM M.K mc) σ H Q)
structure Snd(M:Mo)(T:Tb)(k n:Nat):Prop where
 e: ∀N ns e m,cE T n N ns e=some m -> ∀X,Sc M X k N ns->PE X e (tM M.K m)
 c: ∀N ns g as m,cC T n N ns g as=some m->fb ns g=true->fZ g=true -> ∀a r,as=a::r -> ∀X p1 pos,Sc M X k N ns->PE X (.Call (.Name g p1) as [] pos) (tM M.K m)
 v: ∀N ns g as m,cV T n N ns g as=some m -> ∀a r,as=a::r -> ∀X p1 pos,Sc M X k N ns->PE X (.Call (.Name g p1) as [] pos) (tM M.K m)
 v0: ∀N ns g m,cV T n N ns g []≠some m
 o: ∀N ns o m,cO T n N ns o=some m -> ∀X,Sc M X k N ns->mY M X o m
 t: ∀N ns e m,cT T n N ns e=some m -> ∀X,Sc M X k N ns->PT X e (tMT M.K m)
 l: ∀N ns b vs m pos,cL T n N ns b vs=some m -> ∀X,Sc M X k N ns->PW X (.BoolOp (if b then .And else .Or) vs pos) (tMT M.K m)
 f: ∀N ns vs m,cF T n N ns vs=some m -> ∀X,Sc M X k N ns->PTs X vs (tMT M.K m)
 a: ∀N ns es m,cA T n N ns es=some m -> ∀X,Sc M X k N ns->PA X es (tMA M.K m)
 i: ∀N ns tg it m,cI T n N ns it=some m -> ∀X,Sc M X k N ns->IOk M X tg it m
 g: ∀N ns e m,cG T n N ns e=some m -> ∀X,Sc M X k N ns->PG X e (tG M.K m)
 gs: ∀N ns es m,cGs T n N ns es=some m -> ∀X,Sc M X k N ns->PGs X es (tGs M.K m)
 s: ∀N ns st m,cS T n N ns st=some m -> ∀X,Sc M X k N ns->PS X st (tMS M.K m)
 b: ∀N ns sts m,cB T n N ns sts=some m -> ∀X,Sc M X k N ns->PSs X sts (tMS M.K m)
theorem fw{α:Type}{x:α}{P:Prop}(h:(none:Option α)=some x):P:=by cases h
theorem Qq(M:Mo)(T:Tb)(k:Nat):Snd M T k 0:=
 ⟨λ_ _ _ _ h=>fw h,λ_ _ _ _ _ h=>fw h,λ_ _ _ _ _ h=>fw h,λ_ _ _ _ h=>fw h,λ_ _ _ _ h=>fw h,λ_ _ _ _ h=>fw h,λ_ _ _ _ _ _ h=>fw h,λ_ _ _ _ h=>fw h,λ_ _ _ _ h=>fw h,λ_ _ _ _ _ h=>fw h,λ_ _ _ _ h=>fw h,λ_ _ _ _ h=>fw h,λ_ _ _ _ h=>fw h,λ_ _ _ _ h=>fw h⟩
section
variable {M:Mo}{T:Tb}{k n:Nat}
theorem MC{N:List Str}{ns:NS}{X:Cx}{a b:Expr}{ma mb:ME}{op:Operator}{f:F2}{pos:Pos}(h:ML op=some f)(S:Sc M X k N ns)(ha:PE X a (tM M.K ma))(hb:PE X b (tM M.K mb)):PE X (.BinOp a op b pos) (tM M.K (m2 f ma mb)):=by
 cases op <;> simp only[ML,fC,reduceCtorEq]at h <;> subst h
 ·exact NV S ha hb
 ·exact M5 ha hb
 ·exact Pp S ha hb
 ·exact Oo ha hb
 ·exact NF ha hb
 ·exact OM ha hb
theorem LC{N:List Str}{ns:NS}{X:Cx}{a b:Expr}{ma mb:ME}{op:CmpOp}{f:F2}{pos:Pos}(h:zm op=some f)(S:Sc M X k N ns)(ha:PE X a (tM M.K ma))(hb:PE X b (tM M.K mb))(hs:jl b=true):
  PE X (.Compare a [op] [b] pos) (tM M.K (m2 f ma mb))/\PT X (.Compare a [op] [b] pos) (tMT M.K (cOf (m2 f ma mb))):=by
 obtain⟨r,ho,ou⟩:=Gq S h
 exact⟨PE.con (HV ho ha hb (xK hs _)) λ_ _ _ h=>xO ou h,PT.con (HK ho ha hb (xK hs _)) λ_ _ _ h=>Am (λ_ q=>xO ou q) h⟩
theorem Ez{N:List Str}{ns:NS}{X:Cx}{a b c:Expr}{ma mb mc:ME}{op op':CmpOp}{f g:F2}{pos:Pos}(h:zm op=some f)(h':zm op'=some g)(S:Sc M X k N ns)(ha:PE X a (tM M.K ma))(hb:PE X b (tM M.K mb))(hc:PE X c (tM M.K mc))(hs:jl c=true):
  PE X (.Compare a [op,op'] [b,c] pos) (tM M.K (mCh f g ma mb mc))/\PT X (.Compare a [op,op'] [b,c] pos) (tMT M.K (cOf (mCh f g ma mb mc))):=by
 obtain⟨r,ho,ou⟩:=Gq S h
 obtain⟨r',ho',ou'⟩:=Gq S h'
 have hm:lastMarks [op,op'] [b,c]=false:=xK hs _
 exact⟨PE.con (Ga ho ho' ha hb hc hm) λ_ _ _ h=>B9 ou ou' h,PT.con (Et ho ho' ha hb hc hm) λ_ _ _ h=>Am (λ_ q=>B9 ou ou' q) h⟩
theorem K9 {t:Str}{c:String} (h:GK t=some c):bootBuiltins t=some (.type c)/\c∈lM/\t≠"__name__"/\(t == ("__debug__":Str))=false/\t∈kP:=by
 unfold GK at h
 repeat' split at h
 all_goals first
  | cases h
    done
  | (rename_i q
     cases h
     rw[eq_of_beq q]
     exact⟨by decide +kernel,by decide,by decide +kernel,by decide +kernel,by decide +kernel⟩)
theorem Hn{N:List Str}{ns:NS}{X:Cx}{g:Str}{e:Expr}{es:List Expr}{mas:MA}{p1 pos:Pos}{mf:MF}(O:TOk M T k)(h:Lq g=some mf)(hg:fb ns g=true)(S:Sc M X k N ns)(ha:PA X (e::es) (tMA M.K mas))(hs:(e::es).all notStar=true):
  PE X (.Call (.Name g p1) (e::es) [] pos) (tM M.K (mFn mf mas)):=by
 rw[b9,aA]at hs
 have he:=de hs.1 es X.env
 have hp:=xS pos X.env hs.2
 unfold Lq at h
 repeat' split at h
 all_goals first
  | (cases h;done)
  | (rename_i q
     cases h
     rw[eq_of_beq q]at hg ⊢
     first
      | exact Eo S hg (O.B _ (by decide +kernel)) ha he hp
      | exact HH S hg (O.B _ (by decide +kernel)) ha he hp
      | exact NY S hg (O.B _ (by decide +kernel)) ha he hp
      | exact N8 S hg (O.B _ (by decide +kernel)) ha he hp
      | exact Nl S hg (O.B _ (by decide +kernel)) ha he hp
      | exact EI S hg (O.B _ (by decide +kernel)) ha he hp)
theorem Jv{N:List Str}{ns:NS}{X:Cx}{name:Str}{a o:Expr}{mo m:ME}{mas:MA}{p1 pos:Pos}(h:FN name mo mas=some m)(S:Sc M X k N ns)(ho:PE X o (tM M.K mo))(ha:PA X [a] (tMA M.K mas))(hb:baseOk o=true)(hl:(p1.endLine==pos.line)=true)(hs:notStar a=true):
  PE X (.Call (.Attribute o name p1) [a] [] pos) (tM M.K m):=by
 unfold FN at h
 repeat' split at h
 all_goals first
  | (cases h;done)
  | (rename_i q
     cases h
     rw[eq_of_beq q]
     first
      | exact Fu S ho ha (qo hb _ _) (yb hs _ _) hl (de hs _ _) rfl
      | exact Hu S ho ha (qo hb _ _) (yb hs _ _) hl (de hs _ _) rfl
      | exact HL S ho ha hb hs hl
      | exact GI S ho ha hb hs hl)
end
end _G
end
section
namespace _G
open PySem PySem.Spec _L
open PyProof.Rows hiding St
section
variable {M:Mo}{T:Tb}{k n:Nat}
theorem zF{ps:List Str}{sc:Scope}{ns:NS}(h:As ps sc ns=true):ny ps (frees sc) sc /\ ∀y∈frees sc,ns.lookup y=some .cell/\(y,aQ)∈sc.names:=by
 unfold As at h
 simp only[aA,bP,Bool.not_eq_true',decide_eq_true_eq]at h
 obtain⟨⟨⟨⟨⟨⟨h1,h2⟩,h3⟩,h4⟩,h5⟩,h6⟩,h7⟩:=h
 have fm: ∀y∈frees sc,(y,aQ)∈sc.names:=λy hy=>by
  obtain⟨z,hz,e⟩:=aH.mp hy
  obtain⟨a,b⟩:=bu.mp hz
  obtain⟨z1,z2⟩:=z
  cases e
  have:z2 = .free:=eq_of_beq b
  rw[this]at a;exact a
 refine⟨⟨eq_of_beq h1,h2,h3,h4,λp hp =>?_,λx hx e =>?_,λy hy e=>aH.mpr ⟨y,bu.mpr ⟨hy,by rw[e];rfl⟩,rfl⟩,λy hy=>eq_of_beq (h7 y hy).1⟩,λy hy=>⟨eq_of_beq (h7 y hy).2,fm y hy⟩⟩
 ·have:=h5 p hp
  rw[Bool.or_eq_true]at this
  exact this.imp eq_of_beq eq_of_beq
 ·have:=h6 x hx
  rw[e]at this
  simpa using this
theorem GOk.of(O:TOk M T k)(h:T.mkr=false):GOk M T k:=⟨O,λz=>by rw[h]at z;cases z⟩
theorem NU(O:TOk M T k)(R:Snd M T k n): ∀N ns g as m,cV T (n+1) N ns g as=some m -> ∀a r,as=a::r -> ∀X p1 pos,Sc M X k N ns->PE X (.Call (.Name g p1) as [] pos) (tM M.K m):=by
 intro N ns g as m h a r e X p1 pos S
 subst e
 simp only[cV,rc,sV]at h
 split at h
 ·rename_i hs
  rw[aA]at hs
  obtain⟨q,e1,h⟩:=bind_eq h
  obtain⟨i,e2,h⟩:=bind_eq h
  obtain⟨mas,e3,rfl⟩:=map_eq h
  obtain⟨k',ps,hk,F⟩:=O.L _ _ e1
  have hst:=iV e3
  rw[b9,aA]at hst
  obtain⟨n1,n2⟩:=iw hs.2
  exact HD S F hk i (slot_get e2) hs.1 (R.a _ _ _ _ e3 X S) n1 n2 (de hst.1 _ _) (xS _ _ hst.2)
 ·cases h
section
variable {N:List Str}{ns:NS}{X:Cx}{m:ME}
theorem Hz{c:Const}{j}{pos:Pos}(h:Oy c=some m):PE X (.Constant c j pos) (tM M.K m):=by
 cases c <;> first | (cases h;done) |skip
 all_goals cases h
 all_goals first |exact PN |exact QF |exact PY |exact PE.con LX λ_ _ _ q=>r_c (λ_ _=>by simp only[RU]) q
theorem L8(R:Snd M T k n){op:UnaryOp}{a:Expr}{pos:Pos}(h:eUn (rc n) T N ns a op=some m)(S:Sc M X k N ns):PE X (.UnaryOp op a pos) (tM M.K m):=by
 cases op <;> first | (cases h;done) |skip
 all_goals obtain⟨ma,e1,rfl⟩:=map_eq h
 all_goals first |exact Nm (R.e _ _ _ _ e1 X S) |exact LJ (R.e _ _ _ _ e1 X S)
theorem LP(R:Snd M T k n){op:BoolOp}{vs:List Expr}{p:Pos}(h:eBo (rc n) T N ns op p vs=some m)(S:Sc M X k N ns):PE X (.BoolOp op vs p) (tM M.K m):=by
 unfold eBo at h
 split at h
 ·cases h
 ·exact KZ (R.e _ _ _ _ h X S)
 ·obtain⟨ma,e1,h⟩:=bind_eq h
  cases op
  ·obtain⟨mb,e2,rfl⟩:=map_eq h
   exact Mj (R.e _ _ _ _ e1 X S) (R.e _ _ _ _ e2 X S)
  ·obtain⟨mb,e2,rfl⟩:=map_eq h
   exact Oh (R.e _ _ _ _ e1 X S) (R.e _ _ _ _ e2 X S)
theorem FU(R:Snd M T k n){a:Expr}{ops:List CmpOp}{bs:List Expr}{pos:Pos}(h:eCm (rc n) T N ns a ops bs=some m)(S:Sc M X k N ns):PE X (.Compare a ops bs pos) (tM M.K m)/\PT X (.Compare a ops bs pos) (tMT M.K (cOf m)):=by
 unfold eCm at h
 split at h
 ·split at h
  ·rename_i hs
   obtain⟨ma,e1,h⟩:=bind_eq h
   obtain⟨mb,e2,h⟩:=bind_eq h
   obtain⟨f,e3,rfl⟩:=map_eq h
   exact LC e3 S (R.e _ _ _ _ e1 X S) (R.e _ _ _ _ e2 X S) hs
  ·cases h
 ·split at h
  ·rename_i hs
   rw[aA]at hs
   obtain⟨ma,e1,h⟩:=bind_eq h
   obtain⟨mb,e2,h⟩:=bind_eq h
   obtain⟨mc,e3,h⟩:=bind_eq h
   obtain⟨f,e4,h⟩:=bind_eq h
   obtain⟨g,e5,rfl⟩:=map_eq h
   exact Ez e4 e5 S (R.e _ _ _ _ e1 X S) (R.e _ _ _ _ e2 X S) (R.e _ _ _ _ e3 X S) hs.2
  ·cases h
 ·cases h
theorem Mi(R:Snd M T k n){a b:Expr}{pos:Pos}(h:eSb (rc n) T N ns a b=some m)(S:Sc M X k N ns):PE X (.Subscript a b pos) (tM M.K m):=by
 unfold eSb at h
 split at h
 ·rename_i lo hi st p
  cases st with
  | none=>
    obtain⟨ma,e1,h⟩:=bind_eq h
    obtain⟨ml,e2,h⟩:=bind_eq h
    obtain⟨mh,e3,rfl⟩:=map_eq h
    exact Jo S (R.e _ _ _ _ e1 X S) (R.o _ _ _ _ e2 X S) (R.o _ _ _ _ e3 X S)
  | some s=>
    cases h
 ·split at h
  ·rename_i hs
   obtain⟨ma,e1,h⟩:=bind_eq h
   obtain⟨mb,e2,rfl⟩:=map_eq h
   exact Qs S (R.e _ _ _ _ e1 X S) (R.e _ _ _ _ e2 X S) (Nb hs)
  ·cases h
theorem K2(R:Snd M T k n){ks:List (Option Expr)}{vs:List Expr}{pos:Pos}(h:eDi (rc n) T N ns ks vs=some m)(S:Sc M X k N ns):PE X (.Dict ks vs pos) (tM M.K m):=by
 unfold eDi at h
 split at h
 ·obtain⟨ma,e1,h⟩:=bind_eq h
  obtain⟨mb,e2,rfl⟩:=map_eq h
  exact Mk (R.e _ _ _ _ e1 X S) (R.e _ _ _ _ e2 X S)
 ·cases h
theorem MM(O:TOk M T k)(R:Snd M T k n){elt it:Expr}{ifs:List Expr}{scope:Scope}{x:Str}{px pos:Pos}(h:eLn (rc n) T N ns elt it ifs scope x=some m)(S:Sc M X k N ns)(hk:scope.kind = .function)(ok:nR N (AB N x) ns scope.names x=true)(hs:jl it=true):
  PE X (.ListComp elt [⟨.Name x px,it,ifs,0⟩] scope pos) (tM M.K m):=by
 unfold eLn at h
 obtain⟨mi,e1,h⟩:=bind_eq h
 obtain⟨mt,e2,h⟩:=bind_eq h
 obtain⟨mc,e3,rfl⟩:=map_eq h
 obtain⟨wi,h1,_,h3⟩:=R.i _ _ _ _ _ e1 X S
 exact Fw S hk ok h1 (λX' S'=>R.f _ _ _ _ e2 X' S') (λX' S'=>R.e _ _ _ _ e3 X' S') (h3 mt mc) (tQ hs _)
theorem Lg(O:TOk M T k)(R:Snd M T k n){elt:Expr}{scope:Scope}{gens:List Comprehension}{pos:Pos}(h:eLc (rc n) T N ns elt scope gens=some m)(S:Sc M X k N ns):PE X (.ListComp elt gens scope pos) (tM M.K m):=by
 unfold eLc at h
 split at h
 rotate_left
 ·cases h
 rename_i c
 obtain⟨tg,it,ifs,ia⟩:=c
 split at h
 rotate_left
 ·cases h
 rename_i h0
 have h0':ia=0:=h0
 subst h0'
 have h:eLt (rc n) T N ns elt it ifs scope tg=some m:=h
 unfold eLt at h
 split at h
 ·split at h
  ·rename_i hs
   rw[aA,aA]at hs
   exact MM O R h S (eq_of_beq hs.1.1) hs.1.2 hs.2
  ·cases h
 ·cases h
theorem Mf (O:TOk M T k) (R:Snd M T k n) {g:Str}{rs:List Expr}{p1 q rp pos:Pos} (h:eRg (rc n) T N ns g rs=some m) (S:Sc M X k N ns) (hl:g="list"\/g="tuple") (hg:fb ns g=true) (hr:fb ns "range"=true) :
  PE X (.Call (.Name g p1) [.Call (.Name "range" q) rs [] rp] [] pos) (tM M.K m):=by
 unfold eRg at h
 split at h
 ·rcases hl with rfl |rfl
  ·rw[if_pos (by decide +kernel)]at h
   cases h
  ·rw[if_neg (by decide +kernel)]at h
   obtain⟨ma,e1,rfl⟩:=map_eq h
   have hst:=iV e1
   simp only[b9,ji,iA]at hst
   exact IQ S hg (O.B _ (by decide +kernel)) hr (O.B _ (by decide +kernel)) (R.a _ _ _ _ e1 X S) hst
 ·rcases hl with rfl |rfl
  ·rw[if_pos (by decide +kernel)]at h
   obtain⟨ma,e1,rfl⟩:=map_eq h
   have hst:=iV e1
   simp only[b9,ji,iA,aA]at hst
   exact Gz S hg (O.B _ (by decide +kernel)) hr (O.B _ (by decide +kernel)) (R.a _ _ _ _ e1 X S) hst.1 hst.2
  ·rw[if_neg (by decide +kernel)]at h
   obtain⟨ma,e1,rfl⟩:=map_eq h
   have hst:=iV e1
   simp only[b9,ji,iA,aA]at hst
   exact Hi S hg (O.B _ (by decide +kernel)) hr (O.B _ (by decide +kernel)) (R.a _ _ _ _ e1 X S) hst.1 hst.2
 ·cases h
theorem LH(Gk:GOk M T k)(R:Snd M T k n)(RA: ∀M T k,GOk M T k->Snd M T k n){g:Str}{as:List Expr}{p1 pos:Pos}(h:eCf (rc n) T N ns g as=some m)(S:Sc M X k N ns)(hg:fb ns g=true)(hn:fZ g=true):
  PE X (.Call (.Name g p1) as [] pos) (tM M.K m):=by
 have O:=Gk.1
 unfold eCf at h
 split at h
 ·obtain⟨mf,e1,rfl⟩:=map_eq h
  obtain⟨k',ps,hk,F⟩:=O.D _ _ e1
  exact IB S F hk hg (iw hn).1
 ·unfold eC1 at h
  split at h
  ·split at h
   ·rename_i hl
    rw[aA,Bool.or_eq_true]at hl
    split at h
    ·rename_i hr
     rw[eq_of_beq hl.2]at hr ⊢
     exact Mf O R h S (hl.1.imp eq_of_beq eq_of_beq) hg hr
    ·cases h
   ·split at h
    ·rename_i hl
     rw[aA]at hl
     split at h
     ·rename_i hr
      rw[eq_of_beq hl.2]at hr ⊢
      rw[eq_of_beq hl.1]at hg ⊢
      unfold eLS at h
      split at h
      ·obtain⟨ma,e1,rfl⟩:=map_eq h
       have hst:=iV e1
       simp only[b9,ji,iA]at hst
       exact QG S hg (O.B _ (by decide +kernel)) hr (O.B _ (by decide +kernel)) (R.a _ _ _ _ e1 X S) hst
      ·cases h
     ·cases h
    ·exact R.c _ _ _ _ _ h hg hn _ _ rfl X _ _ S
  ·exact R.c _ _ _ _ _ h hg hn _ _ rfl X _ _ S
 ·unfold eC2 at h
  split at h
  ·unfold eIs at h
   split at h
   ·rename_i hl
    split at h
    ·rename_i ht
     obtain⟨c,e1,h⟩:=bind_eq h
     obtain⟨ma,e2,rfl⟩:=map_eq h
     obtain⟨c1,c2,c3,c4,c5⟩:=K9 e1
     rw[aA]at ht
     rw[eq_of_beq hl]at hg ⊢
     exact Nz S hg (O.B _ (by decide +kernel)) ht.1 (O.B _ c5) c1 c2 c3 c4 (R.e _ _ _ _ e2 X S) ht.2
    ·cases h
   ·exact R.c _ _ _ _ _ h hg hn _ _ rfl X _ _ S
  ·unfold OA at h
   split at h
   ·rename_i hs
    rw[aA,aA]at hs
    obtain⟨⟨hT,hnm⟩,hst⟩:=hs
    obtain⟨ps,e0,h⟩:=bind_eq h
    split at h
    ·rename_i hl
     obtain⟨is,e1,h⟩:=bind_eq h
     obtain⟨ma,e2,h⟩:=bind_eq h
     obtain⟨ml,e3,h⟩:=bind_eq h
     obtain⟨F,e4,rfl⟩:=map_eq h
     obtain⟨c,q,P,hmk,MK⟩:=O.mkr hT
     rw[eq_of_beq hnm]at MK
     obtain⟨j,hj,hH,hF,hB⟩:=Gk.2 hT
     obtain⟨k',gps,hk',FC⟩:=hH _ _ e4
     obtain⟨LS,hfs⟩:=zF hl
     exact Il S FC hk' hj hmk MK hg (iw hn).1 (R.e _ _ _ _ e2 X S) (de hst _ _) e0 LS hfs e1
      λcaps capv cds base hb X' S'=>(RA _ _ _ ⟨hB caps capv cds base hb,λz=>by cases z⟩).e _ _ _ _ e3 X' S'
    ·cases h
   ·cases h
  ·exact R.c _ _ _ _ _ h hg hn _ _ rfl X _ _ S
 ·exact R.c _ _ _ _ _ h hg hn _ _ rfl X _ _ S
theorem Lw(R:Snd M T k n){o:Expr}{name:Str}{p q:Pos}{as:List Expr}(h:eMe (rc n) T N ns o name p q as=some m)(S:Sc M X k N ns):PE X (.Call (.Attribute o name p) as [] q) (tM M.K m):=by
 unfold eMe at h
 split at h
 ·split at h
  ·rename_i hs
   rw[aA,aA]at hs
   obtain⟨mo,e1,rfl⟩:=map_eq h
   rw[eq_of_beq hs.2]
   exact Mz S (R.e _ _ _ _ e1 X S) hs.1.1 hs.1.2
  ·cases h
 ·split at h
  ·rename_i hs
   rw[aA,aA]at hs
   obtain⟨mo,e1,h⟩:=bind_eq h
   obtain⟨mas,e2,h⟩:=bind_eq h
   exact Jv h S (R.e _ _ _ _ e1 X S) (R.a _ _ _ _ e2 X S) hs.1.1 hs.1.2 hs.2
  ·cases h
 ·cases h
end
theorem Pm(Gk:GOk M T k)(R:Snd M T k n)(RA: ∀M T k,GOk M T k->Snd M T k n): ∀N ns e m,cE T (n+1) N ns e=some m -> ∀X,Sc M X k N ns->PE X e (tM M.K m):=by
 have O:=Gk.1
 intro N ns e m h X S
 have h:sE (rc n) T N ns e=some m:=h
 cases e with
 | Name x p=>
   have h:(if fZ x then(if vL ns x then(slot N x).map ab else if fb ns x then(T.C.lookup x).map mC else none) else none)=some m:=h
   split at h
   ·rename_i hn
    obtain⟨n1,n2⟩:=iw hn
    split at h
    ·rename_i hv
     obtain⟨i,e1,rfl⟩:=map_eq h
     exact OG S i (slot_get e1) hv n1 n2
    ·split at h
     ·rename_i hg
      obtain⟨u,e1,rfl⟩:=map_eq h
      obtain⟨g,v,hm,r,hv⟩:=O.C _ _ e1
      exact MJ S hg hm r hv n1
     ·cases h
   ·cases h
 | Constant c j p=>exact Hz h
 | BinOp a op b p=>
   obtain⟨ma,e1,h⟩:=bind_eq (show((rc n).e T N ns a).bind _=some m from h)
   obtain⟨mb,e2,h⟩:=bind_eq h
   obtain⟨f,e3,rfl⟩:=map_eq h
   exact MC e3 S (R.e _ _ _ _ e1 X S) (R.e _ _ _ _ e2 X S)
 | UnaryOp op a p=>exact L8 R h S
 | BoolOp op vs p=>exact LP R h S
 | Compare a ops bs p=>exact(FU R h S).1
 | IfExp c a b p=>
   obtain⟨mc,e1,h⟩:=bind_eq (show((rc n).t T N ns c).bind _=some m from h)
   obtain⟨ma,e2,h⟩:=bind_eq h
   obtain⟨mb,e3,rfl⟩:=map_eq h
   exact OQ (R.t _ _ _ _ e1 X S) (R.e _ _ _ _ e2 X S) (R.e _ _ _ _ e3 X S)
 | Subscript a b p=>exact Mi R h S
 | Dict ks vs p=>exact K2 R h S
 | Tuple es j p=>
   obtain⟨ma,e1,rfl⟩:=map_eq (show((rc n).a T N ns es).map fN=some m from h)
   exact NI (R.a _ _ _ _ e1 X S)
 | List es p=>
   obtain⟨ma,e1,rfl⟩:=map_eq (show((rc n).a T N ns es).map dz=some m from h)
   exact NJ (R.a _ _ _ _ e1 X S)
 | ListComp elt gens scope p=>exact Lg Gk.1 R h S
 | Call f as kws q=>
   have h:(if kws.isEmpty then eCa (rc n) T N ns as q f else none)=some m:=h
   cases kws with
   | cons w ws=>cases h
   | nil=>
     have h:eCa (rc n) T N ns as q f=some m:=h
     unfold eCa at h
     split at h
     ·split at h
      ·rename_i hs
       rw[aA]at hs
       exact LH Gk R RA h S hs.1 hs.2
      ·cases as with
       | nil=>exact absurd h (R.v0 _ _ _ _)
       | cons a r=>exact R.v _ _ _ _ _ h _ _ rfl X _ _ S
     ·exact Lw R h S
     ·cases h
 | _=>cases h
theorem PD(O:TOk M T k)(R:Snd M T k n): ∀N ns g as m,cC T (n+1) N ns g as=some m->fb ns g=true->fZ g=true -> ∀a r,as=a::r -> ∀X p1 pos,Sc M X k N ns->PE X (.Call (.Name g p1) as [] pos) (tM M.K m):=by
 intro N ns g as m h hg hn a r e X p1 pos S
 subst e
 simp only[cC,rc,sC]at h
 obtain⟨mas,e1,h⟩:=bind_eq h
 have hst:=iV e1
 split at h
 ·rename_i mf hb
  cases h
  exact Hn O hb hg S (R.a _ _ _ _ e1 X S) hst
 ·obtain⟨mf,e2,rfl⟩:=map_eq h
  obtain⟨k',ps,hk,F⟩:=O.D _ _ e2
  rw[b9,aA]at hst
  exact Mv S F hk hg (R.a _ _ _ _ e1 X S) (iw hn).1 (de hst.1 _ _) (xS _ _ hst.2)
theorem OS(R:Snd M T k n): ∀N ns o m,cO T (n+1) N ns o=some m -> ∀X,Sc M X k N ns->mY M X o m:=by
 intro N ns o m h X S
 simp only[cO,rc,sO]at h
 split at h
 ·cases h;exact .none
 ·obtain⟨me,e1,rfl⟩:=map_eq h
  exact .some (R.e _ _ _ _ e1 X S)
theorem N1(R:Snd M T k n): ∀N ns e m,cT T (n+1) N ns e=some m -> ∀X,Sc M X k N ns->PT X e (tMT M.K m):=by
 intro N ns e m h X S
 simp only[cT,rc,sT]at h
 split at h
 ·obtain⟨ma,e1,rfl⟩:=map_eq h
  exact Pi (R.t _ _ _ _ e1 X S)
 ·exact PW.pt (R.l _ _ true _ _ _ h X S)
 ·exact PW.pt (R.l _ _ false _ _ _ h X S)
 ·obtain⟨mc,e1,rfl⟩:=map_eq h
  exact(FU R e1 S).2
 ·split at h
  ·rename_i hs
   obtain⟨ma,e1,rfl⟩:=map_eq h
   exact N5 (R.e _ _ _ _ e1 X S) (Gj hs _)
  ·cases h
theorem Og(R:Snd M T k n): ∀N ns b vs m pos,cL T (n+1) N ns b vs=some m -> ∀X,Sc M X k N ns->PW X (.BoolOp (if b then .And else .Or) vs pos) (tMT M.K m):=by
 intro N ns b vs m pos h X S
 simp only[cL,rc,sL]at h
 split at h
 ·cases h
 ·cases b
  ·exact OT (R.t _ _ _ _ h X S)
  ·exact KL (R.t _ _ _ _ h X S)
 ·rename_i a r hr
  obtain⟨ma,e1,h⟩:=bind_eq h
  obtain⟨mr,e2,rfl⟩:=map_eq h
  cases r with
  | nil=>exact(hr rfl).elim
  | cons c r=>
    have h2:=R.l _ _ b _ _ pos e2 X S
    cases b
    ·exact QJ (R.t _ _ _ _ e1 X S) h2
    ·exact Nr (R.t _ _ _ _ e1 X S) h2
theorem NW(R:Snd M T k n): ∀N ns vs m,cF T (n+1) N ns vs=some m -> ∀X,Sc M X k N ns->PTs X vs (tMT M.K m):=by
 intro N ns vs m h X S
 simp only[cF,rc,sF]at h
 split at h
 ·cases h;exact KF
 ·exact NL (R.t _ _ _ _ h X S)
 ·cases h
theorem P4(R:Snd M T k n): ∀N ns es m,cA T (n+1) N ns es=some m -> ∀X,Sc M X k N ns->PA X es (tMA M.K m):=by
 intro N ns es m h X S
 simp only[cA,rc,sA]at h
 split at h
 ·cases h;exact PU
 ·split at h
  ·rename_i hs
   obtain⟨ma,e1,h⟩:=bind_eq h
   obtain⟨mr,e2,rfl⟩:=map_eq h
   exact MH (R.e _ _ _ _ e1 X S) (R.a _ _ _ _ e2 X S) (de hs _ _)
  ·cases h
theorem EW{N:List Str}{ns:NS}{X:Cx}{tg e:Expr}{m:ME}(S:Sc M X k N ns)(h:PE X e (tM M.K m)):IOk M X tg e (dD m):=
 ⟨_,OD S h,λ_ _ _ _ _ q=>Qj q,λ_ _ _ _ _ q=>QC q⟩
theorem Pg(O:TOk M T k)(R:Snd M T k n): ∀N ns tg it m,cI T (n+1) N ns it=some m -> ∀X,Sc M X k N ns->IOk M X tg it m:=by
 intro N ns tg it m h X S
 simp only[cI,rc,sI]at h
 split at h
 ·split at h
  ·rename_i hr
   split at h
   ·rename_i hg
    rw[eq_of_beq hr]at hg ⊢
    split at h
    ·obtain⟨ma,e1,rfl⟩:=map_eq h
     have hst:=iV e1
     simp only[b9,ji,iA]at hst
     exact⟨_,N7 S hg (O.B _ (by decide +kernel)) (R.a _ _ _ _ e1 X S) (de hst _ _),λ_ _ _ _ _ q=>OF q,λ_ _ _ _ _ q=>M9 q⟩
    ·obtain⟨ma,e1,rfl⟩:=map_eq h
     have hst:=iV e1
     simp only[b9,ji,iA,aA]at hst
     exact⟨_,PZ S hg (O.B _ (by decide +kernel)) (R.a _ _ _ _ e1 X S) (by rw[de hst.1,de hst.2];rfl) (by rw[de hst.2];rfl),λ_ _ _ _ _ q=>MW q,λ_ _ _ _ _ q=>Ng q⟩
    ·cases h
   ·cases h
  ·split at h
   ·rename_i hr
    split at h
    ·rename_i hg
     rw[eq_of_beq hr]at hg ⊢
     split at h
     ·obtain⟨ma,e1,rfl⟩:=map_eq h
      have hst:=iV e1
      simp only[b9,ji,iA]at hst
      exact⟨_,Ly S hg (O.B _ (by decide +kernel)) (R.a _ _ _ _ e1 X S) (de hst _ _),λ_ _ _ _ _ q=>MN q,λ_ _ _ _ _ q=>KJ q⟩
     ·cases h
    ·cases h
   ·obtain⟨ma,e1,rfl⟩:=map_eq h
    exact EW S (R.e _ _ _ _ e1 X S)
 ·obtain⟨ma,e1,rfl⟩:=map_eq h
  exact EW S (R.e _ _ _ _ e1 X S)
theorem PC(R:Snd M T k n): ∀N ns e m,cG T (n+1) N ns e=some m -> ∀X,Sc M X k N ns->PG X e (tG M.K m):=by
 intro N ns e m h X S
 simp only[cG,rc,sG]at h
 split at h
 ·split at h
  ·rename_i hs
   obtain⟨i,e1,rfl⟩:=map_eq h
   exact PG.con (Bt (by rw[S.hN];exact S.nd) (by rw[S.hN];exact slot_get e1) (S.lo hs).1 (S.lo hs).2) λ_ _ _ _ q=>QA q
  ·cases h
 ·obtain⟨gs,e1,rfl⟩:=map_eq h
  obtain⟨h1,h2⟩:=BN X.env _ (zd e1)
  refine PG.con (Lb S.calm (R.gs _ _ _ _ e1 X S) h1 h2) λ_ _ _ _ q =>?_
  rw[S.hK]
  exact NC q
 ·cases h
theorem KY(R:Snd M T k n): ∀N ns es m,cGs T (n+1) N ns es=some m -> ∀X,Sc M X k N ns->PGs X es (tGs M.K m):=by
 intro N ns es m h X S
 simp only[cGs,rc,sGs]at h
 split at h
 ·cases h;exact PGs.con Ig λ_ _ _ _ q=>MD q
 ·split at h
  ·rename_i hs
   obtain⟨g,e1,h⟩:=bind_eq h
   obtain⟨gs,e2,rfl⟩:=map_eq h
   exact PGs.con (Fo (R.g _ _ _ _ e1 X S) (R.gs _ _ _ _ e2 X S) (by rw[yW hs];rfl)) λ_ _ _ _ q=>HZ q
  ·cases h
theorem LY(O:TOk M T k)(R:Snd M T k n){N:List Str}{ns:NS}{it:Expr}{mi:MI}{X:Cx}{ts:List Expr}{kt:Nat}{pt:Pos}(h:eIt (rc n) T N ns it=some mi)(S:Sc M X k N ns):
  ∃wi,PI X (.Tuple ts kt pt) it wi /\ ∀g mb D σ H,tMS M.K (nh g mi mb) D σ H->xM wi (tG M.K g) (tMS M.K mb) D σ H:=by
 unfold eIt at h
 ·obtain⟨ma,e1,rfl⟩:=map_eq h
  exact⟨_,OD S (R.e _ _ _ _ e1 X S),λ_ _ _ _ _ q=>Ol q⟩
theorem Hx{N:List Str}{ns:NS}{X:Cx}{m:MS}(R:Snd M T k n){y:Str}{elt it tg:Expr}{ifs:List Expr}{scope:Scope}{p1:Pos}{p2 p3:Pos}(h:Mw (rc n) T N ns y elt it ifs scope tg=some m)(S:Sc M X k N ns):
  PS X (.Assign [.Name y p1] (.ListComp elt [⟨tg,it,ifs,0⟩] scope p2) p3) (tMS M.K m):=by
 unfold Mw at h
 split at h
 ·split at h
  ·rename_i hs
   rw[aA,aA,aA]at hs
   obtain⟨i,e0,h⟩:=bind_eq h
   obtain⟨mi,e1,h⟩:=bind_eq h
   obtain⟨mt,e2,h⟩:=bind_eq h
   obtain⟨mc,e3,rfl⟩:=map_eq h
   obtain⟨wi,h1,_,h3⟩:=R.i _ _ _ _ _ e1 X S
   exact LW S i (slot_get e0) hs.1 (eq_of_beq hs.2.1.1) hs.2.1.2 h1 (λX' S'=>R.f _ _ _ _ e2 X' S') (λX' S'=>R.e _ _ _ _ e3 X' S') (h3 mt mc) (tQ hs.2.2 _)
  ·cases h
 ·cases h
theorem Ja{N:List Str}{ns:NS}{X:Cx}{m:MS}(R:Snd M T k n){x:Str}{e:Expr}{p1:Pos}{p3:Pos}(h:Mt (rc n) T N ns x e=some m)(S:Sc M X k N ns):PS X (.Assign [.Name x p1] e p3) (tMS M.K m):=by
 unfold Mt at h
 split at h
 ·unfold ON at h
  split at h
  ·rename_i c
   obtain⟨tg,it,ifs,ia⟩:=c
   split at h
   ·rename_i h0
    have h0':ia=0:=h0
    subst h0'
    exact Hx R h S
   ·cases h
  ·cases h
 ·split at h
  ·rename_i hs
   rw[aA]at hs
   obtain⟨i,e1,h⟩:=bind_eq h
   obtain⟨me,e2,rfl⟩:=map_eq h
   exact JY S i (slot_get e1) hs.1 (R.e _ _ _ _ e2 X S) (yc hs.2 _ _ _)
  ·cases h
theorem IL{N:List Str}{ns:NS}{X:Cx}{m:MS}(R:Snd M T k n){t e:Expr}{p3:Pos}(h:L4 (rc n) T N ns e t=some m)(S:Sc M X k N ns):PS X (.Assign [t] e p3) (tMS M.K m):=by
 unfold L4 at h
 split at h
 ·exact Ja R h S
 ·split at h
  ·rename_i hs
   rw[aA]at hs
   obtain⟨ma,e1,h⟩:=bind_eq h
   obtain⟨mb,e2,h⟩:=bind_eq h
   obtain⟨me,e3,rfl⟩:=map_eq h
   exact Hv S (R.e _ _ _ _ e1 X S) (R.e _ _ _ _ e2 X S) (R.e _ _ _ _ e3 X S) (Iw hs.1 _ _ _) Ay rfl (Lo hs.2 _)
  ·cases h
 ·cases h
 ·cases h
theorem Mm{N:List Str}{ns:NS}{X:Cx}{m:MS}(R:Snd M T k n){x:Str}{e:Expr}{op:Operator}{p1:Pos}{p3:Pos}(h:sAu (rc n) T N ns x e op=some m)(S:Sc M X k N ns):PS X (.AugAssign (.Name x p1) op e p3) (tMS M.K m):=by
 unfold sAu at h
 cases h
theorem K0{N:List Str}{ns:NS}{X:Cx}{m:MS}(O:TOk M T k)(R:Snd M T k n){t it:Expr}{body:List Stmt}{p3:Pos}(h:sFo (rc n) T N ns it body t=some m)(S:Sc M X k N ns):PS X (.For t it body [] p3) (tMS M.K m):=by
 unfold sFo at h
 split at h
 ·split at h
  ·rename_i hs
   rw[aA]at hs
   obtain⟨i,e1,h⟩:=bind_eq h
   obtain⟨mi,e2,h⟩:=bind_eq h
   obtain⟨mb,e3,rfl⟩:=map_eq h
   obtain⟨wi,h1,h2,_⟩:=R.i _ _ _ _ _ e2 X S
   exact O8 S i (slot_get e1) hs.1 h1 (R.b _ _ _ _ e3 X S) (h2 i mb) (tQ hs.2 _)
  ·cases h
 ·rename_i ts kt pt
  split at h
  ·rename_i hs
   obtain⟨g,e1,h⟩:=bind_eq h
   obtain⟨mi,e2,h⟩:=bind_eq h
   obtain⟨mb,e3,rfl⟩:=map_eq h
   obtain⟨wi,h1,h2⟩:=LY O R (ts:=ts) (kt:=kt) (pt:=pt) e2 S
   exact PS.con (FT S.own S.calm h1 (R.g _ _ _ _ e1 X S) (R.b _ _ _ _ e3 X S) (tQ hs _)) λ_ _ _ q=>h2 _ _ _ _ _ q
  ·cases h
 ·cases h
theorem Ny(O:TOk M T k)(R:Snd M T k n): ∀N ns st m,cS T (n+1) N ns st=some m -> ∀X,Sc M X k N ns->PS X st (tMS M.K m):=by
 intro N ns st m h X S
 have h:sS (rc n) T N ns st=some m:=h
 cases st with
 | Assign ts e p=>
   have h:sAs (rc n) T N ns e ts=some m:=h
   unfold sAs at h
   split at h
   ·exact IL R h S
   ·cases h
 | AugAssign t op e p=>
   have h:K7 (rc n) T N ns op e t=some m:=h
   unfold K7 at h
   split at h
   ·exact Mm R h S
   ·cases h
 | Expr e p=>
   have h:(if nK e then((rc n).e T N ns e).map du else none)=some m:=h
   split at h
   ·rename_i hs
    obtain⟨me,e2,rfl⟩:=map_eq h
    exact My (R.e _ _ _ _ e2 X S) (yc hs _ _ _)
   ·cases h
 | Return o p=>
   have h:sRt (rc n) T N ns o=some m:=h
   unfold sRt at h
   split at h
   ·obtain⟨me,e2,rfl⟩:=map_eq h
    exact O4 (R.e _ _ _ _ e2 X S)
   ·cases h;exact LA
 | If c a b p=>
   obtain⟨mc,e1,h⟩:=bind_eq h
   obtain⟨ma,e2,h⟩:=bind_eq h
   obtain⟨mb,e3,rfl⟩:=map_eq h
   exact QB (R.t _ _ _ _ e1 X S) (R.b _ _ _ _ e2 X S) (R.b _ _ _ _ e3 X S)
 | For t it body els p=>
   have h:Mq (rc n) T N ns t it body els=some m:=h
   unfold Mq at h
   split at h
   ·exact K0 O R h S
   ·cases h
 | While c body els p=>
   have h:sWh (rc n) T N ns c body els=some m:=h
   unfold sWh at h
   split at h
   ·obtain⟨mc,e1,h⟩:=bind_eq h
    obtain⟨mb,e2,rfl⟩:=map_eq h
    exact Je S (R.t _ _ _ _ e1 X S) (R.b _ _ _ _ e2 X S)
   ·cases h
 | Pass p=>
   cases h;exact Mr
 | Break p=>
   cases h;exact Ou
 | Raise a b p=>
   cases h;exact Qn
 | Continue p=>
   cases h;exact M7
 | _=>cases h
theorem MU(Gk:GOk M T k)(R:Snd M T k n)(RA: ∀M T k,GOk M T k->Snd M T k n): ∀N ns sts m,cB T (n+1) N ns sts=some m -> ∀X,Sc M X k N ns->PSs X sts (tMS M.K m):=by
 intro N ns sts m h X S
 simp only[cB,rc,sB]at h
 split at h
 ·cases h;exact Px
 ·exact PF (R.s _ _ _ _ h X S)
 ·obtain⟨ma,e1,h⟩:=bind_eq h
  obtain⟨mr,e2,rfl⟩:=map_eq h
  exact OJ (R.s _ _ _ _ e1 X S) (R.b _ _ _ _ e2 X S)
theorem snd: ∀n M T k,GOk M T k->Snd M T k n
 | 0,M,T,k,_=>Qq M T k
 | n+1,M,T,k,Gk=>by
   have RA:=snd n
   have R:=RA M T k Gk
   exact⟨Pm Gk R RA,PD Gk.1 R,NU Gk.1 R,λN ns g m h=>(by cases (show(none:Option ME)=some m from h)),OS R,N1 R,Og R,NW R,P4 R,Pg Gk.1 R,PC R,KY R,Ny Gk.1 R,MU Gk R RA⟩
theorem Cd{x qual:Str}{st:Stmt}{f:Addr}{fd:FuncData}{N ps:List Str}{ms:MS}{fu:Nat}(O:TOk M T k)(h0:M.mkr=none)(h1:T.mkr=false)(F:Fun M.K x qual st f fd)(S:aX N ps (ao st))(hm:M.mg x=some (.ref f))(hb:Binds M.K fd ps [])
  (h:cB T fu N (ao st).names (aN st)=some ms):Fn M x (k+1) ps (run ps.length N.length ms):=
 ⟨f,fd,hm,F.2,hb,Fy h0 F S λX S'=>(snd fu M T k (.of O h1)).b _ _ _ _ h X S'⟩
end
end _G
end
section
namespace _G
open PySem PySem.Spec _L
open PyProof.Rows hiding St
structure Def(K:av)(x:Str)(st:Stmt):Prop where
 ex: ∃f fd,dY K mainGlobals x=some (some (.ref f))/\Fun K x x st f fd
theorem bW{K:av}{x:Str}{st:Stmt}{f:Addr}{od an:Option Addr}{sl:Array (Option Value)}{oc kV doc pm cd ct:Value}(a:dY K mainGlobals x=some (some (.ref f)))
  (l:K.lookup f=some ⟨oc,od,.func (cx x x (fe st) (aN st) (ao st) .none kV doc pm an cd ct),sl⟩) (c:gv K cd x=true) (k:cW K (.ref f)=true):Def K x st:=
 ⟨f,_,a,KA l c k⟩
section
variable {M:Mo}{T:Tb}{k:Nat}{h:Heap}{x:Str}{st:Stmt}{N ps:List Str}{ms:MS}{fu:Nat}
theorem Def.fn(O:TOk M T k)(h0:M.mkr=none)(h1:T.mkr=false)(X:M.K.K.In h)(Gn:h.Ns mainGlobals M.mg)(D:Def M.K x st)(S:aX N ps (ao st))
  (hb: ∀(kV doc pm:Value) (an:Option Addr) (cdv ct:Value) (us:List Value),us.length=ps.length->bindArgs (cx x x (fe st) (aN st) (ao st) .none kV doc pm an cdv ct) ⟨us,[]⟩=pure (ps.zip us))
  (hc:cB T fu N (ao st).names (aN st)=some ms):Fn M x (k+1) ps (run ps.length N.length ms):=by
 obtain⟨f,fd,a,F⟩:=D.ex
 exact Cd O h0 h1 F S (fF X Gn a) (F.binds hb) hc
theorem Fn.lam{j:Nat}{a:Addr}{mf:MF}(F:Fn M x j ps mf)(ha:M.mg x=some (.ref a)):Lam M a j ps mf:=by
 obtain⟨f,fd,h1,h2,h3,h4⟩:=F.ex
 have e:f=a:=by rw[h1]at ha;injection ha with ha;injection ha
 subst e
 exact⟨fd,.inr h2,h3,h4⟩
noncomputable def jw(p n:Nat)(ms:MF->MS):Nat->MF
 | 0=>λ_ _=>none
 | i+1=>run p n (ms (jw p n ms i))
theorem Fn.mono{j:Nat}{mf:MF}(F:Fn M x j ps mf)(hj:j<=k):Fn M x k ps mf:=by
 obtain⟨f,fd,a,b,c,d⟩:=F.ex
 exact⟨f,fd,a,b,c,d.mono hj⟩
theorem TOk.mono{j:Nat}(O:TOk M T k)(hj:k<=j):TOk M T j where
 Z:=λy r hy=>let ⟨k',ps',hk,F'⟩:=O.Z y r hy;⟨k',ps',aF hk hj,F'⟩
 D:=λy g hy=>let ⟨k',ps',hk,F'⟩:=O.D y g hy;⟨k',ps',aF hk hj,F'⟩
 C:=O.C
 B:=O.B
 L:=λy q hy=>let ⟨k',ps',hk,F'⟩:=O.L y q hy;⟨k',ps',aF hk hj,F'⟩
 mkr:=O.mkr
theorem TOk.cons{j:Nat}{mf:MF}(O:TOk M T k)(F:Fn M x j ps mf)(hj:k<=j):TOk M ⟨(x,mf)::T.D,T.C,T.L,T.H,T.mkr,T.Z⟩ j where
 D:=λy g hy=>by
  rw[aL]at hy
  cases e:y==x with
  | true=>rw[e]at hy;cases hy;rw[eq_of_beq e];exact⟨j,ps,aq _,F⟩
  | false=>
    rw[e]at hy
    obtain⟨k',ps',hk,F'⟩:=O.D y g hy
    exact⟨k',ps',aF hk hj,F'⟩
 C:=O.C
 B:=O.B
 L:=(O.mono hj).L
 mkr:=O.mkr
 Z:=(O.mono hj).Z
theorem TOk.fv{a:Addr}(O:TOk M T k)(ha:M.mg x=some (.ref a)):TOk M ⟨T.D,(x,.obj a)::T.C,T.L,T.H,T.mkr,T.Z⟩ k where
 D:=O.D
 C:=λy u hy=>by
  rw[aL]at hy
  cases e:y==x with
  | true=>
    rw[e]at hy;cases hy;rw[eq_of_beq e]
    exact⟨_,.ref a,ha,rfl,λ_ _=>by simp only[RU]⟩
  | false=>rw[e]at hy;exact O.C y u hy
 B:=O.B
 L:=O.L
 mkr:=O.mkr
 Z:=O.Z
theorem TOk.lam{j:Nat}{a:Addr}{y:Str}{φ:MF}(O:TOk M T k)(F:Lam M a j ps φ)(hj:j<=k):TOk M ⟨T.D,T.C,[(y,a,φ)],T.H,T.mkr,T.Z⟩ k where
 D:=O.D
 C:=O.C
 B:=O.B
 L:=λz q hz=>by
  rw[aL]at hz
  cases e:z==y with
  | true=>rw[e]at hz;cases hz;exact⟨j,ps,hj,F⟩
  | false=>rw[e]at hz;cases hz
 mkr:=O.mkr
 Z:=O.Z
theorem Def.fnR{msR:MF->MS}(O:TOk M T k)(h0:M.mkr=none)(h1:T.mkr=false)(X:M.K.K.In h)(Gn:h.Ns mainGlobals M.mg)(D:Def M.K x st)(S:aX N ps (ao st))
  (hb: ∀(kV doc pm:Value) (an:Option Addr) (cdv ct:Value) (us:List Value),us.length=ps.length->bindArgs (cx x x (fe st) (aN st) (ao st) .none kV doc pm an cdv ct) ⟨us,[]⟩=pure (ps.zip us))
  (hc: ∀ψ,cB ⟨(x,ψ)::T.D,T.C,T.L,T.H,T.mkr,T.Z⟩ fu N (ao st).names (aN st)=some (msR ψ)): ∀i,Fn M x (k+i) ps (jw ps.length N.length msR i)
 | 0=>by
   obtain⟨f,fd,a,F⟩:=D.ex
   refine⟨f,fd,fF X Gn a,F.2,F.binds hb,?_,?_⟩
   ·rintro vs H Q E ⟨μ,S,us,u,S',_,_,e,_⟩
    cases e
   ·rintro A outer s H args us vs Q E _ _ _ _ ⟨μ,S,us,u,S',_,_,e,_⟩
    cases e
 | i+1=>D.fn (T:=⟨(x,jw ps.length N.length msR i)::T.D,T.C,T.L,T.H,T.mkr,T.Z⟩) (k:=k+i) (O.cons (Def.fnR O h0 h1 X Gn D S hb hc i) (by omega)) h0 h1 X Gn S hb (hc _)
theorem TOk.setH{Hs:List (Str×(Addr->MF->MF))}(O:TOk M T k):TOk M ⟨T.D,T.C,T.L,Hs,T.mkr,T.Z⟩ k:=⟨O.D,O.C,O.B,O.L,O.mkr,O.Z⟩
theorem TOk.con{i:Int}(O:TOk M T k)(X:M.K.K.In h)(Gn:h.Ns mainGlobals M.mg)(a: ∃t,dY M.K mainGlobals x=some (some (.int i t))):TOk M ⟨T.D,(x,.int i)::T.C,T.L,T.H,T.mkr,T.Z⟩ k where
 D:=O.D
 C:=λy u hy=>by
  rw[aL]at hy
  cases e:y==x with
  | true=>
    rw[e]at hy;cases hy;rw[eq_of_beq e]
    obtain⟨t,a⟩:=a
    exact⟨_,.int i,fF X Gn a,⟨t,rfl⟩,λ_ _=>eX⟩
  | false=>rw[e]at hy;exact O.C y u hy
 B:=O.B
 L:=O.L
 mkr:=O.mkr
 Z:=O.Z
theorem TOk.nil{Fs:List (Str×List Nat)}{cl:Nat->Addr}{nm:Str}(X:M.K.K.In h)(Gn:h.Ns mainGlobals M.mg)(B: ∀x∈kP,dY M.K mainGlobals x=some none):TOk M ⟨[],[],[],[],false,⟨[],Fs,cl,nm⟩⟩ 0 where
 D:=λy g hy=>by cases hy
 C:=λy g hy=>by cases hy
 B:=λy hy=>PySem.W.mg_none_of X Gn (B y hy)
 L:=λy g hy=>by cases hy
 mkr:=λh=>by cases h
 Z:=λy g hy=>by cases hy
theorem Def.fnC{y:Str}{msC:Addr->MF->MS}(O: ∀caps capv cds base,gm M.mg base->TOk (M.to caps capv cds base) T k)(h1:T.mkr=false)(hL:T.L = [])(X:M.K.K.In h)(Gn:h.Ns mainGlobals M.mg)(D:Def M.K x st)(S:aX N ps (ao st))
  (hb: ∀(kV doc pm:Value) (an:Option Addr) (cdv ct:Value) (us:List Value),us.length=ps.length->bindArgs (cx x x (fe st) (aN st) (ao st) .none kV doc pm an cdv ct) ⟨us,[]⟩=pure (ps.zip us))
  (hc: ∀g φ,cB ⟨T.D,T.C,[(y,g,φ)],T.H,T.mkr,T.Z⟩ fu N (ao st).names (aN st)=some (msC g φ)):FnC M x k ps λg φ=>run ps.length N.length (msC g φ):=by
 obtain⟨f,fd,a,F⟩:=D.ex
 refine⟨f,fd,fF X Gn a,F.2,F.binds hb,λcaps capv cds base g j lps φ hbb hkj lam =>?_⟩
 have O':TOk (M.to caps capv cds base) ⟨T.D,T.C,[(y,g,φ)],T.H,T.mkr,T.Z⟩ j:=by
  have O1:=(O caps capv cds base hbb).mono hkj
  refine⟨O1.D,O1.C,O1.B,λz q hz =>?_,(λhm=>by rw[h1]at hm;cases hm),O1.Z⟩
  rw[aL]at hz
  cases e:z==y with
  | true=>rw[e]at hz;cases hz;exact⟨j,lps,aq _,lam⟩
  | false=>rw[e]at hz;cases hz
 exact Fy (M:=M.to caps capv cds base) rfl F S λX' S'=>(snd fu _ _ _ (.of O' h1)).b _ _ _ _ (hc g φ) X' S'
end
structure sx(K:av)(x:Str)(st:Stmt)(c P:Addr):Prop where
 ex: ∃(f:Addr) (oc:Value) (od:Option Addr) (kV doc pm:Value) (an:Option Addr) (ct:Value) (sl:Array (Option Value)),dY K mainGlobals x=some (some (.ref f)) /\
  K.lookup f=some ⟨oc,od,.func (cx x x (fe st) (aN st) (ao st) .none kV doc pm an (.ref c) ct),sl⟩/\gv K (.ref c) x=true/\cW K (.ref f)=true
 cd : ∃ (vs:Array Value) (od:Option Addr) (sl:Array (Option Value)) (file:Str) (tf:Tok) (flags:Int) (tg:Tok) (inF:Bool) (text:Int) (tt:Tok),K.lookup c=some ⟨.type "code",od,.fields vs,sl⟩/\vs[11]? = some (.ref P)/\vs.getD 11 .none = .ref P/\vs.getD 18 .none = .str file tf /\
  vs.getD 7 .none = .int flags tg/\vs.getD 9 .none = .bool inF/\vs.getD 10 .none = .int text tt/\c≠P
section
variable {M:Mo}{T:Tb}{k:Nat}{h:Heap}{x:Str}{st:Stmt}{N ps:List Str}{ms:MS}{fu:Nat}{c P:Addr}
theorem sx.mkr(D:sx M.K x st c P)(B:gm M.mg M.base)(X:M.K.K.In h)(Gn:h.Ns mainGlobals M.mg){q:Str}(hm:(P,q)∈M.K.tabs)(nd:(M.K.tabs.map (·.1)).Nodup)(hg:mainGlobals≠P):Mkr M c P q where
 hd:=λh' X'=>by
  obtain⟨vs,od,sl,file,tf,flags,tg,inF,text,tt,e,r⟩:=D.cd
  obtain⟨r1,r2,r3,r4,r5,r6,r7⟩:=r
  exact⟨_,vs,file,tf,flags,tg,inF,text,tt,X' _ _ e,rfl,rfl,r1,r2,r3,r4,r5,r6,r7⟩
 bl:=B
 gP:=hg
 mem:=hm
 un:=λr hr e=>by
  have key: ∀(l:List (Addr×Str)),(l.map (·.1)).Nodup->r∈l->(P,q)∈l->r.2=q:=by
   intro l
   induction l with
   | nil=>intro _ h;simp at h
   | cons y l ih=>
     intro nd h1 h2
     rw[bE,eC]at nd
     rcases aK.mp h1 with h1 |h1
     ·rcases aK.mp h2 with h2 |h2
      ·rw[h1,<- h2]
      ·exact absurd (aH.mpr ⟨_,h2,rfl⟩) (by rw[<- e,h1]at *;exact nd.1)
     ·rcases aK.mp h2 with h2 |h2
      ·exact absurd (aH.mpr ⟨r,h1,e⟩) (by rw[<- h2]at nd;exact nd.1)
      ·exact ih nd.2 h1 h2
  exact key _ nd hr hm
theorem sx.ok (D:sx M.K x st c P) (h0:M.mkr=none) (O : ∀ caps capv cds base,gm M.mg base->TOk (M.to caps capv cds base) T k) (O0:TOk M T k) (hL:T.L = []) (h1:T.mkr=false) (hH : ∀ y F,T.H.lookup y=some F -> ∃ k' ps,k'<=k+1/\FnC M y k' ps F) (hF : ∀ y rz,T.Z.F.lookup y=some rz -> ∃ k',k'<=k+1/\FnR M T.Z.cl y k' rz) {nm:Str} (MK:Mkr M c P (x++".<locals>."++nm))
  (S:aX N ps (ao st)) (hc:cB ⟨T.D,T.C,T.L,T.H,true,T.Z.to nm⟩ fu N (ao st).names (aN st)=some ms)
  {f:Addr}{oc kV doc pm ct:Value}{od an:Option Addr}{sl:Array (Option Value)} (lk:M.K.K.lookup f=some ⟨oc,od,.func (cx x x (fe st) (aN st) (ao st) .none kV doc pm an (.ref c) ct),sl⟩) (hcd:gv M.K.K (.ref c) x=true):
  jB M.P M.w M.K M.mg M.base CX0 (k+3) f (cx x x (fe st) (aN st) (ao st) .none kV doc pm an (.ref c) ct) ps (spM M.K (run ps.length N.length ms)):=by
 let M1:Mo:=⟨M.P,M.w,M.K,M.mg,M.base,some (c,x++".<locals>.")⟩
 have O1:TOk M1 ⟨T.D,T.C,T.L,T.H,true,T.Z.to nm⟩ (k+2):=by
  have Om:=O0.mono (show k<=k+2 by omega)
  refine⟨fun y g hy => ?_,Om.C,Om.B,fun y q hy => ?_,fun _=>⟨c,x++".<locals>.",P,rfl,MK.hd,MK.bl,MK.gP,MK.mem,MK.un⟩,fun y r hy => ?_⟩
  ·obtain⟨k',ps',hk,F'⟩:=Om.D y g hy
   exact⟨k',ps',hk,⟨F'.ex⟩⟩
  ·rw[show(⟨T.D,T.C,T.L,T.H,true,T.Z.to nm⟩:Tb).L=T.L from rfl,hL]at hy
   cases hy
  ·obtain⟨k',ps',hk,F'⟩:=Om.Z y r hy
   exact⟨k',ps',hk,⟨F'.ex⟩⟩
 have G1:GOk M1 ⟨T.D,T.C,T.L,T.H,true,T.Z.to nm⟩ (k+2):=⟨O1,λ_=>⟨k,aq _,λy F hy=>by
  obtain⟨k',ps',hk,FC⟩:=hH y F hy
  exact⟨k',ps',hk,⟨FC.ex⟩⟩,λy rz hy=>by
  obtain⟨k',hk,FC⟩:=hF y rz hy
  exact⟨k',hk,⟨FC.ex⟩⟩,λcaps capv cds base hbb=>by
   have Ob:=O caps capv cds base hbb
   exact⟨Ob.D,Ob.C,Ob.B,λy q hy=>(by cases hy),λz=>(by cases z),Ob.Z⟩⟩⟩
 have len: ∀vs H Q E,spM M.K (run ps.length N.length ms) vs H Q E->vs.length=ps.length:=λvs H Q E h=>by
  obtain⟨μ,S',us,u,S'',hr,rs,e,_⟩:=h
  unfold run at e
  split at e
  ·rename_i hl;rw[<- rs.len];exact hl
  ·cases e
 refine _L.Cd lk hcd S len λA outer s H vs Q E hr h=>⟨tMS M.K ms,((snd fu M1 _ _ G1).b _ _ _ _ hc _ (Sc.def (M:=M1) S hr λc' q' hq=>by cases hq;exact⟨rfl,rfl⟩)).nox,?_⟩
 obtain⟨μ,S1,us,u,S2,hr,rs,e,ka⟩:=h
 unfold run at e
 split at e
 ·rename_i hl
  have er:=wM (N:=N) rs
  rw[hl]at er
  split at e
  ·rename_i w ρ' S3 q
   cases e
   exact⟨μ,S1,_,_,hr,er,q,ka⟩
  ·rename_i ρ' S3 q
   cases e
   exact⟨μ,S1,_,_,hr,er,q,λμ' σ' H' p' k' hr' er'=>ka μ' _ H' p' k' hr' rH⟩
  ·cases e
 ·cases e
theorem sx.fn (D:sx M.K x st c P) (h0:M.mkr=none) (O : ∀ caps capv cds base,gm M.mg base->TOk (M.to caps capv cds base) T k) (O0:TOk M T k) (hL:T.L = []) (h1:T.mkr=false) (hH : ∀ y F,T.H.lookup y=some F -> ∃ k' ps,k'<=k+1/\FnC M y k' ps F) (hF : ∀ y rz,T.Z.F.lookup y=some rz -> ∃ k',k'<=k+1/\FnR M T.Z.cl y k' rz) {nm:Str} (MK:Mkr M c P (x++".<locals>."++nm))
  (X:M.K.K.In h) (Gn:h.Ns mainGlobals M.mg) (S:aX N ps (ao st))
  (hb: ∀(kV doc pm:Value) (an:Option Addr) (cdv ct:Value) (us:List Value),us.length=ps.length->bindArgs (cx x x (fe st) (aN st) (ao st) .none kV doc pm an cdv ct) ⟨us,[]⟩=pure (ps.zip us))
  (hc:cB ⟨T.D,T.C,T.L,T.H,true,T.Z.to nm⟩ fu N (ao st).names (aN st)=some ms):Fn M x (k+3) ps (run ps.length N.length ms):=by
 obtain⟨f,oc,od,kV,doc,pm,an,ct,sl,a,lk,hcd,hkp⟩:=D.ex
 exact⟨f,_,fF X Gn a,hkp,.all (hb kV doc pm an (.ref c) ct),D.ok h0 O O0 hL h1 hH hF MK S hc lk hcd⟩
end
section
variable {M:Mo}
theorem oa{Hs:List (Str×(Addr->MF->MF))}{j k:Nat}(h: ∀y F,Hs.lookup y=some F -> ∃k' ps,k'<=j/\FnC M y k' ps F)(hj:j<=k): ∀y F,Hs.lookup y=some F -> ∃k' ps,k'<=k/\FnC M y k' ps F:=λy F hy=>
 let ⟨k',ps,a,b⟩:=h y F hy;⟨k',ps,aF a hj,b⟩
theorem IH{Hs:List (Str×(Addr->MF->MF))}{i j k:Nat}{x:Str}{F0:Addr->MF->MF}{ps:List Str}(h: ∀y F,Hs.lookup y=some F -> ∃k' ps,k'<=j/\FnC M y k' ps F)(F1:FnC M x i ps F0)(hi:i<=k)(hj:j<=k): ∀y F,((x,F0)::Hs).lookup y=some F -> ∃k' ps,k'<=k/\FnC M y k' ps F:=λy F hy=>by
 rw[aL]at hy
 cases e:y==x with
 | true=>rw[e]at hy;cases hy;rw[eq_of_beq e];exact⟨i,ps,hi,F1⟩
 | false=>rw[e]at hy;exact oa h hj y F hy
end
theorem Jl{K:av}{x:Str}{st:Stmt}{f c P:Addr}{od an od':Option Addr}{sl sl':Array (Option Value)}{oc kV doc pm ct:Value}{vs:Array Value}{file:Str}{tf tg tt:Tok}{flags text:Int}{inF:Bool}(a:dY K mainGlobals x=some (some (.ref f)))
  (l:K.lookup f=some ⟨oc,od,.func (cx x x (fe st) (aN st) (ao st) .none kV doc pm an (.ref c) ct),sl⟩) (cc:gv K (.ref c) x=true) (k:cW K (.ref f)=true)
  (e:K.lookup c=some ⟨.type "code",od',.fields vs,sl'⟩) (r1:vs[11]? = some (.ref P)) (r2:vs.getD 11 .none = .ref P) (r3:vs.getD 18 .none = .str file tf) (r4:vs.getD 7 .none = .int flags tg) (r5:vs.getD 9 .none = .bool inF) (r6:vs.getD 10 .none = .int text tt) (r7:c≠P):sx K x st c P:=
 ⟨⟨f,oc,od,kV,doc,pm,an,ct,sl,a,l,cc,k⟩,⟨vs,od',sl',file,tf,flags,tg,inF,text,tt,e,r1,r2,r3,r4,r5,r6,r7⟩⟩
theorem Lk {l:oj}{w:World}{K:av}{h:Heap}{mg:Str->Option Value}{fa:Addr}{st:Stmt}{N:List Str}{ms:MS}{fu k:Nat}{T:Tb} (X:K.In h) (Gn:h.Ns mainGlobals mg) (hfa:mg "law"=some (.ref fa))
  (D:Def K "law" st) (S:aX N ["script"] (ao st))
  (hb : ∀ (kV doc pm:Value) (an:Option Addr) (cdv ct:Value) (us:List Value),us.length = ["script"].length->bindArgs (cx "law" "law" (fe st) (aN st) (ao st) .none kV doc pm an cdv ct) ⟨us,[]⟩=pure ((["script"]:List Str).zip us))
  {tabs:List (Addr×Str)} (h1:T.mkr=false) (hO: ∀base:Heap,gm mg base->TOk ⟨l.prog,w,⟨K,[],[],[],tabs⟩,mg,base,none⟩ T k) (hc:cB T fu N (ao st).names (aN st)=some ms):
  ∃ fd:FuncData,(∀ (s:Shared) (v:Value),BindsTo s fd ⟨[v],[]⟩ [("script",v)]) /\ ∀ base:Heap,K.In base->base.Ns mainGlobals mg->gm mg base->jB l.prog w K mg base CX0 (k+1) fa fd ["script"] (spM ⟨K,[],[],[],tabs⟩ (run 1 N.length ms)):=by
 obtain⟨f,fd,a,F⟩:=D.ex
 have e:=hfa.symm.trans (fF X Gn a)
 cases e
 refine⟨fd,λs v =>?_,λbase _ _ hbb=>Fy (M:=⟨l.prog,w,⟨K,[],[],[],tabs⟩,mg,base,none⟩) rfl F S λX' S'=>(snd fu _ _ _ (.of (hO base hbb) h1)).b _ _ _ _ hc X' S'⟩
 obtain⟨oc,od,kV,doc,pm,an,cdv,ct,osl,rfl,lk,hcd⟩:=F.ex
 exact .of_eq (hb kV doc pm an cdv ct [v] rfl)
theorem PP{K:av}{tabs:List (Addr×Str)}{H:Hp}{a:Addr}{ns:List Int}{m:MF}(hT: ∀q∈tabs,AQ H q.1 q.2)(hS:SqL K H a (ns.map V.int))(hm: ∀S:Sto,S.length=1->getL S 0=some (ns.map U.int) -> ∃S',m [.ref 0] S=some (.bl true,S')):
  spM ⟨K,[],[],[],tabs⟩ m [.ref a] H (λv _=>v = .bl true) λ_ _ _=>False:=by
 have key: ∃c:Cell,oP ⟨K,[],[],[],tabs⟩ H [a] a c/\getL [c] 0=some (ns.map U.int):=by
  rcases hS with (h | ⟨o,h⟩) |h
  ·exact⟨.lst (ns.map U.int),⟨_,h,RUs.ints ns⟩,rfl⟩
  ·exact⟨.frz (ns.map U.int),⟨_,.inl ⟨o,h⟩,RUs.ints ns⟩,rfl⟩
  ·exact⟨.frz (ns.map U.int),⟨_,.inr (.inr h),RUs.ints ns⟩,rfl⟩
 obtain⟨c,hc,hg⟩:=key
 obtain⟨S',e⟩:=hm [c] rfl hg
 refine⟨[a],[c],[.ref 0],.bl true,S',⟨rfl,λn m us ws q1 q2 _ _ _ =>?_,λn c' b q1 q2 =>?_,⟨.nil,λq hq=>(nomatch hq),hT⟩⟩,.cons (AI rfl) .nil,e,λμ' v H' _ _ _ r=>jM r⟩
 ·have h1:=(ah.mp q1).1
  have h2:=(ah.mp q2).1
  simp at h1 h2;omega
 ·have h1:=(ah.mp q1).1
  simp at h1;subst h1
  cases q1;cases q2
  exact hc
end _G
end
section
namespace _G
open PySem PySem.Spec _L
open PySem.W (CodeHd tabObj tabIn)
open PyProof.Rows hiding St
theorem sx.tab{K:av}{x:Str}{st:Stmt}{c P:Addr}(D:sx K x st c P):tabIn K x=some (c,P):=by
 obtain⟨f,oc,od,kV,doc,pm,an,ct,sl,e1,e2,_⟩:=D.ex
 obtain⟨vs,od',sl',file,tf,flags,tg,inF,text,tt,e3,e4,_⟩:=D.cd
 unfold tabIn
 simp only[e1,e2,e3,e4]
noncomputable def zr(K:av)(tabs:List (Addr×Str))(a:Addr)(o:Obj)(xs:List V):Hp:=λb=>
 if b∈tabs.map (·.1) then some (.tbl #[]) else if b=a/\K.lookup a=none then some (.frz o (.lst xs)) else none
section
variable {P:Program}{w:World}{K:av}{mg mb:Str->Option Value}{k:Nat}{fa a:Addr}{fd:FuncData}{x:Str}{sp:Sp}{s:Shared}{vs:List Value}{ns:List Int}{tabs:List (Addr×Str)}
theorem IP (kx:K.In s.heap) (hns:s.heap.Ns mainGlobals mg) (hb:s.heap.Ns builtinsNs mb) (hbb : ∀ x:Str,x≠"__name__"->mb x=bootBuiltins x) (hlim:s.heap.NoLimit) (hbm:gm mg s.heap) (hg:s.gens = #[])
  (ha:s.heap.get? a=some { cls := .type "list",data := .seq vs.toArray }) (hi:IntsAre vs ns) (hl:ns.length<=sizeLine) (hr:kQ k callerA)
  (hT: ∀r∈tabs,K.lookup r.1=none /\ ∃c,s.heap.TableAt c r.1 #[])
  (F: ∀base:Heap,K.In base->base.Ns mainGlobals mg->gm mg base->jB P w K mg base CX0 k fa fd [x] sp) (hbind: ∀(s:Shared) (u:Value),BindsTo s fd ⟨[u],[]⟩ [(x,u)])
  (hsp: ∀H:Hp,(∀r∈tabs,AQ H r.1 r.2)->SqL K H a (ns.map V.int)->sp [.ref a] H (λv _=>v = .bl true) λ_ _ _=>False):
  md (model P w) callerA (.call (.ref fa) ⟨[.ref a],[]⟩) (λr s'=>r = .ok (.ret (.bool true))/\OldK s.heap s'.heap/\s'.os=s.os/\AllBare s'.gens) s:=by
 have rv:=rj hi
 have lenV:=hi.length
 let o:Obj:={ cls := .type "list",data := .seq vs.toArray }
 let H:=zr K tabs a o (ns.map V.int)
 have hH:H=zr K tabs a o (ns.map V.int):=rfl
 have tab: ∀b,b∈tabs.map (·.1)->H b=some (.tbl #[])/\K.lookup b=none /\ ∃c,s.heap.TableAt c b #[]:=λb hb=>by
  obtain⟨r,hr,e⟩:=aH.mp hb
  subst e
  exact⟨if_pos hb,hT r hr⟩
 have anot:a∉tabs.map (·.1):=λz=>by
  obtain⟨_,_,c,ht⟩:=tab a z
  have e:=ht.2
  rw[ha]at e
  cases e
 have Hof: ∀b u,H b=some u->(b∈tabs.map (·.1)/\u = .tbl #[])\/(b=a/\K.lookup a=none/\u = .frz o (.lst (ns.map V.int))):=λb u e=>by
  rw[hH]at e
  unfold zr at e
  split at e
  ·rename_i z;cases e;exact .inl ⟨z,rfl⟩
  ·split at e
   ·rename_i z;cases e;exact .inr ⟨z.1,z.2,rfl⟩
   ·cases e
 have nodic: ∀{b:Addr}{o:Obj}{es:Array DictEntry}{ep:Nat},s.heap.get? b=some o->o.data = .dict es ep->H b=none:=λ{b o' es ep} e d=>by
  cases q:H b with
  | none=>rfl
  | some u=>
    rcases Hof b u q with⟨z,_⟩ | ⟨z,_⟩
    ·obtain⟨_,_,c,ht⟩:=tab b z
     have e2:=ht.2
     rw[e]at e2;cases e2;cases d
    ·subst z
     rw[ha]at e;cases e;cases d
 have nsK: ∀{b:Addr}{m:Str->Option Value},s.heap.Ns b m->(wa s.heap H).Ns b m:=λ{b m} ⟨o,es,ep,e,d,r⟩=>⟨o,es,ep,ql e (nodic e d),d,r⟩
 have hKb:K.In (wa s.heap H):=λb o' e=>ql (kx b o' e) (by
  cases q:H b with
  | none=>rfl
  | some u=>
    rcases Hof b u q with⟨z,_⟩ | ⟨z,z2,_⟩
    ·rw[(tab b z).2.1]at e;cases e
    ·rw[z,z2]at e;cases e)
 have hok:HOk P w H s.heap:=λb u e=>by
  rcases Hof b u e with⟨z,rfl⟩ | ⟨rfl,z2,rfl⟩
  ·obtain⟨_,_,c,ht⟩:=tab b z
   exact ht.2
  ·exact⟨ha,by rw[ak];exact hl,vs,_,rv,ha⟩
 have hS:SqL K H a (ns.map V.int):=by
  cases hk:K.lookup a with
  | some o'=>
    have e:=kx a o' hk
    rw[ha]at e
    cases e
    exact .inr ⟨_,vs.toArray,_,hk,rfl,rfl,rfl,by rw[aD,lenV];exact hl,by simpa using rv⟩
  | none=>exact .inl (.inr ⟨o,by show zr K tabs a o (ns.map V.int) a=_;unfold zr;rw[if_neg anot,if_pos ⟨rfl,hk⟩]⟩)
 have hM:Mod K mg (wa s.heap H):=⟨hKb,nsK hns,⟨mb,nsK hb,hbb⟩,let ⟨mc,h1,h2⟩:=hlim;⟨mc,nsK h1,h2⟩⟩
 have e0:Di P w K mg (wa s.heap H) callerA [] s H:=⟨rfl,hM,λb o e=>Bn e,wj (wC _ _),trivial,λb hb=>absurd (show b∈([]:List Addr) from hb) (by simp),hok,.of_eq hg⟩
 have hBb:gm mg (wa s.heap H):=by
  obtain⟨bm,ob,e1,e2,e3,e4,e5,e6⟩:=hbm
  refine⟨bm,ob,e1,e2,ql e3 ?_,e4,e5,e6⟩
  cases q:H bm with
  | none=>rfl
  | some u=>
    rcases Hof bm u q with⟨z,_⟩ | ⟨z,_⟩
    ·obtain⟨_,_,c,ht⟩:=tab bm z
     have e:=ht.2
     rw[e3]at e;cases e;cases e6
    ·rw[z,ha]at e3;cases e3;cases e6
 have hTR: ∀r∈tabs,AQ H r.1 r.2:=λr hr=>⟨#[],(tab r.1 (aH.mpr ⟨r,hr,rfl⟩)).1,trivial,λpos cv h=>by cases h⟩
 refine iC ((F _ hKb (nsK hns) hBb).run callerA [] s H ⟨[.ref a],[]⟩ [.ref a] [.ref a] _ _ hr e0 (hbind s (.ref a)) (.cons rfl .nil) (hsp H hTR hS)) λr s' h =>?_
 cases r with
 | error e=>exact h.elim
 | ok fl=>
   cases fl with
   | next=>exact cX h
   | brk=>exact cX h
   | cont=>exact cX h
   | ret u=>
     obtain⟨v,H',os,bare,un,hok',r',q⟩:=h
     have q':v = .bl true:=q
     subst q'
     obtain rfl:u=oC true:=r'
     refine⟨rfl,⟨λb o' e =>?_,λb o' e=>un.there b o' e (by simp)⟩,os,bare⟩
     cases q:H b with
     | none=>exact .inl (un.keep b o' e q (by intro z;exact absurd (show b∈([]:List Addr) from z) (by simp)) (by simp))
     | some u=>
       rcases Hof b u q with⟨z,rfl⟩ | ⟨rfl,_,rfl⟩
       ·obtain⟨_,_,c,ht⟩:=tab b z
        obtain⟨more,e2⟩:=un.tbls b #[] q
        have e3:s'.heap.get? b=some { cls:= .none,data:= .fields (#[]++more) }:=hok' b _ e2
        have e4:=ht.2
        rw[e]at e4
        cases e4
        exact .inr (.inl ⟨ht.isCodeTable,rfl,#[],more,rfl,e3⟩)
       ·obtain⟨e2,_⟩:=hok' b _ (un.frzs b _ _ q)
        rw[ha]at e
        cases e
        exact .inl e2
end
theorem Fz{l:oj}{n k:Nat}{q:Program}{loose:List Str}{XP:(Str->Option Value)->Heap->Prop}{YP:World->Heap->Prop}{d:DefRec}{K:Params->av}{x:Str}
  (hn:l.most=some n) (hn2:n<=sizeLine) (hdf:d.params.defaults = []) (hr:kQ k callerA) (hY: ∀(w:World) (h:Heap),YP w h->(K w.params).In h)
  (F: ∀(w:World) (mg:Str->Option Value) (fa:Addr) (h:Heap),(K w.params).In h->h.Ns mainGlobals mg->mg d.name=some (.ref fa) -> ∃(tabs:List (Addr×Str)) (fd:FuncData) (sp:Sp),
   (∀r∈tabs,(K w.params).lookup r.1=none /\ ∃x d c,(recsOf q).find? (λe=>e.name==x)=some d/\tabIn (K w.params) x=some (c,r.1)) /\
   (∀(s:Shared) (u:Value),BindsTo s fd ⟨[u],[]⟩ [(x,u)])/\(∀base:Heap,(K w.params).In base->base.Ns mainGlobals mg->gm mg base->jB l.prog w (K w.params) mg base CX0 k fa fd [x] sp) /\
   ∀(H:Hp) (a:Addr) (ns:List Int),ns.length<=n->(∀r∈tabs,AQ H r.1 r.2)->SqL (K w.params) H a (ns.map V.int)->sp [.ref a] H (λv _=>v = .bl true) λ_ _ _=>False):
  PySem.W.WalkO q loose XP YP l.row.toRowW d [] (λf vs=>PySem.call f vs):=by
 refine Att.attach_call hn hdf λw s₀ s₁ mg mb fa o pm cd doc a vs ns G Y ho hd hcd hmg hobj hints hlen hg =>?_
 have kx:=hY w _ Y
 obtain⟨tabs,fd,sp,hT,hb,hF,hsp⟩:=F w mg fa _ kx G.T.g hmg
 refine IP (tabs:=tabs) kx G.T.g G.T.b G.T.builtins G.T.nolimit G.T.bmain hg hobj hints (aF hlen hn2) hr (λr hr =>?_) hF hb λH h1 h2=>hsp H a ns hlen h1 h2
 obtain⟨h1,x',d',c,h2,h3⟩:=hT r hr
 obtain⟨h4,h5⟩:=PySem.W.tab_of G.T kx h2 h3
 exact⟨h1,c,h4.tab h5⟩
end _G
end
section
namespace _G
open PySem PySem.Spec _L
theorem usC{p:List Value->Prop}{n:Nat}(h: ∀a us,us.length=n->p (a::us)): ∀us:List Value,us.length=n+1->p us:=λus hl=>by
 cases us with
 | nil=>cases hl
 | cons a us=>exact h a us (Ae hl)
theorem us0{p:List Value->Prop}(h:p []): ∀us:List Value,us.length=0->p us
 | [],_=>h
theorem us1{p:List Value->Prop}(h: ∀a,p [a]): ∀us:List Value,us.length=1->p us:=usC λa us hl=>dw hl▸h a
theorem us2{p:List Value->Prop}(h: ∀a b,p [a,b]): ∀us:List Value,us.length=2->p us:=usC λa=>us1 (h a)
theorem us3{p:List Value->Prop}(h: ∀a b c,p [a,b,c]): ∀us:List Value,us.length=3->p us:=usC λa=>us2 (h a)
theorem us4{p:List Value->Prop}(h: ∀a b c d,p [a,b,c,d]): ∀us:List Value,us.length=4->p us:=usC λa=>us3 (h a)
theorem us5{p:List Value->Prop}(h: ∀a b c d e,p [a,b,c,d,e]): ∀us:List Value,us.length=5->p us:=usC λa=>us4 (h a)
theorem TOk.nm{M:Mo}{T:Tb}{k:Nat}(h:TOk M T k)(x:Str):TOk M ⟨T.D,T.C,[],T.H,false,T.Z.to x⟩ k:=⟨h.D,h.C,h.B,λ_ _ e=>(by cases e),λz=>(by cases z),h.Z⟩
noncomputable def Bd(x:Str)(st:Stmt)(ps:List Str):Prop:= ∀(kV doc pm:Value) (an:Option Addr) (cdv ct:Value) (us:List Value),us.length=ps.length->bindArgs (cx x x (fe st) (aN st) (ao st) .none kV doc pm an cdv ct) ⟨us,[]⟩=pure (ps.zip us)
structure Ch(P:Program)(w:World)(K:av)(mg:Str->Option Value)(tabs:List (Addr×Str))(T:Tb)(k:Nat):Prop where
 o: ∀(caps:List U) (capv:List V) (cds:List (Addr×Obj)) (base:Heap),gm mg base->TOk ⟨P,w,⟨K,caps,capv,cds,tabs⟩,mg,base,none⟩ T k
 h: ∀(caps:List U) (capv:List V) (cds:List (Addr×Obj)) (base:Heap),gm mg base -> ∀y F,T.H.lookup y=some F -> ∃k' ps,k'<=k/\FnC ⟨P,w,⟨K,caps,capv,cds,tabs⟩,mg,base,none⟩ y k' ps F
 r: ∀(caps:List U) (capv:List V) (cds:List (Addr×Obj)) (base:Heap),gm mg base -> ∀y rz,T.Z.F.lookup y=some rz -> ∃k',k'<=k/\FnR ⟨P,w,⟨K,caps,capv,cds,tabs⟩,mg,base,none⟩ T.Z.cl y k' rz
theorem pV{M:Mo}{Fs:List (Str×List Nat)}{cl:Nat->Addr}{j k:Nat}(h: ∀y rz,Fs.lookup y=some rz -> ∃k',k'<=j/\FnR M cl y k' rz)(hj:j<=k): ∀y rz,Fs.lookup y=some rz -> ∃k',k'<=k/\FnR M cl y k' rz:=λy rz hy=>
 let ⟨k',a,b⟩:=h y rz hy;⟨k',aF a hj,b⟩
section
variable {P:Program}{w:World}{K:av}{mg:Str->Option Value}{tabs:List (Addr×Str)}{T T':Tb}{k j:Nat}{h:Heap}{x:Str}{st:Stmt}{N ps:List Str}{ms:MS}{fu:Nat}
theorem Ch.mono(c:Ch P w K mg tabs T k)(hj:k<=j):Ch P w K mg tabs T j:=⟨λa b d e f=>(c.o a b d e f).mono hj,λa b d e f=>oa (c.h a b d e f) hj,λa b d e f=>pV (c.r a b d e f) hj⟩
theorem Ch.dfn(c:Ch P w K mg tabs T k)(O: ∀(caps:List U) (capv:List V) (cds:List (Addr×Obj)) (base:Heap),gm mg base->TOk ⟨P,w,⟨K,caps,capv,cds,tabs⟩,mg,base,none⟩ T' k)(h1:T'.mkr=false)(X:K.In h)(Gn:h.Ns mainGlobals mg)(D:Def K x st)(S:aX N ps (ao st))(hb:Bd x st ps)
  (hc:cB T' fu N (ao st).names (aN st)=some ms):Ch P w K mg tabs ⟨(x,run ps.length N.length ms)::T.D,T.C,T.L,T.H,T.mkr,T.Z⟩ (k+1):=
 ⟨λa b d e f=>(c.o a b d e f).cons (D.fn (M:=⟨P,w,⟨K,a,b,d,tabs⟩,mg,e,none⟩) (O a b d e f) rfl h1 X Gn S hb hc) (dJ k),λa b d e f=>oa (c.h a b d e f) (dJ k),λa b d e f=>pV (c.r a b d e f) (dJ k)⟩
theorem Ch.rec_{msR:MF->MS}(c:Ch P w K mg tabs T k)(i:Nat)(h1:T.mkr=false)(X:K.In h)(Gn:h.Ns mainGlobals mg)(D:Def K x st)(S:aX N ps (ao st))(hb:Bd x st ps)
  (hc: ∀ψ,cB ⟨(x,ψ)::T.D,T.C,T.L,T.H,T.mkr,T.Z⟩ fu N (ao st).names (aN st)=some (msR ψ)):Ch P w K mg tabs ⟨(x,jw ps.length N.length msR i)::T.D,T.C,T.L,T.H,T.mkr,T.Z⟩ (k+i):=
 ⟨λa b d e f=>(c.o a b d e f).cons (D.fnR (M:=⟨P,w,⟨K,a,b,d,tabs⟩,mg,e,none⟩) (c.o a b d e f) rfl h1 X Gn S hb hc i) (dm k i),λa b d e f=>oa (c.h a b d e f) (dm k i),λa b d e f=>pV (c.r a b d e f) (dm k i)⟩
theorem Ch.cls{y:Str}{msC:Addr->MF->MS}(c:Ch P w K mg tabs T k)(h1:T.mkr=false)(hL:T.L = [])(X:K.In h)(Gn:h.Ns mainGlobals mg)(D:Def K x st)(S:aX N ps (ao st))(hb:Bd x st ps)
  (hc: ∀g φ,cB ⟨T.D,T.C,[(y,g,φ)],T.H,T.mkr,T.Z⟩ fu N (ao st).names (aN st)=some (msC g φ)):Ch P w K mg tabs ⟨T.D,T.C,T.L,(x,λg φ=>run ps.length N.length (msC g φ))::T.H,T.mkr,T.Z⟩ k:=
 ⟨λa b d e f=>(c.o a b d e f).setH,λa b d e f=>IH (c.h a b d e f) (D.fnC (M:=⟨P,w,⟨K,a,b,d,tabs⟩,mg,e,none⟩) c.o h1 hL X Gn S hb hc) (aq k) (aq k),c.r⟩
theorem Ch.lam_ {a p:Addr}{nm:Str} (c:Ch P w K mg tabs T k) (h1:T.mkr=false) (hL:T.L = []) (hm:(p,x++".<locals>."++nm)∈tabs) (nd:(tabs.map (·.1)).Nodup) (hg:mainGlobals≠p) (X:K.In h) (Gn:h.Ns mainGlobals mg) (D:sx K x st a p) (S:aX N ps (ao st)) (hb:Bd x st ps)
  (hc:cB ⟨T.D,T.C,T.L,T.H,true,T.Z.to nm⟩ fu N (ao st).names (aN st)=some ms):Ch P w K mg tabs ⟨(x,run ps.length N.length ms)::T.D,T.C,T.L,T.H,T.mkr,T.Z⟩ (k+3):=
 ⟨λa b d e f=>(c.o a b d e f).cons (D.fn (M:=⟨P,w,⟨K,a,b,d,tabs⟩,mg,e,none⟩) rfl c.o (c.o a b d e f) hL h1 (oa (c.h a b d e f) (dJ k)) (pV (c.r a b d e f) (dJ k)) (D.mkr (M:=⟨P,w,⟨K,a,b,d,tabs⟩,mg,e,none⟩) f X Gn hm nd hg) X Gn S hb hc) (dm k 3),λa b d e f=>oa (c.h a b d e f) (dm k 3),λa b d e f=>pV (c.r a b d e f) (dm k 3)⟩
end
end _G
end
section
namespace _W
open PySem PySem.Spec _L _G
section
noncomputable def gw:MS:=bc (sIf (cOf (m2 oLt (ab 1) (mFn bJ (aa (ab 0) af)))) (bH (m2 oIx (ab 0) (ab 1))) cP) (bH (mC (.int 0)))
noncomputable def iX:MF:=run 2 2 gw
noncomputable def jY:MS:=bc (bI 2 (mFn iX (aa (ab 0) (aa (ab 1) af)))) (bc (sIf (cOf (m2 oGe (ab 2) (m2 xH (mC (.int 10)) (mC (.int 18))))) (bH (dz (aa (m2 u0 (ab 2) (m2 xH (mC (.int 10)) (mC (.int 18)))) (aa (mC (.bl true)) af)))) cP) (bH (dz (aa (m2 oMod (ab 2) (mC (.int 2147483647))) (aa (mC (.bl false)) af)))))
noncomputable def j1:MF:=run 2 3 jY
noncomputable def lu:MS:=bc (sIf (cOf (m2 oIx (ab 0) (mC (.int 1)))) (bc (bI 2 (m2 oMod (m2 oIx (ab 0) (mC (.int 0))) (ab 1))) (bc (jH (ab 0) (mC (.int 0)) (m2 oDiv (m2 oIx (ab 0) (mC (.int 0))) (ab 1))) (bH (ab 2)))) cP) (bc (jH (ab 0) (mC (.int 0)) (m2 oMod (m2 da (m2 hV (m2 oIx (ab 0) (mC (.int 0))) (mC (.int 48271))) (mC (.int 29))) (mC (.int 2147483647)))) (bc (bI 3 (m2 oMod (m2 da (m2 da (m2 hV (m2 oIx (ab 0) (mC (.int 0))) (m2 oIx (ab 0) (mC (.int 0)))) (m2 hV (mC (.int 39373)) (m2 oIx (ab 0) (mC (.int 0))))) (mC (.int 7))) (mC (.int 2147483629)))) (bc (bI 3 (m2 oMod (m2 da (m2 hV (ab 3) (ab 3)) (m2 hV (mC (.int 16807)) (ab 3))) (mC (.int 2147483587)))) (bH (m2 oMod (m2 oDiv (ab 3) (mC (.int 8))) (ab 1))))))
noncomputable def br:MF:=run 2 4 lu
noncomputable def nc:MS:=bH (mFn bT (aa (cm (iR1 (aa (ab 0) af)) cTT (mFn bT (aa (cm (iR1 (aa (ab 0) af)) cTT (m2 oMod (m2 da (ab 1) (ab 2)) (ab 0))) af))) af))
noncomputable def dM:MF:=run 1 1 nc
noncomputable def m8:MS:=bc (bI 1 (dz af)) (bc (fH 2 (iR1 (aa (m2 hV (mC (.int 2)) (ab 0)) af)) (bc (bI 3 (dz af)) (bc (fH 4 (iR1 (aa (m2 hV (mC (.int 2)) (ab 0)) af)) (bc (bI 5 (m2 oMod (m2 da (m2 oMod (ab 2) (ab 0)) (m2 hV (m2 oIx (dz (aa (mC (.int 1)) (aa (m1 jn (mC (.int 1))) af))) (m2 oDiv (ab 2) (ab 0))) (m2 oMod (ab 4) (ab 0)))) (ab 0))) (du (mML cU (ab 3) (aa (m2 da (ab 5) (m2 hV (ab 0) (m2 oMod (m2 da (m2 oDiv (ab 2) (ab 0)) (m2 oDiv (ab 4) (ab 0))) (mC (.int 2))))) af))))) (du (mML cU (ab 1) (aa (mFn bT (aa (ab 3) af)) af)))))) (bH (mFn bT (aa (ab 1) af))))
noncomputable def fQ:MF:=run 1 6 m8
noncomputable def ki:MS:=bc (bI 0 (dz (aa (dz (aa (mC (.int 0)) (aa (mC (.int 0)) (aa (mC (.int 0)) (aa (mC (.int 0)) af))))) (aa (dz (aa (mC (.int 0)) (aa (mC (.int 1)) (aa (mC (.int 0)) (aa (mC (.int 1)) af))))) (aa (dz (aa (mC (.int 0)) (aa (mC (.int 1)) (aa (mC (.int 1)) (aa (mC (.int 0)) af))))) (aa (dz (aa (mC (.int 0)) (aa (mC (.int 0)) (aa (mC (.int 1)) (aa (mC (.int 1)) af))))) af)))))) (bc (bI 1 (dz (aa (dz (aa (mC (.int 0)) (aa (mC (.int 1)) (aa (mC (.int 2)) (aa (mC (.int 3)) af))))) (aa (dz (aa (mC (.int 1)) (aa (mC (.int 0)) (aa (mC (.int 3)) (aa (mC (.int 2)) af))))) (aa (dz (aa (mC (.int 2)) (aa (mC (.int 3)) (aa (mC (.int 0)) (aa (mC (.int 1)) af))))) (aa (dz (aa (mC (.int 3)) (aa (mC (.int 2)) (aa (mC (.int 1)) (aa (mC (.int 0)) af))))) af)))))) (bc (bI 2 (dz af)) (bc (fH 3 (iR1 (aa (mC (.int 8)) af)) (bc (bI 4 (dz af)) (bc (fH 5 (iR1 (aa (mC (.int 8)) af)) (bc (bI 6 (m2 oMod (m2 da (m2 da (ab 3) (ab 5)) (m2 oIx (m2 oIx (ab 0) (m2 oDiv (ab 3) (mC (.int 2)))) (m2 oDiv (ab 5) (mC (.int 2))))) (mC (.int 2)))) (du (mML cU (ab 4) (aa (m2 da (m2 hV (mC (.int 2)) (m2 oIx (m2 oIx (ab 1) (m2 oDiv (ab 3) (mC (.int 2)))) (m2 oDiv (ab 5) (mC (.int 2))))) (ab 6)) af))))) (du (mML cU (ab 2) (aa (mFn bT (aa (ab 4) af)) af)))))) (bH (mFn bT (aa (ab 2) af))))))
noncomputable def gK:MF:=run 0 7 ki
noncomputable def pe:MS:=bc (bI 2 (mFn bJ (aa (ab 1) af))) (bc (bI 3 (dz af)) (bc (fH 4 (iR1 (aa (m2 hV (mFn bJ (aa (ab 0) af)) (ab 2)) af)) (bc (bI 5 (dz af)) (bc (fH 6 (iR1 (aa (m2 hV (mFn bJ (aa (ab 0) af)) (ab 2)) af)) (bc (bI 7 (m2 oIx (m2 oIx (ab 0) (m2 oDiv (ab 4) (ab 2))) (m2 oDiv (ab 6) (ab 2)))) (du (mML cU (ab 5) (aa (m2 da (m2 hV (ab 7) (ab 2)) (m2 oIx (m2 oIx (ab 1) (m2 oMod (ab 4) (ab 2))) (m2 oMod (ab 6) (ab 2)))) af))))) (du (mML cU (ab 3) (aa (mFn bT (aa (ab 5) af)) af)))))) (bH (mFn bT (aa (ab 3) af)))))
noncomputable def lE:MF:=run 2 8 pe
noncomputable def nk:MS:=bH (mFn bT (aa (cm (dD (ab 1)) cTT (mFn bT (aa (cm (dD (ab 1)) cTT (mMT eO (ab 1) (aa (m2 oIx (m2 oIx (ab 0) (ab 2)) (ab 3)) af))) af))) af))
noncomputable def j3:MF:=run 2 2 nk
noncomputable def mF:MS:=bc (bI 2 (kr (iR2 (aa (mC (.int 1)) (aa (ab 1) af))))) (bH (m2 da (fN (aa (mC (.int 0)) af)) (mFn bT (aa (cm (iR1 (aa (m2 u0 (ab 1) (mC (.int 1))) af)) cTT (mML km (ab 2) (aa (mFn br (aa (ab 0) (aa (mFn bJ (aa (ab 2) af)) af))) af))) af))))
noncomputable def fG:MF:=run 2 3 mF
noncomputable def mI:MS:=bc (bI 2 (mFn br (aa (ab 0) (aa (mC (.int 8)) af)))) (bc (bI 3 (mFn dM (aa (m2 da (mC (.int 1)) (mFn br (aa (ab 0) (aa (ab 1) af)))) af))) (bc (sIf (cOr (cOf (m2 oEq (ab 2) (mC (.int 1)))) (cOf (m2 oEq (ab 2) (mC (.int 2))))) (bI 3 (mFn fQ (aa (m2 da (mC (.int 1)) (mFn br (aa (ab 0) (aa (m2 oDiv (ab 1) (mC (.int 2))) af)))) af))) cP) (bc (sIf (pv (cOf (m2 oEq (ab 2) (mC (.int 3)))) (cOf (m2 oGt (ab 1) (mC (.int 7))))) (bI 3 (mFn gK af)) cP) (bc (sIf (cOf (m2 oGt (ab 2) (mC (.int 3)))) (bc (bI 4 (m2 da (mC (.int 2)) (mFn br (aa (ab 0) (aa (mC (.int 3)) af))))) (bc (bI 5 (m2 oIx (dz (aa (mFn dM (aa (ab 4) af)) (aa (mFn fQ (aa (ab 4) af)) af))) (mFn br (aa (ab 0) (aa (mC (.int 2)) af))))) (bc (sIf (cOf (m2 oGt (mFn bJ (aa (ab 5) af)) (ab 1))) (bI 5 (mFn dM (aa (ab 4) af))) cP) (bI 3 (mFn lE (aa (ab 5) (aa (mFn dM (aa (m2 da (mC (.int 1)) (mFn br (aa (ab 0) (aa (m2 oDiv (ab 1) (mFn bJ (aa (ab 5) af))) af)))) af)) af))))))) cP) (bc (sIf (cOf (m2 oEq (mFn br (aa (ab 0) (aa (mC (.int 3)) af))) (mC (.int 0)))) (bI 3 (mFn j3 (aa (ab 3) (aa (mFn fG (aa (ab 0) (aa (mFn bJ (aa (ab 3) af)) af))) af)))) cP) (bH (ab 3)))))))
noncomputable def i4:MF:=run 2 6 mI
end
end _W
end
section
namespace _W
structure Grp(m:Nat)(T:Nat->Nat->Nat):Prop where
 pos:0<m
 cl: ∀i j,i<m->j<m->T i j<m
 l0: ∀i,i<m->T 0 i=i
 r0: ∀i,i<m->T i 0=i
 inv: ∀i,i<m -> ∃j,j<m/\T i j=0/\T j i=0
 as: ∀i j k,i<m->j<m->k<m->T (T i j) k=T i (T j k)
noncomputable def fq(n:Nat):Nat->Nat->Nat:=λi j=>(i+j) % n
theorem nT{n:Nat}(h:0<n):Grp n (fq n) where
 pos:=h
 cl:=λi j _ _=>vt _ h
 l0:=λi hi=>by unfold fq;rw[eM];exact bC hi
 r0:=λi hi=>by unfold fq;rw[wk];exact bC hi
 inv:=λi hi=>by
  by_cases h0:i=0
  ·subst h0;exact⟨0,h,by simp[fq],by simp[fq]⟩
  ·refine⟨n - i,by omega,?_,?_⟩ <;> unfold fq
   ·rw[show i+(n - i)=n by omega,pJ]
   ·rw[show n - i+i=n by omega,pJ]
 as:=λi j k _ _ _=>by
  unfold fq
  rw[pN,Nat.add_mod_mod,ff]
noncomputable def g8(n:Nat):Nat->Nat->Nat:=λi j=>
 (if i<n then(i % n+j % n) % n else(i % n+(n - j % n)) % n)+n*((i / n+j / n) % 2)
theorem half{n i:Nat}(h:i<2*n):(i<n/\i % n=i/\i / n=0)\/(n<=i/\i % n=i - n/\i / n=1):=by
 by_cases hi:i<n
 ·exact .inl ⟨hi,bC hi,hZ hi⟩
 ·refine .inr ⟨by omega,?_,?_⟩
  ·rw[Nat.mod_eq_sub_mod (by omega),bC (by omega)]
  ·exact Nat.div_eq_of_lt_le (by omega) (by omega)
theorem e9{n a b:Nat}(ha:a<n)(hb:b<n):g8 n a b=(a+b) % n:=by
 unfold g8
 rw[if_pos ha,bC ha,bC hb,hZ ha,hZ hb];simp
theorem Jx{n a:Nat}(ha:a<n):(n+a) / n=1:=Nat.div_eq_of_lt_le (by omega) (by omega)
theorem HJ{n a:Nat}(ha:a<n):(n+a) % n=a:=by rw[Nat.add_mod_left];exact bC ha
theorem iT{n a b:Nat}(ha:a<n)(hb:b<n):g8 n a (n+b)=n+(a+b) % n:=by
 unfold g8
 rw[if_pos ha,bC ha,HJ hb,hZ ha,Jx hb];simp;omega
theorem iU{n a b:Nat}(ha:a<n)(hb:b<n):g8 n (n+a) b=n+(a+(n - b)) % n:=by
 unfold g8
 rw[if_neg (by omega),HJ ha,bC hb,hZ hb,Jx ha];simp;omega
theorem iS{n a b:Nat}(ha:a<n)(hb:b<n):g8 n (n+a) (n+b)=(a+(n - b)) % n:=by
 unfold g8
 rw[if_neg (by omega),HJ ha,HJ hb,Jx ha,Jx hb];simp
theorem QD{n a b:Nat}(ha:a<n)(hb:b<n):(a+b) % n=if a+b<n then a+b else a+b - n:=by
 split
 ·exact bC (by assumption)
 ·rw[Nat.mod_eq_sub_mod (by omega),bC (by omega)]
theorem Qu{n a b:Nat}(ha:a<n)(hb:b<n):(a+(n - b)) % n=if b<=a then a - b else a+n - b:=by
 have e:=Nat.add_sub_assoc (ba hb) a
 split
 ·rename_i h
  rw[<- e,oG h,my,bC (ay (iP a b) ha)]
 ·rename_i h
  rw[bC (vv (Nat.add_lt_add_right (Nat.lt_of_not_le h) (n - b)) (kE (ba hb))),e]
theorem mR{n i:Nat}(h:i<2*n):(i<n) \/ ∃a,a<n/\i=n+a:=by
 by_cases hi:i<n
 ·exact .inl hi
 ·exact .inr ⟨i - n,by omega,by omega⟩
theorem JG{n a b c:Nat}:((a+b) % n+c) % n=(a+(b+c) % n) % n:=by rw[pN,Nat.add_mod_mod,ff]
theorem Pn{n a b c:Nat}(hb:b<n)(hc:c<n):((a+(n - b)) % n+(n - c)) % n=(a+(n - (b+c) % n)) % n:=by
 rw[pN,QD hb hc]
 split
 ·rename_i h
  have h1:n - b=n - (b+c)+c:=by rw[Nat.sub_add_eq,Nat.sub_add_cancel (Nat.le_sub_of_add_le' (ba h))]
  rw[h1,<- ff,ff _ c,kE (ba hc),my]
 ·rename_i h
  rw[<- mz b (ba hc),mz n (Nat.sub_le_of_le_add (bX h)),oG (ba hb),ff]
theorem Nc{n a b c:Nat}(hb:b<n)(hc:c<n):((a+(n - b)) % n+c) % n=(a+(n - (b+(n - c)) % n)) % n:=by
 rw[pN,Qu hb hc]
 split
 ·rename_i h
  rw[mz n h,oG (ba hb),ff]
 ·rename_i h
  have h':=ba (Nat.lt_of_not_le h)
  rw[pK b n,<- mz n h',Nat.sub_sub_self (aF (iP c b) (ba hc)),<- my (a+(c - b)) n,ff a (c - b) n,pK (c - b) n,<- Nat.add_sub_assoc h' n,oG (ba hb),ff]
theorem zK{n:Nat}(h:0<n):Grp (2*n) (g8 n):=by
 have ml: ∀x,x % n<n:=λx=>vt _ h
 have cl: ∀i j,i<2*n->j<2*n->g8 n i j<2*n:=λi j hi hj=>by
  rcases mR hi with hi | ⟨a,ha,rfl⟩ <;> rcases mR hj with hj | ⟨b,hb,rfl⟩
  ·rw[e9 hi hj];have:=ml (i+j);omega
  ·rw[iT hi hb];have:=ml (i+b);omega
  ·rw[iU ha hj];have:=ml (a+(n - j));omega
  ·rw[iS ha hb];have:=ml (a+(n - b));omega
 refine⟨by omega,cl,λi hi =>?_,λi hi =>?_,λi hi =>?_,λi j k hi hj hk =>?_⟩
 ·rcases mR hi with hi | ⟨a,ha,rfl⟩
  ·rw[e9 h hi,eM,bC hi]
  ·rw[iT h ha,eM,bC ha]
 ·rcases mR hi with hi | ⟨a,ha,rfl⟩
  ·rw[e9 hi h,wk,bC hi]
  ·rw[iU ha h,Nat.sub_zero,my,bC ha]
 ·rcases mR hi with hi | ⟨a,ha,rfl⟩
  ·by_cases h0:i=0
   ·subst h0;exact⟨0,by omega,by rw[e9 h h];simp,by rw[e9 h h];simp⟩
   ·have hl:n - i<n:=by omega
    refine⟨n - i,by omega,?_,?_⟩
    ·rw[e9 hi hl,show i+(n - i)=n by omega,pJ]
    ·rw[e9 hl hi,show n - i+i=n by omega,pJ]
  ·refine⟨n+a,by omega,?_,?_⟩ <;> rw[iS ha ha,show a+(n - a)=n by omega,pJ]
 ·rcases mR hi with hi | ⟨a,ha,rfl⟩ <;> rcases mR hj with hj | ⟨b,hb,rfl⟩ <;> rcases mR hk with hk | ⟨c,hc,rfl⟩
  ·rw[e9 hi hj,e9 hj hk,e9 (ml _) hk,e9 hi (ml _),JG]
  ·rw[e9 hi hj,iT hj hc,iT (ml _) hc,iT hi (ml _),JG]
  ·rw[iT hi hb,iU hb hk,iU (ml _) hk,iT hi (ml _),JG]
  ·rw[iT hi hb,iS hb hc,iS (ml _) hc,e9 hi (ml _),JG]
  ·rw[iU ha hj,e9 hj hk,iU (ml _) hk,iU ha (ml _),Pn hj hk]
  ·rw[iU ha hj,iT hj hc,iS (ml _) hc,iS ha (ml _),Pn hj hc]
  ·rw[iS ha hb,iU hb hk,e9 (ml _) hk,iS ha (ml _),Nc hb hk]
  ·rw[iS ha hb,iS hb hc,iT (ml _) hc,iU ha (ml _),Nc hb hc]
noncomputable def qi(m:Nat)(A B:Nat->Nat->Nat):Nat->Nat->Nat:=λi j=>A (i / m) (j / m)*m+B (i % m) (j % m)
theorem Ap{m a b:Nat}(hb:b<m):(a*m+b) / m=a/\(a*m+b) % m=b:=by
 have hm:0<m:=by omega
 constructor
 ·rw[kZ,Nat.mul_add_div hm,hZ hb];rfl
 ·rw[kZ,Nat.mul_add_mod,bC hb]
theorem FV{k m:Nat}{A B:Nat->Nat->Nat}(ga:Grp k A)(gb:Grp m B):Grp (k*m) (qi m A B):=by
 have hm:=gb.pos
 have dl: ∀i,i<k*m->i / m<k:=λi hi=>Nat.div_lt_of_lt_mul (by rw[kZ];exact hi)
 have rl: ∀i,i % m<m:=λi=>vt _ hm
 have lt: ∀a b,a<k->b<m->a*m+b<k*m:=λa b ha hb=>by
  have:(a+1)*m<=k*m:=jW m ha
  rw[Nat.add_mul]at this;omega
 refine⟨Nat.mul_pos ga.pos hm,λi j hi hj=>lt _ _ (ga.cl _ _ (dl i hi) (dl j hj)) (gb.cl _ _ (rl i) (rl j)),λi hi =>?_,λi hi =>?_,λi hi =>?_,λi j l hi hj hl =>?_⟩
 ·unfold qi;rw[Nat.zero_div,Nat.zero_mod,ga.l0 _ (dl i hi),gb.l0 _ (rl i),kZ];exact Nat.div_add_mod i m
 ·unfold qi;rw[Nat.zero_div,Nat.zero_mod,ga.r0 _ (dl i hi),gb.r0 _ (rl i),kZ];exact Nat.div_add_mod i m
 ·obtain⟨a,ha,a1,a2⟩:=ga.inv _ (dl i hi)
  obtain⟨b,hb,b1,b2⟩:=gb.inv _ (rl i)
  obtain⟨p1,p2⟩:=Ap (a:=a) hb
  refine⟨a*m+b,lt a b ha hb,?_,?_⟩ <;> unfold qi <;> rw[p1,p2]
  ·rw[a1,b1];simp
  ·rw[a2,b2];simp
 ·unfold qi
  obtain⟨p1,p2⟩:=Ap (a:=A (i / m) (j / m)) (gb.cl _ _ (rl i) (rl j))
  obtain⟨q1,q2⟩:=Ap (a:=A (j / m) (l / m)) (gb.cl _ _ (rl j) (rl l))
  rw[p1,p2,q1,q2,ga.as _ _ _ (dl i hi) (dl j hj) (dl l hl),gb.as _ _ _ (rl i) (rl j) (rl l)]
noncomputable def Of:List (List Nat):= [[0,1,2,3,4,5,6,7],[1,0,3,2,5,4,7,6],[2,3,1,0,6,7,5,4],[3,2,0,1,7,6,4,5],[4,5,7,6,1,0,2,3],[5,4,6,7,0,1,3,2],[6,7,4,5,3,2,1,0],[7,6,5,4,2,3,0,1]]
noncomputable def gq:Nat->Nat->Nat:=λi j=>(Of.getD i []).getD j 0
noncomputable def q1:Bool:=(aB 8).all λi=>(gq 0 i==i)&&(gq i 0==i)&&((aB 8).any λj=>(gq i j==0)&&(gq j i==0))&&(aB 8).all λj=>decide (gq i j<8)&&(aB 8).all λk=>gq (gq i j) k==gq i (gq j k)
theorem Nh:q1=true:=by decide +kernel
theorem CD:Grp 8 gq:=by
 have h:=bP.mp Nh
 have g: ∀i,i<8->_:=λi hi=>h i (bp.mpr hi)
 simp only[aA,bP,xh,bp,beq_iff_eq,decide_eq_true_eq]at g
 refine⟨by decide,λi j hi hj=>((g i hi).2 j hj).1,λi hi=>(g i hi).1.1.1,λi hi=>(g i hi).1.1.2,λi hi =>?_,λi j k hi hj hk=>((g i hi).2 j hj).2 k hk⟩
 obtain⟨j,hj,a,b⟩:=(g i hi).1.2
 exact⟨j,hj,a,b⟩
structure Ord(m:Nat)(o p:Nat->Nat):Prop where
 ol: ∀i,i<m->o i<m
 pl: ∀i,i<m->p i<m
 po: ∀i,i<m->p (o i)=i
 op: ∀i,i<m->o (p i)=i
 o0:o 0=0
noncomputable def dv(T:Nat->Nat->Nat)(o p:Nat->Nat):Nat->Nat->Nat:=λi j=>p (T (o i) (o j))
theorem n8{m:Nat}{T:Nat->Nat->Nat}{o p:Nat->Nat}(g:Grp m T)(h:Ord m o p):Grp m (dv T o p):=by
 have p0:p 0=0:=by have:=h.po 0 g.pos;rwa[h.o0]at this
 refine⟨g.pos,λi j hi hj=>h.pl _ (g.cl _ _ (h.ol i hi) (h.ol j hj)),λi hi =>?_,λi hi =>?_,λi hi =>?_,λi j k hi hj hk =>?_⟩
 ·unfold dv;rw[h.o0,g.l0 _ (h.ol i hi),h.po i hi]
 ·unfold dv;rw[h.o0,g.r0 _ (h.ol i hi),h.po i hi]
 ·obtain⟨j,hj,a,b⟩:=g.inv _ (h.ol i hi)
  refine⟨p j,h.pl j hj,?_,?_⟩ <;> unfold dv <;> rw[h.op j hj]
  ·rw[a,p0]
  ·rw[b,p0]
 ·unfold dv
  rw[h.op _ (g.cl _ _ (h.ol i hi) (h.ol j hj)),h.op _ (g.cl _ _ (h.ol j hj) (h.ol k hk)),g.as _ _ _ (h.ol i hi) (h.ol j hj) (h.ol k hk)]
end _W
end
section
namespace _W
theorem pj{α:Type}: ∀(l:List α) (i:Nat) (h:i<l.length),(l[i]::l.eraseIdx i).Perm l
 | x::l,0,_=>by simp
 | x::l,i+1,h=>by
   have h':i<l.length:=by simpa using h
   have:=pj l i h'
   simp only[List.getElem_cons_succ,DQ]
   exact(List.Perm.swap _ _ _).trans (this.cons x)
theorem Hl{l:List Nat}(nd:l.Nodup){i:Nat}(h:i<l.length):l.idxOf l[i]=i:=by
 have h1:l.idxOf l[i]<l.length:=mB.mpr (fk h)
 have h2:=List.getElem_idxOf h1
 exact(List.getElem_inj nd).mp h2
structure ox(m:Nat)(l:List Nat):Prop where
 perm:l.Perm (aB m)
 z:l[0]? = some 0
noncomputable def oF(l:List Nat):Nat->Nat:=λi=>l.getD i 0
noncomputable def pF(l:List Nat):Nat->Nat:=λx=>l.idxOf x
section
variable {m:Nat}{l:List Nat}
theorem ox.len(h:ox m l):l.length=m:=by have:=h.perm.length_eq;simpa using this
theorem ox.nd(h:ox m l):l.Nodup:=h.perm.nodup_iff.mpr om
theorem ox.mem(h:ox m l){x:Nat}:x∈l↔x<m:=by rw[h.perm.mem_iff,bp]
theorem ox.get(h:ox m l){i:Nat}(hi:i<m):l[i]? = some (oF l i):=by
 have hl:i<l.length:=by rw[h.len];exact hi
 simp[oF,hl]
theorem ox.ord(h:ox m l):Ord m (oF l) (pF l) where
 ol:=λi hi=>h.mem.mp (cY (h.get hi))
 pl:=λx hx=>by
  have:=mB.mpr (h.mem.mpr hx)
  rw[h.len]at this;exact this
 po:=λi hi=>by
  have hl:i<l.length:=by rw[h.len];exact hi
  have e:oF l i=l[i]:=by simp[oF,hl]
  unfold pF;rw[e];exact Hl h.nd hl
 op:=λx hx=>by
  have h1:=mB.mpr (h.mem.mpr hx)
  have h2:=List.getElem_idxOf h1
  unfold oF pF
  rw[Af,bw h1,h2];rfl
 o0:=by
  unfold oF
  rw[Af,h.z];rfl
end
theorem CV{m:Nat}{xs:List Nat}(hm:0<m)(h:xs.Perm (aO 1 (m - 1))):ox m (0::xs):=by
 refine⟨?_,rfl⟩
 have e:aB m=0::aO 1 (m - 1):=by
  rw[qO]
  have:m=(m - 1)+1:=by omega
  rw[this,oh]
  simp
 rw[e]
 exact h.cons 0
end _W
end
section
namespace _W
section
variable {m:Nat}{T:Nat->Nat->Nat}
theorem Grp.cancel(g:Grp m T){a b c:Nat}(ha:a<m)(hb:b<m)(hc:c<m)(h:T a b=T a c):b=c:=by
 obtain⟨i,hi,h1,h2⟩:=g.inv a ha
 have e1:T i (T a b)=b:=by rw[<- g.as i a b hi ha hb,h2,g.l0 b hb]
 have e2:T i (T a c)=c:=by rw[<- g.as i a c hi ha hc,h2,g.l0 c hc]
 rw[<- e1,<- e2,h]
theorem Grp.inv1(g:Grp m T){i:Nat}(hi:i<m): ∃j,j<m/\T i j=0/\T j i=0 /\ ∀k,k<m->T i k=0->k=j:=by
 obtain⟨j,hj,h1,h2⟩:=g.inv i hi
 exact⟨j,hj,h1,h2,λk hk h=>g.cancel hi hk hj (h.trans h1.symm)⟩
end
theorem pw: ∀(m:Nat) (l:List Nat),l.Nodup->(∀x∈l,x<m)->l.length<=m
 | 0,l,_,h=>by
   cases l with
   | nil=>simp
   | cons x l=>exact absurd (h x (by simp)) (by omega)
 | m+1,l,nd,h=>by
   have h1:=pw m (l.erase m) (nd.erase m) λx hx=>by
    have hx2:=(List.Nodup.mem_erase_iff nd).mp hx
    have:=h x hx2.2
    have:=hx2.1
    omega
   have h2:l.length<=(l.erase m).length+1:=by
    rw[List.length_erase]
    split <;> omega
   omega
theorem idx_map{f:Nat->Nat}{x:Nat}: ∀(n s k:Nat),s<=k->k<s+n->f k=x->(∀j,s<=j->j<k->f j≠x)->((aO s n).map f).idxOf x=k - s
 | 0,s,k,h1,h2,_,_=>by omega
 | n+1,s,k,h1,h2,hp,hn=>by
   rw[oh,bE,List.idxOf_cons]
   by_cases hs:s=k
   ·subst hs;simp[hp]
   ·have hb:(f s==x)=false:=by simpa using hn s (aq _) (by exact lR (by assumption) (by assumption))
    rw[hb]
    simp only[cond_false]
    rw[idx_map n (s+1) k (by exact lR (by assumption) (by assumption)) (by omega) hp λj h1 h2=>hn j (by exact ba (by assumption)) h2]
    omega
end _W
end
section
namespace _W
open _L _G
noncomputable def Ex(S S':Sto):Prop:= ∃t,S'=S++t
theorem Ex.refl(S:Sto):Ex S S:=⟨[],by simp⟩
theorem Ex.trans{S S1 S2:Sto}(a:Ex S S1)(b:Ex S1 S2):Ex S S2:=by
 obtain⟨t,rfl⟩:=a
 obtain⟨u,rfl⟩:=b
 exact⟨t++u,by simp⟩
theorem Ex.push(S:Sto)(c:Cell):Ex S (S++[c]):=⟨[c],rfl⟩
theorem Ex.get{S S':Sto}(h:Ex S S'){n:Nat}(hn:n<S.length):S'[n]? = S[n]? := by
 obtain⟨t,rfl⟩:=h
 exact aS hn
theorem Ex.some{S S':Sto}(h:Ex S S'){n:Nat}{c:Cell}(e:S[n]? = some c):S'[n]? = some c:=by
 rw[h.get (ah.mp e).1];exact e
theorem Ex.len{S S':Sto}(h:Ex S S'):S.length<=S'.length:=by
 obtain⟨t,rfl⟩:=h
 simp
noncomputable def qA(n:Nat)(S:Sto):Prop:= ∃s b,S[n]? = some (.lst [.int s,.bl b])
structure Stp(n:Nat)(S S':Sto):Prop where
 len:S.length<=S'.length
 same: ∀m,m<S.length->m≠n->S'[m]? = S[m]?
 st:qA n S'
theorem Stp.trans{n:Nat}{S S1 S2:Sto}(a:Stp n S S1)(b:Stp n S1 S2):Stp n S S2:=
 ⟨aF a.len b.len,λm h1 h2=>(b.same m (ai h1 a.len) h2).trans (a.same m h1 h2),b.st⟩
theorem qA.lt{n:Nat}{S:Sto}(h:qA n S):n<S.length:=by
 obtain⟨s,b,e⟩:=h
 exact(ah.mp e).1
theorem qA.ex{n:Nat}{S S':Sto}(h:qA n S)(e:Ex S S'):qA n S':=by
 obtain⟨s,b,q⟩:=h
 exact⟨s,b,e.some q⟩
theorem Stp.ex{n:Nat}{S S':Sto}(h:qA n S)(e:Ex S S'):Stp n S S':=⟨e.len,λm h1 _=>e.get h1,h.ex e⟩
theorem Stp.some{n:Nat}{S S':Sto}(h:Stp n S S'){m:Nat}{c:Cell}(hm:m≠n)(e:S[m]? = some c):S'[m]? = some c:=by
 rw[h.same m (ah.mp e).1 hm];exact e
theorem B0{n:Nat}{S:Sto}{many:Int}(h:qA n S)(hm:0<many)(hm2:many<1073741824):
  ∃r S',br [.ref n,.int many] S=some (.int r,S')/\0<=r/\r<many/\Stp n S S'/\S'.length=S.length:=by
 obtain⟨s,b,e⟩:=h
 have hn:=(ah.mp e).1
 have hd:ud many:=⟨hm,hm2⟩
 have hd8:ud 8:=⟨by decide,by decide⟩
 cases b with
 | true=>
   refine⟨s % many,S.set n (.lst [.int (s / many),.bl true]),?_,z8 _ (by omega),vA _ hm,⟨by simp,λm h1 h2=>by rw[aJ (eG h2)],⟨s / many,true,by rw[aZ hn]⟩⟩,by simp⟩
   simp[br,_G.run,lu,bc,sIf,cOf,m2,ab,mC,bnd,oIx,fP,d0,getL,e,atI,ixN,bI,oMod,oDiv,hm,hd,jH,bH]
 | false=>
   have b1: ∀x m:Int,0<m->m<4294967296->ke (x % m) (x % m):=λx m h1 h2=>by
    have h3:=z8 x (show m≠0 by omega)
    have h4:=vA x h1
    exact .inl ⟨by omega,by omega⟩
   have hg: ∀c:Cell,(S.set n c)[n]? = Option.some c:=λc=>aZ hn
   have k1:ke s 48271:= .inr ⟨by decide,by decide⟩
   have k2:=b1 (s*48271+29) 2147483647 (by decide) (by decide)
   generalize hs1:(s*48271+29) % 2147483647=s1 at k2
   have k3:ke 39373 s1:= .inl ⟨by decide,by decide⟩
   have k4:=b1 (s1*s1+39373*s1+7) 2147483629 (by decide) (by decide)
   generalize hm1:(s1*s1+39373*s1+7) % 2147483629=m1 at k4
   have k5:ke 16807 m1:= .inl ⟨by decide,by decide⟩
   refine⟨(m1*m1+16807*m1) % 2147483587 / 8 % many,S.set n (.lst [.int s1,.bl false]),?_,z8 _ (by omega),vA _ hm,⟨by simp,λm h1 h2=>by rw[aJ (eG h2)],⟨s1,false,by rw[aZ hn]⟩⟩,by simp⟩
   simp[br,_G.run,lu,bc,sIf,cOf,m2,ab,mC,bnd,oIx,fP,d0,getL,e,atI,ixN,bI,oMod,oDiv,da,hV,hm,hd,jH,bH,cP,hg,k1,k2,k3,k4,k5,hs1,hm1,hd8]
end _W
end
section
namespace _W
open _L _G
section
theorem qJ{i:Nat}{b:MS}(P:Nat->Rho->Sto->Prop): ∀(us:List U) (k:Nat) (ρ:Rho) (S:Sto),P k ρ S ->
  (∀(j:Nat) (u:U) (ρ:Rho) (S:Sto),us[j]? = some u->P (k+j) ρ S -> ∃ρ' S',b (ρ.set i (some u)) S=some (.nx,ρ',S')/\P (k+j+1) ρ' S') ->
  ∃ρ' S',sJ i b us ρ S=some (.nx,ρ',S')/\P (k+us.length) ρ' S'
 | [],k,ρ,S,h,_=>⟨ρ,S,rfl,h⟩
 | u::us,k,ρ,S,h,st=>by
   obtain⟨ρ1,S1,e1,h1⟩:=st 0 u ρ S rfl h
   obtain⟨ρ2,S2,e2,h2⟩:=qJ P us (k+1) ρ1 S1 h1 λj v ρ S hj hp=>by
    have:=st (j+1) v ρ S (by simpa using hj) (by rw[show k+(j+1)=k+1+j by omega];exact hp)
    rw[show k+(j+1)+1=k+1+j+1 by omega]at this
    exact this
   refine⟨ρ2,S2,?_,by rw[show k+(u::us).length=k+1+us.length by simp;omega];exact h2⟩
   show aft (b (ρ.set i (some u)) S) (sJ i b us)=_
   rw[e1];exact e2
theorem nU{e:ME}{ρ:Rho}(g:Nat->U)(P:Nat->Sto->Prop): ∀(us:List U) (k:Nat) (acc:List U) (S:Sto),P k S ->
  (∀(j:Nat) (u:U) (S:Sto),us[j]? = some u->P (k+j) S -> ∃S',e (ρ++[some u]) S=some (g (k+j),S')/\P (k+j+1) S') ->
  ∃S',gX cTT e ρ us acc S=some (acc++(aB us.length).map (λj=>g (k+j)),S')/\P (k+us.length) S'
 | [],k,acc,S,h,_=>⟨S,by simp[gX],h⟩
 | u::us,k,acc,S,h,st=>by
   obtain⟨S1,e1,h1⟩:=st 0 u S rfl h
   obtain⟨S2,e2,h2⟩:=nU g P us (k+1) (acc++[g k]) S1 h1 λj v S hj hp=>by
    have:=st (j+1) v S (by simpa using hj) (by rw[show k+(j+1)=k+1+j by omega];exact hp)
    rw[show k+(j+1)+1=k+1+j+1 by omega,show k+(j+1)=k+1+j by omega]at this
    exact this
   refine⟨S2,?_,by rw[show k+(u::us).length=k+1+us.length by simp;omega];exact h2⟩
   show bnd (cTT (ρ++[some u]) S) _=_
   simp only[cTT,aE,if_true]
   rw[e1]
   simp only[aE,wk]
   rw[e2]
   simp only[aW,fC,Prod.mk.injEq,and_true]
   rw[bg,DX,bE,bF]
   simp only[List.singleton_append,wk,List.append_cancel_left_eq,List.cons.injEq,true_and]
   apply aM
   intro j _
   simp only[yp]
   congr 1;omega
noncomputable def Al(n:Nat)(g:Nat->U):U:= .tup ((aB n).map g)
theorem nH{n:Nat}(h:n<big):okR (n:Int):=by
 unfold big at h
 exact⟨by exact vB _,by omega⟩
theorem oV{ρ:Rho}{S S0:Sto}{a:ME}{u:U}(ha:a ρ S=some (u,S0)):aa a af ρ S=some ([u],S0):=by
 simp only[aa,af,ha,aE]
theorem Ms{ρ:Rho}{S S0:Sto}{a:MA}{j:Int}(ha:a ρ S=some ([.int j],S0))(h:okR j):iR1 a ρ S=some (.imm (bh 0 j.toNat),S0):=by
 unfold iR1
 rw[ha]
 exact if_pos h
theorem nV{ρ:Rho}{S S0:Sto}{a:ME}{n:Nat}(ha:a ρ S=some (.int n,S0))(h:n<big):iR1 (aa a af) ρ S=some (.imm (bh 0 n),S0):=by
 rw[Ms (oV ha) (nH h),Int.toNat_natCast]
theorem nO{ρ:Rho}{S S0 S1:Sto}{it:MI}{t:MT}{e:ME}{us ys:List U}(hi:it ρ S=some (.imm us,S0))(h:gX t e ρ us [] S0=some (ys,S1))(hz:ys.length<big):cm it t e ρ S=some (.ref S1.length,S1++[.lst ys]):=by
 simp only[cm,hi,aE,B6,h]
 exact if_pos hz
theorem eR{ρ:Rho}{S S1:Sto}{a:ME}{ys:List U}(h:a ρ S=some (.ref S1.length,S1++[.lst ys])):mFn bT (aa a af) ρ S=some (.tup ys,S1++[.lst ys]):=by
 unfold mFn
 rw[oV h]
 show(d0 (S1++[Cell.lst ys]) (.ref S1.length)).map _=_
 have:d0 (S1++[Cell.lst ys]) (.ref S1.length)=some ys:=by
  show getL (S1++[Cell.lst ys]) S1.length=_
  unfold getL
  rw[az (aq _)]
  simp
 rw[this];rfl
theorem Fb{ρ:Rho}{S S0:Sto}{a e:ME}{n:Nat}(ha:a ρ S=some (.int n,S0))(hn:n<big)(g:Nat->U)(P:Nat->Sto->Prop)(h0:P 0 S0)
  (hs: ∀(j:Nat) (S:Sto),j<n->P j S -> ∃S',e (ρ++[some (.int j)]) S=some (g j,S')/\P (j+1) S'):
  ∃S',mFn bT (aa (cm (iR1 (aa a af)) cTT e) af) ρ S=some (Al n g,S'++[.lst ((aB n).map g)])/\P n S':=by
 obtain⟨S1,e1,h1⟩:=nU (e:=e) (ρ:=ρ) g P (bh 0 n) 0 [] S0 h0 λj u S hj hp=>by
  have hl:j<n:=by have:=(ah.mp hj).1;simpa [bh]using this
  have hu:(bh 0 n)[j]? = some (.int j):=by simp[bh,hl]
  rw[hu]at hj;cases hj
  simpa using hs j S hl (by simpa using hp)
 have hlen:(bh 0 n).length=n:=by simp[bh]
 simp only[hlen,eM,dW]at e1 h1
 exact⟨S1,eR (nO (nV ha hn) e1 (by rw[ak,bB];exact hn)),h1⟩
theorem NM{ρ:Rho}{S S0:Sto}{a e:ME}{us:List U}(ha:a ρ S=some (.tup us,S0))(hn:us.length<big)(g:Nat->U)(P:Nat->Sto->Prop)(h0:P 0 S0)
  (hs: ∀(j:Nat) (u:U) (S:Sto),us[j]? = some u->P j S -> ∃S',e (ρ++[some u]) S=some (g j,S')/\P (j+1) S'):
  ∃S',mFn bT (aa (cm (dD a) cTT e) af) ρ S=some (Al us.length g,S'++[.lst ((aB us.length).map g)])/\P us.length S':=by
 obtain⟨S1,e1,h1⟩:=nU (e:=e) (ρ:=ρ) g P us 0 [] S0 h0 λj u S hj hp=>by
  simpa using hs j u S hj (by simpa using hp)
 simp only[eM,dW]at e1 h1
 exact⟨S1,eR (nO (it:=dD a) (us:=us) (by unfold dD;rw[ha];rfl) e1 (by rw[ak,bB];exact hn)),h1⟩
noncomputable def kl(m:Nat)(T:Nat->Nat->Nat)(i:Nat):U:=Al m λj => .int (T i j)
noncomputable def tab(m:Nat)(T:Nat->Nat->Nat):U:=Al m (kl m T)
theorem nS{α:Type}{f:Nat->α}{m i:Nat}(h:i<m):atI ((aB m).map f) (i:Int)=some (f i):=by
 simp[atI,ixN,h]
theorem qg{n:Nat}{S:Sto}(h:0<n)(hn:n<big): ∃S',dM [.int n] S=some (tab n (fq n),S')/\Ex S S':=by
 have key: ∃S',mFn bT (aa (cm (iR1 (aa (ab 0) af)) cTT (mFn bT (aa (cm (iR1 (aa (ab 0) af)) cTT (m2 oMod (m2 da (ab 1) (ab 2)) (ab 0))) af))) af) [some (.int n)] S=some (Al n (kl n (fq n)),S'++[.lst ((aB n).map (kl n (fq n)))])/\Ex S S':=by
  refine Fb (S0:=S) (by simp[ab]) hn _ (λ_ S'=>Ex S S') (Ex.refl S) λi S1 hi hx =>?_
  obtain⟨S2,e2,h2⟩:=Fb (ρ:= [some (.int n),some (.int i)]) (S:=S1) (S0:=S1) (a:=ab 0) (e:=m2 oMod (m2 da (ab 1) (ab 2)) (ab 0)) (n:=n) (by simp[ab]) hn (λj => .int (fq n i j)) (λ_ S'=>S'=S1) rfl λj S' hj hx=>by
   refine⟨S',?_,hx⟩
   have h0:(0:Int)<n:=by omega
   simp only[m2,ab,List.cons_append,dW,DS,DT,aE,da,oMod,h0,if_true,fq,oH,z9]
  subst h2
  exact⟨S2++[_],e2,hx.trans (Ex.push _ _)⟩
 obtain⟨S',e,hx⟩:=key
 refine⟨S'++[.lst ((aB n).map (kl n (fq n)))],?_,hx.trans (Ex.push _ _)⟩
 simp only[dM,_G.run,nc,bH,bg,cg,bE,oY,GZ,List.replicate_zero,iB,if_true,e,aE,tab]
end
end _W
end
section
namespace _W
open _L _G
section
theorem wy{n:Nat}(h:0<n)(h2:n<1000):ud (n:Int):=⟨by omega,by omega⟩
theorem tH{i j:Int}(h1: -1000000000<=i)(h2:i<=1000000000):ke i j:= .inl ⟨by omega,by omega⟩
theorem wq{n:Nat}{j:Int}(h:n<1000000):ke (n:Int) j:=tH (by exact vB _) (by omega)
noncomputable def Agr(L:List Nat)(ρ0 ρ:Rho):Prop:=ρ.length=ρ0.length /\ ∀i,i∉L->ρ[i]? = ρ0[i]?
theorem Agr.refl(L:List Nat)(ρ:Rho):Agr L ρ ρ:=⟨rfl,λ_ _=>rfl⟩
theorem Agr.set{L:List Nat}{ρ0 ρ:Rho}{i:Nat}{v:Option U}(h:Agr L ρ0 ρ)(hi:i∈L):Agr L ρ0 (ρ.set i v):=
 ⟨by rw[fW];exact h.1,λj hj=>by rw[aJ (by rintro rfl;exact hj hi)];exact h.2 j hj⟩
structure Sm(b:Nat)(S0 S:Sto):Prop where
 len:S0.length<=S.length
 same: ∀m,m<b->S[m]? = S0[m]?
theorem Sm.trans{b:Nat}{S0 S1 S2:Sto}(a:Sm b S0 S1)(c:Sm b S1 S2):Sm b S0 S2:=⟨aF a.len c.len,λm h=>(c.same m h).trans (a.same m h)⟩
theorem Sm.ex{b:Nat}{S0 S:Sto}(h:Ex S0 S)(hb:b<=S0.length):Sm b S0 S:=⟨h.len,λm hm=>h.get (ai hm hb)⟩
theorem Sm.set{b n:Nat}{S0 S:Sto}{c:Cell}(h:Sm b S0 S)(hn:b<=n):Sm b S0 (S.set n c):=
 ⟨by rw[fW];exact h.len,λm hm=>by rw[aJ (by omega)];exact h.same m hm⟩
structure Wr(r:Nat)(S S':Sto):Prop where
 len:S.length<=S'.length
 same: ∀m,m<S.length->m≠r->S'[m]? = S[m]?
theorem Wr.trans{r:Nat}{S S1 S2:Sto}(a:Wr r S S1)(b:Wr r S1 S2):Wr r S S2:=
 ⟨aF a.len b.len,λm h1 h2=>(b.same m (ai h1 a.len) h2).trans (a.same m h1 h2)⟩
theorem Wr.refl(r:Nat)(S:Sto):Wr r S S:=⟨aq _,λ_ _ _=>rfl⟩
theorem Wr.ex{r:Nat}{S S':Sto}(h:Ex S S'):Wr r S S':=⟨h.len,λm hm _=>h.get hm⟩
theorem Wr.set(r:Nat)(S:Sto)(c:Cell):Wr r S (S.set r c):=⟨by simp,λm _ h=>aJ (eG h)⟩
theorem Wr.sm{r b:Nat}{S S':Sto}(h:Wr r S S')(hb:b<=r)(hr:b<=S.length):Sm b S S':=⟨h.len,λm hm=>h.same m (by exact ai (by assumption) (by assumption)) (by omega)⟩
theorem qb{ρ:Rho}{i:Nat}{v:Option U}(h:i<ρ.length):(ρ.set i v)[i]? = some v:=aZ h
theorem var_eq{ρ:Rho}{S:Sto}{i:Nat}{u:U}(h:ρ[i]? = some (some u)):ab i ρ S=some (u,S):=by simp only[ab,h]
theorem EG{ρ:Rho}{S:Sto}{i:Nat}{a:ME}{n:Nat}{b:MS}(ha:a ρ S=some (.int n,S))(h:n<big):fH i (iR1 (aa a af)) b ρ S=sJ i b (bh 0 n) ρ S:=by
 unfold fH
 rw[nV ha h]
 rfl
theorem nZ{ρ:Rho}{S:Sto}{i:Nat}{a:ME}{n:Nat}{b:MS}(ha:a ρ S=some (.int n,S))(h:n<big)(P:Nat->Rho->Sto->Prop)(h0:P 0 ρ S)
  (st: ∀(j:Nat) (ρ:Rho) (S:Sto),j<n->P j ρ S -> ∃ρ' S',b (ρ.set i (some (.int j))) S=some (.nx,ρ',S')/\P (j+1) ρ' S'):
  ∃ρ' S',fH i (iR1 (aa a af)) b ρ S=some (.nx,ρ',S')/\P n ρ' S':=by
 rw[EG ha h]
 obtain⟨ρ',S',e,q⟩:=qJ (i:=i) (b:=b) P (bh 0 n) 0 ρ S h0 λj u ρ S hj hp=>by
  have hl:j<n:=by have:=(ah.mp hj).1;simpa [bh]using this
  have hu:(bh 0 n)[j]? = some (.int j):=by simp[bh,hl]
  rw[hu]at hj;cases hj
  simpa using st j ρ S hl (by simpa using hp)
 have hlen:(bh 0 n).length=n:=by simp[bh]
 rw[hlen,eM]at q
 exact⟨ρ',S',e,q⟩
theorem append_eq{ρ:Rho}{S S1:Sto}{o a:ME}{r:Nat}{u:U}{row:List U}(ho:o ρ S=some (.ref r,S))(ha:a ρ S=some (u,S1))(hr:S[r]? = some (Cell.lst row))(hr1:S1[r]? = some (Cell.lst row))(hl:row.length<big):
  du (mML cU o (aa a af)) ρ S=some (.nx,ρ,S1.set r (Cell.lst (row++[u]))):=by
 simp only[du,mML,ho,aE,getL,hr,ag,oV ha,cU,hr1,hl,if_true]
theorem kN{ρ:Rho}{S:Sto}{a:ME}{r:Nat}{row:List U}(ha:a ρ S=some (.ref r,S))(hr:S[r]? = some (Cell.lst row)):mFn bT (aa a af) ρ S=some (.tup row,S):=by
 simp only[mFn,oV ha,aE,bT,d0,getL,hr,aR]
theorem build{fs rs is js:Nat}{L:List Nat}{ρ0:Rho}{S0:Sto}{bIn:MS}{a:ME}{m:Nat}{T:Nat->Nat->Nat}(hm:m<big)(h1:rs∈L)(h2:is∈L)(h3:js∈L)(h4:fs∉L)(d1:rs≠is)(d2:js≠is)(d3:js≠rs)
  (l1:rs<ρ0.length) (l2:is<ρ0.length) (l3:js<ρ0.length) (hf:ρ0[fs]? = some (some (.ref S0.length)))
  (ha: ∀ρ S,Agr L ρ0 ρ->Sm S0.length S0 S->a ρ S=some (.int m,S))
  (hb: ∀(i j r:Nat) (ρ:Rho) (S:Sto) (row:List U),i<m->j<m->Agr L ρ0 ρ->ρ[is]? = some (some (.int i))->ρ[js]? = some (some (.int j))->ρ[rs]? = some (some (.ref r))->Sm S0.length S0 S->S0.length<r->S[r]? = some (Cell.lst row)->row.length<big ->
   ∃ρ' S',bIn ρ S=some (.nx,ρ',S')/\Agr L ρ0 ρ'/\ρ'[is]? = some (some (.int i))/\ρ'[rs]? = some (some (.ref r))/\Wr r S S'/\S'[r]? = some (Cell.lst (row++[.int (T i j)]))):
  ∃ρ' S',fH is (iR1 (aa a af)) (bc (bI rs (dz af)) (bc (fH js (iR1 (aa a af)) bIn) (du (mML cU (ab fs) (aa (mFn bT (aa (ab rs) af)) af))))) ρ0 (S0++[Cell.lst []])=some (.nx,ρ',S') /\
   Agr L ρ0 ρ'/\Sm S0.length S0 S'/\S'[S0.length]? = some (Cell.lst ((aB m).map (kl m T))):=by
 have s0:Sm S0.length S0 (S0++[Cell.lst []]):=Sm.ex (Ex.push _ _) (aq _)
 refine nZ (P:=λk ρ S=>Agr L ρ0 ρ/\Sm S0.length S0 S/\S0.length<S.length/\S[S0.length]? = some (Cell.lst ((aB k).map (kl m T)))) (ha _ _ (Agr.refl _ _) s0) hm ⟨Agr.refl _ _,s0,by simp,by rw[az (aq _)];simp⟩ ?_ |>.imp λρ' h=>h.imp λS' h=>⟨h.1,h.2.1,h.2.2.1,h.2.2.2.2⟩
 rintro i ρ S hi ⟨g1,g2,g3,g4⟩
 have r0:S.length<(S++[Cell.lst ([]:List U)]).length:=by simp
 have e0:bI rs (dz af) (ρ.set is (some (.int i))) S=some (.nx,(ρ.set is (some (.int i))).set rs (some (.ref S.length)),S++[Cell.lst []]):=by
  have hz:([]:List U).length<=big:=dc _
  simp only[bI,dz,af,aE,hz,if_true]
 have ga:Agr L ρ0 ((ρ.set is (some (.int i))).set rs (some (.ref S.length))):=(g1.set h2).set h1
 have gs:Sm S0.length S0 (S++[Cell.lst ([]:List U)]):=g2.trans (Sm.ex (Ex.push _ _) g2.len)
 obtain⟨ρ1,S1,e1,q1,q2,q3,q4,q5⟩:=nZ (b:=bIn) (i:=js) (P:=λk ρ1 S1=>Agr L ρ0 ρ1/\ρ1[is]? = some (some (.int i))/\ρ1[rs]? = some (some (.ref S.length))/\Wr S.length (S++[Cell.lst ([]:List U)]) S1/\S1[S.length]? = some (Cell.lst ((aB k).map λj => .int (T i j))))
  (ha _ _ ga gs) hm ⟨ga,by rw[aJ d1,qb (by rw[g1.1];exact l2)],by rw[qb (by rw[fW,g1.1];exact l1)],Wr.refl _ _,by rw[az (aq _)];simp⟩ (by
   rintro j ρ1 S1 hj ⟨q1,q2,q3,q4,q5⟩
   have sm1:Sm S0.length S0 S1:=gs.trans (q4.sm (ba g3) (by simp;omega))
   obtain⟨ρ2,S2,f1,f2,f3,f4,f5,f6⟩:=hb i j S.length (ρ1.set js (some (.int j))) S1 _ hi hj (q1.set h3) (by rw[aJ d2];exact q2) (qb (by rw[q1.1];exact l3)) (by rw[aJ d3];exact q3) sm1 g3 q5 (by rw[ak,bB];exact cR (by assumption) (by assumption))
   exact⟨ρ2,S2,f1,f2,f3,f4,q4.trans f5,by rw[f6,fY,cj];rfl⟩)
 have g5:S1[S0.length]? = some (Cell.lst ((aB i).map (kl m T))):=by
  rw[q4.same _ (by simp;exact mx (by assumption)) (by exact aT (by assumption)),(Ex.push S _).get g3];exact g4
 have sm1:Sm S0.length S0 S1:=gs.trans (q4.sm (ba g3) (by simp;omega))
 have hfv:ab fs ρ1 S1=some (.ref S0.length,S1):=var_eq (by rw[q1.2 fs h4];exact hf)
 have e2:=append_eq (o:=ab fs) hfv (kN (a:=ab rs) (var_eq q3) q5) g5 g5 (by rw[ak,bB];exact cR (by assumption) (by assumption))
 refine⟨ρ1,S1.set S0.length (Cell.lst ((aB (i+1)).map (kl m T))),?_,q1,sm1.set (aq _),?_,?_⟩
 ·simp only[bc,e0,e1,e2]
  rw[fY,cj];rfl
 ·rw[fW];have:=q4.len;simp at this;exact cR (by assumption) (by assumption)
 ·exact aZ (by have:=q4.len;simp at this;exact cR (by assumption) (by assumption))
noncomputable def tJ:MS:=bc (bI 5 (m2 oMod (m2 da (m2 oMod (ab 2) (ab 0)) (m2 hV (m2 oIx (dz (aa (mC (.int 1)) (aa (m1 jn (mC (.int 1))) af))) (m2 oDiv (ab 2) (ab 0))) (m2 oMod (ab 4) (ab 0)))) (ab 0))) (du (mML cU (ab 3) (aa (m2 da (ab 5) (m2 hV (ab 0) (m2 oMod (m2 da (m2 oDiv (ab 2) (ab 0)) (m2 oDiv (ab 4) (ab 0))) (mC (.int 2))))) af)))
theorem DH{n i j c:Int}{f r:Nat}{x y:Option U}{S:Sto}{row:List U}(h0:0<n)(hd:ud n)(hc:atI [U.int 1,U.int (-1)] (i / n)=some (.int c))(k1:ke c (j % n))(k2:ke n ((i / n+j / n) % 2))
  (hr:(S++[Cell.lst [U.int 1,U.int (-1)]])[r]? = some (Cell.lst row)) (hl:row.length<big):
  tJ ([some (U.int n),some (U.ref f),some (U.int i),some (U.ref r),x,y].set 4 (some (U.int j))) S =
   some (Fl.nx,[some (U.int n),some (U.ref f),some (U.int i),some (U.ref r),some (U.int j),some (U.int ((i % n+c*(j % n)) % n))],(S++[Cell.lst [U.int 1,U.int (-1)]]).set r (Cell.lst (row++[U.int ((i % n+c*(j % n)) % n+n*((i / n+j / n) % 2))]))):=by
 have hb2:2<=big:=by decide
 simp[tJ,bc,bI,m2,m1,ab,mC,dz,aa,af,bnd,oMod,da,hV,oDiv,oIx,fP,jn,d0,getL,h0,hd,hb2,hc,k1,k2,du,mML,cU,hr,hl]
theorem Gb{n i j f r:Nat}{x y:Option U}{S:Sto}{row:List U}(hn:0<n)(hn2:n<1000)(hi:i<2*n)(hj:j<2*n)(hr:S[r]? = some (Cell.lst row))(hl:row.length<big):
  ∃z,tJ ([some (U.int n),some (U.ref f),some (U.int i),some (U.ref r),x,y].set 4 (some (U.int j))) S =
   some (Fl.nx,[some (U.int n),some (U.ref f),some (U.int i),some (U.ref r),some (U.int j),z],(S++[Cell.lst [U.int 1,U.int (-1)]]).set r (Cell.lst (row++[U.int (g8 n i j:Nat)]))):=by
 have hd:=wy hn hn2
 have h0:(0:Int)<n:=by omega
 have hr2:=(Ex.push S (Cell.lst [U.int 1,U.int (-1)])).some hr
 have hk:ke (n:Int) (((i:Int) / n+j / n) % 2):=wq (by exact ai (by assumption) (by decide))
 have hc: ∃c:Int,atI [U.int 1,U.int (-1)] ((i:Int) / n)=some (.int c)/\ke c ((j:Int) % n)/\((i:Int) % n+c*((j:Int) % n)) % n+n*(((i:Int) / n+j / n) % 2)=(g8 n i j:Nat):=by
  rcases half hi with⟨h1,h2,h3⟩ | ⟨h1,h2,h3⟩
  ·refine⟨1,?_,tH (by decide) (by decide),?_⟩
   ·have:(i:Int) / n=0:=by rw[<- ym,h3];rfl
    rw[this];rfl
   ·unfold g8
    rw[if_pos h1,Int.one_mul]
    push_cast
    rfl
  ·refine⟨-1,?_,tH (by decide) (by decide),?_⟩
   ·have:(i:Int) / n=1:=by rw[<- ym,h3];rfl
    rw[this];rfl
   ·unfold g8
    have hjm:j % n<n:=vt _ hn
    rw[if_neg (by omega)]
    have e1:((i:Int) % n + -1*((j:Int) % n)) % n=((i % n+(n - j % n)) % n:Nat):=by
     have e2:((n - j % n:Nat):Int)=(n:Int) - (j:Int) % n:=by omega
     rw[oH,z9,e2,oH]
     rw[show(i:Int) % n+((n:Int) - (j:Int) % n)=((i:Int) % n + -1*((j:Int) % n))+n by omega,Int.add_emod_right]
    rw[e1]
    push_cast
    rfl
 obtain⟨c,c1,c2,c3⟩:=hc
 rw[<- c3]
 exact⟨_,DH h0 hd c1 c2 hk hr2 hl⟩
end
end _W
end
section
namespace _W
open _L _G
section
theorem aP{a b:MS}{ρ ρ1:Rho}{S S1:Sto}(h:a ρ S=some (.nx,ρ1,S1)):bc a b ρ S=b ρ1 S1:=by simp only[bc,h]
theorem bN{e:ME}{ρ:Rho}{S S1:Sto}{u:U}(h:e ρ S=some (u,S1)):bH e ρ S=some (.rt u,ρ,S1):=by simp only[bH,h,aE]
theorem bS{e:ME}{ρ:Rho}{S S1:Sto}{u:U}{i:Nat}(h:e ρ S=some (u,S1)):bI i e ρ S=some (.nx,ρ.set i (some u),S1):=by simp only[bI,h,aE]
theorem lD{ρ:Rho}{S:Sto}:dz af ρ S=some (.ref S.length,S++[Cell.lst []]):=by
 have hz:([]:List U).length<=big:=dc _
 simp only[dz,af,aE,hz,if_true]
theorem bM{k n:Nat}{b:MS}{us:List U}{S S1:Sto}{u:U}{ρ:Rho}(hl:us.length=k)(h:b (us.map some++cq (n - k) none) S=some (.rt u,ρ,S1)):_G.run k n b us S=some (u,S1):=by
 simp only[_G.run,hl,if_true,h]
theorem Sm.toEx{S S':Sto}(h:Sm S.length S S'):Ex S S':=by
 refine⟨S'.drop S.length,List.ext_getElem? λi =>?_⟩
 by_cases hi:i<S.length
 ·rw[aS hi];exact h.same i hi
 ·rw[az (by exact bX (by assumption)),List.getElem?_drop];congr 1;omega
theorem QQ{ρ:Rho}(h:ρ.length=6): ∃a b c d e f,ρ = [a,b,c,d,e,f]:=by
 have k: ∀{n:Nat}{l:Rho},l.length=n+1 -> ∃a r,l=a::r/\r.length=n:=λ{n l} h=>by
  cases l with
  | nil=>cases h
  | cons a r=>exact⟨a,r,rfl,Ae h⟩
 obtain⟨a,r1,rfl,h1⟩:=k h
 obtain⟨b,r2,rfl,h2⟩:=k h1
 obtain⟨c,r3,rfl,h3⟩:=k h2
 obtain⟨d,r4,rfl,h4⟩:=k h3
 obtain⟨e,r5,rfl,h5⟩:=k h4
 obtain⟨f,r6,rfl,h6⟩:=k h5
 cases dw h6
 exact⟨a,b,c,d,e,f,rfl⟩
theorem y6{n:Nat}{S:Sto}(hn:0<n)(hn2:n<1000): ∃S',fQ [.int n] S=some (tab (2*n) (g8 n),S')/\Ex S S':=by
 have hbig:2*n<big:=by unfold big;omega
 obtain⟨ρ1,S1,e1,q1,q2,q3⟩:=build (fs:=1) (rs:=3) (is:=2) (js:=4) (L:= [2,3,4,5]) (ρ0:= [some (.int n),some (.ref S.length),none,none,none,none]) (S0:=S) (bIn:=tJ) (a:=m2 hV (mC (.int 2)) (ab 0)) (m:=2*n) (T:=g8 n)
  hbig (by decide) (by decide) (by decide) (by decide) (by decide) (by decide) (by decide) (by simp) (by simp) (by simp) rfl
  (λρ S' g s=>by
   have h0:ρ[0]? = some (some (.int n)):=g.2 0 (by decide)
   have hk:ke 2 (n:Int):=tH (by decide) (by decide)
   simp only[m2,mC,aE,var_eq h0,hV,hk,if_true]
   rfl)
  (λi j r ρ S' row hi hj g gi gj gr s hr he hl=>by
   obtain⟨a,b,c,d,e,f,rfl⟩:=QQ g.1
   have h0:some a=some (some (.int n)):=g.2 0 (by decide)
   have h1:some b=some (some (.ref S.length)):=g.2 1 (by decide)
   simp only[fC,DS,DT]at h0 h1 gi gj gr
   subst h0 h1 gi gj gr
   obtain⟨z,ez⟩:=Gb (f:=S.length) (x:=none) (y:=f) hn hn2 hi hj he hl
   refine⟨_,_,ez,⟨rfl,λk hk =>?_⟩,rfl,rfl,(Wr.ex (Ex.push _ _)).trans (Wr.set _ _ _),?_⟩
   ·match k with
    | 0=>rfl
    | 1=>rfl
    | 2=>exact absurd (by decide) hk
    | 3=>exact absurd (by decide) hk
    | 4=>exact absurd (by decide) hk
    | 5=>exact absurd (by decide) hk
    | k+6=>rfl
   ·exact aZ (by have:=(ah.mp he).1;simp;exact mx (by assumption)))
 have e2:mFn bT (aa (ab 1) af) ρ1 S1=some (tab (2*n) (g8 n),S1):=kN (var_eq (by rw[q1.2 1 (by decide)];rfl)) q3
 refine⟨S1,bM (ρ:=ρ1) rfl ?_,?_⟩
 ·show m8 [some (.int n),none,none,none,none,none] S=_
  exact(aP (bS lD)).trans ((aP e1).trans (bN e2))
 ·exact q2.toEx
end
end _W
end
section
namespace _W
open _L _G
section
section
variable {ρ:Rho}{S S1 S2:Sto}{a b:ME}
theorem op2{f:F2}{x y:U}{r:Res U}(ha:a ρ S=some (x,S1))(hb:b ρ S1=some (y,S2))(h:f x y S2=r):m2 f a b ρ S=r:=by simp only[m2,ha,hb,aE,h]
theorem CL{us:List U}{z:Int}{u:U}(ha:a ρ S=some (.tup us,S1))(hb:b ρ S1=some (.int z,S2))(h:atI us z=some u):m2 oIx a b ρ S=some (u,S2):=op2 ha hb (by simp only[oIx,fP,d0,ag,h,aR])
theorem HF{n:Nat}{us:List U}{z:Int}{u:U}(ha:a ρ S=some (.ref n,S1))(hb:b ρ S1=some (.int z,S2))(hn:S2[n]? = some (Cell.lst us))(h:atI us z=some u):m2 oIx a b ρ S=some (u,S2):=op2 ha hb (by simp only[oIx,fP,d0,getL,hn,ag,h,aR])
theorem M3{x y:Int}(ha:a ρ S=some (.int x,S1))(hb:b ρ S1=some (.int y,S2)):m2 da a b ρ S=some (.int (x+y),S2):=op2 ha hb rfl
theorem Ei{x y:Int}(ha:a ρ S=some (.int x,S1))(hb:b ρ S1=some (.int y,S2)):m2 u0 a b ρ S=some (.int (x - y),S2):=op2 ha hb rfl
theorem PK{x y:Int}(ha:a ρ S=some (.int x,S1))(hb:b ρ S1=some (.int y,S2))(h:ke x y):m2 hV a b ρ S=some (.int (x*y),S2):=op2 ha hb (if_pos h)
theorem Pl{x y:Int}(ha:a ρ S=some (.int x,S1))(hb:b ρ S1=some (.int y,S2))(h:ud y):m2 oDiv a b ρ S=some (.int (x / y),S2):=op2 ha hb (if_pos h)
theorem JV{x y:Int}(ha:a ρ S=some (.int x,S1))(hb:b ρ S1=some (.int y,S2))(h:0<y):m2 oMod a b ρ S=some (.int (x % y),S2):=op2 ha hb (if_pos h)
theorem c_i{z:Int}:mC (.int z) ρ S=some (.int z,S):=rfl
theorem nv{us:List U}(ha:a ρ S=some (.tup us,S1)):mFn bJ (aa a af) ρ S=some (.int us.length,S1):=by
 simp only[mFn,oV ha,aE,bJ,fP,d0,aR]
theorem len_tab{m:Nat}{T:Nat->Nat->Nat}(ha:a ρ S=some (tab m T,S1)):mFn bJ (aa a af) ρ S=some (.int m,S1):=by
 rw[nv (us:=(aB m).map (kl m T)) ha,ak,bB]
theorem ni{m i:Nat}{T:Nat->Nat->Nat}(hi:i<m)(ha:a ρ S=some (tab m T,S1))(hb:b ρ S1=some (.int i,S2)):m2 oIx a b ρ S=some (kl m T i,S2):=CL ha hb (nS hi)
theorem pD{m i j:Nat}{T:Nat->Nat->Nat}(hj:j<m)(ha:a ρ S=some (kl m T i,S1))(hb:b ρ S1=some (.int j,S2)):m2 oIx a b ρ S=some (.int (T i j),S2):=CL ha hb (nS hj)
theorem xc{x y:Nat}(ha:a ρ S=some (.int x,S1))(hb:b ρ S1=some (.int y,S2))(h:0<y)(h2:y<1000):m2 oDiv a b ρ S=some (.int (x / y:Nat),S2):=by rw[Pl ha hb (wy h h2),ym]
theorem EX{x y:Nat}(ha:a ρ S=some (.int x,S1))(hb:b ρ S1=some (.int y,S2))(h:0<y):m2 oMod a b ρ S=some (.int (x % y:Nat),S2):=by rw[JV ha hb (by omega),oH]
theorem EM{x y:Nat}(ha:a ρ S=some (.int x,S1))(hb:b ρ S1=some (.int y,S2))(h:x<1000000):m2 hV a b ρ S=some (.int (x*y:Nat),S2):=by rw[PK ha hb (wq h),Int.natCast_mul]
theorem add_n{x y:Nat}(ha:a ρ S=some (.int x,S1))(hb:b ρ S1=some (.int y,S2)):m2 da a b ρ S=some (.int (x+y:Nat),S2):=by rw[M3 ha hb,z9]
end
theorem Agr.of{L:List Nat}{ρ0 ρ:Rho}{i:Nat}{v:Option U}(h:Agr L ρ0 ρ)(hi:i∉L)(e:ρ0[i]? = some v):ρ[i]? = some v:=(h.2 i hi).trans e
noncomputable def KM:MS:=bc (bI 7 (m2 oIx (m2 oIx (ab 0) (m2 oDiv (ab 4) (ab 2))) (m2 oDiv (ab 6) (ab 2)))) (du (mML cU (ab 5) (aa (m2 da (m2 hV (ab 7) (ab 2)) (m2 oIx (m2 oIx (ab 1) (m2 oMod (ab 4) (ab 2))) (m2 oMod (ab 6) (ab 2)))) af)))
theorem IJ{k m:Nat}{A B:Nat->Nat->Nat}{S:Sto}(hk:0<k)(hk2:k<1000)(hm:0<m)(hm2:m<1000)(ca: ∀i j,i<k->j<k->A i j<k): ∃S',lE [tab k A,tab m B] S=some (tab (k*m) (qi m A B),S')/\Ex S S':=by
 have hkm:k*m<1000000:=by
  calc k*m<=999*m:=jW m (by exact dy (by assumption))
   _<=999*999:=sZ 999 (by exact dy (by assumption))
   _<1000000:=by decide
 have hbig:k*m<big:=by unfold big;exact ai (by assumption) (by decide)
 have dl: ∀i,i<k*m->i / m<k:=λi hi=>Nat.div_lt_of_lt_mul (by rw[kZ];exact hi)
 have rl: ∀i,i % m<m:=λi=>vt _ hm
 obtain⟨ρ1,S1,e1,q1,q2,q3⟩:=build (fs:=3) (rs:=5) (is:=4) (js:=6) (L:= [4,5,6,7]) (ρ0:= [some (tab k A),some (tab m B),some (.int m),some (.ref S.length),none,none,none,none]) (S0:=S) (bIn:=KM) (a:=m2 hV (mFn bJ (aa (ab 0) af)) (ab 2)) (m:=k*m) (T:=qi m A B)
  hbig (by decide) (by decide) (by decide) (by decide) (by decide) (by decide) (by decide) (by simp) (by simp) (by simp) rfl
  (λρ S' g s=>EM (len_tab (var_eq (g.of (by decide) rfl))) (var_eq (g.of (by decide) rfl)) (by exact ai (by assumption) (by decide)))
  (λi j r ρ S' row hi hj g gi gj gr s hr he hl=>by
   have v0: ∀S',ab 0 ρ S'=some (tab k A,S'):=λS'=>var_eq (g.of (by decide) rfl)
   have v2: ∀S',ab 2 ρ S'=some (.int m,S'):=λS'=>var_eq (g.of (by decide) rfl)
   have e7:m2 oIx (m2 oIx (ab 0) (m2 oDiv (ab 4) (ab 2))) (m2 oDiv (ab 6) (ab 2)) ρ S'=some (.int (A (i / m) (j / m)),S'):=
    pD (dl j hj) (ni (dl i hi) (v0 _) (xc (var_eq gi) (v2 _) hm hm2)) (xc (var_eq gj) (v2 _) hm hm2)
   have hlen:ρ.length=8:=g.1
   have g':Agr [4,5,6,7] _ (ρ.set 7 (some (.int (A (i / m) (j / m))))):=g.set (by decide)
   have w2: ∀S',ab 2 (ρ.set 7 (some (.int (A (i / m) (j / m))))) S'=some (.int m,S'):=λS'=>var_eq (g'.of (by decide) rfl)
   have w1: ∀S',ab 1 (ρ.set 7 (some (.int (A (i / m) (j / m))))) S'=some (tab m B,S'):=λS'=>var_eq (g'.of (by decide) rfl)
   have w7: ∀S',ab 7 (ρ.set 7 (some (.int (A (i / m) (j / m))))) S'=some (.int (A (i / m) (j / m)),S'):=λS'=>var_eq (qb (by omega))
   have n4:(ρ.set 7 (some (.int (A (i / m) (j / m)))))[4]? = some (some (.int i)):=by rw[aJ (by decide)];exact gi
   have n5:(ρ.set 7 (some (.int (A (i / m) (j / m)))))[5]? = some (some (.ref r)):=by rw[aJ (by decide)];exact gr
   have n6:(ρ.set 7 (some (.int (A (i / m) (j / m)))))[6]? = some (some (.int j)):=by rw[aJ (by decide)];exact gj
   have hA:A (i / m) (j / m)<1000000:=cR (ca _ _ (dl i hi) (dl j hj)) (by exact ai (by assumption) (by decide))
   have ev:m2 da (m2 hV (ab 7) (ab 2)) (m2 oIx (m2 oIx (ab 1) (m2 oMod (ab 4) (ab 2))) (m2 oMod (ab 6) (ab 2))) (ρ.set 7 (some (.int (A (i / m) (j / m))))) S'=some (.int (qi m A B i j:Nat),S'):=
    add_n (EM (w7 _) (w2 _) hA) (pD (rl j) (ni (rl i) (w1 _) (EX (var_eq n4) (w2 _) hm)) (EX (var_eq n6) (w2 _) hm))
   exact⟨_,_,(aP (bS e7)).trans (append_eq (var_eq n5) ev he he hl),g',n4,n5,Wr.set _ _ _,aZ (ah.mp he).1⟩)
 have e2:mFn bT (aa (ab 3) af) ρ1 S1=some (tab (k*m) (qi m A B),S1):=kN (var_eq (q1.of (by decide) rfl)) q3
 refine⟨S1,bM (ρ:=ρ1) rfl ?_,q2.toEx⟩
 show pe [some (tab k A),some (tab m B),none,none,none,none,none,none] S=_
 exact(aP (bS (len_tab (var_eq rfl)))).trans ((aP (bS lD)).trans ((aP e1).trans (bN e2)))
end
end _W
end
section
namespace _W
open _L _G
section
noncomputable def rJ:Nat->Nat->Nat:=λa b=>([[0,0,0,0],[0,1,0,1],[0,1,1,0],[0,0,1,1]].getD a []).getD b 0
noncomputable def Az:Nat->Nat->Nat:=λa b=>([[0,1,2,3],[1,0,3,2],[2,3,0,1],[3,2,1,0]].getD a []).getD b 0
noncomputable def yG(i j:Nat):Nat:=2*Az (i / 2) (j / 2)+(i+j+rJ (i / 2) (j / 2)) % 2
theorem EC:((aB 8).all λi=>(aB 8).all λj=>yG i j==gq i j)=true:=by decide +kernel
theorem Da{i j:Nat}(hi:i<8)(hj:j<8):yG i j=gq i j:=by
 have h:=bP.mp (bP.mp EC i (bp.mpr hi)) j (bp.mpr hj)
 exact eq_of_beq h
noncomputable def Ie:MS:=bc (bI 6 (m2 oMod (m2 da (m2 da (ab 3) (ab 5)) (m2 oIx (m2 oIx (ab 0) (m2 oDiv (ab 3) (mC (.int 2)))) (m2 oDiv (ab 5) (mC (.int 2))))) (mC (.int 2)))) (du (mML cU (ab 4) (aa (m2 da (m2 hV (mC (.int 2)) (m2 oIx (m2 oIx (ab 1) (m2 oDiv (ab 3) (mC (.int 2)))) (m2 oDiv (ab 5) (mC (.int 2))))) (ab 6)) af)))
noncomputable def va(T:Nat->Nat->Nat)(a:Nat):Cell:= .lst ((aB 4).map λb => .int (T a b))
noncomputable def EO(s:Nat):Cell:= .lst ((aB 4).map λa => .ref (s+a))
noncomputable def ten(s:Nat):Sto:= [va rJ 0,va rJ 1,va rJ 2,va rJ 3,EO s,va Az 0,va Az 1,va Az 2,va Az 3,EO (s+5)]
theorem look{S S':Sto}{n k:Nat}{c:Cell}(s:Sm (S++ten S.length).length (S++ten S.length) S')(hk:(ten S.length)[k]? = some c)(hn:n=S.length+k):S'[n]? = some c:=by
 have hl:k<(ten S.length).length:=(ah.mp hk).1
 rw[s.same n (by rw[aV];omega),az (by omega),hn]
 rw[show S.length+k - S.length=k by omega];exact hk
theorem zt{S S':Sto}{ρ:Rho}{v p q x y:Nat}{T:Nat->Nat->Nat}(hv:ρ[v]? = some (some (.ref x)))(hx:S'[x]? = some (EO y))(hy: ∀a,a<4->S'[y+a]? = some (va T a)){i j:Nat}(hi:ρ[p]? = some (some (.int i)))(hj:ρ[q]? = some (some (.int j)))(li:i<8)(lj:j<8):
  m2 oIx (m2 oIx (ab v) (m2 oDiv (ab p) (mC (.int 2)))) (m2 oDiv (ab q) (mC (.int 2))) ρ S'=some (.int (T (i / 2) (j / 2)),S'):=
 HF (HF (var_eq hv) (xc (y:=2) (var_eq hi) c_i (by decide) (by decide)) hx (nS (by omega))) (xc (y:=2) (var_eq hj) c_i (by decide) (by decide)) (hy _ (by omega)) (nS (by omega))
theorem j0{ρ:Rho}{S:Sto}{x y z w:Int}:dz (aa (mC (.int x)) (aa (mC (.int y)) (aa (mC (.int z)) (aa (mC (.int w)) af)))) ρ S=some (.ref S.length,S++[Cell.lst [.int x,.int y,.int z,.int w]]):=by
 have hz:4<=big:=by decide
 simp[dz,aa,mC,af,aE,hz]
theorem zR{ρ:Rho}{S S1 S2 S3 S4:Sto}{a b c d:ME}{x y z w:U}(ha:a ρ S=some (x,S1))(hb:b ρ S1=some (y,S2))(hc:c ρ S2=some (z,S3))(hd:d ρ S3=some (w,S4)):
  dz (aa a (aa b (aa c (aa d af)))) ρ S=some (.ref S4.length,S4++[Cell.lst [x,y,z,w]]):=by
 have hz:4<=big:=by decide
 simp only[dz,aa,af,aE,ha,hb,hc,hd]
 simp[hz]
theorem AH{S:Sto}: ∃S',gK [] S=some (tab 8 gq,S')/\Ex S S':=by
 have e0:=zR (ρ:= [none,none,none,none,none,none,none]) (S:=S) (j0 (x:=0) (y:=0) (z:=0) (w:=0)) (j0 (x:=0) (y:=1) (z:=0) (w:=1)) (j0 (x:=0) (y:=1) (z:=1) (w:=0)) (j0 (x:=0) (y:=0) (z:=1) (w:=1))
 have e1:=zR (ρ:= [some (.ref (S.length+4)),none,none,none,none,none,none]) (S:=S++(ten S.length).take 5) (j0 (x:=0) (y:=1) (z:=2) (w:=3)) (j0 (x:=1) (y:=0) (z:=3) (w:=2)) (j0 (x:=2) (y:=3) (z:=0) (w:=1)) (j0 (x:=3) (y:=2) (z:=1) (w:=0))
 have e0':=e0.trans (b:=_) (c:=some (U.ref (S.length+4),S++(ten S.length).take 5)) (by simp only[aW,aV];rfl)
 have e1':=e1.trans (b:=_) (c:=some (U.ref (S.length+9),S++ten S.length)) (by simp only[aW,aV];rfl)
 obtain⟨ρ1,S1,f1,q1,q2,q3⟩:=build (fs:=2) (rs:=4) (is:=3) (js:=5) (L:= [3,4,5,6]) (ρ0:= [some (.ref (S.length+4)),some (.ref (S.length+9)),some (.ref (S++ten S.length).length),none,none,none,none]) (S0:=S++ten S.length) (bIn:=Ie) (a:=mC (.int 8)) (m:=8) (T:=gq)
  (by decide) (by decide) (by decide) (by decide) (by decide) (by decide) (by decide) (by decide) (by simp) (by simp) (by simp) rfl
  (λρ S' g s=>rfl)
  (λi j r ρ S' row hi hj g gi gj gr s hr he hl=>by
   have hlen:ρ.length=7:=g.1
   have hs: ∀a,a<4->S'[S.length+a]? = some (va rJ a):=λa ha=>look (k:=a) s (by match a,ha with | 0,_=>rfl | 1,_=>rfl | 2,_=>rfl | 3,_=>rfl) rfl
   have hkk: ∀a,a<4->S'[S.length+5+a]? = some (va Az a):=λa ha=>look (k:=5+a) s (by match a,ha with | 0,_=>rfl | 1,_=>rfl | 2,_=>rfl | 3,_=>rfl) (by omega)
   have t1:=zt (S:=S) (T:=rJ) (v:=0) (g.of (by decide) rfl) (look (k:=4) s rfl rfl) hs gi gj hi hj
   have e6:m2 oMod (m2 da (m2 da (ab 3) (ab 5)) (m2 oIx (m2 oIx (ab 0) (m2 oDiv (ab 3) (mC (.int 2)))) (m2 oDiv (ab 5) (mC (.int 2))))) (mC (.int 2)) ρ S'=some (.int ((i+j+rJ (i / 2) (j / 2)) % 2:Nat),S'):=
    EX (y:=2) (add_n (add_n (var_eq gi) (var_eq gj)) t1) c_i (by decide)
   have g':Agr [3,4,5,6] _ (ρ.set 6 (some (.int ((i+j+rJ (i / 2) (j / 2)) % 2:Nat)))):=g.set (by decide)
   have n3:(ρ.set 6 (some (.int ((i+j+rJ (i / 2) (j / 2)) % 2:Nat))))[3]? = some (some (.int i)):=by rw[aJ (by decide)];exact gi
   have n4:(ρ.set 6 (some (.int ((i+j+rJ (i / 2) (j / 2)) % 2:Nat))))[4]? = some (some (.ref r)):=by rw[aJ (by decide)];exact gr
   have n5:(ρ.set 6 (some (.int ((i+j+rJ (i / 2) (j / 2)) % 2:Nat))))[5]? = some (some (.int j)):=by rw[aJ (by decide)];exact gj
   have t2:=zt (S:=S) (T:=Az) (v:=1) (g'.of (by decide) rfl) (look (k:=9) s rfl rfl) hkk n3 n5 hi hj
   have ev:m2 da (m2 hV (mC (.int 2)) (m2 oIx (m2 oIx (ab 1) (m2 oDiv (ab 3) (mC (.int 2)))) (m2 oDiv (ab 5) (mC (.int 2))))) (ab 6) (ρ.set 6 (some (.int ((i+j+rJ (i / 2) (j / 2)) % 2:Nat)))) S'=some (.int (gq i j:Nat),S'):=by
    rw[<- Da hi hj]
    exact add_n (EM (x:=2) c_i t2 (by decide)) (var_eq (qb (by omega)))
   exact⟨_,_,(aP (bS e6)).trans (append_eq (var_eq n4) ev he he hl),g',n3,n4,Wr.set _ _ _,aZ (ah.mp he).1⟩)
 have f2:mFn bT (aa (ab 2) af) ρ1 S1=some (tab 8 gq,S1):=kN (var_eq (q1.of (by decide) rfl)) q3
 refine⟨S1,bM (ρ:=ρ1) rfl ?_,Ex.trans ⟨ten S.length,rfl⟩ q2.toEx⟩
 show ki [none,none,none,none,none,none,none] S=_
 exact(aP (bS e0')).trans ((aP (bS e1')).trans ((aP (bS lD)).trans ((aP f1).trans (bN f2))))
end
end _W
end
section
namespace _W
open _L _G
section
theorem wI{e:ME}{ρ:Rho}(P:List U->Sto->Prop): ∀(us acc:List U) (S:Sto),P acc S ->
  (∀(k:Nat) (acc':List U) (u:U) (S:Sto),us[k]? = some u->acc'.length=acc.length+k->P acc' S -> ∃v S',e (ρ++[some u]) S=some (v,S')/\P (acc'++[v]) S') ->
  ∃ys S',gX cTT e ρ us acc S=some (ys,S')/\P ys S'/\ys.length=acc.length+us.length
 | [],acc,S,h,_=>⟨acc,S,rfl,h,by simp⟩
 | u::us,acc,S,h,st=>by
   obtain⟨v,S1,e1,h1⟩:=st 0 acc u S rfl (by simp) h
   obtain⟨ys,S2,e2,h2,h3⟩:=wI P us (acc++[v]) S1 h1 λk acc' w S hk hl hp=>st (k+1) acc' w S (by simpa using hk) (by simp at hl;omega) hp
   refine⟨ys,S2,?_,h2,by simp at h3 ⊢;omega⟩
   show bnd (cTT (ρ++[some u]) S) _=_
   simp only[cTT,aE,if_true]
   rw[e1]
   exact e2
theorem CB{ρ:Rho}{S S0:Sto}{a e:ME}{n:Nat}(ha:a ρ S=some (.int n,S0))(hn:n<big)(P:List U->Sto->Prop)(h0:P [] S0)
  (hs: ∀(k:Nat) (acc:List U) (S:Sto),k<n->acc.length=k->P acc S -> ∃v S',e (ρ++[some (.int k)]) S=some (v,S')/\P (acc++[v]) S'):
  ∃ys S',mFn bT (aa (cm (iR1 (aa a af)) cTT e) af) ρ S=some (.tup ys,S'++[.lst ys])/\P ys S'/\ys.length=n:=by
 obtain⟨ys,S1,e1,h1,h2⟩:=wI (e:=e) (ρ:=ρ) P (bh 0 n) [] S0 h0 λk acc u S hk hl hp=>by
  have hlt:k<n:=by have:=(ah.mp hk).1;simpa [bh]using this
  have hu:(bh 0 n)[k]? = some (.int k):=by simp[bh,hlt]
  rw[hu]at hk;cases hk
  exact hs k acc S hlt (by simpa using hl) hp
 have hlen:(bh 0 n).length=n:=by simp[bh]
 rw[hlen]at h2
 simp only[cg,eM]at h2
 exact⟨ys,S1,eR (nO (nV ha hn) e1 (by rw[h2];exact hn)),h1,h2⟩
theorem Stp.set{n r:Nat}{S S':Sto}{c:Cell}(h:Stp n S S')(hr:S.length<=r)(hn:r≠n):Stp n S (S'.set r c):=by
 refine⟨by rw[fW];exact h.len,λm h1 h2=>by rw[aJ (by omega)];exact h.same m h1 h2,?_⟩
 obtain⟨s,b,e⟩:=h.st
 exact⟨s,b,by rw[aJ hn];exact e⟩
theorem Stp.step{n:Nat}{S S1 S2:Sto}(a:Stp n S S1)(e:Ex S1 S2):Stp n S S2:=a.trans (Stp.ex a.st e)
theorem bZ{f:MF}{ρ:Rho}{S S1 S2:Sto}{a b:ME}{x y:U}{r:Res U}(ha:a ρ S=some (x,S1))(hb:b ρ S1=some (y,S2))(h:f [x,y] S2=r):mFn f (aa a (aa b af)) ρ S=r:=by
 simp only[mFn,aa,af,ha,hb,aE,h]
theorem gW{f:MF}{ρ:Rho}{S S1:Sto}{a:ME}{x:U}{r:Res U}(ha:a ρ S=some (x,S1))(h:f [x] S1=r):mFn f (aa a af) ρ S=r:=by
 simp only[mFn,oV ha,aE,h]
theorem Bx{ρ:Rho}{S:Sto}{a:ME}{r:Nat}{us:List U}(ha:a ρ S=some (.ref r,S))(hr:S[r]? = some (Cell.lst us)):mFn bJ (aa a af) ρ S=some (.int us.length,S):=
 gW ha (by simp only[bJ,fP,d0,getL,hr,aR])
theorem wN{α β:Type}(f:α->β): ∀(l:List α) (j:Nat),(l.map f).eraseIdx j=(l.eraseIdx j).map f
 | [],_=>rfl
 | _::_,0=>rfl
 | x::l,j+1=>by simp[wN f l j]
noncomputable def aj(l:List Nat):List U:=l.map λ(x:Nat)=>U.int x
theorem zU{ρ:Rho}{S S1:Sto}{o a:ME}{r:Nat}{l:List Nat}{j:Nat}(ho:o ρ S=some (.ref r,S))(ha:a ρ S=some (.int j,S1))(hr:S[r]? = some (Cell.lst (aj l)))(hr1:S1[r]? = some (Cell.lst (aj l)))(hj:j<l.length)(hl:l.length<big):
  mML km o (aa a af) ρ S=some (.int l[j],S1.set r (Cell.lst (aj (l.eraseIdx j)))):=by
 have hok:okR (j:Int):=nH (by exact cR (by assumption) (by assumption))
 have hx:ixN (aj l).length (j:Int)=some j:=by
  have:(aj l).length=l.length:=by simp[aj]
  rw[this];simp[ixN,hj]
 have hg:(aj l)[j]? = some (.int l[j]):=by simp[aj,hj]
 have he:(aj l).eraseIdx j=aj (l.eraseIdx j):=wN _ _ _
 simp only[mML,ho,aE,getL,hr,ag,oV ha,km,hr1,hok,if_true,hx,hg,aR,he]
theorem wU{ρ:Rho}{S:Sto}{a b:ME}{i j:Int}(ha:a ρ S=some (.int i,S))(hb:b ρ S=some (.int j,S))(h1:okR i)(h2:okR j)(hz:(bh i (j - i).toNat).length<=big):kr (iR2 (aa a (aa b af))) ρ S=some (.ref S.length,S++[Cell.lst (bh i (j - i).toNat)]):=by
 have e:iR2 (aa a (aa b af)) ρ S=some (.imm (bh i (j - i).toNat),S):=by
  unfold iR2
  simp only[aa,af,ha,hb,aE]
  exact if_pos ⟨h1,h2⟩
 simp only[kr,e,aE,hz,if_true]
theorem cat_t{ρ:Rho}{S S1 S2:Sto}{a b:ME}{xs ys:List U}(ha:a ρ S=some (.tup xs,S1))(hb:b ρ S1=some (.tup ys,S2))(hz:xs.length+ys.length<=big):m2 da a b ρ S=some (.tup (xs++ys),S2):=op2 ha hb (by simp only[da,hz,if_true])
theorem lq(m:Nat)(hm:0<m):bh 1 ((m:Int) - 1).toNat=aj (aO 1 (m - 1)):=by
 have e:((m:Int) - 1).toNat=m - 1:=by omega
 rw[e]
 unfold bh aj
 rw[Cq,bF]
 apply aM
 intro k _
 simp
theorem yB{n m:Nat}{S:Sto}(h:qA n S)(hm:0<m)(hm2:m<1000): ∃l S',fG [.ref n,.int m] S=some (.tup (aj l),S')/\Stp n S S'/\ox m l:=by
 have hn:=h.lt
 have hbig:m<big:=by unfold big;exact ai (by assumption) (by decide)
 have e0:kr (iR2 (aa (mC (.int 1)) (aa (ab 1) af))) [some (.ref n),some (.int m),none] S=some (.ref S.length,S++[Cell.lst (aj (aO 1 (m - 1)))]):=by
  rw[wU (i:=1) (j:=m) rfl (var_eq rfl) ⟨by decide,by decide⟩ (nH hbig) (by rw[lq m hm,aj,ak,lg];exact aF (iP m 1) (ba hbig)),lq m hm]
 have st0:Stp n S (S++[Cell.lst (aj (aO 1 (m - 1)))]):=Stp.ex h (Ex.push _ _)
 obtain⟨ys,S1,e1,⟨tk,rem,rfl,q1,q2,q3⟩,e2⟩:=CB (ρ:= [some (.ref n),some (.int m),some (.ref S.length)]) (S:=S++[Cell.lst (aj (aO 1 (m - 1)))]) (S0:=S++[Cell.lst (aj (aO 1 (m - 1)))])
  (a:=m2 u0 (ab 1) (mC (.int 1))) (e:=mML km (ab 2) (aa (mFn br (aa (ab 0) (aa (mFn bJ (aa (ab 2) af)) af))) af)) (n:=m - 1)
  (by rw[Ei (var_eq rfl) c_i];congr 3;exact(Int.natCast_sub hm).symm) (ay (iP m 1) hbig)
  (λacc S' =>∃tk rem:List Nat,acc=aj tk/\S'[S.length]? = some (Cell.lst (aj rem))/\(tk++rem).Perm (aO 1 (m - 1))/\Stp n S S')
  ⟨[],aO 1 (m - 1),rfl,by rw[az (aq _)];simp,by simp,st0⟩
  (by
   rintro k acc S' hk hl ⟨tk,rem,rfl,q1,q2,q3⟩
   have htk:tk.length=k:=by simpa [aj]using hl
   have hrem:rem.length=m - 1 - k:=by
    have:=q2.length_eq
    rw[aV,lg,htk]at this
    rw[<- this,Nat.add_sub_cancel_left]
   have hr0:0<rem.length:=by rw[hrem];exact Nat.sub_pos_of_lt hk
   have hr1:rem.length<1000:=by rw[hrem];exact ay (aF (iP _ _) (iP _ _)) hm2
   obtain⟨r,S2,t1,t2,t3,t4,t5⟩:=B0 (many:=(rem.length:Int)) q3.st (fU.mpr hr0) (by omega)
   obtain⟨j,rfl⟩:=DY t2
   have hj:j<rem.length:=fU.mp t3
   have ho: ∀S',ab 2 ([some (U.ref n),some (.int m),some (.ref S.length)]++[some (.int k)]) S'=some (.ref S.length,S'):=λS'=>var_eq rfl
   have hv: ∀S',ab 0 ([some (U.ref n),some (.int m),some (.ref S.length)]++[some (.int k)]) S'=some (.ref n,S'):=λS'=>var_eq rfl
   have hlen:mFn bJ (aa (ab 2) af) ([some (U.ref n),some (.int m),some (.ref S.length)]++[some (.int k)]) S'=some (.int rem.length,S'):=by
    rw[Bx (ho _) q1];simp[aj]
   have q1':S2[S.length]? = some (Cell.lst (aj rem)):=t4.some (by exact dk (by assumption)) q1
   refine⟨_,_,zU (ho _) (bZ (hv _) hlen t1) q1 q1' hj (by unfold big;exact ai hr1 (by decide)),tk++[rem[j]],rem.eraseIdx j,by simp[aj],?_,?_,?_⟩
   ·exact aZ (ah.mp q1').1
   ·refine Hc ?_ q2
    rw[aW]
    exact(pj rem j hj).append_left tk
   ·exact(q3.trans t4).set (aq _) (by exact dk (by assumption)))
 have hrem:rem = []:=by
  have:=q2.length_eq
  simp[aj]at this e2
  exact dw (by omega)
 subst hrem
 rw[iB]at q2
 refine⟨0::tk,S1++[Cell.lst (aj tk)],bM (ρ:= [some (.ref n),some (.int m),some (.ref S.length)]) rfl ?_,q3.step (Ex.push _ _),CV hm q2⟩
 show mF [some (.ref n),some (.int m),none] S=_
 refine(aP (bS e0)).trans (bN ?_)
 have ez:fN (aa (mC (.int 0)) af) [some (.ref n),some (.int m),some (.ref S.length)] (S++[Cell.lst (aj (aO 1 (m - 1)))])=some (.tup [.int 0],S++[Cell.lst (aj (aO 1 (m - 1)))]):=by
  have hb1:1<=big:=by decide
  simp[fN,oV (show mC (.int 0) _ _=some (U.int 0,S++[Cell.lst (aj (aO 1 (m - 1)))]) from rfl),aE,hb1]
 exact cat_t ez e1 (by simp[aj]at e2 ⊢;omega)
theorem IC{S:Sto}{f:Nat}{i:Int}:toD S (f+1) (.int i)=some (.int i):=rfl
theorem uw{S:Sto}{f:Nat}: ∀(l:List Nat),cH (toD S (f+1)) (aj l)=some (l.map λ(x:Nat)=>iF x)
 | []=>rfl
 | x::l=>by
   show(toD S (f+1) (.int x)).bind _=_
   rw[IC]
   simp only[ag]
   rw[show oo (λ(x:Nat)=>U.int x) l=aj l from rfl,uw l]
   rfl
theorem yC(x:Nat): ∀(l:List Nat),x∈l->(l.map λ(x:Nat)=>iF x).findIdx? (λy=>iG y (.int x))=some (l.idxOf x)
 | [],h=>by simp at h
 | y::l,h=>by
   have e:iG (.int y) (.int x)=decide (y=x):=by
    simp[iG]
    by_cases hxy:y=x
    ·subst hxy;simp
    ·have: ¬((y:Int)=x):=by omega
     simp[hxy,this]
   rw[bE,List.findIdx?_cons,e,List.idxOf_cons]
   by_cases hxy:y=x
   ·subst hxy;simp
   ·have hm:x∈l:=by
     rcases aK.mp h with z |z
     ·exact absurd z.symm hxy
     ·exact z
    have hb:(y==x)=false:=by simpa using hxy
    rw[yC x l hm]
    simp[hxy,hb]
theorem Js{S:Sto}{x:Nat}{l:List Nat}(h:x∈l):EA S (.int x) (aj l)=some (l.idxOf x):=by
 unfold EA
 rw[uw l]
 simp only[ag]
 rw[show toD S 40 (.int x)=some (.int x) from rfl]
 exact yC x l h
theorem qw{ρ:Rho}{S S1:Sto}{o a:ME}{l:List Nat}{x:Nat}(ho:o ρ S=some (.tup (aj l),S))(ha:a ρ S=some (.int x,S1))(h:x∈l):mMT eO o (aa a af) ρ S=some (.int (l.idxOf x:Nat),S1):=by
 simp only[mMT,ho,aE,oV ha,eO,Js h,aR]
 rfl
theorem uS{l:List Nat}{j:Nat}{u:U}(h:(aj l)[j]? = some u):j<l.length/\u = .int (oF l j):=by
 have hl:j<l.length:=by have:=(ah.mp h).1;simpa [aj]using this
 have:(aj l)[j]? = some (.int l[j]):=by simp[aj,hl]
 rw[this]at h;cases h
 exact⟨hl,by simp[oF,hl]⟩
theorem bU(l:List Nat):(aj l).length=l.length:=by simp[aj]
theorem Fd{m:Nat}{T:Nat->Nat->Nat}{l:List Nat}{S:Sto}(hm:m<big)(g: ∀i j,i<m->j<m->T i j<m)(ho:ox m l): ∃S',j3 [tab m T,.tup (aj l)] S=some (tab m (dv T (oF l) (pF l)),S')/\Ex S S':=by
 have hlen:=ho.len
 obtain⟨S1,e1,h1⟩:=NM (ρ:= [some (tab m T),some (.tup (aj l))]) (S:=S) (S0:=S) (a:=ab 1) (us:=aj l) (e:=mFn bT (aa (cm (dD (ab 1)) cTT (mMT eO (ab 1) (aa (m2 oIx (m2 oIx (ab 0) (ab 2)) (ab 3)) af))) af))
  (var_eq rfl) (by rw[bU,hlen];exact hm) (kl m (dv T (oF l) (pF l))) (λ_ S'=>Ex S S') (Ex.refl _) (by
   intro i u S' hu hx
   obtain⟨hi,rfl⟩:=uS hu
   rw[hlen]at hi
   obtain⟨S2,e2,h2⟩:=NM (ρ:= [some (tab m T),some (.tup (aj l)),some (.int (oF l i))]) (S:=S') (S0:=S') (a:=ab 1) (us:=aj l) (e:=mMT eO (ab 1) (aa (m2 oIx (m2 oIx (ab 0) (ab 2)) (ab 3)) af))
    (var_eq rfl) (by rw[bU,hlen];exact hm) (λj => .int (dv T (oF l) (pF l) i j)) (λ_ S''=>S''=S') rfl (by
     intro j u S'' hu hx
     obtain⟨hj,rfl⟩:=uS hu
     rw[hlen]at hj
     refine⟨S'',?_,hx⟩
     exact qw (var_eq rfl) (pD (ho.ord.ol j hj) (ni (ho.ord.ol i hi) (var_eq rfl) (var_eq rfl)) (var_eq rfl)) (ho.mem.mpr (g _ _ (ho.ord.ol i hi) (ho.ord.ol j hj))))
   subst h2
   rw[bU,hlen]at e2
   exact⟨_,e2,hx.trans (Ex.push _ _)⟩)
 rw[bU,hlen]at e1
 exact⟨_,bM (ρ:= [some (tab m T),some (.tup (aj l))]) rfl (show nk [some (tab m T),some (.tup (aj l))] S=_ from bN e1),h1.trans (Ex.push _ _)⟩
end
end _W
end
section
namespace _W
open _L _G
section
theorem EZ{ρ:Rho}{S S1 S2:Sto}{a b:ME}{x y:Int}(ha:a ρ S=some (.int x,S1))(hb:b ρ S1=some (.int y,S2)):m2 oEq a b ρ S=some (.bl (x==y),S2):=op2 ha hb rfl
theorem AJ{ρ:Rho}{S S1 S2:Sto}{a b:ME}{x y:Int}(ha:a ρ S=some (.int x,S1))(hb:b ρ S1=some (.int y,S2)):m2 oGt a b ρ S=some (.bl (decide (y<x)),S2):=op2 ha hb rfl
theorem of_eq{ρ:Rho}{S S1:Sto}{a:ME}{b:Bool}(h:a ρ S=some (.bl b,S1)):cOf a ρ S=some (b,S1):=by simp only[cOf,h,aE]
theorem or_eq{ρ:Rho}{S S1 S2:Sto}{a b:MT}{x y:Bool}(ha:a ρ S=some (x,S1))(hb:b ρ S1=some (y,S2))(e:x=true->S2=S1):cOr a b ρ S=some (x||y,S2):=by
 cases x
 ·simp[cOr,ha,hb,aE]
 ·simp[cOr,ha,aE,e rfl]
theorem and_eq{ρ:Rho}{S S1 S2:Sto}{a b:MT}{x y:Bool}(ha:a ρ S=some (x,S1))(hb:b ρ S1=some (y,S2))(e:x=false->S2=S1):pv a b ρ S=some (x&&y,S2):=by
 cases x
 ·simp[pv,ha,aE,e rfl]
 ·simp[pv,ha,hb,aE]
theorem qh{c:MT}{a b:MS}{ρ:Rho}{S S1:Sto}(h:c ρ S=some (true,S1)):sIf c a b ρ S=a ρ S1:=by simp[sIf,h,aE]
theorem ip{c:MT}{a b:MS}{ρ:Rho}{S S1:Sto}(h:c ρ S=some (false,S1)):sIf c a b ρ S=b ρ S1:=by simp[sIf,h,aE]
theorem lz{n m:Nat}{S:Sto}(h:qA n S)(hm:0<m)(hm2:m<1000): ∃r S',br [.ref n,.int m] S=some (.int (r:Nat),S')/\r<m/\Stp n S S':=by
 obtain⟨r,S',e,h1,h2,h3,_⟩:=B0 (many:=(m:Int)) h (by omega) (by omega)
 obtain⟨r,rfl⟩:=DY h1
 exact⟨r,S',e,by omega,h3⟩
noncomputable def gA:MS:=sIf (cOr (cOf (m2 oEq (ab 2) (mC (.int 1)))) (cOf (m2 oEq (ab 2) (mC (.int 2))))) (bI 3 (mFn fQ (aa (m2 da (mC (.int 1)) (mFn br (aa (ab 0) (aa (m2 oDiv (ab 1) (mC (.int 2))) af)))) af))) cP
noncomputable def gB:MS:=sIf (pv (cOf (m2 oEq (ab 2) (mC (.int 3)))) (cOf (m2 oGt (ab 1) (mC (.int 7))))) (bI 3 (mFn gK af)) cP
noncomputable def gC:MS:=sIf (cOf (m2 oGt (ab 2) (mC (.int 3)))) (bc (bI 4 (m2 da (mC (.int 2)) (mFn br (aa (ab 0) (aa (mC (.int 3)) af))))) (bc (bI 5 (m2 oIx (dz (aa (mFn dM (aa (ab 4) af)) (aa (mFn fQ (aa (ab 4) af)) af))) (mFn br (aa (ab 0) (aa (mC (.int 2)) af))))) (bc (sIf (cOf (m2 oGt (mFn bJ (aa (ab 5) af)) (ab 1))) (bI 5 (mFn dM (aa (ab 4) af))) cP) (bI 3 (mFn lE (aa (ab 5) (aa (mFn dM (aa (m2 da (mC (.int 1)) (mFn br (aa (ab 0) (aa (m2 oDiv (ab 1) (mFn bJ (aa (ab 5) af))) af)))) af)) af))))))) cP
noncomputable def gD:MS:=sIf (cOf (m2 oEq (mFn br (aa (ab 0) (aa (mC (.int 3)) af))) (mC (.int 0)))) (bI 3 (mFn j3 (aa (ab 3) (aa (mFn fG (aa (ab 0) (aa (mFn bJ (aa (ab 3) af)) af))) af)))) cP
structure Gs(n most way:Nat)(S0:Sto)(ρ:Rho)(S:Sto):Prop where
 ex: ∃m T x y,ρ = [some (.ref n),some (.int most),some (.int way),some (tab m T),x,y]/\Grp m T/\m<=most
 st:Stp n S0 S
section
variable {n most way:Nat}{S0 S:Sto}{ρ:Rho}
theorem O5(h6:6<=most)(hm:most<1000)(g:Gs n most way S0 ρ S): ∃ρ' S',gA ρ S=some (.nx,ρ',S')/\Gs n most way S0 ρ' S':=by
 obtain⟨⟨m,T,x,y,rfl,gr,hle⟩,st⟩:=g
 have hc:=or_eq (of_eq (EZ (ρ:= [some (.ref n),some (.int most),some (.int way),some (tab m T),x,y]) (S:=S) (a:=ab 2) (b:=mC (.int 1)) (var_eq rfl) c_i)) (of_eq (EZ (a:=ab 2) (b:=mC (.int 2)) (var_eq rfl) c_i)) λ_=>rfl
 cases hb:(((way:Int)==1)||((way:Int)==2)) with
 | false=>
   rw[hb]at hc
   exact⟨_,S,ip hc,⟨m,T,x,y,rfl,gr,hle⟩,st⟩
 | true=>
   rw[hb]at hc
   obtain⟨r,S1,e1,w1,s1⟩:=lz (m:=most / 2) st.st (by omega) (by omega)
   obtain⟨S2,e2,s2⟩:=y6 (n:=1+r) (S:=S1) (by exact cu (by decide) _) (by omega)
   refine⟨_,S2,(qh hc).trans (bS (gW (x:= .int (1+r:Nat)) (add_n (x:=1) c_i (bZ (var_eq rfl) (xc (y:=2) (var_eq rfl) c_i (by decide) (by decide)) e1)) e2)),⟨_,_,x,y,rfl,zK (by exact cu (by decide) _),by omega⟩,(st.trans s1).step s2⟩
theorem PB(g:Gs n most way S0 ρ S): ∃ρ' S',gB ρ S=some (.nx,ρ',S')/\Gs n most way S0 ρ' S':=by
 obtain⟨⟨m,T,x,y,rfl,gr,hle⟩,st⟩:=g
 have hc:=and_eq (of_eq (EZ (ρ:= [some (.ref n),some (.int most),some (.int way),some (tab m T),x,y]) (S:=S) (a:=ab 2) (b:=mC (.int 3)) (var_eq rfl) c_i)) (of_eq (AJ (a:=ab 1) (b:=mC (.int 7)) (var_eq rfl) c_i)) λ_=>rfl
 cases hb:(((way:Int)==3)&&decide ((7:Int)<most)) with
 | false=>
   rw[hb]at hc
   exact⟨_,S,ip hc,⟨m,T,x,y,rfl,gr,hle⟩,st⟩
 | true=>
   rw[hb]at hc
   obtain⟨S2,e2,s2⟩:=AH (S:=S)
   have h7:(7:Int)<most:=by simp at hb;exact hb.2
   refine⟨_,S2,(qh hc).trans (bS (show mFn gK af _ S=_ from e2)),⟨_,_,x,y,rfl,CD,by omega⟩,st.step s2⟩
theorem Ep{ρ:Rho}{S S1 S2:Sto}{a b:ME}{x y:U}(ha:a ρ S=some (x,S1))(hb:b ρ S1=some (y,S2)):dz (aa a (aa b af)) ρ S=some (.ref S2.length,S2++[Cell.lst [x,y]]):=by
 have hz:2<=big:=by decide
 simp[dz,aa,af,aE,ha,hb,hz]
theorem Nk(h6:6<=most)(hm:most<1000)(g:Gs n most way S0 ρ S): ∃ρ' S',gC ρ S=some (.nx,ρ',S')/\Gs n most way S0 ρ' S':=by
 obtain⟨⟨m,T,x,y,rfl,gr,hle⟩,st⟩:=g
 have hbig: ∀x,x<=most->x<big:=λx hx=>by unfold big;exact ay (by assumption) (ai (by assumption) (by decide))
 have hc:=of_eq (AJ (ρ:= [some (.ref n),some (.int most),some (.int way),some (tab m T),x,y]) (S:=S) (a:=ab 2) (b:=mC (.int 3)) (var_eq rfl) c_i)
 cases hb:decide ((3:Int)<way) with
 | false=>
   rw[hb]at hc
   exact⟨_,S,ip hc,⟨m,T,x,y,rfl,gr,hle⟩,st⟩
 | true=>
   rw[hb]at hc
   obtain⟨r,S1,e1,w1,s1⟩:=lz (m:=3) st.st (by decide) (by decide)
   have f1:m2 da (mC (.int 2)) (mFn br (aa (ab 0) (aa (mC (.int 3)) af))) [some (.ref n),some (.int most),some (.int way),some (tab m T),x,y] S=some (.int (2+r:Nat),S1):=
    add_n (x:=2) c_i (bZ (var_eq rfl) c_i e1)
   have h24:2+r<=4:=Nat.add_le_add_left (dy w1) 2
   have h2m:2+r<=most:=aF h24 (aF (by decide) h6)
   obtain⟨S2,e2,s2⟩:=qg (n:=2+r) (S:=S1) (by exact cu (by decide) _) (hbig _ h2m)
   obtain⟨S3,e3,s3⟩:=y6 (n:=2+r) (S:=S2) (by exact cu (by decide) _) (ay h24 (by decide))
   have st3:Stp n S0 (S3++[Cell.lst [tab (2+r) (fq (2+r)),tab (2*(2+r)) (g8 (2+r))]]):=(((st.trans s1).step s2).step s3).step (Ex.push _ _)
   obtain⟨q,S4,e4,w4,s4⟩:=lz (m:=2) st3.st (by decide) (by decide)
   have hcell:S4[S3.length]? = some (Cell.lst [tab (2+r) (fq (2+r)),tab (2*(2+r)) (g8 (2+r))]):=by
    refine s4.some ?_ (by rw[az (aq _)];simp)
    have:=(((st.trans s1).step s2).step s3).st.lt
    exact dk (by assumption)
   have one: ∃k K,atI [tab (2+r) (fq (2+r)),tab (2*(2+r)) (g8 (2+r))] (q:Int)=some (tab k K)/\Grp k K/\k<=8:=by
    rcases q with _ |_ |q
    ·exact⟨_,_,rfl,nT (by exact cu (by decide) _),aF h24 (by decide)⟩
    ·exact⟨_,_,rfl,zK (by exact cu (by decide) _),sZ 2 h24⟩
    ·exact absurd (G0 (G0 w4)) (Nat.not_lt_zero _)
   obtain⟨k,K,hix,gk,hk8⟩:=one
   have f5:m2 oIx (dz (aa (mFn dM (aa (ab 4) af)) (aa (mFn fQ (aa (ab 4) af)) af))) (mFn br (aa (ab 0) (aa (mC (.int 2)) af))) [some (.ref n),some (.int most),some (.int way),some (tab m T),some (.int (2+r:Nat)),y] S1=some (tab k K,S4):=
    HF (Ep (gW (x:= .int (2+r:Nat)) (var_eq rfl) e2) (gW (x:= .int (2+r:Nat)) (var_eq rfl) e3)) (bZ (var_eq rfl) c_i e4) hcell hix
   have st4:=st3.trans s4
   have cut: ∃k' K' S5,sIf (cOf (m2 oGt (mFn bJ (aa (ab 5) af)) (ab 1))) (bI 5 (mFn dM (aa (ab 4) af))) cP [some (.ref n),some (.int most),some (.int way),some (tab m T),some (.int (2+r:Nat)),some (tab k K)] S4 =
     some (.nx,[some (.ref n),some (.int most),some (.int way),some (tab m T),some (.int (2+r:Nat)),some (tab k' K')],S5)/\Grp k' K'/\k'<=most/\k'<=8/\Stp n S0 S5:=by
    have hc2:=of_eq (AJ (ρ:= [some (.ref n),some (.int most),some (.int way),some (tab m T),some (.int (2+r:Nat)),some (tab k K)]) (S:=S4) (a:=mFn bJ (aa (ab 5) af)) (b:=ab 1) (len_tab (var_eq rfl)) (var_eq rfl))
    cases hb2:decide ((most:Int)<k) with
    | false=>
      rw[hb2]at hc2
      have: ¬((most:Int)<k):=by simpa using hb2
      exact⟨k,K,S4,ip hc2,gk,bX λz=>this (fU.mpr z),hk8,st4⟩
    | true=>
      rw[hb2]at hc2
      obtain⟨S5,e5,s5⟩:=qg (n:=2+r) (S:=S4) (by exact cu (by decide) _) (hbig _ h2m)
      exact⟨_,_,S5,(qh hc2).trans (bS (gW (x:= .int (2+r:Nat)) (var_eq rfl) e5)),nT (by exact cu (by decide) _),h2m,aF h24 (by decide),st4.step s5⟩
   obtain⟨k',K',S5,f6,gk',hkm,hk8',st5⟩:=cut
   have kp:=gk'.pos
   have hdiv:0<most / k':=Nat.div_pos hkm kp
   have hdl:most / k'<=most:=Nat.div_le_self _ _
   obtain⟨t,S6,e6,w6,s6⟩:=lz (m:=most / k') st5.st hdiv (by exact ay (by assumption) (by assumption))
   have h1t:1+t<=most / k':=by rw[pK];exact w6
   obtain⟨S7,e7,s7⟩:=qg (n:=1+t) (S:=S6) (by exact cu (by decide) _) (hbig _ (aF h1t hdl))
   obtain⟨S8,e8,s8⟩:=IJ (k:=k') (m:=1+t) (A:=K') (B:=fq (1+t)) (S:=S7) kp (by exact ay (by assumption) (by decide)) (by exact cu (by decide) _) (ay (aF h1t hdl) hm) gk'.cl
   have hsz:k'*(1+t)<=most:=aF (sZ k' h1t) (Nat.mul_div_le most k')
   refine⟨_,S8,(qh hc).trans ((aP (bS f1)).trans ((aP (bS f5)).trans ((aP f6).trans (bS (bZ (var_eq rfl) (gW (x:= .int (1+t:Nat)) ?_ e7) e8))))),⟨_,_,_,_,rfl,FV gk' (nT (by exact cu (by decide) _)),hsz⟩,((st5.trans s6).step s7).step s8⟩
   exact add_n (x:=1) c_i (bZ (var_eq rfl) (xc (var_eq rfl) (len_tab (var_eq rfl)) kp (by exact ay (by assumption) (by decide))) e6)
theorem OC(hm:most<1000)(g:Gs n most way S0 ρ S): ∃ρ' S',gD ρ S=some (.nx,ρ',S')/\Gs n most way S0 ρ' S':=by
 obtain⟨⟨m,T,x,y,rfl,gr,hle⟩,st⟩:=g
 obtain⟨r,S1,e1,w1,s1⟩:=lz (m:=3) st.st (by decide) (by decide)
 have hc:=of_eq (EZ (ρ:= [some (.ref n),some (.int most),some (.int way),some (tab m T),x,y]) (S:=S) (a:=mFn br (aa (ab 0) (aa (mC (.int 3)) af))) (b:=mC (.int 0)) (bZ (var_eq rfl) c_i e1) c_i)
 cases hb:((r:Int)==0) with
 | false=>
   rw[hb]at hc
   exact⟨_,S1,ip hc,⟨m,T,x,y,rfl,gr,hle⟩,st.trans s1⟩
 | true=>
   rw[hb]at hc
   obtain⟨l,S2,e2,s2,ol⟩:=yB (m:=m) s1.st gr.pos (by exact ay (by assumption) (by assumption))
   obtain⟨S3,e3,s3⟩:=Fd (m:=m) (T:=T) (S:=S2) (by unfold big;exact ay (by assumption) (ai (by assumption) (by decide))) gr.cl ol
   refine⟨_,S3,(qh hc).trans (bS (bZ (var_eq rfl) (bZ (var_eq rfl) (len_tab (var_eq rfl)) e2) e3)),⟨_,_,x,y,rfl,n8 gr ol.ord,hle⟩,((st.trans s1).trans s2).step s3⟩
end
theorem Gp{n most:Nat}{S:Sto}(h:qA n S)(h6:6<=most)(hm:most<1000): ∃m T S',i4 [.ref n,.int most] S=some (tab m T,S')/\Grp m T/\m<=most/\Stp n S S':=by
 have hbig: ∀x,x<=most->x<big:=λx hx=>by unfold big;exact ay (by assumption) (ai (by assumption) (by decide))
 obtain⟨way,S1,e1,w1,s1⟩:=lz (m:=8) h (by decide) (by decide)
 obtain⟨r2,S2,e2,w2,s2⟩:=lz (m:=most) s1.st (by exact Nat.zero_lt_of_lt (by assumption)) hm
 obtain⟨S3,e3,s3⟩:=qg (n:=1+r2) (S:=S2) (by exact cu (by decide) _) (hbig _ (by omega))
 have f1:m2 da (mC (.int 1)) (mFn br (aa (ab 0) (aa (ab 1) af))) [some (.ref n),some (.int most),some (.int way),none,none,none] S1=some (.int (1+r2:Nat),S2):=add_n (x:=1) (y:=r2) c_i (bZ (var_eq rfl) (var_eq rfl) e2)
 have g0:Gs n most way S [some (.ref n),some (.int most),some (.int way),some (tab (1+r2) (fq (1+r2))),none,none] S3:=⟨⟨_,_,none,none,rfl,nT (by exact cu (by decide) _),by omega⟩,(s1.trans s2).step s3⟩
 obtain⟨ρ4,S4,e4,g4⟩:=O5 h6 hm g0
 obtain⟨ρ5,S5,e5,g5⟩:=PB g4
 obtain⟨ρ6,S6,e6,g6⟩:=Nk h6 hm g5
 obtain⟨ρ7,S7,e7,g7⟩:=OC hm g6
 obtain⟨⟨m,T,x,y,rfl,gr,hle⟩,st⟩:=g7
 refine⟨m,T,S7,bM (ρ:= [some (.ref n),some (.int most),some (.int way),some (tab m T),x,y]) rfl ?_,gr,hle,st⟩
 show mI [some (.ref n),some (.int most),none,none,none,none] S=_
 exact(aP (bS (bZ (var_eq rfl) c_i e1))).trans ((aP (bS (gW f1 e3))).trans ((aP e4).trans ((aP e5).trans ((aP e6).trans ((aP e7).trans (bN (var_eq rfl)))))))
end
end _W
end
section
namespace _W
open _L _G
section
noncomputable def Scr(ns:List Int)(S:Sto):Prop:=getL S 0=some (ns.map U.int)
theorem Scr.ex{ns:List Int}{S S':Sto}(h:Scr ns S)(e: ∀c,S[0]? = some c->S'[0]? = some c):Scr ns S':=by
 unfold Scr getL at h ⊢
 split at h
 ·rename_i us q;rw[e _ q];exact h
 ·rename_i us q;rw[e _ q];exact h
 all_goals cases h
theorem Scr.lt{ns:List Int}{S:Sto}(h:Scr ns S):0<S.length:=by
 unfold Scr getL at h
 split at h
 ·rename_i q;exact(ah.mp q).1
 ·rename_i q;exact(ah.mp q).1
 all_goals cases h
theorem eP{α:Type}(S:List α)(c:α):(S++[c])[S.length]? = some c:=by
 rw[az (aq _)];simp
theorem Os{ρ:Rho}{S S1 S2:Sto}{a b:ME}{x y:Int}(ha:a ρ S=some (.int x,S1))(hb:b ρ S1=some (.int y,S2)):m2 oLt a b ρ S=some (.bl (decide (x<y)),S2):=op2 ha hb rfl
theorem N3{ρ:Rho}{S S1 S2:Sto}{a b:ME}{x y:Int}(ha:a ρ S=some (.int x,S1))(hb:b ρ S1=some (.int y,S2)):m2 oGe a b ρ S=some (.bl (decide (y<=x)),S2):=op2 ha hb rfl
theorem Kj{S:Sto}{r:Nat}{us:List U}(h:getL S r=some us):fP S (.ref r)=none:=by
 unfold getL at h
 show(match S[r]? with
  | some (.dic kvs)=>some kvs
  | _=>none)=none
 split at h <;> rename_i q <;> first | (cases h;done) | (rw[q])
theorem JP{ρ:Rho}{S:Sto}{a:ME}{r:Nat}{us:List U}(ha:a ρ S=some (.ref r,S))(hr:getL S r=some us):mFn bJ (aa a af) ρ S=some (.int us.length,S):=
 gW ha (by simp only[bJ,Kj hr,d0,hr,aR])
theorem QN{ρ:Rho}{S S1 S2:Sto}{a b:ME}{n:Nat}{us:List U}{z:Int}{u:U}(ha:a ρ S=some (.ref n,S1))(hb:b ρ S1=some (.int z,S2))(hn:getL S2 n=some us)(h:atI us z=some u):m2 oIx a b ρ S=some (u,S2):=op2 ha hb (by simp only[oIx,Kj hn,d0,hn,ag,h,aR])
theorem xQ{α:Type}{us:List α}{k:Nat}{u:α}(h:us[k]? = some u):atI us (k:Int)=some u:=by
 have hk:k<us.length:=(ah.mp h).1
 simp[atI,ixN,hk]
 exact(ah.mp h).2
theorem IF{ns:List Int}{S:Sto}{k:Nat}(h:Scr ns S): ∃z,iX [.ref 0,.int k] S=some (.int z,S):=by
 have hc:=of_eq (Os (ρ:= [some (.ref 0),some (.int k)]) (S:=S) (a:=ab 1) (b:=mFn bJ (aa (ab 0) af)) (var_eq rfl) (JP (var_eq rfl) h))
 rw[ak]at hc
 cases hb:decide ((k:Int)<ns.length) with
 | true=>
   rw[hb]at hc
   have hk:k<ns.length:=by simpa using hb
   have e:=QN (ρ:= [some (.ref 0),some (.int k)]) (S:=S) (a:=ab 0) (b:=ab 1) (var_eq rfl) (var_eq rfl) h (xQ (k:=k) (u:= .int ns[k]) (by simp[hk]))
   refine⟨ns[k],bM (ρ:= [some (.ref 0),some (.int k)]) rfl ?_⟩
   show gw [some (.ref 0),some (.int k)] S=_
   unfold gw bc
   rw[qh hc,bN e]
 | false=>
   rw[hb]at hc
   refine⟨0,bM (ρ:= [some (.ref 0),some (.int k)]) rfl ?_⟩
   show gw [some (.ref 0),some (.int k)] S=_
   exact(aP ((ip hc).trans rfl)).trans (bN c_i)
theorem JZ{ρ:Rho}{S:Sto}:m2 xH (mC (.int 10)) (mC (.int 18)) ρ S=some (.int (10 ^ (18:Int).toNat),S):=op2 rfl rfl (if_pos ⟨by decide,by decide,by decide⟩)
theorem E3{ns:List Int}{S:Sto}{k:Nat}(h:Scr ns S): ∃S',j1 [.ref 0,.int k] S=some (.ref S.length,S')/\Ex S S'/\qA S.length S':=by
 obtain⟨z,e1⟩:=IF (k:=k) h
 have e2:bI 2 (mFn iX (aa (ab 0) (aa (ab 1) af))) [some (.ref 0),some (.int k),none] S=some (.nx,[some (.ref 0),some (.int k),some (.int z)],S):=bS (bZ (var_eq rfl) (var_eq rfl) e1)
 have hc:=of_eq (N3 (ρ:= [some (.ref 0),some (.int k),some (.int z)]) (S:=S) (a:=ab 2) (var_eq rfl) JZ)
 generalize hp:(10:Int) ^ (18:Int).toNat=p at hc
 have hpe: ∀ρ (S:Sto),m2 xH (mC (.int 10)) (mC (.int 18)) ρ S=some (.int p,S):=λρ S=>by rw[JZ,hp]
 cases hb:decide (p<=z) with
 | true=>
   rw[hb]at hc
   have e3:=Ep (ρ:= [some (.ref 0),some (.int k),some (.int z)]) (S:=S) (a:=m2 u0 (ab 2) (m2 xH (mC (.int 10)) (mC (.int 18)))) (b:=mC (.bl true)) (Ei (var_eq rfl) (hpe _ _)) rfl
   refine⟨_,bM (ρ:= [some (.ref 0),some (.int k),some (.int z)]) rfl ?_,Ex.push _ _,⟨z - p,true,eP _ _⟩⟩
   show jY [some (.ref 0),some (.int k),none] S=_
   refine(aP e2).trans ?_
   unfold bc
   rw[qh hc,bN e3]
 | false=>
   rw[hb]at hc
   have e3:=Ep (ρ:= [some (.ref 0),some (.int k),some (.int z)]) (S:=S) (a:=m2 oMod (ab 2) (mC (.int 2147483647))) (b:=mC (.bl false)) (JV (var_eq rfl) c_i (by decide)) rfl
   refine⟨_,bM (ρ:= [some (.ref 0),some (.int k),some (.int z)]) rfl ?_,Ex.push _ _,⟨z % 2147483647,false,eP _ _⟩⟩
   show jY [some (.ref 0),some (.int k),none] S=_
   exact(aP e2).trans ((aP ((ip hc).trans rfl)).trans (bN e3))
theorem zP{i n:Nat}{b:MS}(us:List U)(P:Nat->Rho->Sto->Prop)(hl: ∀k ρ S,P k ρ S->getL S n=some us)
  (st: ∀(k:Nat) (u:U) (ρ:Rho) (S:Sto),us[k]? = some u->P k ρ S -> ∃ρ' S',b (ρ.set i (some u)) S=some (.nx,ρ',S')/\P (k+1) ρ' S'):
  ∀(f k:Nat) (ρ:Rho) (S:Sto),k<=us.length->us.length - k<f->P k ρ S -> ∃ρ' S',forL i b n f k ρ S=some (.nx,ρ',S')/\P us.length ρ' S'
 | 0,k,ρ,S,h1,h2,_=>by omega
 | f+1,k,ρ,S,h1,h2,hp=>by
   unfold forL
   rw[hl k ρ S hp]
   simp only[ag]
   by_cases hk:k<us.length
   ·have hu:us[k]? = some us[k]:=by simp[hk]
    obtain⟨ρ1,S1,e1,p1⟩:=st k us[k] ρ S hu hp
    obtain⟨ρ2,S2,e2,p2⟩:=zP us P hl st f (k+1) ρ1 S1 (by assumption) (by omega) p1
    refine⟨ρ2,S2,?_,p2⟩
    simp only[hu,aft,e1,e2]
   ·have:k=us.length:=by omega
    subst this
    exact⟨ρ,S,by simp,hp⟩
theorem K1{i n:Nat}{b:MS}{e:ME}{ρ:Rho}{S S1:Sto}{us:List U}(he:e ρ S=some (.ref n,S1))(hu:us.length<100000)(P:Nat->Rho->Sto->Prop)(h0:P 0 ρ S1)(hl: ∀k ρ S,P k ρ S->getL S n=some us)
  (st: ∀(k:Nat) (u:U) (ρ:Rho) (S:Sto),us[k]? = some u->P k ρ S -> ∃ρ' S',b (ρ.set i (some u)) S=some (.nx,ρ',S')/\P (k+1) ρ' S'):
  ∃ρ' S',fH i (dD e) b ρ S=some (.nx,ρ',S')/\P us.length ρ' S':=by
 obtain⟨ρ',S',e1,p1⟩:=zP us P hl st fuel 0 ρ S1 (dc _) (by unfold fuel;assumption) h0
 refine⟨ρ',S',?_,p1⟩
 unfold fH dD
 rw[he]
 simp only[aE,hl 0 ρ S1 h0,aR]
 exact e1
theorem EF{i:Nat}{b:MS}{e:ME}{ρ:Rho}{S S1:Sto}{us:List U}(he:e ρ S=some (.tup us,S1))(P:Nat->Rho->Sto->Prop)(h0:P 0 ρ S1)
  (st: ∀(k:Nat) (u:U) (ρ:Rho) (S:Sto),us[k]? = some u->P k ρ S -> ∃ρ' S',b (ρ.set i (some u)) S=some (.nx,ρ',S')/\P (k+1) ρ' S'):
  ∃ρ' S',fH i (dD e) b ρ S=some (.nx,ρ',S')/\P us.length ρ' S':=by
 obtain⟨ρ',S',e1,p1⟩:=qJ (i:=i) (b:=b) P us 0 ρ S1 h0 λj u ρ S hj hp=>by simpa using st j u ρ S hj (by simpa using hp)
 rw[eM]at p1
 refine⟨ρ',S',?_,p1⟩
 unfold fH dD
 rw[he]
 exact e1
noncomputable def dq(T:Nat->Nat->Nat)(w:List Nat):Nat:=w.foldl T 0
noncomputable def plc(T:Nat->Nat->Nat)(w:List Nat):List Nat:=(aB (w.length+1)).map λk=>dq T (w.take k)
theorem IZ{m:Nat}{T:Nat->Nat->Nat}(hp:0<m)(cl: ∀i j,i<m->j<m->T i j<m){w:List Nat}(hw: ∀x∈w,x<m):dq T w<m:=by
 unfold dq
 have: ∀(w:List Nat) (a:Nat),a<m->(∀x∈w,x<m)->w.foldl T a<m:=by
  intro w
  induction w with
  | nil=>intro a ha _;exact ha
  | cons x w ih=>intro a ha h;exact ih _ (cl a x ha (h x (by simp))) λy hy=>h y (by simp[hy])
 exact this w 0 hp hw
theorem DM{T:Nat->Nat->Nat}{w:List Nat}{k x:Nat}(h:w[k]? = some x):dq T (w.take (k+1))=T (dq T (w.take k)) x:=by
 unfold dq
 rw[jh,h]
 simp
theorem E6{α:Type}{f:Nat->α}{k:Nat}:atI ((aB (k+1)).map f) (-1)=some (f k):=by
 have e:ixN ((aB (k+1)).map f).length (-1)=some k:=by
  rw[ak,bB]
  unfold ixN
  rw[if_neg (by decide),if_pos (by omega)]
  congr 1;omega
 unfold atI
 rw[e]
 simp
theorem zu{l:List Nat}{k:Nat}{u:U}(h:(aj l)[k]? = some u): ∃x,l[k]? = some x/\u = .int x:=by
 obtain⟨hk,rfl⟩:=uS h
 exact⟨oF l k,by simp[oF,hk],rfl⟩
theorem OB{ρ:Rho}{S:Sto}:m1 jn (mC (.int 1)) ρ S=some (.int (-1),S):=rfl
end
end _W
end
section
namespace _W
open _L _G
section
theorem tU: ∀(a b:List Nat),gh (a.map λ(x:Nat)=>iF x) (b.map λ(x:Nat)=>iF x)=decide (a=b)
 | [],[]=>by simp[gh]
 | [],_::_=>by simp[gh]
 | _::_,[]=>by simp[gh]
 | x::a,y::b=>by
   simp only[bE,gh,iG,tU a b]
   by_cases h:x=y
   ·subst h;simp
   ·have: ¬((x:Int)=y):=by omega
    simp[h,this]
theorem uN{S:Sto}{f:Nat}{l:List Nat}:toD S (f+2) (.tup (aj l))=some (.tuple (l.map λ(x:Nat)=>iF x)):=by
 show(cH (toD S (f+1)) (aj l)).map _=_
 rw[uw l];rfl
theorem Jh{S:Sto}{a b:List Nat}:_G.eqU S (.tup (aj a)) (.tup (aj b))=some (decide (a=b)):=by
 unfold _G.eqU
 rw[uN (f:=38),uN (f:=38)]
 simp only[ag,aR,iG,tU]
theorem isT {ρ:Rho}{S S1:Sto}{a:ME}{us:List U} (ha:a ρ S=some (.tup us,S1)):m1 (pC "tuple") a ρ S=some (.bl true,S1):=by
 simp only[m1,ha,aE,pC,tyU,aR]
 rfl
theorem not_eq{ρ:Rho}{S S1:Sto}{c:MT}{b:Bool}(h:c ρ S=some (b,S1)):nA c ρ S=some (!b,S1):=by simp only[nA,h,aE]
theorem EB{ns:List Int}{S:Sto}{ρ:Rho}{c:Nat}(h:Scr ns S)(hv:ρ[0]? = some (some (.ref 0)))(hl:ns.length<=63): ∃q:Nat,q<1000/\mFn zX (aa (mC (.int 1)) (aa (mFn oy (aa (mFn bJ (aa (ab 0) af)) (aa (mC (.int c)) af))) af)) ρ S=some (.int q,S):=by
 have e1:mFn oy (aa (mFn bJ (aa (ab 0) af)) (aa (mC (.int c)) af)) ρ S=some (.int (if (c:Int)<(ns.map U.int).length then(c:Int) else(ns.map U.int).length),S):=bZ (JP (var_eq hv) h) c_i rfl
 have e2:=bZ (f:=zX) (a:=mC (.int 1)) (S:=S) (ρ:=ρ) c_i e1 rfl
 rw[ak]at e2
 refine⟨max 1 (min ns.length c),Nat.max_lt.mpr ⟨by decide,ay (aF (ky _ _) hl) (by decide)⟩,?_⟩
 rw[e2]
 show some (U.int (if (if (c:Int)<ns.length then(c:Int) else ns.length) > 1 then(if (c:Int)<ns.length then(c:Int) else ns.length) else 1),S)=_
 have:(if (if (c:Int)<ns.length then(c:Int) else ns.length) > 1 then(if (c:Int)<ns.length then(c:Int) else ns.length) else 1)=((max 1 (min ns.length c):Nat):Int):=by
  by_cases h:(c:Int)<ns.length
  ·rw[Nat.min_eq_right (ba (fU.mp h)),if_pos h]
   split
   ·rename_i h1;rw[Nat.max_eq_right (ba (fU.mp h1))]
   ·rename_i h1;rw[Nat.max_eq_left (bX λz=>h1 (fU.mpr z))];rfl
  ·rw[pO (bX λz=>h (fU.mpr z)),if_neg h]
   split
   ·rename_i h1;rw[Nat.max_eq_right (ba (fU.mp h1))]
   ·rename_i h1;rw[Nat.max_eq_left (bX λz=>h1 (fU.mpr z))];rfl
 rw[this]
theorem Ao{ρ:Rho}{S S0:Sto}{a e:ME}{n:Nat}(ha:a ρ S=some (.int n,S0))(hn:n<big)(g:Nat->U)(P:Nat->Sto->Prop)(h0:P 0 S0)
  (hs: ∀(j:Nat) (S:Sto),j<n->P j S -> ∃S',e (ρ++[some (.int j)]) S=some (g j,S')/\P (j+1) S'):
  ∃S',cm (iR1 (aa a af)) cTT e ρ S=some (.ref S'.length,S'++[.lst ((aB n).map g)])/\P n S':=by
 obtain⟨S1,e1,h1⟩:=nU (e:=e) (ρ:=ρ) g P (bh 0 n) 0 [] S0 h0 λj u S hj hp=>by
  have hl:j<n:=by have:=(ah.mp hj).1;simpa [bh]using this
  have hu:(bh 0 n)[j]? = some (.int j):=by simp[bh,hl]
  rw[hu]at hj;cases hj
  simpa using hs j S hl (by simpa using hp)
 have hlen:(bh 0 n).length=n:=by simp[bh]
 simp only[hlen,eM,dW]at e1 h1
 exact⟨S1,nO (nV ha hn) e1 (by rw[ak,bB];exact hn),h1⟩
theorem HY{ρ:Rho}{S:Sto}{a b:ME}{i j:Nat}(ha:a ρ S=some (.int i,S))(hb:b ρ S=some (.int j,S))(hi:i<big)(hj:j<big):iR2 (aa a (aa b af)) ρ S=some (.imm (bh i (j - i)),S):=by
 unfold iR2
 simp only[aa,af,ha,hb,aE]
 rw[if_pos ⟨nH hi,nH hj⟩]
 congr 4
 omega
theorem yt{ρ:Rho}{S S1 S2:Sto}{a b:ME}{x y:Nat}(ha:a ρ S=some (.int x,S1))(hb:b ρ S1=some (.int y,S2)):m2 oEq a b ρ S=some (.bl (decide (x=y)),S2):=by
 rw[EZ ha hb]
 congr 3
 by_cases h:x=y
 ·subst h;simp
 ·have: ¬((x:Int)=y):=by omega
  simp[h,this]
theorem Jr{ρ:Rho}{S S1 S2:Sto}{a b:ME}{x y:Nat}(ha:a ρ S=some (.int x,S1))(hb:b ρ S1=some (.int y,S2)):m2 oNe a b ρ S=some (.bl (!decide (x=y)),S2):=by
 rw[op2 (f:=oNe) ha hb rfl]
 show some (U.bl (!((x:Int)==y)),S2)=_
 congr 4
 by_cases h:x=y
 ·subst h;simp
 ·have: ¬((x:Int)=y):=by omega
  simp[h,this]
end
end _W
end
section
namespace _W
open _L _G
section
theorem uI{a b:MS}{ρ ρ1:Rho}{S S1:Sto}{u:U}(h:a ρ S=some (.rt u,ρ1,S1)):bc a b ρ S=some (.rt u,ρ1,S1):=by simp only[bc,h]
theorem En{m:Nat}{T:Nat->Nat->Nat}{i:Nat}:kl m T i = .tup (aj ((aB m).map (T i))):=by
 unfold kl Al aj
 rw[bF];rfl
noncomputable def unT(m:Nat)(T:Nat->Nat->Nat)(i:Nat):Nat:=((aB m).map (T i)).idxOf 0
theorem lC{m:Nat}{T:Nat->Nat->Nat}(g:Grp m T){i:Nat}(hi:i<m):unT m T i<m/\T i (unT m T i)=0/\T (unT m T i) i=0 /\ ∀k,k<m->T i k=0->k=unT m T i:=by
 obtain⟨j,hj,h1,h2,h3⟩:=g.inv1 hi
 have e:unT m T i=j:=by
  unfold unT
  rw[qO,idx_map (k:=j) m 0 (dc _) (by omega) h1 λk _ hk h0=>by have:=h3 k (by exact cR (by assumption) (by assumption)) h0;omega]
  omega
 rw[e];exact⟨hj,h1,h2,h3⟩
theorem MO{m:Nat}{T:Nat->Nat->Nat}(g:Grp m T){i:Nat}(hi:i<m):0∈(aB m).map (T i):=by
 obtain⟨h1,h2,_⟩:=lC g hi
 exact aH.mpr ⟨unT m T i,bp.mpr h1,h2⟩
theorem Gw{ρ:Rho}{S S1:Sto}{a:ME}{u:U}(ha:a ρ S=some (u,S1)):fN (aa a af) ρ S=some (.tup [u],S1):=by
 have hb1:1<=big:=by decide
 simp[fN,oV ha,aE,hb1]
theorem J1{ρ:Rho}{S S1 S2:Sto}{a b:ME}{x y:Bool}(ha:a ρ S=some (.bl x,S1))(hb:b ρ S1=some (.bl y,S2)):m2 oEq a b ρ S=some (.bl (x==y),S2):=op2 ha hb rfl
theorem Ke{ρ:Rho}{S S1 S2:Sto}{a b:ME}{x y:Bool}(ha:a ρ S=some (.bl x,S1))(hb:b ρ S1=some (.bl y,S2)):m2 oNe a b ρ S=some (.bl (!(x==y)),S2):=op2 ha hb rfl
theorem J9{ρ:Rho}{S S1:Sto}{a b:ME}{r:Res U}(ha:a ρ S=some (.bl true,S1))(hb:b ρ S1=r):ig a b ρ S=r:=by
 simp only[ig,ha,aE,hb]
theorem or_false{ρ:Rho}{S S1 S2:Sto}{a b:MT}(ha:a ρ S=some (false,S1))(hb:b ρ S1=some (false,S2)):cOr a b ρ S=some (false,S2):=by
 rw[or_eq ha hb (by intro z;cases z)];rfl
end
end _W
end
section
namespace _W
open _L _G
section
noncomputable def di(l:List Nat):List Int:=l.map λ(x:Nat)=>(x:Int)
noncomputable def srt(l:List Nat):List Nat:=(qF (di l)).map so
theorem Aw(l:List Nat):(qF (di l)).map U.int=aj (srt l):=by
 unfold aj srt
 rw[bF]
 apply aM
 intro i hi
 have hm:=(jP (di l)).mem_iff.mp hi
 obtain⟨x,_,rfl⟩:=aH.mp hm
 rfl
theorem ph: ∀l:List Nat,(di l).map so=l
 | []=>rfl
 | x::l=>by
   show so (x:Int)::(di l).map so=x::l
   rw[ph l];rfl
theorem jQ(l:List Nat):(srt l).Perm l:=by
 have h:=(jP (di l)).map so
 rw[ph]at h
 exact h
theorem rg{a b:List Nat}(p:a.Perm b):srt a=srt b:=by
 unfold srt
 rw[uB ((jP (di a)).trans (p.map _)) (uO _)]
 rfl
theorem j7{l:List Nat}{x:Nat}:x∈srt l↔x∈l:=(jQ l).mem_iff
theorem iW(l:List Nat):(srt l).length=l.length:=(jQ l).length_eq
theorem lJ: ∀(l:List Nat),cH pR (aj l)=some (di l)
 | []=>rfl
 | x::l=>by
   show(pR (.int x)).bind _=_
   simp only[pR,ag]
   rw[show oo (λ(x:Nat)=>U.int x) l=aj l from rfl,lJ l]
   rfl
theorem n9: ∀(l:List Nat),cH oA (aj l)=some (di l)
 | []=>rfl
 | x::l=>by
   show(oA (.int x)).bind _=_
   simp only[oA,ag]
   rw[show oo (λ(x:Nat)=>U.int x) l=aj l from rfl,n9 l]
   rfl
theorem vk{S:Sto}{x:U}{l:List Nat}(h:uJ S x=some (di l))(hl:l.length<64):eJ [x] S=some (.ref S.length,S++[.lst (aj (srt l))]):=by
 have ok:Bb (di l).length:=by unfold di;rw[ak];exact hl
 simp only[eJ,h,ag,ok,if_true,Aw]
theorem tY{ρ:Rho}{S S1:Sto}{a:ME}{n:Nat}{l:List Nat}(ha:a ρ S=some (.ref n,S1))(hn:S1[n]? = some (Cell.lst (aj l)))(hl:l.length<64):mFn eJ (aa a af) ρ S=some (.ref S1.length,S1++[.lst (aj (srt l))]):=
 gW ha (vk (by simp only[uJ,fP,hn,d0,getL,ag,lJ]) hl)
noncomputable def zi(m:List (_L.Key×U))(k:_L.Key):Bool:=(oB m k).isSome
theorem zw{m:List (_L.Key×U)}{k:_L.Key}:zi m k=true ↔ ∃kv∈m,kv.1=k:=by
 unfold zi oB
 rw[lQ,List.find?_isSome]
 simp
theorem IS{ρ:Rho}{S S1 S2:Sto}{a b:ME}{x:Int}{r:Nat}{kvs:List (_L.Key×U)}(ha:a ρ S=some (.int x,S1))(hb:b ρ S1=some (.ref r,S2))(hr:S2[r]? = some (Cell.dic kvs)):cOf (m2 o6 a b) ρ S=some (!zi kvs (.inl x),S2):=
 of_eq (op2 ha hb (by simp only[o6,fP,hr,keyOf,aR,zi]))
section
variable {m:Nat}{T:Nat->Nat->Nat}{t n:Nat}
end
end
end _W
end
section
namespace _W
open _L _G
section
open PySem in
open PySem in
open PySem in
open PySem in
open PySem in
open PySem in
open PySem in
open PySem in
open PySem in
open PySem in
open PySem in
open PySem in
open PySem in
open PySem in
open PySem in
theorem mD{f:MF}{ρ:Rho}{S S1 S2 S3:Sto}{a b c:ME}{x y z:U}{r:Res U}(ha:a ρ S=some (x,S1))(hb:b ρ S1=some (y,S2))(hc:c ρ S2=some (z,S3))(h:f [x,y,z] S3=r):mFn f (aa a (aa b (aa c af))) ρ S=r:=by
 simp only[mFn,aa,af,ha,hb,hc,aE,h]
end
end _W
end
section
namespace _W
open _L _G
section
theorem BV{c:MT}{b:MS}(P:Nat->Rho->Sto->Prop)(Q:Rho->Sto->Prop)
  (hc: ∀μ ρ S,P μ ρ S -> ∃k S1,c ρ S=some (k,S1)/\(k=false->Q ρ S1)/\(k=true -> ∃ρ' S' μ',μ'<μ/\b ρ S1=some (.nx,ρ',S')/\P μ' ρ' S')):
  ∀(f μ:Nat) (ρ:Rho) (S:Sto),μ<f->P μ ρ S -> ∃ρ' S',whl c b f ρ S=some (.nx,ρ',S')/\Q ρ' S'
 | 0,μ,ρ,S,h,_=>by omega
 | f+1,μ,ρ,S,h,hp=>by
   obtain⟨k,S1,e,q1,q2⟩:=hc μ ρ S hp
   unfold whl
   rw[e]
   simp only[aE]
   cases k with
   | false=>exact⟨ρ,S1,by simp,q1 rfl⟩
   | true=>
     obtain⟨ρ1,S2,μ1,hl,e1,p1⟩:=q2 rfl
     obtain⟨ρ2,S3,e2,q⟩:=BV P Q hc f μ1 ρ1 S2 (by omega) p1
     exact⟨ρ2,S3,by simp only[if_true,aft,e1,e2],q⟩
section
variable {S x:Sto}{c e c' e':Cell}
theorem h0:(S++[c,e]++x)[S.length]? = some c:=by rw[aW,az (aq _)];simp
theorem h1:(S++[c,e]++x)[S.length+1]? = some e:=by rw[aW,az (by exact dJ _)];simp
theorem t0:(S++[c,e]++x).set S.length c'=S++[c',e]++x:=by
 rw[aW,gf _ _ (aq _),GZ,aW];rfl
theorem t1:(S++[c,e]++x).set (S.length+1) e'=S++[c,e']++x:=by
 rw[aW,gf _ _ (by exact dJ _),show S.length+1 - S.length=1 by omega,aW];rfl
end
theorem Jn{ρ:Rho}{S:Sto}{o:ME}{r:Nat}{l:List Nat}{h:Nat}(ho:o ρ S=some (.ref r,S))(hr:S[r]? = some (Cell.lst (aj (l++[h])))):mML xq o af ρ S=some (.int h,S.set r (Cell.lst (aj l))):=by
 simp only[mML,ho,aE,getL,hr,ag,af,xq]
 simp[aj,jT]
inductive Rch(T:Nat->Nat->Nat)(ths:List Nat):Nat->Prop where
 | zero:Rch T ths 0
 | step {x y:Nat}:Rch T ths x->y∈ths->Rch T ths (T x y)
structure Dfs(m:Nat)(T:Nat->Nat->Nat)(ths:List Nat)(ks:List Nat)(C:Nat->Prop):Prop where
 nd:ks.Nodup
 lt: ∀x∈ks,x<m
 z:0∈ks
 rc: ∀x∈ks,Rch T ths x
 cl: ∀x∈ks,C x \/ ∀y∈ths,T x y∈ks
section
variable {m:Nat}{T:Nat->Nat->Nat}{ths ks st:List Nat}
theorem Dfs.all(d:Dfs m T ths ks λ_=>False){x:Nat}:x∈ks↔Rch T ths x:=by
 refine⟨d.rc x,λh =>?_⟩
 induction h with
 | zero=>exact d.z
 | step _ hy ih=>exact((d.cl _ ih).resolve_left id) _ hy
theorem Dfs.len(d:Dfs m T ths ks C):ks.length<=m:=pw m ks d.nd d.lt
theorem BE{a b:List Nat}(ha:a.Nodup)(hb:b.Nodup)(h: ∀x,x∈a↔x∈b):a.Perm b:=(Ag ha hb).mpr λx=>h x
noncomputable def tryD(T:Nat->Nat->Nat)(h y:Nat)(p:List Nat×List Nat):List Nat×List Nat:=if T h y∈p.1 then p else(p.1++[T h y],p.2++[T h y])
structure Inn(m:Nat)(T:Nat->Nat->Nat)(ths:List Nat)(h k:Nat)(p:List Nat×List Nat)(μ:Nat):Prop where
 d:Dfs m T ths p.1 λx=>x∈p.2\/x=h
 sub: ∀x∈p.2,x∈p.1
 hk:h∈p.1
 hh: ∀y∈ths.take k,T h y∈p.1
 ms:2*(m - p.1.length)+p.2.length<=μ
theorem Inn.try{h k μ y:Nat}{p:List Nat×List Nat}(g:Grp m T)(ht: ∀x∈ths,x<m)(n:Inn m T ths h k p μ)(hy:ths[k]? = some y):Inn m T ths h (k+1) (tryD T h y p) μ:=by
 have hym:y∈ths:=cY hy
 have htk:ths.take (k+1)=ths.take k++[y]:=by rw[jh,hy];rfl
 unfold tryD
 split
 ·rename_i hin
  refine⟨n.d,n.sub,n.hk,λz hz =>?_,n.ms⟩
  rw[htk]at hz
  rcases bo.mp hz with hz |hz
  ·exact n.hh z hz
  ·simp at hz;rw[hz];exact hin
 ·rename_i hin
  have nd:(p.1++[T h y]).Nodup:=by
   rw[eA]
   exact⟨n.d.nd,by simp,λa ha b hb=>by simp at hb;rintro rfl;exact hin (hb▸ha)⟩
  have hlt:T h y<m:=g.cl _ _ (n.d.lt h n.hk) (ht y hym)
  have lt: ∀x∈p.1++[T h y],x<m:=λx hx=>by
   rcases bo.mp hx with hx |hx
   ·exact n.d.lt x hx
   ·simp at hx;omega
  refine⟨⟨nd,lt,bb _ n.d.z,λx hx =>?_,λx hx =>?_⟩,λx hx =>?_,bb _ n.hk,λz hz =>?_,?_⟩
  ·rcases bo.mp hx with hx |hx
   ·exact n.d.rc x hx
   ·simp at hx;rw[hx];exact .step (n.d.rc h n.hk) hym
  ·rcases bo.mp hx with hx |hx
   ·rcases n.d.cl x hx with (c |c) |c
    ·exact .inl (.inl (bb _ c))
    ·exact .inl (.inr c)
    ·exact .inr λy hy=>bb _ (c y hy)
   ·exact .inl (.inl (aY _ hx))
  ·rcases bo.mp hx with hx |hx
   ·exact bb _ (n.sub x hx)
   ·exact aY _ hx
  ·rw[htk]at hz
   rcases bo.mp hz with hz |hz
   ·exact bb _ (n.hh z hz)
   ·simp at hz;rw[hz];exact aY _ (by simp)
  ·have:=pw m _ nd lt
   have:=n.ms
   simp only[aV,bg,cg]at *
   omega
structure Av(m:Nat)(T:Nat->Nat->Nat)(ths ks st:List Nat)(μ:Nat):Prop where
 d:Dfs m T ths ks λx=>x∈st
 sub: ∀x∈st,x∈ks
 ms:2*(m - ks.length)+st.length<=μ
theorem Av.start(hm:0<m):Av m T ths [0] [0] (2*m):=
 ⟨⟨by simp,by simpa using hm,by simp,λx hx=>by simp at hx;rw[hx];exact .zero,λx hx => .inl hx⟩,λx hx=>hx,by simp;omega⟩
theorem Av.pop{h μ:Nat}(s:Av m T ths ks (st++[h]) (μ+1)):Inn m T ths h 0 (ks,st) μ:=
 ⟨⟨s.d.nd,s.d.lt,s.d.z,s.d.rc,λx hx=>(s.d.cl x hx).imp (λc=>by simpa using c) id⟩,λx hx=>s.sub x (bb _ hx),s.sub h (by simp),by simp,by have:=s.ms;simp only[aV,bg,cg]at this;show 2*(m - ks.length)+st.length<=μ;exact dy (by assumption)⟩
theorem Inn.done{h μ:Nat}{p:List Nat×List Nat}(n:Inn m T ths h ths.length p μ):Av m T ths p.1 p.2 μ:=
 ⟨⟨n.d.nd,n.d.lt,n.d.z,n.d.rc,λx hx=>by
  rcases n.d.cl x hx with (c |c) |c
  ·exact .inl c
  ·subst c;exact .inr λy hy=>n.hh y (by rw[List.take_length];exact hy)
  ·exact .inr c⟩,n.sub,n.ms⟩
end
end
end _W
end
section
namespace _W
open _L _G
section
section
variable {m:Nat}{T:Nat->Nat->Nat}{ths:List Nat}{S x:Sto}{v:U}
noncomputable def spR(m:Nat)(T:Nat->Nat->Nat)(v:U)(S:Sto)(r:List (Option U)):Rho:= [some (tab m T),some v,some (.ref S.length),some (.ref (S.length+1))]++r
noncomputable def Wk(S:Sto)(v:U)(ths:List Nat):Prop:=v = .tup (aj ths) \/ ∃r,v = .ref r/\S[r]? = some (.lst (aj ths))/\ths.length<1000
noncomputable def E8:MT:=cOf (m2 oGt (mFn bJ (aa (ab 3) af)) (mC (.int 0)))
theorem Inn.st_le{h k μ:Nat}{p:List Nat×List Nat}(n:Inn m T ths h k p μ)(hμ:μ<1000)(hm:m<64):p.1.length<big/\p.2.length<big:=by
 have:=n.ms
 have:=n.d.len
 unfold big
 omega
theorem tD{α:Type}: ∀{l:List α},l≠[] -> ∃a b,l=a++[b]
 | l,h=>⟨l.dropLast,l.getLast h,(List.dropLast_concat_getLast h).symm⟩
theorem FQ{ρ:Rho}{S S1:Sto}{a:ME}{x:U}(ha:a ρ S=some (x,S1)):dz (aa a af) ρ S=some (.ref S1.length,S1++[Cell.lst [x]]):=by
 have hq:1<=big:=by decide
 simp[dz,aa,af,aE,ha,hq]
end
end
end _W
end
section
namespace _W
open _L _G
section
noncomputable def tups(ls:List (List Nat)):List U:=ls.map λl=>U.tup (aj l)
open PySem in
open PySem in
open PySem in
open PySem in
theorem BQ{l:List Nat}{x:Nat}:inV (.int x) (l.map λ(y:Nat)=>V.int y)=decide (x∈l):=by
 unfold inV
 rw[List.any_map]
 by_cases h:x∈l
 ·rw[decide_eq_true h,xh]
  exact⟨x,h,beq_self_eq_true (x:Int)⟩
 ·rw[decide_eq_false h,List.any_eq_false]
  intro y hy
  have q:y≠x:=λe=>h (e▸hy)
  show ¬(((y:Int)==(x:Int))=true)
  exact λz=>q (Int.ofNat.inj (eq_of_beq z))
theorem rD: ∀(l:List Nat),cH ft (aj l)=some (l.map λ(y:Nat)=>V.int y)
 | []=>rfl
 | x::l=>by
   show(ft (.int x)).bind _=_
   simp only[ft,ag]
   have:=rD l
   unfold aj at this
   rw[this];rfl
noncomputable def atM:MS:=bH (j5 (iR1 (aa (mFn bJ (aa (ab 0) af)) af)))
theorem Pd{m:Nat}{T:Nat->Nat->Nat}{S:Sto}(hm:m<1000):_G.run 1 1 atM [tab m T] S=some (.tup (aj (aB m)),S):=by
 refine bM (ρ:= [some (tab m T)]) rfl (bN ?_)
 have e1:=nV (ρ:= [some (tab m T)]) (S:=S) (a:=mFn bJ (aa (ab 0) af)) (n:=m) (len_tab (var_eq rfl)) (by unfold big;exact ai (by assumption) (by decide))
 have e2:bh 0 m=aj (aB m):=by
  unfold bh aj
  apply aM
  intro k _
  simp
 rw[e2]at e1
 have hz:(aj (aB m)).length<=big:=by rw[bU,bB];unfold big;omega
 show j5 (iR1 (aa (mFn bJ (aa (ab 0) af)) af)) [some (tab m T)] S=_
 simp only[j5,e1,aE,hz,if_true]
section
variable {m:Nat}{T:Nat->Nat->Nat}{part:List Nat}{S:Sto}
end
end
end _W
end
section
namespace _W
open _L _G
section
theorem lL{t:MT}{e:ME}{ρ:Rho}{n:Nat}{S:Sto}{us:List U}{p:U->Bool}{f:U->U}(hu:getL S n=some us)(ht: ∀u∈us,t (ρ++[some u]) S=some (p u,S))(he: ∀u∈us,p u=true->e (ρ++[some u]) S=some (f u,S)):
  ∀(k i:Nat) (acc:List U),i<=us.length->us.length - i<k->j4 t e ρ n k i acc S=some (acc++((us.drop i).filter p).map f,S)
 | 0,i,acc,h1,h2=>by omega
 | k+1,i,acc,h1,h2=>by
   unfold j4
   rw[hu]
   simp only[ag]
   by_cases hi:i<us.length
   ·have hd:us.drop i=us[i]::us.drop (i+1):=lX hi
    have hm:us[i]∈us:=fk hi
    rw[bw hi]
    simp only
    rw[ht _ hm]
    simp only[aE]
    rw[hd]
    cases hp:p us[i] with
    | true=>
      rw[if_pos rfl,he _ hm hp]
      simp only[aE]
      rw[lL hu ht he k (i+1) _ (by assumption) (by omega),iQ hp]
      simp
    | false=>
      rw[if_neg bz,lL hu ht he k (i+1) _ (by assumption) (by omega),iR (by rw[hp];decide)]
   ·rw[G2 (by exact bX (by assumption)),DZ (by exact bX (by assumption))]
    simp
theorem DJ{t:MT}{e a:ME}{ρ:Rho}{n:Nat}{S S1:Sto}{us:List U}{p:U->Bool}{f:U->U}(ha:a ρ S=some (.ref n,S1))(hu:S1[n]? = some (Cell.lst us))(hl:us.length<1000)(ht: ∀u∈us,t (ρ++[some u]) S1=some (p u,S1))(he: ∀u∈us,p u=true->e (ρ++[some u]) S1=some (f u,S1)):
  cm (dD a) t e ρ S=some (.ref S1.length,S1++[.lst ((us.filter p).map f)]):=by
 have hg:getL S1 n=some us:=by unfold getL;rw[hu]
 have hi:dD a ρ S=some (.mut n,S1):=by simp only[dD,ha,aE,hg,aR]
 have e1:=lL hg ht he fuel 0 [] (dc _) (by unfold fuel;exact ai (by assumption) (by decide))
 rw[qP,dW]at e1
 simp only[cm,hi,aE,B6,e1]
 refine if_pos ?_
 have:=dC p us
 rw[ak];unfold big;exact ay (by assumption) (ai (by assumption) (by decide))
theorem lh{t:MT}{e:ME}{ρ:Rho}{S:Sto}{p:U->Bool}{f:U->U}: ∀(us acc:List U),(∀u∈us,t (ρ++[some u]) S=some (p u,S))->(∀u∈us,p u=true->e (ρ++[some u]) S=some (f u,S)) ->
  gX t e ρ us acc S=some (acc++(us.filter p).map f,S)
 | [],acc,_,_=>by simp[gX]
 | u::us,acc,ht,he=>by
   unfold gX
   rw[ht u (by simp)]
   simp only[aE]
   cases hp:p u with
   | true=>
     rw[if_pos rfl,he u (by simp) hp]
     simp only[aE]
     rw[lh us _ (λv hv=>ht v (aw _ hv)) (λv hv=>he v (aw _ hv)),iQ hp]
     simp
   | false=>
     rw[if_neg bz,lh us _ (λv hv=>ht v (aw _ hv)) (λv hv=>he v (aw _ hv)),iR (by rw[hp];decide)]
theorem Ds{t:MT}{e a:ME}{ρ:Rho}{S S1:Sto}{us:List U}{p:U->Bool}{f:U->U}(ha:a ρ S=some (.tup us,S1))(hl:us.length<big)(ht: ∀u∈us,t (ρ++[some u]) S1=some (p u,S1))(he: ∀u∈us,p u=true->e (ρ++[some u]) S1=some (f u,S1)):
  cm (dD a) t e ρ S=some (.ref S1.length,S1++[.lst ((us.filter p).map f)]):=by
 have hi:dD a ρ S=some (.imm us,S1):=by simp only[dD,ha,aE]
 have e1:=lh us [] ht he
 rw[dW]at e1
 refine nO hi e1 ?_
 have:=dC p us
 rw[ak];exact ay (by assumption) (by assumption)
theorem uR{t:MT}{e a:ME}{ρ:Rho}{S S1:Sto}{l:List Nat}{p:Nat->Bool}{f:Nat->U}(ha:a ρ S=some (.tup (aj l),S1))(hl:l.length<big)(ht: ∀x∈l,t (ρ++[some (.int x)]) S1=some (p x,S1))(he: ∀x∈l,p x=true->e (ρ++[some (.int x)]) S1=some (f x,S1)):
  cm (dD a) t e ρ S=some (.ref S1.length,S1++[.lst ((l.filter p).map f)]):=by
 have nat: ∀u∈aj l,∃x∈l,u = .int (x:Nat):=λu hu=>by
  obtain⟨x,hx,rfl⟩:=aH.mp hu;exact⟨x,hx,rfl⟩
 let g:U->Nat:=λu=>match u with | .int i=>i.toNat |_=>0
 have gx: ∀x:Nat,g (.int x)=x:=λx=>by simp[g]
 have h:=Ds (t:=t) (e:=e) (p:=λu=>p (g u)) (f:=λu=>f (g u)) ha (by rw[bU];exact hl) (λu hu=>by
  obtain⟨x,hx,rfl⟩:=nat u hu
  rw[gx];exact ht x hx) (λu hu hp=>by
  obtain⟨x,hx,rfl⟩:=nat u hu
  rw[gx]at hp ⊢;exact he x hx hp)
 rw[h]
 have:((aj l).filter λu=>p (g u)).map (λu=>f (g u))=(l.filter p).map f:=by
  unfold aj
  rw[List.filter_map,bF]
  have e1:(λu=>p (g u))∘(λ(x:Nat)=>U.int x)=p:=by funext x;simp[gx]
  have e2:(λu=>f (g u))∘(λ(x:Nat)=>U.int x)=f:=by funext x;simp[gx]
  rw[e1,e2]
 rw[this]
theorem wD{t:MT}{e a:ME}{ρ:Rho}{S S1:Sto}{l:List Nat}{p:Nat->Bool}{f:Nat->U}(ha:a ρ S=some (.tup (aj l),S1))(hl:l.length<1000)(ht: ∀x∈l,t (ρ++[some (.int x)]) S1=some (p x,S1))(he: ∀x∈l,p x=true->e (ρ++[some (.int x)]) S1=some (f x,S1)):
  cm (dD a) t e ρ S=some (.ref S1.length,S1++[.lst ((l.filter p).map f)]):=
 uR ha (by unfold big;exact ai (by assumption) (by decide)) ht he
theorem PH{ρ:Rho}{S S1 S2:Sto}{a b:ME}{x:Nat}{l:List Nat}(ha:a ρ S=some (.int x,S1))(hb:b ρ S1=some (.tup (aj l),S2)):cOf (m2 oIn a b) ρ S=some (decide (x∈l),S2):=by
 refine of_eq (op2 ha hb ?_)
 simp only[oIn,fP,ft,ag,d0,rD,aR,BQ]
theorem KG{ρ:Rho}{S S1 S2:Sto}{a b:ME}{x y:U}(ha:a ρ S=some (x,S1))(hb:b ρ S1=some (y,S2)):fN (aa a (aa b af)) ρ S=some (.tup [x,y],S2):=by
 have hb2:2<=big:=by decide
 simp[fN,aa,af,ha,hb,aE,hb2]
theorem o4{m:Nat}{T:Nat->Nat->Nat}{S:Sto}(g:Grp m T){i:Nat}(hi:i<m):_G.run 2 2 (bH (mMT eO (m2 oIx (ab 0) (ab 1)) (aa (mC (.int 0)) af))) [tab m T,.int i] S=some (.int (unT m T i),S):=by
 have h0:=MO g hi
 have e:=ni (ρ:= [some (tab m T),some (.int i)]) (S:=S) (a:=ab 0) (b:=ab 1) hi (var_eq rfl) (var_eq rfl)
 rw[En]at e
 exact bM (ρ:= [some (tab m T),some (.int i)]) rfl (bN (qw (x:=0) e c_i h0))
section
variable {m:Nat}{T:Nat->Nat->Nat}{st left:List Nat}{S:Sto}
noncomputable def goM:MS:=bc (bI 4 (cm (dD (ab 1)) cTT (fN (aa (ab 5) (aa (m2 oIx (m2 oIx (ab 0) (ab 2)) (ab 5)) af))))) (bH (cm (dD (ab 4)) (cOf (m2 oIn (m2 oIx (ab 5) (mC (.int 1))) (ab 3))) (ab 5)))
noncomputable def prU(T:Nat->Nat->Nat)(h s:Nat):U:= .tup [.int s,.int (T h s:Nat)]
noncomputable def gos(T:Nat->Nat->Nat)(st:List Nat)(h:Nat)(left:List Nat):List Nat:=st.filter λs=>decide (T h s∈left)
theorem o8{h:Nat}(hh:h<m)(hs: ∀s∈st,s<m)(hl:st.length<1000): ∃r S',_G.run 4 5 goM [tab m T,.tup (aj st),.int h,.tup (aj left)] S=some (.ref r,S')/\Ex S S'/\S.length<=r/\S'[r]? = some (.lst ((gos T st h left).map (prU T h))):=by
 have e1:=wD (t:=cTT) (e:=fN (aa (ab 5) (aa (m2 oIx (m2 oIx (ab 0) (ab 2)) (ab 5)) af))) (ρ:= [some (tab m T),some (.tup (aj st)),some (.int h),some (.tup (aj left)),none]) (S:=S) (a:=ab 1) (l:=st) (p:=λ_=>true) (f:=prU T h) (var_eq rfl) hl (λx _=>rfl) (λx hx _=>KG (var_eq rfl) (pD (T:=T) (i:=h) (j:=x) (hs x hx) (ni hh (var_eq rfl) (var_eq rfl)) (var_eq rfl)))
 rw[kz.mpr (λ_ _=>rfl)]at e1
 have e2:=DJ (t:=cOf (m2 oIn (m2 oIx (ab 5) (mC (.int 1))) (ab 3))) (e:=ab 5) (ρ:= [some (tab m T),some (.tup (aj st)),some (.int h),some (.tup (aj left)),some (.ref S.length)]) (S:=S++[.lst (st.map (prU T h))]) (a:=ab 4) (us:=st.map (prU T h)) (p:=λu=>match u with | .tup [_,.int i]=>decide (i.toNat∈left) |_=>false) (f:=λu=>u) (var_eq rfl) (eP _ _) (by rw[ak];exact hl) (by
  intro u hu
  obtain⟨s,hs,rfl⟩:=aH.mp hu
  have:m2 oIx (ab 5) (mC (.int 1)) ([some (tab m T),some (.tup (aj st)),some (.int h),some (.tup (aj left)),some (.ref S.length)]++[some (prU T h s)]) (S++[.lst (st.map (prU T h))])=some (.int (T h s:Nat),S++[.lst (st.map (prU T h))]):=CL (us:= [.int s,.int (T h s:Nat)]) (var_eq rfl) c_i rfl
  rw[PH this (var_eq rfl)]
  simp[prU]) (by
  intro u hu _
  obtain⟨s,hs,rfl⟩:=aH.mp hu
  exact var_eq rfl)
 refine⟨_,_,bM (ρ:= [some (tab m T),some (.tup (aj st)),some (.int h),some (.tup (aj left)),some (.ref S.length)]) rfl (show goM [some (tab m T),some (.tup (aj st)),some (.int h),some (.tup (aj left)),none] S=_ from(aP (bS e1)).trans (bN e2)),⟨_,by rw[aW]⟩,by simp,?_⟩
 rw[eP]
 congr 2
 unfold gos
 rw[Ea,List.filter_map]
 congr 1
theorem DE{h:Nat}(hh:h<m)(hs: ∀s∈st,s<m)(hl:st.length<1000): ∃r S',_G.run 4 5 goM [tab m T,.tup (aj st),.int h,.tup (aj left)] S=some (.ref r,S')/\Ex S S'/\S'[r]? = some (.lst ((gos T st h left).map (prU T h))):=let ⟨r,S',a,b,_,c⟩:=o8 (left:=left) (S:=S) hh hs hl;⟨r,S',a,b,c⟩
noncomputable def abM:MS:=bH (mFn bT (aa (cm (dD (ab 0)) (cOf (m2 oNe (ab 2) (ab 1))) (ab 2)) af))
theorem rK{x:Nat}(hl:left.length<1000): ∃S',_G.run 2 2 abM [.tup (aj left),.int x] S=some (.tup (aj (left.filter λy => !decide (y=x))),S')/\Ex S S':=by
 have e1:=wD (t:=cOf (m2 oNe (ab 2) (ab 1))) (e:=ab 2) (ρ:= [some (.tup (aj left)),some (.int x)]) (S:=S) (a:=ab 0) (l:=left) (p:=λy => !decide (y=x)) (f:=λy => .int y) (var_eq rfl) hl (λy _=>of_eq (Jr (var_eq rfl) (var_eq rfl))) (λy _ _=>var_eq rfl)
 exact⟨_,bM (ρ:= [some (.tup (aj left)),some (.int x)]) rfl (bN (eR e1)),Ex.push _ _⟩
noncomputable def OV:MS:=bH (j5 (iR2 (aa (mC (.int 1)) (aa (mFn bJ (aa (ab 0) af)) af))))
theorem tm(hm:0<m)(hm2:m<1000):_G.run 1 1 OV [tab m T] S=some (.tup (aj (aO 1 (m - 1))),S):=by
 refine bM (ρ:= [some (tab m T)]) rfl (bN ?_)
 have e1:=HY (ρ:= [some (tab m T)]) (S:=S) (a:=mC (.int 1)) (b:=mFn bJ (aa (ab 0) af)) (i:=1) (j:=m) c_i (len_tab (var_eq rfl)) (by decide) (by unfold big;exact ai (by assumption) (by decide))
 have e2:bh (1:Nat) (m - 1)=aj (aO 1 (m - 1)):=by
  unfold bh aj
  rw[Cq,bF]
  apply aM
  intro k _
  simp
 rw[e2]at e1
 have hz:(aj (aO 1 (m - 1))).length<=big:=by rw[bU,lg];unfold big;omega
 show j5 (iR2 (aa (mC (.int 1)) (aa (mFn bJ (aa (ab 0) af)) af))) [some (tab m T)] S=_
 simp only[j5,e1,aE,hz,if_true]
noncomputable def rmM:MS:=sIf (cOf (m2 oGt (mFn bJ (aa (ab 0) af)) (ab 1))) sNo cP
theorem Kq{k n:Nat}{b:MS}{us:List U}{S S1:Sto}{ρ:Rho}(hl:us.length=k)(h:b (us.map some++cq (n - k) none) S=some (.nx,ρ,S1)):_G.run k n b us S=some (.non,S1):=by
 unfold _G.run
 rw[if_pos hl,h]
theorem qY{k:Nat}(h:m<=k):_G.run 2 2 rmM [tab m T,.int (k:Nat)] S=some (.non,S):=by
 refine Kq (ρ:= [some (tab m T),some (.int (k:Nat))]) rfl ?_
 have ec:cOf (m2 oGt (mFn bJ (aa (ab 0) af)) (ab 1)) [some (tab m T),some (.int (k:Nat))] S=some (decide ((k:Int)<m),S):=of_eq (AJ (len_tab (var_eq rfl)) (var_eq rfl))
 rw[decide_eq_false (by omega)]at ec
 exact ip ec
noncomputable def leF(T:Nat->Nat->Nat)(st:List Nat)(last:Nat->Option (List Nat)):Nat->Nat->List Nat->Option (List Nat)
 | 0,h,_=>last h
 | k+1,h,left=>(gos T st h left).findSome? λs=>(leF T st last k (T h s) (left.filter λy => !decide (y=T h s))).map λw=>s::w
noncomputable def jK:Option (List Nat)->U
 | none => .non
 | some l => .tup (aj l)
noncomputable def Cu(ψ:MF):MS:=bc (bI 7 (mFn ψ (aa (ab 0) (aa (ab 1) (aa (ab 6) (aa (mFn (_G.run 2 2 abM) (aa (ab 3) (aa (ab 6) af))) (aa (ab 4) af))))))) (sIf (cOf (m2 fR (ab 7) (mC .non))) (bH (m2 da (fN (aa (ab 5) af)) (ab 7))) cP)
noncomputable def leM(g:bf)(φ:MF)(ψ:MF):MS:=bc (sIf (cOf (m2 oEq (mFn bJ (aa (ab 3) af)) (mC (.int 0)))) (bH (sD 4 g φ (aa (ab 0) (aa (ab 1) (aa (ab 2) af))))) cP) (bc (nh (gTp 2 (eK (gN 5) (eK (gN 6) mE))) (dD (mFn (_G.run 4 5 goM) (aa (ab 0) (aa (ab 1) (aa (ab 2) (aa (ab 3) af)))))) (Cu ψ)) (bH (mC .non)))
theorem zC{f:MF}{ρ:Rho}{S S1 S2 S3 S4 S5:Sto}{a b c d e:ME}{x y z v w:U}{r:Res U}(ha:a ρ S=some (x,S1))(hb:b ρ S1=some (y,S2))(hc:c ρ S2=some (z,S3))(hd:d ρ S3=some (v,S4))(he:e ρ S4=some (w,S5))(h:f [x,y,z,v,w] S5=r):mFn f (aa a (aa b (aa c (aa d (aa e af))))) ρ S=r:=by
 simp only[mFn,aa,af,ha,hb,hc,hd,he,aE,h]
theorem zS{f:MF}{ρ:Rho}{S S1 S2 S3 S4:Sto}{a b c d:ME}{x y z v:U}{r:Res U}(ha:a ρ S=some (x,S1))(hb:b ρ S1=some (y,S2))(hc:c ρ S2=some (z,S3))(hd:d ρ S3=some (v,S4))(h:f [x,y,z,v] S4=r):mFn f (aa a (aa b (aa c (aa d af)))) ρ S=r:=by
 simp only[mFn,aa,af,ha,hb,hc,hd,aE,h]
theorem LZ{ρ:Rho}{S S1 S2:Sto}{a b:ME}{x y:List Nat}(ha:a ρ S=some (.tup (aj x),S1))(hb:b ρ S1=some (.tup (aj y),S2))(hl:x.length+y.length<=big):m2 da a b ρ S=some (.tup (aj (x++y)),S2):=by
 refine op2 ha hb ?_
 simp only[da]
 rw[if_pos (by rw[bU,bU];exact hl)]
 simp[aj]
theorem yP{ρ:Rho}{S S1 S2:Sto}{a b:ME}{x y:List Nat}(ha:a ρ S=some (.tup (aj x),S1))(hb:b ρ S1=some (.tup (aj y),S2))(hl:x.length+y.length<1000):m2 da a b ρ S=some (.tup (aj (x++y)),S2):=
 LZ ha hb (by unfold big;omega)
theorem qr{x:Nat}(nd:left.Nodup)(h:x∈left):(left.filter λy => !decide (y=x)).length+1=left.length:=by
 have e:(left.filter λy => !decide (y=x))=left.erase x:=by
  rw[List.Nodup.erase_eq_filter nd]
  apply mn
  intro y _
  by_cases z:y=x <;> simp[z]
 rw[e,Cr h]
 have:=oZ h
 omega
theorem BD{last:Nat->Option (List Nat)}{B:Nat}(hB: ∀h w,last h=some w->w.length<=B): ∀(k h:Nat) (left w:List Nat),leF T st last k h left=some w->w.length<=k+B
 | 0,h,left,w,e=>by have:=hB h w e;omega
 | k+1,h,left,w,e=>by
   unfold leF at e
   obtain⟨s,_,e⟩:=List.exists_of_findSome?_eq_some e
   cases q:leF T st last k (T h s) (left.filter λy => !decide (y=T h s)) with
   | none=>rw[q]at e;cases e
   | some v=>
     rw[q]at e;cases e
     have:=BD hB k _ _ _ q
     simp only[bg];omega
theorem JN{last:Nat->Option (List Nat)}{g:bf}{φ:MF}(gr:Grp m T)(hs: ∀s∈st,s<m)(hsl:st.length<1000)(hm:m<500)(hB: ∀h w,last h=some w->w.length<=1)
  (hφ: ∀h (S:Sto),h<m->φ [tab m T,.tup (aj st),.int (h:Nat)] S=some (jK (last h),S)): ∀(k n h:Nat) (left:List Nat) (S:Sto),k<n->left.length=k->left.Nodup->(∀x∈left,x<m)->h<m ->
  ∃S',jw 5 8 (leM g φ) n [tab m T,.tup (aj st),.int (h:Nat),.tup (aj left),.obj g] S=some (jK (leF T st last k h left),S')/\Ex S S':=by
 intro k
 induction k with
 | zero=>
   intro n h left S hn hl nd hlt hh
   obtain⟨n,rfl⟩ : ∃j,n=j+1:=⟨n - 1,by omega⟩
   have h0:left = []:=eB.mp hl
   subst h0
   refine⟨S,bM (ρ:= [some (tab m T),some (.tup (aj st)),some (.int (h:Nat)),some (.tup (aj [])),some (.obj g),none,none,none]) rfl ?_,Ex.refl _⟩
   have ec:cOf (m2 oEq (mFn bJ (aa (ab 3) af)) (mC (.int 0))) [some (tab m T),some (.tup (aj st)),some (.int (h:Nat)),some (.tup (aj [])),some (.obj g),none,none,none] S=some (true,S):=of_eq (yt (x:=0) (y:=0) (nv (us:= []) (var_eq rfl)) c_i)
   refine uI ((qh ec).trans (bN ?_))
   show(if g=g then mFn φ (aa (ab 0) (aa (ab 1) (aa (ab 2) af))) _ _ else none)=_
   rw[if_pos rfl]
   exact mD (var_eq rfl) (var_eq rfl) (var_eq rfl) (hφ h S hh)
 | succ k ih=>
   intro n h left S hn hl nd hlt hh
   obtain⟨n,rfl⟩ : ∃j,n=j+1:=⟨n - 1,by omega⟩
   have hb:=pw m left nd hlt
   have ec:cOf (m2 oEq (mFn bJ (aa (ab 3) af)) (mC (.int 0))) [some (tab m T),some (.tup (aj st)),some (.int (h:Nat)),some (.tup (aj left)),some (.obj g),none,none,none] S=some (false,S):=by
    have:=of_eq (yt (ρ:= [some (tab m T),some (.tup (aj st)),some (.int (h:Nat)),some (.tup (aj left)),some (.obj g),none,none,none]) (S:=S) (a:=mFn bJ (aa (ab 3) af)) (b:=mC (.int 0)) (x:=(aj left).length) (y:=0) (nv (var_eq rfl)) c_i)
    rw[this,decide_eq_false (by rw[bU];omega)]
   obtain⟨r,S1,e1,x1,hr⟩:=DE (T:=T) (st:=st) (left:=left) (S:=S) hh hs hsl
   have hgl:(gos T st h left).length<1000:=ay (dC _ _) hsl
   have loop: ∀(f i:Nat) (a b c:Option U) (S2:Sto),i<=(gos T st h left).length->(gos T st h left).length - i<f->Ex S1 S2 ->
     ∃ρ' S3,Ex S1 S3/\oU (gTp 2 (eK (gN 5) (eK (gN 6) mE))) (Cu (jw 5 8 (leM g φ) n)) r f i [some (tab m T),some (.tup (aj st)),some (.int (h:Nat)),some (.tup (aj left)),some (.obj g),a,b,c] S2 =
      some (match ((gos T st h left).drop i).findSome? λs=>(leF T st last k (T h s) (left.filter λy => !decide (y=T h s))).map λw=>s::w with
       | none => .nx
       | some w => .rt (.tup (aj w)),ρ',S3):=by
    intro f
    induction f with
    | zero=>intro i a b c S2 h1 h2;omega
    | succ f ihf=>
      intro i a b c S2 h1 h2 x2
      unfold oU
      have hg:getL S2 r=some ((gos T st h left).map (prU T h)):=by unfold getL;rw[x2.some hr]
      rw[hg]
      simp only[ag]
      by_cases hi:i<(gos T st h left).length
      ·rw[bO,bw hi,lX hi]
       have hsm:(gos T st h left)[i]∈gos T st h left:=fk hi
       generalize (gos T st h left)[i]=s at hsm
       obtain⟨hs1,hs2⟩:=bu.mp hsm
       have hs2:T h s∈left:=of_decide_eq_true hs2
       have hsT:T h s<m:=gr.cl h s hh (hs s hs1)
       obtain⟨S4,e4,x4⟩:=rK (left:=left) (x:=T h s) (S:=S2) (by exact ay (by assumption) (ai (by assumption) (by decide)))
       obtain⟨S5,e5,x5⟩:=ih n (T h s) (left.filter λy => !decide (y=T h s)) S4 (by exact dy (by assumption)) (by have:=qr nd hs2;omega) (nd.filter _) (λx hx=>hlt x (bu.mp hx).1) hsT
       have e6:bI 7 (mFn (jw 5 8 (leM g φ) n) (aa (ab 0) (aa (ab 1) (aa (ab 6) (aa (mFn (_G.run 2 2 abM) (aa (ab 3) (aa (ab 6) af))) (aa (ab 4) af)))))) [some (tab m T),some (.tup (aj st)),some (.int (h:Nat)),some (.tup (aj left)),some (.obj g),some (.int s),some (.int (T h s:Nat)),c] S2=_:=bS (zC (var_eq rfl) (var_eq rfl) (var_eq rfl) (bZ (var_eq rfl) (var_eq rfl) e4) (var_eq rfl) e5)
       simp only[aR,ag]
       show ∃ρ' S3,Ex S1 S3/\aft (Cu (jw 5 8 (leM g φ) n) [some (tab m T),some (.tup (aj st)),some (.int (h:Nat)),some (.tup (aj left)),some (.obj g),some (.int s),some (.int (T h s:Nat)),c] S2) _=_
       cases q:leF T st last k (T h s) (left.filter λy => !decide (y=T h s)) with
       | none=>
         rw[q]at e6
         have ei:Cu (jw 5 8 (leM g φ) n) [some (tab m T),some (.tup (aj st)),some (.int (h:Nat)),some (.tup (aj left)),some (.obj g),some (.int s),some (.int (T h s:Nat)),c] S2=some (.nx,[some (tab m T),some (.tup (aj st)),some (.int (h:Nat)),some (.tup (aj left)),some (.obj g),some (.int s),some (.int (T h s:Nat)),some .non],S5):=(aP e6).trans ((ip (of_eq (op2 (f:=fR) (var_eq rfl) rfl rfl))).trans rfl)
         rw[ei]
         obtain⟨ρ',S3,x3,e3⟩:=ihf (i+1) (some (.int s)) (some (.int (T h s:Nat))) (some .non) S5 (by assumption) (by omega) ((x2.trans x4).trans x5)
         refine⟨ρ',S3,x3,?_⟩
         simp only[aft]
         rw[e3]
         simp only[kA,q,Option.map_none]
       | some w=>
         rw[q]at e6
         have hw:=BD hB k _ _ _ q
         have ei:Cu (jw 5 8 (leM g φ) n) [some (tab m T),some (.tup (aj st)),some (.int (h:Nat)),some (.tup (aj left)),some (.obj g),some (.int s),some (.int (T h s:Nat)),c] S2=some (.rt (.tup (aj (s::w))),[some (tab m T),some (.tup (aj st)),some (.int (h:Nat)),some (.tup (aj left)),some (.obj g),some (.int s),some (.int (T h s:Nat)),some (.tup (aj w))],S5):=(aP e6).trans ((qh (of_eq (op2 (f:=fR) (var_eq rfl) rfl rfl))).trans (bN (yP (x:= [s]) (y:=w) (Gw (var_eq rfl)) (var_eq rfl) (by simp;omega))))
         rw[ei]
         refine⟨[some (tab m T),some (.tup (aj st)),some (.int (h:Nat)),some (.tup (aj left)),some (.obj g),some (.int s),some (.int (T h s:Nat)),some (.tup (aj w))],S5,(x2.trans x4).trans x5,?_⟩
         simp only[aft,kA,q,aR]
      ·rw[G2 (by rw[ak];exact bX (by assumption)),DZ (by exact bX (by assumption))]
       exact⟨[some (tab m T),some (.tup (aj st)),some (.int (h:Nat)),some (.tup (aj left)),some (.obj g),a,b,c],S2,x2,by simp⟩
   obtain⟨ρ',S3,x3,e3⟩:=loop fuel 0 none none none S1 (dc _) (by unfold fuel;exact ai (by assumption) (by decide)) (Ex.refl _)
   rw[qP]at e3
   have ef:nh (gTp 2 (eK (gN 5) (eK (gN 6) mE))) (dD (mFn (_G.run 4 5 goM) (aa (ab 0) (aa (ab 1) (aa (ab 2) (aa (ab 3) af)))))) (Cu (jw 5 8 (leM g φ) n)) [some (tab m T),some (.tup (aj st)),some (.int (h:Nat)),some (.tup (aj left)),some (.obj g),none,none,none] S=some (match (gos T st h left).findSome? λs=>(leF T st last k (T h s) (left.filter λy => !decide (y=T h s))).map λw=>s::w with
       | none => .nx
       | some w => .rt (.tup (aj w)),ρ',S3):=by
    show bnd (dD _ _ _) _=_
    have hg:getL S1 r=some ((gos T st h left).map (prU T h)):=by unfold getL;rw[hr]
    rw[show dD (mFn (_G.run 4 5 goM) (aa (ab 0) (aa (ab 1) (aa (ab 2) (aa (ab 3) af))))) [some (tab m T),some (.tup (aj st)),some (.int (h:Nat)),some (.tup (aj left)),some (.obj g),none,none,none] S=some (.mut r,S1) by
     simp only[dD,zS (f:=_G.run 4 5 goM) (ρ:= [some (tab m T),some (.tup (aj st)),some (.int (h:Nat)),some (.tup (aj left)),some (.obj g),none,none,none]) (a:=ab 0) (b:=ab 1) (c:=ab 2) (d:=ab 3) (var_eq rfl) (var_eq rfl) (var_eq rfl) (var_eq rfl) e1,aE,hg,aR]]
    simp only[aE,J5]
    exact e3
   refine⟨S3,?_,x1.trans x3⟩
   show jw 5 8 (leM g φ) (n+1) _ S=some (jK (List.findSome? _ _),S3)
   cases q:(gos T st h left).findSome? λs=>(leF T st last k (T h s) (left.filter λy => !decide (y=T h s))).map λw=>s::w with
   | none=>
     rw[q]at ef
     exact bM (ρ:=ρ') rfl ((aP (ip ec)).trans ((aP ef).trans (bN rfl)))
   | some w=>
     rw[q]at ef
     exact bM (ρ:=ρ') rfl ((aP (ip ec)).trans (uI ef))
end
end
end _W
end
section
namespace _W
open _L _G
section
abbrev Nod:=List Nat×List Nat
noncomputable def bY(th:List Nat):Nat:=(th.getLast?).getD 0
theorem iL{l:List Nat}{x:Nat}:bY (l++[x])=x:=by simp[bY]
theorem JD{th:List Nat}(h:th≠[]):atI (aj th) (-1)=some (.int (bY th:Nat)):=by
 obtain⟨l,x,rfl⟩:=tD h
 rw[iL]
 have hl:(aj (l++[x])).length=l.length+1:=by simp[aj]
 unfold atI
 have:_L.ixN (aj (l++[x])).length (-1)=some l.length:=by
  rw[hl];unfold _L.ixN
  rw[if_neg (by decide),if_pos (by omega)]
  congr 1;omega
 rw[this]
 simp[aj]
theorem kI{m:Nat}{th:List Nat}(h:th≠[])(hl: ∀x∈th,x<m):bY th<m:=by
 obtain⟨l,x,rfl⟩:=tD h
 rw[iL];exact hl x (by simp)
noncomputable def kids(T:Nat->Nat->Nat)(st:List Nat)(p:Nod):List Nod:=(st.filter λs => !decide (T (bY p.2) s∈p.2)).map λs=>(p.1++[s],p.2++[T (bY p.2) s])
noncomputable def ku(T:Nat->Nat->Nat)(st:List Nat)(L:Nod->List (List Nat)):Nat->Nod->List (List Nat)
 | 0,p=>L p
 | k+1,p=>(kids T st p).flatMap (ku T st L k)
section
variable {m:Nat}{T:Nat->Nat->Nat}{st:List Nat}{S x:Sto}{F:List (List Nat)}{ln:List Nod}{ρ:Rho}
end
noncomputable def eW(b:Nat):Nat->Nat
 | 0=>1
 | k+1=>1+b*eW b k
noncomputable def msr(b m:Nat)(ln:List Nod):Nat:=(ln.map λp=>eW b (m - 1 - p.1.length)).sum
noncomputable def rest(T:Nat->Nat->Nat)(st:List Nat)(L:Nod->List (List Nat))(m:Nat)(ln:List Nod):List (List Nat):=ln.reverse.flatMap λp=>ku T st L (m - 1 - p.1.length) p
section
variable {m:Nat}{T:Nat->Nat->Nat}{st:List Nat}{L:Nod->List (List Nat)}{ln:List Nod}{p:Nod}
theorem w9{b k:Nat}:1<=eW b k:=by cases k <;> simp[eW]
end
end
end _W
end
section
namespace _W
open _L _G
section
theorem Au{ρ:Rho}{S S0:Sto}{i:Nat}{a:ME}{n:Nat}{b:MS}(ha:a ρ S=some (.int n,S0))(h:n<big)(P:Nat->Rho->Sto->Prop)(h0:P 0 ρ S0)
  (hs: ∀(j:Nat) (ρ:Rho) (S:Sto),j<n->P j ρ S -> ∃ρ' S',b (ρ.set i (some (.int j))) S=some (.nx,ρ',S')/\P (j+1) ρ' S'):
  ∃ρ' S',fH i (iR1 (aa a af)) b ρ S=some (.nx,ρ',S')/\P n ρ' S':=by
 obtain⟨ρ',S',e1,p1⟩:=qJ (i:=i) (b:=b) P (bh 0 n) 0 ρ S0 h0 λj u ρ S hj hp=>by
  have hl:j<n:=by have:=(ah.mp hj).1;simpa [bh]using this
  have hu:(bh 0 n)[j]? = some (.int j):=by simp[bh,hl]
  rw[hu]at hj;cases hj
  simpa using hs j ρ S hl (by simpa using hp)
 have hlen:(bh 0 n).length=n:=by simp[bh]
 rw[hlen,eM]at p1
 refine⟨ρ',S',?_,p1⟩
 unfold fH
 rw[nV ha h]
 exact e1
theorem Pu{ρ:Rho}{S S1 S2:Sto}{a b:ME}{x y:Nat}(ha:a ρ S=some (.int x,S1))(hb:b ρ S1=some (.int y,S2)):mFn oy (aa a (aa b af)) ρ S=some (.int (min x y:Nat),S2):=by
 refine bZ ha hb ?_
 show some (U.int (if (y:Int)<x then(y:Int) else x),S2)=_
 congr 3
 split <;> omega
noncomputable def BK:MS:=du (mML cU (ab 4) (aa (mML km (ab 3) (aa (mFn br (aa (ab 0) (aa (mFn bJ (aa (ab 3) af)) af))) af)) af))
noncomputable def F7:MS:=bc (bI 3 (kr (iR2 (aa (mC (.int 1)) (aa (mFn bJ (aa (ab 1) af)) af))))) (bc (bI 4 (dz af)) (bc (fH 5 (iR1 (aa (mFn oy (aa (mFn bJ (aa (ab 3) af)) (aa (m2 da (mC (.int 1)) (mFn br (aa (ab 0) (aa (ab 2) af)))) af))) af)) BK) (bH (mFn bT (aa (mFn eJ (aa (ab 4) af)) af)))))
theorem Dh{n m most:Nat}{T:Nat->Nat->Nat}{S:Sto}(h:qA n S)(g:Grp m T)(hm:m<60)(hmo:0<most)(hmo2:most<60): ∃w S',_G.run 3 6 F7 [.ref n,tab m T,.int (most:Nat)] S=some (.tup (aj w),S')/\Stp n S S'/\(∀x∈w,x<m)/\w.length<=most/\w.length<60/\w.Nodup/\(∀x∈w,x≠0)/\(1<m->w≠[])/\srt w=w:=by
 have hp:=g.pos
 have hbig:m<big:=by unfold big;exact ai (by assumption) (by decide)
 have hn:=h.lt
 have hne1:S.length+1≠n:=dk (dU hn)
 have hm1:m - 1<60:=ay (iP m 1) hm
 have e1:kr (iR2 (aa (mC (.int 1)) (aa (mFn bJ (aa (ab 1) af)) af))) [some (.ref n),some (tab m T),some (.int (most:Nat)),none,none,none] S=some (.ref S.length,S++[Cell.lst (aj (aO 1 (m - 1)))]):=by
  rw[wU (i:=1) (j:=m) rfl (len_tab (var_eq rfl)) ⟨by decide,by decide⟩ (nH hbig) (by rw[lq m (by assumption),bU,lg];exact aF (iP m 1) (ba hbig)),lq m (by assumption)]
 have e2:dz af [some (.ref n),some (tab m T),some (.int (most:Nat)),some (.ref S.length),none,none] (S++[Cell.lst (aj (aO 1 (m - 1)))])=some (.ref (S.length+1),S++[Cell.lst (aj (aO 1 (m - 1)))]++[Cell.lst []]):=lD.trans (by simp)
 generalize hS2:S++[Cell.lst (aj (aO 1 (m - 1)))]++[Cell.lst []]=S2 at e2
 have x2:Ex S S2:=⟨_,by rw[<- hS2,aW]⟩
 have g3:S2[S.length]? = some (Cell.lst (aj (aO 1 (m - 1)))):=by rw[<- hS2,aW,az (aq _)];simp
 have g4:S2[S.length+1]? = some (Cell.lst (aj [])):=by rw[<- hS2,aW,az (by exact dJ _)];simp[aj]
 have st2:Stp n S S2:=Stp.ex h x2
 obtain⟨r,S3,e3,hr,st3⟩:=lz (m:=most) st2.st hmo (by exact ai (by assumption) (by decide))
 have hlen:(aO 1 (m - 1)).length=m - 1:=by simp
 have e4:mFn oy (aa (mFn bJ (aa (ab 3) af)) (aa (m2 da (mC (.int 1)) (mFn br (aa (ab 0) (aa (ab 2) af)))) af)) [some (.ref n),some (tab m T),some (.int (most:Nat)),some (.ref S.length),some (.ref (S.length+1)),none] S2=some (.int (min (m - 1) (1+r):Nat),S3):=by
  refine Pu (x:=m - 1) (y:=1+r) ?_ (add_n (x:=1) (y:=r) c_i (bZ (var_eq rfl) (var_eq rfl) e3))
  have:=Bx (ρ:= [some (.ref n),some (tab m T),some (.int (most:Nat)),some (.ref S.length),some (.ref (S.length+1)),none]) (S:=S2) (a:=ab 3) (var_eq rfl) g3
  rw[this,bU,hlen]
 obtain⟨ρ5,S5,e5,a5,l5,w5,rfl,q3,q4,q5,q6,q7,q8,st5⟩:=Au (i:=5) (b:=BK) e4 (ay (aF (ky _ _) (iP m 1)) hbig)
  (λk ρ S' =>∃a l w,ρ = [some (.ref n),some (tab m T),some (.int (most:Nat)),some (.ref S.length),some (.ref (S.length+1)),a]/\S'[S.length]? = some (Cell.lst (aj l))/\S'[S.length+1]? = some (Cell.lst (aj w))/\l.length+k=m - 1/\w.length=k/\(∀x∈l,x<m)/\(w++l).Perm (aO 1 (m - 1))/\Stp n S S')
  ⟨none,aO 1 (m - 1),[],rfl,st3.some (by exact dk (by assumption)) g3,st3.some hne1 g4,by rw[hlen];rfl,rfl,λx hx=>vv (dQ.mp hx).2 (kE hp),by simp,st2.trans st3⟩ (by
   rintro k ρ S' hk ⟨a,l,w,rfl,c3,c4,hl,hw,lt1,lt2,st⟩
   have hlp:0<l.length:=Nat.lt_of_add_lt_add_right (by rw[eM,hl];exact ai hk (ky _ _))
   have hll:l.length<60:=ay (aF (dm _ k) (wj hl)) hm1
   have hkk:k<60:=ay (aF (Nat.le_add_left k _) (wj hl)) hm1
   obtain⟨q,S6,e6,hq,st6⟩:=lz (m:=l.length) st.st hlp (ai hll (by decide))
   have c3':=st6.some (by exact dk (by assumption)) c3
   have c4':=st6.some hne1 c4
   have el:mFn bJ (aa (ab 3) af) [some (.ref n),some (tab m T),some (.int (most:Nat)),some (.ref S.length),some (.ref (S.length+1)),some (.int k)] S'=some (.int (l.length:Nat),S'):=by
    have:=Bx (ρ:= [some (.ref n),some (tab m T),some (.int (most:Nat)),some (.ref S.length),some (.ref (S.length+1)),some (.int k)]) (S:=S') (a:=ab 3) (var_eq rfl) c3
    rw[this,bU]
   have ep:=zU (ρ:= [some (.ref n),some (tab m T),some (.int (most:Nat)),some (.ref S.length),some (.ref (S.length+1)),some (.int k)]) (o:=ab 3) (a:=mFn br (aa (ab 0) (aa (mFn bJ (aa (ab 3) af)) af))) (r:=S.length) (j:=q) (l:=l) (var_eq rfl) (bZ (var_eq rfl) el e6) c3 c3' hq (by unfold big;exact ai hll (by decide))
   have hin:l[q]∈l:=fk hq
   generalize hx:l[q]=xv at ep hin
   have lS:S.length<S6.length:=(ah.mp c3').1
   have c4'':(S6.set S.length (Cell.lst (aj (l.eraseIdx q))))[S.length+1]? = some (Cell.lst (aj w)):=by rw[aJ (by exact aT (cM _))];exact c4'
   have ea:=append_eq (ρ:= [some (.ref n),some (tab m T),some (.int (most:Nat)),some (.ref S.length),some (.ref (S.length+1)),some (.int k)]) (o:=ab 4) (r:=S.length+1) (var_eq rfl) ep c4 c4'' (by rw[bU,hw];unfold big;exact ai hkk (by decide))
   refine⟨_,_,ea,some (.int k),l.eraseIdx q,w++[xv],rfl,?_,?_,?_,by simp[hw],λz hz=>lt1 z (List.mem_of_mem_eraseIdx hz),?_,?_⟩
   ·rw[aJ (by exact Nat.succ_ne_self _)]
    exact aZ lS
   ·rw[aZ (ah.mp c4'').1]
    simp[aj]
   ·rw[List.length_eraseIdx,if_pos hq,<- hl,<- ff,Nat.add_right_comm,Nat.sub_add_cancel hlp]
   ·rw[aW]
    refine Hc (List.Perm.append_left w ?_) lt2
    show(xv::l.eraseIdx q).Perm l
    rw[<- hx]
    exact pj l q hq
   ·exact((st.trans st6).set (by exact aq _) (by exact dk (by assumption))).set (by exact dJ _) hne1)
 have hw:w5.length<60:=by rw[q6];exact ay (ky _ _) hm1
 have e6:=eR (tY (ρ:= [some (.ref n),some (tab m T),some (.int (most:Nat)),some (.ref S.length),some (.ref (S.length+1)),a5]) (S:=S5) (a:=ab 4) (var_eq rfl) q4 (by exact ai (by assumption) (by decide)))
 refine⟨srt w5,_,bM (ρ:= [some (.ref n),some (tab m T),some (.int (most:Nat)),some (.ref S.length),some (.ref (S.length+1)),a5]) rfl (show F7 [some (.ref n),some (tab m T),some (.int (most:Nat)),none,none,none] S=_ from(aP (bS e1)).trans ((aP (bS e2)).trans ((aP e5).trans (bN e6)))),st5.step (Ex.push _ _),λx hx =>?_,?_,?_,?_,λx hx =>?_,λh1 z =>?_,rg (jQ w5)⟩
 ·exact vv (dQ.mp (q8.mem_iff.mp (bb l5 (j7.mp hx)))).2 (kE hp)
 ·rw[iW,q6];exact aF (Nat.min_le_right _ _) (by rw[pK];exact hr)
 ·rw[iW];assumption
 ·rw[(jQ w5).nodup_iff]
  have:=q8.nodup_iff.mpr eY
  exact(eA.mp this).1
 ·have:=dQ.mp (q8.mem_iff.mp (bb l5 (j7.mp hx)));omega
 ·have:w5.length=0:=by rw[<- iW,z];rfl
  omega
theorem L9{α:Type}{xs:List α}{k:Nat}:cut xs none (some (k:Int))=xs.take k:=by
 have h1:HT.sIx xs.length 0 none=0:=rfl
 have h2:HT.sIx xs.length xs.length (some (k:Int))=min k xs.length:=HT.sIx_nat _ _ k
 unfold cut
 rw[h1,h2,qP,Nat.sub_zero]
 by_cases h:k<=xs.length
 ·rw[pO h]
 ·rw[Nat.min_eq_right (by omega),dR (aq _),dR (by omega)]
section
variable {m:Nat}{T:Nat->Nat->Nat}{st:List Nat}{S:Sto}
noncomputable def su(p:Nod):List (List Nat):= [p.1]
noncomputable def CU(T:Nat->Nat->Nat)(st:List Nat)(p:Nod):List (List Nat):=(st.filter λs=>decide (T (bY p.2) s=0)).map λs=>p.1++[s]
theorem CH{ρ:Rho}{S S1:Sto}{o a:ME}{r k:Nat}{us ws:List U}(ho:o ρ S=some (.ref r,S))(ha:a ρ S=some (.ref k,S1))(hr:S[r]? = some (Cell.lst us))(hr1:S1[r]? = some (Cell.lst us))(hk:S1[k]? = some (Cell.lst ws))(hl:us.length+ws.length<=big):
  du (mML j6 o (aa a af)) ρ S=some (.nx,ρ,S1.set r (.lst (us++ws))):=by
 simp only[du,mML,ho,aE,getL,hr,ag,aa,af,ha,j6,hr1,hk]
 rw[if_pos hl]
 simp only[aE]
end
end
end _W
end
section
namespace _W
open _L _G
section
theorem wu{g:MG}{n:Nat}{b:MS}(us:List U)(P:Nat->Rho->Sto->Prop)(hl: ∀k ρ S,P k ρ S->getL S n=some us)
  (st: ∀(k:Nat) (u:U) (ρ:Rho) (S:Sto),us[k]? = some u->P k ρ S -> ∃ρ1 S1 ρ' S',g u ρ S=some (ρ1,S1)/\b ρ1 S1=some (.nx,ρ',S')/\P (k+1) ρ' S'):
  ∀(f k:Nat) (ρ:Rho) (S:Sto),k<=us.length->us.length - k<f->P k ρ S -> ∃ρ' S',oU g b n f k ρ S=some (.nx,ρ',S')/\P us.length ρ' S'
 | 0,k,ρ,S,h1,h2,_=>by omega
 | f+1,k,ρ,S,h1,h2,hp=>by
   unfold oU
   rw[hl k ρ S hp]
   simp only[ag]
   by_cases hk:k<us.length
   ·have hu:us[k]? = some us[k]:=by simp[hk]
    obtain⟨ρ0,S0,ρ1,S1,e0,e1,p1⟩:=st k us[k] ρ S hu hp
    obtain⟨ρ2,S2,e2,p2⟩:=wu us P hl st f (k+1) ρ1 S1 (by assumption) (by omega) p1
    refine⟨ρ2,S2,?_,p2⟩
    simp only[hu,e0,ag,aft,e1,e2]
   ·have:k=us.length:=by omega
    subst this
    exact⟨ρ,S,by simp,hp⟩
theorem B7{g:MG}{n:Nat}{b:MS}{e:ME}{ρ:Rho}{S S1:Sto}{us:List U}(he:e ρ S=some (.ref n,S1))(hu:us.length<100000)(P:Nat->Rho->Sto->Prop)(h0:P 0 ρ S1)(hl: ∀k ρ S,P k ρ S->getL S n=some us)
  (st: ∀(k:Nat) (u:U) (ρ:Rho) (S:Sto),us[k]? = some u->P k ρ S -> ∃ρ1 S1 ρ' S',g u ρ S=some (ρ1,S1)/\b ρ1 S1=some (.nx,ρ',S')/\P (k+1) ρ' S'):
  ∃ρ' S',nh g (dD e) b ρ S=some (.nx,ρ',S')/\P us.length ρ' S':=by
 obtain⟨ρ',S',e1,p1⟩:=wu us P hl st fuel 0 ρ S1 (dc _) (by unfold fuel;assumption) h0
 refine⟨ρ',S',?_,p1⟩
 unfold nh dD
 rw[he]
 simp only[aE,hl 0 ρ S1 h0,aR]
 exact e1
theorem Ex.set{S S':Sto}{r:Nat}{c:Cell}(h:Ex S S')(hr:S.length<=r):Ex S (S'.set r c):=by
 obtain⟨t,rfl⟩:=h
 exact⟨t.set (r - S.length) c,by rw[gf _ _ hr]⟩
theorem Ar{t:MT}{e a:ME}{ρ:Rho}{n:Nat}{S S1:Sto}{us:List U}{p:U->Bool}{f:U->U}(ha:a ρ S=some (.ref n,S1))(hu:S1[n]? = some (Cell.lst us))(hl:us.length<100000)(ht: ∀u∈us,t (ρ++[some u]) S1=some (p u,S1))(he: ∀u∈us,p u=true->e (ρ++[some u]) S1=some (f u,S1)):
  cm (dD a) t e ρ S=some (.ref S1.length,S1++[.lst ((us.filter p).map f)]):=by
 have hg:getL S1 n=some us:=by unfold getL;rw[hu]
 have hi:dD a ρ S=some (.mut n,S1):=by simp only[dD,ha,aE,hg,aR]
 have e1:=lL hg ht he fuel 0 [] (dc _) (by unfold fuel;assumption)
 rw[qP,dW]at e1
 simp only[cm,hi,aE,B6,e1]
 refine if_pos ?_
 have:=dC p us
 rw[ak];unfold big;exact ay (by assumption) (ai (by assumption) (by decide))
theorem uD{b c:Nat}(h:b<=c): ∀{j k:Nat},j<=k->eW b j<=eW c k
 | 0,k,_=>w9
 | j+1,0,h2=>by omega
 | j+1,k+1,h2=>by
   unfold eW
   have:=Nat.mul_le_mul h (uD h (j:=j) (k:=k) (by exact dy (by assumption)))
   omega
section
variable {m:Nat}{T:Nat->Nat->Nat}{st:List Nat}
noncomputable def iJ(T:Nat->Nat->Nat)(st:List Nat)(last:Nat->Option (List Nat)):Nat->Nat->List Nat->List (List Nat)
 | 0,h,_=>(last h).toList
 | k+1,h,left=>(gos T st h left).flatMap λs=>(iJ T st last k (T h s) (left.filter λy => !decide (y=T h s))).map λw=>s::w
theorem tS{α β:Type}{f:α->List β}{B:Nat}: ∀(l:List α),(∀x∈l,(f x).length<=B)->(l.flatMap f).length<=l.length*B
 | [],_=>by simp
 | x::l,h=>by
   have h1:=h x (by simp)
   have h2:=tS l λy hy=>h y (aw _ hy)
   rw[List.flatMap_cons,aV,bg,Nat.succ_mul]
   omega
theorem t9{last:Nat->Option (List Nat)}: ∀(k h:Nat) (left:List Nat),(iJ T st last k h left).length<=eW st.length k
 | 0,h,left=>by unfold iJ eW;cases last h <;> simp
 | k+1,h,left=>by
   unfold iJ eW
   have h1:=tS (f:=λs=>(iJ T st last k (T h s) (left.filter λy => !decide (y=T h s))).map λw=>s::w) (B:=eW st.length k) (gos T st h left) λs _=>by
    rw[ak];exact t9 k _ _
   have h2:(gos T st h left).length<=st.length:=dC _ _
   have:=jW (eW st.length k) h2
   omega
theorem yY{last:Nat->Option (List Nat)}(hs: ∀s∈st,s<m)(hB: ∀h w,last h=some w->w.length<=1 /\ ∀x∈w,x<m): ∀(k h:Nat) (left w:List Nat),w∈iJ T st last k h left->w.length<=k+1 /\ ∀x∈w,x<m
 | 0,h,left,w,e=>by
   unfold iJ at e
   cases q:last h with
   | none=>rw[q]at e;simp at e
   | some v=>rw[q]at e;simp at e;subst e;have:=hB h w q;exact⟨by omega,this.2⟩
 | k+1,h,left,w,e=>by
   unfold iJ at e
   obtain⟨s,hsm,e⟩:=xi.mp e
   obtain⟨v,hv,rfl⟩:=aH.mp e
   have ih:=yY hs hB k _ _ v hv
   refine⟨by simp only[bg];omega,λx hx =>?_⟩
   rcases aK.mp hx with hx |hx
   ·rw[hx];exact hs s (bu.mp hsm).1
   ·exact ih.2 x hx
noncomputable def O2(ψ:MF):MS:=bc (bI 9 (mFn ψ (aa (ab 0) (aa (ab 1) (aa (ab 8) (aa (mFn (_G.run 2 2 abM) (aa (ab 3) (aa (ab 8) af))) (aa (ab 4) af))))))) (du (mML j6 (ab 6) (aa (cm (dD (ab 9)) cTT (m2 da (fN (aa (ab 7) af)) (ab 10))) af)))
noncomputable def aeM(g:bf)(φ:MF)(ψ:MF):MS:=bc (sIf (cOf (m2 oEq (mFn bJ (aa (ab 3) af)) (mC (.int 0)))) (bc (bI 5 (sD 4 g φ (aa (ab 0) (aa (ab 1) (aa (ab 2) af))))) (bH (v7 (cOf (m2 oIs (ab 5) (mC .non))) (dz af) (dz (aa (ab 5) af))))) cP) (bc (bI 6 (dz af)) (bc (nh (gTp 2 (eK (gN 7) (eK (gN 8) mE))) (dD (mFn (_G.run 4 5 goM) (aa (ab 0) (aa (ab 1) (aa (ab 2) (aa (ab 3) af)))))) (O2 ψ)) (bH (ab 6))))
theorem Ow{last:Nat->Option (List Nat)}{g:bf}{φ:MF}(gr:Grp m T)(hs: ∀s∈st,s<m)(hsl:st.length<1000)(hm:m<500)(hB: ∀h w,last h=some w->w.length<=1 /\ ∀x∈w,x<m)
  (hφ: ∀h (S:Sto),h<m->φ [tab m T,.tup (aj st),.int (h:Nat)] S=some (jK (last h),S)): ∀(k n h:Nat) (left:List Nat) (S:Sto),k<n->left.length=k->left.Nodup->(∀x∈left,x<m)->h<m->eW st.length k<=9000 ->
  ∃r S',jw 5 10 (aeM g φ) n [tab m T,.tup (aj st),.int (h:Nat),.tup (aj left),.obj g] S=some (.ref r,S')/\Ex S S'/\S.length<=r/\S'[r]? = some (.lst (tups (iJ T st last k h left))):=by
 intro k
 induction k with
 | zero=>
   intro n h left S hn hl nd hlt hh hz
   obtain⟨n,rfl⟩ : ∃j,n=j+1:=⟨n - 1,by omega⟩
   have h0:left = []:=eB.mp hl
   subst h0
   have ec:cOf (m2 oEq (mFn bJ (aa (ab 3) af)) (mC (.int 0))) [some (tab m T),some (.tup (aj st)),some (.int (h:Nat)),some (.tup (aj [])),some (.obj g),none,none,none,none,none] S=some (true,S):=of_eq (yt (x:=0) (y:=0) (nv (us:= []) (var_eq rfl)) c_i)
   have e5:sD 4 g φ (aa (ab 0) (aa (ab 1) (aa (ab 2) af))) [some (tab m T),some (.tup (aj st)),some (.int (h:Nat)),some (.tup (aj [])),some (.obj g),none,none,none,none,none] S=some (jK (last h),S):=by
    show(if g=g then mFn φ (aa (ab 0) (aa (ab 1) (aa (ab 2) af))) _ _ else none)=_
    rw[if_pos rfl]
    exact mD (var_eq rfl) (var_eq rfl) (var_eq rfl) (hφ h S hh)
   have e6:v7 (cOf (m2 oIs (ab 5) (mC .non))) (dz af) (dz (aa (ab 5) af)) [some (tab m T),some (.tup (aj st)),some (.int (h:Nat)),some (.tup (aj [])),some (.obj g),some (jK (last h)),none,none,none,none] S=some (.ref S.length,S++[.lst (tups (iJ T st last 0 h []))]):=by
    unfold iJ
    cases q:last h with
    | none=>
      have ei:cOf (m2 oIs (ab 5) (mC .non)) [some (tab m T),some (.tup (aj st)),some (.int (h:Nat)),some (.tup (aj [])),some (.obj g),some (jK none),none,none,none,none] S=some (true,S):=of_eq (op2 (f:=oIs) (var_eq rfl) rfl rfl)
      simp only[v7,ei,aE,if_true]
      exact lD
    | some w=>
      have ei:cOf (m2 oIs (ab 5) (mC .non)) [some (tab m T),some (.tup (aj st)),some (.int (h:Nat)),some (.tup (aj [])),some (.obj g),some (jK (some w)),none,none,none,none] S=some (false,S):=of_eq (op2 (f:=oIs) (var_eq rfl) rfl rfl)
      simp only[v7,ei,aE,d4,if_false]
      exact FQ (var_eq rfl)
   refine⟨S.length,_,bM (ρ:= [some (tab m T),some (.tup (aj st)),some (.int (h:Nat)),some (.tup (aj [])),some (.obj g),some (jK (last h)),none,none,none,none]) rfl (uI ((qh ec).trans ((aP (bS e5)).trans (bN e6)))),Ex.push _ _,aq _,eP _ _⟩
 | succ k ih=>
   intro n h left S hn hl nd hlt hh hz
   obtain⟨n,rfl⟩ : ∃j,n=j+1:=⟨n - 1,by omega⟩
   have hb:=pw m left nd hlt
   have hz1:eW st.length k<=9000:=aF (uD (aq _) (dJ k)) hz
   have ec:cOf (m2 oEq (mFn bJ (aa (ab 3) af)) (mC (.int 0))) [some (tab m T),some (.tup (aj st)),some (.int (h:Nat)),some (.tup (aj left)),some (.obj g),none,none,none,none,none] S=some (false,S):=by
    have:=of_eq (yt (ρ:= [some (tab m T),some (.tup (aj st)),some (.int (h:Nat)),some (.tup (aj left)),some (.obj g),none,none,none,none,none]) (S:=S) (a:=mFn bJ (aa (ab 3) af)) (b:=mC (.int 0)) (x:=(aj left).length) (y:=0) (nv (var_eq rfl)) c_i)
    rw[this,decide_eq_false (by rw[bU];omega)]
   obtain⟨r,S1,e1,x1,hrl,hr⟩:=o8 (T:=T) (st:=st) (left:=left) (S:=S++[.lst []]) hh hs hsl
   have hrl:S.length+1<=r:=by simpa using hrl
   have hgl:(gos T st h left).length<1000:=ay (dC _ _) hsl
   let F:Nat->List (List Nat):=λs=>(iJ T st last k (T h s) (left.filter λy => !decide (y=T h s))).map λw=>s::w
   have hFl: ∀i,(((gos T st h left).take i).flatMap F).length<=9000:=λi=>by
    have h1:=tS (f:=F) (B:=eW st.length k) ((gos T st h left).take i) λs _=>by
     show(oo _ _).length<=_
     rw[ak];exact t9 k _ _
    have h2:((gos T st h left).take i).length<=st.length:=aF (List.length_take_le' _ _) (dC _ _)
    have:=jW (eW st.length k) h2
    have:eW st.length (k+1)=1+st.length*eW st.length k:=rfl
    omega
   obtain⟨ρ2,S2,e2,⟨a,b,c,rfl⟩,x2,q2,_⟩:=B7 (g:=gTp 2 (eK (gN 7) (eK (gN 8) mE))) (b:=O2 (jw 5 10 (aeM g φ) n)) (e:=mFn (_G.run 4 5 goM) (aa (ab 0) (aa (ab 1) (aa (ab 2) (aa (ab 3) af))))) (ρ:= [some (tab m T),some (.tup (aj st)),some (.int (h:Nat)),some (.tup (aj left)),some (.obj g),none,some (.ref S.length),none,none,none]) (S:=S++[.lst []]) (us:=(gos T st h left).map (prU T h))
    (zS (f:=_G.run 4 5 goM) (var_eq rfl) (var_eq rfl) (var_eq rfl) (var_eq rfl) e1) (by rw[ak];exact ai (by assumption) (by decide))
    (λi ρ S'=>(∃a b c,ρ = [some (tab m T),some (.tup (aj st)),some (.int (h:Nat)),some (.tup (aj left)),some (.obj g),none,some (.ref S.length),a,b,c])/\Ex S S'/\S'[S.length]? = some (.lst (tups (((gos T st h left).take i).flatMap F)))/\S'[r]? = some (.lst ((gos T st h left).map (prU T h))))
    ⟨⟨_,_,_,rfl⟩,(Ex.push _ _).trans x1,by rw[x1.some (eP S (Cell.lst []))];simp[tups],hr⟩
    (λi ρ S' hp=>by unfold getL;rw[hp.2.2.2]) (by
     rintro i u ρ S' hu ⟨⟨a,b,c,rfl⟩,x2,q2,r2⟩
     rw[bO]at hu
     obtain⟨s,hsg,rfl⟩:=fB.mp hu
     have hsm:s∈gos T st h left:=cY hsg
     obtain⟨hs1,hs2⟩:=bu.mp hsm
     have hs2:T h s∈left:=of_decide_eq_true hs2
     have hsT:T h s<m:=gr.cl h s hh (hs s hs1)
     obtain⟨S4,e4,x4⟩:=rK (left:=left) (x:=T h s) (S:=S') (by exact ay (by assumption) (ai (by assumption) (by decide)))
     obtain⟨r5,S5,e5,x5,l5,q5⟩:=ih n (T h s) (left.filter λy => !decide (y=T h s)) S4 (by exact dy (by assumption)) (by have:=qr nd hs2;omega) (nd.filter _) (λx hx=>hlt x (bu.mp hx).1) hsT hz1
     have e6:bI 9 (mFn (jw 5 10 (aeM g φ) n) (aa (ab 0) (aa (ab 1) (aa (ab 8) (aa (mFn (_G.run 2 2 abM) (aa (ab 3) (aa (ab 8) af))) (aa (ab 4) af)))))) [some (tab m T),some (.tup (aj st)),some (.int (h:Nat)),some (.tup (aj left)),some (.obj g),none,some (.ref S.length),some (.int s),some (.int (T h s:Nat)),c] S'=some (.nx,[some (tab m T),some (.tup (aj st)),some (.int (h:Nat)),some (.tup (aj left)),some (.obj g),none,some (.ref S.length),some (.int s),some (.int (T h s:Nat)),some (.ref r5)],S5):=bS (zC (var_eq rfl) (var_eq rfl) (var_eq rfl) (bZ (var_eq rfl) (var_eq rfl) e4) (var_eq rfl) e5)
     have hal:=t9 (T:=T) (st:=st) (last:=last) k (T h s) (left.filter λy => !decide (y=T h s))
     have hem:=yY (T:=T) hs hB k (T h s) (left.filter λy => !decide (y=T h s))
     generalize hE:iJ T st last k (T h s) (left.filter λy => !decide (y=T h s))=E at q5 hal hem
     have hFs:F s=E.map λw=>s::w:=by show oo _ _=_;rw[hE]
     have e7:=Ar (t:=cTT) (e:=m2 da (fN (aa (ab 7) af)) (ab 10)) (ρ:= [some (tab m T),some (.tup (aj st)),some (.int (h:Nat)),some (.tup (aj left)),some (.obj g),none,some (.ref S.length),some (.int s),some (.int (T h s:Nat)),some (.ref r5)]) (S:=S5) (a:=ab 9) (us:=tups E) (p:=λ_=>true) (f:=λu=>match u with | .tup l => .tup (.int s::l) |_ => .non) (var_eq rfl) q5 (by simp only[tups,ak];exact ay (by assumption) (ay (by assumption) (by decide))) (λ_ _=>rfl) (by
      intro u hu _
      obtain⟨w,hw,rfl⟩:=aH.mp hu
      have:=(hem w hw).1
      exact yP (x:= [s]) (y:=w) (Gw (var_eq rfl)) (var_eq rfl) (by simp;omega))
     rw[kz.mpr (λ_ _=>rfl)]at e7
     have hmap:(tups E).map (λu=>match u with | .tup l=>U.tup (.int s::l) |_ => .non)=tups (F s):=by
      rw[hFs];unfold tups;rw[bF,bF];rfl
     rw[hmap]at e7
     have q2':=((x4.trans x5).trans (Ex.push S5 (Cell.lst (tups (F s))))).some q2
     have r2':=((x4.trans x5).trans (Ex.push S5 (Cell.lst (tups (F s))))).some r2
     have htk:((gos T st h left).take (i+1)).flatMap F=((gos T st h left).take i).flatMap F++F s:=by
      rw[jh,hsg,ie];simp
     have hlen:=hFl (i+1)
     rw[htk,aV]at hlen
     have e8:=CH (ρ:= [some (tab m T),some (.tup (aj st)),some (.int (h:Nat)),some (.tup (aj left)),some (.obj g),none,some (.ref S.length),some (.int s),some (.int (T h s:Nat)),some (.ref r5)]) (S:=S5) (o:=ab 6) (r:=S.length) (var_eq rfl) e7 ((x4.trans x5).some q2) q2' (eP _ _) (by simp only[tups,ak];unfold big;exact aF (by assumption) (by decide))
     refine⟨_,S',_,_,rfl,(aP e6).trans e8,⟨_,_,_,rfl⟩,?_,?_,?_⟩
     ·exact(((x2.trans x4).trans x5).trans (Ex.push _ _)).set (aq _)
     ·rw[aZ (ah.mp q2').1,htk]
      simp[tups]
     ·rw[aJ (by exact aT (by assumption))];exact r2')
   rw[ak,dR (aq _)]at q2
   refine⟨S.length,S2,bM (ρ:= [some (tab m T),some (.tup (aj st)),some (.int (h:Nat)),some (.tup (aj left)),some (.obj g),none,some (.ref S.length),a,b,c]) rfl ((aP (ip ec)).trans ((aP (bS lD)).trans ((aP e2).trans (bN (var_eq rfl))))),x2,aq _,q2⟩
structure Lft(m:Nat)(th left:List Nat):Prop where
 nd:left.Nodup
 mem: ∀y,y∈left↔y<m/\y∉th
theorem Lft.kid{th left:List Nat}{x:Nat}(l:Lft m th left):Lft m (th++[x]) (left.filter λy => !decide (y=x)):=
 ⟨l.nd.filter _,λy=>by
  rw[bu,l.mem y]
  simp
  constructor
  ·rintro ⟨⟨a,b⟩,c⟩;exact⟨a,b,c⟩
  ·rintro ⟨a,b,c⟩;exact⟨⟨a,b⟩,c⟩⟩
theorem qT(hm:0<m):Lft m [0] (aO 1 (m - 1)):=by
 refine⟨eY,λy =>?_⟩
 rw[dQ]
 simp
 omega
theorem uz{L:Nod->List (List Nat)}{last:Nat->Option (List Nat)}(g:Grp m T)(hs: ∀s∈st,s<m)(hL: ∀p:Nod,p.2≠[]->(∀x∈p.2,x<m)->L p=(last (bY p.2)).toList.map λw=>p.1++w):
  ∀(k:Nat) (p:Nod) (left:List Nat),p.2≠[]->(∀x∈p.2,x<m)->Lft m p.2 left->ku T st L k p=(iJ T st last k (bY p.2) left).map λw=>p.1++w
 | 0,p,left,h1,h2,l=>hL p h1 h2
 | k+1,p,left,h1,h2,l=>by
   unfold ku iJ
   have hh:=kI h1 h2
   have hg:gos T st (bY p.2) left=st.filter λs => !decide (T (bY p.2) s∈p.2):=by
    unfold gos
    apply mn
    intro s hsm
    have:=g.cl _ _ hh (hs s hsm)
    by_cases z:T (bY p.2) s∈p.2
    ·have:T (bY p.2) s∉left:=λy=>((l.mem _).mp y).2 z
     simp[z,this]
    ·have:T (bY p.2) s∈left:=(l.mem _).mpr ⟨this,z⟩
     simp[z,this]
   rw[hg]
   unfold kids
   rw[List.flatMap_map,List.map_flatMap]
   rw[List.flatMap_def,List.flatMap_def]
   congr 1
   apply aM
   intro s hsm
   have hsm:=(bu.mp hsm).1
   have ih:=uz g hs hL k (p.1++[s],p.2++[T (bY p.2) s]) (left.filter λy => !decide (y=T (bY p.2) s)) (by simp) (λx hx=>by
    rcases bo.mp hx with hx |hx
    ·exact h2 x hx
    ·simp at hx;rw[hx];exact g.cl _ _ hh (hs s hsm)) l.kid
   rw[ih]
   simp only[iL]
   rw[bF]
   apply aM
   intro w _
   simp
noncomputable def oJ(_:Nat):Option (List Nat):=some []
noncomputable def jE(m:Nat)(T:Nat->Nat->Nat)(st:List Nat)(h:Nat):Option (List Nat):=if unT m T h∈st then some [unT m T h] else none
theorem HC(hs: ∀s∈st,s<m)(h:Nat)(w:List Nat)(e:jE m T st h=some w):w.length<=1 /\ ∀x∈w,x<m:=by
 unfold jE at e
 split at e
 ·rename_i z;cases e;exact⟨by simp,λx hx=>by simp at hx;rw[hx];exact hs _ z⟩
 ·cases e
theorem zN{p:Nat->Bool}{x:Nat}: ∀(l:List Nat),l.Nodup->(∀s∈l,p s=decide (s=x))->l.filter p=if x∈l then [x] else []
 | [],_,_=>by simp
 | y::l,nd,h=>by
   have hy:=h y (by simp)
   have nd':=eC.mp nd
   have ih:=zN l nd'.2 λs hs=>h s (aw _ hs)
   by_cases e:y=x
   ·subst e
    rw[iQ (by rw[hy];simp),ih,if_neg nd'.1]
    simp
   ·rw[iR (by rw[hy];simpa using e),ih]
    simp[eG e]
noncomputable def jI(m:Nat)(T:Nat->Nat->Nat)(st:List Nat):List (List Nat):=iJ T st (jE m T st) (m - 1) 0 (aO 1 (m - 1))
noncomputable def jm(m:Nat)(T:Nat->Nat->Nat)(st:List Nat):List (List Nat):=iJ T st oJ (m - 1) 0 (aO 1 (m - 1))
theorem B8(g:Grp m T)(hs: ∀s∈st,s<m)(nd:st.Nodup):ku T st (CU T st) (m - 1) ([],[0])=jI m T st:=by
 rw[uz g hs (last:=jE m T st) (λp h1 h2=>by
  have hh:=kI h1 h2
  obtain⟨u1,u2,u3,u4⟩:=lC g hh
  unfold CU jE
  rw[zN (x:=unT m T (bY p.2)) st nd λs hsm =>?_]
  ·split <;> simp
  ·by_cases z:s=unT m T (bY p.2)
   ·subst z;simp[u2]
   ·have:T (bY p.2) s≠0:=λy=>z (u4 s (hs s hsm) y)
    simp[z,this]) (m - 1) ([],[0]) _ (by simp) (by simpa using g.pos) (qT g.pos)]
 show oo (λw=>w) (iJ T st (jE m T st) (m - 1) 0 (aO 1 (m - 1)))=_
 rw[Ea];rfl
theorem xm(g:Grp m T)(hs: ∀s∈st,s<m):ku T st su (m - 1) ([],[0])=jm m T st:=by
 rw[uz g hs (last:=oJ) (λp _ _=>by simp[su,oJ]) (m - 1) ([],[0]) _ (by simp) (by simpa using g.pos) (qT g.pos)]
 show oo (λw=>w) (iJ T st oJ (m - 1) 0 (aO 1 (m - 1)))=_
 rw[Ea];rfl
end
open PySem in
open PySem in
section
variable {m:Nat}{T:Nat->Nat->Nat}{st:List Nat}{S:Sto}
noncomputable def unM:MS:=bH (mMT eO (m2 oIx (ab 0) (ab 1)) (aa (mC (.int 0)) af))
noncomputable def shM:MS:=bc (bI 3 (mFn (_G.run 2 2 unM) (aa (ab 0) (aa (ab 2) af)))) (bH (v7 (cOf (m2 oIn (ab 3) (ab 1))) (fN (aa (ab 3) af)) (mC .non)))
theorem Kg{h:Nat}(g:Grp m T)(hh:h<m):_G.run 3 4 shM [tab m T,.tup (aj st),.int (h:Nat)] S=some (jK (jE m T st h),S):=by
 have e1:mFn (_G.run 2 2 unM) (aa (ab 0) (aa (ab 2) af)) [some (tab m T),some (.tup (aj st)),some (.int (h:Nat)),none] S=some (.int (unT m T h),S):=bZ (var_eq rfl) (var_eq rfl) (o4 g hh)
 have ec:=PH (ρ:= [some (tab m T),some (.tup (aj st)),some (.int (h:Nat)),some (.int (unT m T h:Nat))]) (S:=S) (a:=ab 3) (b:=ab 1) (x:=unT m T h) (l:=st) (var_eq rfl) (var_eq rfl)
 refine bM (ρ:= [some (tab m T),some (.tup (aj st)),some (.int (h:Nat)),some (.int (unT m T h:Nat))]) rfl ?_
 show shM [some (tab m T),some (.tup (aj st)),some (.int (h:Nat)),none] S=_
 refine(aP (bS e1)).trans (bN ?_)
 unfold jE
 by_cases z:unT m T h∈st
 ·rw[decide_eq_true z]at ec
  rw[if_pos z]
  show bnd (cOf (m2 oIn (ab 3) (ab 1)) [some (tab m T),some (.tup (aj st)),some (.int (h:Nat)),some (.int (unT m T h:Nat))] S) _=_
  rw[ec]
  show fN (aa (ab 3) af) [some (tab m T),some (.tup (aj st)),some (.int (h:Nat)),some (.int (unT m T h:Nat))] S=_
  exact Gw (var_eq rfl)
 ·rw[decide_eq_false z]at ec
  rw[if_neg z]
  show bnd (cOf (m2 oIn (ab 3) (ab 1)) [some (tab m T),some (.tup (aj st)),some (.int (h:Nat)),some (.int (unT m T h:Nat))] S) _=_
  rw[ec]
  rfl
theorem wX{last:Nat->Option (List Nat)}{a:bf}{φ:MF}(g:Grp m T)(hm:m<=12)(hs: ∀s∈st,s<m)(hsl:st.length<1000)(hz:eW st.length (m - 1)<=9000)(hB: ∀h w,last h=some w->w.length<=1 /\ ∀x∈w,x<m)
  (hφ: ∀h (S:Sto),h<m->φ [tab m T,.tup (aj st),.int (h:Nat)] S=some (jK (last h),S)): ∃r S',mFn (jw 5 10 (aeM a φ) 14) (aa (ab 0) (aa (ab 1) (aa (mC (.int 0)) (aa (mFn (_G.run 1 1 OV) (aa (ab 0) af)) (aa (mC (.obj a)) af))))) [some (tab m T),some (.tup (aj st))] S=some (.ref r,S')/\Ex S S'/\S.length<=r/\S'[r]? = some (.lst (tups (iJ T st last (m - 1) 0 (aO 1 (m - 1))))):=by
 have hp:=g.pos
 obtain⟨r,S1,e1,x1,l1,q1⟩:=Ow (T:=T) (st:=st) (last:=last) (g:=a) (φ:=φ) g hs hsl (by exact ay (by assumption) (by decide)) hB hφ (m - 1) 14 0 (aO 1 (m - 1)) S (by omega) (by simp) eY (λx hx=>by have:=dQ.mp hx;omega) hp hz
 exact⟨r,S1,zC (var_eq rfl) (var_eq rfl) (c_i (z:=0)) (gW (var_eq rfl) (tm hp (by exact ay (by assumption) (by decide)))) rfl e1,x1,l1,q1⟩
theorem rh{k:Nat}(h:m<=k):du (mFn (_G.run 2 2 rmM) (aa (ab 0) (aa (mC (.int (k:Nat))) af))) [some (tab m T),some (.tup (aj st))] S=some (.nx,[some (tab m T),some (.tup (aj st))],S):=by
 have:=bZ (f:=_G.run 2 2 rmM) (ρ:= [some (tab m T),some (.tup (aj st))]) (S:=S) (a:=ab 0) (b:=mC (.int (k:Nat))) (var_eq rfl) c_i (qY (T:=T) (k:=k) h)
 simp only[du,this,aE]
end
end
end _W
end
section
namespace _W
open _L _G
section
abbrev Rds:=List (Nat×List Nat)
noncomputable def kF(ks:Rds):List Nat:=ks.map vD
noncomputable def eV(ks:Rds):List (_L.Key×U):=ks.map λp=>(fS (p.1:Int),U.tup (aj p.2))
theorem E4{ks:Rds}{x:Nat}:zi (eV ks) (.inl (x:Int))=decide (x∈kF ks):=by
 have:zi (eV ks) (.inl (x:Int))=true↔x∈kF ks:=by
  rw[zw]
  unfold eV kF
  constructor
  ·rintro ⟨kv,hm,e⟩
   obtain⟨y,hy,rfl⟩:=aH.mp hm
   have e':(y.1:Int)=x:=DN e
   exact aH.mpr ⟨y,hy,by omega⟩
  ·intro h
   obtain⟨y,hy,rfl⟩:=aH.mp h
   exact⟨_,aH.mpr ⟨y,hy,rfl⟩,rfl⟩
 by_cases h:x∈kF ks
 ·rw[this.mpr h];simp[h]
 ·cases q:zi (eV ks) (.inl (x:Int)) with
  | true=>exact absurd (this.mp q) h
  | false=>simp[h]
theorem NX{ks:Rds}{x:Nat}{w:List Nat}(h:x∉kF ks):AD (eV ks) (.inl (x:Int)) (.tup (aj w))=eV (ks++[(x,w)]):=by
 unfold AD
 rw[if_neg]
 ·simp[eV]
 ·intro z
  obtain⟨kv,hm,e⟩:=xh.mp z
  have:zi (eV ks) (.inl (x:Int))=true:=zw.mpr ⟨kv,hm,of_decide_eq_true e⟩
  rw[E4]at this
  exact h (of_decide_eq_true this)
theorem CW(ks:Rds):(eV ks).length=ks.length:=by simp[eV]
theorem uA: ∀(ks:Rds),cH pz (eV ks)=some (di (kF ks))
 | []=>rfl
 | x::l=>by
   show(pz (fS (x.1:Int),U.tup (aj x.2))).bind _=_
   simp only[pz,ag]
   rw[show oo (λ(p:Nat×List Nat)=>(fS (p.1:Int),U.tup (aj p.2))) l=eV l from rfl,uA l]
   rfl
noncomputable def iI(ks:Rds)(x:Nat):List Nat:=((ks.find? λp=>decide (p.1=x)).map Prod.snd).getD []
theorem JW{x:Nat}: ∀{ks:Rds},x∈kF ks->oB (eV ks) (.inl (x:Int))=some (.tup (aj (iI ks x)))
 | [],h=>by simp[kF]at h
 | p::ks,h=>by
   unfold oB iI eV
   rw[bE,cJ,cJ]
   by_cases e:p.1=x
   ·have:(fS (p.1:Int):_L.Key) = .inl (x:Int):=by rw[e]
    simp[e]
   ·have e1: ¬((fS (p.1:Int):_L.Key) = .inl (x:Int)):=λz=>e (by have:=DN z;omega)
    simp only[decide_eq_false e,decide_eq_false e1]
    have h':x∈kF ks:=by
     rcases aK.mp (show x∈p.1::kF ks from h) with z |z
     ·exact absurd z.symm e
     ·exact z
    exact JW (ks:=ks) h'
theorem pf{x:Nat}: ∀{ks:Rds},x∈kF ks->(x,iI ks x)∈ks
 | [],h=>by simp[kF]at h
 | p::ks,h=>by
   unfold iI
   rw[cJ]
   by_cases e:p.1=x
   ·rw[decide_eq_true e]
    show(x,p.2)∈p::ks
    rw[<- e];exact aU
   ·have h':x∈kF ks:=by
     rcases aK.mp (show x∈p.1::kF ks from h) with z |z
     ·exact absurd z.symm e
     ·exact z
    rw[decide_eq_false e]
    exact aw _ (pf (ks:=ks) h')
structure Rd(T:Nat->Nat->Nat)(ths:List Nat)(ks:Rds):Prop where
 go: ∀p∈ks,dq T p.2=p.1
 by': ∀p∈ks,∀y∈p.2,y∈ths
 len: ∀p∈ks,p.2.length<ks.length
section
variable {m:Nat}{T:Nat->Nat->Nat}{ths:List Nat}{S x:Sto}{v:U}
noncomputable def fD(S:Sto)(p:Rds×List Nat)(x:Sto):Sto:=S++[.dic (eV p.1),.lst (aj p.2)]++x
noncomputable def AA(T:Nat->Nat->Nat)(h y:Nat)(p:Rds×List Nat):Rds×List Nat:=if T h y∈kF p.1 then p else(p.1++[(T h y,iI p.1 h++[y])],p.2++[T h y])
noncomputable def cvR(p:Rds×List Nat):List Nat×List Nat:=(kF p.1,p.2)
theorem HE{h y:Nat}{p:Rds×List Nat}:cvR (AA T h y p)=tryD T h y (cvR p):=by
 by_cases e:T h y∈kF p.1
 ·rw[AA,if_pos e,tryD,if_pos (show T h y∈(cvR p).1 from e)]
 ·rw[AA,if_neg e,tryD,if_neg (show ¬T h y∈(cvR p).1 from e)]
  simp[cvR,kF]
theorem Jz{h y:Nat}{p:Rds×List Nat}(hr:Rd T ths p.1)(hh:h∈kF p.1)(hy:y∈ths):Rd T ths (AA T h y p).1:=by
 unfold AA
 split
 ·exact hr
 ·have hm:=pf hh
  refine⟨λq hq =>?_,λq hq =>?_,λq hq =>?_⟩
  ·rcases bo.mp hq with hq |hq
   ·exact hr.go q hq
   ·simp at hq;subst hq
    show dq T (iI p.1 h++[y])=T h y
    have:=hr.go _ hm
    unfold dq at this ⊢
    rw[jg,this];rfl
  ·rcases bo.mp hq with hq |hq
   ·exact hr.by' q hq
   ·simp at hq;subst hq
    intro z hz
    rcases bo.mp hz with hz |hz
    ·exact hr.by' _ hm z hz
    ·simp at hz;rw[hz];exact hy
  ·rw[aV]
   rcases bo.mp hq with hq |hq
   ·have:=hr.len q hq;simp;exact mx (by assumption)
   ·simp at hq;subst hq
    have:=hr.len _ hm
    simp at this ⊢;assumption
theorem Qz{ρ:Rho}{S S1 S2:Sto}{a b:ME}{r:Nat}{y:Nat}{kvs:List (_L.Key×U)}{u:U}(ha:a ρ S=some (.ref r,S1))(hb:b ρ S1=some (.int (y:Nat),S2))(hr:S2[r]? = some (Cell.dic kvs))(h:oB kvs (.inl (y:Int))=some u):m2 oIx a b ρ S=some (u,S2):=
 op2 ha hb (by simp only[oIx,fP,hr,keyOf,ag,h,aR])
theorem Np{ρ:Rho}{S:Sto}{o i e:ME}{r:Nat}{z:Int}{u:U}{kvs:List (_L.Key×U)}(he:e ρ S=some (u,S))(ho:o ρ S=some (.ref r,S))(hi:i ρ S=some (.int z,S))(hr:S[r]? = some (Cell.dic kvs))(hl:kvs.length<big):jH o i e ρ S=some (.nx,ρ,S.set r (.dic (AD kvs (.inl z) u))):=by
 simp only[jH,he,aE,ho,hi,hr,keyOf,ag,hl,if_true]
noncomputable def rm:MS:=bc (bI 6 (m2 oIx (m2 oIx (ab 0) (ab 4)) (ab 5))) (sIf (cOf (m2 o6 (ab 6) (ab 2))) (bc (jH (ab 2) (ab 6) (m2 da (m2 oIx (ab 2) (ab 4)) (fN (aa (ab 5) af)))) (du (mML cU (ab 3) (aa (ab 6) af)))) cP)
noncomputable def JR:MS:=bc (bI 4 (mML xq (ab 3) af)) (fH 5 (dD (ab 1)) rm)
noncomputable def B1:MS:=bc (bI 2 (uy (mC (.int 0)) (fN af))) (bc (bI 3 (dz (aa (mC (.int 0)) af))) (bc (q0 E8 JR) (bH (ab 2))))
noncomputable def spM:MS:=bH (mFn bT (aa (mFn eJ (aa (mFn (_G.run 2 7 B1) (aa (ab 0) (aa (ab 1) af))) af)) af))
theorem Cs{c:Option U}{h y:Nat}{p:Rds×List Nat}(hh:h<m)(hy:y<m)(hk:h∈kF p.1)(hr:Rd T ths p.1)(l1:p.1.length<1000)(l2:p.2.length<big):
  rm (spR m T v S [some (.int h),some (.int y),c]) (fD S p x)=some (.nx,spR m T v S [some (.int h),some (.int y),some (.int (T h y:Nat))],fD S (AA T h y p) x):=by
 have e6:m2 oIx (m2 oIx (ab 0) (ab 4)) (ab 5) (spR m T v S [some (.int h),some (.int y),c]) (fD S p x)=some (.int (T h y:Nat),fD S p x):=pD hy (ni hh (var_eq rfl) (var_eq rfl)) (var_eq rfl)
 refine(aP (bS e6)).trans ?_
 show sIf _ _ _ (spR m T v S [some (.int h),some (.int y),some (.int (T h y:Nat))]) (fD S p x)=_
 have ec:=IS (ρ:=spR m T v S [some (.int h),some (.int y),some (.int (T h y:Nat))]) (a:=ab 6) (b:=ab 2) (x:=T h y) (var_eq rfl) (var_eq rfl) (show(fD S p x)[S.length]? = _ from h0)
 rw[E4]at ec
 unfold AA
 by_cases hin:T h y∈kF p.1
 ·rw[if_pos hin]
  rw[decide_eq_true hin]at ec
  exact ip ec
 ·rw[if_neg hin]
  rw[decide_eq_false hin]at ec
  refine(qh ec).trans ?_
  have hrl:=hr.len _ (pf hk)
  have ea:m2 da (m2 oIx (ab 2) (ab 4)) (fN (aa (ab 5) af)) (spR m T v S [some (.int h),some (.int y),some (.int (T h y:Nat))]) (fD S p x)=some (.tup (aj (iI p.1 h++[y])),fD S p x):=yP (x:=iI p.1 h) (y:= [y]) (Qz (y:=h) (var_eq rfl) (var_eq rfl) (show(fD S p x)[S.length]? = _ from h0) (JW hk)) (Gw (var_eq rfl)) (by simp at hrl ⊢;exact ay (by assumption) (by assumption))
  have e1:=Np (o:=ab 2) (i:=ab 6) ea (var_eq rfl) (var_eq rfl) (show(fD S p x)[S.length]? = _ from h0) (by rw[CW];unfold big;exact ai (by assumption) (by decide))
  rw[NX hin,show(fD S p x).set S.length (.dic (eV (p.1++[(T h y,iI p.1 h++[y])])))=fD S (p.1++[(T h y,iI p.1 h++[y])],p.2) x from t0]at e1
  refine(aP e1).trans ?_
  have e2:=append_eq (ρ:=spR m T v S [some (.int h),some (.int y),some (.int (T h y:Nat))]) (o:=ab 3) (a:=ab 6) (var_eq rfl) (var_eq rfl) (show(fD S (p.1++[(T h y,iI p.1 h++[y])],p.2) x)[S.length+1]? = _ from h1) h1 (by rw[bU];exact l2)
  rw[show(fD S (p.1++[(T h y,iI p.1 h++[y])],p.2) x).set (S.length+1) _=S++[.dic (eV (p.1++[(T h y,iI p.1 h++[y])])),_]++x from t1]at e2
  rw[e2]
  simp[fD,aj]
theorem Hm{a b c:Option U}{h μ:Nat}{p:Rds×List Nat}(g:Grp m T)(hm:m<64)(hμ:μ<1000)(ht: ∀z∈ths,z<m)(hv:Wk S v ths)(n:Inn m T ths h 0 (cvR p) μ)(hr:Rd T ths p.1):
  ∃b' c' q,fH 5 (dD (ab 1)) rm (spR m T v S [some (.int h),b,c]) (fD S p x)=some (.nx,spR m T v S [some (.int h),b',c'],fD S q x)/\Inn m T ths h ths.length (cvR q) μ/\Rd T ths q.1:=by
 have hh:h<m:=n.d.lt h n.hk
 have stp: ∀(k:Nat) (u:U) (ρ:Rho) (S':Sto),(aj ths)[k]? = some u->(∃b c q,S'=fD S q x/\ρ=spR m T v S [some (.int h),b,c]/\Inn m T ths h k (cvR q) μ/\Rd T ths q.1) -> ∃ρ' S'',rm (ρ.set 5 (some u)) S'=some (.nx,ρ',S'') /\ ∃b c q,S''=fD S q x/\ρ'=spR m T v S [some (.int h),b,c]/\Inn m T ths h (k+1) (cvR q) μ/\Rd T ths q.1:=by
  rintro k u ρ S' hu ⟨b,c,q,rfl,rfl,q3,q4⟩
  obtain⟨y,hy,rfl⟩:=zu hu
  have l:=q3.st_le hμ hm
  have hym:=cY hy
  have l1:q.1.length<1000:=by have:=q3.d.len;simp only[cvR,kF,ak]at this;exact ay (by assumption) (ai (by assumption) (by decide))
  refine⟨_,_,Cs (S:=S) (x:=x) (v:=v) (c:=c) hh (ht y hym) q3.hk q4 l1 l.2,_,_,_,rfl,rfl,?_,Jz q4 q3.hk hym⟩
  rw[HE]
  exact q3.try g ht hy
 rcases hv with rfl | ⟨r,rfl,hr1,hl⟩
 ·obtain⟨ρ',S',e,b',c',q,rfl,rfl,q3,q4⟩:=EF (i:=5) (b:=rm) (e:=ab 1) (ρ:=spR m T (.tup (aj ths)) S [some (.int h),b,c]) (S:=fD S p x) (us:=aj ths) (var_eq rfl) _ ⟨b,c,p,rfl,rfl,n,hr⟩ stp
  rw[bU]at q3
  exact⟨b',c',q,e,q3,q4⟩
 ·have hrl:=(ah.mp hr1).1
  obtain⟨ρ',S',e,b',c',q,rfl,rfl,q3,q4⟩:=K1 (i:=5) (b:=rm) (e:=ab 1) (ρ:=spR m T (.ref r) S [some (.int h),b,c]) (S:=fD S p x) (us:=aj ths) (var_eq rfl) (by rw[bU];exact ai (by assumption) (by decide)) _ ⟨b,c,p,rfl,rfl,n,hr⟩
   (by
    rintro k ρ S' ⟨b,c,q,rfl,_⟩
    unfold getL fD
    rw[aW,aS hrl,hr1]) stp
  rw[bU]at q3
  exact⟨b',c',q,e,q3,q4⟩
theorem FD(g:Grp m T)(hm:m<64)(ht: ∀z∈ths,z<m)(hv:Wk S v ths): ∃ks S',_G.run 2 7 B1 [tab m T,v] S=some (.ref S.length,S')/\Ex S S'/\S'[S.length]? = some (.dic (eV ks))/\Dfs m T ths (kF ks) (λ_=>False)/\Rd T ths ks:=by
 have hp:=g.pos
 obtain⟨ρ',S1,e1,⟨r,ks,x,rfl,rfl,d,hr⟩⟩:=BV (c:=E8) (b:=JR) (λμ ρ S' =>∃a b c p x,ρ=spR m T v S [a,b,c]/\S'=fD S p x/\Av m T ths (kF p.1) p.2 μ/\μ<1000/\Rd T ths p.1)
  (λρ S' =>∃r ks x,ρ=spR m T v S r/\S'=fD S (ks,[]) x/\Dfs m T ths (kF ks) (λ_=>False)/\Rd T ths ks) (by
  rintro μ ρ S' ⟨a,b,c,p,x,rfl,rfl,s,hμ,hr⟩
  have ec:E8 (spR m T v S [a,b,c]) (fD S p x)=some (decide ((0:Int)<(aj p.2).length),fD S p x):=of_eq (AJ (Bx (var_eq rfl) h1) c_i)
  refine⟨_,_,ec,λhf =>?_,λhf =>?_⟩
  ·have h2:p.2 = []:=by
    have:=of_decide_eq_false hf
    rw[bU]at this
    exact eB.mp (by omega)
   refine⟨_,p.1,x,rfl,by rw[<- h2],?_,hr⟩
   have:=s.d
   rw[h2]at this
   exact⟨this.nd,this.lt,this.z,this.rc,λx hx=>(this.cl x hx).imp (by simp) id⟩
  ·have h2:p.2≠[]:=λe=>by rw[e]at hf;simp[aj]at hf
   obtain⟨st,h,e⟩:=tD h2
   obtain⟨ks,s2⟩:=p
   subst e
   cases μ with
   | zero=>have:=s.ms;simp at this
   | succ μ=>
   have e4:bI 4 (mML xq (ab 3) af) (spR m T v S [a,b,c]) (fD S (ks,st++[h]) x)=some (.nx,spR m T v S [some (.int h),b,c],fD S (ks,st) x):=by
    rw[bS (i:=4) (Jn (ρ:=spR m T v S [a,b,c]) (S:=fD S (ks,st++[h]) x) (o:=ab 3) (r:=S.length+1) (var_eq rfl) h1)]
    rw[show(fD S (ks,st++[h]) x).set (S.length+1) (Cell.lst (aj st))=fD S (ks,st) x from t1]
    rfl
   obtain⟨b',c',q,e5,i,hq⟩:=Hm (S:=S) (x:=x) (a:=a) (b:=b) (c:=c) (p:=(ks,st)) g hm (by exact ba (by assumption)) ht hv s.pop hr
   exact⟨_,_,μ,cM _,(aP e4).trans e5,_,_,_,q,x,rfl,rfl,i.done,by exact ba (by assumption),hq⟩) fuel (2*m) (spR m T v S [none,none,none]) (fD S ([(0,[])],[0]) []) (by unfold fuel;omega) ⟨_,_,_,([(0,[])],[0]),[],rfl,rfl,Av.start hp,by omega,⟨λp hp=>by simp at hp;subst hp;rfl,λp hp=>by simp at hp;subst hp;simp,λp hp=>by simp at hp;subst hp;simp⟩⟩
 refine⟨ks,_,bM (ρ:=spR m T v S r) rfl ?_,?_,(show(fD S (ks,[]) x)[S.length]? = _ from h0),d,hr⟩
 ·show B1 [some (tab m T),some v,none,none,none,none,none] S=_
  have ed:uy (mC (.int 0)) (fN af) [some (tab m T),some v,none,none,none,none,none] S=some (.ref S.length,S++[.dic (eV [(0,[])])]):=by
   simp[uy,mC,fN,af,aE,keyOf,eV,aj]
  refine(aP (bS ed)).trans ((aP (bS (FQ c_i))).trans ?_)
  refine(aP (ρ1:=spR m T v S r) (S1:=fD S (ks,[]) x) ?_).trans (bN (var_eq rfl))
  rw[<- e1]
  simp[q0,fD,spR,aj]
 ·unfold fD;rw[aW];exact⟨_,rfl⟩
theorem KO(g:Grp m T)(hm:m<64)(ht: ∀z∈ths,z<m)(hv:Wk S v ths): ∃ks S',_G.run 2 2 spM [tab m T,v] S=some (.tup (aj (srt ks)),S')/\Ex S S'/\Dfs m T ths ks λ_=>False:=by
 obtain⟨ks,S1,e1,x1,q1,d,_⟩:=FD (v:=v) g hm ht hv
 have hl:(kF ks).length<64:=ay d.len hm
 have e2:mFn eJ (aa (mFn (_G.run 2 7 B1) (aa (ab 0) (aa (ab 1) af))) af) [some (tab m T),some v] S=some (.ref S1.length,S1++[.lst (aj (srt (kF ks)))]):=gW (bZ (var_eq rfl) (var_eq rfl) e1) (vk (by simp only[uJ,fP,q1,uA]) hl)
 exact⟨kF ks,_,bM (ρ:= [some (tab m T),some v]) rfl (bN (eR e2)),x1.trans (Ex.push _ _),d⟩
theorem Po(g:Grp m T)(hm:m<64)(ht: ∀z∈ths,z<m): ∃ks S',_G.run 2 2 spM [tab m T,.tup (aj ths)] S=some (.tup (aj (srt ks)),S')/\Ex S S'/\Dfs m T ths ks λ_=>False:=KO g hm ht (.inl rfl)
end
end
end _W
end
section
namespace _W
open _L _G
section
theorem BZ{α β γ:Sort _}{f:α->β->γ}{a a':α}{b b':β}(h1:a=a')(h2:b=b'):f a b=f a' b':=by rw[h1,h2]
section
variable {m:Nat}{T:Nat->Nat->Nat}
abbrev Lt(m:Nat)(w:List Nat):Prop:= ∀x∈w,x<m
theorem Lt.app{a b:List Nat}(ha:Lt m a)(hb:Lt m b):Lt m (a++b):=λx hx=>(bo.mp hx).elim (ha x) (hb x)
theorem Lt.tk{a:List Nat}(ha:Lt m a)(k:Nat):Lt m (a.take k):=λx hx=>ha x (qQ hx)
theorem Lt.dr{a:List Nat}(ha:Lt m a)(k:Nat):Lt m (a.drop k):=λx hx=>ha x (Hd hx)
theorem nq(g:Grp m T){w:List Nat}(hw:Lt m w):dq T w<m:=IZ g.pos g.cl hw
theorem tq(g:Grp m T): ∀(w:List Nat) (x:Nat),x<m->Lt m w->w.foldl T x=T x (dq T w)
 | [],x,hx,_=>by show x=T x 0;rw[g.r0 x hx]
 | y::w,x,hx,h=>by
   have hy:y<m:=h y (by simp)
   have hw:Lt m w:=λz hz=>h z (aw _ hz)
   show w.foldl T (T x y)=T x (w.foldl T (T 0 y))
   rw[tq g w _ (g.cl x y hx hy) hw,g.l0 y hy,tq g w y hy hw,g.as x y _ hx hy (nq g hw)]
theorem uY(g:Grp m T){a b:List Nat}(ha:Lt m a)(hb:Lt m b):dq T (a++b)=T (dq T a) (dq T b):=by
 show(a++b).foldl T 0=_
 rw[jg]
 exact tq g b _ (nq g ha) hb
theorem q9(g:Grp m T){x:Nat}{w:List Nat}(hx:x<m)(hw:Lt m w):dq T (x::w)=T x (dq T w):=by
 show w.foldl T (T 0 x)=_
 rw[g.l0 x hx];exact tq g w x hx hw
theorem kM{w:List Nat}{x:Nat}:dq T (w++[x])=T (dq T w) x:=by unfold dq;rw[jg];rfl
theorem rV(g:Grp m T){x:Nat}(hx:x<m):unT m T x<m:=(lC g hx).1
theorem M8(g:Grp m T){x:Nat}(hx:x<m):T x (unT m T x)=0:=(lC g hx).2.1
theorem Lr(g:Grp m T){x:Nat}(hx:x<m):T (unT m T x) x=0:=(lC g hx).2.2.1
theorem yO(g:Grp m T){x y:Nat}(hx:x<m)(hy:y<m)(h:T x y=0):y=unT m T x:=(lC g hx).2.2.2 y hy h
theorem Cc(g:Grp m T){x:Nat}(hx:x<m):unT m T (unT m T x)=x:=(yO g (rV g hx) hx (Lr g hx)).symm
theorem F3(g:Grp m T){x y:Nat}(hx:x<m)(hy:y<m):unT m T (T x y)=T (unT m T y) (unT m T x):=by
 have h1:=rV g hx
 have h2:=rV g hy
 refine(yO g (g.cl _ _ hx hy) (g.cl _ _ h2 h1) ?_).symm
 rw[g.as x y _ hx hy (g.cl _ _ h2 h1),<- g.as y _ _ hy h2 h1,M8 g hy,g.l0 _ h1,M8 g hx]
theorem Es(g:Grp m T):unT m T 0=0:=(yO g g.pos g.pos (g.l0 0 g.pos)).symm
noncomputable def bk(m:Nat)(T:Nat->Nat->Nat)(w:List Nat):List Nat:=w.reverse.map (unT m T)
theorem OK(g:Grp m T){w:List Nat}(hw:Lt m w):Lt m (bk m T w):=λx hx=>by
 obtain⟨y,hy,rfl⟩:=aH.mp hx
 exact rV g (hw y (fo.mp hy))
theorem uj{w:List Nat}:(bk m T w).length=w.length:=by simp[bk]
theorem BC(g:Grp m T){w:List Nat}(hw:Lt m w):bk m T (bk m T w)=w:=by
 unfold bk
 rw[<- List.map_reverse,List.reverse_reverse,bF]
 have:w.map (unT m T∘unT m T)=w.map id:=aM λx hx=>Cc g (hw x hx)
 rw[this,mq]
theorem tK(g:Grp m T): ∀{w:List Nat},Lt m w->dq T (bk m T w)=unT m T (dq T w)
 | [],_=>(Es g).symm
 | x::w,h=>by
   have hx:x<m:=h x (by simp)
   have hw:Lt m w:=λz hz=>h z (aw _ hz)
   have e:bk m T (x::w)=bk m T w++[unT m T x]:=by simp[bk]
   rw[e,kM,tK g hw,q9 g hx hw,F3 g hx (nq g hw)]
theorem Fp(g:Grp m T){x:Nat}{w:List Nat}(hx:x<m)(hw:Lt m w):plc T (x::w)=0::(plc T w).map (T x):=by
 unfold plc
 rw[bg,DX,bE,bF,bF]
 refine BZ rfl (aM λk _ =>?_)
 show dq T (x::w.take k)=_
 exact q9 g hx (hw.tk k)
theorem mQ{w:List Nat}{x:Nat}:plc T (w++[x])=plc T w++[T (dq T w) x]:=by
 unfold plc
 rw[aV,bg,cg,fY,cj]
 refine BZ (aM λk hk =>?_) ?_
 ·have:=bp.mp hk
  rw[eh (by exact dy (by assumption))]
 ·show [dq T ((w++[x]).take (w.length+1))]=_
  rw[dR (by simp),kM]
theorem p6{w:List Nat}:(plc T w).length=w.length+1:=by simp[plc]
theorem qS(g:Grp m T){w:List Nat}(hw:Lt m w):Lt m (plc T w):=λx hx=>by
 obtain⟨k,_,rfl⟩:=aH.mp hx
 exact nq g (hw.tk k)
theorem A9(g:Grp m T): ∀{w:List Nat},Lt m w->plc T (bk m T w)=(plc T w).reverse.map (T (unT m T (dq T w)))
 | [],_=>by
   show [0] = [T (unT m T 0) 0]
   rw[Es g,g.l0 0 g.pos]
 | x::w,h=>by
   have hx:x<m:=h x (by simp)
   have hw:Lt m w:=λz hz=>h z (aw _ hz)
   have e:bk m T (x::w)=bk m T w++[unT m T x]:=by simp[bk]
   have hc:=nq g hw
   have hu:=rV g hc
   have hux:=rV g hx
   rw[e,mQ,A9 g hw,Fp g hx hw,tK g hw,q9 g hx hw,F3 g hx hc,vE,cj,<- List.map_reverse,bF]
   refine BZ (aM λy hy =>?_) ?_
   ·have hy:y<m:=qS g hw y (fo.mp hy)
    show _=T (T (unT m T (dq T w)) (unT m T x)) (T x y)
    rw[g.as _ _ _ hu hux (g.cl _ _ hx hy),<- g.as _ _ _ hux hx hy,Lr g hx,g.l0 y hy]
   ·show _ = [T (T (unT m T (dq T w)) (unT m T x)) 0]
    rw[g.r0 _ (g.cl _ _ hu hux)]
noncomputable def pre(T:Nat->Nat->Nat)(w:List Nat):List Nat:=(aB w.length).map λk=>dq T (w.take k)
theorem j2{w:List Nat}:plc T w=pre T w++[dq T w]:=by
 unfold plc pre
 rw[fY,cj]
 simp
theorem Bw{w:List Nat}:(pre T w).length=w.length:=by simp[pre]
theorem AV(g:Grp m T){w:List Nat}(hw:Lt m w):Lt m (pre T w):=λx hx=>qS g hw x (by rw[j2];exact bb _ hx)
theorem pre_app(g:Grp m T){a b:List Nat}(ha:Lt m a)(hb:Lt m b):pre T (a++b)=pre T a++(pre T b).map (T (dq T a)):=by
 unfold pre
 rw[aV,List.range_add,cj,bF,bF]
 refine BZ (aM λk hk =>?_) (aM λk hk =>?_)
 ·have:=bp.mp hk
  rw[eh (by exact ba (by assumption))]
 ·show dq T ((a++b).take (a.length+k))=T (dq T a) (dq T (b.take k))
  rw[List.take_append,dR (by omega),show a.length+k - a.length=k by omega]
  exact uY g ha (hb.tk k)
structure All(m:Nat)(l:List Nat):Prop where
 nd:l.Nodup
 lt:Lt m l
 len:l.length=m
theorem All.mem{l:List Nat}(h:All m l){x:Nat}(hx:x<m):x∈l:=by
 apply kB
 intro z
 have:=pw m (x::l) (eC.mpr ⟨z,h.nd⟩) (λy hy=>(aK.mp hy).elim (λe=>e▸hx) (h.lt y))
 have:=h.len
 simp at *
 omega
theorem All.perm{l:List Nat}(h:All m l):l.Perm (aB m):=
 (Ag h.nd om).mpr λx=>⟨λhx=>bp.mpr (h.lt x hx),λhx=>h.mem (bp.mp hx)⟩
theorem All.of{l:List Nat}(h:l.Perm (aB m)):All m l:=
 ⟨h.nodup_iff.mpr om,λx hx=>bp.mp (h.mem_iff.mp hx),by have:=h.length_eq;simpa using this⟩
theorem All.congr{a b:List Nat}(h:All m a)(p:b.Perm a):All m b:=All.of (p.trans h.perm)
theorem All.map{f:Nat->Nat}{l:List Nat}(h:All m l)(lt: ∀x,x<m->f x<m)(inj: ∀x y,x<m->y<m->f x=f y->x=y):All m (l.map f):=by
 refine⟨?_,λx hx =>?_,by simp[h.len]⟩
 ·rw[bL,cQ]
  exact jX (λha hb hab e=>hab (inj _ _ (h.lt _ ha) (h.lt _ hb) e)) (bL.mp h.nd)
 ·obtain⟨y,hy,rfl⟩:=aH.mp hx
  exact lt y (h.lt y hy)
theorem All.left(g:Grp m T){a:Nat}{l:List Nat}(ha:a<m)(h:All m l):All m (l.map (T a)):=
 h.map (λx hx=>g.cl a x ha hx) λx y hx hy e=>g.cancel ha hx hy e
theorem All.unmap{f:Nat->Nat}{l:List Nat}(h:All m (l.map f))(lt:Lt m l):All m l:=by
 refine⟨?_,lt,by have:=h.len;simpa using this⟩
 have:=h.nd
 rw[bL,cQ]at this
 rw[bL]
 exact this.imp λhn e=>hn (by rw[e])
abbrev Way(m:Nat)(T:Nat->Nat->Nat)(w:List Nat):Prop:=All m (plc T w)
structure Rnd(m:Nat)(T:Nat->Nat->Nat)(w:List Nat):Prop where
 home:dq T w=0
 all:All m (pre T w)
theorem Way.bk(g:Grp m T){w:List Nat}(hw:Lt m w)(h:Way m T w):Way m T (bk m T w):=by
 show All m (plc T (_W.bk m T w))
 rw[A9 g hw]
 exact All.left g (rV g (nq g hw)) (h.congr (List.reverse_perm _))
theorem Rnd.begun(g:Grp m T){a b:List Nat}(ha:Lt m a)(hb:Lt m b)(h:Rnd m T (a++b)):Rnd m T (b++a):=by
 have ca:=nq g ha
 have cb:=nq g hb
 have h0:=h.home
 rw[uY g ha hb]at h0
 have e:dq T b=unT m T (dq T a):=yO g ca cb h0
 refine⟨?_,?_⟩
 ·rw[uY g hb ha,e];exact Lr g ca
 ·have hl:Lt m (pre T (b++a)):=AV g (hb.app ha)
  refine All.unmap (f:=T (dq T a)) ?_ hl
  have h2:=h.all
  rw[pre_app g ha hb]at h2
  rw[pre_app g hb ha,cj,bF]
  have:(pre T a).map (T (dq T a)∘T (dq T b))=pre T a:=by
   have:(pre T a).map (T (dq T a)∘T (dq T b))=(pre T a).map id:=aM λx hx=>by
    have hx:=AV g ha x hx
    show T (dq T a) (T (dq T b) x)=x
    rw[<- g.as _ _ _ ca cb hx,h0,g.l0 x hx]
   rw[this,mq]
  rw[this]
  exact h2.congr List.perm_append_comm
theorem Rnd.bk(g:Grp m T){w:List Nat}(hw:Lt m w)(h:Rnd m T w):Rnd m T (bk m T w):=by
 refine⟨by rw[tK g hw,h.home,Es g],?_⟩
 have e:=A9 g hw
 rw[h.home,Es g]at e
 have e2:(plc T w).reverse.map (T 0)=(plc T w).reverse:=by
  have:(plc T w).reverse.map (T 0)=(plc T w).reverse.map id:=aM λx hx=>g.l0 x (qS g hw x (fo.mp hx))
  rw[this,mq]
 rw[e2,j2,j2,tK g hw,h.home,Es g,List.reverse_append]at e
 have hp:=h.all.perm
 cases q:pre T w with
 | nil=>have:=h.all.len;rw[q]at this;have:=g.pos;simp at *;omega
 | cons x l=>
   have hx:x=0:=by
    have hl:0<w.length:=by have:=Bw (T:=T) (w:=w);rw[q]at this;simp at this;omega
    have:(pre T w)[0]? = some 0:=by
     unfold pre
     rw[bO,List.getElem?_range hl];rfl
    rw[q]at this;simpa using this
   rw[q,hx]at e
   have e3:pre T (_W.bk m T w)++[0]=(0::l.reverse)++[0]:=by rw[e];simp
   have e4:pre T (_W.bk m T w)=0::l.reverse:=(List.append_inj_left' e3 rfl)
   rw[e4]
   have h2:=h.all
   rw[q,hx]at h2
   exact h2.congr ((List.reverse_perm l).cons 0)
theorem Rnd.way{w:List Nat}{x:Nat}(h:Rnd m T (w++[x])):Way m T w:=by
 have h2:=h.all
 show All m (plc T w)
 have:pre T (w++[x])=plc T w:=by
  unfold pre plc
  rw[aV,bg,cg]
  refine aM λk hk =>?_
  have:=bp.mp hk
  rw[eh (by exact dy (by assumption))]
 rwa[this]at h2
theorem Le{o p:Nat->Nat}(g:Grp m T)(h:Ord m o p){x y:Nat}(hx:x<m)(hy:y<m):dv T o p (p x) (p y)=p (T x y):=by unfold dv;rw[h.op x hx,h.op y hy]
theorem GJ{o p:Nat->Nat}(g:Grp m T)(h:Ord m o p):p 0=0:=by have:=h.po 0 g.pos;rwa[h.o0]at this
theorem tI{o p:Nat->Nat}(g:Grp m T)(h:Ord m o p): ∀(w:List Nat) (x:Nat),x<m->Lt m w->(w.map p).foldl (dv T o p) (p x)=p (w.foldl T x)
 | [],x,_,_=>rfl
 | y::w,x,hx,hw=>by
   have hy:y<m:=hw y (by simp)
   show(w.map p).foldl (dv T o p) (dv T o p (p x) (p y))=_
   rw[Le g h hx hy]
   exact tI g h w _ (g.cl x y hx hy) λz hz=>hw z (aw _ hz)
theorem EH{o p:Nat->Nat}(g:Grp m T)(h:Ord m o p){w:List Nat}(hw:Lt m w):plc (dv T o p) (w.map p)=(plc T w).map p:=by
 unfold plc
 rw[ak,bF]
 refine aM λk _ =>?_
 show((w.map p).take k).foldl (dv T o p) 0=p ((w.take k).foldl T 0)
 rw[<- s9]
 have:=tI g h (w.take k) 0 g.pos (hw.tk k)
 rwa[GJ g h]at this
theorem xR{o p:Nat->Nat}(h:Ord m o p){x y:Nat}(hx:x<m)(hy:y<m)(e:p x=p y):x=y:=by rw[<- h.op x hx,<- h.op y hy,e]
theorem Way.named{o p:Nat->Nat}(g:Grp m T)(h:Ord m o p){w:List Nat}(hw:Lt m w)(hy:Way m T w):Way m (dv T o p) (w.map p):=by
 show All m (plc (dv T o p) (w.map p))
 rw[EH g h hw]
 exact hy.map (λx hx=>h.pl x hx) λx y hx hy e=>xR h hx hy e
theorem FZ{st w:List Nat}(h: ∀x∈w,x∈st):Rch T st (dq T w):=by
 suffices ∀(w:List Nat) (x:Nat),(∀y∈w,y∈st)->Rch T st x->Rch T st (w.foldl T x) from this w 0 h .zero
 intro w
 induction w with
 | nil=>intro x _ r;exact r
 | cons y w ih=>intro x h r;exact ih _ (λz hz=>h z (aw _ hz)) (.step r (h y (by simp)))
theorem Way.rch{st w:List Nat}(h:Way m T w)(hs: ∀x∈w,x∈st){x:Nat}(hx:x<m):Rch T st x:=by
 obtain⟨k,_,rfl⟩:=aH.mp (All.mem h hx)
 exact FZ λy hy=>hs y (qQ hy)
structure Gd(T:Nat->Nat->Nat)(st:List Nat)(p:Nod):Prop where
 pl:p.2=plc T p.1
 nd:p.2.Nodup
 by': ∀x∈p.1,x∈st
theorem kH{w:List Nat}:bY (plc T w)=dq T w:=by rw[j2,iL]
theorem tu{st:List Nat}{L:Nod->List (List Nat)}: ∀(k:Nat) (p:Nod) (w:List Nat),Gd T st p->w∈ku T st L k p -> ∃q:Nod,Gd T st q/\q.1.length=p.1.length+k/\w∈L q
 | 0,p,w,h,e=>⟨p,h,rfl,e⟩
 | k+1,p,w,h,e=>by
   obtain⟨q,hq,e⟩:=xi.mp (show w∈(kids T st p).flatMap (ku T st L k) from e)
   obtain⟨s,hs,rfl⟩:=aH.mp hq
   obtain⟨hs1,hs2⟩:=bu.mp hs
   have hn:T (bY p.2) s∉p.2:=by simpa using hs2
   have hl:bY p.2=dq T p.1:=by rw[h.pl,kH]
   have gd:Gd T st (p.1++[s],p.2++[T (bY p.2) s]):=by
    refine⟨?_,?_,λx hx =>?_⟩
    ·show p.2++[T (bY p.2) s]=plc T (p.1++[s])
     rw[mQ,hl,<- h.pl]
    ·show(p.2++[T (bY p.2) s]).Nodup
     rw[eA]
     exact⟨h.nd,by simp,λa ha b hb=>by simp at hb;rintro rfl;exact hn (hb▸ha)⟩
    ·rcases bo.mp hx with hx |hx
     ·exact h.by' x hx
     ·simp at hx;rw[hx];exact hs1
   obtain⟨q,g1,g2,g3⟩:=tu k _ w gd e
   exact⟨q,g1,by rw[g2];simp;omega,g3⟩
theorem uo{st:List Nat}:Gd T st ([],[0]):=⟨rfl,by simp,by simp⟩
theorem Dt{st w:List Nat}(g:Grp m T)(hs:Lt m st)(h:w∈ku T st su (m - 1) ([],[0])):Way m T w/\(∀x∈w,x∈st)/\w.length=m - 1:=by
 obtain⟨q,g1,g2,g3⟩:=tu _ _ _ uo h
 have e:w=q.1:=by simpa [su]using g3
 subst e
 have hp:=g.pos
 have hl:q.1.length=m - 1:=by simpa using g2
 refine⟨⟨by rw[<- g1.pl];exact g1.nd,qS g λx hx=>hs x (g1.by' x hx),by rw[p6];omega⟩,g1.by',hl⟩
theorem yT{st w:List Nat}(g:Grp m T)(hs:Lt m st)(h:w∈ku T st (CU T st) (m - 1) ([],[0])):Rnd m T w/\(∀x∈w,x∈st)/\w.length=m:=by
 obtain⟨q,g1,g2,g3⟩:=tu _ _ _ uo h
 obtain⟨s,hs1,rfl⟩:=aH.mp g3
 obtain⟨hs1,hs2⟩:=bu.mp hs1
 have hl:bY q.2=dq T q.1:=by rw[g1.pl,kH]
 rw[hl]at hs2
 have hs2:=of_decide_eq_true hs2
 have hp:=g.pos
 have hlen:q.1.length=m - 1:=by simpa using g2
 have lt1:Lt m q.1:=λx hx=>hs x (g1.by' x hx)
 refine⟨⟨by rw[kM];exact hs2,?_⟩,λx hx =>?_,by simp;omega⟩
 ·have:pre T (q.1++[s])=plc T q.1:=by
   unfold pre plc
   rw[aV,bg,cg]
   refine aM λk hk =>?_
   have:=bp.mp hk
   rw[eh (by exact dy (by assumption))]
  rw[this]
  exact⟨by rw[<- g1.pl];exact g1.nd,qS g lt1,by rw[p6];omega⟩
 ·rcases bo.mp hx with hx |hx
  ·exact g1.by' x hx
  ·simp at hx;rw[hx];exact hs1
end
theorem xr{ρ:Rho}{S S1 S2:Sto}{a b:ME}{x y:Bool}(ha:a ρ S=some (.bl x,S1))(hb:x=true->b ρ S1=some (.bl y,S2))(hf:x=false->S2=S1):ig a b ρ S=some (.bl (x&&y),S2):=by
 cases x with
 | true=>simp only[ig,ha,aE,hb rfl,tj]
 | false=>simp only[ig,ha,aE,hf rfl,Bool.false_and]
theorem o5{ρ:Rho}{S S1 S2:Sto}{a b:ME}{x y:Bool}(ha:a ρ S=some (.bl x,S1))(hb:b ρ S1=some (.bl y,S2))(x1:Ex S S1)(x2:Ex S1 S2): ∃S',ig a b ρ S=some (.bl (x&&y),S')/\Ex S S':=by
 cases x with
 | true=>exact⟨S2,xr ha (λ_=>hb) (λz=>by cases z),x1.trans x2⟩
 | false=>exact⟨S1,xr (y:=y) ha (λz=>by cases z) (λ_=>rfl),x1⟩
theorem y9{α:Type}{f:α->Bool}: ∀l:List α,cH mJ (l.map λx=>U.bl (f x))=some (l.map f)
 | []=>rfl
 | x::l=>by
   show(mJ (U.bl (f x))).bind _=_
   simp only[mJ,ag]
   rw[y9 l]
   rfl
theorem EJ{α:Type}{ρ:Rho}{S S1:Sto}{a:ME}{r:Nat}{f:α->Bool}{l:List α}(ha:a ρ S=some (.ref r,S1))(hr:S1[r]? = some (.lst (l.map λx=>U.bl (f x)))):mFn vW (aa a af) ρ S=some (.bl (l.all f),S1):=by
 refine gW ha ?_
 simp only[vW,getL,hr,ag,y9,aR]
 congr 2
 simp[List.all_map,Function.comp_def]
theorem L0{ρ:Rho}{S S1 S2:Sto}{a b:ME}{x y:List Nat}(ha:a ρ S=some (.tup (aj x),S1))(hb:b ρ S1=some (.tup (aj y),S2)):m2 oEq a b ρ S=some (.bl (decide (x=y)),S2):=
 op2 ha hb (by simp only[oEq,Jh,aR])
theorem F5{ρ:Rho}{S S1:Sto}{a:ME}{l:List Nat}(ha:a ρ S=some (.tup (aj l),S1))(hl:l.length<64):mFn eJ (aa a af) ρ S=some (.ref S1.length,S1++[.lst (aj (srt l))]):=
 gW ha (vk (by simp only[uJ,fP,d0,ag,lJ]) hl)
theorem CA(m:Nat):srt (aB m)=aB m:=by
 have h:di (aB m)=qF (di (aB m)):=uB (List.Perm.refl _) (by
  unfold di
  rw[cQ]
  exact(DW (n:=m)).imp λh=>by omega)
 unfold srt
 rw[<- h];exact ph _
theorem BW{m:Nat}{l:List Nat}:decide (srt l=aB m)=true↔All m l:=by
 rw[decide_eq_true_iff]
 constructor
 ·intro h
  exact All.of ((jQ l).symm.trans (by rw[h]))
 ·intro h
  rw[rg h.perm,CA]
theorem Ee{l:List Nat}:srt (srt l)=srt l:=rg (jQ l)
section
variable {m:Nat}{T:Nat->Nat->Nat}{st w:List Nat}{S:Sto}
noncomputable def nbM:MS:=bH (ig (m1 (pC "int") (ab 0)) (ig (m1 AS (m1 (pC "bool") (ab 0))) (mCh oLe oLt (mC (.int 0)) (ab 0) (ab 1))))
theorem M4{x n:Nat}:_G.run 2 2 nbM [.int (x:Nat),.int (n:Nat)] S=some (.bl (decide (x<n)),S):=by
 refine bM (ρ:= [some (.int (x:Nat)),some (.int (n:Nat))]) rfl (bN ?_)
 have h1:m1 (pC "int") (ab 0) [some (.int (x:Nat)),some (.int (n:Nat))] S=some (.bl true,S):=rfl
 have h2:m1 AS (m1 (pC "bool") (ab 0)) [some (.int (x:Nat)),some (.int (n:Nat))] S=some (.bl true,S):=rfl
 have h3:mCh oLe oLt (mC (.int 0)) (ab 0) (ab 1) [some (.int (x:Nat)),some (.int (n:Nat))] S=some (.bl (decide (x<n)),S):=by
  have v0:ab 0 [some (.int (x:Nat)),some (.int (n:Nat))] S=some (.int (x:Nat),S):=rfl
  have v1:ab 1 [some (.int (x:Nat)),some (.int (n:Nat))] S=some (.int (n:Nat),S):=rfl
  have l:oLe (.int 0) (.int (x:Nat)) S=some (.bl true,S):=by
   show some (U.bl (decide ((0:Int)<=(x:Int))),S)=_
   rw[decide_eq_true (by exact vB _)]
  have l2:oLt (.int (x:Nat)) (.int (n:Nat)) S=some (.bl (decide (x<n)),S):=by
   show some (U.bl (decide ((x:Int)<(n:Int))),S)=_
   congr 2
   simp
  simp only[mCh,mC,aE,v0,l,v1,l2]
 exact xr h1 (λ_=>xr h2 (λ_=>h3) (λz=>by cases z)) (λz=>by cases z)
noncomputable def FR:MS:=bH (ig (m1 (pC "tuple") (ab 0)) (mFn vW (aa (cm (dD (ab 0)) cTT (mFn (_G.run 2 2 nbM) (aa (ab 2) (aa (ab 1) af)))) af)))
theorem qu{ρ:Rho}{S:Sto}{e a:ME}{l:List Nat}{f:Nat->U}(ha:a ρ S=some (.tup (aj l),S))(hl:l.length<10000000)(he: ∀x∈l,e (ρ++[some (.int x)]) S=some (f x,S)):cm (dD a) cTT e ρ S=some (.ref S.length,S++[.lst (l.map f)]):=by
 have h:=uR (t:=cTT) (e:=e) (ρ:=ρ) (S:=S) (a:=a) (l:=l) (p:=λ_=>true) (f:=f) ha (by unfold big;exact ai (by assumption) (by decide)) (λ_ _=>rfl) (λx hx _=>he x hx)
 rwa[kz.mpr (λ_ _=>rfl)]at h
theorem GD{n:Nat}(hl:w.length<10000000): ∃S',_G.run 2 2 FR [.tup (aj w),.int (n:Nat)] S=some (.bl (w.all λx=>decide (x<n)),S')/\Ex S S':=by
 have h1:m1 (pC "tuple") (ab 0) [some (.tup (aj w)),some (.int (n:Nat))] S=some (.bl true,S):=isT (var_eq rfl)
 have h2:=qu (e:=mFn (_G.run 2 2 nbM) (aa (ab 2) (aa (ab 1) af))) (ρ:= [some (.tup (aj w)),some (.int (n:Nat))]) (S:=S) (a:=ab 0) (l:=w) (f:=λx => .bl (decide (x<n))) (var_eq rfl) hl (λx _=>bZ (var_eq rfl) (var_eq rfl) M4)
 obtain⟨S',e,x⟩:=o5 h1 (EJ h2 (eP _ _)) (Ex.refl _) (Ex.push _ _)
 exact⟨S',bM (ρ:= [some (.tup (aj w)),some (.int (n:Nat))]) rfl (bN (e.trans (by rw[tj]))),x⟩
noncomputable def wbM:MS:=bH (ig (mFn (_G.run 2 2 FR) (aa (ab 2) (aa (mFn bJ (aa (ab 0) af)) af))) (mFn vW (aa (cm (dD (ab 2)) cTT (m2 oIn (ab 3) (ab 1))) af)))
theorem Qy{ρ:Rho}{S S1 S2:Sto}{a b:ME}{x:Nat}{l:List Nat}(ha:a ρ S=some (.int x,S1))(hb:b ρ S1=some (.tup (aj l),S2)):m2 oIn a b ρ S=some (.bl (decide (x∈l)),S2):=
 op2 ha hb (by simp only[oIn,fP,ft,ag,d0,rD,aR,BQ])
theorem Kc(hl:w.length<10000000)(hw:Lt m w): ∃S',_G.run 3 3 wbM [tab m T,.tup (aj st),.tup (aj w)] S=some (.bl (w.all λx=>decide (x∈st)),S')/\Ex S S':=by
 obtain⟨S1,e1,x1⟩:=GD (S:=S) (n:=m) hl
 have ht:(w.all λx=>decide (x<m))=true:=bP.mpr λx hx=>decide_eq_true (hw x hx)
 rw[ht]at e1
 have h1:mFn (_G.run 2 2 FR) (aa (ab 2) (aa (mFn bJ (aa (ab 0) af)) af)) [some (tab m T),some (.tup (aj st)),some (.tup (aj w))] S=some (.bl true,S1):=bZ (var_eq rfl) (len_tab (var_eq rfl)) e1
 have h2:=qu (e:=m2 oIn (ab 3) (ab 1)) (ρ:= [some (tab m T),some (.tup (aj st)),some (.tup (aj w))]) (S:=S1) (a:=ab 2) (l:=w) (f:=λx => .bl (decide (x∈st))) (var_eq rfl) hl (λx _=>Qy (var_eq rfl) (var_eq rfl))
 obtain⟨S',e,x⟩:=o5 h1 (EJ h2 (eP _ _)) x1 (Ex.push _ _)
 exact⟨S',bM (ρ:= [some (tab m T),some (.tup (aj st)),some (.tup (aj w))]) rfl (bN (e.trans (by rw[tj]))),x⟩
noncomputable def GL:MS:=bH (m2 oEq (mFn bT (aa (mFn eJ (aa (ab 1) af)) af)) (mFn (_G.run 1 1 atM) (aa (ab 0) af)))
theorem GG{l:List Nat}(hm:m<1000)(hl:l.length<64): ∃S',_G.run 2 2 GL [tab m T,.tup (aj l)] S=some (.bl (decide (srt l=aB m)),S')/\Ex S S':=
 ⟨_,bM (ρ:= [some (tab m T),some (.tup (aj l))]) rfl (bN (L0 (eR (F5 (var_eq rfl) hl)) (gW (var_eq rfl) (Pd hm)))),Ex.push _ _⟩
noncomputable def plM:MS:=bc (bI 2 (dz (aa (mC (.int 0)) af))) (bc (fH 3 (dD (ab 1)) (du (mML cU (ab 2) (aa (m2 oIx (m2 oIx (ab 0) (m2 oIx (ab 2) (m1 jn (mC (.int 1))))) (ab 3)) af)))) (bH (mFn bT (aa (ab 2) af))))
theorem EU(g:Grp m T)(hw:Lt m w)(hl:w.length<10000000): ∃S',_G.run 2 4 plM [tab m T,.tup (aj w)] S=some (.tup (aj (plc T w)),S')/\Ex S S':=by
 have hone:dz (aa (mC (.int 0)) af) [some (tab m T),some (.tup (aj w)),none,none] S=some (.ref S.length,S++[Cell.lst [.int 0]]):=FQ rfl
 obtain⟨ρ1,S1,e1,⟨x,rfl⟩,q1,q2⟩:=EF (i:=3) (b:=du (mML cU (ab 2) (aa (m2 oIx (m2 oIx (ab 0) (m2 oIx (ab 2) (m1 jn (mC (.int 1))))) (ab 3)) af))) (e:=ab 1)
  (ρ:= [some (tab m T),some (.tup (aj w)),some (.ref S.length),none]) (S:=S++[Cell.lst [.int 0]]) (S1:=S++[Cell.lst [.int 0]]) (us:=aj w) (var_eq rfl)
  (λk ρ S'=>(∃x,ρ = [some (tab m T),some (.tup (aj w)),some (.ref S.length),x])/\Ex S S'/\S'[S.length]? = some (Cell.lst (aj ((aB (k+1)).map λi=>dq T (w.take i)))))
  ⟨⟨none,rfl⟩,Ex.push _ _,by rw[eP];simp[aj,dq]⟩
  (by
   rintro k u ρ S' hu ⟨⟨x,rfl⟩,q1,q2⟩
   obtain⟨y,hy,rfl⟩:=zu hu
   have hym:y<m:=hw y (cY hy)
   have hpm:dq T (w.take k)<m:=nq g (hw.tk k)
   have hlast:atI (aj ((aB (k+1)).map λi=>dq T (w.take i))) (-1)=some (.int (dq T (w.take k))):=by
    unfold aj
    rw[bF]
    exact E6
   have ev:m2 oIx (m2 oIx (ab 0) (m2 oIx (ab 2) (m1 jn (mC (.int 1))))) (ab 3) [some (tab m T),some (.tup (aj w)),some (.ref S.length),some (.int y)] S'=some (.int (T (dq T (w.take k)) y),S'):=
    pD hym (ni hpm (var_eq rfl) (HF (var_eq rfl) OB q2 hlast)) (var_eq rfl)
   have hkl:k<w.length:=(ah.mp hy).1
   refine⟨_,_,append_eq (var_eq rfl) ev q2 q2 (by simp[aj];unfold big;exact ay (by assumption) (ai (by assumption) (by decide))),⟨_,rfl⟩,q1.set (aq _),?_⟩
   rw[aZ (ah.mp q2).1]
   rw[fY (n:=k+1),cj]
   simp[aj,DM hy])
 rw[bU]at q2
 refine⟨S1,bM (ρ:= [some (tab m T),some (.tup (aj w)),some (.ref S.length),x]) rfl ?_,q1⟩
 show plM [some (tab m T),some (.tup (aj w)),none,none] S=_
 exact(aP (bS hone)).trans ((aP e1).trans (bN (kN (var_eq rfl) q2)))
noncomputable def gtM:MS:=bH (ig (mFn (_G.run 2 2 FR) (aa (ab 1) (aa (mFn bJ (aa (ab 0) af)) af))) (mFn (_G.run 2 2 GL) (aa (ab 0) (aa (mFn (_G.run 2 4 plM) (aa (ab 0) (aa (ab 1) af))) af))))
theorem P3(g:Grp m T)(hm:m<1000)(hw:Lt m w)(hl:w.length<63): ∃S',_G.run 2 2 gtM [tab m T,.tup (aj w)] S=some (.bl (decide (srt (plc T w)=aB m)),S')/\Ex S S':=by
 obtain⟨S1,e1,x1⟩:=GD (S:=S) (n:=m) (w:=w) (by exact ai (by assumption) (by decide))
 have ht:(w.all λx=>decide (x<m))=true:=bP.mpr λx hx=>decide_eq_true (hw x hx)
 rw[ht]at e1
 obtain⟨S2,e2,x2⟩:=EU (S:=S1) g hw (by exact ai (by assumption) (by decide))
 obtain⟨S3,e3,x3⟩:=GG (T:=T) (S:=S2) (l:=plc T w) hm (by rw[p6];exact ay (by assumption) (by decide))
 obtain⟨S',e,x⟩:=o5 (ρ:= [some (tab m T),some (.tup (aj w))]) (a:=mFn (_G.run 2 2 FR) (aa (ab 1) (aa (mFn bJ (aa (ab 0) af)) af))) (b:=mFn (_G.run 2 2 GL) (aa (ab 0) (aa (mFn (_G.run 2 4 plM) (aa (ab 0) (aa (ab 1) af))) af))) (bZ (var_eq rfl) (len_tab (var_eq rfl)) e1) (bZ (var_eq rfl) (bZ (var_eq rfl) (var_eq rfl) e2) e3) x1 (x2.trans x3)
 exact⟨S',bM (ρ:= [some (tab m T),some (.tup (aj w))]) rfl (bN (e.trans (by rw[tj]))),x⟩
noncomputable def iwM:MS:=bH (ig (mFn (_G.run 3 3 wbM) (aa (ab 0) (aa (ab 1) (aa (ab 2) af)))) (mFn (_G.run 2 2 gtM) (aa (ab 0) (aa (ab 2) af))))
theorem MR(g:Grp m T)(hm:m<1000)(hw:Lt m w)(hl:w.length<63): ∃S',_G.run 3 3 iwM [tab m T,.tup (aj st),.tup (aj w)] S=some (.bl ((w.all λx=>decide (x∈st))&&decide (srt (plc T w)=aB m)),S')/\Ex S S':=by
 obtain⟨S1,e1,x1⟩:=Kc (S:=S) (T:=T) (st:=st) (by exact ai (by assumption) (by decide)) hw
 obtain⟨S2,e2,x2⟩:=P3 (S:=S1) g hm hw hl
 obtain⟨S',e,x⟩:=o5 (ρ:= [some (tab m T),some (.tup (aj st)),some (.tup (aj w))]) (a:=mFn (_G.run 3 3 wbM) (aa (ab 0) (aa (ab 1) (aa (ab 2) af)))) (b:=mFn (_G.run 2 2 gtM) (aa (ab 0) (aa (ab 2) af))) (mD (var_eq rfl) (var_eq rfl) (var_eq rfl) e1) (bZ (var_eq rfl) (var_eq rfl) e2) x1 x2
 exact⟨S',bM (ρ:= [some (tab m T),some (.tup (aj st)),some (.tup (aj w))]) rfl (bN e),x⟩
theorem Qw(g:Grp m T)(hm:m<1000)(hw:Lt m w)(hl:w.length<63)(hs: ∀x∈w,x∈st)(h:Way m T w): ∃S',_G.run 3 3 iwM [tab m T,.tup (aj st),.tup (aj w)] S=some (.bl true,S')/\Ex S S':=by
 obtain⟨S',e,x⟩:=MR (S:=S) (st:=st) g hm hw hl
 refine⟨S',?_,x⟩
 rw[e,BW.mpr h,bP.mpr λx hx=>decide_eq_true (hs x hx)]
 rfl
theorem EY(hne:True):atI (aj (plc T w)) (-1)=some (.int (dq T w:Nat)):=by
 have:=JD (th:=plc T w) (by rw[j2];simp)
 rw[kH]at this
 exact this
theorem FB{α:Type}{xs:List α}{y:α}:cut (xs++[y]) none (some (-1))=xs:=by
 unfold cut
 have h1:HT.sIx (xs++[y]).length 0 none=0:=rfl
 have h2:HT.sIx (xs++[y]).length (xs++[y]).length (some (-1))=xs.length:=by
  unfold HT.sIx
  simp
  omega
 rw[h1,h2]
 simp
theorem Cg{ρ:Rho}{S S1:Sto}{a:ME}{l:List Nat}{x:Nat}(ha:a ρ S=some (.tup (aj (l++[x])),S1)):mSl a none (some (m1 jn (mC (.int 1)))) ρ S=some (.tup (aj l),S1):=by
 have e:aj (l++[x])=aj l++[.int x]:=by simp[aj]
 rw[e]at ha
 have n1:m1 jn (mC (.int 1)) ρ S1=some (.int (-1),S1):=rfl
 simp only[mSl,ha,aE,wH,n1,FB]
noncomputable def crM:MS:=bc (bI 2 (mFn (_G.run 2 4 plM) (aa (ab 0) (aa (ab 1) af)))) (bH (ig (m2 oEq (m2 oIx (ab 2) (m1 jn (mC (.int 1)))) (mC (.int 0))) (mFn (_G.run 2 2 GL) (aa (ab 0) (aa (mSl (ab 2) none (some (m1 jn (mC (.int 1))))) af)))))
theorem NN(g:Grp m T)(hm:m<1000)(hw:Lt m w)(hl:w.length<63): ∃S',_G.run 2 3 crM [tab m T,.tup (aj w)] S=some (.bl (decide (dq T w=0)&&decide (srt (pre T w)=aB m)),S')/\Ex S S':=by
 obtain⟨S1,e1,x1⟩:=EU (S:=S) g hw (by exact ai (by assumption) (by decide))
 obtain⟨S2,e2,x2⟩:=GG (T:=T) (S:=S1) (l:=pre T w) hm (by rw[Bw];exact ai (by assumption) (by decide))
 have h1:m2 oEq (m2 oIx (ab 2) (m1 jn (mC (.int 1)))) (mC (.int 0)) [some (tab m T),some (.tup (aj w)),some (.tup (aj (plc T w)))] S1=some (.bl (decide (dq T w=0)),S1):=yt (y:=0) (CL (var_eq rfl) OB (EY trivial)) c_i
 have h2:mFn (_G.run 2 2 GL) (aa (ab 0) (aa (mSl (ab 2) none (some (m1 jn (mC (.int 1))))) af)) [some (tab m T),some (.tup (aj w)),some (.tup (aj (plc T w)))] S1=some (.bl (decide (srt (pre T w)=aB m)),S2):=bZ (var_eq rfl) (Cg (l:=pre T w) (x:=dq T w) (by rw[<- j2];exact var_eq rfl)) e2
 obtain⟨S',e,x⟩:=o5 h1 h2 (Ex.refl _) x2
 refine⟨S',bM (ρ:= [some (tab m T),some (.tup (aj w)),some (.tup (aj (plc T w)))]) rfl ?_,x1.trans x⟩
 show crM [some (tab m T),some (.tup (aj w)),none] S=_
 exact(aP (bS (bZ (var_eq rfl) (var_eq rfl) e1))).trans (bN e)
noncomputable def irM:MS:=bH (ig (mFn (_G.run 3 3 wbM) (aa (ab 0) (aa (ab 1) (aa (ab 2) af)))) (ig (m2 oGe (mFn bJ (aa (ab 2) af)) (mC (.int 2))) (mFn (_G.run 2 3 crM) (aa (ab 0) (aa (ab 2) af)))))
theorem M0(g:Grp m T)(hm:m<1000)(hw:Lt m w)(hl:w.length<63): ∃S',_G.run 3 3 irM [tab m T,.tup (aj st),.tup (aj w)] S=some (.bl ((w.all λx=>decide (x∈st))&&(decide (2<=w.length)&&(decide (dq T w=0)&&decide (srt (pre T w)=aB m)))),S')/\Ex S S':=by
 obtain⟨S1,e1,x1⟩:=Kc (S:=S) (T:=T) (st:=st) (by exact ai (by assumption) (by decide)) hw
 have h2:m2 oGe (mFn bJ (aa (ab 2) af)) (mC (.int 2)) [some (tab m T),some (.tup (aj st)),some (.tup (aj w))] S1=some (.bl (decide (2<=w.length)),S1):=by
  have:=N3 (ρ:= [some (tab m T),some (.tup (aj st)),some (.tup (aj w))]) (S:=S1) (a:=mFn bJ (aa (ab 2) af)) (b:=mC (.int 2)) (nv (var_eq rfl)) c_i
  rw[this,bU]
  congr 2
  simp
  omega
 obtain⟨S2,e2,x2⟩:=NN (S:=S1) g hm hw hl
 obtain⟨S3,e3,x3⟩:=o5 (ρ:= [some (tab m T),some (.tup (aj st)),some (.tup (aj w))]) (b:=mFn (_G.run 2 3 crM) (aa (ab 0) (aa (ab 2) af))) h2 (bZ (var_eq rfl) (var_eq rfl) e2) (Ex.refl _) x2
 obtain⟨S',e,x⟩:=o5 (ρ:= [some (tab m T),some (.tup (aj st)),some (.tup (aj w))]) (a:=mFn (_G.run 3 3 wbM) (aa (ab 0) (aa (ab 1) (aa (ab 2) af)))) (mD (var_eq rfl) (var_eq rfl) (var_eq rfl) e1) e3 x1 x3
 exact⟨S',bM (ρ:= [some (tab m T),some (.tup (aj st)),some (.tup (aj w))]) rfl (bN e),x⟩
theorem Ql(g:Grp m T)(hm:m<1000)(hw:Lt m w)(hl:w.length<63)(h2:2<=w.length)(hs: ∀x∈w,x∈st)(h:Rnd m T w): ∃S',_G.run 3 3 irM [tab m T,.tup (aj st),.tup (aj w)] S=some (.bl true,S')/\Ex S S':=by
 obtain⟨S',e,x⟩:=M0 (S:=S) (st:=st) g hm hw hl
 refine⟨S',?_,x⟩
 rw[e,BW.mpr h.all,bP.mpr λx hx=>decide_eq_true (hs x hx),decide_eq_true h2,decide_eq_true h.home]
 rfl
noncomputable def usM:MS:=bH (mFn bT (aa (mFn eJ (aa (cm (dD (ab 1)) cTT (mFn (_G.run 2 2 unM) (aa (ab 0) (aa (ab 2) af)))) af)) af))
theorem Oe(g:Grp m T)(hs:Lt m st)(hl:st.length<64): ∃S',_G.run 2 2 usM [tab m T,.tup (aj st)] S=some (.tup (aj (srt (st.map (unT m T)))),S')/\Ex S S':=by
 have h:=qu (e:=mFn (_G.run 2 2 unM) (aa (ab 0) (aa (ab 2) af))) (ρ:= [some (tab m T),some (.tup (aj st))]) (S:=S) (a:=ab 1) (l:=st) (f:=λx => .int (unT m T x:Nat)) (var_eq rfl) (by exact ai (by assumption) (by decide)) (λx hx=>bZ (var_eq rfl) (var_eq rfl) (o4 g (hs x hx)))
 rw[show(st.map λx=>U.int (unT m T x:Nat))=aj (st.map (unT m T)) by simp[aj]]at h
 exact⟨_,bM (ρ:= [some (tab m T),some (.tup (aj st))]) rfl (bN (eR (tY h (eP _ _) (by rw[ak];exact hl)))),(Ex.push _ _).trans (Ex.push _ _)⟩
noncomputable def bkM:MS:=bH (mFn bT (aa (cm (zk (aa (ab 1) af)) cTT (mFn (_G.run 2 2 unM) (aa (ab 0) (aa (ab 2) af)))) af))
theorem O7(g:Grp m T)(hw:Lt m w)(hl:w.length<10000000): ∃S',_G.run 2 2 bkM [tab m T,.tup (aj w)] S=some (.tup (aj (bk m T w)),S')/\Ex S S':=by
 have hi:zk (aa (ab 1) af) [some (tab m T),some (.tup (aj w))] S=some (.imm (aj w.reverse),S):=by
  have v:ab 1 [some (tab m T),some (.tup (aj w))] S=some (.tup (aj w),S):=rfl
  simp only[zk,aa,af,v,aE]
  simp[aj]
 have h1: ∀u∈aj w.reverse,mFn (_G.run 2 2 unM) (aa (ab 0) (aa (ab 2) af)) ([some (tab m T),some (.tup (aj w))]++[some u]) S=some ((λu=>match u with | .int i => .int (unT m T i.toNat:Nat) |_ => .non) u,S):=λu hu=>by
  obtain⟨x,hx,rfl⟩:=aH.mp hu
  have hx:=hw x (fo.mp hx)
  have:=bZ (f:=_G.run 2 2 unM) (ρ:= [some (tab m T),some (.tup (aj w)),some (.int x)]) (S:=S) (a:=ab 0) (b:=ab 2) (var_eq rfl) (var_eq rfl) (o4 g hx)
  simpa using this
 have h2:=lh (t:=cTT) (e:=mFn (_G.run 2 2 unM) (aa (ab 0) (aa (ab 2) af))) (ρ:= [some (tab m T),some (.tup (aj w))]) (S:=S) (p:=λ_=>true) (f:=λu=>match u with | .int i => .int (unT m T i.toNat:Nat) |_ => .non) (aj w.reverse) [] (λ_ _=>rfl) (λu hu _=>h1 u hu)
 rw[kz.mpr (λ_ _=>rfl),dW]at h2
 have h3:(aj w.reverse).map (λu=>match u with | .int i=>U.int (unT m T i.toNat:Nat) |_ => .non)=aj (bk m T w):=by
  unfold aj bk
  rw[bF,bF]
  apply aM
  intro x _
  simp
 rw[h3]at h2
 exact⟨_,bM (ρ:= [some (tab m T),some (.tup (aj w))]) rfl (bN (eR (nO hi h2 (by rw[bU,uj];unfold big;exact ai (by assumption) (by decide))))),Ex.push _ _⟩
noncomputable def baM:MS:=bH (m2 da (mSl (ab 0) (some (ab 1)) none) (mSl (ab 0) none (some (ab 1))))
theorem FX{α:Type}{xs:List α}{k:Nat}(h:k<=xs.length):cut xs (some (k:Int)) none=xs.drop k:=by
 have h1:HT.sIx xs.length 0 (some (k:Int))=min k xs.length:=HT.sIx_nat _ _ k
 have h2:HT.sIx xs.length xs.length none=xs.length:=rfl
 unfold cut
 rw[h1,h2,pO h,dR (by rw[hJ];exact aq _)]
theorem Pr{k:Nat}(hk:k<=w.length)(hl:w.length<500):_G.run 2 2 baM [.tup (aj w),.int (k:Nat)] S=some (.tup (aj (w.drop k++w.take k)),S):=by
 refine bM (ρ:= [some (.tup (aj w)),some (.int (k:Nat))]) rfl (bN ?_)
 have v0:ab 0 [some (.tup (aj w)),some (.int (k:Nat))] S=some (.tup (aj w),S):=rfl
 have v1:ab 1 [some (.tup (aj w)),some (.int (k:Nat))] S=some (.int (k:Nat),S):=rfl
 have e1:mSl (ab 0) (some (ab 1)) none [some (.tup (aj w)),some (.int (k:Nat))] S=some (.tup (aj (w.drop k)),S):=by
  simp only[mSl,v0,aE,wH,v1,FX (xs:=aj w) (k:=k) (by rw[bU];exact hk)]
  simp[aj,List.map_drop]
 have e2:mSl (ab 0) none (some (ab 1)) [some (.tup (aj w)),some (.int (k:Nat))] S=some (.tup (aj (w.take k)),S):=by
  simp only[mSl,v0,aE,wH,v1,L9]
  simp[aj,s9]
 exact yP e1 e2 (by rw[hJ,hC];omega)
end
noncomputable def tabS(S:Sto)(n:Nat)(T:Nat->Nat->Nat)(k:Nat):Sto:=S++[Cell.lst ((aB k).map (kl n T))]++(aB k).map λi=>Cell.lst ((aB n).map λj=>U.int (T i j))
theorem Ct{S:Sto}{n k:Nat}{T:Nat->Nat->Nat}:((tabS S n T k)++[Cell.lst ((aB n).map λj=>U.int (T k j))]).set S.length (Cell.lst ((aB k).map (kl n T)++[kl n T k]))=tabS S n T (k+1):=by
 unfold tabS
 rw[aW,aW,gf _ _ (aq _),GZ]
 simp[fY]
noncomputable def tbM(g:bf)(φ:MF):MS:=bc (bI 2 (dz af)) (bc (fH 3 (iR1 (aa (ab 0) af)) (du (mML cU (ab 2) (aa (mFn bT (aa (cm (iR1 (aa (ab 0) af)) cTT (sD 1 g φ (aa (ab 3) (aa (ab 4) af)))) af)) af)))) (bH (mFn bT (aa (ab 2) af))))
theorem Eg{n:Nat}{T:Nat->Nat->Nat}{S:Sto}{φ:MF}(hn:n<big)(hφ: ∀i j (S:Sto),i<n->j<n->φ [.int (i:Nat),.int (j:Nat)] S=some (.int (T i j:Nat),S))(g:bf):
  _G.run 2 4 (tbM g φ) [.int (n:Nat),.obj g] S=some (tab n T,tabS S n T n):=by
 have cell: ∀k,(tabS S n T k)[S.length]? = some (Cell.lst ((aB k).map (kl n T))):=λk=>by
  unfold tabS
  rw[aW,az (aq _)];simp
 obtain⟨ρ1,S1,e1,⟨x,rfl⟩,rfl⟩:=nZ (i:=3) (a:=ab 0) (n:=n) (b:=du (mML cU (ab 2) (aa (mFn bT (aa (cm (iR1 (aa (ab 0) af)) cTT (sD 1 g φ (aa (ab 3) (aa (ab 4) af)))) af)) af)))
  (ρ:= [some (.int n),some (.obj g),some (.ref S.length),none]) (S:=tabS S n T 0) (var_eq rfl) hn
  (λk ρ S'=>(∃x,ρ = [some (.int n),some (.obj g),some (.ref S.length),x])/\S'=tabS S n T k) ⟨⟨none,rfl⟩,rfl⟩ (by
   rintro k ρ S' hk ⟨⟨x,rfl⟩,rfl⟩
   obtain⟨S2,e2,h2⟩:=Fb (ρ:= [some (.int n),some (.obj g),some (.ref S.length),some (.int k)]) (S:=tabS S n T k) (S0:=tabS S n T k) (a:=ab 0) (e:=sD 1 g φ (aa (ab 3) (aa (ab 4) af))) (n:=n) (var_eq rfl) hn (λj => .int (T k j)) (λ_ S''=>S''=tabS S n T k) rfl (by
    rintro j S'' hj rfl
    refine⟨_,?_,rfl⟩
    show(if g=g then mFn φ (aa (ab 3) (aa (ab 4) af)) _ _ else none)=_
    rw[if_pos rfl]
    exact bZ (var_eq rfl) (var_eq rfl) (hφ k j _ hk hj))
   subst h2
   have hl:((aB k).map (kl n T)).length<big:=by rw[ak,bB];exact cR (by assumption) (by assumption)
   have e3:=append_eq (ρ:= [some (.int n),some (.obj g),some (.ref S.length),some (.int k)]) (o:=ab 2) (r:=S.length) (row:=(aB k).map (kl n T)) (var_eq rfl) e2 (cell k) ((Ex.push _ _).some (cell k)) hl
   rw[show Al n (λj=>U.int (T k j))=kl n T k from rfl,Ct]at e3
   exact⟨_,_,e3,⟨_,rfl⟩,rfl⟩)
 have e0:dz af [some (.int n),some (.obj g),none,none] S=some (.ref S.length,tabS S n T 0):=lD.trans (by simp[tabS])
 have e2:mFn bT (aa (ab 2) af) [some (.int n),some (.obj g),some (.ref S.length),x] (tabS S n T n)=some (tab n T,tabS S n T n):=kN (var_eq rfl) (cell n)
 exact bM (ρ:= [some (.int n),some (.obj g),some (.ref S.length),x]) rfl (show tbM g φ [some (.int n),some (.obj g),none,none] S=_ from(aP (bS e0)).trans ((aP e1).trans (bN e2)))
theorem Hj{S:Sto}{n k:Nat}{T:Nat->Nat->Nat}:Ex S (tabS S n T k):=⟨_,by unfold tabS;rw[aW]⟩
noncomputable def nmM:MS:=bH (o9 (λg φ=>_G.run 2 4 (tbM g φ)) 2 [0,1] (mMT eO (ab 3) (aa (m2 oIx (m2 oIx (ab 2) (m2 oIx (ab 3) (ab 0))) (m2 oIx (ab 3) (ab 1))) af)) (mFn bJ (aa (ab 0) af)))
theorem MY{m:Nat}{T:Nat->Nat->Nat}{l:List Nat}{S:Sto}(hm:m<big)(g: ∀i j,i<m->j<m->T i j<m)(ho:ox m l): ∃S',_G.run 2 2 nmM [tab m T,.tup (aj l)] S=some (tab m (dv T (oF l) (pF l)),S')/\Ex S S':=by
 have hlen:=ho.len
 refine⟨tabS S m (dv T (oF l) (pF l)) m,bM (ρ:= [some (tab m T),some (.tup (aj l))]) rfl (show nmM [some (tab m T),some (.tup (aj l))] S=_ from bN ?_),Hj⟩
 refine GA (cs:= [tab m T,.tup (aj l)]) (len_tab (var_eq rfl)) rfl λf=>Eg hm (λi j S' hi hj =>?_) f
 have gi:atI (aj l) (i:Int)=some (.int (oF l i)):=xQ (by unfold aj;rw[bO,ho.get hi];rfl)
 have gj:atI (aj l) (j:Int)=some (.int (oF l j)):=xQ (by unfold aj;rw[bO,ho.get hj];rfl)
 show mMT eO (ab 3) (aa (m2 oIx (m2 oIx (ab 2) (m2 oIx (ab 3) (ab 0))) (m2 oIx (ab 3) (ab 1))) af) [some (.int (i:Nat)),some (.int (j:Nat)),some (tab m T),some (.tup (aj l))] S'=_
 exact qw (var_eq rfl) (pD (ho.ord.ol j hj) (ni (ho.ord.ol i hi) (var_eq rfl) (CL (var_eq rfl) (var_eq rfl) gi)) (CL (var_eq rfl) (var_eq rfl) gj)) (ho.mem.mpr (g _ _ (ho.ord.ol i hi) (ho.ord.ol j hj)))
end
end _W
end
section
namespace _W
open _L _G
section
section
variable {m:Nat}{T:Nat->Nat->Nat}
structure Sn(m:Nat)(T:Nat->Nat->Nat)(p:List Nat):Prop where
 lt:Lt m p
 nd:(plc T p).Nodup
 cl: ∀x∈plc T p,∀y∈plc T p,T x y∈plc T p
theorem Sn.last{p:List Nat}(h:Sn m T p)(hp:p≠[]):dq T p≠0:=by
 intro z
 have h1:=h.nd
 rw[j2,eA]at h1
 have h0:0∈pre T p:=aH.mpr ⟨0,bp.mpr (List.length_pos_iff.mpr hp),rfl⟩
 exact h1.2.2 0 h0 (dq T p) (by simp) z.symm
end
section
variable {m:Nat}{T:Nat->Nat->Nat}{S:Sto}
abbrev Pln(m:Nat)(T:Nat->Nat->Nat):Prop:= ∀i j,i<m->j<m->T i j=T j i
end
end
end _W
end
section
namespace _W
open _L _G
section
section
variable {m:Nat}{T:Nat->Nat->Nat}{S:Sto}
end
end
end _W
end
section
namespace _W
open _L _G
section
theorem wW: ∀(l acc:List Int) (x:Int),x∈l.foldl (λacc x=>if x∈acc then acc else acc++[x]) acc↔x∈acc\/x∈l
 | [],acc,x=>by simp
 | y::l,acc,x=>by
   rw[yo,wW l]
   by_cases h:y∈acc
   ·rw[if_pos h,aK]
    constructor
    ·rintro (z |z)
     ·exact .inl z
     ·exact .inr (.inr z)
    ·rintro (z |rfl |z)
     ·exact .inl z
     ·exact .inl h
     ·exact .inr z
   ·rw[if_neg h,bo,bR,aK,or_assoc]
theorem BS{l:List Int}{x:Int}:x∈ddp l↔x∈l:=by unfold ddp;rw[wW];simp
theorem wx: ∀(l acc:List Int),acc.Nodup->(l.foldl (λacc x=>if x∈acc then acc else acc++[x]) acc).Nodup
 | [],acc,h=>h
 | y::l,acc,h=>by
   rw[yo]
   refine wx l _ ?_
   by_cases z:y∈acc
   ·rw[if_pos z];exact h
   ·rw[if_neg z];exact eA.mpr ⟨h,by simp,λa ha b hb=>by simp at hb;rw[hb];exact λe=>z (e▸ha)⟩
theorem KD(l:List Int):(ddp l).Nodup:=wx l [] List.nodup_nil
noncomputable def ddN(l:List Nat):List Nat:=(ddp (di l)).map so
theorem rq(l:List Nat):di (ddN l)=ddp (di l):=by
 unfold di ddN
 rw[bF]
 conv=>rhs;rw[<- mq (ddp (l.map λ(x:Nat)=>(x:Int)))]
 apply aM
 intro x hx
 obtain⟨y,_,rfl⟩:=aH.mp (BS.mp hx)
 simp
theorem IT{l:List Nat}{x:Nat}:x∈ddN l↔x∈l:=by
 have h:(x:Int)∈di (ddN l)↔(x:Int)∈di l:=by rw[rq];exact BS
 have e: ∀k:List Nat,(x:Int)∈di k↔x∈k:=λk=>by
  unfold di
  rw[aH]
  constructor
  ·rintro ⟨y,hy,e⟩
   have:y=x:=by omega
   rw[<- this];exact hy
  ·exact λh=>⟨x,h,rfl⟩
 rw[<- e,<- e];exact h
theorem Lh(l:List Nat):(ddN l).Nodup:=by
 have h:(di (ddN l)).Nodup:=by rw[rq];exact KD _
 unfold di at h
 exact(cQ.mp h).imp λ{a b} hab e=>hab (by rw[e])
end
end _W
end
section
namespace _W
open _L _G
section
end
end _W
end
section
namespace _W
open _L _G
section
section
variable {m:Nat}{T:Nat->Nat->Nat}{S:Sto}{u:U}{st:List Nat}
theorem ml{ρ:Rho}{S1:Sto}{r:MA}{xs:List U}(h:r ρ S=some (xs,S1))(hl:xs.length<1000):dz r ρ S=some (.ref S1.length,S1++[.lst xs]):=by
 have:xs.length<=big:=by unfold big;omega
 simp only[dz,h,aE,this,if_true]
end
end
end _W
end
section
namespace _W
open _L _G
section
section
variable {m:Nat}{f:Nat->Nat}
end
end
end _W
end
section
namespace _W
open _L _G
section
section
variable {m:Nat}{T:Nat->Nat->Nat}{S:Sto}
end
end
end _W
end
section
namespace _W
open _L _G
section
section
variable {S:Sto}
theorem Kk{ρ:Rho}{S S1 S2:Sto}{a b:ME}{x y:Nat}(ha:a ρ S=some (.int x,S1))(hb:b ρ S1=some (.int y,S2)):m2 oGt a b ρ S=some (.bl (decide (y<x)),S2):=by
 rw[AJ ha hb]
 congr 3
 exact decide_eq_decide.mpr (by omega)
end
end
end _W
end
section
namespace _W
open _L _G
section
open PySem in
open PySem in
section
variable {S:Sto}
section
variable {n m r:Nat} (hn:0<n) (hn2:n<100) (hm:0<m) (hm2:m<100) (hr:r<100)
include hn hn2 hm hm2 hr
end
end
end
end _W
end
section
namespace _W
open _L _G
section
section
variable {m:Nat}{T:Nat->Nat->Nat}
open Classical in
end
end
end _W
end
section
namespace _W
open _L _G
section
section
variable {m:Nat}{T:Nat->Nat->Nat}{P:List Nat}
end
section
variable {m:Nat}{T:Nat->Nat->Nat}{P:List Nat}
end
end
end _W
end
namespace _W
open PySem PySem.Spec _L _G
section
noncomputable def wR:MS:=bH (fN af)
noncomputable def dg:MF:=run 3 3 wR
noncomputable def yq:MS:=bH (mMT eO (m2 oIx (ab 0) (ab 1)) (aa (mC (.int 0)) af))
noncomputable def qB:MF:=run 2 2 yq
noncomputable def sf:MS:=bc (bI 3 (mFn qB (aa (ab 0) (aa (ab 2) af)))) (bH (v7 (cOf (m2 oIn (ab 3) (ab 1))) (fN (aa (ab 3) af)) (mC .non)))
noncomputable def cn:MF:=run 3 4 sf
noncomputable def rR:MS:=bc (bI 3 (kr (iR2 (aa (mC (.int 1)) (aa (mFn bJ (aa (ab 1) af)) af))))) (bc (bI 4 (dz af)) (bc (fH 5 (iR1 (aa (mFn oy (aa (mFn bJ (aa (ab 3) af)) (aa (m2 da (mC (.int 1)) (mFn br (aa (ab 0) (aa (ab 2) af)))) af))) af)) (du (mML cU (ab 4) (aa (mML km (ab 3) (aa (mFn br (aa (ab 0) (aa (mFn bJ (aa (ab 3) af)) af))) af)) af)))) (bH (mFn bT (aa (mFn eJ (aa (ab 4) af)) af)))))
noncomputable def jf:MF:=run 3 6 rR
noncomputable def oW:MS:=sIf (cOf (m2 oGt (mFn bJ (aa (ab 0) af)) (ab 1))) sNo cP
noncomputable def dF:MF:=run 2 2 oW
noncomputable def zB:MS:=bc (bI 4 (cm (dD (ab 1)) cTT (fN (aa (ab 5) (aa (m2 oIx (m2 oIx (ab 0) (ab 2)) (ab 5)) af))))) (bH (cm (dD (ab 4)) (cOf (m2 oIn (m2 oIx (ab 5) (mC (.int 1))) (ab 3))) (ab 5)))
noncomputable def kO:MF:=run 4 5 zB
noncomputable def wZ:MS:=bH (mFn bT (aa (cm (dD (ab 0)) (cOf (m2 oNe (ab 2) (ab 1))) (ab 2)) af))
noncomputable def iK:MF:=run 2 2 wZ
noncomputable def rX(g:bf)(φ:MF)(ψ:MF):MS:=bc (sIf (cOf (m2 oEq (mFn bJ (aa (ab 3) af)) (mC (.int 0)))) (bH (sD 4 g φ (aa (ab 0) (aa (ab 1) (aa (ab 2) af))))) cP) (bc (nh (gTp 2 (eK (gN 5) (eK (gN 6) mE))) (dD (mFn kO (aa (ab 0) (aa (ab 1) (aa (ab 2) (aa (ab 3) af)))))) (bc (bI 7 (mFn ψ (aa (ab 0) (aa (ab 1) (aa (ab 6) (aa (mFn iK (aa (ab 3) (aa (ab 6) af))) (aa (ab 4) af))))))) (sIf (cOf (m2 fR (ab 7) (mC .non))) (bH (m2 da (fN (aa (ab 5) af)) (ab 7))) cP))) (bH (mC .non)))
noncomputable def eo(g:bf)(φ:MF):MF:=jw 5 8 (rX g φ) 14
noncomputable def mS:MS:=bH (j5 (iR2 (aa (mC (.int 1)) (aa (mFn bJ (aa (ab 0) af)) af))))
noncomputable def dH:MF:=run 1 1 mS
noncomputable def mW(a_n:bf):MS:=bc (du (mFn dF (aa (ab 0) (aa (mC (.int 12)) af)))) (bH (mFn (eo a_n dg) (aa (ab 0) (aa (ab 1) (aa (mC (.int 0)) (aa (mFn dH (aa (ab 0) af)) (aa (mC (.obj a_n)) af)))))))
noncomputable def gY(a_n:bf):MF:=run 2 2 (mW a_n)
noncomputable def eQ(ψ:MF):MS:=bc (bI 4 (fN af)) (bc (nh (gTp 2 (eK (gN 5) (eK (gN 6) mE))) (dD (mFn kO (aa (ab 0) (aa (ab 1) (aa (ab 2) (aa (ab 3) af)))))) (bc (bI 7 (m2 da (fN (aa (ab 5) af)) (mFn ψ (aa (ab 0) (aa (ab 1) (aa (ab 6) (aa (mFn iK (aa (ab 3) (aa (ab 6) af))) af))))))) (sIf (cOf (m2 oGt (mFn bJ (aa (ab 7) af)) (mFn bJ (aa (ab 4) af)))) (bI 4 (ab 7)) cP))) (bH (ab 4)))
noncomputable def kq:MF:=jw 4 8 eQ 14
noncomputable def mX:MS:=bc (du (mFn dF (aa (ab 0) (aa (mC (.int 8)) af)))) (bH (mFn kq (aa (ab 0) (aa (ab 1) (aa (mC (.int 0)) (aa (mFn dH (aa (ab 0) af)) af))))))
noncomputable def iu:MF:=run 2 2 mX
noncomputable def kj(a_h:bf):MS:=bc (du (mFn dF (aa (ab 0) (aa (mC (.int 12)) af)))) (bH (mFn (eo a_h cn) (aa (ab 0) (aa (ab 1) (aa (mC (.int 0)) (aa (mFn dH (aa (ab 0) af)) (aa (mC (.obj a_h)) af)))))))
noncomputable def dG(a_h:bf):MF:=run 2 2 (kj a_h)
noncomputable def jZ:MS:=bH (ig (m1 (pC "int") (ab 0)) (ig (m1 AS (m1 (pC "bool") (ab 0))) (mCh oLe oLt (mC (.int 0)) (ab 0) (ab 1))))
noncomputable def j8:MF:=run 2 2 jZ
noncomputable def jr:MS:=bH (ig (m1 (pC "tuple") (ab 0)) (mFn vW (aa (cm (dD (ab 0)) cTT (mFn j8 (aa (ab 2) (aa (ab 1) af)))) af)))
noncomputable def gn:MF:=run 2 2 jr
noncomputable def qj:MS:=bH (ig (mFn gn (aa (ab 2) (aa (mFn bJ (aa (ab 0) af)) af))) (mFn vW (aa (cm (dD (ab 2)) cTT (m2 oIn (ab 3) (ab 1))) af)))
noncomputable def lA:MF:=run 3 3 qj
noncomputable def zx:MS:=bc (bI 2 (dz (aa (mC (.int 0)) af))) (bc (fH 3 (dD (ab 1)) (du (mML cU (ab 2) (aa (m2 oIx (m2 oIx (ab 0) (m2 oIx (ab 2) (m1 jn (mC (.int 1))))) (ab 3)) af)))) (bH (mFn bT (aa (ab 2) af))))
noncomputable def jz:MF:=run 2 4 zx
noncomputable def qf:MS:=bH (j5 (iR1 (aa (mFn bJ (aa (ab 0) af)) af)))
noncomputable def pT:MF:=run 1 1 qf
noncomputable def kW:MS:=bH (m2 oEq (mFn bT (aa (mFn eJ (aa (ab 1) af)) af)) (mFn pT (aa (ab 0) af)))
noncomputable def iH:MF:=run 2 2 kW
noncomputable def oR:MS:=bc (bI 2 (mFn jz (aa (ab 0) (aa (ab 1) af)))) (bH (ig (m2 oEq (m2 oIx (ab 2) (m1 jn (mC (.int 1)))) (mC (.int 0))) (mFn iH (aa (ab 0) (aa (mSl (ab 2) none (some (m1 jn (mC (.int 1))))) af)))))
noncomputable def oK:MF:=run 2 3 oR
noncomputable def t7:MS:=bH (ig (mFn lA (aa (ab 0) (aa (ab 1) (aa (ab 2) af)))) (ig (m2 oGe (mFn bJ (aa (ab 2) af)) (mC (.int 2))) (mFn oK (aa (ab 0) (aa (ab 2) af)))))
noncomputable def gS:MF:=run 3 3 t7
noncomputable def mM:MS:=bH (ig (mFn gn (aa (ab 1) (aa (mFn bJ (aa (ab 0) af)) af))) (mFn iH (aa (ab 0) (aa (mFn jz (aa (ab 0) (aa (ab 1) af))) af))))
noncomputable def mL:MF:=run 2 2 mM
noncomputable def ze:MS:=bH (ig (mFn lA (aa (ab 0) (aa (ab 1) (aa (ab 2) af)))) (mFn mL (aa (ab 0) (aa (ab 2) af))))
noncomputable def ja:MF:=run 3 3 ze
noncomputable def nB:MS:=bH (mFn bT (aa (mFn eJ (aa (cm (dD (ab 1)) cTT (mFn qB (aa (ab 0) (aa (ab 2) af)))) af)) af))
noncomputable def eD:MF:=run 2 2 nB
noncomputable def Gr:MS:=bH (mFn bT (aa (cm (zk (aa (ab 1) af)) cTT (mFn qB (aa (ab 0) (aa (ab 2) af)))) af))
noncomputable def ve:MF:=run 2 2 Gr
noncomputable def uk:MS:=bH (m2 da (mSl (ab 0) (some (ab 1)) none) (mSl (ab 0) none (some (ab 1))))
noncomputable def gU:MF:=run 2 2 uk
noncomputable def fh(a_n a_h:bf):MS:=bc (bI 2 (mFn (gY a_n) (aa (ab 0) (aa (ab 1) af)))) (bc (bI 3 (mFn iu (aa (ab 0) (aa (ab 1) af)))) (bc (sIf (cOr (cOf (m2 oEq (m2 oIs (ab 2) (mC .non)) (m2 oEq (ab 3) (ab 2)))) (cOf (m2 oNe (mFn bLS (aa (mFn jz (aa (ab 0) (aa (ab 3) af))) af)) (m2 da (mFn bJ (aa (ab 3) af)) (mC (.int 1)))))) (bH (mC (.bl false))) cP) (bc (sIf (cOf (m2 oIs (ab 2) (mC .non))) (bH (ig (m2 oLt (mFn bJ (aa (ab 3) af)) (m2 u0 (mFn bJ (aa (ab 0) af)) (mC (.int 1)))) (m2 oIs (mFn (dG a_h) (aa (ab 0) (aa (ab 1) af))) (mC .non)))) cP) (bc (bI 4 (mFn (dG a_h) (aa (ab 0) (aa (ab 1) af)))) (bc (sIf (cOr (nA (cOf (mFn ja (aa (ab 0) (aa (ab 1) (aa (ab 2) af)))))) (pv (cOf (m2 fR (ab 4) (mC .non))) (nA (cOf (mFn gS (aa (ab 0) (aa (ab 1) (aa (ab 4) af)))))))) (bH (mC (.bl false))) cP) (bc (sIf (cOf (m2 oIs (ab 4) (mC .non))) (bH (mC (.bl true))) cP) (bc (sIf (cOr (cOf (m2 oGt (ab 2) (mSl (ab 4) none (some (m1 jn (mC (.int 1))))))) (nA (cOf (mFn ja (aa (ab 0) (aa (ab 1) (aa (mSl (ab 4) none (some (m1 jn (mC (.int 1))))) af))))))) (bH (mC (.bl false))) cP) (bc (sIf (nA (cOf (mFn gS (aa (ab 0) (aa (mFn eD (aa (ab 0) (aa (ab 1) af))) (aa (mFn ve (aa (ab 0) (aa (ab 4) af))) af)))))) (bH (mC (.bl false))) cP) (bH (m2 oEq (mFn oy (aa (cm (iR1 (aa (mFn bJ (aa (ab 0) af)) af)) cTT (mFn gU (aa (ab 4) (aa (ab 5) af)))) af)) (ab 4)))))))))))
noncomputable def fg(a_n a_h:bf):MF:=run 2 5 (fh a_n a_h)
noncomputable def uT(g:bf)(φ:MF)(ψ:MF):MS:=bc (sIf (cOf (m2 oEq (mFn bJ (aa (ab 3) af)) (mC (.int 0)))) (bc (bI 5 (sD 4 g φ (aa (ab 0) (aa (ab 1) (aa (ab 2) af))))) (bH (v7 (cOf (m2 oIs (ab 5) (mC .non))) (dz af) (dz (aa (ab 5) af))))) cP) (bc (bI 6 (dz af)) (bc (nh (gTp 2 (eK (gN 7) (eK (gN 8) mE))) (dD (mFn kO (aa (ab 0) (aa (ab 1) (aa (ab 2) (aa (ab 3) af)))))) (bc (bI 9 (mFn ψ (aa (ab 0) (aa (ab 1) (aa (ab 8) (aa (mFn iK (aa (ab 3) (aa (ab 8) af))) (aa (ab 4) af))))))) (du (mML j6 (ab 6) (aa (cm (dD (ab 9)) cTT (m2 da (fN (aa (ab 7) af)) (ab 10))) af))))) (bH (ab 6))))
noncomputable def fM(g:bf)(φ:MF):MF:=jw 5 10 (uT g φ) 14
noncomputable def rS(a_n:bf):MS:=bc (du (mFn dF (aa (ab 0) (aa (mC (.int 8)) af)))) (bH (mFn bJ (aa (mFn (fM a_n dg) (aa (ab 0) (aa (ab 1) (aa (mC (.int 0)) (aa (mFn dH (aa (ab 0) af)) (aa (mC (.obj a_n)) af)))))) af)))
noncomputable def eZ(a_n:bf):MF:=run 2 2 (rS a_n)
noncomputable def oS(a_h:bf):MS:=bc (du (mFn dF (aa (ab 0) (aa (mC (.int 8)) af)))) (bH (mFn bJ (aa (mFn (fM a_h cn) (aa (ab 0) (aa (ab 1) (aa (mC (.int 0)) (aa (mFn dH (aa (ab 0) af)) (aa (mC (.obj a_h)) af)))))) af)))
noncomputable def et(a_h:bf):MF:=run 2 2 (oS a_h)
noncomputable def uF(g:bf)(φ:MF):MS:=bc (bI 2 (dz af)) (bc (fH 3 (iR1 (aa (ab 0) af)) (du (mML cU (ab 2) (aa (mFn bT (aa (cm (iR1 (aa (ab 0) af)) cTT (sD 1 g φ (aa (ab 3) (aa (ab 4) af)))) af)) af)))) (bH (mFn bT (aa (ab 2) af))))
noncomputable def uf(g:bf)(φ:MF):MF:=run 2 4 (uF g φ)
noncomputable def Bo:MS:=bH (o9 uf 2 [0,1] (mMT eO (ab 3) (aa (m2 oIx (m2 oIx (ab 2) (m2 oIx (ab 3) (ab 0))) (m2 oIx (ab 3) (ab 1))) af)) (mFn bJ (aa (ab 0) af)))
noncomputable def tP:MF:=run 2 2 Bo
noncomputable def BF:MS:=bc (bI 2 (uy (mC (.int 0)) (fN af))) (bc (bI 3 (dz (aa (mC (.int 0)) af))) (bc (q0 (cOf (m2 oGt (mFn bJ (aa (ab 3) af)) (mC (.int 0)))) (bc (bI 4 (mML xq (ab 3) af)) (fH 5 (dD (ab 1)) (bc (bI 6 (m2 oIx (m2 oIx (ab 0) (ab 4)) (ab 5))) (sIf (cOf (m2 o6 (ab 6) (ab 2))) (bc (jH (ab 2) (ab 6) (m2 da (m2 oIx (ab 2) (ab 4)) (fN (aa (ab 5) af)))) (du (mML cU (ab 3) (aa (ab 6) af)))) cP))))) (bH (ab 2))))
noncomputable def BI:MF:=run 2 7 BF
noncomputable def Ey:MS:=bH (mFn bT (aa (mFn eJ (aa (mFn BI (aa (ab 0) (aa (ab 1) af))) af)) af))
noncomputable def uL:MF:=run 2 2 Ey
noncomputable def xf:MS:=bH (m2 oEq (mFn bJ (aa (mFn uL (aa (ab 0) (aa (ab 1) af))) af)) (mFn bJ (aa (ab 0) af)))
noncomputable def kG:MF:=run 2 2 xf
noncomputable def gR(a_n a_h:bf):MS:=bc (bI 3 (mFn (eZ a_n) (aa (ab 0) (aa (ab 1) af)))) (bc (bI 4 (mFn (et a_h) (aa (ab 0) (aa (ab 1) af)))) (bc (sIf (cOf (m2 oNe (m2 fR (mFn (gY a_n) (aa (ab 0) (aa (ab 1) af))) (mC .non)) (m2 oGt (ab 3) (mC (.int 0))))) (bH (mC (.bl false))) cP) (bc (sIf (cOf (m2 oNe (m2 fR (mFn (dG a_h) (aa (ab 0) (aa (ab 1) af))) (mC .non)) (m2 oGt (ab 4) (mC (.int 0))))) (bH (mC (.bl false))) cP) (bc (bI 5 (mFn eD (aa (ab 0) (aa (ab 1) af)))) (bc (sIf (cOr (cOf (m2 oNe (mFn (eZ a_n) (aa (ab 0) (aa (ab 5) af))) (ab 3))) (cOr (cOf (m2 oNe (mFn (et a_h) (aa (ab 0) (aa (ab 5) af))) (ab 4))) (cOf (m2 oLt (ab 3) (ab 4))))) (bH (mC (.bl false))) cP) (bc (sIf (pv (nA (cOf (mFn kG (aa (ab 0) (aa (ab 1) af))))) (cOf (m2 oGt (ab 3) (mC (.int 0))))) (bH (mC (.bl false))) cP) (bc (bI 6 (mFn bT (aa (mFn eJ (aa (cm (dD (ab 1)) cTT (mMT eO (ab 2) (aa (ab 8) af))) af)) af))) (bc (bI 7 (mFn tP (aa (ab 0) (aa (ab 2) af)))) (bH (ig (m2 oEq (mFn (eZ a_n) (aa (ab 7) (aa (ab 6) af))) (ab 3)) (m2 oEq (mFn (et a_h) (aa (ab 7) (aa (ab 6) af))) (ab 4))))))))))))
noncomputable def eE(a_n a_h:bf):MF:=run 3 8 (gR a_n a_h)
noncomputable def JM(a_n a_h:bf):MS:=bc (fH 1 (iR1 (aa (mFn zX (aa (mC (.int 1)) (aa (mFn oy (aa (mFn bJ (aa (ab 0) af)) (aa (mC (.int 2)) af))) af))) af)) (bc (bI 2 (mFn j1 (aa (ab 0) (aa (ab 1) af)))) (bc (bI 3 (mFn i4 (aa (ab 2) (aa (mC (.int 8)) af)))) (bc (bI 4 (mFn jf (aa (ab 2) (aa (ab 3) (aa (mC (.int 3)) af))))) (bc (bI 5 (mFn fG (aa (ab 2) (aa (mFn bJ (aa (ab 3) af)) af)))) (sIf (cOr (nA (cOf (mFn (fg a_n a_h) (aa (ab 3) (aa (ab 4) af))))) (nA (cOf (mFn (eE a_n a_h) (aa (ab 3) (aa (ab 4) (aa (ab 5) af))))))) (bH (mC (.bl false))) cP)))))) (bH (mC (.bl true)))
noncomputable def Pz(a_n a_h:bf):MF:=run 1 6 (JM a_n a_h)
end
section
open _L _G
section
variable {m:Nat}{T:Nat->Nat->Nat}{st:List Nat}{S:Sto}
structure Lf(m:Nat)(th left:List Nat):Prop where
 nd:left.Nodup
 mem: ∀y,y∈left↔y<m/\y∉th
theorem Lf.kid{th left:List Nat}{x:Nat}(l:Lf m th left):Lf m (th++[x]) (left.filter λy => !decide (y=x)):=
 ⟨l.nd.filter _,λy=>by
  rw[bu,l.mem y]
  simp
  constructor
  ·rintro ⟨⟨a,b⟩,c⟩;exact⟨a,b,c⟩
  ·rintro ⟨a,b,c⟩;exact⟨⟨a,b⟩,c⟩⟩
theorem m7{α β:Type}{f g:α->Option β}: ∀{l:List α},(∀x∈l,f x=g x)->l.findSome? f=l.findSome? g
 | [],_=>rfl
 | x::l,h=>by
   rw[kA,kA,h x (by simp),m7 λy hy=>h y (aw _ hy)]
theorem rM{L:Nod->List (List Nat)}{last:Nat->Option (List Nat)}(g:Grp m T)(hs: ∀s∈st,s<m)(hL: ∀p:Nod,p.2≠[]->(∀x∈p.2,x<m)->(L p).head? = (last (bY p.2)).map λw=>p.1++w):
  ∀(k:Nat) (p:Nod) (left:List Nat),p.2≠[]->(∀x∈p.2,x<m)->Lf m p.2 left->(ku T st L k p).head? = (leF T st last k (bY p.2) left).map λw=>p.1++w
 | 0,p,left,h1,h2,l=>hL p h1 h2
 | k+1,p,left,h1,h2,l=>by
   unfold ku leF
   have hh:=kI h1 h2
   have hg:gos T st (bY p.2) left=st.filter λs => !decide (T (bY p.2) s∈p.2):=by
    unfold gos
    apply mn
    intro s hsm
    have:=g.cl _ _ hh (hs s hsm)
    by_cases z:T (bY p.2) s∈p.2
    ·have:T (bY p.2) s∉left:=λy=>((l.mem _).mp y).2 z
     simp[z,this]
    ·have:T (bY p.2) s∈left:=(l.mem _).mpr ⟨this,z⟩
     simp[z,this]
   rw[List.head?_flatMap,hg]
   unfold kids
   rw[List.findSome?_map,List.map_findSome?]
   apply m7
   intro s hsm
   have hsm:=(bu.mp hsm).1
   have ih:=rM g hs hL k (p.1++[s],p.2++[T (bY p.2) s]) (left.filter λy => !decide (y=T (bY p.2) s)) (by simp) (λx hx=>by
    rcases bo.mp hx with hx |hx
    ·exact h2 x hx
    ·simp at hx;rw[hx];exact g.cl _ _ hh (hs s hsm)) l.kid
   simp only[yp]
   rw[ih]
   simp only[iL]
   cases leF T st last k (T (bY p.2) s) (left.filter λy => !decide (y=T (bY p.2) s)) with
   | none=>rfl
   | some w=>simp
theorem zc(hm:0<m):Lf m [0] (aO 1 (m - 1)):=by
 refine⟨eY,λy =>?_⟩
 rw[dQ]
 simp
 omega
noncomputable def IX(m:Nat)(T:Nat->Nat->Nat)(st:List Nat):Option (List Nat):=leF T st oJ (m - 1) 0 (aO 1 (m - 1))
noncomputable def Kz(m:Nat)(T:Nat->Nat->Nat)(st:List Nat):Option (List Nat):=leF T st (jE m T st) (m - 1) 0 (aO 1 (m - 1))
theorem Ek(g:Grp m T)(hs: ∀s∈st,s<m):(ku T st su (m - 1) ([],[0])).head? = IX m T st:=by
 rw[rM g hs (last:=oJ) (λp _ _=>by simp[su,oJ]) (m - 1) ([],[0]) _ (by simp) (by simpa using g.pos) (zc g.pos)]
 show Option.map (λw=>w) (leF T st oJ (m - 1) 0 (aO 1 (m - 1)))=_
 rw[Option.map_id'];rfl
theorem wA{p:Nat->Bool}{x:Nat}: ∀(l:List Nat),(∀s∈l,p s=decide (s=x))->(l.filter p).head? = if x∈l then some x else none
 | [],_=>by simp
 | y::l,h=>by
   have hy:=h y (by simp)
   have ih:=wA l λs hs=>h s (aw _ hs)
   by_cases e:y=x
   ·subst e
    rw[iQ (by rw[hy];simp)]
    simp
   ·rw[iR (by rw[hy];simpa using e),ih]
    simp[eG e]
theorem Ge(g:Grp m T)(hs: ∀s∈st,s<m):(ku T st (CU T st) (m - 1) ([],[0])).head? = Kz m T st:=by
 rw[rM g hs (last:=jE m T st) (λp h1 h2=>by
  have hh:=kI h1 h2
  obtain⟨u1,u2,u3,u4⟩:=lC g hh
  unfold CU jE
  rw[List.head?_map,wA (x:=unT m T (bY p.2)) st λs hsm =>?_]
  ·split <;> simp
  ·by_cases z:s=unT m T (bY p.2)
   ·subst z;simp[u2]
   ·have:T (bY p.2) s≠0:=λy=>z (u4 s (hs s hsm) y)
    simp[z,this]) (m - 1) ([],[0]) _ (by simp) (by simpa using g.pos) (zc g.pos)]
 show Option.map (λw=>w) (leF T st (jE m T st) (m - 1) 0 (aO 1 (m - 1)))=_
 rw[Option.map_id'];rfl
theorem F4{a:bf}(g:Grp m T)(hm:m<=12)(hs: ∀s∈st,s<m)(hsl:st.length<1000): ∃S',gY a [tab m T,.tup (aj st)] S=some (jK (IX m T st),S')/\Ex S S':=by
 have hp:=g.pos
 obtain⟨S1,e1,x1⟩:=JN (T:=T) (st:=st) (last:=oJ) (g:=a) (φ:=dg) g hs hsl (by omega) (λh w e=>by cases e;simp) (λh S _=>bM (ρ:= [some (tab m T),some (.tup (aj st)),some (.int (h:Nat))]) rfl (bN rfl)) (m - 1) 14 0 (aO 1 (m - 1)) S (by omega) (by simp) eY (λx hx=>by have:=dQ.mp hx;omega) hp
 have er:du (mFn dF (aa (ab 0) (aa (mC (.int 12)) af))) [some (tab m T),some (.tup (aj st))] S=some (.nx,[some (tab m T),some (.tup (aj st))],S):=by
  have:=bZ (f:=dF) (ρ:= [some (tab m T),some (.tup (aj st))]) (S:=S) (a:=ab 0) (b:=mC (.int 12)) (var_eq rfl) c_i (qY (k:=12) hm)
  simp only[du,this,aE]
 refine⟨S1,bM (ρ:= [some (tab m T),some (.tup (aj st))]) rfl ?_,x1⟩
 show mW a [some (tab m T),some (.tup (aj st))] S=_
 exact(aP er).trans (bN (zC (f:=eo a dg) (var_eq rfl) (var_eq rfl) (c_i (z:=0)) (gW (f:=dH) (var_eq rfl) (tm hp (by omega))) rfl e1))
theorem zf{a:bf}(g:Grp m T)(hm:m<=12)(hs: ∀s∈st,s<m)(hsl:st.length<1000): ∃S',dG a [tab m T,.tup (aj st)] S=some (jK (Kz m T st),S')/\Ex S S':=by
 have hp:=g.pos
 obtain⟨S1,e1,x1⟩:=JN (T:=T) (st:=st) (last:=jE m T st) (g:=a) (φ:=cn) g hs hsl (by omega) (λh w e=>by unfold jE at e;split at e <;> cases e;simp) (λh S hh=>Kg g hh) (m - 1) 14 0 (aO 1 (m - 1)) S (by omega) (by simp) eY (λx hx=>by have:=dQ.mp hx;omega) hp
 have er:du (mFn dF (aa (ab 0) (aa (mC (.int 12)) af))) [some (tab m T),some (.tup (aj st))] S=some (.nx,[some (tab m T),some (.tup (aj st))],S):=by
  have:=bZ (f:=dF) (ρ:= [some (tab m T),some (.tup (aj st))]) (S:=S) (a:=ab 0) (b:=mC (.int 12)) (var_eq rfl) c_i (qY (k:=12) hm)
  simp only[du,this,aE]
 refine⟨S1,bM (ρ:= [some (tab m T),some (.tup (aj st))]) rfl ?_,x1⟩
 show kj a [some (tab m T),some (.tup (aj st))] S=_
 exact(aP er).trans (bN (zC (f:=eo a cn) (var_eq rfl) (var_eq rfl) (c_i (z:=0)) (gW (f:=dH) (var_eq rfl) (tm hp (by omega))) rfl e1))
end
end
section
open _L _G
section
variable {m:Nat}{T:Nat->Nat->Nat}{st:List Nat}{S:Sto}
noncomputable def lev(T:Nat->Nat->Nat)(st:List Nat):Nat->Nod->List Nod
 | 0,p =>[p]
 | k+1,p=>(kids T st p).flatMap (lev T st k)
theorem yZ: ∀(k:Nat) (p:Nod),lev T st (k+1) p=(lev T st k p).flatMap (kids T st)
 | 0,p=>by simp[lev]
 | k+1,p=>by
   show(kids T st p).flatMap (lev T st (k+1))=((kids T st p).flatMap (lev T st k)).flatMap (kids T st)
   rw[List.flatMap_assoc]
   congr 1
   funext q
   exact yZ k q
theorem p7{p:Nod}{k:Nat}(h:lev T st k p = []): ∀{j:Nat},k<=j->lev T st j p = []
 | 0,hj=>by rwa[Nat.le_zero.mp hj]at h
 | j+1,hj=>by
   by_cases e:k=j+1
   ·rwa[e]at h
   ·rw[yZ,p7 h (by omega)];rfl
noncomputable def ldS(f:Nat->List Nat)(b:List Nat)(s:Nat):List Nat:=if b.length<(s::f s).length then s::f s else b
noncomputable def ldF(T:Nat->Nat->Nat)(st:List Nat):Nat->Nat->List Nat->List Nat
 | 0,_,_ =>[]
 | k+1,h,left=>(gos T st h left).foldl (ldS λs=>ldF T st k (T h s) (left.filter λy => !decide (y=T h s))) []
structure Lon(T:Nat->Nat->Nat)(st:List Nat)(p:Nod)(w:List Nat):Prop where
 hd: ∃q l,lev T st w.length p=q::l/\q.1=p.1++w
 no:lev T st (w.length+1) p = []
theorem yz{pre:List Nat}{c:Nat->Nod}{f:Nat->List Nat}: ∀(gg dn:List Nat) (b:List Nat),(∀s∈gg,Lon T st (c s) (f s)/\(c s).1=pre++[s]) ->
  ((b = []/\dn = []) \/ ∃d q l,b.length=d+1/\dn.flatMap (λs=>lev T st d (c s))=q::l/\q.1=pre++b/\dn.flatMap (λs=>lev T st (d+1) (c s)) = []) ->
  ((gg.foldl (ldS f) b = []/\dn++gg = []) \/ ∃d q l,(gg.foldl (ldS f) b).length=d+1/\(dn++gg).flatMap (λs=>lev T st d (c s))=q::l/\q.1=pre++gg.foldl (ldS f) b/\(dn++gg).flatMap (λs=>lev T st (d+1) (c s)) = [])
 | [],dn,b,_,h=>by simpa using h
 | s::gg,dn,b,hG,h=>by
   obtain⟨⟨⟨q1,l1,e1,e2⟩,e3⟩,e4⟩:=hG s (by simp)
   have e2':q1.1=pre++(s::f s):=by rw[e2,e4];simp
   have key:=yz gg (dn++[s]) (ldS f b s) (λx hx=>hG x (aw _ hx)) (by
    right
    rcases h with⟨rfl,rfl⟩ | ⟨d,q,l,hb,h1,h2,h3⟩
    ·refine⟨(f s).length,q1,l1,by simp[ldS],by simpa using e1,by simpa [ldS]using e2',by simpa using e3⟩
    ·have n3:=oq.mp h3
     unfold ldS
     by_cases z:b.length<(s::f s).length
     ·rw[if_pos z]
      have z':d+1<=(f s).length:=by simp at z;omega
      refine⟨(f s).length,q1,l1,rfl,?_,e2',?_⟩
      ·rw[ie,oq.mpr λx hx=>p7 (n3 x hx) z'];simpa using e1
      ·rw[ie,oq.mpr λx hx=>p7 (n3 x hx) (by omega)];simpa using e3
     ·rw[if_neg z]
      have z':(f s).length<=d:=by simp at z;omega
      refine⟨d,q,l++lev T st d (c s),hb,?_,h2,?_⟩
      ·rw[ie,h1];simp
      ·rw[ie,h3];simpa using p7 e3 (by omega))
   rw[aW]at key
   exact key
theorem yU(g:Grp m T)(hs: ∀s∈st,s<m){p:Nod}{left:List Nat}(h1:p.2≠[])(h2: ∀x∈p.2,x<m)(l:Lft m p.2 left):gos T st (bY p.2) left=st.filter λs => !decide (T (bY p.2) s∈p.2):=by
 unfold gos
 apply mn
 intro s hsm
 have:=g.cl _ _ (kI h1 h2) (hs s hsm)
 by_cases z:T (bY p.2) s∈p.2
 ·have:T (bY p.2) s∉left:=λy=>((l.mem _).mp y).2 z
  simp[z,this]
 ·have:T (bY p.2) s∈left:=(l.mem _).mpr ⟨this,z⟩
  simp[z,this]
theorem FL(g:Grp m T)(hs: ∀s∈st,s<m): ∀(k:Nat) (p:Nod) (left:List Nat),p.2≠[]->(∀x∈p.2,x<m)->Lft m p.2 left->left.length=k->Lon T st p (ldF T st k (bY p.2) left)
 | 0,p,left,h1,h2,l,hk=>by
   refine⟨⟨p,[],rfl,by simp[ldF]⟩,?_⟩
   show(kids T st p).flatMap _ = []
   unfold kids
   rw[<- yU g hs h1 h2 l,eB.mp hk]
   simp[gos]
 | k+1,p,left,h1,h2,l,hk=>by
   have hh:=kI h1 h2
   have kd:kids T st p=(gos T st (bY p.2) left).map λs=>(p.1++[s],p.2++[T (bY p.2) s]):=by unfold kids;rw[yU g hs h1 h2 l]
   have key:=yz (T:=T) (st:=st) (pre:=p.1) (c:=λs=>(p.1++[s],p.2++[T (bY p.2) s])) (f:=λs=>ldF T st k (T (bY p.2) s) (left.filter λy => !decide (y=T (bY p.2) s))) (gos T st (bY p.2) left) [] [] (λs hsm=>⟨by
    obtain⟨hs1,hs2⟩:=bu.mp hsm
    have hs2:T (bY p.2) s∈left:=of_decide_eq_true hs2
    have:=FL g hs k (p.1++[s],p.2++[T (bY p.2) s]) (left.filter λy => !decide (y=T (bY p.2) s)) (by simp) (λx hx=>by
     rcases bo.mp hx with hx |hx
     ·exact h2 x hx
     ·simp at hx;rw[hx];exact g.cl _ _ hh (hs s hs1)) l.kid (by have:=qr l.nd hs2;omega)
    simpa only [iL]using this,rfl⟩) (.inl ⟨rfl,rfl⟩)
   rw[dW]at key
   have fm: ∀d,(kids T st p).flatMap (lev T st d)=(gos T st (bY p.2) left).flatMap λs=>lev T st d (p.1++[s],p.2++[T (bY p.2) s]):=λd=>by rw[kd,List.flatMap_map]
   show Lon T st p ((gos T st (bY p.2) left).foldl _ [])
   rcases key with⟨e1,e2⟩ | ⟨d,q,l',e1,e2,e3,e4⟩
   ·rw[e1]
    refine⟨⟨p,[],rfl,by simp⟩,?_⟩
    show(kids T st p).flatMap _ = []
    rw[kd,e2];rfl
   ·refine⟨⟨q,l',?_,e3⟩,?_⟩
    ·rw[e1];exact(fm d).trans e2
    ·rw[e1];exact(fm (d+1)).trans e4
theorem Bz{f:Nat->List Nat}{k:Nat}: ∀(gg:List Nat) (b:List Nat),(∀s∈gg,(f s).length<=k)->b.length<=k+1->(gg.foldl (ldS f) b).length<=k+1
 | [],b,_,h=>h
 | s::gg,b,hG,h=>by
   refine Bz gg _ (λx hx=>hG x (aw _ hx)) ?_
   unfold ldS
   have:=hG s (by simp)
   split
   ·simp;omega
   ·exact h
theorem yf: ∀(k h:Nat) (left:List Nat),(ldF T st k h left).length<=k
 | 0,h,left=>by simp[ldF]
 | k+1,h,left=>Bz _ _ (λs _=>yf k _ _) (by simp)
theorem Bk{f:Nat->List Nat}{n h:Nat}{left:List Nat}(hh:h<m)(hs: ∀s∈st,s<m)(hsl:st.length<1000)(hll:left.length<1000)
  (hf: ∀s∈gos T st h left,∀S:Sto,∃S',jw 4 8 eQ n [tab m T,.tup (aj st),.int (T h s:Nat),.tup (aj (left.filter λy => !decide (y=T h s)))] S=some (.tup (aj (f s)),S')/\Ex S S'/\(f s).length<900):
  ∃S',jw 4 8 eQ (n+1) [tab m T,.tup (aj st),.int (h:Nat),.tup (aj left)] S=some (.tup (aj ((gos T st h left).foldl (ldS f) [])),S')/\Ex S S':=by
 obtain⟨r,S1,e1,x1,hrl,hr⟩:=o8 (T:=T) (st:=st) (left:=left) (S:=S) hh hs hsl
 have hgl:(gos T st h left).length<1000:=ay (dC _ _) hsl
 obtain⟨ρ2,S2,e2,⟨a,b,c,rfl⟩,x2,_⟩:=B7 (g:=gTp 2 (eK (gN 5) (eK (gN 6) mE))) (b:=bc (bI 7 (m2 da (fN (aa (ab 5) af)) (mFn (jw 4 8 eQ n) (aa (ab 0) (aa (ab 1) (aa (ab 6) (aa (mFn iK (aa (ab 3) (aa (ab 6) af))) af))))))) (sIf (cOf (m2 oGt (mFn bJ (aa (ab 7) af)) (mFn bJ (aa (ab 4) af)))) (bI 4 (ab 7)) cP)) (e:=mFn kO (aa (ab 0) (aa (ab 1) (aa (ab 2) (aa (ab 3) af))))) (ρ:= [some (tab m T),some (.tup (aj st)),some (.int (h:Nat)),some (.tup (aj left)),some (.tup (aj [])),none,none,none]) (S:=S) (us:=(gos T st h left).map (prU T h))
  (zS (f:=kO) (var_eq rfl) (var_eq rfl) (var_eq rfl) (var_eq rfl) e1) (by rw[ak];omega)
  (λi ρ S'=>(∃a b c,ρ = [some (tab m T),some (.tup (aj st)),some (.int (h:Nat)),some (.tup (aj left)),some (.tup (aj (((gos T st h left).take i).foldl (ldS f) []))),a,b,c])/\Ex S S'/\S'[r]? = some (.lst ((gos T st h left).map (prU T h))))
  ⟨⟨_,_,_,rfl⟩,x1,hr⟩ (λi ρ S' hp=>by unfold getL;rw[hp.2.2]) (by
   rintro i u ρ S' hu ⟨⟨a,b,c,rfl⟩,x2,r2⟩
   rw[bO]at hu
   obtain⟨s,hsg,rfl⟩:=fB.mp hu
   have hsm:s∈gos T st h left:=cY hsg
   obtain⟨S4,e4,x4⟩:=rK (left:=left) (x:=T h s) (S:=S') hll
   obtain⟨S5,e5,x5,l5⟩:=hf s hsm S4
   have htk:((gos T st h left).take (i+1)).foldl (ldS f) []=ldS f (((gos T st h left).take i).foldl (ldS f) []) s:=by
    rw[jh,hsg,jg];rfl
   rw[htk]
   generalize ((gos T st h left).take i).foldl (ldS f) []=bst
   have e6:bI 7 (m2 da (fN (aa (ab 5) af)) (mFn (jw 4 8 eQ n) (aa (ab 0) (aa (ab 1) (aa (ab 6) (aa (mFn iK (aa (ab 3) (aa (ab 6) af))) af)))))) [some (tab m T),some (.tup (aj st)),some (.int (h:Nat)),some (.tup (aj left)),some (.tup (aj bst)),some (.int s),some (.int (T h s:Nat)),c] S'=some (.nx,[some (tab m T),some (.tup (aj st)),some (.int (h:Nat)),some (.tup (aj left)),some (.tup (aj bst)),some (.int s),some (.int (T h s:Nat)),some (.tup (aj (s::f s)))],S5):=bS (yP (x:= [s]) (y:=f s) (Gw (var_eq rfl)) (zS (var_eq rfl) (var_eq rfl) (var_eq rfl) (bZ (f:=iK) (var_eq rfl) (var_eq rfl) e4) e5) (by simp;omega))
   have ec:cOf (m2 oGt (mFn bJ (aa (ab 7) af)) (mFn bJ (aa (ab 4) af))) [some (tab m T),some (.tup (aj st)),some (.int (h:Nat)),some (.tup (aj left)),some (.tup (aj bst)),some (.int s),some (.int (T h s:Nat)),some (.tup (aj (s::f s)))] S5=some (decide (((aj bst).length:Int)<(aj (s::f s)).length),S5):=of_eq (AJ (nv (var_eq rfl)) (nv (var_eq rfl)))
   have x5':=(x4.trans x5)
   by_cases z:bst.length<(s::f s).length
   ·rw[decide_eq_true (by rw[bU,bU];omega)]at ec
    refine⟨_,S',_,S5,rfl,(aP e6).trans ((qh ec).trans (bS (var_eq rfl))),⟨some (.int s),some (.int (T h s:Nat)),some (.tup (aj (s::f s))),?_⟩,x2.trans x5',x5'.some r2⟩
    unfold ldS;rw[if_pos z];rfl
   ·rw[decide_eq_false (by rw[bU,bU];omega)]at ec
    refine⟨_,S',_,S5,rfl,(aP e6).trans ((ip ec).trans rfl),⟨some (.int s),some (.int (T h s:Nat)),some (.tup (aj (s::f s))),?_⟩,x2.trans x5',x5'.some r2⟩
    unfold ldS;rw[if_neg z])
 rw[ak,dR (aq _)]at e2
 refine⟨S2,bM (ρ:= [some (tab m T),some (.tup (aj st)),some (.int (h:Nat)),some (.tup (aj left)),some (.tup (aj ((gos T st h left).foldl (ldS f) []))),a,b,c]) rfl ?_,x2⟩
 exact(aP (bS (show fN af _ _=_ from rfl))).trans ((aP e2).trans (bN (var_eq rfl)))
theorem J3(gr:Grp m T)(hs: ∀s∈st,s<m)(hsl:st.length<1000)(hm:m<500): ∀(k n h:Nat) (left:List Nat) (S:Sto),k<n->left.length=k->left.Nodup->(∀x∈left,x<m)->h<m ->
  ∃S',jw 4 8 eQ n [tab m T,.tup (aj st),.int (h:Nat),.tup (aj left)] S=some (.tup (aj (ldF T st k h left)),S')/\Ex S S'
 | _,0,_,_,_,hn,_,_,_,_=>by omega
 | 0,n+1,h,left,S,hn,hl,nd,hlt,hh=>by
   have:=Bk (T:=T) (st:=st) (S:=S) (f:=λ_ =>[]) (n:=n) (left:=left) hh hs hsl (by omega) (λs hsm=>by
    rw[eB.mp hl]at hsm
    simp[gos]at hsm)
   have e0:gos T st h left = []:=by rw[eB.mp hl];simp[gos]
   rw[e0]at this
   exact this
 | k+1,n+1,h,left,S,hn,hl,nd,hlt,hh=>by
   have hb:=pw m left nd hlt
   exact Bk (T:=T) (st:=st) (S:=S) (f:=λs=>ldF T st k (T h s) (left.filter λy => !decide (y=T h s))) (n:=n) (left:=left) hh hs hsl (by omega) (λs hsm S=>by
    obtain⟨hs1,hs2⟩:=bu.mp hsm
    have hs2:T h s∈left:=of_decide_eq_true hs2
    obtain⟨S5,e5,x5⟩:=J3 gr hs hsl hm k n (T h s) (left.filter λy => !decide (y=T h s)) S (by omega) (by have:=qr nd hs2;omega) (nd.filter _) (λx hx=>hlt x (bu.mp hx).1) (gr.cl h s hh (hs s hs1))
    exact⟨S5,e5,x5,by have:=yf (T:=T) (st:=st) k (T h s) (left.filter λy => !decide (y=T h s));omega⟩)
noncomputable def ldW(m:Nat)(T:Nat->Nat->Nat)(st:List Nat):List Nat:=ldF T st (m - 1) 0 (aO 1 (m - 1))
theorem OE(g:Grp m T)(hm:m<=8)(hs: ∀s∈st,s<m)(hsl:st.length<1000): ∃S',iu [tab m T,.tup (aj st)] S=some (.tup (aj (ldW m T st)),S')/\Ex S S':=by
 have hp:=g.pos
 obtain⟨S1,e1,x1⟩:=J3 (T:=T) (st:=st) g hs hsl (by omega) (m - 1) 14 0 (aO 1 (m - 1)) S (by omega) (by simp) eY (λx hx=>by have:=dQ.mp hx;omega) hp
 refine⟨S1,bM (ρ:= [some (tab m T),some (.tup (aj st))]) rfl ?_,x1⟩
 exact(aP (rh hm)).trans (bN (zS (f:=kq) (var_eq rfl) (var_eq rfl) (c_i (z:=0)) (gW (f:=dH) (var_eq rfl) (tm hp (by omega))) e1))
theorem N0(g:Grp m T)(hs: ∀s∈st,s<m):Lon T st ([],[0]) (ldW m T st):=FL g hs (m - 1) ([],[0]) _ (by simp) (by simpa using g.pos) (qT g.pos) (by simp)
end
end
section
open _L _G
section
variable {m:Nat}{T:Nat->Nat->Nat}{st:List Nat}{S S1:Sto}{ρ:Rho}{a:ME}
theorem Bp{r:Nat}{us:List U}(ha:a ρ S=some (.ref r,S1))(hr:S1[r]? = some (Cell.lst us)):mFn bJ (aa a af) ρ S=some (.int us.length,S1):=
 gW ha (by simp only[bJ,fP,d0,getL,hr,aR])
end
section
variable {m:Nat}{T:Nat->Nat->Nat}{st:List Nat}
theorem lK{a:bf}{S:Sto}(gr:Grp m T)(hm:m<=8)(hs: ∀s∈st,s<m)(hsl:st.length<1000)(hz:eW st.length (m - 1)<=9000): ∃S',eZ a [tab m T,.tup (aj st)] S=some (.int ((jm m T st).length:Nat),S')/\Ex S S':=by
 obtain⟨r,S1,e1,x1,l1,q1⟩:=wX (a:=a) (S:=S) (last:=oJ) (φ:=dg) gr (by omega) hs hsl hz (λh w e=>by cases e;exact⟨by decide,λx hx=>absurd hx jy⟩) (λh S hh=>rfl)
 have e2:=Bp e1 q1
 unfold tups at e2
 rw[ak]at e2
 exact⟨S1,bM (ρ:= [some (tab m T),some (.tup (aj st))]) rfl ((aP (rh (k:=8) hm)).trans (bN e2)),x1⟩
theorem jD{a:bf}{S:Sto}(gr:Grp m T)(hm:m<=8)(hs: ∀s∈st,s<m)(hsl:st.length<1000)(hz:eW st.length (m - 1)<=9000): ∃S',et a [tab m T,.tup (aj st)] S=some (.int ((jI m T st).length:Nat),S')/\Ex S S':=by
 obtain⟨r,S1,e1,x1,l1,q1⟩:=wX (a:=a) (S:=S) (last:=jE m T st) (φ:=cn) gr (by omega) hs hsl hz (HC hs) (λh S hh=>Kg gr hh)
 have e2:=Bp e1 q1
 unfold tups at e2
 rw[ak]at e2
 exact⟨S1,bM (ρ:= [some (tab m T),some (.tup (aj st))]) rfl ((aP (rh (k:=8) hm)).trans (bN e2)),x1⟩
end
end
section
open _L _G
theorem qy{b c:Nat}(h:b<=c): ∀{j k:Nat},j<=k->eW b j<=eW c k
 | 0,k,_=>w9
 | j+1,0,h2=>by omega
 | j+1,k+1,h2=>by
   unfold eW
   have:=Nat.mul_le_mul h (qy h (j:=j) (k:=k) (by omega))
   omega
end
section
open _L _G
theorem sub_len: ∀{a b:List (List Nat)},a.Nodup->(∀x∈a,x∈b)->a.length<=b.length
 | [],b,_,_=>dc _
 | x::a,b,nd,h=>by
   have nd':=eC.mp nd
   have hx:=h x (by simp)
   have ih:=sub_len (a:=a) (b:=b.erase x) nd'.2 λy hy=>by
    have hne:y≠x:=λe=>nd'.1 (e▸hy)
    exact(List.mem_erase_of_ne hne).mpr (h y (aw _ hy))
   have hl:=Cr hx
   have hp:=oZ hx
   rw[bg];omega
theorem lF{A B:List (List Nat)}{f:List Nat->List Nat}(nd:A.Nodup)(h: ∀w∈A,f w∈B)(inj: ∀u∈A,∀v∈A,f u=f v->u=v):A.length<=B.length:=by
 have:=sub_len (a:=A.map f) (b:=B) (by
  rw[bL,cQ]
  exact jX (λha hb hab e=>hab (inj _ ha _ hb e)) (bL.mp nd)) (λx hx=>by
  obtain⟨w,hw,rfl⟩:=aH.mp hx
  exact h w hw)
 simpa using this
theorem yS: ∀{a b:List Int},HT.lexLt a b=true->HT.lexLt b a=false
 | [],[],h=>by cases h
 | [],y::b,_=>rfl
 | x::a,[],h=>by cases h
 | x::a,y::b,h=>by
   rw[HT.lexLt_cons]at h ⊢
   by_cases e:x=y
   ·rw[if_pos e]at h;rw[if_pos e.symm];exact yS h
   ·rw[if_neg e]at h;rw[if_neg (eG e)]
    have:=of_decide_eq_true h
    exact decide_eq_false (by omega)
section
variable {m:Nat}{T:Nat->Nat->Nat}{st:List Nat}
theorem uV{last:Nat->Option (List Nat)}(hst:st.Pairwise (· < ·)): ∀(k h:Nat) (left:List Nat),((iJ T st last k h left).map di).Pairwise λa b=>HT.lexLt a b=true
 | 0,h,left=>by
   unfold iJ
   cases last h <;> simp
 | k+1,h,left=>by
   unfold iJ
   rw[cQ,List.pairwise_flatMap]
   refine⟨λs _ =>?_,(hst.filter _).imp λ{s t} hlt =>?_⟩
   ·have:=uV (last:=last) hst k (T h s) (left.filter λy => !decide (y=T h s))
    rw[cQ]at this ⊢
    refine this.imp λ{u v} huv =>?_
    show HT.lexLt ((s:Int)::di u) ((s:Int)::di v)=true
    rw[HT.lexLt_cons,if_pos rfl];exact huv
   ·intro x hx y hy
    obtain⟨u,_,rfl⟩:=aH.mp hx
    obtain⟨v,_,rfl⟩:=aH.mp hy
    show HT.lexLt ((s:Int)::di u) ((t:Int)::di v)=true
    rw[HT.lexLt_cons,if_neg (by omega)];exact decide_eq_true (by omega)
theorem o7{last:Nat->Option (List Nat)}(hst:st.Pairwise (· < ·))(k h:Nat)(left:List Nat):(iJ T st last k h left).Nodup:=by
 have r:=uV (T:=T) (last:=last) hst k h left
 rw[cQ]at r
 exact bL.mpr (r.imp λ{u v} h e=>by rw[e,qH]at h;cases h)
theorem zp{last:Nat->Option (List Nat)}(hst:st.Pairwise (· < ·)){k h:Nat}{left w:List Nat}(hd:(iJ T st last k h left).head? = some w){v:List Nat}(hv:v∈iJ T st last k h left):HT.lexLt (di v) (di w)=false:=by
 have r:=uV (T:=T) (last:=last) hst k h left
 cases q:iJ T st last k h left with
 | nil=>rw[q]at hv;cases hv
 | cons a l=>
   rw[q]at hd hv r
   cases hd
   rw[bE,tR]at r
   rcases aK.mp hv with e |hv
   ·rw[e];exact qH _
   ·exact yS (r.1 _ (aH.mpr ⟨v,hv,rfl⟩))
theorem Kv{a b:List Nat}:(plc T (a++b)).take (a.length+1)=plc T a:=by
 unfold plc
 rw[<- s9,List.take_range,pO (by simp)]
 refine aM λk hk =>?_
 have:=bp.mp hk
 rw[eh (by omega)]
theorem uM{L:Nod->List (List Nat)}{z:List Nat}: ∀(w p:List Nat),(∀x∈w,x∈st)->(plc T (p++w)).Nodup->z∈L (p++w,plc T (p++w))->z∈ku T st L w.length (p,plc T p)
 | [],p,_,_,h=>by rw[iB]at h;exact h
 | s::w,p,hs,hn,h=>by
   have e:p++s::w=p++[s]++w:=by simp
   rw[e]at hn h
   have ih:=uM (L:=L) (z:=z) w (p++[s]) (λx hx=>hs x (aw _ hx)) hn h
   have hn1:(plc T (p++[s])).Nodup:=by
    have:=Kv (T:=T) (a:=p++[s]) (b:=w)
    rw[<- this]
    exact List.Pairwise.sublist (vC _ _) hn
   rw[mQ,eA]at hn1
   show z∈(kids T st (p,plc T p)).flatMap (ku T st L w.length)
   refine xi.mpr ⟨_,aH.mpr ⟨s,bu.mpr ⟨hs s (by simp),?_⟩,rfl⟩,?_⟩
   ·show(!decide (T (bY (plc T p)) s∈plc T p))=true
    rw[kH]
    have:T (dq T p) s∉plc T p:=λz=>hn1.2.2 _ z _ (by simp) rfl
    simp[this]
   ·show z∈ku T st L w.length (p++[s],plc T p++[T (bY (plc T p)) s])
    rw[kH,<- mQ];exact ih
theorem EN{w:List Nat}{x:Nat}:pre T (w++[x])=plc T w:=by
 have h1:=mQ (T:=T) (w:=w) (x:=x)
 rw[j2]at h1
 exact(List.append_inj' h1 rfl).1
theorem tZ{α:Type}{l:List α}(h:0<l.length): ∃a b,l=a++[b]:=tD (List.length_pos_iff.mp h)
theorem yL{w:List Nat}(g:Grp m T)(h:Rnd m T w)(hl:w.length=m)(hs: ∀x∈w,x∈st):w∈ku T st (CU T st) (m - 1) ([],[0]):=by
 obtain⟨v,x,rfl⟩:=tZ (l:=w) (by rw[hl];exact g.pos)
 have h1:v.length=m - 1:=by simp at hl;omega
 have h2:=h.home
 rw[kM]at h2
 have h3:=h.all.nd
 rw[EN]at h3
 rw[<- h1]
 refine uM v [] (λy hy=>hs y (bb _ hy)) h3 ?_
 refine aH.mpr ⟨x,bu.mpr ⟨hs x (by simp),?_⟩,rfl⟩
 show decide (T (bY (plc T v)) x=0)=true
 rw[kH,h2];rfl
theorem ee(g:Grp m T)(hs:Lt m st){w:List Nat}:w∈jm m T st↔Way m T w/\(∀x∈w,x∈st)/\w.length=m - 1:=by
 rw[<- xm g hs]
 constructor
 ·exact Dt g hs
 ·rintro ⟨h1,h2,h3⟩
  rw[<- h3]
  exact uM (L:=su) w [] h2 h1.nd (by simp[su])
theorem dP(g:Grp m T)(hs:Lt m st)(nd:st.Nodup){w:List Nat}:w∈jI m T st↔Rnd m T w/\(∀x∈w,x∈st)/\w.length=m:=by
 rw[<- B8 g hs nd]
 exact⟨yT g hs,fun⟨h1,h2,h3⟩=>yL g h1 h3 h2⟩
theorem kc(h:st.Pairwise (· < ·)):st.Nodup:=bL.mpr (h.imp λ{a b} hab=>by omega)
theorem fA{w:List Nat}(hs:Lt m st)(h: ∀x∈w,x∈st):Lt m w:=λx hx=>hs x (h x hx)
theorem Cf{us:List Nat}(g:Grp m T)(hs:Lt m st)(hst:st.Pairwise (· < ·))(hu:Lt m us)(h: ∀x∈st,unT m T x∈us):(jm m T st).length<=(jm m T us).length:=by
 refine lF (f:=bk m T) (o7 hst _ _ _) (λw hw =>?_) λu hu' v hv e =>?_
 ·obtain⟨h1,h2,h3⟩:=(ee g hs).mp hw
  refine(ee g hu).mpr ⟨h1.bk g (fA hs h2),λx hx =>?_,by rw[uj];exact h3⟩
  obtain⟨y,hy,rfl⟩:=aH.mp hx
  exact h y (h2 y (fo.mp hy))
 ·have l1:=fA hs ((ee g hs).mp hu').2.1
  have l2:=fA hs ((ee g hs).mp hv).2.1
  rw[<- BC g l1,<- BC g l2,e]
theorem Br{us:List Nat}(g:Grp m T)(hs:Lt m st)(hst:st.Pairwise (· < ·))(hu:Lt m us)(hut:us.Pairwise (· < ·))(h: ∀x∈st,unT m T x∈us):(jI m T st).length<=(jI m T us).length:=by
 refine lF (f:=bk m T) (o7 hst _ _ _) (λw hw =>?_) λu hu' v hv e =>?_
 ·obtain⟨h1,h2,h3⟩:=(dP g hs (kc hst)).mp hw
  refine(dP g hu (kc hut)).mpr ⟨h1.bk g (fA hs h2),λx hx =>?_,by rw[uj];exact h3⟩
  obtain⟨y,hy,rfl⟩:=aH.mp hx
  exact h y (h2 y (fo.mp hy))
 ·have l1:=fA hs ((dP g hs (kc hst)).mp hu').2.1
  have l2:=fA hs ((dP g hs (kc hst)).mp hv).2.1
  rw[<- BC g l1,<- BC g l2,e]
theorem FM{w:List Nat}(h:srt w=w)(nd:w.Nodup):w.Pairwise (· < ·):=by
 have h1:(srt w).Pairwise (· <= ·):=by
  unfold srt
  exact cQ.mpr ((uO (di w)).imp λ{a b} hab=>by omega)
 rw[h]at h1
 exact(h1.and (bL.mp nd)).imp λ{a b} hab=>by omega
theorem qG{f:Nat->Nat}(hst:st.Pairwise (· < ·))(hs:Lt m st)(inj: ∀x y,x<m->y<m->f x=f y->x=y):(srt (st.map f)).Pairwise (· < ·):=by
 refine FM Ee ((jQ _).nodup_iff.mpr ?_)
 rw[bL,cQ]
 exact jX (λha hb hab e=>by have:=inj _ _ (hs _ ha) (hs _ hb) e;omega) hst
theorem A1(g:Grp m T)(x y:Nat)(hx:x<m)(hy:y<m)(e:unT m T x=unT m T y):x=y:=by rw[<- Cc g hx,<- Cc g hy,e]
theorem yy(g:Grp m T)(hs:Lt m st):Lt m (srt (st.map (unT m T))):=λx hx=>by
 obtain⟨y,hy,rfl⟩:=aH.mp (j7.mp hx)
 exact rV g (hs y hy)
theorem BY(g:Grp m T)(hs:Lt m st): ∀x∈srt (st.map (unT m T)),unT m T x∈st:=λx hx=>by
 obtain⟨y,hy,rfl⟩:=aH.mp (j7.mp hx)
 rw[Cc g (hs y hy)];exact hy
theorem Fh: ∀x∈st,unT m T x∈srt (st.map (unT m T)):=λx hx=>j7.mpr (aH.mpr ⟨x,hx,rfl⟩)
theorem Jw(g:Grp m T)(hs:Lt m st)(hst:st.Pairwise (· < ·)):(jm m T (srt (st.map (unT m T)))).length=(jm m T st).length:=
 pP (Cf g (yy g hs) (qG hst hs (A1 g)) hs (BY g hs)) (Cf g hs hst (yy g hs) Fh)
theorem JC(g:Grp m T)(hs:Lt m st)(hst:st.Pairwise (· < ·)):(jI m T (srt (st.map (unT m T)))).length=(jI m T st).length:=
 pP (Br g (yy g hs) (qG hst hs (A1 g)) hs hst (BY g hs)) (Br g hs hst (yy g hs) (qG hst hs (A1 g)) Fh)
theorem E7{o p:Nat->Nat}(g:Grp m T)(h:Ord m o p){w:List Nat}(hw:Lt m w):pre (dv T o p) (w.map p)=(pre T w).map p:=by
 unfold pre
 rw[ak,bF]
 refine aM λk _ =>?_
 show((w.map p).take k).foldl (dv T o p) 0=p ((w.take k).foldl T 0)
 rw[<- s9]
 have:=tI g h (w.take k) 0 g.pos (hw.tk k)
 rwa[GJ g h]at this
theorem Kf{o p:Nat->Nat}(g:Grp m T)(h:Ord m o p){w:List Nat}(hw:Lt m w):dq (dv T o p) (w.map p)=p (dq T w):=by
 have:=tI g h w 0 g.pos hw
 rwa[GJ g h]at this
theorem xD{o p:Nat->Nat}(h:Ord m o p){w:List Nat}(hw:Lt m w):(w.map p).map o=w:=by
 rw[bF]
 have:w.map (o∘p)=w.map id:=aM λx hx=>h.op x (hw x hx)
 rw[this,mq]
theorem pA{o p:Nat->Nat}(h:Ord m o p){w:List Nat}(hw:Lt m w):(w.map o).map p=w:=by
 rw[bF]
 have:w.map (p∘o)=w.map id:=aM λx hx=>h.po x (hw x hx)
 rw[this,mq]
theorem Gv{o p:Nat->Nat}(h:Ord m o p)(hs:Lt m st):Lt m (srt (st.map p)):=λx hx=>by
 obtain⟨y,hy,rfl⟩:=aH.mp (j7.mp hx)
 exact h.pl y (hs y hy)
theorem Pk{o p:Nat->Nat}(h:Ord m o p){w:List Nat}(hw:Lt m w):Lt m (w.map o):=λx hx=>by
 obtain⟨y,hy,rfl⟩:=aH.mp hx
 exact h.ol y (hw y hy)
theorem OZ{o p:Nat->Nat}(h:Ord m o p)(hs:Lt m st){w:List Nat}(hw: ∀x∈w,x∈srt (st.map p)): ∀x∈w.map o,x∈st:=λx hx=>by
 obtain⟨y,hy,rfl⟩:=aH.mp hx
 obtain⟨z,hz,rfl⟩:=aH.mp (j7.mp (hw y hy))
 rw[h.op z (hs z hz)];exact hz
theorem Oz{p:Nat->Nat}{w:List Nat}(hw: ∀x∈w,x∈st): ∀x∈w.map p,x∈srt (st.map p):=λx hx=>by
 obtain⟨y,hy,rfl⟩:=aH.mp hx
 exact j7.mpr (aH.mpr ⟨y,hw y hy,rfl⟩)
theorem Bf{o p:Nat->Nat}(h:Ord m o p)(hs:Lt m st)(hst:st.Pairwise (· < ·)):(srt (st.map p)).Pairwise (· < ·):=qG hst hs λx y hx hy e=>xR h hx hy e
theorem HM{o p:Nat->Nat}(g:Grp m T)(h:Ord m o p)(hs:Lt m st)(hst:st.Pairwise (· < ·)):(jm m (dv T o p) (srt (st.map p))).length=(jm m T st).length:=by
 have g':=n8 g h
 have hs':=Gv h hs
 refine pP (lF (f:=λw=>w.map o) (o7 (Bf h hs hst) _ _ _) (λw hw =>?_) λu hu v hv e =>?_) (lF (f:=λw=>w.map p) (o7 hst _ _ _) (λw hw =>?_) λu hu v hv e =>?_)
 ·obtain⟨h1,h2,h3⟩:=(ee g' hs').mp hw
  have lw:=fA hs' h2
  have lo:=Pk h lw
  refine(ee g hs).mpr ⟨?_,OZ h hs h2,by rw[ak];exact h3⟩
  have h1':All m (plc (dv T o p) w):=h1
  rw[<- pA h lw,EH g h lo]at h1'
  exact h1'.unmap (qS g lo)
 ·have l1:=fA hs' ((ee g' hs').mp hu).2.1
  have l2:=fA hs' ((ee g' hs').mp hv).2.1
  rw[<- pA h l1,<- pA h l2];exact congrArg _ e
 ·obtain⟨h1,h2,h3⟩:=(ee g hs).mp hw
  exact(ee g' hs').mpr ⟨h1.named g h (fA hs h2),Oz h2,by rw[ak];exact h3⟩
 ·have l1:=fA hs ((ee g hs).mp hu).2.1
  have l2:=fA hs ((ee g hs).mp hv).2.1
  rw[<- xD h l1,<- xD h l2];exact congrArg _ e
theorem IY{o p:Nat->Nat}(g:Grp m T)(h:Ord m o p)(hs:Lt m st)(hst:st.Pairwise (· < ·)):(jI m (dv T o p) (srt (st.map p))).length=(jI m T st).length:=by
 have g':=n8 g h
 have hs':=Gv h hs
 have nd:=kc hst
 have nd':=kc (Bf h hs hst)
 refine pP (lF (f:=λw=>w.map o) (o7 (Bf h hs hst) _ _ _) (λw hw =>?_) λu hu v hv e =>?_) (lF (f:=λw=>w.map p) (o7 hst _ _ _) (λw hw =>?_) λu hu v hv e =>?_)
 ·obtain⟨⟨h0,h1⟩,h2,h3⟩:=(dP g' hs' nd').mp hw
  have lw:=fA hs' h2
  have lo:=Pk h lw
  rw[<- pA h lw,E7 g h lo]at h1
  rw[<- pA h lw,Kf g h lo]at h0
  refine(dP g hs nd).mpr ⟨⟨xR h (nq g lo) g.pos (by rw[h0,GJ g h]),h1.unmap (AV g lo)⟩,OZ h hs h2,by rw[ak];exact h3⟩
 ·have l1:=fA hs' ((dP g' hs' nd').mp hu).2.1
  have l2:=fA hs' ((dP g' hs' nd').mp hv).2.1
  rw[<- pA h l1,<- pA h l2];exact congrArg _ e
 ·obtain⟨⟨h0,h1⟩,h2,h3⟩:=(dP g hs nd).mp hw
  have lw:=fA hs h2
  refine(dP g' hs' nd').mpr ⟨⟨by rw[Kf g h lw,h0,GJ g h],?_⟩,Oz h2,by rw[ak];exact h3⟩
  rw[E7 g h lw]
  exact h1.map (λx hx=>h.pl x hx) λx y hx hy e=>xR h hx hy e
 ·have l1:=fA hs ((dP g hs nd).mp hu).2.1
  have l2:=fA hs ((dP g hs nd).mp hv).2.1
  rw[<- xD h l1,<- xD h l2];exact congrArg _ e
theorem qc(g:Grp m T)(hs:Lt m st)(hst:st.Pairwise (· < ·)){w:List Nat}(hw:w∈jI m T st): ∃v x,w=v++[x]/\v∈jm m T st/\x=unT m T (dq T v):=by
 obtain⟨h1,h2,h3⟩:=(dP g hs (kc hst)).mp hw
 obtain⟨v,x,rfl⟩:=tZ (l:=w) (by rw[h3];exact g.pos)
 have l1:=fA hs h2
 have lv:Lt m v:=λy hy=>l1 y (bb _ hy)
 refine⟨v,x,rfl,(ee g hs).mpr ⟨h1.way,λy hy=>h2 y (bb _ hy),by simp at h3;omega⟩,?_⟩
 have:=h1.home
 rw[kM]at this
 exact yO g (nq g lv) (l1 x (by simp)) this
theorem DC(g:Grp m T)(hs:Lt m st)(hst:st.Pairwise (· < ·)):(jI m T st).length<=(jm m T st).length:=by
 refine lF (f:=List.dropLast) (o7 hst _ _ _) (λw hw =>?_) λu hu v hv e =>?_
 ·obtain⟨v,x,rfl,hv,_⟩:=qc g hs hst hw
  rw[jT];exact hv
 ·obtain⟨a,x,rfl,_,hx⟩:=qc g hs hst hu
  obtain⟨b,y,rfl,_,hy⟩:=qc g hs hst hv
  rw[jT,jT]at e
  rw[hx,hy,e]
theorem IA(g:Grp m T)(hs:Lt m st)(hst:st.Pairwise (· < ·)){w:List Nat}(hw:w∈jI m T st)(k:Nat):w.drop k++w.take k∈jI m T st:=by
 obtain⟨h1,h2,h3⟩:=(dP g hs (kc hst)).mp hw
 have l1:=fA hs h2
 refine(dP g hs (kc hst)).mpr ⟨Rnd.begun g (l1.tk k) (l1.dr k) (by rw[G3];exact h1),λx hx =>?_,?_⟩
 ·rcases bo.mp hx with hx |hx
  ·exact h2 x (Hd hx)
  ·exact h2 x (qQ hx)
 ·rw[aV,pK,<- aV,G3];exact h3
end
end
section
open _L _G
section
variable {m:Nat}{T:Nat->Nat->Nat}{st:List Nat}{S:Sto}
theorem u7: ∀(k:Nat) (p:Nod),ku T st su k p=(lev T st k p).map vD
 | 0,p=>rfl
 | k+1,p=>by
   show(kids T st p).flatMap (ku T st su k)=((kids T st p).flatMap (lev T st k)).map vD
   rw[List.map_flatMap]
   congr 1
   funext q
   exact u7 k q
theorem xw(g:Grp m T)(hs:Lt m st):jm m T st=(lev T st (m - 1) ([],[0])).map vD:=by rw[<- xm g hs,u7]
theorem L7(g:Grp m T)(hs:Lt m st):(jm m T st = []->(ldW m T st).length<m - 1)/\(jm m T st≠[]->(jm m T st).head? = some (ldW m T st)):=by
 have lo:=N0 g hs
 have hl:=yf (T:=T) (st:=st) (m - 1) 0 (aO 1 (m - 1))
 have hl:(ldW m T st).length<=m - 1:=hl
 obtain⟨q,l,e1,e2⟩:=lo.hd
 refine⟨λh =>?_,λh =>?_⟩
 ·apply kB
  intro z
  have:(ldW m T st).length=m - 1:=by omega
  rw[this]at e1
  rw[xw g hs,e1]at h
  simp at h
 ·have:(ldW m T st).length=m - 1:=by
   apply kB
   intro z
   have:=p7 lo.no (j:=m - 1) (by omega)
   rw[xw g hs,this]at h
   exact h rfl
  rw[this]at e1
  rw[xw g hs,e1]
  simpa using e2
theorem NP(g:Grp m T)(hs:Lt m st):(plc T (ldW m T st)).Nodup/\Lt m (ldW m T st):=by
 obtain⟨q,l,e1,e2⟩:=(N0 g hs).hd
 have hm:ldW m T st∈ku T st su (ldW m T st).length ([],[0]):=by
  rw[u7,e1]
  simp[e2]
 obtain⟨r,g1,_,g3⟩:=tu _ _ _ uo hm
 have e:ldW m T st=r.1:=by simpa [su]using g3
 rw[e]
 exact⟨by rw[<- g1.pl];exact g1.nd,λx hx=>hs x (g1.by' x hx)⟩
theorem BJ(g:Grp m T)(hs:Lt m st):IX m T st=(jm m T st).head? := by rw[<- Ek g hs,xm g hs]
theorem By(g:Grp m T)(hs:Lt m st)(nd:st.Nodup):Kz m T st=(jI m T st).head? := by rw[<- Ge g hs,B8 g hs nd]
end
end
section
open _L _G
section
variable {m:Nat}{T:Nat->Nat->Nat}{st:List Nat}{S:Sto}
theorem P6{w:List Nat}(g:Grp m T)(hw:Lt m w)(hl:w.length<10000000): ∃S',jz [tab m T,.tup (aj w)] S=some (.tup (aj (plc T w)),S')/\Ex S S':=EU g hw hl
theorem NH(g:Grp m T)(hs:Lt m st)(hl:st.length<64): ∃S',eD [tab m T,.tup (aj st)] S=some (.tup (aj (srt (st.map (unT m T)))),S')/\Ex S S':=Oe g hs hl
theorem Qx{w:List Nat}(g:Grp m T)(hw:Lt m w)(hl:w.length<10000000): ∃S',ve [tab m T,.tup (aj w)] S=some (.tup (aj (bk m T w)),S')/\Ex S S':=O7 g hw hl
theorem P9{w:List Nat}{k:Nat}(hk:k<=w.length)(hl:w.length<500):gU [.tup (aj w),.int (k:Nat)] S=some (.tup (aj (w.drop k++w.take k)),S):=Pr hk hl
theorem OH{w:List Nat}(g:Grp m T)(hm:m<1000)(hw:Lt m w)(hl:w.length<63)(hs: ∀x∈w,x∈st)(h:Way m T w): ∃S',ja [tab m T,.tup (aj st),.tup (aj w)] S=some (.bl true,S')/\Ex S S':=Qw g hm hw hl hs h
theorem PJ{w:List Nat}(g:Grp m T)(hm:m<1000)(hw:Lt m w)(hl:w.length<63)(h2:2<=w.length)(hs: ∀x∈w,x∈st)(h:Rnd m T w): ∃S',gS [tab m T,.tup (aj st),.tup (aj w)] S=some (.bl true,S')/\Ex S S':=Ql g hm hw hl h2 hs h
theorem Qp{ths:List Nat}(g:Grp m T)(hm:m<64)(ht: ∀z∈ths,z<m): ∃ks S',uL [tab m T,.tup (aj ths)] S=some (.tup (aj (srt ks)),S')/\Ex S S'/\Dfs m T ths ks λ_=>False:=Po g hm ht
theorem QL{l:List Nat}(hm:m<big)(g: ∀i j,i<m->j<m->T i j<m)(ho:ox m l): ∃S',tP [tab m T,.tup (aj l)] S=some (tab m (dv T (oF l) (pF l)),S')/\Ex S S':=MY hm g ho
theorem Jp{n most:Nat}(h:qA n S)(g:Grp m T)(hm:m<60)(hmo:0<most)(hmo2:most<60): ∃w S',jf [.ref n,tab m T,.int (most:Nat)] S=some (.tup (aj w),S')/\Stp n S S'/\(∀x∈w,x<m)/\w.length<=most/\w.length<60/\w.Nodup/\(∀x∈w,x≠0)/\(1<m->w≠[])/\srt w=w:=Dh h g hm hmo hmo2
theorem Qe(g:Grp m T)(hm:m<64)(hs:Lt m st): ∃b S',kG [tab m T,.tup (aj st)] S=some (.bl b,S')/\Ex S S'/\(b=false->jm m T st = []):=by
 obtain⟨ks,S1,e1,x1,d⟩:=Qp (S:=S) g hm hs
 refine⟨decide ((srt ks).length=m),S1,bM (ρ:= [some (tab m T),some (.tup (aj st))]) rfl (bN ?_),x1,λh =>?_⟩
 ·exact yt (ρ:= [some (tab m T),some (.tup (aj st))]) (S:=S) (x:=(srt ks).length) (y:=m) (a:=mFn bJ (aa (mFn uL (aa (ab 0) (aa (ab 1) af))) af)) (b:=mFn bJ (aa (ab 0) af)) (by rw[nv (bZ (f:=uL) (var_eq rfl) (var_eq rfl) e1),bU]) (len_tab (var_eq rfl))
 ·cases q:jm m T st with
  | nil=>rfl
  | cons w r=>
    obtain⟨h1,h2,_⟩:=(ee g hs).mp (show w∈jm m T st by rw[q];simp)
    have hk:(srt ks).length=m:=by
     rw[iW]
     have:=(BE d.nd om λx=>⟨λhx=>bp.mpr (d.lt x hx),λhx=>d.all.mpr (h1.rch h2 (bp.mp hx))⟩).length_eq
     simpa using this
    exact absurd hk (of_decide_eq_false h)
theorem Qt{ρ:Rho}{S S1:Sto}{a:ME}{l:List Nat}(ha:a ρ S=some (.tup (aj l),S1))(h1:l.length<4000):mFn bLS (aa a af) ρ S=some (.int ((ddN l).length:Nat),S1):=by
 refine gW ha ?_
 have ok:He (di l).length:=by unfold di;rw[ak];exact h1
 simp only[bLS,d0,ag,lJ]
 rw[if_pos ok,<- rq]
 simp[di]
theorem J4{ρ:Rho}{S S1:Sto}{a b:MT}(ha:a ρ S=some (false,S1)):pv a b ρ S=some (false,S1):=by simp[pv,ha,aE]
theorem Ka{ρ:Rho}{S S1:Sto}{a b:MT}{r:Option (Bool×Sto)}(ha:a ρ S=some (true,S1))(hb:b ρ S1=r):pv a b ρ S=r:=by simp[pv,ha,aE,hb]
theorem Nj{ρ:Rho}{S S1 S2:Sto}{a b:ME}{x y:Nat}(ha:a ρ S=some (.int x,S1))(hb:b ρ S1=some (.int y,S2)):m2 oLt a b ρ S=some (.bl (decide (x<y)),S2):=by
 rw[Os ha hb]
 congr 3
 simp
theorem Oi{ρ:Rho}{S S1:Sto}{a:ME}{x:Nat}(ha:a ρ S=some (.int x,S1))(h:0<x):m2 u0 a (mC (.int 1)) ρ S=some (.int (x - 1:Nat),S1):=by
 rw[Ei ha c_i]
 congr 3
 omega
theorem Qr{ρ:Rho}{S S1 S2:Sto}{a b:ME}{x y:List Nat}(ha:a ρ S=some (.tup (aj x),S1))(hb:b ρ S1=some (.tup (aj y),S2)):m2 oGt a b ρ S=some (.bl (HT.lexLt (di y) (di x)),S2):=by
 refine op2 ha hb ?_
 simp only[oGt,n9,ag,aR]
theorem Jf{ρ:Rho}{S S1 S2:Sto}{a b:ME}{x:List Nat}(ha:a ρ S=some (.tup (aj x),S1))(hb:b ρ S1=some (.non,S2)):m2 oEq a b ρ S=some (.bl false,S2):=by
 refine op2 ha hb ?_
 have e:toD S2 40 .non=some .none:=rfl
 simp only[oEq,_G.eqU,uN (f:=38),e,ag,aR]
 rfl
theorem vh: ∀(L:List (List Nat)),cH jt (tups L)=some (L.map di)
 | []=>rfl
 | l::L=>by
   show(jt (.tup (aj l))).bind _=_
   simp only[jt,n9,ag]
   have:cH jt (L.map λl=>U.tup (aj l))=some (L.map di):=vh L
   rw[this]
   rfl
theorem GN{ρ:Rho}{S S1:Sto}{a:ME}{r:Nat}{h:List Nat}{L:List (List Nat)}(ha:a ρ S=some (.ref r,S1))(hr:S1[r]? = some (.lst (tups (h::L))))(hl: ∀w∈L,HT.lexLt (di w) (di h)=false):mFn oy (aa a af) ρ S=some (.tup (aj h),S1):=by
 refine gW ha ?_
 have e1:cH oA (tups (h::L))=none:=rfl
 have e2:Mx (tups (h::L))=some (.tup (aj h)):=by
  show(jt (.tup (aj h))).bind _=_
  have e3:=vh L
  unfold tups at e3
  simp only[jt,n9,ag,e3]
  rw[if_pos]
  simp only[List.all_map,bP,yp]
  intro w hw
  rw[hl w hw];rfl
 simp only[oy,getL,hr,ag,e1,e2,Option.bind_none,Option.map_none,aR,Option.none_or]
noncomputable def JE(w:List Nat):Nat->List (List Nat):=λn=>(aB n).map λk=>w.drop k++w.take k
theorem Jy{ρ:Rho}{w:List Nat}(hm:m<=8)(hl:w.length=m)(h0:ρ[0]? = some (some (tab m T)))(h4:ρ[4]? = some (some (.tup (aj w))))(h5:ρ.length=5):cm (iR1 (aa (mFn bJ (aa (ab 0) af)) af)) cTT (mFn gU (aa (ab 4) (aa (ab 5) af))) ρ S=some (.ref S.length,S++[.lst (tups (JE w m))]):=by
 obtain⟨S2,e2,rfl⟩:=Ao (ρ:=ρ) (S:=S) (S0:=S) (a:=mFn bJ (aa (ab 0) af)) (e:=mFn gU (aa (ab 4) (aa (ab 5) af))) (n:=m) (len_tab (var_eq h0)) (by unfold big;omega) (λk => .tup (aj (w.drop k++w.take k))) (λ_ S2=>S2=S) rfl (by
  rintro k S2 hk rfl
  have g4:(ρ++[some (U.int k)])[4]? = some (some (.tup (aj w))):=by rw[aS (by omega)];exact h4
  have g5:(ρ++[some (U.int k)])[5]? = some (some (U.int k)):=by rw[<- h5];exact eP _ _
  exact⟨S2,bZ (f:=gU) (var_eq g4) (var_eq g5) (P9 (by omega) (by omega)),rfl⟩)
 rw[e2]
 simp[JE,tups]
end
end
section
open _L _G
section
variable {m:Nat}{T:Nat->Nat->Nat}{st:List Nat}{S:Sto}
abbrev rA(m:Nat)(T:Nat->Nat->Nat)(st w:List Nat)(v3:Option U)(r:List Nat):Rho:= [some (tab m T),some (.tup (aj st)),some (.tup (aj w)),v3,some (.tup (aj r))]
abbrev rB(m:Nat)(T:Nat->Nat->Nat)(st:List Nat)(o:Option (List Nat))(x:Option U):Rho:= [some (tab m T),some (.tup (aj st)),some (jK o),some (.tup (aj (ldW m T st))),x]
abbrev rC(m:Nat)(T:Nat->Nat->Nat)(st l:List Nat)(a b:Nat)(x y z:Option U):Rho:= [some (tab m T),some (.tup (aj st)),some (.tup (aj l)),some (.int (a:Nat)),some (.int (b:Nat)),x,y,z]
abbrev rU(m:Nat)(T:Nat->Nat->Nat)(st:List Nat):Option U:=some (.tup (aj (srt (st.map (unT m T)))))
abbrev rP(st l:List Nat):Option U:=some (.tup (aj (srt (st.map (pF l)))))
structure Okk(m:Nat)(st:List Nat):Prop where
 lt:Lt m st
 rise:st.Pairwise (· < ·)
 nz: ∀x∈st,x≠0
 few:st.length<=3
theorem Okk.len(h:Okk m st):st.length<1000:=ay h.few (by decide)
theorem JS(g:Grp m T)(h:Okk m st){w:List Nat}(hw:w∈jI m T st):2<=m:=by
 obtain⟨_,h2,h3⟩:=(dP g h.lt (kc h.rise)).mp hw
 obtain⟨v,x,rfl⟩:=tZ (l:=w) (by rw[h3];exact g.pos)
 have:=h2 x (by simp)
 have h4:=h.lt x this
 have h5:=h.nz x this
 omega
noncomputable def Qg(b:bf):MS:=bc (sIf (cOf (m2 oIs (ab 4) (mC .non))) (bH (mC (.bl true))) cP) (bc (sIf (cOr (cOf (m2 oGt (ab 2) (mSl (ab 4) none (some (m1 jn (mC (.int 1))))))) (nA (cOf (mFn ja (aa (ab 0) (aa (ab 1) (aa (mSl (ab 4) none (some (m1 jn (mC (.int 1))))) af))))))) (bH (mC (.bl false))) cP) (bc (sIf (nA (cOf (mFn gS (aa (ab 0) (aa (mFn eD (aa (ab 0) (aa (ab 1) af))) (aa (mFn ve (aa (ab 0) (aa (ab 4) af))) af)))))) (bH (mC (.bl false))) cP) (bH (m2 oEq (mFn oy (aa (cm (iR1 (aa (mFn bJ (aa (ab 0) af)) af)) cTT (mFn gU (aa (ab 4) (aa (ab 5) af)))) af)) (ab 4)))))
theorem HB{b:bf}{w r:List Nat}{v3:Option U}(g:Grp m T)(hm:m<=8)(h:Okk m st)(hw:(jm m T st).head? = some w)(hr:(jI m T st).head? = some r): ∃ρ' S',Qg b (rA m T st w v3 r) S=some (.rt (.bl true),ρ',S')/\Ex S S':=by
 have hrm:r∈jI m T st:=pQ (by rw[hr];rfl)
 obtain⟨r1,r2,r3⟩:=(dP g h.lt (kc h.rise)).mp hrm
 have lr:=fA h.lt r2
 have h2m:=JS g h hrm
 obtain⟨v,x,hvx,hv,_⟩:=qc g h.lt h.rise hrm
 obtain⟨v1,v2,v3'⟩:=(ee g h.lt).mp hv
 have lv:=fA h.lt v2
 have c1:cOf (m2 oIs (ab 4) (mC .non)) (rA m T st w v3 r) S=some (false,S):=of_eq (op2 (f:=oIs) (var_eq rfl) rfl rfl)
 have sl: ∀S',mSl (ab 4) none (some (m1 jn (mC (.int 1)))) (rA m T st w v3 r) S'=some (.tup (aj v),S'):=λS'=>Cg (x:=x) (var_eq (by rw[<- hvx];rfl))
 have c2:=of_eq (Qr (S:=S) (a:=ab 2) (x:=w) (var_eq rfl) (sl S))
 rw[zp h.rise hw hv]at c2
 obtain⟨S1,e1,x1⟩:=OH (S:=S) (st:=st) g (by omega) lv (by omega) v2 v1
 have c3:=not_eq (of_eq (mD (f:=ja) (a:=ab 0) (b:=ab 1) (var_eq rfl) (var_eq rfl) (sl S) e1))
 have c4:=_W.or_false c2 c3
 obtain⟨S2,e2,x2⟩:=NH (S:=S1) (st:=st) g h.lt (by have:=h.few;omega)
 obtain⟨S3,e3,x3⟩:=Qx (S:=S2) (w:=r) g lr (by omega)
 obtain⟨S4,e4,x4⟩:=PJ (S:=S3) (st:=srt (st.map (unT m T))) (w:=bk m T r) g (by omega) (OK g lr) (by rw[uj];omega) (by rw[uj];omega) (λy hy=>by
  obtain⟨z,hz,rfl⟩:=aH.mp hy
  exact Fh z (r2 z (fo.mp hz))) (r1.bk g lr)
 have c5:=not_eq (of_eq (mD (f:=gS) (ρ:=(rA m T st w v3 r)) (S:=S1) (a:=ab 0) (var_eq rfl) (bZ (f:=eD) (a:=ab 0) (b:=ab 1) (var_eq rfl) (var_eq rfl) e2) (bZ (f:=ve) (a:=ab 0) (b:=ab 4) (var_eq rfl) (var_eq rfl) e3) e4))
 have f6:=Jy (T:=T) (S:=S4) (ρ:=(rA m T st w v3 r)) hm r3 rfl rfl rfl
 have hro:JE r m=r::(aO 1 (m - 1)).map λk=>r.drop k++r.take k:=by
  unfold JE
  rw[qO,show m=(m - 1)+1 by omega,oh,bE]
  simp
 rw[hro]at f6
 have f7:=GN f6 (eP _ _) (λu hu=>by
  obtain⟨k,_,rfl⟩:=aH.mp hu
  exact zp h.rise hr (IA g h.lt h.rise hrm k))
 have f8:=L0 (x:=r) (y:=r) f7 (b:=ab 4) (var_eq rfl)
 rw[decide_eq_true rfl]at f8
 exact⟨_,_,(aP ((ip c1).trans rfl)).trans ((aP ((ip c4).trans rfl)).trans ((aP ((ip c5).trans rfl)).trans (bN f8))),(((x1.trans x2).trans x3).trans x4).trans (Ex.push _ _)⟩
theorem M6{a b:bf}(g:Grp m T)(hm:m<=8)(h:Okk m st): ∃S',fg a b [tab m T,.tup (aj st)] S=some (.bl true,S')/\Ex S S':=by
 have hp:=g.pos
 obtain⟨S1,e1,x1⟩:=F4 (a:=a) (T:=T) (st:=st) (S:=S) g (by omega) h.lt h.len
 obtain⟨S2,e2,x2⟩:=OE (T:=T) (st:=st) (S:=S1) g hm h.lt h.len
 obtain⟨hnd,hlt⟩:=NP g h.lt
 have hll:(ldW m T st).length<=m - 1:=yf (T:=T) (st:=st) (m - 1) 0 (aO 1 (m - 1))
 obtain⟨l1,l2⟩:=L7 g h.lt
 have f1:=bS (i:=2) (bZ (f:=gY a) (ρ:= [some (tab m T),some (.tup (aj st)),none,none,none]) (S:=S) (a:=ab 0) (b:=ab 1) (var_eq rfl) (var_eq rfl) e1)
 have f2:=bS (i:=3) (bZ (f:=iu) (ρ:= [some (tab m T),some (.tup (aj st)),some (jK (IX m T st)),none,none]) (S:=S1) (a:=ab 0) (b:=ab 1) (var_eq rfl) (var_eq rfl) e2)
 obtain⟨S3,e3,x3⟩:=P6 (S:=S2) (w:=ldW m T st) g hlt (by omega)
 rw[BJ g h.lt]at f1 f2
 have hdd:(ddN (plc T (ldW m T st))).length=(ldW m T st).length+1:=by
  rw[<- p6 (T:=T)]
  exact(BE (Lh _) hnd λx=>IT).length_eq
 have d2: ∀v2,cOf (m2 oNe (mFn bLS (aa (mFn jz (aa (ab 0) (aa (ab 3) af))) af)) (m2 da (mFn bJ (aa (ab 3) af)) (mC (.int 1)))) [some (tab m T),some (.tup (aj st)),v2,some (.tup (aj (ldW m T st))),none] S2=some (false,S3):=λv2=>by
  have:=of_eq (Jr (ρ:= [some (tab m T),some (.tup (aj st)),v2,some (.tup (aj (ldW m T st))),none]) (S:=S2) (Qt (bZ (f:=jz) (a:=ab 0) (b:=ab 3) (var_eq rfl) (var_eq rfl) e3) (by rw[p6];omega)) (add_n (x:=(ldW m T st).length) (y:=1) (a:=mFn bJ (aa (ab 3) af)) (b:=mC (.int 1)) (by rw[nv (var_eq rfl),bU]) c_i))
  rw[decide_eq_true hdd,iy]at this
  exact this
 obtain⟨S4,e4,x4⟩:=zf (a:=b) (T:=T) (st:=st) (S:=S3) g (by omega) h.lt h.len
 rw[By g h.lt (kc h.rise)]at e4
 cases hw:(jm m T st).head? with
 | none=>
   have hwn:jm m T st = []:=List.head?_eq_none_iff.mp hw
   have hrn:jI m T st = []:=by
    cases q:jI m T st with
    | nil=>rfl
    | cons r l=>
      obtain⟨v,_,_,hv,_⟩:=qc g h.lt h.rise (show r∈jI m T st by rw[q];simp)
      rw[hwn]at hv;cases hv
   rw[hrn]at e4
   have e4:dG b [tab m T,.tup (aj st)] S3=some (.non,S4):=e4
   rw[hw]at f1 f2
   have d1:cOf (m2 oEq (m2 oIs (ab 2) (mC .non)) (m2 oEq (ab 3) (ab 2))) (rB m T st none none) S2=some (false,S2):=of_eq (J1 (x:=true) (y:=false) (op2 (f:=oIs) (var_eq rfl) rfl rfl) (Jf (x:=ldW m T st) (var_eq rfl) (var_eq rfl)))
   have c1:=_W.or_false d1 (d2 _)
   have c2:cOf (m2 oIs (ab 2) (mC .non)) (rB m T st none none) S3=some (true,S3):=of_eq (op2 (f:=oIs) (var_eq rfl) rfl rfl)
   have k1:=Nj (ρ:=(rB m T st none none)) (S:=S3) (a:=mFn bJ (aa (ab 3) af)) (x:=(ldW m T st).length) (by rw[nv (var_eq rfl),bU]) (Oi (a:=mFn bJ (aa (ab 0) af)) (len_tab (var_eq rfl)) hp)
   rw[decide_eq_true (l1 hwn)]at k1
   have k2:m2 oIs (mFn (dG b) (aa (ab 0) (aa (ab 1) af))) (mC .non) (rB m T st none none) S3=some (.bl true,S4):=op2 (f:=oIs) (bZ (f:=dG b) (a:=ab 0) (b:=ab 1) (var_eq rfl) (var_eq rfl) e4) rfl rfl
   have k3:=J9 k1 k2
   refine⟨S4,bM (ρ:=(rB m T st none none)) rfl ?_,((x1.trans x2).trans x3).trans x4⟩
   show fh a b [some (tab m T),some (.tup (aj st)),none,none,none] S=_
   exact(aP f1).trans ((aP f2).trans ((aP ((ip c1).trans rfl)).trans (uI ((qh c2).trans (bN k3)))))
 | some w=>
   have hwn:jm m T st≠[]:=λz=>by rw[z]at hw;cases hw
   have hwl:w=ldW m T st:=by have:=l2 hwn;rw[hw]at this;exact bx this
   have hwm:w∈jm m T st:=pQ (by rw[hw];rfl)
   obtain⟨w1,w2,w3⟩:=(ee g h.lt).mp hwm
   have lw:=fA h.lt w2
   rw[hw]at f1 f2
   have d1:cOf (m2 oEq (m2 oIs (ab 2) (mC .non)) (m2 oEq (ab 3) (ab 2))) (rB m T st (some w) none) S2=some (false,S2):=by
    have k:=L0 (ρ:=(rB m T st (some w) none)) (S:=S2) (a:=ab 3) (b:=ab 2) (x:=ldW m T st) (y:=w) (var_eq rfl) (var_eq rfl)
    rw[decide_eq_true hwl.symm]at k
    exact of_eq (J1 (x:=false) (y:=true) (op2 (f:=oIs) (var_eq rfl) rfl rfl) k)
   have c1:=_W.or_false d1 (d2 _)
   have c2:cOf (m2 oIs (ab 2) (mC .non)) (rB m T st (some w) none) S3=some (false,S3):=of_eq (op2 (f:=oIs) (var_eq rfl) rfl rfl)
   have f4:=bS (i:=4) (bZ (f:=dG b) (ρ:=(rB m T st (some w) none)) (S:=S3) (a:=ab 0) (b:=ab 1) (var_eq rfl) (var_eq rfl) e4)
   obtain⟨S5,e5,x5⟩:=OH (S:=S4) (st:=st) g (by omega) lw (by omega) w2 w1
   cases hr:(jI m T st).head? with
   | none=>
     rw[hr]at f4
     have c5:=not_eq (of_eq (mD (f:=ja) (ρ:=(rB m T st (some w) (some (jK none)))) (S:=S4) (a:=ab 0) (b:=ab 1) (c:=ab 2) (var_eq rfl) (var_eq rfl) (var_eq rfl) e5))
     have c6:cOf (m2 fR (ab 4) (mC .non)) (rB m T st (some w) (some (jK none))) S5=some (false,S5):=of_eq (op2 (f:=fR) (var_eq rfl) rfl rfl)
     have c7:cOf (m2 oIs (ab 4) (mC .non)) (rB m T st (some w) (some (jK none))) S5=some (true,S5):=of_eq (op2 (f:=oIs) (var_eq rfl) rfl rfl)
     refine⟨S5,bM (ρ:=(rB m T st (some w) (some (jK none)))) rfl ?_,(((x1.trans x2).trans x3).trans x4).trans x5⟩
     show fh a b [some (tab m T),some (.tup (aj st)),none,none,none] S=_
     exact(aP f1).trans ((aP f2).trans ((aP ((ip c1).trans rfl)).trans ((aP ((ip c2).trans rfl)).trans ((aP f4).trans ((aP ((ip (_W.or_false c5 (J4 c6))).trans rfl)).trans (uI ((qh c7).trans (bN rfl))))))))
   | some r=>
     have hrm:r∈jI m T st:=pQ (by rw[hr];rfl)
     obtain⟨r1,r2,r3⟩:=(dP g h.lt (kc h.rise)).mp hrm
     have lr:=fA h.lt r2
     have h2m:=JS g h hrm
     rw[hr]at f4
     have c5:=not_eq (of_eq (mD (f:=ja) (ρ:=(rB m T st (some w) (some (jK (some r))))) (S:=S4) (a:=ab 0) (b:=ab 1) (c:=ab 2) (var_eq rfl) (var_eq rfl) (var_eq rfl) e5))
     have c6:cOf (m2 fR (ab 4) (mC .non)) (rB m T st (some w) (some (jK (some r)))) S5=some (true,S5):=of_eq (op2 (f:=fR) (var_eq rfl) rfl rfl)
     obtain⟨S6,e6,x6⟩:=PJ (S:=S5) (st:=st) g (by omega) lr (by omega) (by omega) r2 r1
     have c7:=not_eq (of_eq (mD (f:=gS) (ρ:=(rB m T st (some w) (some (jK (some r))))) (S:=S5) (a:=ab 0) (b:=ab 1) (c:=ab 4) (var_eq rfl) (var_eq rfl) (var_eq rfl) e6))
     obtain⟨ρ7,S7,e7,x7⟩:=HB (b:=b) (S:=S6) (v3:=some (.tup (aj (ldW m T st)))) g hm h hw hr
     refine⟨S7,bM (ρ:=ρ7) rfl ?_,(((((x1.trans x2).trans x3).trans x4).trans x5).trans x6).trans x7⟩
     show fh a b [some (tab m T),some (.tup (aj st)),none,none,none] S=_
     exact(aP f1).trans ((aP f2).trans ((aP ((ip c1).trans rfl)).trans ((aP ((ip c2).trans rfl)).trans ((aP f4).trans ((aP ((ip (_W.or_false c5 (Ka c6 c7))).trans rfl)).trans e7)))))
theorem zV{α:Type}{l:List α}:l.head?.isSome=decide (0<l.length):=by cases l <;> simp
theorem Bu{ρ:Rho}{S S1:Sto}{a:ME}{o:Option (List Nat)}(ha:a ρ S=some (jK o,S1)):m2 fR a (mC .non) ρ S=some (.bl o.isSome,S1):=by
 cases o with
 | none=>exact op2 (f:=fR) ha rfl rfl
 | some w=>exact op2 (f:=fR) ha rfl rfl
theorem Qo(hm:m<=8)(h:st.length<=3):eW st.length (m - 1)<=9000:=aF (qy h (k:=7) (by omega)) (by decide)
theorem Ed{a b:bf}{l:List Nat}(g:Grp m T)(hm:m<=8)(h:Okk m st)(ol:ox m l): ∃S',eE a b [tab m T,.tup (aj st),.tup (aj l)] S=some (.bl true,S')/\Ex S S':=by
 have hf:=h.few
 have od:=ol.ord
 have g':=n8 g od
 have hz:=Qo (m:=m) hm h.few
 have hzu:eW (srt (st.map (unT m T))).length (m - 1)<=9000:=by rw[iW,ak];exact hz
 have hzn:eW (srt (st.map (pF l))).length (m - 1)<=9000:=by rw[iW,ak];exact hz
 obtain⟨S1,e1,x1⟩:=lK (a:=a) (T:=T) (st:=st) (S:=S) g hm h.lt h.len hz
 obtain⟨S2,e2,x2⟩:=jD (a:=b) (T:=T) (st:=st) (S:=S1) g hm h.lt h.len hz
 obtain⟨S3,e3,x3⟩:=F4 (a:=a) (T:=T) (st:=st) (S:=S2) g (by omega) h.lt h.len
 obtain⟨S4,e4,x4⟩:=zf (a:=b) (T:=T) (st:=st) (S:=S3) g (by omega) h.lt h.len
 rw[BJ g h.lt]at e3
 rw[By g h.lt (kc h.rise)]at e4
 obtain⟨S5,e5,x5⟩:=NH (S:=S4) (st:=st) g h.lt (by omega)
 have hul:=yy g h.lt
 obtain⟨S6,e6,x6⟩:=lK (a:=a) (T:=T) (st:=srt (st.map (unT m T))) (S:=S5) g hm hul (by rw[iW,ak];omega) hzu
 obtain⟨S7,e7,x7⟩:=jD (a:=b) (T:=T) (st:=srt (st.map (unT m T))) (S:=S6) g hm hul (by rw[iW,ak];omega) hzu
 rw[Jw g h.lt h.rise]at e6
 rw[JC g h.lt h.rise]at e7
 obtain⟨rb,S8,e8,x8,h8⟩:=Qe (S:=S7) (st:=st) g (by omega) h.lt
 generalize hW:(jm m T st).length=W1 at e1 e6
 generalize hR:(jI m T st).length=R1 at e2 e7
 have hle:R1<=W1:=by rw[<- hW,<- hR];exact DC g h.lt h.rise
 have f1:=bS (i:=3) (bZ (f:=eZ a) (ρ:= [some (tab m T),some (.tup (aj st)),some (.tup (aj l)),none,none,none,none,none]) (S:=S) (a:=ab 0) (b:=ab 1) (var_eq rfl) (var_eq rfl) e1)
 have f2:=bS (i:=4) (bZ (f:=et b) (ρ:= [some (tab m T),some (.tup (aj st)),some (.tup (aj l)),some (.int (W1:Nat)),none,none,none,none]) (S:=S1) (a:=ab 0) (b:=ab 1) (var_eq rfl) (var_eq rfl) e2)
 have c3:=of_eq (Ke (ρ:=(rC m T st l W1 R1 none none none)) (Bu (bZ (f:=gY a) (a:=ab 0) (b:=ab 1) (var_eq rfl) (var_eq rfl) e3)) (Kk (a:=ab 3) (b:=mC (.int 0)) (x:=W1) (y:=0) (var_eq rfl) c_i))
 rw[zV,hW,beq_self_eq_true,iy]at c3
 have c4:=of_eq (Ke (ρ:=(rC m T st l W1 R1 none none none)) (Bu (bZ (f:=dG b) (a:=ab 0) (b:=ab 1) (var_eq rfl) (var_eq rfl) e4)) (Kk (a:=ab 4) (b:=mC (.int 0)) (x:=R1) (y:=0) (var_eq rfl) c_i))
 rw[zV,hR,beq_self_eq_true,iy]at c4
 have f5:=bS (i:=5) (bZ (f:=eD) (ρ:=(rC m T st l W1 R1 none none none)) (S:=S4) (a:=ab 0) (b:=ab 1) (var_eq rfl) (var_eq rfl) e5)
 have d6:=of_eq (Jr (ρ:=(rC m T st l W1 R1 (rU m T st) none none)) (S:=S5) (bZ (f:=eZ a) (a:=ab 0) (b:=ab 5) (var_eq rfl) (var_eq rfl) e6) (b:=ab 3) (y:=W1) (var_eq rfl))
 rw[decide_eq_true rfl,iy]at d6
 have d7:=of_eq (Jr (ρ:=(rC m T st l W1 R1 (rU m T st) none none)) (S:=S6) (bZ (f:=et b) (a:=ab 0) (b:=ab 5) (var_eq rfl) (var_eq rfl) e7) (b:=ab 4) (y:=R1) (var_eq rfl))
 rw[decide_eq_true rfl,iy]at d7
 have d8:=of_eq (Nj (ρ:=(rC m T st l W1 R1 (rU m T st) none none)) (S:=S7) (a:=ab 3) (b:=ab 4) (x:=W1) (y:=R1) (var_eq rfl) (var_eq rfl))
 rw[decide_eq_false (by omega)]at d8
 have c6:=_W.or_false d6 (_W.or_false d7 d8)
 have d9:=not_eq (of_eq (bZ (f:=kG) (ρ:=(rC m T st l W1 R1 (rU m T st) none none)) (S:=S7) (a:=ab 0) (b:=ab 1) (var_eq rfl) (var_eq rfl) e8))
 have c9:pv (nA (cOf (mFn kG (aa (ab 0) (aa (ab 1) af))))) (cOf (m2 oGt (ab 3) (mC (.int 0)))) (rC m T st l W1 R1 (rU m T st) none none) S7=some (false,S8):=by
  cases rb with
  | true=>exact J4 d9
  | false=>
    have k:=of_eq (Kk (ρ:=(rC m T st l W1 R1 (rU m T st) none none)) (S:=S8) (a:=ab 3) (b:=mC (.int 0)) (x:=W1) (y:=0) (var_eq rfl) c_i)
    rw[decide_eq_false (by rw[<- hW,h8 rfl];simp)]at k
    exact Ka d9 k
 have f10:=qu (e:=mMT eO (ab 2) (aa (ab 8) af)) (ρ:=(rC m T st l W1 R1 (rU m T st) none none)) (S:=S8) (a:=ab 1) (l:=st) (f:=λx => .int (pF l x:Nat)) (var_eq rfl) (by omega) (λx hx=>qw (l:=l) (x:=x) (var_eq rfl) (var_eq rfl) (ol.mem.mpr (h.lt x hx)))
 rw[show(st.map λx=>U.int (pF l x:Nat))=aj (st.map (pF l)) by simp[aj]]at f10
 have f11:=bS (i:=6) (eR (tY f10 (eP _ _) (by rw[ak];omega)))
 generalize hS9:S8++[Cell.lst (aj (st.map (pF l)))]++[Cell.lst (aj (srt (st.map (pF l))))]=S9 at f11
 have x9:Ex S8 S9:=by rw[<- hS9];exact(Ex.push _ _).trans (Ex.push _ _)
 obtain⟨S10,e10,x10⟩:=QL (S:=S9) (T:=T) (l:=l) (by unfold big;omega) g.cl ol
 have f12:=bS (i:=7) (bZ (f:=tP) (ρ:=(rC m T st l W1 R1 (rU m T st) (rP st l) none)) (S:=S9) (a:=ab 0) (b:=ab 2) (var_eq rfl) (var_eq rfl) e10)
 have hnl:=Gv od h.lt
 obtain⟨S11,e11,x11⟩:=lK (a:=a) (T:=dv T (oF l) (pF l)) (st:=srt (st.map (pF l))) (S:=S10) g' hm hnl (by rw[iW,ak];omega) hzn
 obtain⟨S12,e12,x12⟩:=jD (a:=b) (T:=dv T (oF l) (pF l)) (st:=srt (st.map (pF l))) (S:=S11) g' hm hnl (by rw[iW,ak];omega) hzn
 rw[HM g od h.lt h.rise,hW]at e11
 rw[IY g od h.lt h.rise,hR]at e12
 have k1:=yt (ρ:=(rC m T st l W1 R1 (rU m T st) (rP st l) (some (tab m (dv T (oF l) (pF l)))))) (S:=S10) (bZ (f:=eZ a) (a:=ab 7) (b:=ab 6) (var_eq rfl) (var_eq rfl) e11) (b:=ab 3) (y:=W1) (var_eq rfl)
 rw[decide_eq_true rfl]at k1
 have k2:=yt (ρ:=(rC m T st l W1 R1 (rU m T st) (rP st l) (some (tab m (dv T (oF l) (pF l)))))) (S:=S11) (bZ (f:=et b) (a:=ab 7) (b:=ab 6) (var_eq rfl) (var_eq rfl) e12) (b:=ab 4) (y:=R1) (var_eq rfl)
 rw[decide_eq_true rfl]at k2
 refine⟨S12,bM (ρ:=(rC m T st l W1 R1 (rU m T st) (rP st l) (some (tab m (dv T (oF l) (pF l)))))) rfl ?_,(((((((((((x1.trans x2).trans x3).trans x4).trans x5).trans x6).trans x7).trans x8).trans x9).trans x10).trans x11).trans x12)⟩
 show gR a b [some (tab m T),some (.tup (aj st)),some (.tup (aj l)),none,none,none,none,none] S=_
 exact(aP f1).trans ((aP f2).trans ((aP ((ip c3).trans rfl)).trans ((aP ((ip c4).trans rfl)).trans ((aP f5).trans ((aP ((ip c6).trans rfl)).trans ((aP ((ip c9).trans rfl)).trans ((aP f11).trans ((aP f12).trans (bN (J9 k1 k2))))))))))
end
theorem Ft(a b:bf)(ns:List Int)(hl:ns.length<=63)(S:Sto)(h1:S.length=1)(h2:getL S 0=some (ns.map U.int)): ∃S',Pz a b [.ref 0] S=some (.bl true,S'):=by
 obtain⟨p,hp,eq⟩:=EB (ρ:= [some (.ref 0),none,none,none,none,none]) (c:=2) h2 rfl hl
 obtain⟨ρ1,S1,e1,_,_⟩:=nZ (i:=1) (a:=mFn zX (aa (mC (.int 1)) (aa (mFn oy (aa (mFn bJ (aa (ab 0) af)) (aa (mC (.int 2)) af))) af))) (n:=p)
  (b:=bc (bI 2 (mFn j1 (aa (ab 0) (aa (ab 1) af)))) (bc (bI 3 (mFn i4 (aa (ab 2) (aa (mC (.int 8)) af)))) (bc (bI 4 (mFn jf (aa (ab 2) (aa (ab 3) (aa (mC (.int 3)) af))))) (bc (bI 5 (mFn fG (aa (ab 2) (aa (mFn bJ (aa (ab 3) af)) af)))) (sIf (cOr (nA (cOf (mFn (fg a b) (aa (ab 3) (aa (ab 4) af))))) (nA (cOf (mFn (eE a b) (aa (ab 3) (aa (ab 4) (aa (ab 5) af))))))) (bH (mC (.bl false))) cP)))))
  (ρ:= [some (.ref 0),none,none,none,none,none]) (S:=S) eq (by unfold big;omega)
  (λk ρ S'=>(∃a b c d e,ρ = [some (.ref 0),a,b,c,d,e])/\Scr ns S') ⟨⟨none,none,none,none,none,rfl⟩,h2⟩
  (by
   rintro k ρ S' hk ⟨⟨u1,u2,u3,u4,u5,rfl⟩,hs⟩
   have h0:=hs.lt
   obtain⟨S2,f2,x2,st2⟩:=E3 (k:=k) hs
   obtain⟨m,T,S3,f3,g,hm,st3⟩:=Gp (most:=8) st2 (by decide) (by decide)
   obtain⟨w,S4,f4,st4,hw,hwl,hwl2,hnd,hnz,_,hsr⟩:=Jp (most:=3) st3.st g (by omega) (by decide) (by decide)
   obtain⟨l,S5,f5,st5,ol⟩:=yB (m:=m) st4.st g.pos (by omega)
   have ok:Okk m w:=⟨hw,FM hsr hnd,hnz,hwl⟩
   obtain⟨S6,f6,x6⟩:=M6 (a:=a) (b:=b) (S:=S5) g hm ok
   obtain⟨S7,f7,x7⟩:=Ed (a:=a) (b:=b) (S:=S6) g hm ok ol
   have g3:=bS (i:=3) (bZ (f:=i4) (ρ:= [some (.ref 0),some (.int k),some (.ref S'.length),u3,u4,u5]) (S:=S2) (a:=ab 2) (b:=mC (.int 8)) (var_eq rfl) c_i f3)
   have g4:=bS (i:=4) (mD (f:=jf) (ρ:= [some (.ref 0),some (.int k),some (.ref S'.length),some (tab m T),u4,u5]) (S:=S3) (a:=ab 2) (b:=ab 3) (c:=mC (.int 3)) (var_eq rfl) (var_eq rfl) c_i f4)
   have g5:=bS (i:=5) (bZ (f:=fG) (ρ:= [some (.ref 0),some (.int k),some (.ref S'.length),some (tab m T),some (.tup (aj w)),u5]) (S:=S4) (a:=ab 2) (b:=mFn bJ (aa (ab 3) af)) (var_eq rfl) (len_tab (var_eq rfl)) f5)
   have c6:=_W.or_false (not_eq (of_eq (bZ (f:=fg a b) (ρ:= [some (.ref 0),some (.int k),some (.ref S'.length),some (tab m T),some (.tup (aj w)),some (.tup (aj l))]) (S:=S5) (a:=ab 3) (b:=ab 4) (var_eq rfl) (var_eq rfl) f6))) (not_eq (of_eq (mD (f:=eE a b) (a:=ab 3) (b:=ab 4) (c:=ab 5) (var_eq rfl) (var_eq rfl) (var_eq rfl) f7)))
   refine⟨_,S7,(aP (bS (bZ (var_eq rfl) (var_eq rfl) f2))).trans ((aP g3).trans ((aP g4).trans ((aP g5).trans ((ip c6).trans rfl)))),⟨_,_,_,_,_,rfl⟩,?_⟩
   exact((hs.ex λc h=>x2.some h).ex λc h=>((st3.trans st4).trans st5).some (by omega) h).ex λc h=>(x6.trans x7).some h)
 exact⟨S1,bM (ρ:=ρ1) rfl ((aP e1).trans (bN rfl))⟩
end
noncomputable def top(i:Nat):Stmt:=PySem.Challenge.pw_groupwalks_k45_whole_walks_found.main.body.getD i (.Pass ⟨0,0,0,0⟩)
abbrev kJ:Stmt:=top 17
abbrev nu:Stmt:=top 7
abbrev jb:Stmt:=top 18
abbrev gy:Stmt:=top 43
abbrev jc:Stmt:=top 44
abbrev jO:Stmt:=top 45
abbrev i3:Stmt:=top 46
abbrev je:Stmt:=top 47
abbrev gH:Stmt:=top 49
abbrev jC:Stmt:=top 48
abbrev iZ:Stmt:=top 51
abbrev i8:Stmt:=top 50
abbrev jd:Stmt:=top 52
abbrev i6:Stmt:=top 53
abbrev gG:Stmt:=top 13
abbrev nj:Stmt:=top 16
abbrev kS:Stmt:=top 15
abbrev i9:Stmt:=top 19
abbrev fK:Stmt:=top 14
abbrev i5:Stmt:=top 20
abbrev gL:Stmt:=top 25
abbrev fL:Stmt:=top 26
abbrev gE:Stmt:=top 21
abbrev eN:Stmt:=top 4
abbrev eg:Stmt:=top 5
abbrev ij:Stmt:=top 35
abbrev mV:Stmt:=top 31
abbrev il:Stmt:=top 6
abbrev eU:Stmt:=top 32
abbrev gF:Stmt:=top 33
abbrev jJ:Stmt:=top 37
abbrev fO:Stmt:=top 34
abbrev m6:Stmt:=top 36
abbrev fI:Stmt:=top 41
abbrev uQ:Stmt:=top 40
abbrev jN:Stmt:=top 39
abbrev fi:Stmt:=top 54
abbrev jL:Stmt:=top 22
abbrev i7:Stmt:=top 23
abbrev gJ:Stmt:=top 24
abbrev jF:Stmt:=top 8
abbrev qp:Stmt:=top 9
abbrev qx:Stmt:=top 28
abbrev ur:Stmt:=top 29
abbrev kR:Stmt:=top 38
abbrev eF:Stmt:=top 55
abbrev Ce:Stmt:=top 56
noncomputable def T0 (a_n a_h:Addr):Tb:=⟨[],[("no_more",.obj a_n),("step_home",.obj a_h),("MOST_TO_FIND",.int 12),("MOST_TO_COUNT",.int 8)],[],[],false,z0⟩
noncomputable def T1 (a_n a_h:Addr):Tb:=⟨("no_more",dg)::(T0 a_n a_h).D,(T0 a_n a_h).C,[],(T0 a_n a_h).H,false,(T0 a_n a_h).Z⟩
noncomputable def T2 (a_n a_h:Addr):Tb:=⟨("undone",qB)::(T1 a_n a_h).D,(T1 a_n a_h).C,[],(T1 a_n a_h).H,false,(T1 a_n a_h).Z⟩
noncomputable def T3 (a_n a_h:Addr):Tb:=⟨("step_home",cn)::(T2 a_n a_h).D,(T2 a_n a_h).C,[],(T2 a_n a_h).H,false,(T2 a_n a_h).Z⟩
noncomputable def T4 (a_n a_h:Addr):Tb:=⟨("_law_cell_at",iX)::(T3 a_n a_h).D,(T3 a_n a_h).C,[],(T3 a_n a_h).H,false,(T3 a_n a_h).Z⟩
noncomputable def T5 (a_n a_h:Addr):Tb:=⟨("_law_state",j1)::(T4 a_n a_h).D,(T4 a_n a_h).C,[],(T4 a_n a_h).H,false,(T4 a_n a_h).Z⟩
noncomputable def T6 (a_n a_h:Addr):Tb:=⟨("_law_take",br)::(T5 a_n a_h).D,(T5 a_n a_h).C,[],(T5 a_n a_h).H,false,(T5 a_n a_h).Z⟩
noncomputable def T7 (a_n a_h:Addr):Tb:=⟨("_law_clock",dM)::(T6 a_n a_h).D,(T6 a_n a_h).C,[],(T6 a_n a_h).H,false,(T6 a_n a_h).Z⟩
noncomputable def T8 (a_n a_h:Addr):Tb:=⟨("_law_flips",fQ)::(T7 a_n a_h).D,(T7 a_n a_h).C,[],(T7 a_n a_h).H,false,(T7 a_n a_h).Z⟩
noncomputable def T9 (a_n a_h:Addr):Tb:=⟨("_law_quarter",gK)::(T8 a_n a_h).D,(T8 a_n a_h).C,[],(T8 a_n a_h).H,false,(T8 a_n a_h).Z⟩
noncomputable def T10 (a_n a_h:Addr):Tb:=⟨("_law_both",lE)::(T9 a_n a_h).D,(T9 a_n a_h).C,[],(T9 a_n a_h).H,false,(T9 a_n a_h).Z⟩
noncomputable def T11 (a_n a_h:Addr):Tb:=⟨("_law_named",j3)::(T10 a_n a_h).D,(T10 a_n a_h).C,[],(T10 a_n a_h).H,false,(T10 a_n a_h).Z⟩
noncomputable def T12 (a_n a_h:Addr):Tb:=⟨("_law_order",fG)::(T11 a_n a_h).D,(T11 a_n a_h).C,[],(T11 a_n a_h).H,false,(T11 a_n a_h).Z⟩
noncomputable def T13 (a_n a_h:Addr):Tb:=⟨("_law_group",i4)::(T12 a_n a_h).D,(T12 a_n a_h).C,[],(T12 a_n a_h).H,false,(T12 a_n a_h).Z⟩
noncomputable def T14 (a_n a_h:Addr):Tb:=⟨("_law_steps",jf)::(T13 a_n a_h).D,(T13 a_n a_h).C,[],(T13 a_n a_h).H,false,(T13 a_n a_h).Z⟩
noncomputable def T15 (a_n a_h:Addr):Tb:=⟨("refuse_more",dF)::(T14 a_n a_h).D,(T14 a_n a_h).C,[],(T14 a_n a_h).H,false,(T14 a_n a_h).Z⟩
noncomputable def T16 (a_n a_h:Addr):Tb:=⟨("goings",kO)::(T15 a_n a_h).D,(T15 a_n a_h).C,[],(T15 a_n a_h).H,false,(T15 a_n a_h).Z⟩
noncomputable def T17 (a_n a_h:Addr):Tb:=⟨("all_but",iK)::(T16 a_n a_h).D,(T16 a_n a_h).C,[],(T16 a_n a_h).H,false,(T16 a_n a_h).Z⟩
noncomputable def T18(a_n a_h:Addr):Tb:=(T17 a_n a_h)
noncomputable def T19 (a_n a_h:Addr):Tb:=⟨("all_but_home",dH)::(T18 a_n a_h).D,(T18 a_n a_h).C,[],(T18 a_n a_h).H,false,(T18 a_n a_h).Z⟩
noncomputable def T20 (a_n a_h:Addr):Tb:=⟨("least_way",(gY a_n))::(T19 a_n a_h).D,(T19 a_n a_h).C,[],(T19 a_n a_h).H,false,(T19 a_n a_h).Z⟩
noncomputable def T21 (a_n a_h:Addr):Tb:=⟨("longest_end",kq)::(T20 a_n a_h).D,(T20 a_n a_h).C,[],(T20 a_n a_h).H,false,(T20 a_n a_h).Z⟩
noncomputable def T22 (a_n a_h:Addr):Tb:=⟨("longest_walk",iu)::(T21 a_n a_h).D,(T21 a_n a_h).C,[],(T21 a_n a_h).H,false,(T21 a_n a_h).Z⟩
noncomputable def T23 (a_n a_h:Addr):Tb:=⟨("least_round",(dG a_h))::(T22 a_n a_h).D,(T22 a_n a_h).C,[],(T22 a_n a_h).H,false,(T22 a_n a_h).Z⟩
noncomputable def T24 (a_n a_h:Addr):Tb:=⟨("is_number_below",j8)::(T23 a_n a_h).D,(T23 a_n a_h).C,[],(T23 a_n a_h).H,false,(T23 a_n a_h).Z⟩
noncomputable def T25 (a_n a_h:Addr):Tb:=⟨("are_numbers_below",gn)::(T24 a_n a_h).D,(T24 a_n a_h).C,[],(T24 a_n a_h).H,false,(T24 a_n a_h).Z⟩
noncomputable def T26 (a_n a_h:Addr):Tb:=⟨("is_walk_by",lA)::(T25 a_n a_h).D,(T25 a_n a_h).C,[],(T25 a_n a_h).H,false,(T25 a_n a_h).Z⟩
noncomputable def T27 (a_n a_h:Addr):Tb:=⟨("places",jz)::(T26 a_n a_h).D,(T26 a_n a_h).C,[],(T26 a_n a_h).H,false,(T26 a_n a_h).Z⟩
noncomputable def T28 (a_n a_h:Addr):Tb:=⟨("all_things",pT)::(T27 a_n a_h).D,(T27 a_n a_h).C,[],(T27 a_n a_h).H,false,(T27 a_n a_h).Z⟩
noncomputable def T29 (a_n a_h:Addr):Tb:=⟨("are_all_things",iH)::(T28 a_n a_h).D,(T28 a_n a_h).C,[],(T28 a_n a_h).H,false,(T28 a_n a_h).Z⟩
noncomputable def T30 (a_n a_h:Addr):Tb:=⟨("comes_round",oK)::(T29 a_n a_h).D,(T29 a_n a_h).C,[],(T29 a_n a_h).H,false,(T29 a_n a_h).Z⟩
noncomputable def T31 (a_n a_h:Addr):Tb:=⟨("is_round",gS)::(T30 a_n a_h).D,(T30 a_n a_h).C,[],(T30 a_n a_h).H,false,(T30 a_n a_h).Z⟩
noncomputable def T32 (a_n a_h:Addr):Tb:=⟨("goes_through",mL)::(T31 a_n a_h).D,(T31 a_n a_h).C,[],(T31 a_n a_h).H,false,(T31 a_n a_h).Z⟩
noncomputable def T33 (a_n a_h:Addr):Tb:=⟨("is_way",ja)::(T32 a_n a_h).D,(T32 a_n a_h).C,[],(T32 a_n a_h).H,false,(T32 a_n a_h).Z⟩
noncomputable def T34 (a_n a_h:Addr):Tb:=⟨("undone_steps",eD)::(T33 a_n a_h).D,(T33 a_n a_h).C,[],(T33 a_n a_h).H,false,(T33 a_n a_h).Z⟩
noncomputable def T35 (a_n a_h:Addr):Tb:=⟨("back",ve)::(T34 a_n a_h).D,(T34 a_n a_h).C,[],(T34 a_n a_h).H,false,(T34 a_n a_h).Z⟩
noncomputable def T36 (a_n a_h:Addr):Tb:=⟨("begun_at",gU)::(T35 a_n a_h).D,(T35 a_n a_h).C,[],(T35 a_n a_h).H,false,(T35 a_n a_h).Z⟩
noncomputable def T37 (a_n a_h:Addr):Tb:=⟨("_law_one_right",(fg a_n a_h))::(T36 a_n a_h).D,(T36 a_n a_h).C,[],(T36 a_n a_h).H,false,(T36 a_n a_h).Z⟩
noncomputable def T38(a_n a_h:Addr):Tb:=(T37 a_n a_h)
noncomputable def T39 (a_n a_h:Addr):Tb:=⟨("ways_many",(eZ a_n))::(T38 a_n a_h).D,(T38 a_n a_h).C,[],(T38 a_n a_h).H,false,(T38 a_n a_h).Z⟩
noncomputable def T40 (a_n a_h:Addr):Tb:=⟨("rounds_many",(et a_h))::(T39 a_n a_h).D,(T39 a_n a_h).C,[],(T39 a_n a_h).H,false,(T39 a_n a_h).Z⟩
noncomputable def T41 (a_n a_h:Addr):Tb:=⟨(T40 a_n a_h).D,(T40 a_n a_h).C,[],("table_of",uf)::(T40 a_n a_h).H,false,(T40 a_n a_h).Z⟩
noncomputable def T42 (a_n a_h:Addr):Tb:=⟨("named",tP)::(T41 a_n a_h).D,(T41 a_n a_h).C,[],(T41 a_n a_h).H,false,(T41 a_n a_h).Z⟩
noncomputable def T43 (a_n a_h:Addr):Tb:=⟨("roads",BI)::(T42 a_n a_h).D,(T42 a_n a_h).C,[],(T42 a_n a_h).H,false,(T42 a_n a_h).Z⟩
noncomputable def T44 (a_n a_h:Addr):Tb:=⟨("span",uL)::(T43 a_n a_h).D,(T43 a_n a_h).C,[],(T43 a_n a_h).H,false,(T43 a_n a_h).Z⟩
noncomputable def T45 (a_n a_h:Addr):Tb:=⟨("reaches",kG)::(T44 a_n a_h).D,(T44 a_n a_h).C,[],(T44 a_n a_h).H,false,(T44 a_n a_h).Z⟩
noncomputable def T46 (a_n a_h:Addr):Tb:=⟨("_law_counts_right",(eE a_n a_h))::(T45 a_n a_h).D,(T45 a_n a_h).C,[],(T45 a_n a_h).H,false,(T45 a_n a_h).Z⟩
theorem Dk : ∀ (a_n a_h:Addr),cB (T0 a_n a_h) 80 (["group","steps","place"]:List Str) (ao kJ).names (aN kJ)=some wR:=by intro a_n a_h;kernel_rfl
theorem Ah:aX (["group","steps","place"]:List Str) (["group","steps","place"]:List Str) (ao kJ):=⟨rfl,rfl,rfl,by decide +kernel,rfl,by decide +kernel,by decide +kernel⟩
theorem Gg : ∀ (a_n a_h:Addr),cB (T1 a_n a_h) 80 (["group","thing"]:List Str) (ao nu).names (aN nu)=some yq:=by intro a_n a_h;kernel_rfl
theorem DK:aX (["group","thing"]:List Str) (["group","thing"]:List Str) (ao nu):=⟨rfl,rfl,rfl,by decide +kernel,rfl,by decide +kernel,by decide +kernel⟩
theorem yx : ∀ (a_n a_h:Addr),cB (T2 a_n a_h) 80 (["group","steps","place","step"]:List Str) (ao jb).names (aN jb)=some sf:=by intro a_n a_h;kernel_rfl
theorem xW:aX (["group","steps","place","step"]:List Str) (["group","steps","place"]:List Str) (ao jb):=⟨rfl,rfl,rfl,by decide +kernel,rfl,by decide +kernel,by decide +kernel⟩
theorem vK : ∀ (a_n a_h:Addr),cB (T3 a_n a_h) 80 (["script","k"]:List Str) (ao gy).names (aN gy)=some gw:=by intro a_n a_h;kernel_rfl
theorem uG:aX (["script","k"]:List Str) (["script","k"]:List Str) (ao gy):=⟨rfl,rfl,rfl,by decide +kernel,rfl,by decide +kernel,by decide +kernel⟩
theorem yv : ∀ (a_n a_h:Addr),cB (T4 a_n a_h) 80 (["script","k","cell"]:List Str) (ao jc).names (aN jc)=some jY:=by intro a_n a_h;kernel_rfl
theorem xF:aX (["script","k","cell"]:List Str) (["script","k"]:List Str) (ao jc):=⟨rfl,rfl,rfl,by decide +kernel,rfl,by decide +kernel,by decide +kernel⟩
theorem AM : ∀ (a_n a_h:Addr),cB (T5 a_n a_h) 80 (["state","many","found","mixed"]:List Str) (ao jO).names (aN jO)=some lu:=by intro a_n a_h;kernel_rfl
theorem zY:aX (["state","many","found","mixed"]:List Str) (["state","many"]:List Str) (ao jO):=⟨rfl,rfl,rfl,by decide +kernel,rfl,by decide +kernel,by decide +kernel⟩
theorem zz : ∀ (a_n a_h:Addr),cB (T6 a_n a_h) 80 (["n"]:List Str) (ao i3).names (aN i3)=some nc:=by intro a_n a_h;kernel_rfl
theorem xU:aX (["n"]:List Str) (["n"]:List Str) (ao i3):=⟨rfl,rfl,rfl,by decide +kernel,rfl,by decide +kernel,by decide +kernel⟩
theorem zG : ∀ (a_n a_h:Addr),cB (T7 a_n a_h) 80 (["n","found","i","row","j","turn"]:List Str) (ao je).names (aN je)=some m8:=by intro a_n a_h;kernel_rfl
theorem xu:aX (["n","found","i","row","j","turn"]:List Str) (["n"]:List Str) (ao je):=⟨rfl,rfl,rfl,by decide +kernel,rfl,by decide +kernel,by decide +kernel⟩
theorem vH : ∀ (a_n a_h:Addr),cB (T8 a_n a_h) 80 (["signs","kinds","found","one","row","other","sign"]:List Str) (ao gH).names (aN gH)=some ki:=by intro a_n a_h;kernel_rfl
theorem uh:aX (["signs","kinds","found","one","row","other","sign"]:List Str) ([]:List Str) (ao gH):=⟨rfl,rfl,rfl,by decide +kernel,rfl,by decide +kernel,by decide +kernel⟩
theorem Aq : ∀ (a_n a_h:Addr),cB (T9 a_n a_h) 80 (["one","other","size","found","i","row","j","ahead"]:List Str) (ao jC).names (aN jC)=some pe:=by intro a_n a_h;kernel_rfl
theorem yV:aX (["one","other","size","found","i","row","j","ahead"]:List Str) (["one","other"]:List Str) (ao jC):=⟨rfl,rfl,rfl,by decide +kernel,rfl,by decide +kernel,by decide +kernel⟩
theorem zI : ∀ (a_n a_h:Addr),cB (T10 a_n a_h) 80 (["group","order"]:List Str) (ao iZ).names (aN iZ)=some nk:=by intro a_n a_h;kernel_rfl
theorem yg:aX (["group","order"]:List Str) (["group","order"]:List Str) (ao iZ):=⟨rfl,rfl,rfl,by decide +kernel,rfl,by decide +kernel,by decide +kernel⟩
theorem yr : ∀ (a_n a_h:Addr),cB (T11 a_n a_h) 80 (["state","many","left"]:List Str) (ao i8).names (aN i8)=some mF:=by intro a_n a_h;kernel_rfl
theorem xN:aX (["state","many","left"]:List Str) (["state","many"]:List Str) (ao i8):=⟨rfl,rfl,rfl,by decide +kernel,rfl,by decide +kernel,by decide +kernel⟩
theorem yD : ∀ (a_n a_h:Addr),cB (T12 a_n a_h) 80 (["state","most","way","found","first","one"]:List Str) (ao jd).names (aN jd)=some mI:=by intro a_n a_h;kernel_rfl
theorem xo:aX (["state","most","way","found","first","one"]:List Str) (["state","most"]:List Str) (ao jd):=⟨rfl,rfl,rfl,by decide +kernel,rfl,by decide +kernel,by decide +kernel⟩
theorem yK : ∀ (a_n a_h:Addr),cB (T13 a_n a_h) 80 (["state","group","most","left","found","k"]:List Str) (ao i6).names (aN i6)=some rR:=by intro a_n a_h;kernel_rfl
theorem ya:aX (["state","group","most","left","found","k"]:List Str) (["state","group","most"]:List Str) (ao i6):=⟨rfl,rfl,rfl,by decide +kernel,rfl,by decide +kernel,by decide +kernel⟩
theorem vT : ∀ (a_n a_h:Addr),cB (T14 a_n a_h) 80 (["group","most"]:List Str) (ao gG).names (aN gG)=some oW:=by intro a_n a_h;kernel_rfl
theorem uX:aX (["group","most"]:List Str) (["group","most"]:List Str) (ao gG):=⟨rfl,rfl,rfl,by decide +kernel,rfl,by decide +kernel,by decide +kernel⟩
theorem GB : ∀ (a_n a_h:Addr),cB (T15 a_n a_h) 80 (["group","steps","place","left","tried"]:List Str) (ao nj).names (aN nj)=some zB:=by intro a_n a_h;kernel_rfl
theorem Dj:aX (["group","steps","place","left","tried"]:List Str) (["group","steps","place","left"]:List Str) (ao nj):=⟨rfl,rfl,rfl,by decide +kernel,rfl,by decide +kernel,by decide +kernel⟩
theorem DB : ∀ (a_n a_h:Addr),cB (T16 a_n a_h) 80 (["things","thing"]:List Str) (ao kS).names (aN kS)=some wZ:=by intro a_n a_h;kernel_rfl
theorem Ak:aX (["things","thing"]:List Str) (["things","thing"]:List Str) (ao kS):=⟨rfl,rfl,rfl,by decide +kernel,rfl,by decide +kernel,by decide +kernel⟩
theorem rZ : ∀ (a_n a_h:Addr),∀ g φ ψ,cB ⟨("least_end",ψ)::(T17 a_n a_h).D,(T17 a_n a_h).C,[("last",g,φ)],(T17 a_n a_h).H,false,(T17 a_n a_h).Z⟩ 80 (["group","steps","place","left","last","step","onward","end"]:List Str) (ao i9).names (aN i9)=some (rX g φ ψ):=by intro a_n a_h;intro g φ ψ;kernel_rfl
theorem pW:aX (["group","steps","place","left","last","step","onward","end"]:List Str) (["group","steps","place","left","last"]:List Str) (ao i9):=⟨rfl,rfl,rfl,by decide +kernel,rfl,by decide +kernel,by decide +kernel⟩
theorem uW : ∀ (a_n a_h:Addr),cB (T18 a_n a_h) 80 (["group"]:List Str) (ao fK).names (aN fK)=some mS:=by intro a_n a_h;kernel_rfl
theorem sM:aX (["group"]:List Str) (["group"]:List Str) (ao fK):=⟨rfl,rfl,rfl,by decide +kernel,rfl,by decide +kernel,by decide +kernel⟩
theorem yF : ∀ (a_n a_h:Addr),cB ⟨("least_end",eo a_n dg)::(T19 a_n a_h).D,(T19 a_n a_h).C,[],(T19 a_n a_h).H,false,(T19 a_n a_h).Z⟩ 80 (["group","steps"]:List Str) (ao i5).names (aN i5)=some (mW a_n):=by intro a_n a_h;kernel_rfl
theorem xj:aX (["group","steps"]:List Str) (["group","steps"]:List Str) (ao i5):=⟨rfl,rfl,rfl,by decide +kernel,rfl,by decide +kernel,by decide +kernel⟩
theorem vM : ∀ (a_n a_h:Addr),∀ ψ,cB ⟨("longest_end",ψ)::(T20 a_n a_h).D,(T20 a_n a_h).C,(T20 a_n a_h).L,(T20 a_n a_h).H,(T20 a_n a_h).mkr,(T20 a_n a_h).Z⟩ 80 (["group","steps","place","left","longest","step","onward","end"]:List Str) (ao gL).names (aN gL)=some (eQ ψ):=by intro a_n a_h;intro ψ;kernel_rfl
theorem um:aX (["group","steps","place","left","longest","step","onward","end"]:List Str) (["group","steps","place","left"]:List Str) (ao gL):=⟨rfl,rfl,rfl,by decide +kernel,rfl,by decide +kernel,by decide +kernel⟩
theorem tX : ∀ (a_n a_h:Addr),cB (T21 a_n a_h) 80 (["group","steps"]:List Str) (ao fL).names (aN fL)=some mX:=by intro a_n a_h;kernel_rfl
theorem sv:aX (["group","steps"]:List Str) (["group","steps"]:List Str) (ao fL):=⟨rfl,rfl,rfl,by decide +kernel,rfl,by decide +kernel,by decide +kernel⟩
theorem vU : ∀ (a_n a_h:Addr),cB ⟨("least_end",eo a_h cn)::(T22 a_n a_h).D,(T22 a_n a_h).C,[],(T22 a_n a_h).H,false,(T22 a_n a_h).Z⟩ 80 (["group","steps"]:List Str) (ao gE).names (aN gE)=some (kj a_h):=by intro a_n a_h;kernel_rfl
theorem uK:aX (["group","steps"]:List Str) (["group","steps"]:List Str) (ao gE):=⟨rfl,rfl,rfl,by decide +kernel,rfl,by decide +kernel,by decide +kernel⟩
theorem qD : ∀ (a_n a_h:Addr),cB (T23 a_n a_h) 80 (["value","many"]:List Str) (ao eN).names (aN eN)=some jZ:=by intro a_n a_h;kernel_rfl
theorem pB:aX (["value","many"]:List Str) (["value","many"]:List Str) (ao eN):=⟨rfl,rfl,rfl,by decide +kernel,rfl,by decide +kernel,by decide +kernel⟩
theorem ow : ∀ (a_n a_h:Addr),cB (T24 a_n a_h) 80 (["value","many"]:List Str) (ao eg).names (aN eg)=some jr:=by intro a_n a_h;kernel_rfl
theorem mP:aX (["value","many"]:List Str) (["value","many"]:List Str) (ao eg):=⟨rfl,rfl,rfl,by decide +kernel,rfl,by decide +kernel,by decide +kernel⟩
theorem xx : ∀ (a_n a_h:Addr),cB (T25 a_n a_h) 80 (["group","steps","thing"]:List Str) (ao ij).names (aN ij)=some qj:=by intro a_n a_h;kernel_rfl
theorem vV:aX (["group","steps","thing"]:List Str) (["group","steps","thing"]:List Str) (ao ij):=⟨rfl,rfl,rfl,by decide +kernel,rfl,by decide +kernel,by decide +kernel⟩
theorem EV : ∀ (a_n a_h:Addr),cB (T26 a_n a_h) 80 (["group","walk","come_to","thing"]:List Str) (ao mV).names (aN mV)=some zx:=by intro a_n a_h;kernel_rfl
theorem CM:aX (["group","walk","come_to","thing"]:List Str) (["group","walk"]:List Str) (ao mV):=⟨rfl,rfl,rfl,by decide +kernel,rfl,by decide +kernel,by decide +kernel⟩
theorem xY : ∀ (a_n a_h:Addr),cB (T27 a_n a_h) 80 (["group"]:List Str) (ao il).names (aN il)=some qf:=by intro a_n a_h;kernel_rfl
theorem vP:aX (["group"]:List Str) (["group"]:List Str) (ao il):=⟨rfl,rfl,rfl,by decide +kernel,rfl,by decide +kernel,by decide +kernel⟩
theorem qR : ∀ (a_n a_h:Addr),cB (T28 a_n a_h) 80 (["group","come_to"]:List Str) (ao eU).names (aN eU)=some kW:=by intro a_n a_h;kernel_rfl
theorem qC:aX (["group","come_to"]:List Str) (["group","come_to"]:List Str) (ao eU):=⟨rfl,rfl,rfl,by decide +kernel,rfl,by decide +kernel,by decide +kernel⟩
theorem vI : ∀ (a_n a_h:Addr),cB (T29 a_n a_h) 80 (["group","walk","come_to"]:List Str) (ao gF).names (aN gF)=some oR:=by intro a_n a_h;kernel_rfl
theorem vd:aX (["group","walk","come_to"]:List Str) (["group","walk"]:List Str) (ao gF):=⟨rfl,rfl,rfl,by decide +kernel,rfl,by decide +kernel,by decide +kernel⟩
theorem AL : ∀ (a_n a_h:Addr),cB (T30 a_n a_h) 80 (["group","steps","thing"]:List Str) (ao jJ).names (aN jJ)=some t7:=by intro a_n a_h;kernel_rfl
theorem yu:aX (["group","steps","thing"]:List Str) (["group","steps","thing"]:List Str) (ao jJ):=⟨rfl,rfl,rfl,by decide +kernel,rfl,by decide +kernel,by decide +kernel⟩
theorem uu : ∀ (a_n a_h:Addr),cB (T31 a_n a_h) 80 (["group","thing"]:List Str) (ao fO).names (aN fO)=some mM:=by intro a_n a_h;kernel_rfl
theorem sH:aX (["group","thing"]:List Str) (["group","thing"]:List Str) (ao fO):=⟨rfl,rfl,rfl,by decide +kernel,rfl,by decide +kernel,by decide +kernel⟩
theorem Fx : ∀ (a_n a_h:Addr),cB (T32 a_n a_h) 80 (["group","steps","thing"]:List Str) (ao m6).names (aN m6)=some ze:=by intro a_n a_h;kernel_rfl
theorem CF:aX (["group","steps","thing"]:List Str) (["group","steps","thing"]:List Str) (ao m6):=⟨rfl,rfl,rfl,by decide +kernel,rfl,by decide +kernel,by decide +kernel⟩
theorem uE : ∀ (a_n a_h:Addr),cB (T33 a_n a_h) 80 (["group","steps"]:List Str) (ao fI).names (aN fI)=some nB:=by intro a_n a_h;kernel_rfl
theorem sP:aX (["group","steps"]:List Str) (["group","steps"]:List Str) (ao fI):=⟨rfl,rfl,rfl,by decide +kernel,rfl,by decide +kernel,by decide +kernel⟩
theorem Mg : ∀ (a_n a_h:Addr),cB (T34 a_n a_h) 80 (["group","walk"]:List Str) (ao uQ).names (aN uQ)=some Gr:=by intro a_n a_h;kernel_rfl
theorem Hq:aX (["group","walk"]:List Str) (["group","walk"]:List Str) (ao uQ):=⟨rfl,rfl,rfl,by decide +kernel,rfl,by decide +kernel,by decide +kernel⟩
theorem Bg : ∀ (a_n a_h:Addr),cB (T35 a_n a_h) 80 (["walk","k"]:List Str) (ao jN).names (aN jN)=some uk:=by intro a_n a_h;kernel_rfl
theorem zE:aX (["walk","k"]:List Str) (["walk","k"]:List Str) (ao jN):=⟨rfl,rfl,rfl,by decide +kernel,rfl,by decide +kernel,by decide +kernel⟩
theorem sN : ∀ (a_n a_h:Addr),cB (T36 a_n a_h) 80 (["group","steps","way","longest","some"]:List Str) (ao fi).names (aN fi)=some (fh a_n a_h):=by intro a_n a_h;kernel_rfl
theorem qW:aX (["group","steps","way","longest","some"]:List Str) (["group","steps"]:List Str) (ao fi):=⟨rfl,rfl,rfl,by decide +kernel,rfl,by decide +kernel,by decide +kernel⟩
theorem u6 : ∀ (a_n a_h:Addr),∀ g φ ψ,cB ⟨("all_ends",ψ)::(T37 a_n a_h).D,(T37 a_n a_h).C,[("last",g,φ)],(T37 a_n a_h).H,false,(T37 a_n a_h).Z⟩ 80 (["group","steps","place","left","last","end","found","step","onward","ends"]:List Str) (ao jL).names (aN jL)=some (uT g φ ψ):=by intro a_n a_h;intro g φ ψ;kernel_rfl
theorem sd:aX (["group","steps","place","left","last","end","found","step","onward","ends"]:List Str) (["group","steps","place","left","last"]:List Str) (ao jL):=⟨rfl,rfl,rfl,by decide +kernel,rfl,by decide +kernel,by decide +kernel⟩
theorem zq : ∀ (a_n a_h:Addr),cB ⟨("all_ends",fM a_n dg)::(T38 a_n a_h).D,(T38 a_n a_h).C,[],(T38 a_n a_h).H,false,(T38 a_n a_h).Z⟩ 80 (["group","steps"]:List Str) (ao i7).names (aN i7)=some (rS a_n):=by intro a_n a_h;kernel_rfl
theorem xI:aX (["group","steps"]:List Str) (["group","steps"]:List Str) (ao i7):=⟨rfl,rfl,rfl,by decide +kernel,rfl,by decide +kernel,by decide +kernel⟩
theorem vG : ∀ (a_n a_h:Addr),cB ⟨("all_ends",fM a_h cn)::(T39 a_n a_h).D,(T39 a_n a_h).C,[],(T39 a_n a_h).H,false,(T39 a_n a_h).Z⟩ 80 (["group","steps"]:List Str) (ao gJ).names (aN gJ)=some (oS a_h):=by intro a_n a_h;kernel_rfl
theorem tV:aX (["group","steps"]:List Str) (["group","steps"]:List Str) (ao gJ):=⟨rfl,rfl,rfl,by decide +kernel,rfl,by decide +kernel,by decide +kernel⟩
theorem Bh : ∀ (a_n a_h:Addr),∀ g φ,cB ⟨(T40 a_n a_h).D,(T40 a_n a_h).C,[("times",g,φ)],(T40 a_n a_h).H,(T40 a_n a_h).mkr,(T40 a_n a_h).Z⟩ 80 (["many","times","rows","i"]:List Str) (ao jF).names (aN jF)=some (uF g φ):=by intro a_n a_h;intro g φ;kernel_rfl
theorem za:aX (["many","times","rows","i"]:List Str) (["many","times"]:List Str) (ao jF):=⟨rfl,rfl,rfl,by decide +kernel,rfl,by decide +kernel,by decide +kernel⟩
theorem Iu : ∀ (a_n a_h:Addr),cB ⟨(T41 a_n a_h).D,(T41 a_n a_h).C,(T41 a_n a_h).L,(T41 a_n a_h).H,true,(T41 a_n a_h).Z.to "<lambda>"⟩ 80 (["group","order"]:List Str) (ao qp).names (aN qp)=some Bo:=by intro a_n a_h;kernel_rfl
theorem Fj:aX (["group","order"]:List Str) (["group","order"]:List Str) (ao qp):=⟨rfl,rfl,rfl,by decide +kernel,rfl,by decide +kernel,by decide +kernel⟩
theorem IE : ∀ (a_n a_h:Addr),cB (T42 a_n a_h) 80 (["group","things","found","waiting","place","thing","onward"]:List Str) (ao qx).names (aN qx)=some BF:=by intro a_n a_h;kernel_rfl
theorem GF:aX (["group","things","found","waiting","place","thing","onward"]:List Str) (["group","things"]:List Str) (ao qx):=⟨rfl,rfl,rfl,by decide +kernel,rfl,by decide +kernel,by decide +kernel⟩
theorem Ml : ∀ (a_n a_h:Addr),cB (T43 a_n a_h) 80 (["group","things"]:List Str) (ao ur).names (aN ur)=some Ey:=by intro a_n a_h;kernel_rfl
theorem I0:aX (["group","things"]:List Str) (["group","things"]:List Str) (ao ur):=⟨rfl,rfl,rfl,by decide +kernel,rfl,by decide +kernel,by decide +kernel⟩
theorem CI : ∀ (a_n a_h:Addr),cB (T44 a_n a_h) 80 (["group","steps"]:List Str) (ao kR).names (aN kR)=some xf:=by intro a_n a_h;kernel_rfl
theorem AX:aX (["group","steps"]:List Str) (["group","steps"]:List Str) (ao kR):=⟨rfl,rfl,rfl,by decide +kernel,rfl,by decide +kernel,by decide +kernel⟩
theorem o3 : ∀ (a_n a_h:Addr),cB (T45 a_n a_h) 80 (["group","steps","order","ways","rounds","other","renamed","anew"]:List Str) (ao eF).names (aN eF)=some (gR a_n a_h):=by intro a_n a_h;kernel_rfl
theorem oz:aX (["group","steps","order","ways","rounds","other","renamed","anew"]:List Str) (["group","steps","order"]:List Str) (ao eF):=⟨rfl,rfl,rfl,by decide +kernel,rfl,by decide +kernel,by decide +kernel⟩
theorem N6 : ∀ (a_n a_h:Addr),cB (T46 a_n a_h) 80 (["script","k","state","group","steps","order"]:List Str) (ao Ce).names (aN Ce)=some (JM a_n a_h):=by intro a_n a_h;kernel_rfl
theorem Kl:aX (["script","k","state","group","steps","order"]:List Str) (["script"]:List Str) (ao Ce):=⟨rfl,rfl,rfl,by decide +kernel,rfl,by decide +kernel,by decide +kernel⟩
theorem chain {P:Program}{w:World}{K:av}{mg:Str->Option Value}{h:Heap}{k41 p41:Addr}{a_n a_h:Addr} (X:K.In h) (Gn:h.Ns mainGlobals mg) (B : ∀ x∈kP,dY K mainGlobals x=some none) (h_no_more:mg "no_more"=some (.ref a_n)) (h_step_home:mg "step_home"=some (.ref a_h)) (kc0 : ∃ t,dY K mainGlobals "MOST_TO_FIND"=some (some (.int 12 t))) (kc1 : ∃ t,dY K mainGlobals "MOST_TO_COUNT"=some (some (.int 8 t))) (g41:mainGlobals≠p41) (nd:([p41]:List Addr).Nodup)
  (D0:Def K "no_more" kJ) (D1:Def K "undone" nu) (D2:Def K "step_home" jb) (D3:Def K "_law_cell_at" gy) (D4:Def K "_law_state" jc) (D5:Def K "_law_take" jO) (D6:Def K "_law_clock" i3) (D7:Def K "_law_flips" je) (D8:Def K "_law_quarter" gH) (D9:Def K "_law_both" jC) (D10:Def K "_law_named" iZ) (D11:Def K "_law_order" i8) (D12:Def K "_law_group" jd) (D13:Def K "_law_steps" i6) (D14:Def K "refuse_more" gG) (D15:Def K "goings" nj) (D16:Def K "all_but" kS) (D17:Def K "least_end" i9) (D18:Def K "all_but_home" fK) (D19:Def K "least_way" i5) (D20:Def K "longest_end" gL) (D21:Def K "longest_walk" fL) (D22:Def K "least_round" gE) (D23:Def K "is_number_below" eN) (D24:Def K "are_numbers_below" eg) (D25:Def K "is_walk_by" ij) (D26:Def K "places" mV) (D27:Def K "all_things" il) (D28:Def K "are_all_things" eU) (D29:Def K "comes_round" gF) (D30:Def K "is_round" jJ) (D31:Def K "goes_through" fO) (D32:Def K "is_way" m6) (D33:Def K "undone_steps" fI) (D34:Def K "back" uQ) (D35:Def K "begun_at" jN) (D36:Def K "_law_one_right" fi) (D37:Def K "all_ends" jL) (D38:Def K "ways_many" i7) (D39:Def K "rounds_many" gJ) (D40:Def K "table_of" jF) (D41:sx K "named" qp k41 p41) (D42:Def K "roads" qx) (D43:Def K "span" ur) (D44:Def K "reaches" kR) (D45:Def K "_law_counts_right" eF) : ∀ (caps:List U) (capv:List V) (cds:List (Addr×Obj)) (base:Heap),gm mg base->TOk ⟨P,w,⟨K,caps,capv,cds,[(p41,("named":Str)++".<locals>."++"<lambda>")]⟩,mg,base,none⟩ (T46 a_n a_h) 86:=by
 have C0:Ch P w K mg [(p41,("named":Str)++".<locals>."++"<lambda>")] (T0 a_n a_h) 0:=⟨fun _ _ _ _ _=>TOk.fv (TOk.fv (TOk.con (TOk.con (TOk.nil X Gn B) X Gn kc1) X Gn kc0) h_step_home) h_no_more,(fun _ _ _ _ _ _ _ z=>by cases z),(fun _ _ _ _ _ _ _ z=>by cases z)⟩
 have nd:(([(p41,("named":Str)++".<locals>."++"<lambda>")]:List (Addr×Str)).map (·.1)).Nodup:=by simpa using nd
 have C1:Ch P w K mg _ (T1 a_n a_h) 1:=C0.dfn C0.o rfl X Gn D0 Ah (λ_ _ _ _ _ _=>us3 λ_ _ _=>rfl) (Dk a_n a_h)
 have C2:Ch P w K mg _ (T2 a_n a_h) 2:=C1.dfn C1.o rfl X Gn D1 DK (λ_ _ _ _ _ _=>us2 λ_ _=>rfl) (Gg a_n a_h)
 have C3:Ch P w K mg _ (T3 a_n a_h) 3:=C2.dfn C2.o rfl X Gn D2 xW (λ_ _ _ _ _ _=>us3 λ_ _ _=>rfl) (yx a_n a_h)
 have C4:Ch P w K mg _ (T4 a_n a_h) 4:=C3.dfn C3.o rfl X Gn D3 uG (λ_ _ _ _ _ _=>us2 λ_ _=>rfl) (vK a_n a_h)
 have C5:Ch P w K mg _ (T5 a_n a_h) 5:=C4.dfn C4.o rfl X Gn D4 xF (λ_ _ _ _ _ _=>us2 λ_ _=>rfl) (yv a_n a_h)
 have C6:Ch P w K mg _ (T6 a_n a_h) 6:=C5.dfn C5.o rfl X Gn D5 zY (λ_ _ _ _ _ _=>us2 λ_ _=>rfl) (AM a_n a_h)
 have C7:Ch P w K mg _ (T7 a_n a_h) 7:=C6.dfn C6.o rfl X Gn D6 xU (λ_ _ _ _ _ _=>us1 λ_=>rfl) (zz a_n a_h)
 have C8:Ch P w K mg _ (T8 a_n a_h) 8:=C7.dfn C7.o rfl X Gn D7 xu (λ_ _ _ _ _ _=>us1 λ_=>rfl) (zG a_n a_h)
 have C9:Ch P w K mg _ (T9 a_n a_h) 9:=C8.dfn C8.o rfl X Gn D8 uh (λ_ _ _ _ _ _=>us0 rfl) (vH a_n a_h)
 have C10:Ch P w K mg _ (T10 a_n a_h) 10:=C9.dfn C9.o rfl X Gn D9 yV (λ_ _ _ _ _ _=>us2 λ_ _=>rfl) (Aq a_n a_h)
 have C11:Ch P w K mg _ (T11 a_n a_h) 11:=C10.dfn C10.o rfl X Gn D10 yg (λ_ _ _ _ _ _=>us2 λ_ _=>rfl) (zI a_n a_h)
 have C12:Ch P w K mg _ (T12 a_n a_h) 12:=C11.dfn C11.o rfl X Gn D11 xN (λ_ _ _ _ _ _=>us2 λ_ _=>rfl) (yr a_n a_h)
 have C13:Ch P w K mg _ (T13 a_n a_h) 13:=C12.dfn C12.o rfl X Gn D12 xo (λ_ _ _ _ _ _=>us2 λ_ _=>rfl) (yD a_n a_h)
 have C14:Ch P w K mg _ (T14 a_n a_h) 14:=C13.dfn C13.o rfl X Gn D13 ya (λ_ _ _ _ _ _=>us3 λ_ _ _=>rfl) (yK a_n a_h)
 have C15:Ch P w K mg _ (T15 a_n a_h) 15:=C14.dfn C14.o rfl X Gn D14 uX (λ_ _ _ _ _ _=>us2 λ_ _=>rfl) (vT a_n a_h)
 have C16:Ch P w K mg _ (T16 a_n a_h) 16:=C15.dfn C15.o rfl X Gn D15 Dj (λ_ _ _ _ _ _=>us4 λ_ _ _ _=>rfl) (GB a_n a_h)
 have C17:Ch P w K mg _ (T17 a_n a_h) 17:=C16.dfn C16.o rfl X Gn D16 Ak (λ_ _ _ _ _ _=>us2 λ_ _=>rfl) (DB a_n a_h)
 have C18:Ch P w K mg _ (T18 a_n a_h) 31:=C17.mono (by decide)
 have E_least_end_no_more : ∀ (caps:List U) (capv:List V) (cds:List (Addr×Obj)) (base:Heap),gm mg base->Fn ⟨P,w,⟨K,caps,capv,cds,[(p41,("named":Str)++".<locals>."++"<lambda>")]⟩,mg,base,none⟩ "least_end" 31 (["group","steps","place","left","last"]:List Str) (eo a_n dg):=fun caps capv cds base hbb=>by
  obtain⟨k',ps',hk,Fv⟩:=(C17.o caps capv cds base hbb).D "no_more" dg rfl
  have OL:TOk ⟨P,w,⟨K,caps,capv,cds,[(p41,("named":Str)++".<locals>."++"<lambda>")]⟩,mg,base,none⟩ ⟨(T17 a_n a_h).D,(T17 a_n a_h).C,[("last",a_n,dg)],(T17 a_n a_h).H,false,(T17 a_n a_h).Z⟩ 17:=(C17.o caps capv cds base hbb).lam (Fv.lam h_no_more) hk
  exact D17.fnR (M:=⟨P,w,⟨K,caps,capv,cds,[(p41,("named":Str)++".<locals>."++"<lambda>")]⟩,mg,base,none⟩) OL rfl rfl X Gn pW (fun _ _ _ _ _ _=>us5 fun _ _ _ _ _=>rfl) (rZ a_n a_h a_n dg) 14
 have E_least_end_step_home : ∀ (caps:List U) (capv:List V) (cds:List (Addr×Obj)) (base:Heap),gm mg base->Fn ⟨P,w,⟨K,caps,capv,cds,[(p41,("named":Str)++".<locals>."++"<lambda>")]⟩,mg,base,none⟩ "least_end" 31 (["group","steps","place","left","last"]:List Str) (eo a_h cn):=fun caps capv cds base hbb=>by
  obtain⟨k',ps',hk,Fv⟩:=(C17.o caps capv cds base hbb).D "step_home" cn rfl
  have OL:TOk ⟨P,w,⟨K,caps,capv,cds,[(p41,("named":Str)++".<locals>."++"<lambda>")]⟩,mg,base,none⟩ ⟨(T17 a_n a_h).D,(T17 a_n a_h).C,[("last",a_h,cn)],(T17 a_n a_h).H,false,(T17 a_n a_h).Z⟩ 17:=(C17.o caps capv cds base hbb).lam (Fv.lam h_step_home) hk
  exact D17.fnR (M:=⟨P,w,⟨K,caps,capv,cds,[(p41,("named":Str)++".<locals>."++"<lambda>")]⟩,mg,base,none⟩) OL rfl rfl X Gn pW (fun _ _ _ _ _ _=>us5 fun _ _ _ _ _=>rfl) (rZ a_n a_h a_h cn) 14
 have C19:Ch P w K mg _ (T19 a_n a_h) 32:=C18.dfn C18.o rfl X Gn D18 sM (λ_ _ _ _ _ _=>us1 λ_=>rfl) (uW a_n a_h)
 have C20:Ch P w K mg _ (T20 a_n a_h) 33:=C19.dfn (T':=⟨("least_end",eo a_n dg)::(T19 a_n a_h).D,(T19 a_n a_h).C,[],(T19 a_n a_h).H,false,(T19 a_n a_h).Z⟩) (fun caps capv cds base hbb=>((C19.o caps capv cds base hbb).cons ((E_least_end_no_more caps capv cds base hbb).mono (k:=32) (by decide)) (by decide))) rfl X Gn D19 xj (fun _ _ _ _ _ _=>us2 fun _ _=>rfl) (yF a_n a_h)
 have C21:Ch P w K mg _ (T21 a_n a_h) 47:=C20.rec_ 14 rfl X Gn D20 um (λ_ _ _ _ _ _=>us4 λ_ _ _ _=>rfl) (vM a_n a_h)
 have C22:Ch P w K mg _ (T22 a_n a_h) 48:=C21.dfn C21.o rfl X Gn D21 sv (λ_ _ _ _ _ _=>us2 λ_ _=>rfl) (tX a_n a_h)
 have C23:Ch P w K mg _ (T23 a_n a_h) 49:=C22.dfn (T':=⟨("least_end",eo a_h cn)::(T22 a_n a_h).D,(T22 a_n a_h).C,[],(T22 a_n a_h).H,false,(T22 a_n a_h).Z⟩) (fun caps capv cds base hbb=>((C22.o caps capv cds base hbb).cons ((E_least_end_step_home caps capv cds base hbb).mono (k:=48) (by decide)) (by decide))) rfl X Gn D22 uK (fun _ _ _ _ _ _=>us2 fun _ _=>rfl) (vU a_n a_h)
 have C24:Ch P w K mg _ (T24 a_n a_h) 50:=C23.dfn C23.o rfl X Gn D23 pB (λ_ _ _ _ _ _=>us2 λ_ _=>rfl) (qD a_n a_h)
 have C25:Ch P w K mg _ (T25 a_n a_h) 51:=C24.dfn C24.o rfl X Gn D24 mP (λ_ _ _ _ _ _=>us2 λ_ _=>rfl) (ow a_n a_h)
 have C26:Ch P w K mg _ (T26 a_n a_h) 52:=C25.dfn C25.o rfl X Gn D25 vV (λ_ _ _ _ _ _=>us3 λ_ _ _=>rfl) (xx a_n a_h)
 have C27:Ch P w K mg _ (T27 a_n a_h) 53:=C26.dfn C26.o rfl X Gn D26 CM (λ_ _ _ _ _ _=>us2 λ_ _=>rfl) (EV a_n a_h)
 have C28:Ch P w K mg _ (T28 a_n a_h) 54:=C27.dfn C27.o rfl X Gn D27 vP (λ_ _ _ _ _ _=>us1 λ_=>rfl) (xY a_n a_h)
 have C29:Ch P w K mg _ (T29 a_n a_h) 55:=C28.dfn C28.o rfl X Gn D28 qC (λ_ _ _ _ _ _=>us2 λ_ _=>rfl) (qR a_n a_h)
 have C30:Ch P w K mg _ (T30 a_n a_h) 56:=C29.dfn C29.o rfl X Gn D29 vd (λ_ _ _ _ _ _=>us2 λ_ _=>rfl) (vI a_n a_h)
 have C31:Ch P w K mg _ (T31 a_n a_h) 57:=C30.dfn C30.o rfl X Gn D30 yu (λ_ _ _ _ _ _=>us3 λ_ _ _=>rfl) (AL a_n a_h)
 have C32:Ch P w K mg _ (T32 a_n a_h) 58:=C31.dfn C31.o rfl X Gn D31 sH (λ_ _ _ _ _ _=>us2 λ_ _=>rfl) (uu a_n a_h)
 have C33:Ch P w K mg _ (T33 a_n a_h) 59:=C32.dfn C32.o rfl X Gn D32 CF (λ_ _ _ _ _ _=>us3 λ_ _ _=>rfl) (Fx a_n a_h)
 have C34:Ch P w K mg _ (T34 a_n a_h) 60:=C33.dfn C33.o rfl X Gn D33 sP (λ_ _ _ _ _ _=>us2 λ_ _=>rfl) (uE a_n a_h)
 have C35:Ch P w K mg _ (T35 a_n a_h) 61:=C34.dfn C34.o rfl X Gn D34 Hq (λ_ _ _ _ _ _=>us2 λ_ _=>rfl) (Mg a_n a_h)
 have C36:Ch P w K mg _ (T36 a_n a_h) 62:=C35.dfn C35.o rfl X Gn D35 zE (λ_ _ _ _ _ _=>us2 λ_ _=>rfl) (Bg a_n a_h)
 have C37:Ch P w K mg _ (T37 a_n a_h) 63:=C36.dfn C36.o rfl X Gn D36 qW (λ_ _ _ _ _ _=>us2 λ_ _=>rfl) (sN a_n a_h)
 have C38:Ch P w K mg _ (T38 a_n a_h) 77:=C37.mono (by decide)
 have E_all_ends_no_more : ∀ (caps:List U) (capv:List V) (cds:List (Addr×Obj)) (base:Heap),gm mg base->Fn ⟨P,w,⟨K,caps,capv,cds,[(p41,("named":Str)++".<locals>."++"<lambda>")]⟩,mg,base,none⟩ "all_ends" 77 (["group","steps","place","left","last"]:List Str) (fM a_n dg):=fun caps capv cds base hbb=>by
  obtain⟨k',ps',hk,Fv⟩:=(C37.o caps capv cds base hbb).D "no_more" dg rfl
  have OL:TOk ⟨P,w,⟨K,caps,capv,cds,[(p41,("named":Str)++".<locals>."++"<lambda>")]⟩,mg,base,none⟩ ⟨(T37 a_n a_h).D,(T37 a_n a_h).C,[("last",a_n,dg)],(T37 a_n a_h).H,false,(T37 a_n a_h).Z⟩ 63:=(C37.o caps capv cds base hbb).lam (Fv.lam h_no_more) hk
  exact D37.fnR (M:=⟨P,w,⟨K,caps,capv,cds,[(p41,("named":Str)++".<locals>."++"<lambda>")]⟩,mg,base,none⟩) OL rfl rfl X Gn sd (fun _ _ _ _ _ _=>us5 fun _ _ _ _ _=>rfl) (u6 a_n a_h a_n dg) 14
 have E_all_ends_step_home : ∀ (caps:List U) (capv:List V) (cds:List (Addr×Obj)) (base:Heap),gm mg base->Fn ⟨P,w,⟨K,caps,capv,cds,[(p41,("named":Str)++".<locals>."++"<lambda>")]⟩,mg,base,none⟩ "all_ends" 77 (["group","steps","place","left","last"]:List Str) (fM a_h cn):=fun caps capv cds base hbb=>by
  obtain⟨k',ps',hk,Fv⟩:=(C37.o caps capv cds base hbb).D "step_home" cn rfl
  have OL:TOk ⟨P,w,⟨K,caps,capv,cds,[(p41,("named":Str)++".<locals>."++"<lambda>")]⟩,mg,base,none⟩ ⟨(T37 a_n a_h).D,(T37 a_n a_h).C,[("last",a_h,cn)],(T37 a_n a_h).H,false,(T37 a_n a_h).Z⟩ 63:=(C37.o caps capv cds base hbb).lam (Fv.lam h_step_home) hk
  exact D37.fnR (M:=⟨P,w,⟨K,caps,capv,cds,[(p41,("named":Str)++".<locals>."++"<lambda>")]⟩,mg,base,none⟩) OL rfl rfl X Gn sd (fun _ _ _ _ _ _=>us5 fun _ _ _ _ _=>rfl) (u6 a_n a_h a_h cn) 14
 have C39:Ch P w K mg _ (T39 a_n a_h) 78:=C38.dfn (T':=⟨("all_ends",fM a_n dg)::(T38 a_n a_h).D,(T38 a_n a_h).C,[],(T38 a_n a_h).H,false,(T38 a_n a_h).Z⟩) (fun caps capv cds base hbb=>((C38.o caps capv cds base hbb).cons ((E_all_ends_no_more caps capv cds base hbb).mono (k:=77) (by decide)) (by decide))) rfl X Gn D38 xI (fun _ _ _ _ _ _=>us2 fun _ _=>rfl) (zq a_n a_h)
 have C40:Ch P w K mg _ (T40 a_n a_h) 79:=C39.dfn (T':=⟨("all_ends",fM a_h cn)::(T39 a_n a_h).D,(T39 a_n a_h).C,[],(T39 a_n a_h).H,false,(T39 a_n a_h).Z⟩) (fun caps capv cds base hbb=>((C39.o caps capv cds base hbb).cons ((E_all_ends_step_home caps capv cds base hbb).mono (k:=78) (by decide)) (by decide))) rfl X Gn D39 tV (fun _ _ _ _ _ _=>us2 fun _ _=>rfl) (vG a_n a_h)
 have C41:Ch P w K mg _ (T41 a_n a_h) 79:=C40.cls rfl rfl X Gn D40 za (λ_ _ _ _ _ _=>us2 λ_ _=>rfl) (Bh a_n a_h)
 have C42:Ch P w K mg _ (T42 a_n a_h) 82:=C41.lam_ rfl rfl (by simp) nd g41 X Gn D41 Fj (λ_ _ _ _ _ _=>us2 λ_ _=>rfl) (Iu a_n a_h)
 have C43:Ch P w K mg _ (T43 a_n a_h) 83:=C42.dfn C42.o rfl X Gn D42 GF (λ_ _ _ _ _ _=>us2 λ_ _=>rfl) (IE a_n a_h)
 have C44:Ch P w K mg _ (T44 a_n a_h) 84:=C43.dfn C43.o rfl X Gn D43 I0 (λ_ _ _ _ _ _=>us2 λ_ _=>rfl) (Ml a_n a_h)
 have C45:Ch P w K mg _ (T45 a_n a_h) 85:=C44.dfn C44.o rfl X Gn D44 AX (λ_ _ _ _ _ _=>us2 λ_ _=>rfl) (CI a_n a_h)
 have C46:Ch P w K mg _ (T46 a_n a_h) 86:=C45.dfn C45.o rfl X Gn D45 oz (λ_ _ _ _ _ _=>us3 λ_ _ _=>rfl) (o3 a_n a_h)
 exact λcaps capv cds base hbb=>(C46.o caps capv cds base hbb)
theorem all_mk {l:oj}{w:World}{K:av}{h:Heap}{mg:Str->Option Value}{fa:Addr}{q:Program}{k41 p41:Addr} (X:K.In h) (Gn:h.Ns mainGlobals mg) (hfa:mg "law"=some (.ref fa)) (B : ∀ x∈kP,dY K mainGlobals x=some none) (kc0 : ∃ t,dY K mainGlobals "MOST_TO_FIND"=some (some (.int 12 t))) (kc1 : ∃ t,dY K mainGlobals "MOST_TO_COUNT"=some (some (.int 8 t))) (g41:mainGlobals≠p41) (nd:([p41]:List Addr).Nodup)
  (D0:Def K "no_more" kJ) (D1:Def K "undone" nu) (D2:Def K "step_home" jb) (D3:Def K "_law_cell_at" gy) (D4:Def K "_law_state" jc) (D5:Def K "_law_take" jO) (D6:Def K "_law_clock" i3) (D7:Def K "_law_flips" je) (D8:Def K "_law_quarter" gH) (D9:Def K "_law_both" jC) (D10:Def K "_law_named" iZ) (D11:Def K "_law_order" i8) (D12:Def K "_law_group" jd) (D13:Def K "_law_steps" i6) (D14:Def K "refuse_more" gG) (D15:Def K "goings" nj) (D16:Def K "all_but" kS) (D17:Def K "least_end" i9) (D18:Def K "all_but_home" fK) (D19:Def K "least_way" i5) (D20:Def K "longest_end" gL) (D21:Def K "longest_walk" fL) (D22:Def K "least_round" gE) (D23:Def K "is_number_below" eN) (D24:Def K "are_numbers_below" eg) (D25:Def K "is_walk_by" ij) (D26:Def K "places" mV) (D27:Def K "all_things" il) (D28:Def K "are_all_things" eU) (D29:Def K "comes_round" gF) (D30:Def K "is_round" jJ) (D31:Def K "goes_through" fO) (D32:Def K "is_way" m6) (D33:Def K "undone_steps" fI) (D34:Def K "back" uQ) (D35:Def K "begun_at" jN) (D36:Def K "_law_one_right" fi) (D37:Def K "all_ends" jL) (D38:Def K "ways_many" i7) (D39:Def K "rounds_many" gJ) (D40:Def K "table_of" jF) (D41:sx K "named" qp k41 p41) (D42:Def K "roads" qx) (D43:Def K "span" ur) (D44:Def K "reaches" kR) (D45:Def K "_law_counts_right" eF) (D46:Def K "law" Ce) {d41:DefRec} (n41:K.lookup p41=none) (r41:(ot q).find? (fun e=>e.name == ("named":Str))=some d41) :
  ∃ (tabs:List (Addr×Str)) (fd:FuncData) (sp:Sp),(∀ r∈tabs,K.lookup r.1=none /\ ∃ x d c,(ot q).find? (fun e=>e.name == x)=some d/\PySem.W.tabIn K x=some (c,r.1))/\(∀ (s:Shared) (v:Value),BindsTo s fd ⟨[v],[]⟩ [("script",v)]) /\
   (∀ base:Heap,K.In base->base.Ns mainGlobals mg->gm mg base->jB l.prog w K mg base CX0 87 fa fd ["script"] sp) /\ ∀ (H:Hp) (a:Addr) (ns:List Int),ns.length<=63->(∀ r∈tabs,AQ H r.1 r.2)->SqL K H a (ns.map V.int)->sp [.ref a] H (fun v _=>v = .bl true) fun _ _ _=>False:=by
 obtain⟨a_n,_,e_no_more,_⟩:=D0.ex
 obtain⟨a_h,_,e_step_home,_⟩:=D2.ex
 obtain⟨fd,h1,h2⟩:=Lk (l:=l) (w:=w) (tabs := [(p41,("named":Str)++".<locals>."++"<lambda>")]) X Gn hfa D46 Kl (fun _ _ _ _ _ _=>us1 fun _=>rfl) rfl (fun base hbb=>chain X Gn B (fF X Gn e_no_more) (fF X Gn e_step_home) kc0 kc1 g41 nd D0 D1 D2 D3 D4 D5 D6 D7 D8 D9 D10 D11 D12 D13 D14 D15 D16 D17 D18 D19 D20 D21 D22 D23 D24 D25 D26 D27 D28 D29 D30 D31 D32 D33 D34 D35 D36 D37 D38 D39 D40 D41 D42 D43 D44 D45 [] [] [] base hbb) (N6 a_n a_h)
 refine⟨[(p41,("named":Str)++".<locals>."++"<lambda>")],fd,_,?_,h1,h2,fun H a ns hl hT hS=>PP hT hS fun S h1 h2=>Ft a_n a_h ns hl S h1 h2⟩
 intro r hr
 simp only[aK,jy,_root_.or_false]at hr
 rcases hr with rfl
 ·exact⟨n41,_,_,_,r41,D41.tab⟩
theorem walk{l:oj}{q:Program}{loose:List Str}{XP:(Str->Option Value)->Heap->Prop}{YP:World->Heap->Prop}{d:DefRec}{K:Params->av}(hn:l.most=some 63)(hdf:d.params.defaults = [])
  (hY: ∀(w:World) (h:Heap),YP w h->(K w.params).In h)
  (F: ∀(w:World) (mg:Str->Option Value) (fa:Addr) (h:Heap),(K w.params).In h->h.Ns mainGlobals mg->mg d.name=some (.ref fa) -> ∃(tabs:List (Addr×Str)) (fd:FuncData) (sp:Sp),
   (∀ r∈tabs,(K w.params).lookup r.1=none /\ ∃ x d c,(ot q).find? (fun e=>e.name == x)=some d/\PySem.W.tabIn (K w.params) x=some (c,r.1))/\(∀ (s:Shared) (v:Value),BindsTo s fd ⟨[v],[]⟩ [("script",v)]) /\
   (∀ base:Heap,(K w.params).In base->base.Ns mainGlobals mg->gm mg base->jB l.prog w (K w.params) mg base CX0 87 fa fd ["script"] sp) /\ ∀ (H:Hp) (a:Addr) (ns:List Int),ns.length<=63->(∀ r∈tabs,AQ H r.1 r.2)->SqL (K w.params) H a (ns.map V.int)->sp [.ref a] H (fun v _=>v = .bl true) fun _ _ _=>False) :
  PySem.W.WalkO q loose XP YP l.row.toRowW d [] (λf vs=>PySem.call f vs):=
 Fz (n:=63) (k:=87) (x:="script") hn (by decide) hdf ⟨rfl,by decide,by decide,rfl⟩ hY F
end _W
open PySem PySem.W PyProof.Rows
theorem PySem.W.Fast.tw15954937165561070514 : True := trivial
theorem PySem.W.Fast.tw4821162032723839619 : True := trivial
theorem PySem.W.Fast.tw11198316552863880045 : True := trivial
theorem PySem.W.Fast.tw18298998520293062142 : True := trivial
theorem PySem.W.Fast.tw7793394059974813219 : True := trivial
theorem PySem.W.Fast.tw107779967292867720 : True := trivial
theorem PySem.W.Fast.tw14533893704224964768 : True := trivial
theorem PySem.W.Fast.tw835464500882218242 : True := trivial
theorem PySem.W.Fast.tw7681576287346565811 : True := trivial
theorem PySem.W.Fast.tw18444073799631201784 : True := trivial
theorem PySem.W.Fast.tw18187609406867829141 : True := trivial
theorem PySem.W.Fast.tw10252026945529751516 : True := trivial
theorem PySem.W.Fast.tw2892238208342406423 : True := trivial
theorem PySem.W.Fast.tw12749436162455319219 : True := trivial
theorem PySem.W.Fast.tw8059049408960597595 : True := trivial
theorem PySem.W.Fast.tw18146010540161869907 : True := trivial
theorem PySem.W.Fast.tw803319770849655868 : True := trivial
theorem PySem.W.Fast.tw2437271565783806473 : True := trivial
theorem PySem.W.Fast.tw8713779148591279112 : True := trivial
theorem PySem.W.Fast.tw10566813618078375689 : True := trivial
theorem PySem.W.Fast.tw17969495801651993554 : True := trivial
theorem PySem.W.Fast.tw1725979359663697277 : True := trivial
theorem PySem.W.Fast.tw11906783798850586829 : True := trivial
theorem PySem.W.Fast.tw5778411032924125007 : True := trivial
theorem PySem.W.Fast.tw3453603982992680433 : True := trivial
theorem PySem.W.Fast.tw18377988870867472593 : True := trivial
theorem PySem.W.Fast.tw1593393859130709381 : True := trivial
theorem PySem.W.Fast.tw789981834546247122 : True := trivial
theorem PySem.W.Fast.tw6486951667995968359 : True := trivial
theorem PySem.W.Fast.tw1245179088844483587 : True := trivial
theorem PySem.W.Fast.tw14786834921898199464 : True := trivial
theorem PySem.W.Fast.tw4713572290052641823 : True := trivial
theorem PySem.W.Fast.tw12849964385435317842 : True := trivial
theorem PySem.W.Fast.tw16950699521787871093 : True := trivial
set_option maxRecDepth 100000 in
set_option maxHeartbeats 0 in
theorem PySem.Challenge.cw_groupwalks_k45_whole_walks_found_holds : PySem.Challenge.rw_groupwalks_k45_whole_walks_found.Holds := by
 w_on;o_law;k_head;(case hw=>w_witness2)
 k_fill
 refine _W.walk (l:=PySem.Challenge.rw_groupwalks_k45_whole_walks_found) rfl rfl (λw h Y=>PySem.W.km_in_of Y) ?F
 case F=>
  intro w mg fa h KX Gh hmg
  refine' _W.all_mk KX Gh hmg ?B ?con0 ?con1 ?g41 ?nd (_G.bW ?a0 ?l0 ?c0 ?k0) (_G.bW ?a1 ?l1 ?c1 ?k1) (_G.bW ?a2 ?l2 ?c2 ?k2) (_G.bW ?a3 ?l3 ?c3 ?k3) (_G.bW ?a4 ?l4 ?c4 ?k4) (_G.bW ?a5 ?l5 ?c5 ?k5) (_G.bW ?a6 ?l6 ?c6 ?k6) (_G.bW ?a7 ?l7 ?c7 ?k7) (_G.bW ?a8 ?l8 ?c8 ?k8) (_G.bW ?a9 ?l9 ?c9 ?k9) (_G.bW ?a10 ?l10 ?c10 ?k10) (_G.bW ?a11 ?l11 ?c11 ?k11) (_G.bW ?a12 ?l12 ?c12 ?k12) (_G.bW ?a13 ?l13 ?c13 ?k13) (_G.bW ?a14 ?l14 ?c14 ?k14) (_G.bW ?a15 ?l15 ?c15 ?k15) (_G.bW ?a16 ?l16 ?c16 ?k16) (_G.bW ?a17 ?l17 ?c17 ?k17) (_G.bW ?a18 ?l18 ?c18 ?k18) (_G.bW ?a19 ?l19 ?c19 ?k19) (_G.bW ?a20 ?l20 ?c20 ?k20) (_G.bW ?a21 ?l21 ?c21 ?k21) (_G.bW ?a22 ?l22 ?c22 ?k22) (_G.bW ?a23 ?l23 ?c23 ?k23) (_G.bW ?a24 ?l24 ?c24 ?k24) (_G.bW ?a25 ?l25 ?c25 ?k25) (_G.bW ?a26 ?l26 ?c26 ?k26) (_G.bW ?a27 ?l27 ?c27 ?k27) (_G.bW ?a28 ?l28 ?c28 ?k28) (_G.bW ?a29 ?l29 ?c29 ?k29) (_G.bW ?a30 ?l30 ?c30 ?k30) (_G.bW ?a31 ?l31 ?c31 ?k31) (_G.bW ?a32 ?l32 ?c32 ?k32) (_G.bW ?a33 ?l33 ?c33 ?k33) (_G.bW ?a34 ?l34 ?c34 ?k34) (_G.bW ?a35 ?l35 ?c35 ?k35) (_G.bW ?a36 ?l36 ?c36 ?k36) (_G.bW ?a37 ?l37 ?c37 ?k37) (_G.bW ?a38 ?l38 ?c38 ?k38) (_G.bW ?a39 ?l39 ?c39 ?k39) (_G.bW ?a40 ?l40 ?c40 ?k40) (_G.Jl ?a41 ?l41 ?c41 ?k41 ?e41 ?u41 ?v41 ?w41 ?x41 ?y41 ?z41 ?t41) (_G.bW ?a42 ?l42 ?c42 ?k42) (_G.bW ?a43 ?l43 ?c43 ?k43) (_G.bW ?a44 ?l44 ?c44 ?k44) (_G.bW ?a45 ?l45 ?c45 ?k45) (_G.bW ?a46 ?l46 ?c46 ?k46) ?n41 ?r41
  (case con0=>exact⟨_,by k_is⟩)
  (case con1=>exact⟨_,by k_is⟩)
  case B=>
   intro x hx
   simp only[_G.kP,aK,jy,or_false]at hx
   rcases hx with rfl |rfl |rfl |rfl |rfl |rfl |rfl |rfl |rfl |rfl |rfl |rfl |rfl |rfl |rfl |rfl |rfl |rfl |rfl |rfl
   all_goals k_is
  (case a0=>k_is);(case l0=>k_is);(case c0=>k_is);(case k0=>k_is)
  (case a1=>k_is);(case l1=>k_is);(case c1=>k_is);(case k1=>k_is)
  (case a2=>k_is);(case l2=>k_is);(case c2=>k_is);(case k2=>k_is)
  (case a3=>k_is);(case l3=>k_is);(case c3=>k_is);(case k3=>k_is)
  (case a4=>k_is);(case l4=>k_is);(case c4=>k_is);(case k4=>k_is)
  (case a5=>k_is);(case l5=>k_is);(case c5=>k_is);(case k5=>k_is)
  (case a6=>k_is);(case l6=>k_is);(case c6=>k_is);(case k6=>k_is)
  (case a7=>k_is);(case l7=>k_is);(case c7=>k_is);(case k7=>k_is)
  (case a8=>k_is);(case l8=>k_is);(case c8=>k_is);(case k8=>k_is)
  (case a9=>k_is);(case l9=>k_is);(case c9=>k_is);(case k9=>k_is)
  (case a10=>k_is);(case l10=>k_is);(case c10=>k_is);(case k10=>k_is)
  (case a11=>k_is);(case l11=>k_is);(case c11=>k_is);(case k11=>k_is)
  (case a12=>k_is);(case l12=>k_is);(case c12=>k_is);(case k12=>k_is)
  (case a13=>k_is);(case l13=>k_is);(case c13=>k_is);(case k13=>k_is)
  (case a14=>k_is);(case l14=>k_is);(case c14=>k_is);(case k14=>k_is)
  (case a15=>k_is);(case l15=>k_is);(case c15=>k_is);(case k15=>k_is)
  (case a16=>k_is);(case l16=>k_is);(case c16=>k_is);(case k16=>k_is)
  (case a17=>k_is);(case l17=>k_is);(case c17=>k_is);(case k17=>k_is)
  (case a18=>k_is);(case l18=>k_is);(case c18=>k_is);(case k18=>k_is)
  (case a19=>k_is);(case l19=>k_is);(case c19=>k_is);(case k19=>k_is)
  (case a20=>k_is);(case l20=>k_is);(case c20=>k_is);(case k20=>k_is)
  (case a21=>k_is);(case l21=>k_is);(case c21=>k_is);(case k21=>k_is)
  (case a22=>k_is);(case l22=>k_is);(case c22=>k_is);(case k22=>k_is)
  (case a23=>k_is);(case l23=>k_is);(case c23=>k_is);(case k23=>k_is)
  (case a24=>k_is);(case l24=>k_is);(case c24=>k_is);(case k24=>k_is)
  (case a25=>k_is);(case l25=>k_is);(case c25=>k_is);(case k25=>k_is)
  (case a26=>k_is);(case l26=>k_is);(case c26=>k_is);(case k26=>k_is)
  (case a27=>k_is);(case l27=>k_is);(case c27=>k_is);(case k27=>k_is)
  (case a28=>k_is);(case l28=>k_is);(case c28=>k_is);(case k28=>k_is)
  (case a29=>k_is);(case l29=>k_is);(case c29=>k_is);(case k29=>k_is)
  (case a30=>k_is);(case l30=>k_is);(case c30=>k_is);(case k30=>k_is)
  (case a31=>k_is);(case l31=>k_is);(case c31=>k_is);(case k31=>k_is)
  (case a32=>k_is);(case l32=>k_is);(case c32=>k_is);(case k32=>k_is)
  (case a33=>k_is);(case l33=>k_is);(case c33=>k_is);(case k33=>k_is)
  (case a34=>k_is);(case l34=>k_is);(case c34=>k_is);(case k34=>k_is)
  (case a35=>k_is);(case l35=>k_is);(case c35=>k_is);(case k35=>k_is)
  (case a36=>k_is);(case l36=>k_is);(case c36=>k_is);(case k36=>k_is)
  (case a37=>k_is);(case l37=>k_is);(case c37=>k_is);(case k37=>k_is)
  (case a38=>k_is);(case l38=>k_is);(case c38=>k_is);(case k38=>k_is)
  (case a39=>k_is);(case l39=>k_is);(case c39=>k_is);(case k39=>k_is)
  (case a40=>k_is);(case l40=>k_is);(case c40=>k_is);(case k40=>k_is)
  (case a41=>k_is);(case l41=>k_is);(case c41=>k_is);(case k41=>k_is)
  (case e41=>k_is);(case u41=>rfl);(case v41=>rfl);(case w41=>rfl);(case x41=>rfl);(case y41=>rfl);(case z41=>rfl);(case t41=>decide)
  (case a42=>k_is);(case l42=>k_is);(case c42=>k_is);(case k42=>k_is)
  (case a43=>k_is);(case l43=>k_is);(case c43=>k_is);(case k43=>k_is)
  (case a44=>k_is);(case l44=>k_is);(case c44=>k_is);(case k44=>k_is)
  (case a45=>k_is);(case l45=>k_is);(case c45=>k_is);(case k45=>k_is)
  (case a46=>k_is);(case l46=>k_is);(case c46=>k_is);(case k46=>k_is)
  (case g41=>decide)
  (case nd=>decide)
  (case n41=>kernel_rfl);(case r41=>rfl)
