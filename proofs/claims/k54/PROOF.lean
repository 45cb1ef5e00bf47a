import PyProof.Rows.All
import Wide.All
import OpenK.AllK
import Wide.FinOn
import Lean
import PyProof.EqAt
import PyProof.EqKinds
import PyProof.TupleCall
import KE.KSortTup
import PyProof.EnumStmt
import PyProof.EnumMake
import PyProof.EnumFor
import PyProof.ZipIter
import PyProof.CompFree
import PyProof.CompMap
import PyProof.Cells
import PyProof.ListMulRoad
import PyProof.ConsumeWalk
import PyProof.TupleOfGen
import PyProof.ListRange
import PySem.Challenge.RW_groupwalks_k54_too_many_sides
set_option bootstrap.genMatcherCode false
set_option Elab.async false
set_option linter.all false
set_option maxRecDepth 100000
set_option maxHeartbeats 0
set_option compiler.postponeCompile true
set_option bootstrap.genMatcherCode false
set_option genSizeOfSpec false
set_option relaxedAutoImplicit false
set_option compiler.extract_closed false
open scoped BitVec
set_option hygiene false
theorem au1(h:0=0:=by rfl):0=0:=h
theorem au2(h:0=0:=by decide):0=0:=h
theorem au3(h:Nat->0=0:=by intro _;rfl):0=0:=h 0
theorem au4(h:0=0\/0=1:=by first |exact .inl rfl |exact .inr rfl |assumption):0=0:=rfl
noncomputable section
open Array renaming toList_append→bO,length_toList→bX,getElem?_toList→dh,toList_push→dG,getElem?_eq_getElem→fe,toList_setIfInBounds→yB,toList_reverse→Fz
open Bool renaming and_eq_true→aq,false_ne_true→cQ,and_eq_true_iff→eB,false_eq_true→eR,and_true→ie,not_eq_true'→tN
open Classical renaming propDecidable→cx,byContradiction→gG
open False renaming elim→bK
open ForInStep renaming yield→eT
open Function renaming comp_def→FJ
open Int renaming ofNat_lt→fX,natCast_emod→m7,emod_lt_of_pos→tE,toNat_natCast→uf,natCast_ediv→wx,emod_nonneg→yJ,natCast_add→yK,eq_ofNat_of_zero_le→Cz,toNat→CA
open List renaming getElem?_eq_some_iff→ah,length_map→ar,mem_cons_of_mem→av,range→ax,getElem?_set_ne→aC,mem_cons→aD,getElem?_eq_getElem→aI,mem_append_right→aJ,getElem?_set_self→aM,mem_range→aO,getD_eq_getElem?_getD→aP,range'→aQ,mem_map→aR,getElem?_append_left→aS,mem_cons_self→aT,append_assoc→aU,mem_append→aV,mem_append_left→aZ,getElem?_map→ba,length_range→be,nodup_iff_pairwise_ne→bf,length_append→bo,getElem?_append_right→br,mem_of_getElem?→bG,all_cons→bH,length_cons→bI,mem_singleton→bL,append_nil→bP,getElem_mem→bR,map_append→bS,lookup_cons→bT,length_eq_zero_iff→bY,replicate→cp,size_toArray→cH,drop_of_length_le→cY,pairwise_iff_getElem→dg,pairwise_append→dy,map_cons→dH,take_of_length_le→dI,drop_left→dJ,map_map→dM,pairwise_map→dN,mem_filter→dQ,nil_append→dR,drop_eq_getElem_cons→dW,all_eq_true→d8,mem_reverse→eK,cons_append→eN,not_mem_nil→eO,take_left→eS,set_append_right→eZ,findIdx?_eq_some_iff_getElem→ff,extract_eq_take_drop→fh,nodup_cons→fi,map_congr_left→fC,length_take→fF,eq_nil_of_length_eq_zero→fK,length_filter_le→gn,length→gK,mem_of_mem_drop→gL,mem_of_mem_take→gM,getElem_map→gU,filterMap_cons→hG,length_set→ip,find?_cons→iq,range_succ→ir,lookup_append→iy,getElem?_replicate→iE,nodup_append→iU,pairwise_lt_range→iV,all_nil→iW,take_append_drop→jg,any_eq_true→jk,range_eq_range'→jA,of_mem_zip→jO,length_pos_iff→jZ,pairwise_cons→kj,drop_drop→kl,ext_getElem?→kY,take_add_one→kZ,any_cons→k7,ext_getElem→mR,range'_succ→mU,pairwise_reverse→nW,getElem?_eq_none→nZ,mem_iff_getElem→oW,getElem?_take→qJ,take_sublist→tF,reverse_perm→tH,toArray→tI,map→tP,zipIdx_cons→u7,drop_length→vd,dropLast_concat_getLast→wy,forIn_cons→wB,drop_zero→yM,perm_cons→yN,getElem?_eq_none_iff→zR,idxOf_lt_length_iff→A0,eraseIdx_cons_succ→Cn,pairwise_mergeSort→Co,filter_cons_of_pos→Cs,filter_cons_of_neg→Ct,length_replicate→FB,dropLast_eq_take→FD,perm_cons_erase→FL,lookup→FN,getElem_toArray→FP,map_eq_cons_iff→FQ
open List.Pairwise renaming imp_of_mem→dO,nil→gW
open List.Perm renaming trans→FK
open Nat renaming lt_of_lt_of_le→ak,le_refl→ao,le_of_lt→aE,le_trans→aH,lt_of_le_of_lt→aK,ne_of_lt→aL,lt_trans→bg,lt_of_le_of_ne→bp,lt_irrefl→bA,mod_eq_of_lt→bC,add_pos_left→bJ,lt_succ_self→cw,ne_of_gt→cJ,zero_le→cU,le_succ→dz,le_of_not_lt→dA,add_sub_cancel_left→dB,lt_succ_of_lt→dP,add_assoc→eu,zero_add→eA,le_of_lt_succ→eF,le_succ_of_le→eG,le_add_right→fH,pos_of_ne_zero→fU,div_eq_of_lt→g8,lt_succ_iff_lt_or_eq→il,lt_or_eq_of_le→iF,lt_of_succ_lt_succ→i7,sub_self→kh,mul_comm→ki,mod_lt→kQ,add_mod_right→k9,sub_sub_right→lg,sub_add_comm→mZ,mod_self→nR,sub_le→nS,min_eq_left→nU,mod_add_mod→nY,mul_le_mul_right→pN,mul_le_mul_left→qr,mod_eq_sub_mod→tD,zero_lt_of_lt→uh,max_eq_right→wm,max_eq_left→yA,div_add_mod→yI,lt_or_ge→Fy,add_comm→FH,succ_mul→FI
open Nat.succ renaming inj→yO
open Ne renaming symm→dj
open Option renaming bind_some→aG,isSome_iff_exists→cq,map_some→cP,map_eq_some_iff→iN,filter_eq_some_iff→km,isSome_map→qK,or_eq_some_iff→Cp
open Option.some renaming inj→dD,injEq→jP
open Prod.mk renaming injEq→yC
open PyProof.Rows renaming callWith_type1→dm,recsOf→i8,boot_sorted→tO,boot_tuple→ug
open PyProof.Rows.IsTup renaming new→AW
open PyProof.Rows.SortSt renaming mk'→wz
open PySem renaming wpAny_bind→ag,wpAny_pure→aF,wpAny→aN,wpAny_mono→bE,mem_of_lookup→bN,wpAny_Call_Name_kw→dE,wpAny_newObj_type→eJ,wpAny_field→e9,codeAny_builtin→fA,wpAny_call_entry→fV,wpAny_seqItems→fW,wpAny_rule→gy,wpAny_setField_rec→gE,wpAny_passesOwn→gH,wpAny_holding→gJ,codeAny_mono→ij,wpAny_execs_nil→iT,wpAny_callSpecial?_slot→i9,wpAny_truthy_bool→jx,wpAny_loadPart_at→jz,wpAny_pyIter_tuple→mh,codeAny→pL,Addr→qu,wpAny_updateSeq_pair→tu,wpAny_standAt→u0,wpAny_newList→u9,wpAny_onRaise→vc,wpAny_assign_Name→yz,wpAny_execs_cons→zP,wpAny_updateSeq→Ck,wpAny_loadPart'→Cm,wpAny_load→Fv,wpAny_call→Fw,wpAny_runValue→FE
open PySem.Around renaming frames_deeper→Cv
open PySem.Builtin.List renaming listTooLong→gF,listSameRef→tL
open PySem.Builtin.Range renaming rangeSize→dZ,small→mm
open PySem.Builtin.SmallTypes renaming nextOf→dr
open PySem.Builtin.Tuple renaming tupleExact→tz
open PySem.Calls renaming spliced_cons→d6,spliced_nil→gg,evalArgs_plain→jy,call_function_entry→kP,callWith_builtin→mX,Constant_str→qp,Name_function_global→yy
open PySem.Data renaming seq→FM
open PySem.F renaming plainAttrs_list→fw,slot_tuple_iterator_next→gZ,typeOf_object_class→jB,args_tuple_add_2→kN,entry_tuple_add→kX,slot_tuple_add→mj,slot_zip_next→oY,entry_proto_collect→pM,plain_list_iadd→wo,entry_list_iadd→wq,excBase_ValueError→wt,slot_list_append→yE,type_list_append→yF,slot_tuple_index→yG,args_tuple_iterator_next_1→zQ,entry_tuple_iterator_next→AX,slot_list_pop→AY,type_list_pop→AZ
open PySem.Heap renaming get?_push_of_some→af,lt_size→aw,get?_push_size→ay,size_push→bF,get?_update_other→cX,get?_update_self→gh,SameBut→nk,FlyingW→nr,ExtBut→oX,IsTuple→tJ,get?_push_ne→tK
open PySem.Heap.SameBut renaming update→yD
open PySem.IsL renaming update→Fx
open PySem.NameKind renaming free→a9,cell→d5
open PySem.Obj renaming mapSeq→cz
open PySem.Paired renaming length→yL
open PySem.PassesOwn renaming never→k8
open PySem.PyData renaming eqvAll→gm,int→iz,eqv→iA,canLay0→iO,canLayAll0→kO,eqv→mS,depthAll→mY,depth→qL
open PySem.SeqAt.EqAt renaming int_str→AU,str_int→AV
open PySem.Shared renaming heap→nX
open PySem.Str renaming empty→Cy,ofString→FA
open PySem.Value renaming ref→bW,none→cN,builtin→qg,type→qo,int→AS
open PySem.W renaming Frag→aj,nsIn→bj,keepIn→cg,mg_of→cm,kitOne→cM,fnOf→cW,hideAll_get→fk,hideAll_none→gw,codeIn→gz,hideAll→g9,cellsFrom_some→iD,of_hideAll→jX,callWith_K→jY,OpenLaw→mT,hideAll_size→nQ,kla_makeFunctionHit→ve,exmOne→wu,kla_makeFunction→yH,kla_callFunE→Cq,kla_codeExpr→Cr,callWith_K0→Cu,callWith_of→Cw,mg_none_of→FG
open PySem.W.Looks renaming ld→oV
open Sum renaming inl→i6,inr→Fu
open True renaming intro→nq
namespace _L
open PySem PySem.Spec PyProof.Rows
abbrev Key:=Sum Int Str
def sg:Key->Value->Bool
 |.inl k,v=>Value.isInt k v
 |.inr x,v=>Value.isStrOf x v
def PV(w:World):Key->Int
 |.inl k=>hashInt k
 |.inr x=>hashStr w x
theorem eD:∀{k:Key}{v:Value},sg k v=true->(∃i t,k=i6 i/\v=AS i t)\/(∃x t,k=Fu x/\v=Value.str x t)
 | .inl i,v,h=>by
   obtain⟨t,e⟩:=Value.isInt_shape h;exact .inl ⟨i,t,rfl,e⟩
 | .inr x,v,h=>by
   obtain⟨t,e⟩:=Value.isStrOf_shape h;exact .inr ⟨x,t,rfl,e⟩
theorem BJ(i:Int)(t:Tok):sg (.inl i) (.int i t)=true:=by simp[sg,Value.isInt]
theorem BU(x:Str)(t:Tok):sg (.inr x) (.str x t)=true:=by simp[sg,Value.isStrOf]
theorem K0(a b:Int):decide ((i6 a:Key)=i6 b)=(a==b):=by
 grind
theorem KY(a b:Str):decide ((Fu a:Key)=Fu b)=decide (a=b):=by
 grind
theorem KE(a:Int)(b:Str):decide ((i6 a:Key)=Fu b)=false:=decide_eq_false (λq=>nomatch q)
theorem L0(a:Str)(b:Int):decide ((Fu a:Key)=i6 b)=false:=decide_eq_false (λq=>nomatch q)
def eC(prog:Program)(w:World):PySem.KeyKind prog w Key where
 is:=sg
 hash:=PV w
 inj:=λv a b ha hb=>by
  rcases eD ha with⟨i,t,rfl,rfl⟩|⟨x,t,rfl,rfl⟩
  .rcases eD hb with⟨j,u,rfl,e⟩|⟨y,u,rfl,e⟩
   .injection e with e1 _;rw[e1]
   .exact nomatch e
  .rcases eD hb with⟨j,u,rfl,e⟩|⟨y,u,rfl,e⟩
   .exact nomatch e
   .injection e with e1 _;rw[e1]
 byValue:=λk v h=>by
  rcases eD h with⟨i,t,rfl,rfl⟩|⟨x,t,rfl,rfl⟩<;>rfl
 pyHash:=λhv h=>by
  rcases eD hv with⟨i,t,rfl,rfl⟩|⟨x,t,rfl,rfl⟩
  .exact wpAny_pyHash_int h
  .exact wpAny_pyHash_str h
 eqBool:=λhu hv h=>by
  rcases eD hu with⟨i,t,rfl,rfl⟩|⟨x,t,rfl,rfl⟩
  .rcases eD hv with⟨j,u,rfl,rfl⟩|⟨y,u,rfl,rfl⟩
   .rw[K0]at h;exact wpAny_eqBool_int h
   .rw[KE]at h;exact AU i t y u _ _ _ _ h
  .rcases eD hv with⟨j,u,rfl,rfl⟩|⟨y,u,rfl,rfl⟩
   .rw[L0]at h;exact AV x t j u _ _ _ _ h
   .rw[KY]at h;exact wpAny_eqBool_str h
 «strs»:=λk x t v h=>by
  rcases eD h with⟨i,u,rfl,e⟩|⟨y,u,rfl,e⟩
  .exact nomatch e
  .injection e with e1 _
   subst e1;cases v<;>rfl
theorem xO(prog:Program)(w:World)(i:Int)(t:Tok):(eC prog w).is (.inl i) (.int i t)=true:=BJ i t
theorem wZ(prog:Program)(w:World)(x:Str)(t:Tok):(eC prog w).is (.inr x) (.str x t)=true:=BU x t
inductive V where
 |non |bl (b:Bool) |int (i:Int) |str (x:Str) |byt (b:Array UInt8) |flt (b:UInt64) |ref (a:Addr) |ty (n:String)
def RelV:V->Value->Prop
 |.non,u=>u=cN
 |.bl b,u=>u=Value.bool b
 |.int i,u=>∃t,u=AS i t
 |.str x,u=>∃t,u=Value.str x t
 |.byt b,u=>∃t,u=Value.bytes b t
 |.flt b,u=>∃t,u=Value.float b t
 |.ref a,u=>u=bW a
 |.ty n,u=>u=qo n
abbrev cK:List V->List Value->Prop:=Paired RelV
variable{xs:List V}{us:List Value}
theorem cK.length(r:cK xs us):xs.length=us.length:=yL r
theorem cK.get:∀{xs:List V}{us:List Value}{i:Nat}{x:V},cK xs us->xs[i]?=some x->∃u,us[i]?=some u/\RelV x u
 |_,_,_,_,.nil,e=>by simp at e
 |_,_,0,_,.cons r _,e=>by simp_all
 | _,_,i+1,x,.cons _ t,e=>by
   obtain⟨u,h1,h2⟩:=cK.get t (by simpa using e)
   simp_all
theorem cK.set{x:V}{u:Value}(r:RelV x u):∀{xs:List V}{us:List Value} (i:Nat),cK xs us->cK (xs.set i x) (us.set i u)
 |_,_,_,.nil=>.nil
 |_,_,0,.cons _ t=>.cons r t
 |_,_,i+1,.cons q t=>.cons q (cK.set r i t)
theorem cK.append:∀{xs ys:List V}{us ws:List Value},cK xs us->cK ys ws->cK (xs++ys) (us++ws)
 |_,_,_,_,.nil,s=>s
 |_,_,_,_,.cons r t,s=>.cons r (cK.append t s)
def uc:Option V->Option Value->Prop
 |some v,some u=>RelV v u
 |none,none=>True
 |_,_=>False
def KV{κ:Type}:List (κ×V)->List (κ×Value)->Prop:=Paired λ(p:κ×V) (q:κ×Value)=>p.1=q.1/\RelV p.2 q.2
def kV:Key->V
 |.inl i=>.int i
 |.inr x=>.str x
inductive HO where
 |lst (xs:List V)
 |tup (xs:List V)
 |dK (kvs:List (Key×V)) |dT (kvs:List (List Key×V))
 |set (S:Int->Bool) (n:Nat)
 |ins (C dx:Addr) (fs:List (Str×V))
 |own (x:Addr)
 |xd (fs:List (Str×V))
 |met (f x:Addr)
 |rng (lo hi:Int)
 |frz (o:Obj) (u:HO)
 |tbl (ps:Array Value)
 |ext (φ:Heap->Prop)
abbrev Hp:=Addr->Option HO
def upd(H:Hp)(a:Addr)(o:HO):Hp:=λb=>if b=a then some o else H b
variable{H:Hp}{a:Addr}{o:HO}
theorem cb:upd H a o a=some o:=by unfold upd;rw[if_pos rfl]
variable{b:Addr}
theorem aX(h:b≠a):upd H a o b=H b:=by unfold upd;rw[if_neg h]
theorem pO{u:HO}(h:H a=some o)(h':H b=some u)(d:o≠u):a≠b:=by
 grind
theorem aW(h:H a=some o)(h':H b=none):a≠b:=by
 grind
section
variable (P:Program) (w:World)
def fP(H:Hp)(h:Heap)(a:Addr):HO->Prop
 |.lst xs=>xs.length<=sizeLine /\ ∃ (ZY:List Value) (n:Nat),cK xs ZY/\h.get? a=some { cls := .type "list",data := .seq ZY.toArray n }
 |.tup xs=>xs.length<=sizeLine /\ ∃ZY:List Value,cK xs ZY/\IsTup h a ZY.toArray /\ ∃o,h.get? a=some o/\o.dict=none
 |.dK kvs=>kvs.length<=sizeLine/\(a==sysModules)=false /\ ∃vs,KV kvs vs/\h.DictOf (eC P w) a vs
 | .dT kvs=>kvs.length<=sizeLine/\(a==sysModules)=false /\ ∃xs:List (List Key×Addr×Value),
   Paired (λ(p:List Key×V) (q:List Key×Addr×Value)=>p.1=q.1/\H q.2.1=some (.tup (p.1.map kV))/\RelV p.2 q.2.2) kvs xs /\
   ∃o es ep,h.get? a=some o/\o.ExactDict/\o.data=.dict es ep/\es.toList=xs.map (entryOfKey (tupleKind (eC P w)))/\(xs.map (·.1)).Nodup
 |.set S n=>h.SetOf (intKind P w) a S n
 | .ins C dx fs=>H dx=some (.own a)/\fs.length<=1000/\dx≠a/\h.get? a=some (PySem.W.instObj C dx) /\
   ∃mA,h.Ns1 dx mA/\(∀f,uc (fs.lookup f) (mA f))/\PySem.Within mA (fs.map (·.1))
 |.own _=>∃o,h.get? a=some o
 |.xd fs=>∃mA,h.Ns1 a mA /\ ∀f,uc (fs.lookup f) (mA f)
 |.rng lo hi=>∃ t u v,h.get? a=some { cls := .type "range",data := .fields #[.int lo t,.int hi u,.int 1 v] }
 |.frz o u=>h.get? a=some o/\fP H h a u
 |.tbl ps=>h.get? a=some { cls:= .none,data:= .fields ps }
 |.met f x=>h.get? a=some (PySem.W.methodObj (.ref f) (.ref x))
 |.ext φ=>φ h/\(∃o,h.get? a=some o) /\ ∀h1 h2:Heap,φ h1->(∀o,h1.get? a=some o->h2.get? a=some o)->φ h2
def HOk(H:Hp)(h:Heap):Prop:= ∀a o,H a=some o->fP P w H h a o
end
section
variable {P:Program}{w:World}{H H':Hp}{h h':Heap}{a:Addr}{o:HO}
theorem fP.lt(x:fP P w H h a o):a<h.objs.size:=by
 cases o with
 |lst xs=>obtain⟨_,_,_,_,e⟩:=x;exact aw e
 |tup xs=>obtain⟨_,_,_,p⟩:=x;exact p.1.lt
 |dK kvs=>obtain⟨_,_,_,_,o,_,_,e,_⟩:=x;exact aw e
 |dT kvs=>obtain⟨_,_,_,_,o,_,_,e,_⟩:=x;exact aw e
 |set S n=>obtain⟨o,_,_,_,e,_⟩:=x;exact aw e
 |ins C dx fs=>obtain⟨_,_,_,e,_⟩:=x;exact aw e
 |own y=>obtain⟨_,e⟩:=x;exact aw e
 |xd fs=>obtain⟨_,⟨_,_,_,e,_⟩,_⟩:=x;exact aw e
 |rng lo hi=>obtain⟨_,_,_,e⟩:=x;exact aw e
 |frz ob u=>obtain⟨e,_⟩:=x;exact aw e
 |tbl ps=>exact aw (x)
 |met f y=>exact aw (x)
 |ext φ=>obtain⟨_,⟨_,e⟩,_⟩:=x;exact aw e
theorem Paired.mapP{α β:Type}{F v6:α->β->Prop}:∀{l₁:List α}{l₂:List β},Paired F l₁ l₂->(∀a b,F a b->v6 a b)->Paired v6 l₁ l₂:=by
 intro l m h f
 induction h with
 |nil=>exact .nil
 |cons r t ih=>exact .cons (f _ _ r) ih
theorem fP.stay(x:fP P w H h a o)(k:∀b u,(b=a\/H b=some (.own a))->h.get? b=some u->h'.get? b=some u)
  (ho:∀b,H b=some (.own a)->H' b=some (.own a)) (ht:∀b xs,H b=some (.tup xs)->H' b=some (.tup xs)):fP P w H' h' a o:=by
 induction o with
 |lst xs=>obtain⟨z,ZY,n,r,e⟩:=x;exact⟨z,_,n,r,k _ _ (.inl rfl) e⟩
 |tup xs=>obtain⟨z,ZY,r,⟨ob,e,c⟩,o2,e2,c2⟩:=x;exact⟨z,_,r,⟨ob,k _ _ (.inl rfl) e,c⟩,o2,k _ _ (.inl rfl) e2,c2⟩
 |dK kvs=>obtain⟨z,y,vs,r,ob,es,ep,e,c⟩:=x;exact⟨z,y,vs,r,ob,es,ep,k _ _ (.inl rfl) e,c⟩
 | dT kvs=>
   obtain⟨z,y,xs,r,ob,es,ep,e,c⟩:=x;exact⟨z,y,xs,Paired.mapP r λp q z=>⟨z.1,ht _ _ z.2.1,z.2.2⟩,ob,es,ep,k _ _ (.inl rfl) e,c⟩
 |set S n=>obtain⟨ob,es,ep,t,e,c⟩:=x;exact⟨ob,es,ep,t,k _ _ (.inl rfl) e,c⟩
 | ins C dx fs=>
   obtain⟨d,z,ne,e,mA,⟨od,es,ep,e2,c⟩,r⟩:=x;exact⟨ho _ d,z,ne,k _ _ (.inl rfl) e,mA,⟨od,es,ep,k _ _ (.inr d) e2,c⟩,r⟩
 |own y=>obtain⟨ob,e⟩:=x;exact⟨ob,k _ _ (.inl rfl) e⟩
 |xd fs=>obtain⟨mA,⟨od,es,ep,e,c⟩,r⟩:=x;exact⟨mA,⟨od,es,ep,k _ _ (.inl rfl) e,c⟩,r⟩
 |rng lo hi=>obtain⟨t,u,v,e⟩:=x;exact⟨t,u,v,k _ _ (.inl rfl) e⟩
 |frz ob u ih=>obtain⟨e,q⟩:=x;exact⟨k _ _ (.inl rfl) e,ih q⟩
 | tbl ps=>
   have e:=x;exact k a _ (.inl rfl) e
 | met f y=>
   have e:=x;exact k a _ (.inl rfl) e
 |ext φ=>obtain⟨p,⟨o,e⟩,st⟩:=x;exact⟨st _ _ p λo q=>k _ _ (.inl rfl) q,⟨o,k _ _ (.inl rfl) e⟩,st⟩
theorem HOk.lt(x:HOk P w H h)(e:H a=some o):a<h.objs.size:=(x a o e).lt
theorem HOk.fresh(x:HOk P w H h)(e:h.objs.size<=a):H a=none:=by
 cases q:H a with
 |none=>rfl
 |some u=>exact absurd (ak (x.lt q) e) (bA _)
theorem HOk.kept(x:HOk P w H h)(k:∀b u,h.get? b=some u->h'.get? b=some u):HOk P w H h':=λa o e=>
 (x a o e).stay (λb u _ q=>k b u q) (λ_ q=>q) λ_ _ q=>q
theorem HOk.laid(x:HOk P w H h)(k:∀b u,h.get? b=some u->h'.get? b=some u)(hp:h.objs.size<=a)(new:fP P w (upd H a o) h' a o):HOk P w (upd H a o) h':=λb u e=>by
 have hn:=x.fresh hp;by_cases hb:b=a
 .subst hb;rw[cb]at e;grind
 .rw[aX hb]at e
  exact(x b u e).stay (λc v _ q=>k c v q) (λc q=>by rw[aX (aW q hn)];omega) λc xs q=>by rw[aX (aW q hn)];omega
end
def Rd(H:Hp)(a:Addr)(u:HO):Prop:=H a=some u \/ ∃o,H a=some (.frz o u)
variable{P:Program}{w:World}{h:Heap}
theorem Rd.ok{u:HO}(r:Rd H a u)(x:HOk P w H h):fP P w H h a u:=by
 rcases r with r|⟨o,r⟩
 .exact x a u r
 .obtain⟨_,q⟩:=x a _ r
  omega
def Mut:Option HO->Prop
 |some (.lst _)=>True
 |some (.dK _)=>True
 |some (.dT _)=>True
 |some (.set _ _)=>True
 |some (.ins _ _ _)=>True
 |some (.ext _)=>True
 |_=>False
section
variable {P:Program}{w:World}{H:Hp}{h h':Heap}{x e:Addr}{o':HO}
theorem HOk.write(ok:HOk P w H h)(mu:Mut (H x))(he:e=x\/H e=some (.own x))(k:∀b u,b≠e->h.get? b=some u->h'.get? b=some u)(W3:∃u,h'.get? e=some u)
  (new:fP P w (upd H x o') h' x o'):HOk P w (upd H x o') h':=λb u q=>by
 have nown:∀c y,H c=some (.own y)->c≠x:=λc y r z=>by subst z;rw[r]at mu;exact mu
 have ntup:∀c xs,H c=some (.tup xs)->c≠x:=λc xs r z=>by subst z;rw[r]at mu;exact mu
 by_cases hb:b=x
 .subst hb;rw[cb]at q;grind
 .rw[aX hb]at q
  by_cases RJ:b=e
  .have q':H b=some (.own x):=by
    grind
   rw[q]at q';cases q';obtain⟨v,hv⟩:=W3;exact⟨v,by rw[RJ];omega⟩
  .refine(ok b u q).stay (λc v hc r=>k c v ?_ r) (λc r=>by rw[aX (nown c b r)];omega) λc xs r=>by rw[aX (ntup c xs r)];omega
   grind
end
structure Un(fs ex:List Addr)(H H':Hp)(h h':Heap):Prop where
 keep:∀b o,h.get? b=some o->H b=none->b∉fs->b∉ex->h'.get? b=some o
 slot:∀b o,h.get? b=some o->H b=none->b∈fs->b∉ex->∃sl,h'.get? b=some { o with slots:=sl }
 free:∀b o,h.get? b=some o->H b=none->b∉ex->H' b=none
 there:∀b o,h.get? b=some o->b∉ex->∃o',h'.get? b=some o'
 tups:∀b xs,H b=some (.tup xs)->H' b=some (.tup xs)
 frzs:∀b o u,H b=some (.frz o u)->H' b=some (.frz o u)
 tbls:∀b ps,H b=some (.tbl ps)->∃more,H' b=some (.tbl (ps++more))
section
variable {fs QA ex ex':List Addr}{H H1 H2:Hp}{h h1 h2 h':Heap}{a x e:Addr}{o:HO}
theorem Un.any(u:Un fs ex H H1 h h1){ob:Obj}(q:h.get? b=some ob)(n:H b=none)(hx:b∉ex):∃sl,h1.get? b=some { ob with slots:=sl }:=by
 by_cases hb:b∈fs
 .exact u.slot b ob q n hb hx
 .exact⟨_,u.keep b ob q n hb hx⟩
theorem Un.kept(k:∀b u,h.get? b=some u->h'.get? b=some u):Un fs ex H H h h':=
 ⟨λb ob q _ _ _=>k b ob q,λb ob q _ _ _=>⟨_,k b ob q⟩,λ_ _ _ n _=>n,λb ob q _=>⟨ob,k b ob q⟩,λ_ _ q=>q,λ_ _ _ q=>q,λ_ ps q=>⟨#[],by rw[q];simp⟩⟩
theorem Un.refl:Un fs ex H H h h:=Un.kept λ_ _ q=>q
theorem Un.laid(k:∀b u,h.get? b=some u->h'.get? b=some u)(hp:h.objs.size<=a)(hn:H a=none):Un fs ex H (upd H a o) h h' where
 keep:=λb u q _ _ _=>k b u q
 slot:=λb u q _ _ _=>⟨_,k b u q⟩
 free:=λb u q n _=>by rw[aX (aL (ak (aw q) hp))];omega
 there:=λb u q _=>⟨u,k b u q⟩
 tups:=λb xs q=>by rw[aX (aW q hn)];omega
 frzs:=λb u xs q=>by rw[aX (aW q hn)];omega
 tbls:=λb ps q=>⟨#[],by rw[aX (aW q hn),q];simp⟩
theorem Un.write(mu:Mut (H x))(he:e=x\/H e=some (.own x))(k:∀b u,b≠e->h.get? b=some u->h'.get? b=some u)(W3:∃u,h'.get? e=some u):Un fs ex H (upd H x o) h h':=by
 have hx:∀b,H b=none->b≠x:=λb n z=>by subst z;rw[n]at mu;exact mu
 have hb:∀b,H b=none->b≠e:=λb n z=>by
  grind
 have hm:∀b u,H b=some u->¬Mut (some u)->b≠x:=λb u q nm z=>by grind
 refine⟨λb u q n _ _=>k b u (hb b n) q,λb u q n _ _=>⟨_,k b u (hb b n) q⟩,λb u q n _=>by rw[aX (hx b n)];omega,λb u q _ =>?_,
  λb xs q=>by rw[aX (hm b _ q λz=>z)];omega,λb u xs q=>by rw[aX (hm b _ q λz=>z)];omega,λb ps q=>⟨#[],by rw[aX (hm b _ q λz=>z),q];simp⟩⟩
 grind
end
def trk(h:Heap)(H:Hp):List Addr:=(ax h.objs.size).filter λa=>(H a).isSome
def xP(h:Heap)(H:Hp):Heap:=g9 h (trk h H)
theorem pq(h:Heap)(H:Hp):(xP h H).objs.size=h.objs.size:=nQ _ _
variable{o:Obj}
theorem oK(e:h.get? b=some o)(n:H b=none):(xP h H).get? b=some o:=
 fk _ e λhm=>by
  have q:=(dQ.mp hm).2
  grind
theorem AG(e:(xP h H).get? b=some o):h.get? b=some o/\H b=none:=by
 have e':=jX _ e;refine⟨e',?_⟩;cases q:H b with
 |none=>rfl
 | some x=>
   have hm:b∈trk h H:=dQ.mpr ⟨aO.mpr (aw e'),by simp[q]⟩;have z:(xP h H).get? b=none:=gw _ hm
   grind
def GB(g h:Heap)(L:Addr):List (Addr×Obj):=(ax h.objs.size).filterMap λa=>if a=L\/(g.get? a).isSome=true then none else(h.get? a).map λo=>(a,o)
def rest(g h:Heap)(L d:Addr):List (Addr×Obj):=(GB g h L).filter λp=>decide (p.1≠d)
structure Mod(K:aj)(mg:Str->Option Value)(base:Heap):Prop where
 kin:K.In base
 glob:base.Ns mainGlobals mg
 blt :∃ mb,base.Ns builtinsNs mb /\ ∀ x:Str,x≠"__name__"->mb x=bootBuiltins x
 nolimit:base.NoLimit
set_option genInjectivity false in
structure Cx where
 prog:Program
 w:World
 K:aj
 mg:Str->Option Value
 base:Heap
 A:Around
 N:List Str
 s₀:Shared
 H₀:Hp
 env:Env
 outer:List Env
 stack:List Env
 ex:List Addr
 fn:Str->Bool
 calm:Bool
 pn:List (Addr×Obj)
 xe:Value->Shared->Prop
def frs(l:List Env):List Addr:=l.filterMap (·.frame)
abbrev Cx.fs(X:Cx):List Addr:=frs X.outer
def Vis(sc:Scope)(x:Str):Prop:=sc.names.lookup x=some .local\/sc.names.lookup x=some .cell\/sc.names.lookup x=some .free
def Loc(sc:Scope)(x:Str):Prop:=sc.names.lookup x=some .local\/sc.names.lookup x=some .cell
def Look(env:Env)(h:Heap)(m:Str->Option Value)(x:Str)(u:Value):Prop:=
 (env.kindOf x=some .local/\m x=some u)\/((env.kindOf x=some .cell\/env.kindOf x=some .free) /\ ∃c,env.cells.lookup x=some c/\h.IsCell c (some u))
structure Cx.Ok(X:Cx):Prop where
 mod:Mod X.K X.mg X.base
 kind:X.env.scope.kind=.function
 glob:X.env.globals=mainGlobals
 blt:X.env.builtins=builtinsNs
 above:X.s₀.heap.objs.size<=X.env.locals
 inj:∀x y c,X.env.cells.lookup x=some c->X.env.cells.lookup y=some c->x=y
 has:∀x,(X.env.kindOf x=some .cell\/X.env.kindOf x=some .free)->∃c,X.env.cells.lookup x=some c
 cab:∀x c,X.fn x=true->X.env.cells.lookup x=some c->X.s₀.heap.objs.size<=c
 hd:X.calm=true->X.A.handled=none
 frames:X.A.frames=some X.stack
 stk:X.stack=X.outer\/(X.stack=X.env::X.outer/\X.env.frame=some X.env.locals)
 exf:∀b∈X.ex,b≠X.env.locals /\ ∀x c,X.env.cells.lookup x=some c->c≠b
 bs:∀b o,X.base.get? b=some o->X.s₀.heap.get? b=some o/\X.H₀ b=none
 bsz:X.base.objs.size<=X.s₀.heap.objs.size
 noex:∀b o,X.base.get? b=some o->b∉X.ex
 exfs:∀b∈X.ex,b∉X.fs
 funs:X.s₀.heap.FunFrames X.base X.outer
 frf:∀b∈X.fs,X.H₀ b=none
structure Inv(X:Cx)(pins:List (Addr×Obj))(σ:List (Option V))(H:Hp)(s:Shared):Prop where
 ok:X.Ok
 os:s.os=X.s₀.os
 bare:AllBare s.gens
 base:Un X.fs X.ex X.H₀ H X.s₀.heap s.heap
 loc:∃m,s.heap.Ns X.env.locals m /\ ∀(i:Nat) (x:Str) (v:V),X.N[i]?=some x->σ[i]?=some (some v)->Vis X.env.scope x->∃u,RelV v u/\Look X.env s.heap m x u
 cell:∀x c,X.env.cells.lookup x=some c->∃v,s.heap.IsCell c v
 free:H X.env.locals=none
 freeC:∀x c,X.env.cells.lookup x=some c->H c=none
 pin:∀p∈X.pn++pins,s.heap.get? p.1=some p.2/\H p.1=none/\p.1≠X.env.locals/\p.1∉X.fs /\ ∀v,p.2.data≠.cell v
 hok:HOk X.prog X.w H s.heap
 len:σ.length=X.N.length
section
variable {X:Cx}{pins:List (Addr×Obj)}{σ:List (Option V)}{H H':Hp}{s:Shared}{h':Heap}
theorem Cx.Ok.nofr(ok:X.Ok)(e:X.base.get? b=some o):b∉X.fs:=λhb=>by
 have:=(ok.funs.mem hb).1
 grind
theorem Inv.bs(I:Inv X pins σ H s):∀b o,X.base.get? b=some o->s.heap.get? b=some o/\H b=none:=λb o e=>
 ⟨I.base.keep b o (I.ok.bs b o e).1 (I.ok.bs b o e).2 (I.ok.nofr e) (I.ok.noex b o e),I.base.free b o (I.ok.bs b o e).1 (I.ok.bs b o e).2 (I.ok.noex b o e)⟩
theorem Inv.bk(I:Inv X pins σ H s):∀b o,X.base.get? b=some o->s.heap.get? b=some o:=λb o e=>(I.bs b o e).1
theorem Inv.mod(I:Inv X pins σ H s):Mod X.K X.mg X.base:=I.ok.mod
theorem Inv.kIn(I:Inv X pins σ H s):X.K.In s.heap:=I.ok.mod.kin.keeps I.bk
theorem Inv.lt(I:Inv X pins σ H s):X.env.locals<s.heap.objs.size:=let ⟨_,hn,_⟩:=I.loc;hn.lt
theorem Inv.sz(I:Inv X pins σ H s):X.s₀.heap.objs.size<=s.heap.objs.size:=aH I.ok.above (aE I.lt)
theorem Inv.nofs(I:Inv X pins σ H s)(h:s.heap.objs.size<=a):a∉X.fs:=λhb=>by
 obtain⟨_,o,ho,_⟩:=I.ok.funs.mem hb;exact absurd (ak (aw ho) (aH I.sz h)) (bA _)
theorem Inv.cne(I:Inv X pins σ H s):∀x c,X.env.cells.lookup x=some c->c≠X.env.locals:=λx c e z=>by
 obtain⟨v,o,ho,hd⟩:=I.cell x c e;obtain⟨m,⟨o',es,ep,XJ,Yp,_⟩,_⟩:=I.loc
 grind
theorem Inv.funs(I:Inv X pins σ H s):s.heap.FunFrames X.base X.outer:=by
 have all:∀(l:List _),(∀b∈frs l,b∈X.fs)->X.s₀.heap.FunFrames X.base l->s.heap.FunFrames X.base l:=by
  intro l
  induction l with
  |nil=>intro _ _;trivial
  | cons env r ih=>
    intro hs hl;obtain⟨hk,⟨L,o,hf,hn,ho,hd⟩,hr⟩:=hl;have hL:=hs L (by unfold frs;simp_all);obtain⟨sl,e⟩:=I.base.slot L o ho (I.ok.frf L hL) hL λz=>I.ok.exfs L z hL;exact⟨hk,⟨L,_,hf,hn,e,hd⟩,ih (λb hb=>hs b (by unfold frs;rw[hG,hf];exact av _ hb)) hr⟩
 exact all _ (λ_ hb=>hb) I.ok.funs
theorem Inv.stack(I:Inv X pins σ H s):s.heap.FunFrames X.base X.stack:=by
 rcases I.ok.stk with e|⟨e,hf⟩
 .rw[e];exact I.funs
 .rw[e]
  obtain⟨m,hn,_⟩:=I.loc;refine .cons (by rw[I.ok.kind];decide) hf hn ?_ I.funs;exact Heap.get?_none_of_le (aH I.ok.bsz I.ok.above)
theorem Inv.stkSub(I:Inv X pins σ H s):∀b∈frs X.stack,b∈X.env.locals::X.fs:=λb hb=>by
 rcases I.ok.stk with e|⟨e,hf⟩
 .grind
 .rw[e]at hb
  unfold frs at hb;rw[hG,hf]at hb;exact hb
theorem Inv.stkFree(I:Inv X pins σ H s):∀b∈frs X.stack,H b=none:=λb hb=>by
 rcases aD.mp (I.stkSub b hb) with e|hb
 .rw[e];exact I.free
 .obtain⟨_,o,ho,_⟩:=I.ok.funs.mem hb
  exact I.base.free b o ho (I.ok.frf b hb) λz=>I.ok.exfs b z hb
variable{g':Array GenState}{t':Nat}{d':Drawn}
theorem Inv.step{ch:List Addr}(I:Inv X pins σ H s)
  (XY:∀b∈ch,(b∈X.ex\/X.s₀.heap.objs.size<=b)/\b≠X.env.locals/\(∀x c,X.env.cells.lookup x=some c->c≠b) /\ ∀p∈X.pn++pins,p.1≠b)
  (keep:∀b o,b≠X.env.locals->b∉X.fs->b∉ch->s.heap.get? b=some o->H b=none->h'.get? b=some o)
  (slot:∀b o,b≠X.env.locals->b∈X.fs->b∉ch->s.heap.get? b=some o->H b=none->∃sl,h'.get? b=some { o with slots:=sl }) (free:∀b o,b∉ch->s.heap.get? b=some o->H b=none->H' b=none)
  (there:∀b o,b∉ch->s.heap.get? b=some o->∃o',h'.get? b=some o')
  (tups:∀b xs,H b=some (.tup xs)->H' b=some (.tup xs)) (frzs:∀b o u,H b=some (.frz o u)->H' b=some (.frz o u)) (tbls:∀b ps,H b=some (.tbl ps)->∃more,H' b=some (.tbl (ps++more)))
  (ns:∀m,s.heap.Ns X.env.locals m->h'.Ns X.env.locals m) (hok:HOk X.prog X.w H' h') (hg:AllBare g'):
  Inv X pins σ H' { s with heap:=h',gens:=g',drawn:=d',toks:=t' }:=by
 have neL:∀b o,X.s₀.heap.get? b=some o->b≠X.env.locals:=λb o e=>aL (ak (aw e) I.ok.above);have neC:∀b o,X.s₀.heap.get? b=some o->b∉X.ex->b∉ch:=λb o e hx hb=>by
  rcases (XY b hb).1 with z|z
  .exact hx z
  .exact absurd (ak (aw e) z) (bA _)
 have cellK:∀x c,X.env.cells.lookup x=some c->∀v,s.heap.IsCell c v->h'.IsCell c v:=λx c e v ⟨o,ho,hd⟩=>by
  have Wc:=λz=>(XY c z).2.2.1 x c e rfl;by_cases hc:c∈X.fs
  .obtain⟨sl,q⟩:=slot c o (I.cne x c e) hc Wc ho (I.freeC x c e)
   exact⟨_,q,hd⟩
  .exact⟨o,keep c o (I.cne x c e) hc Wc ho (I.freeC x c e),hd⟩
 refine⟨I.ok,I.os,hg,⟨λb o e n hb hx=>?_,λb o e n hb hx=>?_,λb o e n hx=>?_,λb o e hx=>?_,λb xs e=>tups b xs (I.base.tups b xs e),λb o xs e=>frzs b o xs (I.base.frzs b o xs e),λb ps e=>?_⟩,?_,λx c e=>?_,?_,λx c e=>?_,λp hp=>?_,hok,I.len⟩
 .exact keep b o (neL b o e) hb (neC b o e hx) (I.base.keep b o e n hb hx) (I.base.free b o e n hx)
 .obtain⟨sl,e1⟩:=I.base.slot b o e n hb hx
  obtain⟨XF,e2⟩:=slot b _ (neL b o e) hb (neC b o e hx) e1 (I.base.free b o e n hx);exact⟨_,e2⟩
 .obtain⟨o',e1⟩:=I.base.there b o e hx
  exact free b o' (neC b o e hx) e1 (I.base.free b o e n hx)
 .obtain⟨o',e1⟩:=I.base.there b o e hx
  exact there b o' (neC b o e hx) e1
 .obtain⟨m1,e1⟩:=I.base.tbls b ps e
  grind
 .obtain⟨m,hn,hl⟩:=I.loc
  refine⟨m,ns m hn,λi x v e1 e2 e3=>?_⟩;obtain⟨u,r,l⟩:=hl i x v e1 e2 e3;refine⟨u,r,?_⟩;rcases l with l | ⟨k,c,e,z⟩
  .exact .inl l
  .exact .inr ⟨k,c,e,cellK x c e _ z⟩
 .obtain⟨v,z⟩:=I.cell x c e
  exact⟨v,cellK x c e v z⟩
 .obtain⟨m,⟨o,_,_,ho,_⟩,_⟩:=I.loc
  exact free _ o (λz=>(XY _ z).2.1 rfl) ho I.free
 .obtain⟨v,o,ho,hd⟩:=I.cell x c e
  exact free c o (λz=>(XY c z).2.2.1 x c e rfl) ho (I.freeC x c e)
 .obtain⟨e,n,ne,nf,d⟩:=I.pin p hp
  have Wc:=λz=>(XY _ z).2.2.2 p hp rfl;exact⟨keep _ _ ne nf Wc e n,free _ _ Wc e n,ne,nf,d⟩
theorem Inv.un(I:Inv X pins σ H s)(u:Un X.fs [] H H' s.heap h')(hok:HOk X.prog X.w H' h'):Inv X pins σ H' { s with heap:=h',toks:=t' }:=by
 obtain⟨m,⟨o,es,ep,ho,r⟩,_⟩:=id I.loc;obtain⟨sl,hL⟩:=u.any ho I.free (by simp)
 exact I.step (ch:= []) (λ_ z=>nomatch z) (λb o _ hb _ e n=>u.keep b o e n hb (by simp)) (λb o _ hb _ e n=>u.slot b o e n hb (by simp)) (λb o _ e n=>u.free b o e n (by simp)) (λb o _ e=>u.there b o e (by simp)) u.tups u.frzs u.tbls (λm' hm=>by
  obtain⟨o',QI,RM,XJ,r'⟩:=hm;rw[ho]at XJ;cases XJ
  exact⟨_,_,_,hL,r'⟩) hok I.bare
theorem Inv.call{ch:List Addr}(I:Inv X pins σ H s)(u:Un (frs X.stack) ch H H' s.heap h')(hok:HOk X.prog X.w H' h')(hg:AllBare g')
  (XY:∀b∈ch,(b∈X.ex\/X.s₀.heap.objs.size<=b)/\b≠X.env.locals/\(∀x c,X.env.cells.lookup x=some c->c≠b) /\ ∀p∈X.pn++pins,p.1≠b):
  Inv X pins σ H' { s with heap:=h',gens:=g',drawn:=d',toks:=t' }:=by
 obtain⟨m,⟨o,es,ep,ho,r⟩,_⟩:=id I.loc;obtain⟨sl,hL⟩:=u.any ho I.free λz=>(XY _ z).2.1 rfl
 exact I.step XY (λb o hL hb hc e n=>u.keep b o e n (λz=>(aD.mp (I.stkSub b z)).elim hL hb) hc) (λb o _ _ hc e n=>u.any e n hc) (λb o hc e n=>u.free b o e n hc) (λb o hc e=>u.there b o e hc) u.tups u.frzs u.tbls (λm' hm=>by
  obtain⟨o',QI,RM,XJ,r'⟩:=hm;rw[ho]at XJ;cases XJ
  exact⟨_,_,_,hL,r'⟩) hok hg
theorem Inv.turned{it:Addr}(I:Inv X pins σ H s)(k:∀b o,b≠it->s.heap.get? b=some o->h'.get? b=some o)(hn:H it=none)(hL:it≠X.env.locals)
  (h1:it∈X.ex\/X.s₀.heap.objs.size<=it) (h2:∀x c,X.env.cells.lookup x=some c->c≠it) (h3:∀p∈X.pn++pins,p.1≠it):Inv X pins σ H { s with heap:=h',toks:=t' }:=by
 refine I.step (ch:= [it]) (λb hb=>?_) (λb o _ _ hc e _=>k b o (λz=>hc (by simp[z])) e) (λb o _ _ hc e _=>⟨_,k b o (λz=>hc (by simp[z])) e⟩) (λ_ _ _ _ n=>n)
  (λb o hc e=>⟨o,k b o (λz=>hc (by simp[z])) e⟩) (λ_ _ e=>e) (λ_ _ _ e=>e) (λb ps e=>⟨#[],by rw[e];simp⟩) (λm hm=>?_) (λb u e=>?_) I.bare
 .have e:=by simpa using hb
  subst e;exact⟨h1,hL,h2,h3⟩
 .obtain⟨o,es,ep,ho,r⟩:=hm
  exact⟨o,es,ep,k _ o (dj hL) ho,r⟩
 .refine(I.hok b u e).stay (λc v hc q=>k c v ?_ q) (λ_ q=>q) λ_ _ q=>q
  grind
theorem Inv.tok(I:Inv X pins σ H s)(t:Nat):Inv X pins σ H { s with toks:=t }:=I.un Un.refl I.hok
theorem Inv.kept{t':Nat}(I:Inv X pins σ H s)(k:∀b u,s.heap.get? b=some u->h'.get? b=some u):Inv X pins σ H { s with heap:=h',toks:=t' }:=I.un (Un.kept k) (I.hok.kept k)
theorem Inv.laid{a:Addr}{o:HO}{t':Nat}(I:Inv X pins σ H s)(k:∀b u,s.heap.get? b=some u->h'.get? b=some u)(hp:s.heap.objs.size<=a)(new:fP X.prog X.w (upd H a o) h' a o):
  Inv X pins σ (upd H a o) { s with heap:=h',toks:=t' }:=I.un (Un.laid k hp (I.hok.fresh hp)) (I.hok.laid k hp new)
theorem Inv.write{x e:Addr}{o:HO}{t':Nat}(I:Inv X pins σ H s)(mu:Mut (H x))(he:e=x\/H e=some (.own x))(k:∀b u,b≠e->s.heap.get? b=some u->h'.get? b=some u)(W3:∃u,h'.get? e=some u)
  (new:fP X.prog X.w (upd H x o) h' x o):Inv X pins σ (upd H x o) { s with heap:=h',toks:=t' }:=I.un (Un.write mu he k W3) (I.hok.write mu he k W3 new)
theorem Inv.weak{Y3:List (Option V)}(I:Inv X pins σ H s)(hl:Y3.length=σ.length)(w:∀(i:Nat) v,Y3[i]?=some (some v)->σ[i]?=some (some v)):Inv X pins Y3 H s:=
 ⟨I.ok,I.os,I.bare,I.base,let ⟨m,hn,Q4⟩:=I.loc;⟨m,hn,λi x v e1 e2 e3=>Q4 i x v e1 (w i v e2) e3⟩,I.cell,I.free,I.freeC,I.pin,I.hok,hl.trans I.len⟩
theorem Inv.pins_of{XA:List (Addr×Obj)}(I:Inv X pins σ H s)(h:∀p∈XA,s.heap.get? p.1=some p.2/\H p.1=none/\p.1≠X.env.locals/\p.1∉X.fs /\ ∀v,p.2.data≠.cell v):Inv X XA σ H s:=
 ⟨I.ok,I.os,I.bare,I.base,I.loc,I.cell,I.free,I.freeC,λp hp=>(aV.mp hp).elim (λz=>I.pin p (aZ _ z)) (h p),I.hok,I.len⟩
variable{i:Nat}{x:Str}
theorem rD{N:List Str}(hN:N.Nodup){j:Nat}(a:N[i]?=some x)(b:N[j]?=some x):i=j:=by
 obtain⟨h1,e1⟩:=ah.mp a;obtain⟨h2,e2⟩:=ah.mp b;exact(List.getElem_inj hN).mp (e1.trans e2.symm)
variable{M:Model}{A:Around}{E:Value->Shared->Prop}{u:Value}{Q:Unit->Shared->Prop}
theorem uW{v:V}(I:Inv X pins σ H s)(hN:X.N.Nodup)(hi:X.N[i]?=some x)(hx:Loc X.env.scope x)(r:RelV v u)
  (h:∀s',Inv X pins (σ.set i (some v)) H s'->(∃a,nk a s.heap s'.heap/\(a=X.env.locals\/X.env.cells.lookup x=some a))->Q () s') (hf:autoParam (X.fn x=true\/X.env.scope.names.lookup x=some .local) au4._auto_1):aN M A (storeName X.env x u) Q E s:=by
 obtain⟨m,hn,hl⟩:=id I.loc;have Yi:(X.env.scope.kind==.class||(X.env.scope.kind==.module&&X.env.locals != X.env.globals))=false:=by rw[I.ok.kind];rfl
 have Z2:i<σ.length:=by rw[I.len];exact(ah.mp hi).1
 have cne:=I.cne;have tracked:∀{a:Addr}{h':Heap},(∃o,s.heap.get? a=some o/\H a=none)->nk a _ h'->HOk _ _ H h':=λ{a h'} ha hs b ob e=>by
  obtain⟨_,_,hfree⟩:=ha;refine(I.hok b ob e).stay (λc w' hc q=>(hs.2 c ?_).trans q) (λ_ q=>q) λ_ _ q=>q
  grind
 rcases hx with hk|hk
 .refine wpAny_storeName_local hk hn (λh' U7 hs=>?_) Yi
  obtain⟨oL,_,_,Yw,_⟩:=id hn;refine h _ ⟨I.ok,I.os,I.bare,⟨λb o e n hb hx=>?_,λb o e n hb hx=>?_,I.base.free,λb o e hx=>?_,I.base.tups,I.base.frzs,I.base.tbls⟩,⟨_,U7,λj y v' e1 e2 e3=>?_⟩,λy c e=>?_,I.free,I.freeC,λp hp=>?_,tracked ⟨oL,Yw,I.free⟩ hs,by simpa using I.len⟩ ⟨_,hs,.inl rfl⟩
  .exact(hs.2 b (aL (ak (aw e) I.ok.above))).trans (I.base.keep b o e n hb hx)
  .obtain⟨sl,e1⟩:=I.base.slot b o e n hb hx
   exact⟨sl,(hs.2 b (aL (ak (aw e) I.ok.above))).trans e1⟩
  .obtain⟨o',e1⟩:=I.base.there b o e hx
   exact⟨o',(hs.2 b (aL (ak (aw e) I.ok.above))).trans e1⟩
  .by_cases hj:j=i
   .subst hj
    rw[hi]at e1;cases e1;rw[aM Z2]at e2;cases e2;exact⟨u,r,.inl ⟨hk,by simp⟩⟩
   .rw[aC (dj hj)]at e2
    obtain⟨u',r',q⟩:=hl j y v' e1 e2 e3;refine⟨u',r',?_⟩;rcases q with⟨k,e⟩|⟨k,c,e,z⟩
    .refine .inl ⟨k,?_⟩
     have:y≠x:=λe=>hj (rD hN e1 (e▸hi))<;>simp_all
    .exact .inr ⟨k,c,e,z.sameBut hs (cne y c e)⟩
  .obtain⟨w',z⟩:=I.cell y c e
   exact⟨w',z.sameBut hs (cne y c e)⟩
  .obtain⟨e,n,ne,nf,d⟩:=I.pin p hp
   exact⟨(hs.2 _ ne).trans e,n,ne,nf,d⟩
 .have YJ:X.fn x=true:=by
   grind
  obtain⟨c,hc⟩:=I.ok.has x (.inl hk);obtain⟨w',z⟩:=I.cell x c hc;refine wpAny_storeName_cell I.ok.kind hk hc z (λh' WB hs=>?_);obtain⟨oc,Zb,hocd⟩:=id z;refine h _ ⟨I.ok,I.os,I.bare,⟨λb o e n hb hx=>?_,λb o e n hb hx=>?_,I.base.free,λb o e hx=>?_,I.base.tups,I.base.frzs,I.base.tbls⟩,⟨m,hn.sameBut hs (dj (cne x c hc)),λj y v' e1 e2 e3=>?_⟩,λy c' e=>?_,I.free,I.freeC,λp hp=>?_,tracked ⟨oc,Zb,I.freeC x c hc⟩ hs,by simpa using I.len⟩ ⟨c,hs,.inr hc⟩
  .exact(hs.2 b (aL (ak (aw e) (I.ok.cab x c YJ hc)))).trans (I.base.keep b o e n hb hx)
  .obtain⟨sl,e1⟩:=I.base.slot b o e n hb hx
   exact⟨sl,(hs.2 b (aL (ak (aw e) (I.ok.cab x c YJ hc)))).trans e1⟩
  .obtain⟨o',e1⟩:=I.base.there b o e hx
   exact⟨o',(hs.2 b (aL (ak (aw e) (I.ok.cab x c YJ hc)))).trans e1⟩
  .by_cases hj:j=i
   .subst hj
    rw[hi]at e1;cases e1;rw[aM Z2]at e2;cases e2;exact⟨u,r,.inr ⟨.inl hk,c,hc,WB⟩⟩
   .rw[aC (dj hj)]at e2
    obtain⟨u',r',q⟩:=hl j y v' e1 e2 e3;refine⟨u',r',?_⟩;rcases q with q|⟨k,c',e,z'⟩
    .exact .inl q
    .refine .inr ⟨k,c',e,z'.sameBut hs ?_⟩
     rintro rfl;exact hj (rD hN e1 (I.ok.inj _ _ _ e hc▸hi))
  .by_cases Tq:c'=c
   .subst Tq;exact⟨_,WB⟩
   .obtain⟨w2,z2⟩:=I.cell y c' e
    exact⟨w2,z2.sameBut hs Tq⟩
  .obtain⟨e,n,ne,nf,d⟩:=I.pin p hp
   refine⟨(hs.2 _ ?_).trans e,n,ne,nf,d⟩;intro q<;>simp_all
theorem j7{v:V}(I:Inv X pins σ H s)(hN:X.N.Nodup)(hi:X.N[i]?=some x)(hx:Loc X.env.scope x)(r:RelV v u)
  (h:∀s',Inv X pins (σ.set i (some v)) H s'->Q () s') (hf:autoParam (X.fn x=true\/X.env.scope.names.lookup x=some .local) au4._auto_1):aN M A (storeName X.env x u) Q E s:=
 uW I hN hi hx r (λs' I' _=>h s' I') hf
theorem Inv.call'{s':Shared}{ch:List Addr}(I:Inv X pins σ H s)(ho:s'.os=s.os)(u:Un (frs X.stack) ch H H' s.heap s'.heap)(hok:HOk X.prog X.w H' s'.heap)(hg:AllBare s'.gens)
  (XY:∀b∈ch,(b∈X.ex\/X.s₀.heap.objs.size<=b)/\b≠X.env.locals/\(∀x c,X.env.cells.lookup x=some c->c≠b) /\ ∀p∈X.pn++pins,p.1≠b):Inv X pins σ H' s':=by
 obtain⟨h',g',d',t',o'⟩:=s';have e:=ho;subst e;exact I.call u hok hg XY
end
abbrev XK:=Value->Option Addr->Hp->Prop
abbrev St:=List (Option V)
abbrev VK:=V->Hp->Prop
abbrev TE:=St->Hp->VK->Prop
abbrev TT:=St->Hp->(Bool->Hp->Prop)->Prop
abbrev TA:=St->Hp->(List V->Hp->Prop)->Prop
structure Ends where
 nx:St->Hp->Prop
 rt:VK
 bk:St->Hp->Prop:=λ_ _=>False
 ct:St->Hp->Prop:=λ_ _=>False
abbrev TS:=Ends->St->Hp->Prop
def EP(X:Cx)(pins:List (Addr×Obj))(σ:St)(Q:VK)(u:Value)(s':Shared):Prop:= ∃v H',Inv X pins σ H' s'/\RelV v u/\Q v H'
def TP(X:Cx)(pins:List (Addr×Obj))(σ:St)(Q:Bool->Hp->Prop)(b:Bool)(s':Shared):Prop:= ∃H',Inv X pins σ H' s'/\Q b H'
def AP(X:Cx)(pins:List (Addr×Obj))(σ:St)(Q:List V->Hp->Prop)(us:List Value)(s':Shared):Prop:= ∃vs H',Inv X pins σ H' s'/\cK vs us/\Q vs H'
def SP(X:Cx)(pins:List (Addr×Obj))(D:Ends)(f:Flow)(s':Shared):Prop:=
 match f with
 |.next=>∃Y3 H',Inv X pins Y3 H' s'/\D.nx Y3 H'
 |.brk=>∃Y3 H',Inv X pins Y3 H' s'/\D.bk Y3 H'
 |.cont=>∃Y3 H',Inv X pins Y3 H' s'/\D.ct Y3 H'
 |.ret u=>∃v Y3 H',Inv X pins Y3 H' s'/\RelV v u/\D.rt v H'
def PE(X:Cx)(e:Expr)(t:TE):Prop:=
 ∀(pins:List (Addr×Obj)) (s:Shared) (σ:St) (H:Hp) (Q:VK),Inv X pins σ H s->t σ H Q->aN (model X.prog X.w) X.A (eval e X.env) (EP X pins σ Q) X.xe s
def PT(X:Cx)(e:Expr)(t:TT):Prop:=
 ∀(pins:List (Addr×Obj)) (s:Shared) (σ:St) (H:Hp) (Q:Bool->Hp->Prop),Inv X pins σ H s->t σ H Q->aN (model X.prog X.w) X.A (isTrue e X.env (eval e X.env)) (TP X pins σ Q) X.xe s
def PW(X:Cx)(e:Expr)(t:TT):Prop:=
 ∀(whole:Sem Value) (pins:List (Addr×Obj)) (s:Shared) (σ:St) (H:Hp) (Q:Bool->Hp->Prop),Inv X pins σ H s->t σ H Q->aN (model X.prog X.w) X.A (isTrue e X.env whole) (TP X pins σ Q) X.xe s
variable{X:Cx}{e:Expr}
theorem PW.pt{t:TT}(h:PW X e t):PT X e t:=h _
def PA(X:Cx)(es:List Expr)(t:TA):Prop:=
 ∀(pos:Pos) (pins:List (Addr×Obj)) (s:Shared) (σ:St) (H:Hp) (Q:List V->Hp->Prop),Inv X pins σ H s->t σ H Q->aN (model X.prog X.w) X.A (spliced (backTo pos (starEach es X.env))) (AP X pins σ Q) X.xe s
def PS(X:Cx)(st:Stmt)(t:TS):Prop:=
 ∀(pins:List (Addr×Obj)) (s:Shared) (σ:St) (H:Hp) (D:Ends),Inv X pins σ H s->t D σ H->aN (model X.prog X.w) X.A (exec st X.env) (SP X pins D) X.xe s
def PSs(X:Cx)(st:List Stmt)(t:TS):Prop:=
 ∀(pins:List (Addr×Obj)) (s:Shared) (σ:St) (H:Hp) (D:Ends),Inv X pins σ H s->t D σ H->aN (model X.prog X.w) X.A (execs st X.env) (SP X pins D) X.xe s
variable{M:Model}{A:Around}{E:Value->Shared->Prop}
theorem thn{α:Type}{t:Sem α}{Q Q':α->Shared->Prop}{s:Shared}(h:aN M A t Q E s)(hQ:∀a s,Q a s->Q' a s):aN M A t Q' E s:=bE h hQ λ_ _ x=>x
section
variable {X:Cx}
def OA(i:Nat):TE:=λσ H Q=>∃v,σ[i]?=some (some v)/\Q v H
def tC(v:V):TE:=λ_ H Q=>Q v H
variable{x:Str}
theorem rK{i:Nat}{pos:Pos}(hN:X.N[i]?=some x)(hv:Vis X.env.scope x)(hd:autoParam ((x==("__debug__":Str))=false) au2._auto_1)(Zs:autoParam ((x==("__classdict__":Str))=false) au2._auto_1):PE X (.Name x pos) (OA i):=by
 intro pins s σ H Q I h;obtain⟨v,e,h⟩:=h;obtain⟨m,hn,hl⟩:=I.loc;obtain⟨u,r,l⟩:=hl i x v hN e hv;have fin:EP X _ σ Q u s:=⟨v,H,I,r,h⟩;rcases l with⟨hk,hm⟩|⟨hk,c,hc,Zc⟩
 .exact wpAny_Name (wpAny_loadName_local I.ok.kind hk hn hm fin) hd
 .rcases hk with hk|hk
  .exact wpAny_Name (wpAny_loadName_cell I.ok.kind hk hc Zc fin) hd
  .exact wpAny_Name (wpAny_loadName_free I.ok.kind hk hc Zc fin Zs) hd
theorem Li{i j pos}:PE X (.Constant (.int i) j pos) (tC (.int i)):=λ_ _ _ H _ I h=>wpAny_Constant_int ⟨.int i,H,I.tok _,⟨_,rfl⟩,h⟩
theorem Ow{b j pos}:PE X (.Constant (.bool b) j pos) (tC (.bl b)):=λ_ _ _ H _ I h=>Constant_bool ⟨.bl b,H,I,rfl,h⟩
theorem LM{j pos}:PE X (.Constant .none j pos) (tC .non):=λ_ _ _ H _ I h=>Constant_none ⟨.non,H,I,rfl,h⟩
theorem Fp{x j pos}:PE X (.Constant (.str x) j pos) (tC (.str x)):=λ_ _ _ H _ I h=>qp ⟨.str x,H,I.tok _,⟨_,rfl⟩,h⟩
def Gl(X:Cx)(x:Str):Prop:=X.env.kindOf x=some .globalImplicit
variable{pins:List (Addr×Obj)}{s:Shared}{σ:St}{u:Value}{Q:Value->Shared->Prop}
theorem je{pos:Pos}(I:Inv X pins σ H s)(hg:Gl X x)(hm:X.mg x=some u)(h:Q u s)
  (hd:autoParam ((x==("__debug__":Str))=false) au2._auto_1):aN (model X.prog X.w) X.A (eval (.Name x pos) X.env) Q E s:=
 yy I.ok.kind hg (Calls.loadGlobal_global (by rw[I.ok.glob];exact I.mod.glob.keeps I.bk) hm h) hd
theorem kG{pos:Pos}(I:Inv X pins σ H s)(hg:Gl X x)(hm:X.mg x=none)(hv:bootBuiltins x=some u)(h:Q u s)
  (hn:autoParam (x≠"__name__") au2._auto_1) (hd:autoParam ((x==("__debug__":Str))=false) au2._auto_1):aN (model X.prog X.w) X.A (eval (.Name x pos) X.env) Q E s:=by
 obtain⟨mb,h1,h2⟩:=I.mod.blt;exact yy I.ok.kind hg (Calls.loadGlobal_builtin (by rw[I.ok.glob];exact I.mod.glob.keeps I.bk) hm (by rw[I.ok.blt];exact h1.keeps I.bk) ((h2 x hn).trans hv) h) hd
theorem Gj{v:V}{pos:Pos}(hg:Gl X x)(hm:X.mg x=some u)(r:RelV v u)(hd:autoParam ((x==("__debug__":Str))=false) au2._auto_1):PE X (.Name x pos) (tC v):=
 λ_ _ _ H _ I h=>je I hg hm ⟨v,H,I,r,h⟩ hd
variable {a b:Expr}{ta tb:TE}{pos:Pos}
def tB(t:TE):TT:=λσ H Q=>t σ H λx H1=>∃c,x=.bl c/\Q c H1
theorem Kl{t:TE}(h:PE X e t)(he:autoParam (∀whole,isTrue e X.env whole=(do let v <- whole;standAt e.pos;holding [v] (truthy v))) au3._auto_1):PT X e (tB t):=by
 intro pins s σ H Q I hw;refine isTrue_plain (thn (h _ s σ H _ I hw) λv s1 ⟨x,H1,I1,r1,q1⟩=>?_) (he _);obtain⟨d,rfl,q⟩:=q1;cases r1;exact jx ⟨H1,I1,q⟩
variable {tA Vl:TT}{rest:List Expr}
def Pe(t u:TT):TT:=λσ H Q=>t σ H λc H1=>if c=true then u σ H1 Q else Q false H1
def tOr(t u:TT):TT:=λσ H Q=>t σ H λc H1=>if c=true then Q true H1 else u σ H1 Q
def M0(t:TT):TT:=λσ H Q=>t σ H λc H1=>Q (!c) H1
theorem H9(ha:PT X a tA):PW X (.BoolOp .And [a] pos) tA:=by
 intro wh pins s σ H Q I h;refine isTrue_and (thn (ha _ s σ H Q I h) λc s1 e=>?_);cases c with
 |true=>exact isTrue_and_nil e
 |false=>exact e
theorem Jw(ha:PT X a tA):PW X (.BoolOp .Or [a] pos) tA:=by
 intro wh pins s σ H Q I h;refine isTrue_or (thn (ha _ s σ H Q I h) λc s1 e=>?_);cases c with
 |false=>exact isTrue_or_nil e
 |true=>exact e
theorem Lg(ha:PT X a tA)(hb:PW X (.BoolOp .And (b::rest) pos) Vl):PW X (.BoolOp .And (a::b::rest) pos) (Pe tA Vl):=by
 intro wh pins s σ H Q I h;refine isTrue_and (thn (ha _ s σ H _ I h) λc s1 ⟨H1,I1,q1⟩=>?_);cases c with
 |true=>exact hb wh _ s1 σ H1 Q I1 q1
 |false=>exact⟨H1,I1,q1⟩
theorem NM(ha:PT X a tA)(hb:PW X (.BoolOp .Or (b::rest) pos) Vl):PW X (.BoolOp .Or (a::b::rest) pos) (tOr tA Vl):=by
 intro wh pins s σ H Q I h;refine isTrue_or (thn (ha _ s σ H _ I h) λc s1 ⟨H1,I1,q1⟩=>?_);cases c with
 |true=>exact⟨H1,I1,q1⟩
 |false=>exact hb wh _ s1 σ H1 Q I1 q1
theorem Le(ha:PT X a tA):PT X (.UnaryOp .Not a pos) (M0 tA):=by
 intro pins s σ H Q I h;exact isTrue_not (ha _ s σ H _ I h)
def Jq(ta tb:TE):TE:=λσ H Q=>ta σ H λx H1=>∃c,x=.bl c/\if c=true then tb σ H1 Q else Q (.bl false) H1
def Og(ta tb:TE):TE:=λσ H Q=>ta σ H λx H1=>∃c,x=.bl c/\if c=true then Q (.bl true) H1 else tb σ H1 Q
def IR(ta:TE):TE:=λσ H Q=>ta σ H λx H1=>∃c,x=.bl c/\Q (.bl (!c)) H1
theorem LU{op}{t:TE}(h:PE X a t):PE X (.BoolOp op [a] pos) t:=λpins s σ H Q I hw=>BoolOp_one (h _ s σ H Q I hw)
theorem J4(ha:PE X a ta)(hb:PE X (.BoolOp .And (b::rest) pos) tb):PE X (.BoolOp .And (a::b::rest) pos) (Jq ta tb):=by
 intro pins s σ H Q I h;refine BoolOp_and (thn (ha _ s σ H _ I h) λv s1 ⟨x,H1,I1,r1,q1⟩=>?_);obtain⟨c,rfl,q1⟩:=q1;cases r1;refine jx ?_;cases c with
 |true=>exact hb _ s1 σ H1 Q I1 q1
 |false=>exact⟨.bl _,H1,I1,rfl,q1⟩
theorem Nj(ha:PE X a ta)(hb:PE X (.BoolOp .Or (b::rest) pos) tb):PE X (.BoolOp .Or (a::b::rest) pos) (Og ta tb):=by
 intro pins s σ H Q I h;refine BoolOp_or (thn (ha _ s σ H _ I h) λv s1 ⟨x,H1,I1,r1,q1⟩=>?_);obtain⟨c,rfl,q1⟩:=q1;cases r1;refine jx ?_;cases c with
 |false=>exact hb _ s1 σ H1 Q I1 q1
 |true=>exact⟨.bl _,H1,I1,rfl,q1⟩
theorem Kn(ha:PE X a ta):PE X (.UnaryOp .Not a pos) (IR ta):=by
 intro pins s σ H Q I h;refine UnaryOp_ (thn (ha _ s σ H _ I h) λv s1 ⟨x,H1,I1,r1,q1⟩=>?_);obtain⟨c,rfl,q1⟩:=q1;cases r1;exact not_of (jx ⟨.bl _,H1,I1,rfl,q1⟩)
def tIf(t:TT)(ta tb:TE):TE:=λσ H Q=>t σ H λc H1=>if c=true then ta σ H1 Q else tb σ H1 Q
theorem CO{c:Expr}(hc:PT X c tA)(ha:PE X a ta)(hb:PE X b tb):PE X (.IfExp c a b pos) (tIf tA ta tb):=by
 intro pins s σ H Q I h;refine wpAny_IfExp (thn (hc _ s σ H _ I h) λd s1 ⟨H1,I1,q1⟩=>?_);cases d with
 |true=>exact ha _ s1 σ H1 Q I1 q1
 |false=>exact hb _ s1 σ H1 Q I1 q1
end
def SqL(K:aj)(H:Hp)(a:Addr)(xs:List V):Prop:=
 Rd H a (.lst xs) \/
  ∃ (o:Obj) (ZY:Array Value) (n:Nat),K.lookup a=some o/\o.cls=.type "list"/\o.dict=none/\o.data=.seq ZY n/\ZY.size<=sizeLine/\cK xs ZY.toList
def SqT(K:aj)(H:Hp)(a:Addr)(xs:List V):Prop:=
 Rd H a (.tup xs) \/
  ∃ (o:Obj) (ZY:Array Value) (n:Nat),K.lookup a=some o/\o.cls=.type "tuple"/\o.data=.seq ZY n/\ZY.size<=sizeLine/\cK xs ZY.toList
def Pt:Value->Option V
 |.none=>some .non
 |.bool b=>some (.bl b)
 |.int i _=>some (.int i)
 |.str x _=>some (.str x)
 |.bytes b _=>some (.byt b)
 |.float b _=>some (.flt b)
 |.ref a=>some (.ref a)
 |.type n=>some (.ty n)
 |_=>none
variable{u:Value}{x:V}
theorem RelV.abs(r:RelV x u):Pt u=some x:=by
 cases x with
 |non=>cases r;rfl
 |bl _=>cases r;rfl
 |int _=>obtain⟨t,rfl⟩:=r;rfl
 |str _=>obtain⟨t,rfl⟩:=r;rfl
 |byt _=>obtain⟨t,rfl⟩:=r;rfl
 |flt _=>obtain⟨t,rfl⟩:=r;rfl
 |ref _=>cases r;rfl
 |ty _=>cases r;rfl
theorem RelV.inj{y:V}(r:RelV x u)(q:RelV y u):x=y:=dD (r.abs.symm.trans q.abs)
theorem cK.inj:∀{xs ys:List V}{us:List Value},cK xs us->cK ys us->xs=ys:=by
 intro xs ys us h
 induction h generalizing ys with
 |nil=>intro q;cases q;rfl
 |cons r t ih=>intro q;cases q with |cons r' t'=>rw[r.inj r',ih t']
section
variable {X:Cx}{pins:List (Addr×Obj)}{σ:St}{H:Hp}{s:Shared}{a:Addr}{xs ys:List V}
theorem SqL.of{K:aj}(h:H a=some (.lst xs)):SqL K H a xs:= .inl (.inl h)
theorem SqT.of{K:aj}(h:H a=some (.tup xs)):SqT K H a xs:= .inl (.inl h)
theorem Inv.list(I:Inv X pins σ H s)(h:SqL X.K H a xs):∃ZY:List Value,cK xs ZY/\PlainL s.heap a ZY.toArray/\xs.length<=sizeLine:=by
 rcases h with h|⟨o,ZY,n,hk,hc,hd,hs,hz,r⟩
 .obtain⟨z,ZY,n,r,e⟩:=h.ok I.hok
  exact⟨_,r,⟨_,n,e,rfl,rfl,rfl⟩,z⟩
 .refine⟨_,r,⟨o,n,I.kIn a o hk,hc,hd,by omega⟩,?_⟩
  have e:=r.length
  grind
theorem Inv.tuple(I:Inv X pins σ H s)(h:SqT X.K H a xs):∃ZY:List Value,cK xs ZY/\IsTup s.heap a ZY.toArray/\xs.length<=sizeLine:=by
 rcases h with h|⟨o,ZY,n,hk,hc,hs,hz,r⟩
 .obtain⟨z,ZY,r,p⟩:=h.ok I.hok
  exact⟨_,r,p.1,z⟩
 .refine⟨_,r,⟨o,I.kIn a o hk,hc,n,by omega⟩,?_⟩
  have e:=r.length
  simp_all
theorem Inv.list_inj(I:Inv X pins σ H s)(h:SqL X.K H a xs)(h':SqL X.K H a ys):xs=ys:=by
 obtain⟨ZY,r,⟨o,n,e,_,_,d⟩,_⟩:=I.list h;obtain⟨Zg,r',⟨o',n',e',_,_,d'⟩,_⟩:=I.list h';have:ZY=Zg:=by grind
 subst this;exact r.inj r'
theorem Inv.tuple_inj(I:Inv X pins σ H s)(h:SqT X.K H a xs)(h':SqT X.K H a ys):xs=ys:=by
 obtain⟨ZY,r,⟨o,e,_,n,d⟩,_⟩:=I.tuple h;obtain⟨Zg,r',⟨o',e',_,n',d'⟩,_⟩:=I.tuple h';have:ZY=Zg:=by grind
 subst this;exact r.inj r'
end
abbrev Cx.wish(X:Cx)(E:Value->Shared->Prop):Cx:={ X with xe:=E }
abbrev Cx.nox(X:Cx):Cx:=X.wish λ_ _=>False
theorem Cx.Ok.wish(ok:X.Ok)(E:Value->Shared->Prop):(X.wish E).Ok:=
 ⟨ok.mod,ok.kind,ok.glob,ok.blt,ok.above,ok.inj,ok.has,ok.cab,ok.hd,ok.frames,ok.stk,ok.exf,ok.bs,ok.bsz,ok.noex,ok.exfs,ok.funs,ok.frf⟩
theorem Cx.Ok.unwish(ok:(X.wish E).Ok):X.Ok:=
 ⟨ok.mod,ok.kind,ok.glob,ok.blt,ok.above,ok.inj,ok.has,ok.cab,ok.hd,ok.frames,ok.stk,ok.exf,ok.bs,ok.bsz,ok.noex,ok.exfs,ok.funs,ok.frf⟩
section
variable {X:Cx}{pins:List (Addr×Obj)}{σ:St}{H:Hp}{s:Shared}{E:Value->Shared->Prop}
theorem Inv.wish(I:Inv X pins σ H s)(E:Value->Shared->Prop):Inv (X.wish E) pins σ H s:=⟨I.ok.wish E,I.os,I.bare,I.base,I.loc,I.cell,I.free,I.freeC,I.pin,I.hok,I.len⟩
theorem Inv.unwish(I:Inv (X.wish E) pins σ H s):Inv X pins σ H s:=⟨I.ok.unwish,I.os,I.bare,I.base,I.loc,I.cell,I.free,I.freeC,I.pin,I.hok,I.len⟩
theorem SP.unwish{D:Ends}{f:Flow}{s':Shared}(h:SP (X.wish E) pins D f s'):SP X pins D f s':=by
 cases f with
 |next=>obtain⟨Y3,H',I,q⟩:=h;exact⟨_,H',I.unwish,q⟩
 |brk=>obtain⟨Y3,H',I,q⟩:=h;exact⟨_,H',I.unwish,q⟩
 |cont=>obtain⟨Y3,H',I,q⟩:=h;exact⟨_,H',I.unwish,q⟩
 |ret u=>obtain⟨v,Y3,H',I,r,q⟩:=h;exact⟨v,_,H',I.unwish,r,q⟩
theorem PE.nox{t:TE}(h:PE X.nox e t):PE X e t:=λpins s σ H Q I hw=>
 bE (h _ s σ H Q (I.wish _) hw) (λ_ _ ⟨v,H',I',r,q⟩=>⟨v,H',I'.unwish,r,q⟩) λ_ _ z=>bK z
theorem PT.nox{t:TT}(h:PT X.nox e t):PT X e t:=λpins s σ H Q I hw=>
 bE (h _ s σ H Q (I.wish _) hw) (λ_ _ ⟨H',I',q⟩=>⟨H',I'.unwish,q⟩) λ_ _ z=>bK z
theorem PSs.nox{st:List Stmt}{t:TS}(h:PSs X.nox st t):PSs X st t:=λpins s σ H D I hw=>
 bE (h _ s σ H D (I.wish _) hw) (λ_ _ q=>q.unwish) λ_ _ z=>bK z
end
section
variable {X:Cx}{st:Stmt}{rest:List Stmt}{t u:TS}{e:Expr}{te:TE}{pos:Pos}
def Dn:TS:=λD σ H=>D.nx σ H
def Pc(t u:TS):TS:=λD σ H=>t { D with nx:=u D } σ H
theorem Gf:PSs X [] Dn:=λ_ _ σ H _ I h=>iT ⟨σ,H,I,h⟩
theorem lK(h1:PS X st t)(h2:PSs X rest u):PSs X (st::rest) (Pc t u):=by
 intro pins s σ H D I h;refine zP (thn (h1 _ s σ H _ I h) λf s1 q=>?_);cases f with
 | next=>
   obtain⟨Y3,H',I',q⟩:=q;exact h2 _ s1 _ H' D I' q
 |ret v=>exact q
 |brk=>exact q
 |cont=>exact q
theorem z0(h1:PS X st t):PSs X [st] t:=by
 intro pins s σ H D I h;refine zP (thn (h1 _ s σ H D I h) λf s1 q=>?_);cases f with
 |next=>exact iT q
 |ret v=>omega
 |brk=>omega
 |cont=>omega
def Lp:TS:=λD σ H=>D.bk σ H
def Nm:TS:=λD σ H=>D.ct σ H
theorem HF:PS X (.Pass pos) Dn:=λ_ _ σ H _ I h=>wpAny_Pass ⟨σ,H,I,h⟩
theorem DI:PS X (.Break pos) Lp:=λ_ _ σ H _ I h=>wpAny_Break ⟨σ,H,I,h⟩
theorem xG:PS X (.Continue pos) Nm:=λ_ _ σ H _ I h=>wpAny_Continue ⟨σ,H,I,h⟩
theorem Inv.quiet{pins:List (Addr×Obj)}{σ:St}{s:Shared}(I:Inv X pins σ H s):interactive X.env=false:=by simp[interactive,I.ok.kind]
def Jc(te:TE):TS:=λD σ H=>te σ H λ_ H1=>D.nx σ H1
theorem AH(he:PE X e te)(hs:autoParam (swapsWith e none pos.line X.env=pure false) au1._auto_1):PS X (.Expr e pos) (Jc te):=by
 intro pins s σ H D I h;exact wpAny_Expr_any (thn (he _ s σ H _ I h) λv s1 ⟨x,H1,I1,r1,q1⟩=>⟨σ,H1,I1,q1⟩) I.quiet hs
def MJ(te:TE):TS:=λD σ H=>te σ H D.rt
theorem E7(he:PE X e te):PS X (.Return (some e) pos) (MJ te):=by
 intro pins s σ H D I h;exact wpAny_Return_some (thn (he _ s σ H _ I h) λv s1 ⟨x,H1,I1,r1,q1⟩=>⟨x,σ,H1,I1,r1,q1⟩)
def Mn:TS:=λD _ H=>D.rt .non H
theorem F9:PS X (.Return none pos) Mn:=λ_ _ σ H _ I h=>wpAny_Return_none ⟨.non,σ,H,I,rfl,h⟩
def NN(c:TT)(t u:TS):TS:=λD σ H=>c σ H λb H1=>if b=true then t D σ H1 else u D σ H1
theorem Jf{c:Expr}{a b:List Stmt}{tc:TT}(hc:PT X c tc)(ha:PSs X a t)(hb:PSs X b u):PS X (.If c a b pos) (NN tc t u):=by
 intro pins s σ H D I h;refine wpAny_If (thn (hc _ s σ H _ I h) λd s1 ⟨H1,I1,q1⟩=>?_);cases d with
 |true=>exact ha _ s1 σ H1 D I1 q1
 |false=>exact hb _ s1 σ H1 D I1 q1
end
abbrev TG:=V->St->Hp->(St->Hp->Prop)->Prop
abbrev TGs:=List V->St->Hp->(St->Hp->Prop)->Prop
def PG(X:Cx)(target:Expr)(t:TG):Prop:=
 ∀(pins:List (Addr×Obj)) (s:Shared) (σ:St) (H:Hp) (v:V) (u:Value) (Q:St->Hp->Prop),Inv X pins σ H s->RelV v u->t v σ H Q ->
  aN (model X.prog X.w) X.A (assign target X.env u) (λ_ s'=>∃Y3 H',Inv X pins Y3 H' s'/\Q Y3 H') X.xe s
def PGs(X:Cx)(ts:List Expr)(t:TGs):Prop:=
 ∀(pins:List (Addr×Obj)) (s:Shared) (σ:St) (H:Hp) (vs:List V) (us:List Value) (Q:St->Hp->Prop),Inv X pins σ H s->cK vs us->t vs σ H Q ->
  aN (model X.prog X.w) X.A (assignInOrder ((assignEach ts X.env).map (·.2)) us) (λ_ s'=>∃Y3 H',Inv X pins Y3 H' s'/\Q Y3 H') X.xe s
abbrev EH:=V->V->V->Hp->(Hp->Prop)->Prop
def Me(X:Cx)(t:EH):Prop:=
 ∀(pins:List (Addr×Obj)) (s:Shared) (σ:St) (H:Hp) (o i v:V) (ov iv u:Value) (Q:Hp->Prop),Inv X pins σ H s->RelV o ov->RelV i iv->RelV v u->t o i v H Q ->
  aN (model X.prog X.w) X.A (setItem ov iv u) (λ_ s'=>∃H',Inv X pins σ H' s'/\Q H') X.xe s
section
variable {X:Cx}{pos:Pos}
def jM(i:Nat):TG:=λv σ H Q=>Q (σ.set i (some v)) H
variable{i:Nat}
theorem AC{x:Str}(hN:X.N.Nodup)(hi:X.N[i]?=some x)(hx:Loc X.env.scope x)(hf:autoParam (X.fn x=true\/X.env.scope.names.lookup x=some .local) au4._auto_1):PG X (.Name x pos) (jM i):=by
 intro pins s σ H v u Q I r h;exact yz (j7 I hN hi hx r (λs' I'=>⟨_,H,I',h⟩) hf)
def OP:TGs:=λvs σ H Q=>vs=[]/\Q σ H
def IZ(t:TG)(u:TGs):TGs:=λvs σ H Q=>∃v r,vs=v::r/\t v σ H λY3 H'=>u r Y3 H' Q
theorem Ig:PGs X [] OP:=by
 intro pins s σ H vs us Q I r h;obtain⟨e,h⟩:=h;exact assignInOrder_nil ⟨σ,H,I,h⟩
variable{es:List Expr}
theorem EN{t:TG}{u:TGs}(h1:PG X e t)(h2:PGs X es u)
  (hs:autoParam ((assignEach (e::es) X.env).map (·.2)=assign e X.env::(assignEach es X.env).map (·.2)) au1._auto_1):PGs X (e::es) (IZ t u):=by
 intro pins s σ H vs us Q I r h;obtain⟨v,vr,e1,h⟩:=h;subst e1;cases r with
 | cons r rr=>
   rw[hs];refine assignInOrder_cons (thn (h1 _ s σ H _ _ _ I r h) λ_ s1 ⟨_,H1,I1,q1⟩=>?_);exact h2 _ s1 _ H1 _ _ Q I1 rr q1
def OV(K:aj)(n:Nat)(t:TGs):TG:=λv σ H Q=>∃a xs,v=.ref a/\SqT K H a xs/\xs.length=n/\t xs σ H Q
theorem Mf{k:Nat}{t:TGs}{n:Nat}(hc:X.calm=true)(h:PGs X es t)
  (hn:autoParam ((assignEach es X.env).length=n) au1._auto_1) (ZN:autoParam ((assignEach es X.env).findIdx? (·.1)=none) au1._auto_1):PG X (.Tuple es k pos) (OV X.K n t):=by
 intro pins s σ H v u Q I r hw;obtain⟨a,xs,e1,hq,hl,hw⟩:=hw;subst e1;cases r;obtain⟨ZY,rv,ht,hz⟩:=I.tuple hq;refine assign_Tuple_tuple (I.ok.hd hc) ht (by simp[hn,<-hl,rv.length]) ZN λh' hx=>?_;have I1:=I.kept (t':=s.toks) λb o e=>hx b o (aL (aw e)) e;exact h _ _ σ H xs _ Q I1 (by omega) hw
def Ms(to ti:TE)(t:EH):TG:=λv σ H Q=>to σ H λo H1=>ti σ H1 λi H2=>t o i v H2 λH3=>Q σ H3
theorem Ko{o i:Expr}{to ti:TE}{t:EH}(ho:PE X o to)(hi:PE X i ti)(hs:Me X t)
  (ha:autoParam (∀v,assign (.Subscript o i pos) X.env v=(do
   let ov <- holding [v] (eval o X.env)
   let iv <- holding [v,ov] (eval i X.env)
   standAt pos
   holding [v,ov,iv] (setItem ov iv v)
   release [v,ov,iv] [])) au3._auto_1):PG X (.Subscript o i pos) (Ms to ti t):=by
 intro pins s σ H v u Q I r h;rw[ha];refine ag (gJ (thn (ho _ s σ H _ I h) λov s1 ⟨x,H1,I1,r1,q1⟩=>?_));refine ag (gJ (thn (hi _ s1 σ H1 _ I1 q1) λiv s2 ⟨y,H2,I2,r2,q2⟩=>?_));refine ag (u0 (ag (gJ (thn (hs _ s2 σ H2 x y v ov iv u _ I2 r1 r2 r q2) λ_ s3 ⟨H3,I3,q3⟩=>?_))));exact wpAny_release ⟨σ,H3,I3,q3⟩
def EG(te:TE)(g:TG):TS:=λD σ H=>te σ H λx H1=>g x σ H1 D.nx
variable{te:TE}
theorem LK{tg:Expr}{g:TG}(he:PE X e te)(hg:PG X tg g)(hs:autoParam (swapsWithSole [tg] e pos.line X.env=pure false) au1._auto_1)(hw:autoParam (swappedStores [tg] e X.env=pure none) au1._auto_1)
  (h1:autoParam ((assignEach [tg] X.env).map (·.2)=[assign tg X.env]) au1._auto_1):PS X (.Assign [tg] e pos) (EG te g):=by
 intro pins s σ H D I h;refine wpAny_Assign_stores (thn (he _ s σ H _ I h) λv s1 ⟨x,H1,I1,r1,q1⟩=>?_) hs hw;rw[h1];exact thn (hg _ s1 σ H1 x v _ I1 r1 q1) λ_ s2 q=>q
theorem zb{x:Str}{pos':Pos}(hN:X.N.Nodup)(hi:X.N[i]?=some x)(hx:Loc X.env.scope x)(he:PE X e te)(hs:autoParam (swapsWith e (some (.Name x pos')) pos.line X.env=pure false) au1._auto_1)(hf:autoParam (X.fn x=true\/X.env.scope.names.lookup x=some .local) au4._auto_1):
  PS X (.Assign [.Name x pos'] e pos) (EG te (jM i)):=by
 intro pins s σ H D I h;refine wpAny_Assign_Name (thn (he _ s σ H _ I h) λv s1 ⟨y,H1,I1,r1,q1⟩=>?_) hs;exact j7 I1 hN hi hx r1 (λs2 I2=>⟨_,H1,I2,q1⟩) hf
def PZ(i j:Nat)(ta:TA):TS:=λD σ H=>ta σ H λvs H1=>∃v w,vs=[v,w]/\D.nx ((σ.set i (some v)).set j (some w)) H1
theorem KS{j:Nat}{x y:Str}{a b:Expr}{ta:TA}{px py pt:Pos}{kt k2 pt2}(hc:X.calm=true)(hN:X.N.Nodup)(hi:X.N[i]?=some x)(hj:X.N[j]?=some y)(Yz:i≠j)
  (hx:X.env.scope.names.lookup x=some .local) (hy:X.env.scope.names.lookup y=some .local) (ha:PA X [a,b] ta)
  (hw:swappedStores [.Tuple [.Name x px,.Name y py] kt pt] (.Tuple [a,b] k2 pt2) X.env=pure (some [x,y]))
  (hs:autoParam (swapsWithSole [.Tuple [.Name x px,.Name y py] kt pt] (.Tuple [a,b] k2 pt2) pos.line X.env=pure false) au1._auto_1):
  PS X (.Assign [.Tuple [.Name x px,.Name y py] kt pt] (.Tuple [a,b] k2 pt2) pos) (PZ i j ta):=by
 intro pins s σ H D I h;rw[exec_Assign_arm];refine ag (u0 ?_);rw[hs];refine ag (aF ?_);rw[if_neg (by decide)];refine ag (Tuple_ (thn (ha _ pins s σ H _ I h) λus s1 ⟨vs,H1,I1,r1,q1⟩=>?_));obtain⟨v,w,e1,q1⟩:=q1;subst e1;obtain⟨u1,u2,rfl,rv,YZ⟩ :∃u1 u2,us=[u1,u2]/\RelV v u1/\RelV w u2:=by
  cases r1 with
  | cons p q=>
    cases q with
    | cons p' q'=>
      cases q';exact⟨_,_,rfl,p,p'⟩
 refine eJ ?_ (by show 2<=sizeLine;decide);have I2:Inv X pins σ H1 { s1 with heap:=s1.heap.push { cls := .type "tuple",data := .seq [u1,u2].toArray } }:=I1.kept (t':=s1.toks) fun b o e=>af _ e;rw[hw];refine ag (aF ?_);show aN (model X.prog X.w) X.A (do rule "assign.swapped-stores";let items <- unpackItems (.ref s1.heap.objs.size) 2 none;assignInOrder [fun v=>bindName X.env y v,fun v=>bindName X.env x v] items.reverse;pure Flow.next) _ _ _;refine ag (gy (ag (unpackItems_tuple (items:= #[u1,u2]) (I.ok.hd hc) (AW s1.heap _) λh' UA=>?_)));have I3:=I2.kept (h':=h') (t':=s1.toks) λb o e=>UA b o (aL (aw e)) e;show aN _ _ (assignInOrder [λv=>bindName X.env y v,λv=>bindName X.env x v] [u2,u1] >>= λ_=>pure Flow.next) _ _ _;refine ag (assignInOrder_cons (wpAny_bindName (j7 I3 hN hj (.inl hy) YZ (λs2 I4=>?_) (.inr hy))));refine assignInOrder_cons (wpAny_bindName (j7 I4 hN hi (.inl hx) rv (λs3 I5=>assignInOrder_nil (aF ?_)) (.inr hx)));rw[List.set_comm _ _ (dj Yz)]at I5;exact⟨_,H1,I5,q1⟩
end
section
variable {X:Cx}{pos:Pos}
def EC(c:TT)(tb:TS):TS:=λD σ H=>∃W:Nat->St->Hp->Prop,(∃m,W m σ H) /\ ∀m σ H,W m σ H ->
 c σ H λb H1=>if b=true then ∃N:St->Hp->Prop,(∀Y3 H',N Y3 H'->∃m',m'<m/\W m' Y3 H')/\tb { D with nx:=N,ct:=N,bk:=D.nx } σ H1 else D.nx σ H1
theorem Do{c:Expr}{body:List Stmt}{tc:TT}{tb:TS}(hp:PassesOwn (model X.prog X.w) X.A X.env X.xe)(hc:PT X c tc)(hb:PSs X body tb):PS X (.While c body [] pos) (EC tc tb):=by
 intro pins s σ H D I h;obtain⟨W,⟨m0,w0⟩,turn⟩:=h;refine wpAny_While (codeAny_whileLoop (λn s'=>∃Y3 H',Inv X _ Y3 H' s'/\W n Y3 H') ?_ m0 ⟨σ,H,I,w0⟩);rintro n s1 ⟨Y7,H1,I1,w1⟩;refine gH hp (thn (hc _ s1 _ H1 _ I1 (turn n _ H1 w1)) λb s2 ⟨H2,I2,q2⟩=>?_);cases b with
 | true=>
   obtain⟨N,hN,q2⟩:=q2;refine gH hp (thn (hb _ s2 _ H2 _ I2 q2) λf s3 q3=>?_);cases f with
   | next=>
     obtain⟨X9,H3,I3,n3⟩:=q3;obtain⟨m',hm,w3⟩:=hN _ H3 n3;exact⟨m',hm,_,H3,I3,w3⟩
   | cont=>
     obtain⟨X9,H3,I3,n3⟩:=q3;obtain⟨m',hm,w3⟩:=hN _ H3 n3;exact⟨m',hm,_,H3,I3,w3⟩
   |brk=>exact q3
   |ret v=>exact q3
 | false=>
   exact iT ⟨_,H2,I2,q2⟩
end
structure It where
 go:Nat->Hp->Prop
 yld:Nat->Hp->V->Hp->Prop
 stop:Nat->Hp->Prop
def sj(X:Cx)(pins:List (Addr×Obj))(H:Hp)(b:Addr):Prop:=
 H b=none/\b≠X.env.locals/\b∉X.fs/\(b∈X.ex\/X.s₀.heap.objs.size<=b)/\(∀x c,X.env.cells.lookup x=some c->c≠b) /\ ∀p∈X.pn++pins,p.1≠b
variable{pins:List (Addr×Obj)}{s:Shared}{σ:St}
theorem Inv.fpOk{H':Hp}(I:Inv X pins σ H s)(hb:s.heap.objs.size<=b)(hn:H' b=none):sj X pins H' b:=by
 refine⟨hn,cJ (ak I.lt hb),I.nofs hb,.inr (aH I.sz hb),λx c e z=>?_,λp hp z=>?_⟩
 .obtain⟨v,q⟩:=I.cell x c e
  exact absurd (ak q.lt (by rw[z];omega)) (bA _)
 .exact absurd (ak (aw (I.pin p hp).1) (by rw[z];omega)) (bA _)
structure Turn(P:Program)(w:World)(K:aj)(tg:Expr)(J:It)(fp:List Addr)(it:Addr)(tn:Nat->Heap->Prop):Prop where
 mem:it∈fp
 obj:∀i h,tn i h->∀b∈fp,∃o,h.get? b=some o /\ ∀v,o.data≠.cell v
 keep:∀i h h',tn i h->(∀b∈fp,∀o,h.get? b=some o->h'.get? b=some o)->tn i h'
 item:∀(X:Cx),X.prog=P->X.w=w->X.K=K->X.calm=true->∀(i:Nat) (pins:List (Addr×Obj)) (s:Shared) (σ:St) (H:Hp) (E:Value->Shared->Prop),Inv X pins σ H s->(∀b∈fp,sj X pins H b)->tn i s.heap->J.go i H ->
  aN (model P w) X.A (pyNext (.ref it)) (λr s1 =>∃u,r=some u /\
   aN (model P w) X.A (letOwnedTupleGo tg (.ref it) u) (λ_ s2 =>∃x H',Inv X pins σ H' s2/\RelV x u/\J.yld i H x H'/\tn (i+1) s2.heap /\ ∀b∈fp,H' b=none) E s1) E s
 done:∀(X:Cx),X.prog=P->X.w=w->X.K=K->X.calm=true->∀(i:Nat) (pins:List (Addr×Obj)) (s:Shared) (σ:St) (H:Hp) (E:Value->Shared->Prop),Inv X pins σ H s->(∀b∈fp,sj X pins H b)->tn i s.heap->J.stop i H ->
  aN (model P w) X.A (pyNext (.ref it)) (λr s1=>r=none/\Inv X pins σ H s1) E s
 self:∀(A:Around) (i:Nat) (s:Shared) (Q:Value->Shared->Prop) (E:Value->Shared->Prop),tn i s.heap->Q (.ref it) s->aN (model P w) A (pyIter (.ref it)) Q E s
abbrev TI:=St->Hp->(It->Hp->Prop)->Prop
def PIE(X:Cx)(pins:List (Addr×Obj))(σ:St)(tg:Expr)(R:It->Hp->Prop)(itv:Value)(s2:Shared):Prop:=
 ∃(it:Addr) (fp:List Addr) (tn:Nat->Heap->Prop) (J:It) (H':Hp),itv=.ref it/\Inv X pins σ H' s2/\Turn X.prog X.w X.K tg J fp it tn/\tn 0 s2.heap/\(∀b∈fp,sj X pins H' b)/\R J H'
def PI(X:Cx)(tg iter:Expr)(wi:TI):Prop:=
 ∀(pins:List (Addr×Obj)) (s:Shared) (σ:St) (H:Hp) (R:It->Hp->Prop),Inv X pins σ H s->wi σ H R ->
  aN (model X.prog X.w) X.A (eval iter X.env) (λv s1=>aN (model X.prog X.w) X.A (pyIter v) (PIE X pins σ tg R) X.xe s1) X.xe s
variable{tg:Expr}
theorem ET{it:Addr}{n:String}{vs:Array Value}{Q:Unit->Shared->Prop}(ho:s.heap.get? it=some o)(hc:o.cls=.type n)(hd:o.data=.fields vs)
  (hn : ["enumerate","zip","dict_itemiterator","dict_reverseitemiterator","odict_iterator","itertools.zip_longest","itertools.pairwise"].contains n=false) (hQ:Q () s):aN M A (letOwnedTupleGo tg (.ref it) u) Q E s:=by
 cases tg<;>first
  |exact aF hQ
  | (cases u <;> first
    |exact aF hQ
    | (refine ag (Fv ho ?_)
       rw[hc,hd];show aN M A (if (["enumerate","zip","dict_itemiterator","dict_reverseitemiterator","odict_iterator","itertools.zip_longest","itertools.pairwise"].contains n&&vs[0]? == some _)=true then _ else _) Q E s;rw[if_neg (by grind)]
       exact aF hQ))
def Itl(K:aj)(a:Addr):It:=
 ⟨λi H=>∃xs x,SqL K H a xs/\xs[i]?=some x,λi H x H'=>H'=H /\ ∀xs,SqL K H a xs->xs[i]?=some x,λi H=>∃xs,SqL K H a xs/\xs.length<=i⟩
def Itt(K:aj)(a:Addr):It:=
 ⟨λi H=>∃xs x,SqT K H a xs/\xs[i]?=some x,λi H x H'=>H'=H /\ ∀xs,SqT K H a xs->xs[i]?=some x,λi H=>∃xs,SqT K H a xs/\xs.length<=i⟩
def Itr(lo:Int)(n:Nat):It:=⟨λi _=>i<n,λi H x H'=>H'=H/\x=.int (lo+i),λi _=>n<=i⟩
variable{K:aj}
theorem A7(a it:Addr):Turn P w K tg (Itl K a) [it] it (λi h=>h.IsListIter it a i) where
 mem:=by simp
 obj:=λi h st b hb=>by
  have e:=by simpa using hb
  obtain⟨o,e,c,d⟩:=st
  simp_all
 keep:=λi h h' st k=>st.at λo e=>k it (by simp) o e
 item:=by
  intro X hP hw hK hc i pins s σ H E I hf st hg;subst hP hw hK;obtain⟨xs,x,hq,hx⟩:=hg;obtain⟨ZY,rv,p,hz⟩:=I.list hq;obtain⟨u,hu,ru⟩:=rv.get hx;obtain⟨f0,f1,f2,f3,f4,f5⟩:=hf it (by simp);refine wpAny_pyNext_list_item st p.isList (by simpa using hu) λh' Z' sb=>?_;have I1:=I.turned (t':=s.toks) (λb o hb e=>(sb.2 b hb).trans e) f0 f1 f3 f4 f5;obtain⟨o,e,c,d⟩:=id Z';exact⟨u,rfl,ET e c d (by decide) ⟨x,H,I1,ru,⟨rfl,λys hy=>by rw[I.list_inj hy hq];omega⟩,Z',λb hb=>(hf b hb).1⟩⟩
 done:=by
  intro X hP hw hK hc i pins s σ H E I hf st hg;subst hP hw hK;obtain⟨xs,hq,hx⟩:=hg;obtain⟨ZY,rv,p,hz⟩:=I.list hq;obtain⟨f0,f1,f2,f3,f4,f5⟩:=hf it (by simp);have hl:=rv.length;exact wpAny_pyNext_list_end (I.ok.hd hc) st p.isList (by simp;omega) λh' eb=>⟨rfl,I.turned (λb o hb e=>eb b o hb e) f0 f1 f3 f4 f5⟩
 self:=λ_ _ _ _ _ st h=>wpAny_pyIter_listiter st h
theorem zL(a it:Addr):Turn P w K tg (Itt K a) [it] it (λi h=>h.IsTupleIter it a i) where
 mem:=by simp
 obj:=λi h st b hb=>by
  have e:=by simpa using hb
  obtain⟨o,e,c,d⟩:=st
  simp_all
 keep:=λi h h' st k=>st.at λo e=>k it (by simp) o e
 item:=by
  intro X hP hw hK hc i pins s σ H E I hf st hg;subst hP hw hK;obtain⟨xs,x,hq,hx⟩:=hg;obtain⟨ZY,rv,p,hz⟩:=I.tuple hq;obtain⟨u,hu,ru⟩:=rv.get hx;obtain⟨f0,f1,f2,f3,f4,f5⟩:=hf it (by simp);refine wpAny_pyNext_tuple_item st (p) (by simpa using hu) λh' Z' sb=>?_;have I1:=I.turned (t':=s.toks) (λb o hb e=>(sb.2 b hb).trans e) f0 f1 f3 f4 f5;obtain⟨o,e,c,d⟩:=id Z';exact⟨u,rfl,ET e c d (by decide) ⟨x,H,I1,ru,⟨rfl,λys hy=>by rw[I.tuple_inj hy hq];omega⟩,Z',λb hb=>(hf b hb).1⟩⟩
 done:=by
  intro X hP hw hK hc i pins s σ H E I hf st hg;subst hP hw hK;obtain⟨xs,hq,hx⟩:=hg;obtain⟨ZY,rv,p,hz⟩:=I.tuple hq;obtain⟨f0,f1,f2,f3,f4,f5⟩:=hf it (by simp);have hl:=rv.length;exact wpAny_pyNext_tuple_end (I.ok.hd hc) st (p) (by simp;omega) λh' eb=>⟨rfl,I.turned (λb o hb e=>eb b o hb e) f0 f1 f3 f4 f5⟩
 self:=λ_ _ _ _ _ st h=>wpAny_pyIter_tupleiter st h
theorem zA(it:Addr)(lo:Int)(n:Nat):Turn P w K tg (Itr lo n) [it] it (λi h=>IsRangeIter h it (lo+(i:Nat)*1) ((n:Int)-(i:Nat)) 1) where
 mem:=by simp
 obj:=λi h st b hb=>by
  simp_all
 keep:=λi h h' st k=>k it (by simp) _ st
 item:=by
  intro X hP hw hK hc i pins s σ H E I hf st hg;subst hP hw hK;obtain⟨f0,f1,f2,f3,f4,f5⟩:=hf it (by simp);have W:=Walks.range (prog:=X.prog) (w:=X.w) (I.ok.hd hc) it lo 1 n;refine W.item i s _ _ hg st λv h' tk hv Z' kk=>?_;obtain⟨t,rfl⟩:=hv;have I1:Inv X _ σ H { s with heap:=h',toks:=tk }:=I.turned (λb o hb e=>kk b o (by simpa using hb) e) f0 f1 f3 f4 f5;refine⟨_,rfl,ET Z' rfl rfl (by decide) ⟨.int _,H,I1,⟨t,?_⟩,⟨rfl,rfl⟩,Z',λb hb=>(hf b hb).1⟩⟩<;>simp_all
 done:=by
  intro X hP hw hK hc i pins s σ H E I hf st hg;obtain⟨f0,f1,f2,f3,f4,f5⟩:=hf it (by simp);exact wpAny_pyNext_range_end (I.ok.hd hc) st (by have:n<=i:=hg;omega) λh' eb=>⟨rfl,I.turned (λb o hb e=>eb b o hb e) f0 f1 f3 f4 f5⟩
 self:=λ_ _ _ _ _ st h=>wpAny_pyIter_rangeiter st h
section
variable {X:Cx}{tg:Expr}
def uy(K:aj)(tl:TE):TI:=λσ H R=>tl σ H λx H1=>∃a,x=.ref a/\(∃xs,SqL K H1 a xs)/\R (Itl K a) H1
def Bx(K:aj)(tl:TE):TI:=λσ H R=>tl σ H λx H1=>∃a,x=.ref a/\(∃xs,SqT K H1 a xs)/\R (Itt K a) H1
variable{l:Expr}{tl:TE}
theorem FY(hl:PE X l tl):PI X tg l (uy X.K tl):=by
 intro pins s σ H R I h;refine thn (hl _ s σ H _ I h) λv s1 ⟨x,H1,I1,r1,q1⟩=>?_;obtain⟨a,e,⟨xs,hq⟩,q⟩:=q1;subst e;cases r1;obtain⟨ZY,rv,p,hz⟩:=I1.list hq;refine wpAny_pyIter_list p.isList ?_;refine⟨_,_,_,_,H1,rfl,I1.kept λb o e=>af _ e,A7 a _,⟨_,ay _ rfl,rfl,rfl⟩,λb hb=>?_,q⟩;have e:=by simpa using hb
 subst e;exact I1.fpOk (ao _) (I1.hok.fresh (ao _))
theorem LJ(hl:PE X l tl):PI X tg l (Bx X.K tl):=by
 intro pins s σ H R I h;refine thn (hl _ s σ H _ I h) λv s1 ⟨x,H1,I1,r1,q1⟩=>?_;obtain⟨a,e,⟨xs,hq⟩,q⟩:=q1;subst e;cases r1;obtain⟨ZY,rv,p,hz⟩:=I1.tuple hq;refine mh (p) ?_;refine⟨_,_,_,_,H1,rfl,I1.kept λb o e=>af _ e,zL a _,⟨_,ay _ rfl,rfl,rfl⟩,λb hb=>?_,q⟩;have e:=by simpa using hb
 subst e;exact I1.fpOk (ao _) (I1.hok.fresh (ao _))
theorem xi{R:It->Hp->Prop}{lo hi:Int}{t u v:Tok}{tk:Nat}(I:Inv X pins σ H s)(h1: -(2^62)<=lo)(h2:lo<2^62)(h3: -(2^62)<=hi)(h4:hi<2^62)
  (q:R (Itr lo (hi-lo).toNat) H):aN (model X.prog X.w) X.A (pyIter (.ref s.heap.objs.size)) (PIE X pins σ tg R) E { s with heap:=s.heap.push { cls := .type "range",data := .fields #[.int lo t,.int hi u,.int 1 v] },toks:=tk }:=by
 refine wpAny_pyIter_range (IsRange.new ..) (small_one h1 h2 h3 h4) ?_;have I1:Inv X _ σ H { s with heap:=s.heap.push { cls := .type "range",data := .fields #[.int lo t,.int hi u,.int 1 v] },toks:=tk }:=I.kept fun b o e=>af _ e
 refine⟨_,_,_,_,H,rfl,
  I1.kept λb o e=>af _ e,zA _ lo _,?_,λb hb =>?_,q⟩
 .have e1:lo+((0:Nat))*1=lo:=by simp
  have e2:(((hi-lo).toNat))-((0:Nat))=dZ lo hi 1:=by rw[rangeSize_one];grind
  rw[e1,e2];exact ay _ rfl
 .have e:b=(s.heap.push { cls := .type "range",data := .fields #[.int lo t,.int hi u,.int 1 v] }).objs.size:=by simpa using hb
  subst e;exact I1.fpOk (ao _) (I1.hok.fresh (ao _))
def wI(ta:TA):TI:=λσ H R=>ta σ H λvs H1=>∃j:Int,vs=[.int j] /\ -(2^62)<=j/\j<2^62/\R (Itr 0 j.toNat) H1
def yh(ta:TA):TI:=λσ H R=>ta σ H λvs H1=>∃i j:Int,vs=[.int i,.int j]/\(-(2^62)<=i/\i<2^62 /\ -(2^62)<=j/\j<2^62)/\R (Itr i (j-i).toNat) H1
variable{ta:TA}{pos:Pos}
theorem Cd{a:Expr}{p:Pos}(hg:Gl X "range")(hm:X.mg "range"=none)(ha:PA X [a] ta)(hs:autoParam (starEach [a] X.env=[(false,eval a X.env)]) au1._auto_1):PI X tg (.Call (.Name "range" p) [a] [] pos) (wI ta):=by
 intro pins s σ H R I h;refine Call_ (kG I hg hm boot_range (dm (thn (ha _ _ s σ H _ I h) λus s1 ⟨vs,H1,I1,r1,q1⟩=>?_) hs rfl));obtain⟨j,e,q1,q2,q⟩:=q1;subst e;cases r1 with
 | cons r rr=>
   cases rr;obtain⟨t,rfl⟩:=r;exact call_range_1 (xi I1 (by decide) (by decide) q1 q2 (by simpa using q))
theorem BF{a b:Expr}{p:Pos}(hg:Gl X "range")(hm:X.mg "range"=none)(ha:PA X [a,b] ta)(hs:autoParam (starEach [a,b] X.env=[(false,eval a X.env),(false,eval b X.env)]) au1._auto_1)(Zl:autoParam (starEach [b] X.env=[(false,eval b X.env)]) au1._auto_1) :
  PI X tg (.Call (.Name "range" p) [a,b] [] pos) (yh ta):=by
 intro pins s σ H R I h;refine Call_ (kG I hg hm boot_range (dm (thn (ha _ _ s σ H _ I h) λus s1 ⟨vs,H1,I1,r1,q1⟩=>?_) (by rw[hs,Zl]) (by rw[Zl];rfl)));obtain⟨i,j,e,⟨q1,q2,q3,q4⟩,q⟩:=q1;subst e;cases r1 with
 | cons r rr=>
   cases rr with
   | cons r' rr=>
     cases rr;obtain⟨t,rfl⟩:=r;obtain⟨t',rfl⟩:=r';exact call_range_2 (xi I1 q1 q2 q3 q4 q)
def tZ(wi:TI)(g:TG)(tb:TS):TS:=λD σ H=>wi σ H λJ H1=>∃W:Nat->Nat->St->Hp->Prop,(∃m,W 0 m σ H1) /\ ∀i m σ H,W i m σ H ->
 (J.stop i H/\D.nx σ H)\/(J.go i H /\ ∃N:St->Hp->Prop,(∀Y3 H',N Y3 H'->∃m',m'<m/\W (i+1) m' Y3 H') /\ ∀x H',J.yld i H x H'->g x σ H' λY9 H2=>tb { D with nx:=N,ct:=N,bk:=D.nx } Y9 H2)
def vA(fp:List Addr)(h:Heap):List (Addr×Obj):=fp.filterMap λb=>(h.get? b).map λo=>(b,o)
variable{fp:List Addr}
theorem kK(hb:b∈fp)(e:h.get? b=some o):(b,o)∈vA fp h:=List.mem_filterMap.mpr ⟨b,hb,by rw[e];rfl⟩
theorem BS{p:Addr×Obj}(hp:p∈vA fp h):p.1∈fp/\h.get? p.1=some p.2:=by
 obtain⟨b,hb,e⟩:=List.mem_filterMap.mp hp;cases q:h.get? b<;>grind
theorem Inv.pinned{fp:List Addr}(I:Inv X pins σ H s)(hf:∀b∈fp,sj X pins H b)(ho:∀b∈fp,∃o,s.heap.get? b=some o /\ ∀v,o.data≠.cell v):Inv X (pins++vA fp s.heap) σ H s:=
 I.pins_of λp hp=>(aV.mp hp).elim (λz=>I.pin p (aJ _ z)) λz=>by
  obtain⟨hb,e⟩:=BS z;obtain⟨f0,f1,f2,_⟩:=hf _ hb
  grind
theorem Inv.unpinned{pl:List (Addr×Obj)}(I:Inv X (pins++pl) σ H s):Inv X pins σ H s:=I.pins_of λp hp=>I.pin p (aJ _ (aZ _ hp))
theorem Dm{iter:Expr}{body:List Stmt}{wi:TI}{g:TG}{tb:TS}(hp:PassesOwn (model X.prog X.w) X.A X.env X.xe)(hc:X.calm=true)(hi:PI X tg iter wi)(hg:PG X tg g)(hb:PSs X body tb)
  (hs:autoParam (∀x,foldedSetIterable iter X.env x=pure x) au3._auto_1):PS X (.For tg iter body [] pos) (tZ wi g tb):=by
 intro pins s σ H D I h;refine wpAny_For (thn (hi _ s σ H _ I h) λv s1 h1=>thn h1 λitv s2 h2=>?_) hs;obtain⟨it,fp,tn,J,H2,e,I2,T,Zy,f2,W,⟨m0,w0⟩,turn⟩:=h2;subst e;have stat:∀{H':Hp},(∀b∈fp,H' b=none)->∀b∈fp,sj X _ H' b:=λhn b hb=>⟨hn b hb,(f2 b hb).2⟩;refine codeAny_forLoop_any (λn s'=>∃i Y3 H',Inv X _ Y3 H' s'/\tn i s'.heap/\(∀b∈fp,H' b=none)/\W i n Y3 H') ?_ m0 ⟨0,σ,H2,I2,Zy,λb hb=>(f2 b hb).1,w0⟩;rintro n s3 ⟨i,X9,H3,I3,ZL,VL,w3⟩;rcases turn i n _ H3 w3 with⟨stop,qn⟩ | ⟨go,N,hN,step⟩
 .refine gH hp (thn (T.done X rfl rfl rfl hc i _ s3 _ H3 _ I3 (stat VL) ZL stop) λr s4 ⟨hr,I4⟩=>?_)
  subst hr;exact iT ⟨_,H3,I4,qn⟩
 .refine gH hp (thn (T.item X rfl rfl rfl hc i _ s3 _ H3 _ I3 (stat VL) ZL go) λr s4 ⟨u,hr,h4⟩=>?_)
  subst hr;refine gH hp (thn h4 λ_ s5 ⟨x,H5,I5,r5,y5,YN,U1⟩=>?_);have UZ:=I5.pinned (stat U1) (T.obj _ _ YN);refine gH hp (thn (hg _ s5 _ H5 x u _ UZ r5 (step x H5 y5)) λ_ s6 ⟨Z6,H6,I6,q6⟩=>?_);refine gH hp (thn (hb _ s6 _ H6 _ I6 q6) λf s7 q7=>?_);have again:∀{X5:St}{H7:Hp},Inv X _ _ H7 s7->N _ H7->∃m,m<n /\ ∃i Y3 H',Inv X pins Y3 H' s7/\tn i _/\(∀b∈fp,H' b=none)/\W i m Y3 H':=λ{X5 H7} I7 n7=>by
   obtain⟨m',hm,w7⟩:=hN _ H7 n7;refine⟨m',hm,_,X5,H7,I7.unpinned,T.keep _ _ _ YN λb hb o e=>(I7.pin _ (aJ _ (aJ _ (kK hb e)))).1,λb hb=>?_,w7⟩;obtain⟨o,e,d⟩:=T.obj _ _ YN b hb;exact(I7.pin _ (aJ _ (aJ _ (kK hb e)))).2.1
  cases f with
  |next=>obtain⟨X5,H7,I7,n7⟩:=q7;exact again I7 n7
  |cont=>obtain⟨X5,H7,I7,n7⟩:=q7;exact again I7 n7
  |brk=>obtain⟨X5,H7,I7,q7⟩:=q7;exact⟨_,H7,I7.unpinned,q7⟩
  |ret v=>obtain⟨x7,X5,H7,I7,r7,q7⟩:=q7;exact⟨x7,_,H7,I7.unpinned,r7,q7⟩
end
variable{tb:TS}{D:Ends}
theorem FS{g:TG}{σ:St}{H:Hp}(Pv:Nat->St->Hp->Prop)(h0:Pv 0 σ H)(hl:∀i σ H,i<=xs.length->Pv i σ H->SqT K H a xs)
  (hs:∀i x σ H,xs[i]?=some x->Pv i σ H->g x σ H λY9 H2=>tb { D with nx:=Pv (i+1),ct:=Pv (i+1),bk:=D.nx } Y9 H2) (hd:∀σ H,Pv xs.length σ H->D.nx σ H):
  ∃W:Nat->Nat->St->Hp->Prop,(∃m,W 0 m σ H) /\ ∀i m σ H,W i m σ H ->
   ((Itt K a).stop i H/\D.nx σ H)\/((Itt K a).go i H /\ ∃N:St->Hp->Prop,(∀Y3 H',N Y3 H'->∃m',m'<m/\W (i+1) m' Y3 H') /\ ∀x H',(Itt K a).yld i H x H'->g x σ H' λY9 H2=>tb { D with nx:=N,ct:=N,bk:=D.nx } Y9 H2):=by
 refine⟨λi m σ H=>m=xs.length-i/\i<=xs.length/\Pv i σ H,⟨xs.length,by simp,cU _,h0⟩,?_⟩;rintro i m σ H ⟨rfl,hi,p⟩;have q:=hl i σ H hi p;by_cases ZU:i<xs.length
 .refine .inr ⟨⟨xs,xs[i],q,by simp⟩,_,λY3 H' p'=>⟨_,by omega,rfl,ZU,p'⟩,λx H' y=>?_⟩
  obtain⟨e,y⟩:=y;subst e;exact hs i x σ _ (y xs q) p
 .have e:i=xs.length:=by omega
  subst e;exact .inl ⟨⟨xs,q,ao _⟩,hd σ H p⟩
variable{n:Nat}
theorem Ci{lo:Int}{g:TG}{σ:St}{H:Hp}(Pv:Nat->St->Hp->Prop)(h0:Pv 0 σ H)
  (hs:∀i σ H,i<n->Pv i σ H->g (.int (lo+i)) σ H λY9 H2=>tb { D with nx:=Pv (i+1),ct:=Pv (i+1),bk:=D.nx } Y9 H2) (hd:∀σ H,Pv n σ H->D.nx σ H):
  ∃W:Nat->Nat->St->Hp->Prop,(∃m,W 0 m σ H) /\ ∀i m σ H,W i m σ H ->
   ((Itr lo n).stop i H/\D.nx σ H)\/((Itr lo n).go i H /\ ∃N:St->Hp->Prop,(∀Y3 H',N Y3 H'->∃m',m'<m/\W (i+1) m' Y3 H') /\ ∀x H',(Itr lo n).yld i H x H'->g x σ H' λY9 H2=>tb { D with nx:=N,ct:=N,bk:=D.nx } Y9 H2):=by
 refine⟨λi m σ H=>m=n-i/\i<=n/\Pv i σ H,⟨n,by simp,cU _,h0⟩,?_⟩;rintro i m σ H ⟨rfl,hi,p⟩;by_cases ZU:i<n
 .refine .inr ⟨ZU,_,λY3 H' p'=>⟨_,by omega,rfl,ZU,p'⟩,λx H' y=>?_⟩
  obtain⟨e,y⟩:=y
  simp_all
 .have e:i=n:=by omega
  subst e;exact .inl ⟨ao _,hd σ H p⟩
abbrev R2:=V->V->Hp->VK->Prop
def OpR(X:Cx)(f:Value->Value->Sem Value)(r:R2):Prop:=
 ∀(pins:List (Addr×Obj)) (s:Shared) (σ:St) (H:Hp) (x y:V) (v u:Value) (Q:VK),Inv X pins σ H s->RelV x v->RelV y u->r x y H Q ->
  aN (model X.prog X.w) X.A (f v u) (EP X pins σ Q) X.xe s
def UnR(X:Cx)(f:Value->Sem Value)(r:V->Hp->VK->Prop):Prop:=
 ∀(pins:List (Addr×Obj)) (s:Shared) (σ:St) (H:Hp) (x:V) (v:Value) (Q:VK),Inv X pins σ H s->RelV x v->r x H Q ->
  aN (model X.prog X.w) X.A (f v) (EP X pins σ Q) X.xe s
def iu(X:Cx)(f:Value)(r:List V->Hp->VK->Prop):Prop:=
 ∀(pins:List (Addr×Obj)) (s:Shared) (σ:St) (H:Hp) (xs:List V) (us:List Value) (Q:VK),Inv X pins σ H s->cK xs us->r xs H Q ->
  aN (model X.prog X.w) X.A (call f us) (EP X pins σ Q) X.xe s
def tOp(r:R2)(ta tb:TE):TE:=λσ H Q=>ta σ H λx H1=>tb σ H1 λy H2=>r x y H2 Q
def tUn(r:V->Hp->VK->Prop)(ta:TE):TE:=λσ H Q=>ta σ H λx H1=>r x H1 Q
def rI(C:Int->Int->Prop)(g:Int->Int->V):R2:=λx y H Q=>∃i j,x=.int i/\y=.int j/\C i j/\Q (g i j) H
def rI0(g:Int->Int->V):R2:=λx y H Q=>∃i j,x=.int i/\y=.int j/\Q (g i j) H
def rU(g:Int->V):V->Hp->VK->Prop:=λx H Q=>∃i,x=.int i/\Q (g i) H
section
variable {X:Cx}{a b c:Expr}{ta tb tc:TE}{pos:Pos}
variable{f:Value->Value->Sem Value}
theorem LC(ha:PE X a ta)(hb:PE X b tb){R:V->V->Hp->Prop}(I:Inv X pins σ H s)
  (h:ta σ H λx H1=>tb σ H1 λy H2=>R x y H2) {Q:Value->Shared->Prop}
  (hf:∀v u s2 x y H2,Inv X pins σ H2 s2->RelV x v->RelV y u->R x y H2->aN (model X.prog X.w) X.A (f v u) Q X.xe s2):
  aN (model X.prog X.w) X.A (eval a X.env) (λv ZT=>aN (model X.prog X.w) X.A (eval b X.env) (λu ZX=>aN (model X.prog X.w) X.A (f v u) Q X.xe ZX) X.xe ZT) X.xe s:=by
 refine thn (ha _ s σ H _ I h) λv s1 ⟨x,H1,I1,r1,q1⟩=>?_;refine thn (hb _ s1 σ H1 _ I1 q1) λu s2 ⟨y,H2,I2,r2,q2⟩=>?_;exact hf v u s2 x y H2 I2 r1 r2 q2
theorem uj{op:Operator}{r:R2}(ho:OpR X (binaryOp op) r)(ha:PE X a ta)(hb:PE X b tb):PE X (.BinOp a op b pos) (tOp r ta tb):=by
 intro pins s σ H Q I h;exact wpAny_BinOp (LC ha hb I h λv u s2 x y H2 I2 rx ry q=>ho _ s2 σ H2 x y v u Q I2 rx ry q)
theorem MZ{op:UnaryOp}{r:V->Hp->VK->Prop}(ho:UnR X (unaryOp op) r)(ha:PE X a ta):PE X (.UnaryOp op a pos) (tUn r ta):=by
 intro pins s σ H Q I h;exact UnaryOp_ (thn (ha _ s σ H _ I h) λv s1 ⟨x,H1,I1,r1,q1⟩=>ho _ s1 σ H1 x v Q I1 r1 q1)
variable{g:Int->Int->Int}
theorem opI{C:Int->Int->Prop}
  (rule:∀(i j:Int) (t u:Tok) (s:Shared) (Q:Value->Shared->Prop) (E:Value->Shared->Prop),C i j->Q (.int (g i j) s.toks) { s with toks:=s.toks+1 }->aN (model X.prog X.w) X.A (f (.int i t) (.int j u)) Q E s):
  OpR X f (rI C λi j=>.int (g i j)):=by
 intro pins s σ H x y v u Q I rx ry h;obtain⟨i,j,rfl,rfl,hc,q⟩:=h;obtain⟨t,rfl⟩:=rx;obtain⟨t',rfl⟩:=ry;exact rule i j t t' s _ _ hc ⟨.int _,H,I.tok _,⟨_,rfl⟩,q⟩
theorem NG
  (rule:∀(i j:Int) (t u:Tok) (s:Shared) (Q:Value->Shared->Prop) (E:Value->Shared->Prop),Q (.int (g i j) s.toks) { s with toks:=s.toks+1 }->aN (model X.prog X.w) X.A (f (.int i t) (.int j u)) Q E s):
  OpR X f (rI0 λi j=>.int (g i j)):=by
 intro pins s σ H x y v u Q I rx ry h;obtain⟨i,j,rfl,rfl,q⟩:=h;obtain⟨t,rfl⟩:=rx;obtain⟨t',rfl⟩:=ry;exact rule i j t t' s _ _ ⟨.int _,H,I.tok _,⟨_,rfl⟩,q⟩
theorem GU{g:Int->Int->Bool}
  (rule:∀(i j:Int) (t u:Tok) (s:Shared) (Q:Value->Shared->Prop) (E:Value->Shared->Prop),Q (.bool (g i j)) s->aN (model X.prog X.w) X.A (f (.int i t) (.int j u)) Q E s):
  OpR X f (rI0 λi j=>.bl (g i j)):=by
 intro pins s σ H x y v u Q I rx ry h;obtain⟨i,j,rfl,rfl,q⟩:=h;obtain⟨t,rfl⟩:=rx;obtain⟨t',rfl⟩:=ry;exact rule i j t t' s _ _ ⟨.bl _,H,I,rfl,q⟩
def My(i j:Int):Prop:=0<j/\j<1073741824
def MY(i j:Int):Prop:=0<=j/\j<=1000000/\i.natAbs<2^64
def GT(i j:Int):Prop:=(-(2^64)<i/\i<2^64)\/(-(2^64)<j/\j<2^64)
theorem GT.ok{i j:Int}(h:GT i j):IntMulOk i j:=by
 rcases h with⟨h1,h2⟩|⟨h1,h2⟩
 .exact .of_left (intBits_le_64 h1 h2)
 .exact .of_right (intBits_le_64 h1 h2)
theorem JC:OpR X (binaryOp .Add) (rI0 λi j=>.int (i+j)):=NG λ_ _ _ _ _ _ _ q=>add_int q
theorem Mb:OpR X (binaryOp .Sub) (rI0 λi j=>.int (i-j)):=NG λ_ _ _ _ _ _ _ q=>sub_int q
theorem Lk:OpR X (binaryOp .Mult) (rI GT λi j=>.int (i*j)):=opI λ_ _ _ _ _ _ _ hc q=>mul_int q hc.ok
theorem GH:OpR X (binaryOp .FloorDiv) (rI My λi j=>.int (i/j)):=opI λi j _ _ _ _ _ hc q=>by
 have h1:=hc.1;have h2:=hc.2;exact floordiv_int (by omega) (by rw[Int.fdiv_eq_ediv_of_nonneg i (by omega)];omega) (.inl (PyProof.noPylong_small (by omega)))
theorem Lz:OpR X (binaryOp .Mod) (rI (λ_ j=>0<j) λi j=>.int (i%j)):=opI λi j _ _ _ _ _ hc q=>by
 exact mod_int' (by omega) (by rw[Int.fmod_eq_emod_of_nonneg i (by omega)];omega)
theorem Lr:OpR X (binaryOp .Pow) (rI MY λi j=>.int (i^j.toNat)):=opI λ_ _ _ _ _ _ _ hc q=>pow_int_small hc.1 hc.2.1 hc.2.2 q
theorem unI{f:Value->Sem Value}{g:Int->Int}
  (rule:∀(i:Int) (t:Tok) (s:Shared) (Q:Value->Shared->Prop) (E:Value->Shared->Prop),Q (.int (g i) s.toks) { s with toks:=s.toks+1 }->aN (model X.prog X.w) X.A (f (.int i t)) Q E s):
  UnR X f (rU λi=>.int (g i)):=by
 intro pins s σ H x v Q I rx h;obtain⟨i,rfl,q⟩:=h;obtain⟨t,rfl⟩:=rx;exact rule i t s _ _ ⟨.int _,H,I.tok _,⟨_,rfl⟩,q⟩
theorem LG:UnR X (unaryOp .USub) (rU λi=>.int (-i)):=unI λ_ _ _ _ _ q=>neg_int q
end
section
variable {X:Cx}{a b c:Expr}{ta tb tc:TE}{pos:Pos}
theorem O6:OpR X (compareOp .Lt) (rI0 λi j=>.bl (decide (i<j))):=GU λ_ _ _ _ _ _ _ q=>lt_int q
theorem MM:OpR X (compareOp .LtE) (rI0 λi j=>.bl (decide (i<=j))):=GU λ_ _ _ _ _ _ _ q=>le_int q
theorem NQ:OpR X (compareOp .Gt) (rI0 λi j=>.bl (decide (j<i))):=GU λ_ _ _ _ _ _ _ q=>gt_int q
theorem OS:OpR X (compareOp .GtE) (rI0 λi j=>.bl (decide (j<=i))):=GU λ_ _ _ _ _ _ _ q=>ge_int q
variable{r:R2}
theorem OpR.or{f:Value->Value->Sem Value}{r':R2}(h:OpR X f r)(h':OpR X f r'):OpR X f (λx y H Q=>r x y H Q\/r' x y H Q):=by
 intro pins s σ H x y v u Q I rx ry q;rcases q with q|q
 .exact h _ s σ H x y v u Q I rx ry q
 .exact h' _ s σ H x y v u Q I rx ry q
variable{op:CmpOp}
theorem Ia(ho:OpR X (compareOp op) r)(ha:PE X a ta)(hb:PE X b tb)(hm:behindInMarks op b=false):PE X (.Compare a [op] [b] pos) (tOp r ta tb):=by
 intro pins s σ H Q I h;exact wpAny_Compare1 (LC ha hb I h λv u s2 x y H2 I2 rx ry q=>ho _ s2 σ H2 x y v u Q I2 rx ry q) hm
def Im(t:TE):TT:=λσ H Q=>t σ H λx H'=>∃k,x=.bl k/\Q k H'
theorem Ga(ho:OpR X (compareOp op) r)(ha:PE X a ta)(hb:PE X b tb)(hm:behindInMarks op b=false):PT X (.Compare a [op] [b] pos) (Im (tOp r ta tb)):=by
 intro pins s σ H Q I h
 refine wpAny_isTrue_Compare1 (thn (ha _ s σ H _ I h) λv s1 ⟨x,H1,I1,r1,q1⟩=>thn (hb _ s1 σ H1 _ I1 q1) λu s2 ⟨y,H2,I2,r2,q2⟩=>
  thn (ho _ s2 σ H2 x y v u _ I2 r1 r2 q2) λc s3 ⟨z,H3,I3,r3,k,e,q3⟩ =>?_) hm
 subst e;cases r3;exact jx ⟨H3,I3,q3⟩
theorem rF:(sizeLine:Nat)<2^63:=by decide
theorem vals1(r:cK [x] us):∃u,us=[u]/\RelV x u:=by
 cases r with
 |cons r1 r2=>cases r2;exact⟨_,rfl,r1⟩
theorem vals2{y:V}(r:cK [x,y] us):∃u w',us=[u,w']/\RelV x u/\RelV y w':=by
 cases r with
 | cons r1 r2=>
   cases r2 with
   |cons r3 r4=>cases r4;exact⟨_,_,rfl,r1,r3⟩
theorem By(hc:X.calm=true):iu X (.builtin "max") (fun xs H Q=>∃ i j,xs=[.int i,.int j]/\Q (.int (if j>i then j else i)) H):=by
 intro pins s σ H xs us Q I r h;obtain⟨i,j,rfl,q⟩:=h;obtain⟨u,w',rfl,⟨t,rfl⟩,⟨t',rfl⟩⟩:=vals2 r;refine max_two_ints (I.ok.hd hc) λh' tk k=>⟨_,H,I.kept k,?_,q⟩;by_cases hj:j>i
 .rw[if_pos hj,if_pos hj];exact⟨_,rfl⟩
 .rw[if_neg hj,if_neg hj];exact⟨_,rfl⟩
theorem BX(hc:X.calm=true):iu X (.builtin "min") (fun xs H Q=>∃ i j,xs=[.int i,.int j]/\Q (.int (if j<i then j else i)) H):=by
 intro pins s σ H xs us Q I r h;obtain⟨i,j,rfl,q⟩:=h;obtain⟨u,w',rfl,⟨t,rfl⟩,⟨t',rfl⟩⟩:=vals2 r;refine min_two_ints (I.ok.hd hc) λh' tk k=>⟨_,H,I.kept k,?_,q⟩;by_cases hj:j<i
 .rw[if_pos hj,if_pos hj];exact⟨_,rfl⟩
 .rw[if_neg hj,if_neg hj];exact⟨_,rfl⟩
theorem BH:iu X (.type "int") (fun xs H Q=>(∃ i,xs=[.int i]/\Q (.int i) H) \/ ∃ k,xs=[.bl k]/\Q (.int (if k then 1 else 0)) H):=by
 intro pins s σ H xs us Q I r h;rcases h with⟨i,rfl,q⟩|⟨k,rfl,q⟩
 .obtain⟨u,rfl,t,rfl⟩:=vals1 r
  exact call_int_int ⟨.int i,H,I,⟨_,rfl⟩,q⟩
 .obtain⟨u,rfl,r1⟩:=vals1 r
  cases r1;exact call_int_bool ⟨.int _,H,I.tok _,⟨_,rfl⟩,q⟩
end
section
variable {prog:Program}{w:World}{A:Around}{E:Value->Shared->Prop}{s:Shared}{K:aj}{x dx C f:Addr}{mA:Str->Option Value}{name:Str}{v:Value}
end
theorem uc.some_of{v:V}{o:Option Value}(r:uc (some v) o):∃u,o=some u/\RelV v u:=by
 cases o with
 |none=>exact(r).elim
 |some u=>exact⟨u,rfl,r⟩
section
variable {P:Program}{w:World}{H H':Hp}{h h':Heap}{a C dx:Addr}{fs QA:List (Str×V)}
end
section
variable {X:Cx}{pins:List (Addr×Obj)}{σ:St}{H:Hp}{s:Shared}{a C dx:Addr}{fs:List (Str×V)}{f:Str}{v:V}{A:Around}{E:Value->Shared->Prop}
end
section
variable {X:Cx}{o e value:Expr}{f:Str}{pos pos' UC:Pos}{ta tv:TE}
end
section
variable {X:Cx}{pins:List (Addr×Obj)}{σ:St}{H:Hp}{s:Shared}{A:Around}{E:Value->Shared->Prop}{Q:Value->Shared->Prop}{c:Value}{b:Bool}
end
structure kc(k:Nat)(A:Around):Prop where
 hd:A.handled=none
 dp:A.depth+3*k+5<recursionLimit
 un:A.units+16*k+200<cLine
 gu:A.guards=some []
theorem kc.mono{j k:Nat}(r:kc k A)(h:j<=k):kc j A:=⟨r.hd,by have:=r.dp;omega,by have:=r.un;omega,r.gu⟩
theorem kc.deeper{k:Nat}(r:kc (k+1) A)(env:Env):kc k (A.deeper env):=
 ⟨r.hd,by have:=r.dp;show A.depth+1+3*k+5<_;omega,by have:=r.un;show A.units+3+16*k+200<_;omega,r.gu⟩
theorem kc.depth{k:Nat}(r:kc k A):A.depth<recursionLimit:=by have:=r.dp;omega
theorem kc.units{k:Nat}(r:kc k A):A.units+64<cLine:=by have:=r.un;omega
def DZ:TA:=λ_ H Q=>Q [] H
def AI(ta:TE)(tr:TA):TA:=λσ H Q=>ta σ H λx H1=>tr σ H1 λxs H2=>Q (x::xs) H2
section
variable {X:Cx}{e:Expr}{es:List Expr}{te:TE}{t:TA}{pos:Pos}
theorem yS:PA X [] DZ:=λ_ _ _ _ H Q I h=>gg ⟨[],H,I,.nil,h⟩
theorem mL(ha:PE X e te)(hr:PA X es t)(hs:autoParam (starEach (e::es) X.env=(false,eval e X.env)::starEach es X.env) au1._auto_1):PA X (e::es) (AI te t):=by
 intro pos pins s σ H Q I h;rw[hs];refine d6 (thn (ha _ s σ H _ I h) λu s1 ⟨x,H1,I1,r1,q1⟩=>?_);exact thn (hr _ _ s1 σ H1 _ I1 q1) λus s2 ⟨xs,H2,I2,r2,q2⟩=>⟨_,H2,I2,.cons r1 r2,q2⟩
def Nh(t:TA):TE:=λσ H Q=>t σ H λxs H1=>xs.length<=sizeLine /\ ∀p,H1 p=none->Q (.ref p) (upd H1 p (.tup xs))
def M3(t:TA):TE:=λσ H Q=>t σ H λxs H1=>xs.length<=sizeLine /\ ∀p,H1 p=none->Q (.ref p) (upd H1 p (.lst xs))
theorem L5{x1}(h:PA X es t):PE X (.Tuple es x1 pos) (Nh t):=by
 intro pins s σ H Q I hq;refine wpAny_Tuple_spliced (thn (h _ _ s σ H _ I hq) λus s1 ⟨xs,H1,I1,r,z,q⟩=>⟨by rw[<-r.length];omega,?_⟩);have hf:=I1.hok.fresh (ao _);refine⟨.ref _,_,I1.laid (λb u e=>af _ e) (ao _) ?_,rfl,q _ hf⟩;exact⟨z,us,r,⟨_,ay _ rfl,rfl,_,rfl⟩,_,ay _ rfl,rfl⟩
theorem KW(h:PA X es t):PE X (.List es pos) (M3 t):=by
 intro pins s σ H Q I hq;refine wpAny_List_spliced (thn (h _ _ s σ H _ I hq) λus s1 ⟨xs,H1,I1,r,z,q⟩=>⟨by rw[<-r.length];omega,?_⟩);have hf:=I1.hok.fresh (ao _);refine⟨.ref _,_,I1.laid (λb u e=>af _ e) (ao _) ?_,rfl,q _ hf⟩;exact⟨z,us,0,r,ay _ rfl⟩
end
abbrev Sp:=List V->Hp->VK->XK->Prop
abbrev CXT:=List Env->Hp->Shared->XK->Value->Shared->Prop
structure Cc(P:Program)(w:World)(K:aj)(mg:Str->Option Value)(base:Heap)(A:Around)(outer:List Env)(s:Shared)(H:Hp):Prop where
 frames:A.frames=some outer
 mod:Mod K mg base
 bs:∀b o,base.get? b=some o->s.heap.get? b=some o/\H b=none
 bsz:base.objs.size<=s.heap.objs.size
 funs:s.heap.FunFrames base outer
 frf:∀b∈frs outer,H b=none
 hok:HOk P w H s.heap
 bare:AllBare s.gens
def CE(outer:List Env)(P:Program)(w:World)(H:Hp)(s:Shared)(Q:VK)(u:Value)(s':Shared):Prop:=
 ∃v H',s'.os=s.os/\AllBare s'.gens/\Un (frs outer) [] H H' s.heap s'.heap/\HOk P w H' s'.heap/\RelV v u/\Q v H'
def CR(CX:CXT)(outer:List Env)(P:Program)(w:World)(H:Hp)(s:Shared)(Q:VK)(E:XK)(r:Result)(s':Shared):Prop:=
 match r with
 |.ok (.ret u)=>CE outer P w H s Q u s'
 |.ok _=>False
 |.error e=>CX outer H s E e s'
structure iY(P:Program)(w:World)(K:aj)(mg:Str->Option Value)(base:Heap)(CX:CXT)(k:Nat)(f:Addr)(fd:FuncData)(ps:List Str)(sp:Sp):Prop where
 len:∀vs H Q E,sp vs H Q E->vs.length=ps.length
 run:∀(A:Around) (outer:List Env) (s:Shared) (H:Hp) (args:Args) (us:List Value) (vs:List V) (Q:VK) (E:XK),kc k A->Cc P w K mg base A outer s H->BindsTo s fd args (ps.zip us)->cK vs us->sp vs H Q E ->
  pL (model P w) A (.call (.ref f) args) (CR CX outer P w H s Q E) s
variable{f:Addr}{mg:Str->Option Value}{base:Heap}{CX:CXT}{fd:FuncData}{ps:List Str}
theorem iY.imp{k:Nat}{sp TC:Sp}(F:iY P w K mg base CX k f fd ps sp)
  (h:∀vs H Q E,TC vs H Q E->sp vs H Q E):iY P w K mg base CX k f fd ps TC:=
 ⟨λvs H Q E q=>F.len vs H Q E (h _ _ _ _ q),λA outer s H args us vs Q E hr he hb hv hs=>F.run A _ s H _ us vs Q E hr he hb hv (h _ _ _ _ hs)⟩
section
variable {X:Cx}{pins:List (Addr×Obj)}{σ:St}{H:Hp}{s s':Shared}
theorem Inv.env0(I:Inv X pins σ H s):Cc X.prog X.w X.K X.mg X.base X.A X.stack s H:=
 ⟨I.ok.frames,I.ok.mod,I.bs,aH I.ok.bsz I.sz,I.stack,I.stkFree,I.hok,I.bare⟩
theorem Inv.after{Q:VK}(I:Inv X pins σ H s)(h:CE X.stack X.prog X.w H s Q u s'):EP X pins σ Q u s':=by
 obtain⟨v,H',os,bare,un,hok,r,q⟩:=h;obtain⟨hh,g,d,t,QL⟩:=s';obtain rfl:QL=s.os:=os;exact⟨v,H',I.call un hok bare (λb z=>absurd z (by simp)),r,q⟩
end
def AE(sp:Sp)(Xy:List V)(E:XK)(t:TA):TE:=λσ H Q=>t σ H λvs H1=>sp (vs++Xy) H1 Q E
def Binds(K:aj)(fd:FuncData)(ps:List Str)(ds:List Value):Prop:=
 ∀(s:Shared) (us:List Value),K.In s.heap->(us++ds).length=ps.length->BindsTo s fd ⟨us,[]⟩ (ps.zip (us++ds))
theorem Binds.all(h:∀us:List Value,us.length=ps.length->bindArgs fd ⟨us,[]⟩=pure (ps.zip us)):Binds K fd ps []:=λs us _ hl=>by
 rw[bP]at hl ⊢;exact .of_eq (h us hl)
def rJ(CX:CXT)(X:Cx)(E:XK):Prop:= ∀(pins:List (Addr×Obj)) (σ:St) (H:Hp) (s:Shared) (e:Value) (s':Shared),Inv X pins σ H s->CX X.stack H s E e s'->X.xe e s'
section
variable {X:Cx}{CX:CXT}{k:Nat}{f C:Addr}{fd:FuncData}{ps:List Str}{sp:Sp}{Xy:List V}{ds:List Value}{E:XK}{x m:Str}{p pos apos:Pos}{e o:Expr}{es:List Expr}{ta:TE}{t:TA}
theorem qQ{Q:VK}{vs:List V}(F:iY X.prog X.w X.K X.mg X.base CX k f fd ps sp)(hr:kc k X.A)(hb:Binds X.K fd ps ds)(hd:cK Xy ds)(hx:rJ CX X E)
  (I:Inv X pins σ H s) (r:cK vs us) (h:sp (vs++Xy) H Q E):aN (model X.prog X.w) X.A (call (.ref f) us) (EP X pins σ Q) X.xe s:=by
 have r2:=r.append hd;have hl:(us++ds).length=ps.length:=by rw[<-r2.length];exact F.len _ _ _ _ h
 refine Fw (ij (F.run _ _ s H _ _ _ Q E hr I.env0 (hb s us I.kIn hl) r2 h) λr s' hq=>?_);cases r with
 |error e=>exact hx _ σ H s e s' I hq
 | ok fl=>
   cases fl with
   |ret u=>exact I.after hq
   |next=>exact bK hq
   |brk=>exact bK hq
   |cont=>exact bK hq
theorem vH(F:iY X.prog X.w X.K X.mg X.base CX k f fd ps sp)(hr:kc k X.A)(hg:Gl X x)(hm:X.mg x=some (.ref f))(hk:cg X.K (.ref f)=true)(hb:Binds X.K fd ps ds)(hd:cK Xy ds)(hx:rJ CX X E)
  (ha:PA X (e::es) t) (WK:autoParam ((x==("__debug__":Str))=false) au2._auto_1) (he:autoParam (starEach (e::es) X.env=(false,eval e X.env)::starEach es X.env) au1._auto_1) (ZO:autoParam ((backTo pos (starEach es X.env)).any (·.1)=false) au1._auto_1) :
  PE X (.Call (.Name x p) (e::es) [] pos) (AE sp Xy E t):=by
 intro pins s σ H Q I h;refine dE (je I hg hm ?_ WK);refine jY I.ok.mod.kin hk (thn (ha _ _ s σ H _ I h) λus s1 ⟨vs,H1,I1,r,q⟩=>⟨I1.kIn,?_⟩) he ZO;exact qQ F hr hb hd hx I1 r q
theorem EZ(F:iY X.prog X.w X.K X.mg X.base CX k f fd ps sp)(hr:kc k X.A)(hg:Gl X x)(hm:X.mg x=some (.ref f))(hk:cg X.K (.ref f)=true)(hb:Binds X.K fd ps ds)(hd:cK Xy ds)(hx:rJ CX X E)
  (WK:autoParam ((x==("__debug__":Str))=false) au2._auto_1):PE X (.Call (.Name x p) [] [] pos) (AE sp Xy E DZ):=by
 intro pins s σ H Q I h;refine dE (je I hg hm ?_ WK);exact Cu I.kIn hk (qQ F hr hb hd hx I .nil h)
end
section
variable {X:Cx}{CX:CXT}{k:Nat}{f C:Addr}{fd:FuncData}{ps ks:List Str}{sp:Sp}{E:XK}{x m:Str}{p pos apos kpos:Pos}{e o:Expr}{es:List Expr}{Vx:List Keyword}{te ta:TE}{t tk:TA}{nm:Option Str}
variable {g:List Value->List Value->List Value}{gV:List V->List V->List V}
end
structure bw(N P:List Str)(sc:Scope):Prop where
 kind:sc.kind=.function
 co:sc.isCoroutine=false
 gen:sc.isGenerator=false
 nd:N.Nodup
 pre:N.take P.length=P
 par:∀x∈P,sc.names.lookup x=some .local\/sc.names.lookup x=some .cell
 nofree:∀y∈sc.names,y.2≠.free
theorem uk{kindOf:Str->Option NameKind}{x:Str}:∀{binds:List (Str×Value)}{m:Str->Option Value},(∀v,(x,v)∉binds)->bindL kindOf binds m x=m x
 |[],_,_=>rfl
 | (n,v)::r,m,h=>by
   unfold bindL;rw[uk λw hw=>h w (av _ hw)]
   split<;>grind
theorem uw{kindOf:Str->Option NameKind}{x:Str}:∀{binds:List (Str×Value)}{m:Str->Option Value},(∀v,(x,v)∉binds)->bindC kindOf binds m x=m x
 |[],_,_=>rfl
 | (n,v)::r,m,h=>by
   unfold bindC;rw[uw λw hw=>h w (av _ hw)]
   split<;>grind
theorem pj{kindOf:Str->Option NameKind}{x:Str}{v:Value}:∀{P:List Str}{vs:List Value}{i:Nat}{m:Str->Option Value},P.Nodup->P[i]?=some x->vs[i]?=some v->kindOf x=some .local ->
  bindL kindOf (P.zip vs) m x=some v
 |[],_,_,_,_,h,_,_=>by simp at h
 |_::_,[],_,_,_,_,h,_=>by simp at h
 | p::P,w::vs,0,m,nd,h1,h2,hk=>by
   simp at h1 h2;subst h1;subst h2;show bindL _ ((p,w)::P.zip vs) m p=_;unfold bindL;rw[uk λv hv=>(fi.mp nd).1 (jO hv).1,if_pos hk];simp
 | p::P,w::vs,i+1,m,nd,h1,h2,hk=>by
   unfold bindL;exact pj (fi.mp nd).2 (by simpa using h1) (by simpa using h2) hk
theorem pH{kindOf:Str->Option NameKind}{x:Str}{v:Value}:∀{P:List Str}{vs:List Value}{i:Nat}{m:Str->Option Value},P.Nodup->P[i]?=some x->vs[i]?=some v->kindOf x≠some .local ->
  bindC kindOf (P.zip vs) m x=some v
 |[],_,_,_,_,h,_,_=>by simp at h
 |_::_,[],_,_,_,_,h,_=>by simp at h
 | p::P,w::vs,0,m,nd,h1,h2,hk=>by
   simp at h1 h2;subst h1;subst h2;show bindC _ ((p,w)::P.zip vs) m p=_;unfold bindC;rw[uw λv hv=>(fi.mp nd).1 (jO hv).1,if_neg hk];simp
 | p::P,w::vs,i+1,m,nd,h1,h2,hk=>by
   unfold bindC;exact pH (fi.mp nd).2 (by simpa using h1) (by simpa using h2) hk
def start(N:List Str)(vs:List V):St:=vs.map some++cp (N.length-vs.length) none
def rN(CX:CXT)(P:Program)(w:World)(K:aj)(mg:Str->Option Value)(base:Heap)(N:List Str)(qual:Str)(scope:Scope)(f:Addr)(cd:Value)(A:Around)(outer:List Env)(s:Shared)(H:Hp)(E:XK):Cx where
 prog:=P
 w:=w
 K:=K
 mg:=mg
 base:=base
 A:=A.deeper (envOfC qual scope s.heap.objs.size f cd)
 N:=N
 s₀:=s
 H₀:=H
 env:=envOfC qual scope s.heap.objs.size f cd
 outer:=outer
 stack:=envOfC qual scope s.heap.objs.size f cd::outer
 ex:= []
 calm:=true
 fn:=λ_=>true
 pn:= []
 xe:=λe s'=>aN (model P w) (A.deeper (envOfC qual scope s.heap.objs.size f cd)) (leaving (envOfC qual scope s.heap.objs.size f cd) e) (λ_ s''=>CX outer H s E e s'') (λe' s''=>CX outer H s E e' s'') s'
theorem jo{sc:Scope}{x:Str}(h:sc.names.lookup x=some .cell):∃c,(cellsFrom n sc.names []).lookup x=some c:=by
 have q:=iD _ n [] (.inl h);exact cq.mp q
variable{qual:Str}{scope:Scope}
theorem BR{N:List Str}{cd:Value}{outer:List Env}{s1:Shared}{E:XK}{vs:List V}
  (S:bw N ps scope) (hd:A.handled=none) (e0:Cc P w K mg base A outer s H) (hl:vs.length=ps.length) (r:cK vs us)
  (x:InCallC s s.heap.objs.size (bindL (envOfC qual scope s.heap.objs.size f cd).kindOf (ps.zip us) λ_=>none) (cellsFrom (s.heap.objs.size+1) scope.names []) (bindC (envOfC qual scope s.heap.objs.size f cd).kindOf (ps.zip us) λ_=>none) s1):
  Inv (rN CX P w K mg base N qual scope f cd A outer s H E) [] (start N vs) H s1:=by
 have ZO:ps.length<=N.length:=by have:=congrArg gK S.pre;grind
 obtain⟨h1,tk,rfl,hk⟩:=x.done;have noA:∀b,b∉(rN CX P w K mg base N qual scope f cd A outer s H E).ex:=λb z=>absurd (show b∈[] from z) (by simp)
 refine⟨⟨e0.mod,S.kind,rfl,rfl,ao _,λy z c h1 h2 =>?_,λy hy =>?_,λy c _ h =>?_,λ_=>hd,Cv e0.frames,.inr ⟨rfl,rfl⟩,λb z=>absurd z (noA b),e0.bs,e0.bsz,λb _ _=>noA b,λb z=>absurd z (noA b),e0.funs,e0.frf⟩,
  rfl,e0.bare,Un.kept hk,⟨_,x.toInCall.ns,λi y v h1 h2 h3 =>?_⟩,λy c h=>⟨_,x.cell y c h⟩,e0.hok.fresh (ao _),λy c h =>?_,λp hp=>absurd (show p∈[] from hp) (by simp),e0.hok.kept hk,?_⟩
 .exact name_of_addr x.apart (bN h1) (bN h2)
 .rcases hy with hy|hy
  .exact jo hy
  .exact absurd rfl (S.nofree _ (bN hy))
 .exact aE (x.above y c (bN h))
 .have hi:i<vs.length:=by
   unfold start at h2;by_cases hi:i<vs.length
   .omega
   .rw[br (by simpa using hi)]at h2
    rw[iE]at h2<;>simp_all
  have ha:vs[i]?=some v:=by
   unfold start at h2;rw[aS _]at h2<;>simp_all
  obtain⟨u,hu,rv⟩:=r.get ha;have hp:ps[i]?=some y:=by
   rw[<-S.pre,List.getElem?_take_of_lt (by omega)];exact h1
  have Wb:ps.Nodup:=by rw[<-S.pre];exact S.nd.sublist (tF _ _)
  refine⟨u,rv,?_⟩;rcases S.par y (bG hp) with k|k
  .exact .inl ⟨k,pj Wb hp hu k⟩
  .obtain⟨c,e⟩:=jo k
   refine .inr ⟨.inl k,c,e,?_⟩;have q:=x.cell y c e;rw[pH Wb hp hu (by show scope.names.lookup y≠_;rw[k];decide)]at q;omega
 .exact e0.hok.fresh (aE (x.above y c (bN h)))
 .unfold start
  show _=N.length
  grind
theorem xM{k:Nat}{name:Str}{params:Arguments}{body:List Stmt}{dV kV doc pm cdv ct oc:Value}{an od:Option Addr}
  {osl:Array (Option Value)}{N:List Str}{sp:Sp} (lk:K.lookup f=some ⟨oc,od,.func (cW name qual params body scope dV kV doc pm an cdv ct),osl⟩) (Zs:gz K cdv qual=true) (S:bw N ps scope)
  (len:∀vs H Q E,sp vs H Q E->vs.length=ps.length)
  (Zn: ∀(A:Around) (outer:List Env) (s:Shared) (H:Hp) (vs:List V) (Q:VK) (E:XK),kc k (A.deeper (envOfC qual scope s.heap.objs.size f cdv))->sp vs H Q E ->
   ∃t,PSs (rN CX P w K mg base N qual scope f cdv A outer s H E) body t/\t { nx:=λ_ H'=>Q .non H',rt:=Q } (start N vs) H):
  iY P w K mg base CX (k+1) f (cW name qual params body scope dV kV doc pm an cdv ct) ps sp:=by
 refine⟨len,λA outer s H args us vs Q E hr e0 hb r Zh=>?_⟩;have hl:=len _ _ _ _ Zh;have KX:=e0.mod.kin.keeps λb o e=>(e0.bs b o e).1;have lim:=e0.mod.nolimit.keeps λb o e=>(e0.bs b o e).1;have Wt:∀y∈ps.zip us,scope.names.lookup y.1=some _\/(scope.names.lookup y.1=some _/\((cellsFrom (s.heap.objs.size+1) _ []).lookup y.1).isSome=true):=fun⟨n,v⟩ hy=>by
  rcases S.par n (jO hy).1 with q|q
  .exact .inl q
  .exact .inr ⟨q,iD _ _ _ (.inl q)⟩
 refine codeAny_call_function hr.depth (KX _ _ lk) rfl S.co S.gen rfl (PySem.W.codeRec_of KX Zs) (hb _ _ _ _ ?_);refine wpAny_newFunctionEnv_cells S.kind Wt λenv he s1 x=>?_;subst he;refine⟨lim.keeps x.toInCall.keep,codeAny_func ?_⟩;obtain⟨t,ht,hq⟩:=Zn A _ s H vs Q E (hr.deeper _) Zh;have I:Inv (rN CX P w K mg _ N _ _ f _ A _ s H E) [] _ H s1:=BR S hr.hd e0 hl r x;refine bE (ht [] s1 _ H _ I hq) (λfl s' hs=>?_) λe s' hs=>hs;have fin:∀{Y3:St}{H':Hp}{v:V}{u:Value},Inv (rN CX P w K mg base N qual scope f cdv A _ s H E) [] Y3 H' s'->RelV v u->Q v H'->CE outer P w H s Q u s':=
  λ{Y3 H' v u} J rv q=>⟨v,H',J.os,J.bare,J.base,J.hok,rv,q⟩
 cases fl with
 | ret u=>
   obtain⟨v,Y3,H',J,rv,q⟩:=hs;exact fin J rv q
 | next=>
   obtain⟨Y3,H',J,q⟩:=hs;exact fin (v:=V.non) J rfl q
 | brk=>
   obtain⟨_,_,_,q⟩:=hs<;>simp_all
 | cont=>
   obtain⟨_,_,_,q⟩:=hs<;>simp_all
section
variable {X:Cx}{x:Str}{p pos:Pos}{e:Expr}{es:List Expr}{t:TA}{id T:String}{r:List V->Hp->VK->Prop}
def tCB(r:List V->Hp->VK->Prop)(t:TA):TE:=λσ H Q=>t σ H λvs H1=>r vs H1 Q
theorem lL(hc:iu X (.builtin id) r)(hg:Gl X x)(hm:X.mg x=none)(hv:bootBuiltins x=some (.builtin id))(ha:PA X (e::es) t)(hn:autoParam (x≠"__name__") au2._auto_1)(WK:autoParam ((x==("__debug__":Str))=false) au2._auto_1)
  (he:autoParam (starEach (e::es) X.env=(false,eval e X.env)::starEach es X.env) au1._auto_1) (ZO:autoParam ((backTo pos (starEach es X.env)).any (·.1)=false) au1._auto_1):PE X (.Call (.Name x p) (e::es) [] pos) (tCB r t):=by
 intro pins s σ H Q I h;refine dE (kG I hg hm hv ?_ hn WK);exact PyProof.Rows.callWith_builtin1 (thn (ha _ _ s σ H _ I h) λus s1 ⟨vs,H1,I1,r1,q1⟩=>hc _ s1 σ H1 vs us Q I1 r1 q1) he ZO
theorem mQ(hc:iu X (.type T) r)(hg:Gl X x)(hm:X.mg x=none)(hv:bootBuiltins x=some (.type T))(ha:PA X (e::es) t)(hn:autoParam (x≠"__name__") au2._auto_1)(WK:autoParam ((x==("__debug__":Str))=false) au2._auto_1)
  (he:autoParam (starEach (e::es) X.env=(false,eval e X.env)::starEach es X.env) au1._auto_1) (ZO:autoParam ((backTo pos (starEach es X.env)).any (·.1)=false) au1._auto_1):PE X (.Call (.Name x p) (e::es) [] pos) (tCB r t):=by
 intro pins s σ H Q I h;refine dE (kG I hg hm hv ?_ hn WK);exact dm (thn (ha _ _ s σ H _ I h) λus s1 ⟨vs,H1,I1,r1,q1⟩=>hc _ s1 σ H1 vs us Q I1 r1 q1) he ZO
end
end _L
namespace HT
open PySem PyProof.Rows
def lexLt:List Int->List Int->Bool
 |[],[]=>false
 |[],_::_=>true
 |_::_,[]=>false
 |x::xs,y::ys=>if x=y then lexLt xs ys else decide (x<y)
theorem lexLt_cons(x y:Int)(xs ys:List Int):lexLt (x::xs) (y::ys)=if x=y then lexLt xs ys else decide (x<y):=rfl
section
open PySem.SeqAt
open PySem.AutoSeq1 (wpAny_loadPart')
open PySem.MeetsSeq PySem.MeetsSeq2 PySem.MeetsSeq3
end
section
variable {prog:Program}{w:World}{A:Around}{E:Value->Shared->Prop}{s:Shared}
theorem cat_tup{t b:Addr}{vs ws:List Value}{Q:Value->Shared->Prop}(ht:IsTup s.heap t vs.toArray)(hb:IsTup s.heap b ws.toArray)(hv:vs≠[])
  (h1:ws=[]->Q (.ref t) s) (h2:ws ≠ []->Q (.ref s.heap.objs.size) { s with heap:=s.heap.push { cls := .type "tuple",data := .seq (vs++ws).toArray } })
  (ZG:vs.length+ws.length<=sizeLine):aN (model prog w) A (binaryOp .Add (.ref t) (.ref b)) Q E s:=by
 obtain⟨⟨cls,dd,data,sl⟩,ho,hc,n,hd⟩:=id ht;obtain⟨⟨Vd,Qx,data2,QM⟩,Yv,Yj,n2,hd2⟩:=id hb;subst hc hd Yj hd2;have e:vs.toArray++ws.toArray=(vs++ws).toArray:=by simp
 by_cases hw:ws=[]
 .exact concat_meets ⟨_,ho,rfl⟩ ⟨_,Yv,rfl⟩ noFill_tuple_add seq_tuple_add mj kX (kN _ _)
   (tuple_addW1 t b _ _ n n2 dd _ sl _ (by simpa using hv) (by simp[hw])) ⟨ho,Yv,h1 hw⟩
 .refine concat_meets ⟨_,ho,rfl⟩ ⟨_,Yv,rfl⟩ noFill_tuple_add seq_tuple_add mj kX (kN _ _)
   (tuple_addW2 t b _ _ n n2 dd _ sl _ (by simpa using hv) (by simpa using hw) (by omega)) ⟨ho,Yv,?_⟩
  rw[e];exact h2 hw
end
end HT
namespace _L
open PySem PySem.Spec PyProof.Rows
abbrev TO:=St->Hp->(Option Int->Hp->Prop)->Prop
section
variable {X:Cx}{e:Expr}{te:TE}{lo hi:Option Expr}{tl th:TO}{pos p2:Pos}
def Jg(K:aj):R2:=λx y H Q=>∃a b xs ys,x=.ref a/\y=.ref b/\SqT K H a xs/\SqT K H b ys/\xs≠[]/\xs.length+ys.length<=sizeLine /\
 (ys=[]->Q (.ref a) H)/\(ys≠[]->∀p,H p=none->Q (.ref p) (upd H p (.tup (xs++ys))))
theorem cK.nil_iff{xs:List V}{us:List Value}(r:cK xs us):us=[]↔xs=[]:=by
 cases r<;>simp_all
theorem HZ:OpR X (binaryOp .Add) (Jg X.K):=by
 intro pins s σ H x y v u Q I rx ry h;obtain⟨a,b,xs,ys,rfl,rfl,ha,hb,hx,hz,q1,q2⟩:=h;cases rx;cases ry;obtain⟨ZY,r1,p1,_⟩:=I.tuple ha;obtain⟨ZM,r2,p2,_⟩:=I.tuple hb;refine HT.cat_tup p1 p2 (λz=>hx (r1.nil_iff.mp z)) (λz=>⟨.ref a,H,I,rfl,q1 (r2.nil_iff.mp z)⟩) (λz=>?_) (by rw[<-r1.length,<-r2.length];omega);refine⟨.ref _,_,I.laid (λb ob q=>af _ q) (ao _) ?_,rfl,q2 (λw=>z (r2.nil_iff.mpr w)) _ (I.hok.fresh (ao _))⟩;exact⟨by simp_all,_,r1.append r2,AW _ _,_,ay _ rfl,rfl⟩
end
def ixN(n:Nat)(i:Int):Option Nat:=if 0<=i then(if i<n then some i.toNat else none) else if -(n:Int)<=i then some (i+n).toNat else none
def atI{α:Type}(xs:List α)(i:Int):Option α:=(ixN xs.length i).bind λj=>xs[j]?
variable{n:Nat}{i:Int}
theorem Az{j:Nat}(h:ixN n i=some j):seqIndex? i n=some j/\j<n /\ -(n:Int)<=i/\i<n:=by
 unfold ixN at h;by_cases h0:0<=i
 .rw[if_pos h0]at h
  by_cases h1:i<n
  .rw[if_pos h1]at h
   have e:=dD h;exact⟨by rw[seqIndex_of h0 h1,e],by omega,by omega,h1⟩
  simp_all
 .rw[if_neg h0]at h
  by_cases h1: -n<=i
  .rw[if_pos h1]at h
   have e:=dD h;exact⟨by rw[seqIndex_neg (by omega) h1,e],by omega,h1,by omega⟩
  simp_all
theorem vz{α:Type}{xs:List α}{v:α}(h:atI xs i=some v):∃j,seqIndex? i xs.length=some j/\xs[j]?=some v/\j<xs.length /\ -(xs.length:Int)<=i/\i<xs.length:=by
 unfold atI at h;cases e:ixN _ i with
 |none=>rw[e]at h;cases h
 | some j=>
   rw[e]at h;obtain⟨h1,h2,h3,h4⟩:=Az e;exact⟨j,h1,h,h2,h3,h4⟩
def vV(b:Expr):Prop:= ∀o i,subscripted b false o i=operate [o,i] (getItem o i)
def IxR(X:Cx)(r:R2):Prop:=
 ∀(value slice:Expr) (pins:List (Addr×Obj)) (s:Shared) (σ:St) (H:Hp) (x y:V) (v u:Value) (Q:VK),Inv X pins σ H s->RelV x v->RelV y u->r x y H Q ->
  subscripted slice false v u=operate [v,u] (getItem v u)->aN (model X.prog X.w) X.A (subscriptTail value slice v u) (EP X pins σ Q) X.xe s
def MtR(X:Cx)(id:String)(r:V->List V->Hp->VK->Prop):Prop:=
 ∀(pins:List (Addr×Obj)) (s:Shared) (σ:St) (H:Hp) (x:V) (xs:List V) (v:Value) (us:List Value) (Q:VK),Inv X pins σ H s->RelV x v->cK xs us->r x xs H Q ->
  aN (model X.prog X.w) X.A (call (.builtin id) (v::us)) (EP X pins σ Q) X.xe s
section
variable {X:Cx}{a b:Expr}{ta tb:TE}{pos:Pos}
theorem IxR.or{r r':R2}(h:IxR X r)(h':IxR X r'):IxR X (λx y H Q=>r x y H Q\/r' x y H Q):=by
 intro value slice pins s σ H x y v u Q I rx ry q hs;rcases q with q|q
 .exact h _ _ _ s σ H x y v u Q I rx ry q hs
 .exact h' _ _ _ s σ H x y v u Q I rx ry q hs
theorem IQ{r:R2}(hr:IxR X r)(ha:PE X a ta)(hb:PE X b tb)(hs:vV b):PE X (.Subscript a b pos) (tOp r ta tb):=by
 intro pins s σ H Q I h;exact Subscript_ (LC ha hb I h λv u s2 x y H2 I2 rx ry q=>hr a b _ s2 σ H2 x y v u Q I2 rx ry q (hs _ _))
def Oe(K:aj):R2:=λx y H Q=>∃p xs i v,x=.ref p/\y=.int i/\SqL K H p xs/\atI xs i=some v/\Q v H
def NU(K:aj):R2:=λx y H Q=>∃p xs i v,x=.ref p/\y=.int i/\SqT K H p xs/\atI xs i=some v/\Q v H
def OH:R2:=λx y H Q=>∃z i c,x=.str z/\y=.int i/\z.length<=sizeLine/\atI z.cps.toList i=some c/\Q (.str ⟨#[c]⟩) H
theorem Gy:IxR X (Oe X.K):=by
 intro value slice pins s σ H x y v u Q I rx ry h hs;obtain⟨p,xs,i,z,rfl,rfl,hq,he,q⟩:=h;cases rx;obtain⟨t,rfl⟩:=ry;obtain⟨ZY,r,pl,hz⟩:=I.list hq;obtain⟨j,h1,h2,h3,h4,h5⟩:=vz he;obtain⟨w,ew,YZ⟩:=r.get h2;have hl:=r.length;have hn:=rF;have fin:EP X _ σ Q w s:=⟨z,H,I,YZ,q⟩;by_cases h0:0<=i
 .have hj:=by
   rw[seqIndex_of h0 h5]at h1;exact dD h1
  exact item_listR pl.isList h0 (by omega) (by rw[hj];simpa using ew) fin hs
 .have hj:(i+ZY.toArray.size).toNat=j:=by
   rw[seqIndex_neg (by omega) h4]at h1<;>simp_all
  exact subscriptTail_builtinR pl.isList.typeIs slot_list_getitem.lookup
   (wpAny_getItem_list_neg pl.isList (by omega) (by simp_all) (by omega) (by rw[hj];simpa using ew) ⟨rfl,fin⟩) hs
theorem KD:IxR X (NU X.K):=by
 intro value slice pins s σ H x y v u Q I rx ry h hs;obtain⟨p,xs,i,z,rfl,rfl,hq,he,q⟩:=h;cases rx;obtain⟨t,rfl⟩:=ry;obtain⟨ZY,r,pl,hz⟩:=I.tuple hq;obtain⟨j,h1,h2,h3,h4,h5⟩:=vz he;obtain⟨w,ew,YZ⟩:=r.get h2;have hl:=r.length;have hn:=rF;have fin:EP X _ σ Q w s:=⟨z,H,I,YZ,q⟩;exact subscriptTail_builtinR pl.typeIs slot_tuple_getitem.lookup
  (getItem_tuple (j:=j) pl (by omega) (by omega) (by simp_all) (by simpa using ew) ⟨rfl,fin⟩) hs
theorem Lq:IxR X OH:=by
 intro value slice pins s σ H x y v u Q I rx ry h hs;obtain⟨z,i,c,rfl,rfl,hz,he,q⟩:=h;obtain⟨t,rfl⟩:=rx;obtain⟨t',rfl⟩:=ry;obtain⟨j,h1,h2,h3,h4,h5⟩:=vz he;have hl:z.cps.toList.length=z.length:=by simp[Str.length]
 rw[hl]at h1 h4 h5;have hn:=rF
 exact tail_any (typeIs_str s z t) slot_str_getitem.lookup (getItem_str (by
  grind) (by rw[h1];simpa using h2) ⟨.str _,H,I.tok _,⟨_,rfl⟩,q⟩) hs
def rIx(K:aj):R2:=λx y H Q=>Oe K x y H Q\/NU K x y H Q\/OH x y H Q
theorem Kw:IxR X (rIx X.K):=Gy.or (KD.or Lq)
theorem zH(ZY:List Value)(n j:Nat)(u:Value):cz (·.setIfInBounds j u) { cls := .type "list",data := .seq ZY.toArray n }={ cls := .type "list",data := .seq (ZY.set j u).toArray n }:=by
 simp[cz]
variable{pins:List (Addr×Obj)}{σ:St}{H:Hp}{s:Shared}{p:Addr}{xs:List V}
theorem Inv.lst(I:Inv X pins σ H s)(h:H p=some (.lst xs)):
  ∃ (ZY:List Value) (n:Nat),cK xs ZY/\s.heap.get? p=some { cls := .type "list",data := .seq ZY.toArray n }/\xs.length<=sizeLine:=by
 obtain⟨z,ZY,n,r,e⟩:=I.hok p _ h;exact⟨_,n,r,e,z⟩
theorem Inv.lstUpd{ys:List V}{ZY Zg:List Value}{n':Nat}{f:Obj->Obj}(I:Inv X pins σ H s)(h:H p=some (.lst xs))
  (ho:s.heap.get? p=some { cls := .type "list",data := .seq ZY.toArray n }) (hf:f { cls := .type "list",data := .seq ZY.toArray n }={ cls := .type "list",data := .seq Zg.toArray n' }) (r:cK ys Zg) (hz:ys.length<=sizeLine) (t:Nat) :
  Inv X pins σ (upd H p (.lst ys)) { s with heap:=s.heap.update p f,toks:=t }:=by
 have e:(s.heap.update p f).get? p=some { cls := .type "list",data := .seq Zg.toArray n' }:=by
  rw[gh f ho (by rw[hf]<;>rfl),hf]
 refine I.write (by rw[h];trivial) (.inl rfl) (λb u hb q=>(cX _ _ (dj hb)).trans q) ⟨_,e⟩ ?_;exact⟨hz,_,n',r,e⟩
def Ji:V->V->V->Hp->(Hp->Prop)->Prop:=λo i v H Q=>∃p xs k j,o=.ref p/\i=.int k/\H p=some (.lst xs)/\ixN xs.length k=some j/\Q (upd H p (.lst (xs.set j v)))
theorem set_list:Me X Ji:=by
 intro pins s σ H o i v ov iv u Q I ro ri rv h;obtain⟨p,xs,k,j,rfl,rfl,hp,hj,q⟩:=h;cases ro;obtain⟨t,rfl⟩:=ri;obtain⟨ZY,n,r,ho,hz⟩:=I.lst hp;obtain⟨h1,h2,h3,h4⟩:=Az hj;have hl:=r.length;have hn:=rF;have I':=
  I.lstUpd hp ho (zH _ n j u) (r.set rv j) (by simp_all) s.toks
 by_cases h0:0<=k
 .have hk:=by
   rw[seqIndex_of h0 h4]at h1;exact dD h1
  exact PySem.W.ki_setAt ho h0 (by omega) (by simp_all) (by rw[hk];exact⟨_,I',q⟩)
 .have hk:(k+ZY.toArray.size).toNat=j:=by
   rw[seqIndex_neg _ h3]at h1<;>simp_all
  exact PySem.W.ki_setBack ho (by omega) (by simp_all) (by omega) (by rw[hk];exact⟨_,I',q⟩)
def ni:V->Bool
 |.non=>true
 |.bl _=>true
 |.int _=>true
 |.str _=>true
 |_=>false
def eqV:V->V->Bool
 |.non,.non=>true
 |.bl a,.bl b=>a==b
 |.bl a,.int b=>(if a then 1 else 0)==b
 |.int a,.bl b=>a==(if b then 1 else 0)
 |.int a,.int b=>a==b
 |.str a,.str b=>a==b
 |_,_=>false
variable{x:V}
theorem Jz{A:Around}{y:V}{u v:Value}(ry:RelV y u)(rx:RelV x v)(fy:ni y=true)(fx:ni x=true):SeqAt.EqAt A s u v (eqV y x):=by
 cases y with
 | non=>
   cases ry;cases x with
   |non=>cases rx;exact SeqAt.EqAt.same _
   |bl b=>cases rx;exact SeqAt.EqAt.none_bool b
   |int b=>obtain⟨t,rfl⟩:=rx;exact SeqAt.EqAt.none_int b t
   |str b=>obtain⟨t,rfl⟩:=rx;exact SeqAt.EqAt.none_str b t
   |_=>exact absurd (fx) cQ
 | bl a=>
   cases ry;cases x with
   |non=>cases rx;exact SeqAt.EqAt.bool_none a
   |bl b=>cases rx;exact SeqAt.EqAt.bool_bool a b
   |int b=>obtain⟨t,rfl⟩:=rx;exact SeqAt.EqAt.bool_int a b t
   |str b=>obtain⟨t,rfl⟩:=rx;exact SeqAt.EqAt.bool_str a b t
   |_=>exact absurd (fx) cQ
 | int a=>
   obtain⟨t',rfl⟩:=ry;cases x with
   |non=>cases rx;exact SeqAt.EqAt.int_none a t'
   |bl b=>cases rx;exact SeqAt.EqAt.int_bool a t' b
   |int b=>obtain⟨t,rfl⟩:=rx;exact SeqAt.EqAt.int_int a t' b t
   |str b=>obtain⟨t,rfl⟩:=rx;exact AU a t' b t
   |_=>exact absurd (fx) cQ
 | str a=>
   obtain⟨t',rfl⟩:=ry;cases x with
   |non=>cases rx;exact SeqAt.EqAt.str_none a t'
   |bl b=>cases rx;exact SeqAt.EqAt.str_bool a t' b
   |int b=>obtain⟨t,rfl⟩:=rx;exact AV a t' b t
   |str b=>obtain⟨t,rfl⟩:=rx;exact SeqAt.EqAt.str_str a t' b t
   |_=>exact absurd (fx) cQ
 |_=>exact absurd (fy) cQ
def eqU(x:V)(u:Value):Bool:=match u with
 |.none=>eqV .non x
 |.bool b=>eqV (.bl b) x
 |.int i _=>eqV (.int i) x
 |.str z _=>eqV (.str z) x
 |_=>false
theorem Df{y:V}{u:Value}(r:RelV y u)(f:ni y=true):eqU x u=eqV y x:=by
 cases y with
 |non=>cases r;rfl
 |bl b=>cases r;rfl
 |int i=>obtain⟨t,rfl⟩:=r;rfl
 |str z=>obtain⟨t,rfl⟩:=r;rfl
 |_=>exact absurd (f) cQ
theorem oq{x:V}:∀{xs:List V}{us:List Value},cK xs us->xs.all ni=true->us.any (eqU x)=xs.any λy=>eqV y x
 |_,_,.nil,_=>rfl
 | y::xs,u::us,.cons r t,f=>by
   rw[bH,aq]at f;rw[k7,k7,Df r f.1,oq t f.2]
theorem lJ{A:Around}{s:Shared}{x:V}{v:Value}(rx:RelV x v)(fx:ni x=true):∀{xs:List V}{us:List Value},cK xs us->xs.all ni=true->∀u∈us,SeqAt.EqAt A s u v (eqU x u)
 |_,_,.nil,_=>λu hu=>by cases hu
 | y::xs,u::us,.cons r t,f=>λu' hu=>by
   rw[bH,aq]at f;rcases aD.mp hu with rfl|hu
   .rw[Df r f.1];exact Jz r rx f.1 fx
   .exact lJ rx fx t f.2 u' hu
def inV(x:V)(xs:List V):Bool:=xs.any λy=>eqV y x
def rIn(K:aj)(neg:Bool):R2:=λx y H Q=>∃p xs,y=.ref p/\(SqL K H p xs\/SqT K H p xs)/\ni x=true/\xs.all ni=true/\Q (.bl (if neg then !inV x xs else inV x xs)) H
theorem BP:OpR X (compareOp .In) (rIn X.K false):=by
 intro pins s σ H x y v u Q I rx ry h;obtain⟨p,xs,rfl,hq,fx,fs,q⟩:=h;cases ry;rcases hq with hq|hq
 .obtain⟨ZY,r,pl,hz⟩:=I.list hq
  refine SeqAt.in_listAt _ pl.isList (λw hw=>lJ rx fx r fs w (by simpa using hw)) ⟨.bl _,H,I,rfl,?_⟩;rw[show ZY.toArray.any _=ZY.any (eqU x) by simp,oq r fs];exact q
 .obtain⟨ZY,r,pl,hz⟩:=I.tuple hq
  refine SeqAt.in_tupleAt _ pl (λw hw=>lJ rx fx r fs w (by simpa using hw)) ⟨.bl _,H,I,rfl,?_⟩;rw[show ZY.toArray.any _=ZY.any (eqU x) by simp,oq r fs];exact q
theorem v7:OpR X (compareOp .NotIn) (rIn X.K true):=by
 intro pins s σ H x y v u Q I rx ry h;obtain⟨p,xs,rfl,hq,fx,fs,q⟩:=h;cases ry;rcases hq with hq|hq
 .obtain⟨ZY,r,pl,hz⟩:=I.list hq
  refine SeqAt.notIn_listAt _ pl.isList (λw hw=>lJ rx fx r fs w (by simpa using hw)) ⟨.bl _,H,I,rfl,?_⟩;rw[show ZY.toArray.any _=ZY.any (eqU x) by simp,oq r fs];exact q
 .obtain⟨ZY,r,pl,hz⟩:=I.tuple hq
  refine SeqAt.notIn_tupleAt _ pl (λw hw=>lJ rx fx r fs w (by simpa using hw)) ⟨.bl _,H,I,rfl,?_⟩;rw[show ZY.toArray.any _=ZY.any (eqU x) by simp,oq r fs];exact q
theorem wk:iu X (.builtin "len") (fun xs H Q=>∃ p ys,xs=[.ref p]/\(SqL X.K H p ys\/SqT X.K H p ys)/\Q (.int ys.length) H):=by
 intro pins s σ H xs us Q I r h;obtain⟨p,ys,rfl,hq,q⟩:=h;obtain⟨u,rfl,rx⟩:=vals1 r;cases rx;have hn:=rF;rcases hq with hq|hq
 .obtain⟨ZY,r',pl,hz⟩:=I.list hq
  have hlen:=r'.length;exact Calls.call_len_list pl.isList (by simp only[cH]<;>omega) ⟨.int _,H,I.tok _,⟨_,by rw[cH,hlen]⟩,q⟩
 .obtain⟨ZY,r',pl,hz⟩:=I.tuple hq
  have hlen:=r'.length;exact len_tuple pl (by simp only[cH]<;>omega) ⟨.int _,H,I.tok _,⟨_,by rw[cH,hlen]⟩,q⟩
theorem iu.or{f:Value}{r r':List V->Hp->VK->Prop}(h:iu X f r)(h':iu X f r'):iu X f (λxs H Q=>r xs H Q\/r' xs H Q):=by
 intro pins s σ H xs us Q I rs q;rcases q with q|q
 .exact h _ s σ H xs us Q I rs q
 .exact h' _ s σ H xs us Q I rs q
theorem ud:iu X (.type "tuple") (fun xs H Q=>∃ p ys,xs=[.ref p]/\((SqL X.K H p ys /\ ∀ l,H l=none->Q (.ref l) (upd H l (.tup ys)))\/(SqT X.K H p ys/\Q (.ref p) H))):=by
 intro pins s σ H xs us Q I r h;obtain⟨p,ys,rfl,h⟩:=h;obtain⟨u,rfl,rx⟩:=vals1 r;cases rx;rcases h with⟨hq,q⟩|⟨hq,q⟩
 .obtain⟨ZY,r',pl,hz⟩:=I.list hq
  have hlen:=r'.length;refine call_tuple_list pl.isList (λh' kp=>?_) (by simp<;>omega);have I1:=I.kept (t':=s.toks) kp;have I2:=
   I1.laid (t':=s.toks) (λb o e=>af _ e) (ao _) (show fP _ _ _ _ _ (.tup ys) from⟨hz,_,r',AW _ _,_,ay _ rfl,rfl⟩)
  exact⟨.ref _,_,I2,rfl,q _ (I1.hok.fresh (ao _))⟩
 .obtain⟨ZY,r',pl,hz⟩:=I.tuple hq
  exact call_tuple_same pl ⟨.ref p,H,I,rfl,q⟩
def tyV(K:aj)(T:String)(x:V)(H:Hp):Prop:=match x with
 |.str _=>T="str"
 |.int _=>T="int"
 | .ref p=>(T="list" /\ ∃ xs,SqL K H p xs)\/(T="tuple" /\ ∃ o,K.lookup p=some o/\o.cls=.type "tuple"/\o.dict=none) \/
   (T="dict"/\((∃ kvs,H p=some (.dK kvs)) \/ ∃ kvs,H p=some (.dT kvs)))\/(T="set" /\ ∃ S n,H p=some (.set S n))
 |_=>False
theorem DS{T:String}{v:Value}(I:Inv X pins σ H s)(r:RelV x v)(ty:tyV X.K T x H):
  s.TypeIs v T /\ ∀a,v=.ref a->∃ob,s.heap.get? a=some ob/\ob.dict=none:=by
 cases x with
 | str z=>
   obtain⟨t,rfl⟩:=r;cases (ty);exact⟨typeIs_str s z t,λ_ e=>nomatch e⟩
 | int i=>
   obtain⟨t,rfl⟩:=r;cases (ty);exact⟨typeIs_int s i t,λ_ e=>nomatch e⟩
 | ref p=>
   cases r;rcases ty with⟨rfl,xs,hq⟩|⟨rfl,o,hk,hc,hd⟩|⟨rfl,hk⟩|⟨rfl,S,n,hk⟩
   .obtain⟨ZY,_,pl,_⟩:=I.list hq
    refine⟨pl.isList.typeIs,λa e=>?_⟩;obtain⟨o,n,e,c,hd,_⟩:=pl<;>simp_all
   .refine⟨⟨o,I.kIn p o hk,hc⟩,λa e=>?_⟩
    cases e;exact⟨o,I.kIn _ o hk,hd⟩
   .have z:∃o,s.heap.get? p=some o/\o.ExactDict:=by
     rcases hk with⟨kvs,hk⟩|⟨kvs,hk⟩
     .obtain⟨_,_,_,_,o,_,_,e,ex,_⟩:=I.hok p _ hk<;>simp_all
     .obtain⟨_,_,_,_,o,_,_,e,ex,_⟩:=I.hok p _ hk<;>simp_all
    obtain⟨o,e,ex⟩:=z;refine⟨⟨o,e,ex.1⟩,λa e2=>?_⟩;cases e2;exact⟨o,e,ex.2.1⟩
   .obtain⟨o,_,_,_,e,ex,_⟩:=I.hok p _ hk
    refine⟨⟨o,e,ex.1⟩,λa e2=>?_⟩;cases e2;exact⟨o,e,ex.2.1⟩
 |_=>exact bK ty
def Ml(K:aj)(T:String)(r:V->List V->Hp->VK->Prop)(to:TE):TE:=λσ H Q=>to σ H λx H1=>tyV K T x H1/\r x [] H1 Q
def tBM(K:aj)(T:String)(r:V->List V->Hp->VK->Prop)(to:TE)(t:TA):TE:=λσ H Q=>to σ H λx H1=>tyV K T x H1/\t σ H1 λxs H2=>r x xs H2 Q
variable {o e:Expr}{es:List Expr}{to:TE}{t:TA}{name:Str}{apos cpos:Pos}{T id:String}{r:V->List V->Hp->VK->Prop}
theorem Ma(pa:PlainAttrs T)(slot:Slot T name id)(UG:typeOf (.builtin id)=pure (.type "method_descriptor"))(hm:MtR X id r)(ho:PE X o to)
  (Zz:autoParam (attributeBase o name X.env (eval o X.env)=eval o X.env) au1._auto_1) (ZA:autoParam ((apos.endLine==cpos.line)=true) au1._auto_1):PE X (.Call (.Attribute o name apos) [] [] cpos) (Ml X.K T r to):=by
 intro pins s σ H Q I h;refine wpAny_Call_method0_late Zz ZA (thn (ho _ s σ H _ I h) λv s1 ⟨x,H1,I1,r1,ty,q1⟩=>?_);obtain⟨h1,h2⟩:=DS I1 r1 ty;exact⟨T,id,pa,slot,UG,h1,h2,mX rfl (PySem.evalArgs_none (hm _ s1 σ H1 x [] v [] Q I1 r1 .nil q1))⟩
theorem zU(pa:PlainAttrs T)(slot:Slot T name id)(UG:typeOf (.builtin id)=pure (.type "method_descriptor"))(hm:MtR X id r)(ho:PE X o to)(ha:PA X (e::es) t)
  (Zz:autoParam (attributeBase o name X.env (eval o X.env)=eval o X.env) au1._auto_1)
  (YK:autoParam (((backTo cpos (starEach (e::es) X.env)).all (λx => !x.1)&&(backToKw cpos (keywordEach [] X.env)).all (λx=>x.1.isSome)
   && decide ((e::es).length+([]:List Keyword).length+(if ([]:List Keyword).isEmpty then 0 else 1)<30))=true) au1._auto_1)
  (ZA:autoParam ((apos.endLine==cpos.line)=true) au1._auto_1) (hs:autoParam (starEach (e::es) X.env=(false,eval e X.env)::starEach es X.env) au1._auto_1) (YH:autoParam ((backTo cpos (starEach es X.env)).any (·.1)=false) au1._auto_1):
  PE X (.Call (.Attribute o name apos) (e::es) [] cpos) (tBM X.K T r to t):=by
 intro pins s σ H Q I h;refine wpAny_Call_method_late Zz YK ZA rfl (thn (ho _ s σ H _ I h) λv s1 ⟨x,H1,I1,r1,ty,q1⟩=>?_);obtain⟨h1,h2⟩:=DS I1 r1 ty;refine⟨T,id,pa,slot,UG,h1,h2,?_⟩;have hA:=ha cpos _ s1 σ H1 _ I1 q1;rw[hs]at hA ⊢;refine mX (by show(false||(backTo _ _).any _)=false;rw[YH]<;>rfl) (jy ?_);exact thn hA λus s2 ⟨vs,H2,I2,r2,q2⟩=>hm _ s2 σ H2 x vs v us Q I2 r1 r2 q2
end
def MtM(X:Cx)(id:String)(r:V->List V->Hp->VK->Prop):Prop:=
 ∀(pins:List (Addr×Obj)) (s:Shared) (σ:St) (H:Hp) (x:V) (xs:List V) (v:Value) (us:List Value) (Q:VK),Inv X pins σ H s->RelV x v->cK xs us->r x xs H Q ->
  aN (model X.prog X.w) X.A (call (.builtin id) (v::us)) (EP X pins σ Q) X.xe s
theorem cK.one:∀{x:V}{us:List Value},cK [x] us->∃u,us=[u]/\RelV x u:=by
 intro x us h;cases h with |cons r t=>cases t;exact⟨_,rfl,r⟩
theorem cK.zero:∀{us:List Value},cK [] us->us=[]
 |_,.nil=>rfl
theorem cK.dropLast{xs:List V}{us:List Value}(h:cK xs us):cK xs.dropLast us.dropLast:=by
 induction h with
 |nil=>exact .nil
 | cons r t ih=>
   cases t with
   |nil=>exact .nil
   |cons q t'=>exact .cons r ih
theorem cK.eraseIdx:∀{xs:List V}{us:List Value} (i:Nat),cK xs us->cK (xs.eraseIdx i) (us.eraseIdx i)
 |_,_,_,.nil=>.nil
 |_,_,0,.cons _ t=>t
 |_,_,i+1,.cons r t=>.cons r (cK.eraseIdx i t)
theorem Lw{α:Type}(l:List α):l.eraseIdx (l.length-1)=l.dropLast:=by
 grind
theorem uI{α:Type}:∀(l:List α) (i:Nat),(l.eraseIdx i).length<=l.length
 |[],_=>ao _
 |_::_,0=>dz _
 |_::r,i+1=>Nat.succ_le_succ (uI r i)
section
variable {X:Cx}{pins:List (Addr×Obj)}{σ:St}{H:Hp}{s:Shared}{l b:Addr}{xs ys zs:List V}
variable{ZY:List Value}{t':Nat}
theorem Inv.lset{Zg:List Value}{f:Array Value->Array Value}(I:Inv X pins σ H s)(hH:H l=some (.lst xs))
  (e:s.heap.get? l=some { cls := .type "list",data := .seq ZY.toArray n }) (hf:f ZY.toArray=Zg.toArray) (hv:cK ys Zg) (hz:ys.length<=sizeLine) :
  Inv X pins σ (upd H l (.lst ys)) { s with heap:=s.heap.update l (cz f),toks:=t' }:=by
 have q:=Fx e f;rw[hf]at q;refine I.write (by rw[hH];exact trivial) (.inl rfl) (λb' u hb hu=>(cX _ _ (dj hb)).trans hu) ⟨_,q⟩ ?_;exact⟨hz,_,_,hv,q⟩
theorem Inv.lnew(I:Inv X pins σ H s)(hv:cK ys ZY)(hz:ys.length<=sizeLine):
  Inv X pins σ (upd H s.heap.objs.size (.lst ys)) { s with heap:=s.heap.push { cls := .type "list",data := .seq ZY.toArray },toks:=t' }:=
 I.laid (λ_ _ q=>af _ q) (ao _) ⟨hz,_,0,hv,ay _ rfl⟩
theorem Inv.fresh(I:Inv X pins σ H s):H s.heap.objs.size=none:=I.hok.fresh (ao _)
theorem Inv.lstM(I:Inv X pins σ H s)(hH:H l=some (.lst xs)):xs.length<=sizeLine /\ ∃ (ZY:List Value) (n:Nat),cK xs ZY/\xs.length=ZY.length/\s.heap.get? l=some { cls := .type "list",data := .seq ZY.toArray n }:=by
 obtain⟨z,ZY,n,r,e⟩:=I.hok l _ hH;exact⟨z,_,n,r,r.length,e⟩
theorem wJ(h:n<=sizeLine):gF n=false:=by
 exact decide_eq_false (by omega)
end
section
variable {X:Cx}
def AF:V->List V->Hp->VK->Prop:=λx vs H Q=>∃l xs y,x=.ref l/\vs=[y]/\H l=some (.lst xs)/\xs.length<sizeLine/\Q .non (upd H l (.lst (xs++[y])))
theorem Bm:MtM X "list.append" AF:=by
 intro pins s σ H x vs v us Q I rx rv h;obtain⟨l,xs,y,rfl,rfl,hH,hz,q⟩:=h;cases rx;obtain⟨u,rfl,ru⟩:=rv.one;obtain⟨z,ZY,n,r,hl,e⟩:=I.lstM hH;refine call_meets F.slot_list_append ⟨_,e,rfl⟩ F.entry_list_append (F.args_list_append_2 _ _) (PySem.list_append l _ n u (by grind)) ⟨e,?_⟩;refine⟨.non,_,I.lset hH e (by simp) (r.append (.cons ru .nil)) ?_,rfl,q⟩;rw[bo];assumption
def vv:V->List V->Hp->VK->Prop:=λx vs H Q=>∃l b xs zs,x=.ref l/\vs=[.ref b]/\H l=some (.lst xs)/\H b=some (.lst zs)/\xs.length+zs.length<=sizeLine/\Q .non (upd H l (.lst (xs++zs)))
theorem Bq:MtM X "list.extend" vv:=by
 intro pins s σ H x vs v us Q I rx rv h;obtain⟨l,b,xs,zs,rfl,rfl,hH,hB,hz,q⟩:=h;cases rx;obtain⟨u,rfl,ru⟩:=rv.one;cases ru;obtain⟨z,ZY,n,r,hl,e⟩:=I.lstM hH;obtain⟨z2,ZM,n2,r2,YV,e2⟩:=I.lstM hB;have ZG:ZY.toArray.size+ZM.toArray.size<=sizeLine:=by grind
 have Yb: ¬(!ZY.toArray.isEmpty&&gF (ZY.toArray.size+ZM.toArray.size))=true:=by
  rw[wJ ZG]
  grind
 refine call_meets F.slot_list_extend ⟨_,e,rfl⟩ F.entry_list_extend (F.args_list_extend_2 _ _)
  (AutoSeq1.list_extend_list_list_0 l _ n b _ n2 Yb (by grind) (by exact aH (by omega) (by decide))) ⟨e,e2,?_⟩
 refine⟨.non,_,I.lset hH e (by simp) (r.append r2) ?_,rfl,q⟩
 simp_all
def NO:V->List V->Hp->VK->Prop:=λx vs H Q=>∃l xs y,x=.ref l/\vs=[]/\H l=some (.lst xs)/\xs[xs.length-1]?=some y/\Q y (upd H l (.lst xs.dropLast))
theorem J9:MtM X "list.pop" NO:=by
 intro pins s σ H x vs v us Q I rx rv h;obtain⟨l,xs,y,rfl,rfl,hH,hy,q⟩:=h;cases rx;have QJ:=rv.zero;subst QJ;obtain⟨z,ZY,n,r,hl,e⟩:=I.lstM hH;obtain⟨u,hu,ru⟩:=r.get hy;have XN:=by
  show ZY.toArray[ZY.length-1]?=some u
  simp_all
 refine call_meets F.slot_list_pop ⟨_,e,rfl⟩ F.entry_list_pop (F.args_list_pop_1 _) (MeetsSeq.list_pop_last l _ n u XN (by simp_all)) ⟨e,?_⟩;refine⟨y,_,I.lset hH e ?_ r.dropLast ?_,ru,q⟩
 .simp_all
 .rw[List.length_dropLast]
  omega
def CD:V->List V->Hp->VK->Prop:=λx vs H Q=>∃l xs i k y,x=.ref l/\vs=[.int i]/\H l=some (.lst xs) /\ -(2^63)<=i/\i<2^63/\seqIndex? i xs.length=some k/\xs[k]?=some y/\Q y (upd H l (.lst (xs.eraseIdx k)))
theorem EE:MtM X "list.pop" CD:=by
 intro pins s σ H x vs v us Q I rx rv h;obtain⟨l,xs,i,k,y,rfl,rfl,hH,h1,h2,hk,hy,q⟩:=h;cases rx;obtain⟨u,rfl,ru⟩:=rv.one;obtain⟨t,rfl⟩:=ru;obtain⟨z,ZY,n,r,hl,e⟩:=I.lstM hH;obtain⟨w,hw,YZ⟩:=r.get hy;refine call_meets F.slot_list_pop ⟨_,e,rfl⟩ F.entry_list_pop (F.args_list_pop_2 _ _)
  (MeetsSeq.list_pop_at l _ n i t k w (fitsIndex_both h1 h2) (by simp_all) (by simp_all) (by simp_all)) ⟨e,?_⟩
 refine⟨y,_,I.lset hH e ?_ (r.eraseIdx k) ?_,YZ,q⟩
 .simp_all
 .have:=uI xs k
  exact aH (by omega) (by omega)
def Mi:R2:=λx y H Q=>∃l b xs zs,x=.ref l/\y=.ref b/\H l=some (.lst xs)/\H b=some (.lst zs)/\xs.length+zs.length<=sizeLine /\ ∀p,H p=none->Q (.ref p) (upd H p (.lst (xs++zs)))
theorem JN:OpR X (binaryOp .Add) Mi:=by
 intro pins s σ H x y v u Q I rx ry h;obtain⟨l,b,xs,zs,rfl,rfl,hH,hB,hz,q⟩:=h;cases rx;cases ry;obtain⟨z,ZY,n,r,hl,e⟩:=I.lstM hH;obtain⟨z2,ZM,n2,r2,YV,e2⟩:=I.lstM hB;refine PySem.P.add_list e e2 ?_ (by simp_all);have ea:ZY.toArray++ZM.toArray=(ZY++ZM).toArray:=by simp
 rw[ea];exact⟨.ref _,_,I.lnew (r.append r2) (by simp_all),rfl,q _ I.fresh⟩
end
section
variable {prog:Program}{w:World}{A:Around}{E:Value->Shared->Prop}{s:Shared}
end
section
variable {X:Cx}
end
end _L
namespace Att
open PySem PySem.W PySem.Calls PyProof.Rows
variable{P:Params}{h:Heap}
theorem qi:∀(ns:List Int) (vs:List Value),WellAll P h vs (ns.map WData.int)->IntsAre vs ns:=by
 intro ns
 induction ns with
 | nil=>
   intro vs w;cases w;exact .nil
 | cons n ns ih=>
   intro vs w;cases w with
   | cons a b=>
     cases a;exact .cons _ _ (ih _ b)
variable{l:OpenLaw}{n:Nat}
theorem A3(hn:l.most=some n){args:List WData}{vals:List Value}
  (XC:l.row.toRowW.claim.pre args=true) (VW:WellAll P h vals args):
  ∃ a vs ns,vals=[bW a]/\args=[WData.list (ns.map WData.int)]/\h.get? a=some { cls := .type "list",data := .seq vs.toArray }/\IntsAre vs ns/\ns.length<=n:=by
 have Ro:=(pre_splitW XC).1;have hc:=(pre_splitW XC).2;obtain⟨d,r,rfl,h1,h2⟩:=hasAllW_cons Ro;obtain rfl:=hasAllW_nil h2;obtain⟨xs,rfl,h3⟩:=hasW_list h1;obtain⟨ns,rfl⟩:=items_int h3;have hlen:=by
  have h4:=by
   have h4:=(holds_andW hc).1;rw[hn]at h4;omega
  have h5:=condW_of h4 (w_not (w_lt w_lit (w_len_list (w_arg rfl))))
  first
   |grind
   |(simp at h5;omega)
 cases VW with
 | cons w1 w2=>
   cases w2;cases w1 with
   |list ho WN=>exact⟨_,_,ns,rfl,rfl,ho,qi ns _ WN,hlen⟩
theorem A9(l:OpenLaw)(args:List WData):l.row.toRowW.claim.post args (.bool true) args=true:=
 postW_of
  (by first |rfl |decide |simp)
  (w_eq_bool (w_res rfl) w_lit) rfl
theorem attach_call{q:Program}{loose:List Str}{XP:(Str->Option Value)->Heap->Prop}{YP:World->Heap->Prop}{d:DefRec}
  (hn:l.most=some n) (W4:d.params.defaults=[])
  (call: ∀(w:World) (s₀ ZT:Shared) (mg mb:Str->Option Value) (fa:Addr) (o:Obj) (pm cd doc:Value) (a:Addr) (vs:List Value) (ns:List Int),
   Ground q loose [] XP w s₀ mg mb ZT.heap->YP w ZT.heap ->
   ZT.heap.get? fa=some o->o.data=.func (docDef d.name d.params d.body d.scope pm cd doc)->ZT.heap.CodeRec cd d.name->mg d.name=some (.ref fa) ->
   ZT.heap.get? a=some { cls := .type "list",data := .seq vs.toArray }->IntsAre vs ns->ns.length<=n->ZT.gens = #[] ->
   pL (model l.prog w) callerA (.call (.ref fa) ⟨[.ref a],[]⟩) (λr s'=>r = .ok (.ret (.bool true))/\OldK ZT.heap s'.heap/\s'.os=ZT.os/\AllBare s'.gens) ZT):
  WalkO q loose XP YP l.row.toRowW d [] (λf vs=>PySem.call f vs):=by
 intro w s₀ ZT mg mb v6 Y fa o pm cd doc dV kV ho hd Zs hD VN hg args vals as XC hlay TX VW Q1;obtain rfl:dV=.none:=Dflts.none hD W4;obtain rfl:kV=.none:=Dflts.noKw hD;obtain⟨a,vs,ns,rfl,rfl,Xm,hints,hlen⟩:=A3 hn XC VW;refine enter_call (ij (call w _ _ mg mb fa o pm cd _ a vs ns v6 Y ho (fd_plain hd) Zs VN Xm hints hlen hg) λr s' hq=>?_);obtain⟨rfl,h2,h3,h4⟩:=hq;exact⟨.inl ⟨_,_,[],rfl,λ_=>rfl,.bool _,A9 l _,λ_=>⟨gW,λ_ hm=>(nomatch hm)⟩⟩,h2,h3,h4⟩
section
variable {prog:Program}{w:World}{A:Around}{E:Value->Shared->Prop}{s:Shared}{K:Frag}
end
end Att
namespace _L
open PySem PySem.Spec PyProof.Rows
abbrev KOf{K:aj}{h:Heap}(_:K.In h):aj:=K
def fZ(s:Stmt):Arguments:=match s with
 |.FunctionDef _ a _ _ _ _ _ _ _ _=>a
 |_=>{ posonlyargs:= [],args:= [],vararg:=none,kwonlyargs:= [],kw_defaults:= [],kwarg:=none,defaults:= [] }
def bV(s:Stmt):List Stmt:=match s with
 |.FunctionDef _ _ b _ _ _ _ _ _ _=>b
 |_=>[]
def az(s:Stmt):Scope:=match s with
 |.FunctionDef _ _ _ _ _ _ sc _ _ _=>sc
 |_=>{ kind:= .function,names:= [],isGenerator:=false,isCoroutine:=false }
abbrev CX0:CXT:=λ_ _ _ _ _ _=>False
abbrev E0:XK:=λ_ _ _=>False
theorem uM{X:Cx}:rJ CX0 X E0:=λ_ _ _ _ _ _ _ h=>h.elim
structure Fun(K:aj)(x qual:Str)(st:Stmt)(f:Addr)(fd:FuncData):Prop where
 ex:∃(oc:Value) (od:Option Addr) (kV doc pm:Value) (an:Option Addr) (cdv ct:Value) (osl:Array (Option Value)),
  fd=cW x qual (fZ st) (bV st) (az st) .none kV doc pm an cdv ct/\K.lookup f=some ⟨oc,od,.func fd,osl⟩/\gz K cdv qual=true
 kp:cg K (.ref f)=true
section
variable {P:Program}{w:World}{K:aj}{mg:Str->Option Value}{base:Heap}
variable{x qual:Str}{st:Stmt}{f:Addr}{fd:FuncData}{ps:List Str}
theorem Fun.ok{N:List Str}{k:Nat}{sp:Sp}(F:Fun K x qual st f fd)(S:bw N ps (az st))(len:∀vs H Q E,sp vs H Q E->vs.length=ps.length)
  (Zn: ∀(cdv:Value) (A:Around) (outer:List Env) (s:Shared) (H:Hp) (vs:List V) (Q:VK) (E:XK),kc k (A.deeper (envOfC qual (az st) s.heap.objs.size f cdv))->sp vs H Q E ->
   ∃t,PSs (rN CX0 P w K mg base N qual (az st) f cdv A outer s H E).nox (bV st) t/\t { nx:=λ_ H'=>Q .non H',rt:=Q } (start N vs) H):iY P w K mg base CX0 (k+1) f fd ps sp:=by
 obtain⟨oc,od,kV,doc,pm,an,cdv,ct,osl,rfl,lk,Zs⟩:=F.ex;refine xM lk Zs S len λA outer s H vs Q E hr Zh=>?_;obtain⟨t,h,q⟩:=Zn _ A _ s H vs Q E hr Zh;exact⟨t,h.nox,q⟩
theorem Fun.binds(F:Fun K x qual st f fd)
  (h:∀(kV doc pm:Value) (an:Option Addr) (cdv ct:Value) (us:List Value),us.length=ps.length->bindArgs (cW x qual (fZ st) (bV st) (az st) .none kV doc pm an cdv ct) ⟨us,[]⟩=pure (ps.zip us)):Binds K fd ps []:=by
 obtain⟨oc,od,kV,doc,pm,an,cdv,ct,osl,rfl,lk,Zs⟩:=F.ex;exact .all (h kV _ pm an _ ct)
theorem KI{oc:Value}{od an:Option Addr}{osl:Array (Option Value)}{kV doc pm cdv ct:Value}(l:K.lookup f=some ⟨oc,od,.func (cW x qual (fZ st) (bV st) (az st) .none kV doc pm an cdv ct),osl⟩)
  (c:gz K cdv qual=true) (k:cg K (.ref f)=true):Fun K x qual st f (cW x qual (fZ st) (bV st) (az st) .none kV doc pm an cdv ct):=⟨⟨oc,od,kV,_,pm,an,_,ct,_,rfl,l,c⟩,k⟩
end
section
variable {X:Cx}
end
theorem Qa{A B:Prop}(h:B):if false=true then A else B:=by
 grind
theorem Pk{A B:Prop}(h:A):if true=true then A else B:=by
 grind
end _L
namespace HT
open PySem PyProof.Rows
section
open PySem.SeqAt
open PySem.AutoSeq1 (wpAny_loadPart')
open PySem.MeetsSeq PySem.MeetsSeq2 PySem.MeetsSeq3
end
section
variable {prog:Program}{w:World}{A:Around}{E:Value->Shared->Prop}{s:Shared}
end
end HT
namespace _L
open PySem PyProof.Rows
section
variable {X:Cx}
end
end _L
namespace PySem
namespace GE
theorem Hm(l:Addr)(items:Array Value)(n:Nat)(b:Addr)(Zo:Array Value)(n2:Nat)(sl:Array (Option Value))(Vu: ¬(!items.isEmpty&&gF (items.size+Zo.size))=true)(UT:items.size<=sizeLine)(Zl:items.size+Zo.size<=sizeLine+1):
  Meets (Builtin.«list.extend» ⟨[.ref l,.ref b],[]⟩) (fun _ R s=>s.heap.get? l=some { cls := .type "list",dict:=none,data := .seq items n,slots := #[] }/\s.heap.get? b=some { cls := .type "tuple",dict:=none,data := .seq Zo n2,slots:=sl }/\R (.ok (.ret cN)) { s with heap:=s.heap.update l (cz fun x=>x++Zo),toks:=s.toks }):=
 .of_wp λprog w A R s h=>by
  obtain⟨hp,g,d,tk,os⟩:=s;obtain⟨hl,hb,h⟩:=h;have f1:=AutoSeq1.idx_int;have f2:=AutoSeq1.sub_tuple_tuple;have f3:=AutoSeq1.sub_list_list;have f4:=AutoSeq1.sub_tuple_list;have f5:=AutoSeq1.sub_list_tuple;have W5:(items++Zo).size<=sizeLine+1:=by rw[Array.size_append];exact Zl
  wp_walk using (Ck hl rfl (hz:=UT) (_hz':=W5)),Cm hl,Cm hb
  exact⟨_,rfl,h⟩
end GE
end PySem
namespace _L
open PySem PySem.Spec PyProof.Rows
section
variable {X:Cx}
def IF:V->List V->Hp->VK->Prop:=λx vs H Q=>∃l b xs zs,x=.ref l/\vs=[.ref b]/\H l=some (.lst xs)/\H b=some (.tup zs)/\xs.length+zs.length<=sizeLine/\Q .non (upd H l (.lst (xs++zs)))
theorem Hi:MtM X "list.extend" fun x vs H Q=>vv x vs H Q\/IF x vs H Q:=by
 intro pins s σ H x vs v us Q I rx rv h;rcases h with h|h
 .exact Bq _ s σ H x vs v us Q I rx rv h
 obtain⟨l,b,xs,zs,rfl,rfl,hH,hB,hz,q⟩:=h;cases rx;obtain⟨u,rfl,ru⟩:=rv.one;cases ru;obtain⟨z,ZY,n,r,hl,e⟩:=I.lstM hH;obtain⟨z2,ZM,r2,⟨o,e2,c2,n2,d2⟩,o',e3,c3⟩:=I.hok b _ hB;rw[e2]at e3;cases e3;obtain⟨oc,od,dt,sl⟩:=o;cases c2;cases d2;cases c3;have l2:=r2.length;have ZG:ZY.toArray.size+ZM.toArray.size<=sizeLine:=by grind
 have Yb: ¬(!ZY.toArray.isEmpty&&gF (ZY.toArray.size+ZM.toArray.size))=true:=by
  rw[wJ ZG]
  grind
 refine call_meets F.slot_list_extend ⟨_,e,rfl⟩ F.entry_list_extend (F.args_list_extend_2 _ _)
  (GE.Hm l _ n b _ n2 sl Yb (by grind) (by omega)) ⟨e,e2,?_⟩
 refine⟨.non,_,I.lset hH e (by simp) (r.append r2) ?_,rfl,q⟩
 simp_all
end
end _L
namespace GQ
open PySem PySem.W PyProof.Rows
def gal:Bool->Keyed->Array Keyed->Nat->Nat->Nat->StateT SortSt Sem (Option Nat):=sortPriv% PySem.Builtin.gallop
def mLo:Array Keyed->Array Keyed->StateT SortSt Sem (Array Keyed):=sortPriv% PySem.Builtin.mergeLo
def mHi:Array Keyed->Array Keyed->StateT SortSt Sem (Array Keyed):=sortPriv% PySem.Builtin.mergeHi
def zB(M:Model)(A:Around)(E:Value->Shared->Prop)(s:Shared)(κ:SortKind)(r:Keyed->Nat)(D:Keyed->Prop):Prop:=
 ∀(x y:Keyed) (st:SortSt) (Q:Option Bool->SortSt->Prop),kindOf st=κ->D x->D y->Q (some (decide (r x<r y))) st->wpS M A E s (lt' x y) Q st
def bey(r:Keyed->Nat)(left:Bool)(key x:Keyed):Bool:=if left then decide (r x<r key) else !decide (r key<r x)
section
variable {M:Model}{A:Around}{E:Value->Shared->Prop}{s:Shared}{κ:SortKind}{r:Keyed->Nat}{D:Keyed->Prop}{st:SortSt}
variable{i:Nat}
theorem ju{arr:Array Keyed}{x:Keyed}{Q:Keyed->SortSt->Prop}(h:arr[i]?=some x)(q:Q x st):wpS M A E s (elem' arr i) Q st:=by
 rw[elem'_eq,h];exact wpS_pure q
variable (o:zB M A E s κ r D)
include o
variable{left:Bool}{key:Keyed}
theorem OX{x:Keyed}{arr:Array Keyed}{Q:Option Bool->SortSt->Prop}(hk:kindOf st=κ)(hx:arr[i]?=some x)(dx:D x)(dk:D key)(q:Q (some (bey r left key x)) st):
  wpS M A E s (elem' arr i >>= λx=>if left=true then lt' x key else lt' key x >>= λb=>pure (b.map λb=>!b)) Q st:=by
 refine wpS_bind (ju hx ?_);cases left with
 |true=>exact o x key st Q hk dx dk q
 |false=>exact wpS_bind (o key x st _ hk dk dx (wpS_pure q))
theorem Np{arr:Array Keyed}{base n hint:Nat}{b:Nat->Bool}{Q:Option Nat->SortSt->Prop}(hB:∀i,i<n->∃x,arr[base+i]?=some x/\D x/\bey r left key x=b i)
  (mono:∀i j,i<=j->j<n->b j=true->b i=true) (hh:hint<n) (hk:kindOf st=κ) (dk:D key)
  (q:∀k,k<=n->(∀i,i<k->b i=true)->(∀i,k<=i->i<n->b i=false)->Q (some k) st):wpS M A E s (gal left key arr base n hint) Q st:=by
 have ask:∀i,i<n->∀Q:Option Bool->SortSt->Prop,Q (some (b i)) st->wpS M A E s (elem' arr (base+i) >>= λx=>if left=true then lt' x key else lt' key x >>= λb=>pure (b.map λb=>!b)) Q st:=λi hi Q q=>by
  obtain⟨x,hx,dx,e⟩:=hB i hi;exact OX o hk hx dx dk (by rw[e];exact q)
 have up:∀i j,i<=j->j<n->b i=false->b j=false:=λi j h1 h2 h3=>by
  cases h:b j with
  |false=>rfl
  |true=>rw[mono i j h1 h2 h]at h3;cases h3
 unfold gal;refine wpS_bind (ask hint hh _ ?_);dsimp only;cases hb:b hint with
 | true=>
   simp only[if_true]
   refine wpS_bind (wpS_mono (wpS_forRange (I:=λx c Z'=>Z'=st /\ ∃l f,c=(none,l,f)/\l<f/\x+1<=f/\hint+l<n/\b (hint+l)=true)
    (Q:=λc Z'=>Z'=st /\ ∃l f,c=(none,l,f)/\l<f/\hint+l<n/\b (hint+l)=true/\(hint+f<n->b (hint+f)=false)) ?_ ?_ ⟨rfl,0,1,rfl,by decide,by decide,hh,hb⟩) ?_)
   .rintro x c Z' _ hx ⟨rfl,l,f,rfl,h1,h2,h3,h4⟩
    dsimp only;by_cases hf:f >= n-hint
    .rw[if_pos hf]
     exact wpS_pure ⟨rfl,l,f,rfl,h1,h3,h4,λ_=>by omega⟩
    .rw[if_neg hf]
     refine wpS_bind (ask (hint+f) (by omega) _ ?_);cases hm:b (hint+f) with
     |true=>exact wpS_pure ⟨rfl,f,2*f+1,rfl,by omega,by omega,by omega,hm⟩
     |false=>exact wpS_pure ⟨rfl,l,f,rfl,h1,h3,h4,λ_=>hm⟩
   .rintro c Z' ⟨rfl,l,f,rfl,h1,h2,h3,h4⟩
    exact⟨rfl,l,f,rfl,h1,h3,h4,λ_=>by omega⟩
   .rintro c Z' ⟨rfl,l,f,rfl,h1,h3,h4,h5⟩
    dsimp only
    refine wpS_bind (wpS_mono (wpS_forRange (I:=λx c Zw=>Zw=Z' /\ ∃l f,c=(none,l,f)/\l<=f/\f<=n/\f - l<=n - x/\(∀i,i<l->b i=true)/\(∀i,f<=i->i<n->b i=false))
     (Q:=λc Zw=>Zw=Z' /\ ∃l,c=(none,l,l)/\l<=n/\(∀i,i<l->b i=true)/\(∀i,l<=i->i<n->b i=false)) ?_ ?_ ⟨rfl,_,_,rfl,by omega,by omega,by omega,λi hi=>mono i _ (by exact eF (by assumption)) h3 h4,λi hi hn=>up _ i hi hn (by
      have:hint+min f (n-hint)=hint+f:=by omega
      rw[this];exact h5 (by omega))⟩) ?_)
    .rintro x c Zw _ hx ⟨rfl,l,f,rfl,g1,g2,g3,g4,g5⟩
     dsimp only;by_cases hf:l >= f
     .rw[if_pos hf]
      obtain rfl:l=f:=by omega
      exact wpS_pure ⟨rfl,l,rfl,g2,g4,g5⟩
     .rw[if_neg hf]
      refine wpS_bind (ask (l+(f-l)/2) (by omega) _ ?_);cases hm:b (l+(f-l)/2) with
      |true=>exact wpS_pure ⟨rfl,_,_,rfl,by omega,g2,by omega,λi hi=>mono i _ (by exact eF (by assumption)) (by omega) hm,g5⟩
      |false=>exact wpS_pure ⟨rfl,_,_,rfl,by omega,by omega,by omega,g4,λi hi hn=>up _ i hi hn hm⟩
    .rintro c Zw ⟨rfl,l,f,rfl,g1,g2,g3,g4,g5⟩
     obtain rfl:l=f:=by omega
     exact⟨rfl,l,rfl,g2,g4,g5⟩
    .rintro c Zw ⟨rfl,l,rfl,g2,g4,g5⟩
     exact wpS_pure (q l g2 g4 g5)
 | false=>
   simp only[eR,if_false]
   refine wpS_bind (wpS_mono (wpS_forRange (I:=λx c Z'=>Z'=st /\ ∃l f,c=(none,l,f)/\l<f/\x+1<=f/\l<=hint/\b (hint - l)=false)
    (Q:=λc Z'=>Z'=st /\ ∃l f,c=(none,l,f)/\l<f/\l<=hint/\b (hint - l)=false/\(f<=hint->b (hint - f)=true)) ?_ ?_ ⟨rfl,0,1,rfl,by decide,by decide,by omega,hb⟩) ?_)
   .rintro x c Z' _ hx ⟨rfl,l,f,rfl,h1,h2,h3,h4⟩
    dsimp only;by_cases hf:f >= hint+1
    .rw[if_pos hf]
     exact wpS_pure ⟨rfl,l,f,rfl,h1,h3,h4,λ_=>by omega⟩
    .rw[if_neg hf]
     refine wpS_bind (ask (hint-f) (by omega) _ ?_);cases hm:b (hint-f) with
     |true=>exact wpS_pure ⟨rfl,l,f,rfl,h1,h3,h4,λ_=>hm⟩
     |false=>exact wpS_pure ⟨rfl,f,2*f+1,rfl,by omega,by omega,by exact dA (by assumption),hm⟩
   .rintro c Z' ⟨rfl,l,f,rfl,h1,h2,h3,h4⟩
    exact⟨rfl,l,f,rfl,h1,h3,h4,λ_=>by omega⟩
   .rintro c Z' ⟨rfl,l,f,rfl,h1,h3,h4,h5⟩
    dsimp only
    refine wpS_bind (wpS_mono (wpS_forRange (I:=λx c Zw=>Zw=Z' /\ ∃l f,c=(none,l,f)/\l<=f/\f<=n/\f - l<=n - x/\(∀i,i<l->b i=true)/\(∀i,f<=i->i<n->b i=false))
     (Q:=λc Zw=>Zw=Z' /\ ∃l,c=(none,l,l)/\l<=n/\(∀i,i<l->b i=true)/\(∀i,l<=i->i<n->b i=false)) ?_ ?_ ⟨rfl,_,_,rfl,by omega,by omega,by omega,λi hi=>mono i (hint - f) (by omega) (by omega) (h5 (by omega)),λi hi hn=>up _ i hi hn h4⟩) ?_)
    .rintro x c Zw _ hx ⟨rfl,l,f,rfl,g1,g2,g3,g4,g5⟩
     dsimp only;by_cases hf:l >= f
     .rw[if_pos hf]
      obtain rfl:l=f:=by omega
      exact wpS_pure ⟨rfl,l,rfl,g2,g4,g5⟩
     .rw[if_neg hf]
      refine wpS_bind (ask (l+(f-l)/2) (by omega) _ ?_);cases hm:b (l+(f-l)/2) with
      |true=>exact wpS_pure ⟨rfl,_,_,rfl,by omega,g2,by omega,λi hi=>mono i _ (by exact eF (by assumption)) (by omega) hm,g5⟩
      |false=>exact wpS_pure ⟨rfl,_,_,rfl,by omega,by omega,by omega,g4,λi hi hn=>up _ i hi hn hm⟩
    .rintro c Zw ⟨rfl,l,f,rfl,g1,g2,g3,g4,g5⟩
     obtain rfl:l=f:=by omega
     exact⟨rfl,l,rfl,g2,g4,g5⟩
    .rintro c Zw ⟨rfl,l,rfl,g2,g4,g5⟩
     exact wpS_pure (q l g2 g4 g5)
end
structure Jn(lt:Keyed->Keyed->Prop)(T out A B:List Keyed):Prop where
 p:(out++(A++B)).Perm T
 a:(out++A).Pairwise lt
 b:(out++B).Pairwise lt
section
variable {lt:Keyed->Keyed->Prop}{T out A B A1 A2:List Keyed}{x y:Keyed}
theorem Jn.sym(j:Jn lt T out A B):Jn lt T out B A:=⟨(List.perm_append_comm.append_left out).trans j.p,j.b,j.a⟩
theorem Jn.mv(j:Jn lt T out (A1++A2) B)(h:∀x∈A1,∀y∈B,lt x y):Jn lt T (out++A1) A2 B:=by
 have ha:=j.a;have hb:=j.b;rw[<-aU]at ha;refine⟨by rw[aU,<-aU A1];exact j.p,ha,?_⟩;rw[dy]at ha hb ⊢;refine⟨ha.1,hb.2.1,λx hx y hy=>?_⟩;rcases aV.mp hx with hx |hx
 .exact hb.2.2 x hx y hy
 .exact h x hx y hy
theorem Jn.m1(j:Jn lt T out (x::A2) B)(h:∀y∈B,lt x y):Jn lt T (out++[x]) A2 B:=Jn.mv (A1:= [x]) j λz hz y hy=>by rw[bL.mp hz];exact h y hy
theorem Jn.fin(j:Jn lt T out A []):(out++A).Perm T/\(out++A).Pairwise lt:=⟨by have:=j.p;rwa[bP]at this,j.a⟩
theorem Jn.las(j:Jn lt T out A B)(h:∀x∈A,∀y∈B,lt x y):(out++A++B).Perm T/\(out++A++B).Pairwise lt:=(Jn.mv (A2:= []) (by rw[bP];exact j) h).sym.fin
theorem Jn.hd(j:Jn lt T out (x::A) B):∀y∈A,lt x y:=(kj.mp (dy.mp j.a).2.1).1
theorem Jn.ln(j:Jn lt T out A B):out.length+(A.length+B.length)=T.length:=by
 have:=j.p.length_eq;rwa[bo,bo]at this
end
def Eg(st Z':SortSt):Prop:=kindOf Z'=kindOf st/\arrOf Z'=arrOf st/\pendingOf Z'=pendingOf st/\failedOf Z'=failedOf st
theorem Eg.refl(st:SortSt):Eg st st:=⟨rfl,rfl,rfl,rfl⟩
variable{i:Nat}{a:Array Keyed}
theorem uZ(h:i<a.size):∃x,a[i]?=some x/\x∈a.toList/\a.toList.drop i=x::a.toList.drop (i+1):=
 ⟨a[i],fe h,by simp,by rw[dW (by simpa using h)];simp⟩
theorem ph(h0:0<i)(h:i<=a.size):∃x,a[i-1]?=some x/\x∈a.toList/\(a.toList.take i).reverse=x::(a.toList.take (i-1)).reverse:=by
 obtain⟨j,rfl⟩ :∃j,i=j+1:=⟨i-1,by omega⟩;rw[Nat.add_sub_cancel];have hj:j<a.toList.length:=by rw[bX];exact h
 exact⟨a[j],fe h,by simp,by rw[List.take_succ_eq_append_getElem hj];simp⟩
theorem B6(a:Array Keyed)(i:Nat):(a.extract i).toList=a.toList.drop i:=by
 simp only[Array.toList_extract,fh];exact dI (by simp)
theorem BN(a:Array Keyed)(i j:Nat):(a.extract i j).toList=(a.toList.drop i).take (j-i):=by simp[fh]
section
variable {M:Model}{A:Around}{E:Value->Shared->Prop}{s:Shared}{κ:SortKind}{r:Keyed->Nat}{D:Keyed->Prop}{st:SortSt}
variable (o:zB M A E s κ r D)
include o
theorem Cb{left:Bool}{key:Keyed}{arr:Array Keyed}{base n hint:Nat}{Q:Option Nat->SortSt->Prop}{L:List Keyed}(hL:(arr.toList.drop base).take n=L)(hn:base+n<=arr.size)(sr:L.Pairwise λx y=>r x<r y)(dl:∀x∈L,D x)(ne:∀x∈L,r x≠r key)
  (hh:hint<n) (hk:kindOf st=κ) (dk:D key) (q:∀L1 Lb,L=L1++Lb->(∀x∈L1,r x<r key)->(∀x∈Lb,r key<r x)->Q (some L1.length) st):wpS M A E s (gal left key arr base n hint) Q st:=by
 have ll:L.length=n:=by rw[<-hL];simp;omega
 have gt:∀i (h:i<n),arr[base+i]?=some (L[i]'(by omega)):=λi h=>by
  have:L[i]?=some (L[i]'(by omega)):=aI _;rw[<-this,<-hL,qJ,if_pos h,List.getElem?_drop,dh]
 refine Np o (b:=λi=>decide (r (L.getD i key)<r key)) (λi hi=>⟨_,gt i hi,dl _ (bR _),?_⟩) (λi j Yz hj h=>?_) hh hk dk λk Us h1 h2=>?_
 .have hl:i<L.length:=by omega
  have e:L.getD i key=L[i]:=by simp[hl]
  have ZI:=ne _ (bR hl);rw[e];cases left with
  |true=>rfl
  | false=>
    show(!decide (r key<r L[i]))=decide (r L[i]<r key);by_cases h:r L[i]<r key
    .rw[decide_eq_true h,decide_eq_false (by omega)];rfl
    .rw[decide_eq_false h,decide_eq_true (by omega)];rfl
 .have ZH:i<L.length:=by omega
  have ZC:j<L.length:=by omega
  have e1:L.getD i key=L[i]:=by simp[ZH]
  have e2:L.getD j key=L[j]:=by simp[ZC]
  simp only[e1,e2,decide_eq_true_eq]at h ⊢;rcases Fy i j with g|g
  .have:=dg.mp sr i j ZH ZC g
   exact bg (by assumption) (by assumption)
  .obtain rfl:i=j:=by omega
   exact h
 .have:=q (L.take k) (L.drop k) (jg k L).symm (λx hx=>?_) λx hx=>?_
  .rwa[fF,nU (by omega)]at this
  .obtain⟨i,hi,rfl⟩:=oW.mp hx
   rw[fF]at hi;have:=h1 i (by omega);have e1:L.getD i key=L[i]'(by omega):=by simp[show i<L.length by omega]
   simp only[e1,decide_eq_true_eq]at this;simpa using this
  .obtain⟨i,hi,rfl⟩:=oW.mp hx
   rw[List.length_drop]at hi;have:=h2 (k+i) (by omega) (by omega);have hl:k+i<L.length:=by omega
   have e1:L.getD (k+i) key=L[k+i]'(by assumption):=by simp[hl]
   simp only[e1,decide_eq_false_iff_not]at this;have ZI:=ne _ (bR hl);simp only[List.getElem_drop];omega
end
section
variable {M:Model}{A:Around}{E:Value->Shared->Prop}{s:Shared}{κ:SortKind}{r:Keyed->Nat}{D:Keyed->Prop}{st:SortSt}
variable (o:zB M A E s κ r D)
include o
theorem Pp{a b:Array Keyed}{Q:Array Keyed->SortSt->Prop}(hk:kindOf st=κ)(h1:0<a.size)(h2:0<b.size)(sa:a.toList.Pairwise λx y=>r x<r y)(sb:b.toList.Pairwise λx y=>r x<r y)(ne:∀x∈a.toList,∀y∈b.toList,r x≠r y)(da:∀x∈a.toList,D x)(db:∀x∈b.toList,D x)
  (fst:∀y,b[0]?=some y->∀x∈a.toList,r y<r x) (lst:∀x,a[a.size-1]?=some x->∀y∈b.toList,r y<r x)
  (q:∀out Z',Eg st Z'->out.toList.Perm (a.toList++b.toList)->(out.toList.Pairwise λx y=>r x<r y)->Q out Z'):wpS M A E s (mLo a b) Q st:=by
 have dn:∀{out:Array Keyed}{i:Nat},Jn (λx y=>r x<r y) (a.toList++b.toList) out.toList (a.toList.drop i) []->∀{j:Nat},b.toList.drop j=[]->(out++a.extract i++b.extract j).toList.Perm (a.toList++b.toList)/\(out++a.extract i++b.extract j).toList.Pairwise λx y=>r x<r y:=λ{out i} J {j} hj=>by
  rw[bO,bO,B6,B6,hj,bP];exact J.fin
 have dn2:∀{out:Array Keyed}{i:Nat},Jn (λx y=>r x<r y) (a.toList++b.toList) out.toList [] (b.toList.drop i)->∀{j:Nat},a.toList.drop j=[]->(out++a.extract j++b.extract i).toList.Perm (a.toList++b.toList)/\(out++a.extract j++b.extract i).toList.Pairwise λx y=>r x<r y:=λ{out i} J {j} hj=>by
  rw[bO,bO,B6,B6,hj,bP];exact J.sym.fin
 have ls:∀{out:Array Keyed}{i j:Nat},Jn (λx y=>r x<r y) (a.toList++b.toList) out.toList (a.toList.drop i) (b.toList.drop j)->i+1=a.size->(out++b.extract j++a.extract i).toList.Perm (a.toList++b.toList)/\(out++b.extract j++a.extract i).toList.Pairwise λx y=>r x<r y:=λ{out i j} J hi=>by
  rw[bO,bO,B6,B6];refine J.sym.las λx hx y hy=>?_;obtain⟨z,z1,z2,z3⟩:=uZ (a:=a) (i:=i) (by exact Nat.le_of_eq (by assumption));rw[z3,cY (by simp;omega)]at hy;rw[bL.mp hy];exact lst z (by rw[show a.size-1=i by omega];exact z1) x (gL hx)
 unfold mLo;refine wpS_bind (wpS_lift (gy ⟨rfl,?_⟩));obtain⟨y0,e0,m0,d0⟩:=uZ h2;refine wpS_bind (ju e0 ?_);dsimp only;have J0:Jn (λx y=>r x<r y) (a.toList++b.toList) (#[y0]:Array Keyed).toList (a.toList.drop 0) (b.toList.drop 1):=by
  refine Jn.sym (Jn.m1 (out:= []) (x:=y0) ⟨?_,?_,?_⟩ λx hx=>fst y0 e0 x hx)
  .rw[dR,<-d0,yM];exact List.perm_append_comm
  .rw[dR,<-d0];exact sb
  .exact sa
 by_cases c1:1=b.size
 .rw[if_pos (by simpa using c1)]
  have hd:b.toList.drop 1=[]:=cY (by simp;omega);rw[hd]at J0;exact wpS_pure (q _ _ (.refl _) (dn J0 hd).1 (dn J0 hd).2)
 rw[if_neg (by simpa using c1)];by_cases c2:0+1=a.size
 .rw[if_pos (by simpa using c2)]
  exact wpS_pure (q _ _ (.refl _) (ls J0 c2).1 (ls J0 c2).2)
 rw[if_neg (by simpa using c2)];refine wpS_bind (wpS_get ?_);have KK:∀{Z'},Eg st Z'->kindOf Z'=κ:=λg=>g.1.trans hk
 refine wpS_bind (wpS_mono (wpS_forRange
  (I:=λx c Z'=>Eg st Z' /\ ∃out i j mg,c=(none,out,i,j,mg)/\Jn (λx y=>r x<r y) (a.toList++b.toList) out.toList (a.toList.drop i) (b.toList.drop j)/\i+1<a.size/\j<b.size/\x+1<=i+j)
  (Q:=λc Z'=>Eg st Z' /\ ∃out c',c=(some out,c')/\out.toList.Perm (a.toList++b.toList)/\out.toList.Pairwise λx y=>r x<r y)
  ?_ ?_ ⟨.refl _,_,0,1,_,rfl,J0,by exact bp (by assumption) (by assumption),by exact bp (by assumption) (by assumption),by decide⟩) ?_)
 .rintro x c ZK _ hx ⟨g1,out,i,j,mg,rfl,J,hi,hj,hp⟩
  dsimp only
  refine wpS_bind (wpS_mono (wpS_forRange
   (I:=λy c Z'=>Eg st Z' /\ ∃out i j c',c=(none,out,i,j,c')/\Jn (λx y=>r x<r y) (a.toList++b.toList) out.toList (a.toList.drop i) (b.toList.drop j)/\i+1<a.size/\j<b.size/\x+1+min y 1<=i+j)
   (Q:=λc Z'=>Eg st Z'/\((∃out i j c',c=(none,out,i,j,c')/\Jn (λx y=>r x<r y) (a.toList++b.toList) out.toList (a.toList.drop i) (b.toList.drop j)/\i+1<a.size/\j<b.size/\x+2<=i+j) \/ ∃out c',c=(some out,c')/\out.toList.Perm (a.toList++b.toList)/\out.toList.Pairwise λx y=>r x<r y))
   ?_ ?_ ⟨g1,_,_,_,_,rfl,J,hi,hj,by assumption⟩) ?_)
  .rintro y c Zy _ hy ⟨g2,out,i,j,c',rfl,J,hi,hj,hp⟩
   dsimp only;obtain⟨u,u1,u2,u3⟩:=uZ hj;obtain⟨v,v1,v2,v3⟩:=uZ (a:=a) (i:=i) (by exact aE (by assumption));refine wpS_bind (ju u1 (wpS_bind (ju v1 (wpS_bind (o _ _ _ _ (KK g2) (db u u2) (da v v2) ?_)))));rw[u3,v3]at J;have ZI:=ne v v2 u u2;by_cases hl:r u<r v
   .rw[decide_eq_true hl]
    dsimp only;rw[if_pos rfl];refine wpS_bind (ju u1 ?_)
    have J':=J.sym.m1 (λz hz=>by
     rcases aD.mp hz with rfl|hz
     .exact hl
     ·exact bg hl (J.hd z hz))
    rw[<-v3,<-dG]at J';have J':=J'.sym;by_cases e:j+1=b.size
    .rw[if_pos (by simpa using e)]
     have hd:b.toList.drop (j+1)=[]:=cY (by simp;omega);rw[hd]at J';exact wpS_pure ⟨g2,.inr ⟨_,_,rfl,dn J' hd⟩⟩
    .rw[if_neg (by simpa using e)]
     split
     .exact wpS_pure ⟨g2,.inl ⟨_,_,_,_,rfl,J',hi,by exact bp (by assumption) (by assumption),by omega⟩⟩
     .exact wpS_pure ⟨g2,_,_,_,_,rfl,J',hi,by exact bp (by assumption) (by assumption),by omega⟩
   .rw[decide_eq_false hl]
    dsimp only;rw[if_neg (by decide)];refine wpS_bind (ju v1 ?_)
    have J':=J.m1 (λz hz=>by
     rcases aD.mp hz with rfl|hz
     .omega
     ·exact bg (show r v<r u by omega) (J.sym.hd z hz))
    rw[<-u3,<-dG]at J';by_cases e:i+1+1=a.size
    .rw[if_pos (by simpa using e)]
     exact wpS_pure ⟨g2,.inr ⟨_,_,rfl,ls J' e⟩⟩
    .rw[if_neg (by simpa using e)]
     split
     .exact wpS_pure ⟨g2,.inl ⟨_,_,_,_,rfl,J',by exact bp (by assumption) (by assumption),hj,by omega⟩⟩
     .exact wpS_pure ⟨g2,_,_,_,_,rfl,J',by exact bp (by assumption) (by assumption),hj,by omega⟩
  .rintro c Zy ⟨g2,out,i,j,c',rfl,J,hi,hj,hp⟩
   exact⟨g2,.inl ⟨_,_,_,_,rfl,J,hi,hj,by omega⟩⟩
  .rintro c Zy ⟨g2,⟨out,i,j,⟨ac,bc⟩,rfl,J,hi,hj,hp⟩|⟨out,⟨o1,i,j,ac,bc⟩,rfl,h⟩⟩
   .dsimp only
    refine wpS_bind (wpS_lift (gy ⟨rfl,?_⟩))
    refine wpS_bind (wpS_mono (wpS_forRange
     (I:=λy c Z'=>Eg st Z' /\ ∃out i j c',c=(none,out,i,j,c')/\Jn (λx y=>r x<r y) (a.toList++b.toList) out.toList (a.toList.drop i) (b.toList.drop j)/\i+1<a.size/\j<b.size/\x+2<=i+j)
     (Q:=λc Z'=>Eg st Z'/\((∃out i j c',c=(none,out,i,j,c')/\Jn (λx y=>r x<r y) (a.toList++b.toList) out.toList (a.toList.drop i) (b.toList.drop j)/\i+1<a.size/\j<b.size/\x+2<=i+j) \/ ∃out c',c=(some out,c')/\out.toList.Perm (a.toList++b.toList)/\out.toList.Pairwise λx y=>r x<r y))
     ?_ ?_ ⟨g2,_,_,_,_,rfl,J,hi,hj,hp⟩) ?_)
    .clear J hi hj hp
     rintro y c ZL _ hy ⟨g3,out,i,j,⟨mg,ac,bc⟩,rfl,J,hi,hj,hp⟩;dsimp only;obtain⟨u,u1,u2,u3⟩:=uZ hj;refine have H:∀m:Nat,(?P1:Nat->Prop) m:= ?h1;?k1
     case k1=>
      by_cases c:mg>1
      .rw[if_pos c]
       generalize mg-1=m;exact H m
      .rw[if_neg c]
       exact H mg
     intro m;refine wpS_bind (wpS_modify (wpS_bind (ju u1 (wpS_bind (Cb o (arr:=a) (base:=i) (n:=a.size-i) (L:=a.toList.drop i) (dI (by simp)) (by omega) (sa.sublist (List.drop_sublist _ _)) (λz hz=>da z (gL hz)) (λz hz=>ne z (gL hz) u u2) (by omega) (KK g3) (db u u2) λL1 Lb eL f1 f2=>?_)))));have ll:L1.length+Lb.length=a.size-i:=by
      have:=congrArg gK eL;simpa using this.symm
     have ed:a.toList.drop (i+L1.length)=Lb:=by rw[<-kl,eL,dJ]
     have et:(a.extract i (i+L1.length)).toList=L1:=by rw[BN,dB,eL,eS]
     rw[eL,u3]at J
     have J1:=J.mv (λz hz w hw=>by
      rcases aD.mp hw with rfl|hw
      .exact f1 z hz
      ·exact bg (f1 z hz) (J.sym.hd w hw))
     dsimp only;refine have H:∀(out:Array Keyed) (i:Nat),Jn (λx y=>r x<r y) (a.toList++b.toList) out.toList (a.toList.drop i) (u::b.toList.drop (j+1))->(∀z∈a.toList.drop i,r u<r z)->i+1<a.size->x+2<=i+j->(?P2:Array Keyed->Nat->Prop) out i:= ?h2;?k2
     case k2=>
      by_cases c:L1.length>0
      .rw[if_pos c]
       rw[<-et,<-bO (xs:=out),<-ed]at J1;rw[<-ed]at f2;generalize out++a.extract i (i+L1.length)=out2 at J1;by_cases c2:i+L1.length+1=a.size
       .rw[if_pos (by simpa using c2)]
        rw[<-u3]at J1;exact wpS_pure ⟨g3,.inr ⟨_,_,rfl,ls J1 c2⟩⟩
       .rw[if_neg (by simpa using c2)]
        by_cases c3:i+L1.length=a.size
        .rw[if_pos (by simpa using c3)]
         rw[cY (by simp;omega),<-u3]at J1;exact wpS_pure ⟨g3,.inr ⟨_,_,rfl,dn2 J1 (cY (by simp;omega))⟩⟩
        .rw[if_neg (by simpa using c3)]
         have h3:i+L1.length+1<a.size:=by omega
         have h4:x+2<=i+L1.length+j:=by omega
         generalize i+L1.length=i2 at J1 f2 h3 h4;exact H out2 i2 J1 f2 h3 h4
      .rw[if_neg c]
       obtain rfl:L1=[]:=bY.mp (by omega);rw[bP,<-ed]at J1;rw[<-ed]at f2;exact H out i J1 f2 hi hp
     clear J J1 ed et eL f1 f2 ll hi hp;intro out i J f2 hi hp;refine wpS_bind (ju u1 ?_);have J:=J.sym.m1 f2;rw[<-dG]at J;by_cases c:j+1=b.size
     .rw[if_pos (by simpa using c)]
      have hd:b.toList.drop (j+1)=[]:=cY (by simp;omega);rw[hd]at J;exact wpS_pure ⟨g3,.inr ⟨_,_,rfl,dn J.sym hd⟩⟩
     rw[if_neg (by simpa using c)];obtain⟨v,v1,v2,v3⟩:=uZ (a:=a) (i:=i) (by exact aE (by assumption));refine wpS_bind (ju v1 (wpS_bind (Cb o (arr:=b) (base:=j+1) (n:=b.size-(j+1)) (L:=b.toList.drop (j+1)) (dI (by simp)) (by omega) (sb.sublist (List.drop_sublist _ _)) (λz hz=>db z (gL hz)) (λz hz=>(ne v v2 z (gL hz)).symm) (by omega) (KK g3) (da v v2) λM1 M2 eM k1 k2=>?_)));have ll:M1.length+M2.length=b.size-(j+1):=by
      have:=congrArg gK eM;simpa using this.symm
     have ed:b.toList.drop (j+1+M1.length)=M2:=by rw[<-kl,eM,dJ]
     have et:(b.extract (j+1) (j+1+M1.length)).toList=M1:=by rw[BN,dB,eM,eS]
     rw[eM,v3]at J
     have J1:=J.mv (λz hz w hw=>by
      rcases aD.mp hw with rfl|hw
      .exact k1 z hz
      ·exact bg (k1 z hz) (J.sym.hd w hw))
     dsimp only;generalize out.push u=out1 at J1 J;refine have H:∀(out:Array Keyed) (j:Nat),Jn (λx y=>r x<r y) (a.toList++b.toList) out.toList (v::a.toList.drop (i+1)) (b.toList.drop j)->(∀z∈b.toList.drop j,r v<r z)->j<b.size->x+2<=i+j->(?P3:Array Keyed->Nat->Prop) out j:= ?h3;?k3
     case k3=>
      by_cases c:M1.length>0
      .rw[if_pos c]
       rw[<-et,<-bO (xs:=out1),<-ed]at J1;rw[<-ed]at k2;generalize out1++b.extract (j+1) (j+1+M1.length)=out2 at J1;by_cases c2:j+1+M1.length=b.size
       .rw[if_pos (by simpa using c2)]
        have hd:b.toList.drop (j+1+M1.length)=[]:=cY (by simp;omega);rw[hd,<-v3]at J1;exact wpS_pure ⟨g3,.inr ⟨_,_,rfl,dn J1.sym hd⟩⟩
       .rw[if_neg (by simpa using c2)]
        have h3:j+1+M1.length<b.size:=by omega
        have h4:x+2<=i+(j+1+M1.length):=by omega
        generalize j+1+M1.length=j2 at J1 k2 h3 h4;exact H out2 j2 J1.sym k2 h3 h4
      .rw[if_neg c]
       obtain rfl:M1=[]:=bY.mp (by omega);rw[bP,<-ed]at J1;rw[<-ed]at k2;have h3:j+1+0<b.size:=by exact bp (by assumption) (by assumption)
       have h4:x+2<=i+(j+1+0):=by exact eG (by assumption)
       exact H out1 (j+1) J1.sym k2 h3 h4
     clear J J1 ed et eM k1 k2 ll;intro out j J k2 hj hp;refine wpS_bind (ju v1 ?_);have J:=J.m1 k2;rw[<-dG]at J;by_cases c:i+1+1=a.size
     .rw[if_pos (by simpa using c)]
      exact wpS_pure ⟨g3,.inr ⟨_,_,rfl,ls J c⟩⟩
     rw[if_neg (by simpa using c)]
     split
     .exact wpS_pure ⟨g3,.inl ⟨_,_,_,_,rfl,J,by exact bp (by assumption) (by assumption),hj,by omega⟩⟩
     .exact wpS_pure ⟨g3,_,_,_,_,rfl,J,by exact bp (by assumption) (by assumption),hj,by omega⟩
    .rintro c ZL ⟨g3,h⟩
     exact⟨g3,.inl h⟩
    .rintro c ZL ⟨g3,⟨out,i,j,⟨mg,ac,bc⟩,rfl,J,hi,hj,hp⟩|⟨out,⟨o1,i,j,mg,ac,bc⟩,rfl,h⟩⟩
     .exact wpS_bind (wpS_modify (wpS_pure ⟨g3,_,_,_,_,rfl,J,hi,hj,by assumption⟩))
     .exact wpS_pure ⟨g3,_,_,rfl,h⟩
   .exact wpS_pure ⟨g2,_,_,rfl,h⟩
 .rintro c ZK ⟨g1,out,i,j,mg,rfl,J,hi,hj,hp⟩
  omega
 .rintro c ZK ⟨g1,out,c',rfl,h⟩
  exact wpS_pure (q _ _ g1 h.1 h.2)
end
theorem rvs{r:Keyed->Nat}{T L:List Keyed}(h:L.Perm T/\L.Pairwise λx y=>r y<r x):L.reverse.Perm T/\L.reverse.Pairwise λx y=>r x<r y:=⟨(tH L).trans h.1,nW.mpr h.2⟩
section
variable {M:Model}{A:Around}{E:Value->Shared->Prop}{s:Shared}{κ:SortKind}{r:Keyed->Nat}{D:Keyed->Prop}{st:SortSt}
variable (o:zB M A E s κ r D)
include o
theorem Pl{a b:Array Keyed}{Q:Array Keyed->SortSt->Prop}(hk:kindOf st=κ)(h1:0<a.size)(h2:0<b.size)(sa:a.toList.Pairwise λx y=>r x<r y)(sb:b.toList.Pairwise λx y=>r x<r y)(ne:∀x∈a.toList,∀y∈b.toList,r x≠r y)(da:∀x∈a.toList,D x)(db:∀x∈b.toList,D x)
  (fst:∀y,b[0]?=some y->∀x∈a.toList,r y<r x) (lst:∀x,a[a.size-1]?=some x->∀y∈b.toList,r y<r x)
  (q:∀out Z',Eg st Z'->out.toList.Perm (a.toList++b.toList)->(out.toList.Pairwise λx y=>r x<r y)->Q out Z'):wpS M A E s (mHi a b) Q st:=by
 have dn:∀{out:Array Keyed}{i:Nat},Jn (λx y=>r y<r x) (a.toList++b.toList) out.toList (a.toList.take i).reverse []->(a.extract 0 i++b.extract 0 0++out.reverse).toList.Perm (a.toList++b.toList)/\(a.extract 0 i++b.extract 0 0++out.reverse).toList.Pairwise λx y=>r x<r y:=λ{out i} J=>by
  have:=rvs J.fin;simpa [fh]using this
 have dn2:∀{out:Array Keyed}{i:Nat},Jn (λx y=>r y<r x) (a.toList++b.toList) out.toList [] (b.toList.take i).reverse->(a.extract 0 0++b.extract 0 i++out.reverse).toList.Perm (a.toList++b.toList)/\(a.extract 0 0++b.extract 0 i++out.reverse).toList.Pairwise λx y=>r x<r y:=λ{out i} J=>by
  have:=rvs J.sym.fin;simpa [fh]using this
 have ls:∀{out:Array Keyed}{i:Nat},Jn (λx y=>r y<r x) (a.toList++b.toList) out.toList (a.toList.take i).reverse (b.toList.take 1).reverse->(b.extract 0 1++a.extract 0 i++out.reverse).toList.Perm (a.toList++b.toList)/\(b.extract 0 1++a.extract 0 i++out.reverse).toList.Pairwise λx y=>r x<r y:=λ{out i} J=>by
  have:=rvs (J.las λx hx y hy=>by
   obtain⟨z,z1,z2,z3⟩:=ph (a:=b) (i:=1) (by decide) (by assumption);rw[z3]at hy;have hy:y=z:=by simpa using hy
   rw[hy]
   exact fst z z1 x (gM (eK.mp hx)))
  simpa [fh]using this
 unfold mHi;refine wpS_bind (wpS_lift (gy ⟨rfl,?_⟩));obtain⟨y0,e0,m0,d0⟩:=ph h1 (ao _);refine wpS_bind (ju e0 ?_);dsimp only;have J0:Jn (λx y=>r y<r x) (a.toList++b.toList) (#[y0]:Array Keyed).toList (a.toList.take (a.size-1)).reverse (b.toList.take b.size).reverse:=by
  have ea:(a.toList.take a.size).reverse=a.toList.reverse:=by rw[dI (by simp)]
  have eb:(b.toList.take b.size).reverse=b.toList.reverse:=by rw[dI (by simp)]
  rw[eb];refine Jn.m1 (out:= []) (x:=y0) ⟨?_,?_,?_⟩ λx hx=>lst y0 e0 x (eK.mp hx)
  .rw[dR,<-d0,ea];exact(tH _).append (tH _)
  .rw[dR,<-d0,ea];exact nW.mpr sa
  .exact nW.mpr sb
 by_cases c1:a.size-1=0
 .rw[if_pos (by simpa using c1)]
  rw[c1]at J0 ⊢;exact wpS_pure (q _ _ (.refl _) (dn2 J0).1 (dn2 J0).2)
 rw[if_neg (by simpa using c1)];by_cases c2:b.size=1
 .rw[if_pos (by simpa using c2)]
  rw[c2]at J0 ⊢;exact wpS_pure (q _ _ (.refl _) (ls J0).1 (ls J0).2)
 rw[if_neg (by simpa using c2)];refine wpS_bind (wpS_get ?_);have KK:∀{Z'},Eg st Z'->kindOf Z'=κ:=λg=>g.1.trans hk
 refine wpS_bind (wpS_mono (wpS_forRange
  (I:=λx c Z'=>Eg st Z' /\ ∃out i j mg,c=(none,i,j,out,mg)/\Jn (λx y=>r y<r x) (a.toList++b.toList) out.toList (a.toList.take i).reverse (b.toList.take j).reverse/\0<i/\i<a.size/\1<j/\j<=b.size/\i+j+(x+1)<=a.size+b.size)
  (Q:=λc Z'=>Eg st Z' /\ ∃out c',c=(some out,c')/\out.toList.Perm (a.toList++b.toList)/\out.toList.Pairwise λx y=>r x<r y)
  ?_ ?_ ⟨.refl _,_,_,_,_,rfl,J0,by exact fU (by assumption),by omega,by omega,by exact ao _,by omega⟩) ?_)
 .rintro x c ZK _ hx ⟨g1,out,i,j,mg,rfl,J,hi,ZH,hj,ZC,hp⟩
  dsimp only
  refine wpS_bind (wpS_mono (wpS_forRange
   (I:=λy c Z'=>Eg st Z' /\ ∃out i j c',c=(none,i,j,out,c')/\Jn (λx y=>r y<r x) (a.toList++b.toList) out.toList (a.toList.take i).reverse (b.toList.take j).reverse/\0<i/\i<a.size/\1<j/\j<=b.size/\i+j+(x+1+min y 1)<=a.size+b.size)
   (Q:=λc Z'=>Eg st Z'/\((∃out i j c',c=(none,i,j,out,c')/\Jn (λx y=>r y<r x) (a.toList++b.toList) out.toList (a.toList.take i).reverse (b.toList.take j).reverse/\0<i/\i<a.size/\1<j/\j<=b.size/\i+j+(x+2)<=a.size+b.size) \/ ∃out c',c=(some out,c')/\out.toList.Perm (a.toList++b.toList)/\out.toList.Pairwise λx y=>r x<r y))
   ?_ ?_ ⟨g1,_,_,_,_,rfl,J,hi,ZH,hj,ZC,by assumption⟩) ?_)
  .rintro y c Zy _ hy ⟨g2,out,i,j,c',rfl,J,hi,ZH,hj,ZC,hp⟩
   dsimp only;obtain⟨u,u1,u2,u3⟩:=ph (a:=b) (i:=j) (by exact aE (by assumption)) ZC;obtain⟨v,v1,v2,v3⟩:=ph (a:=a) (i:=i) hi (by exact aE (by assumption));refine wpS_bind (ju u1 (wpS_bind (ju v1 (wpS_bind (o _ _ _ _ (KK g2) (db u u2) (da v v2) ?_)))));rw[u3,v3]at J;have ZI:=ne v v2 u u2;by_cases hl:r u<r v
   .rw[decide_eq_true hl]
    dsimp only;rw[if_pos rfl];refine wpS_bind (ju v1 ?_)
    have J':=J.m1 (λz hz=>by
     rcases aD.mp hz with rfl|hz
     .exact hl
     ·exact bg (J.sym.hd z hz) hl)
    rw[<-u3,<-dG]at J';by_cases e:i-1=0
    .rw[if_pos (by simpa using e)]
     rw[e]at J' ⊢;exact wpS_pure ⟨g2,.inr ⟨_,_,rfl,dn2 J'⟩⟩
    .rw[if_neg (by simpa using e)]
     split
     .exact wpS_pure ⟨g2,.inl ⟨_,_,_,_,rfl,J',by exact fU (by assumption),by omega,by assumption,by assumption,by omega⟩⟩
     .exact wpS_pure ⟨g2,_,_,_,_,rfl,J',by exact fU (by assumption),by omega,by assumption,by assumption,by omega⟩
   .rw[decide_eq_false hl]
    dsimp only;rw[if_neg (by decide)];refine wpS_bind (ju u1 ?_)
    have J':=J.sym.m1 (λz hz=>by
     rcases aD.mp hz with rfl|hz
     .omega
     ·exact bg (J.hd z hz) (show r v<r u by omega))
    rw[<-v3,<-dG]at J';have J':=J'.sym;by_cases e:j-1=1
    .rw[if_pos (by simpa using e)]
     rw[e]at J' ⊢;exact wpS_pure ⟨g2,.inr ⟨_,_,rfl,ls J'⟩⟩
    .rw[if_neg (by simpa using e)]
     split
     .exact wpS_pure ⟨g2,.inl ⟨_,_,_,_,rfl,J',by assumption,by assumption,by omega,by omega,by omega⟩⟩
     .exact wpS_pure ⟨g2,_,_,_,_,rfl,J',by assumption,by assumption,by omega,by omega,by omega⟩
  .rintro c Zy ⟨g2,out,i,j,c',rfl,J,hi,ZH,hj,ZC,hp⟩
   exact⟨g2,.inl ⟨_,_,_,_,rfl,J,hi,ZH,hj,ZC,by omega⟩⟩
  .rintro c Zy ⟨g2,⟨out,i,j,⟨ac,bc⟩,rfl,J,hi,ZH,hj,ZC,hp⟩|⟨out,⟨i,j,o1,ac,bc⟩,rfl,h⟩⟩
   .dsimp only
    refine wpS_bind (wpS_lift (gy ⟨rfl,?_⟩))
    refine wpS_bind (wpS_mono (wpS_forRange
     (I:=λy c Z'=>Eg st Z' /\ ∃out i j c',c=(none,i,j,out,c')/\Jn (λx y=>r y<r x) (a.toList++b.toList) out.toList (a.toList.take i).reverse (b.toList.take j).reverse/\0<i/\i<a.size/\1<j/\j<=b.size/\i+j+(x+2)<=a.size+b.size)
     (Q:=λc Z'=>Eg st Z'/\((∃out i j c',c=(none,i,j,out,c')/\Jn (λx y=>r y<r x) (a.toList++b.toList) out.toList (a.toList.take i).reverse (b.toList.take j).reverse/\0<i/\i<a.size/\1<j/\j<=b.size/\i+j+(x+2)<=a.size+b.size) \/ ∃out c',c=(some out,c')/\out.toList.Perm (a.toList++b.toList)/\out.toList.Pairwise λx y=>r x<r y))
     ?_ ?_ ⟨g2,_,_,_,_,rfl,J,hi,ZH,hj,ZC,hp⟩) ?_)
    .clear J hi ZH hj ZC hp
     rintro y c ZL _ hy ⟨g3,out,i,j,⟨mg,ac,bc⟩,rfl,J,hi,ZH,hj,ZC,hp⟩;dsimp only;obtain⟨u,u1,u2,u3⟩:=ph (a:=b) (i:=j) (by exact aE (by assumption)) ZC;refine have H:∀m:Nat,(?P1:Nat->Prop) m:= ?h1;?k1
     case k1=>
      by_cases c:mg>1
      .rw[if_pos c]
       generalize mg-1=m;exact H m
      .rw[if_neg c]
       exact H mg
     intro m;refine wpS_bind (wpS_modify (wpS_bind (ju u1 (wpS_bind (Cb o (arr:=a) (base:=0) (n:=i) (L:=a.toList.take i) rfl (by omega) (sa.sublist (tF _ _)) (λz hz=>da z (gM hz)) (λz hz=>ne z (gM hz) u u2) (by omega) (KK g3) (db u u2) λL1 Lb eL f1 f2=>?_)))));generalize hl:L1.length=l;have ll:l+Lb.length=i:=by
      have:=congrArg gK eL;simp at this;omega
     have ed:a.toList.take l=L1:=by
      have e:=eS (l₁:=L1) (l₂:=Lb);rw[<-eL,List.take_take,hl,nU (by omega)]at e;exact e
     have et:(a.extract l i).reverse.toList=Lb.reverse:=by
      rw[Fz,BN,<-List.drop_take,eL,<-hl,dJ]
     subst ed;rw[eL,u3,List.reverse_append]at J
     have J1:=J.mv (λz hz w hw=>by
      rcases aD.mp hw with rfl|hw
      .exact f2 z (eK.mp hz)
      ·exact bg (J.sym.hd w hw) (f2 z (eK.mp hz)))
     have f1:∀z∈(a.toList.take l).reverse,r z<r u:=λz hz=>f1 z (eK.mp hz);clear J;dsimp only;refine have H:∀(out:Array Keyed) (i ac:Nat),Jn (λx y=>r y<r x) (a.toList++b.toList) out.toList (a.toList.take i).reverse (u::(b.toList.take (j-1)).reverse)->(∀z∈(a.toList.take i).reverse,r z<r u)->0<i->i<a.size->i+j+(x+2)<=a.size+b.size->(?P2:Array Keyed->Nat->Nat->Prop) out i ac:= ?h2;?k2
     case k2=>
      by_cases c:i-l>0
      .rw[if_pos c]
       rw[<-et,<-bO (xs:=out)]at J1;by_cases c2:l=0
       .rw[if_pos (by simpa using c2)]
        rw[<-u3]at J1;clear H;subst c2;exact wpS_pure ⟨g3,.inr ⟨_,_,rfl,dn2 J1⟩⟩
       .rw[if_neg (by simpa using c2)]
        generalize e3:out++(a.extract l i).reverse=out2;rw[e3]at J1;generalize e4:i-l=Ta;generalize e2:l=i2;exact H out2 i2 Ta (e2▸J1) (e2▸f1) (by omega) (by omega) (by omega)
      .rw[if_neg c]
       have:Lb=[]:=bY.mp (by omega);rw[this]at ll J1;have e:l=i:=by simpa using ll
       have f1:=f1;rw[e]at f1 J1;rw[List.reverse_nil,bP]at J1;exact H out i _ J1 f1 hi ZH hp
     clear J1 et eL f1 f2 ll hi ZH hp hl;intro out i Ta J f2 hi ZH hp;refine wpS_bind (ju u1 ?_);have J:=J.sym.m1 f2;rw[<-dG]at J;by_cases c:j-1=1
     .rw[if_pos (by simpa using c)]
      rw[c]at J ⊢;exact wpS_pure ⟨g3,.inr ⟨_,_,rfl,ls J.sym⟩⟩
     rw[if_neg (by simpa using c)];obtain⟨v,v1,v2,v3⟩:=ph (a:=a) (i:=i) hi (by exact aE (by assumption));refine wpS_bind (ju v1 (wpS_bind (Cb o (arr:=b) (base:=0) (n:=j-1) (L:=b.toList.take (j-1)) rfl (by omega) (sb.sublist (tF _ _)) (λz hz=>db z (gM hz)) (λz hz=>(ne v v2 z (gM hz)).symm) (by omega) (KK g3) (da v v2) λM1 M2 eM k1 k2=>?_)));generalize hl:M1.length=l;have ll:l+M2.length=j-1:=by
      have:=congrArg gK eM;simp at this;omega
     have ed:b.toList.take l=M1:=by
      have e:=eS (l₁:=M1) (l₂:=M2);rw[<-eM,List.take_take,hl,nU (by omega)]at e;exact e
     have et:(b.extract l (j-1)).reverse.toList=M2.reverse:=by
      rw[Fz,BN,<-List.drop_take,eM,<-hl,dJ]
     subst ed;rw[eM,v3,List.reverse_append]at J
     have J1:=J.mv (λz hz w hw=>by
      rcases aD.mp hw with rfl|hw
      .exact k2 z (eK.mp hz)
      ·exact bg (J.sym.hd w hw) (k2 z (eK.mp hz)))
     have k1:∀z∈(b.toList.take l).reverse,r z<r v:=λz hz=>k1 z (eK.mp hz);clear J;dsimp only;generalize out.push u=out1 at J1;refine have H:∀(out:Array Keyed) (j bc:Nat),Jn (λx y=>r y<r x) (a.toList++b.toList) out.toList (v::(a.toList.take (i-1)).reverse) (b.toList.take j).reverse->(∀z∈(b.toList.take j).reverse,r z<r v)->1<j->j<=b.size->i+j+(x+2)<=a.size+b.size->(?P3:Array Keyed->Nat->Nat->Prop) out j bc:= ?h3;?k3
     case k3=>
      by_cases c:j-1-l>0
      .rw[if_pos c]
       rw[<-et,<-bO (xs:=out1)]at J1;by_cases c2:l=1
       .rw[if_pos (by simpa using c2)]
        rw[<-v3]at J1;clear H;subst c2;exact wpS_pure ⟨g3,.inr ⟨_,_,rfl,ls J1.sym⟩⟩
       .rw[if_neg (by simpa using c2)]
        by_cases c3:l=0
        .rw[if_pos (by simpa using c3)]
         rw[<-v3]at J1;clear H;subst c3;exact wpS_pure ⟨g3,.inr ⟨_,_,rfl,dn J1.sym⟩⟩
        .rw[if_neg (by simpa using c3)]
         generalize e3:out1++(b.extract l (j-1)).reverse=out2;rw[e3]at J1;generalize e4:j-1-l=SD;generalize e2:l=j2;exact H out2 j2 SD (e2▸J1.sym) (e2▸k1) (by omega) (by omega) (by omega)
      .rw[if_neg c]
       have:M2=[]:=bY.mp (by omega);rw[this]at ll J1;have e:l=j-1:=by simpa using ll
       have k1:=k1;rw[e]at k1 J1;rw[List.reverse_nil,bP]at J1;exact H out1 (j-1) _ J1.sym k1 (by omega) (by omega) (by omega)
     clear J1 et eM k1 k2 ll hl;intro out j SD J k2 hj ZC hp;refine wpS_bind (ju v1 ?_);have J:=J.m1 k2;rw[<-dG]at J;by_cases c:i-1=0
     .rw[if_pos (by simpa using c)]
      rw[c]at J ⊢;exact wpS_pure ⟨g3,.inr ⟨_,_,rfl,dn2 J⟩⟩
     rw[if_neg (by simpa using c)]
     split
     .exact wpS_pure ⟨g3,.inl ⟨_,_,_,_,rfl,J,by exact fU (by assumption),by omega,by assumption,by assumption,by omega⟩⟩
     .exact wpS_pure ⟨g3,_,_,_,_,rfl,J,by exact fU (by assumption),by omega,by assumption,by assumption,by omega⟩
    .rintro c ZL ⟨g3,h⟩
     exact⟨g3,.inl h⟩
    .rintro c ZL ⟨g3,⟨out,i,j,⟨mg,ac,bc⟩,rfl,J,hi,ZH,hj,ZC,hp⟩|⟨out,⟨i,j,o1,mg,ac,bc⟩,rfl,h⟩⟩
     .exact wpS_bind (wpS_modify (wpS_pure ⟨g3,_,_,_,_,rfl,J,hi,ZH,hj,ZC,by assumption⟩))
     .exact wpS_pure ⟨g3,_,_,rfl,h⟩
   .exact wpS_pure ⟨g2,_,_,rfl,h⟩
 .rintro c ZK ⟨g1,out,i,j,mg,rfl,J,hi,ZH,hj,ZC,hp⟩
  omega
 .rintro c ZK ⟨g1,out,c',rfl,h⟩
  exact wpS_pure (q _ _ g1 h.1 h.2)
end
def kk(r:Keyed->Nat)(xs:Array Keyed)(i:Nat):Nat:=(xs[i]?.map r).getD 0
structure Bs(κ:SortKind)(r:Keyed->Nat)(D:Keyed->Prop)(a₀:Array Keyed)(st:SortSt):Prop where
 kind:kindOf st=κ
 fail:failedOf st=none
 perm:(arrOf st).toList.Perm a₀.toList
def Fs(r:Keyed->Nat)(D:Keyed->Prop)(a₀:Array Keyed):Prop:=(∀x∈a₀.toList,D x)/\(a₀.toList.map r).Nodup
def Asc(r:Keyed->Nat)(xs:Array Keyed)(i j:Nat):Prop:= ∀p q,i<=p->p<q->q<j->kk r xs p<kk r xs q
section
variable {M:Model}{A:Around}{E:Value->Shared->Prop}{s:Shared}{κ:SortKind}{r:Keyed->Nat}{D:Keyed->Prop}{st:SortSt}{a₀:Array Keyed}
theorem Bs.size(B:Bs κ r D a₀ st):(arrOf st).size=a₀.size:=by simpa using B.perm.length_eq
variable{xs:Array Keyed}
theorem Bs.arr(B:Bs κ r D a₀ st)(p:xs.toList.Perm (arrOf st).toList):Bs κ r D a₀ (setArr st xs):=⟨B.kind,B.fail,p.trans B.perm⟩
theorem uP(h:i<xs.size):kk r xs i=r xs[i]:=by simp[kk,h]
variable{j:Nat}
theorem Mm(nd:(xs.toList.map r).Nodup)(hi:i<xs.size)(hj:j<xs.size)(h:i≠j):kk r xs i≠kk r xs j:=by
 have nd:=dg.mp nd;rw[uP hi,uP hj];rcases Nat.lt_or_gt_of_ne h with g|g
 .have:=nd i j (by simpa using hi) (by simpa using hj) g
  rwa[gU,gU]at this
 .have:=nd j i (by simpa using hj) (by simpa using hi) g
  rw[gU,gU]at this;exact this.symm
theorem Bs.ne(B:Bs κ r D a₀ st)(F:Fs r D a₀)(hi:i<(arrOf st).size)(hj:j<(arrOf st).size)(h:i≠j):kk r (arrOf st) i≠kk r (arrOf st) j:=Mm ((B.perm.map r).nodup_iff.mpr F.2) hi hj h
theorem Asc.more(h:Asc r xs i j)(h1:i<j)(hk:kk r xs (j-1)<kk r xs j):Asc r xs i (j+1):=λp q hp Q2 hq=>by
 rcases il.mp hq with hq|rfl
 .exact h p q hp Q2 hq
 .by_cases e:p=q-1
  .rw[e];exact hk
  .exact bg (h p (q-1) hp (by omega) (by omega)) hk
variable (o:zB M A E s κ r D) (F:Fs r D a₀)
include o F
theorem CP{Q:Option Bool->SortSt->Prop}(B:Bs κ r D a₀ st)(hi:i<(arrOf st).size)(hj:j<(arrOf st).size)(q:Q (some (decide (kk r (arrOf st) i<kk r (arrOf st) j))) st):wpS M A E s (ltAt' i j) Q st:=by
 rw[ltAt'_eq];have m:∀k (h:k<(arrOf st).size),D (arrOf st)[k]:=λk h=>F.1 _ (B.perm.mem_iff.mp (by simp));refine wpS_bind (wpS_get (wpS_bind (ju (fe hi) (wpS_bind (ju (fe hj) (o _ _ _ _ B.kind (m i hi) (m j hj) ?_))))));rwa[uP hi,uP hj]at q
theorem Jp{lo n ZE:Nat}{Q:Option (Option Nat)×Nat->SortSt->Prop}{f:Nat->Option (Option Nat)×Nat->StateT SortSt Sem (ForInStep (Option (Option Nat)×Nat))}(B:Bs κ r D a₀ st)(hz:lo+ZE<=(arrOf st).size)(h1:1<=n)(hn:n<=ZE)(hs:Asc r (arrOf st) lo (lo+n))
  (hf:∀x m (R:ForInStep (Option (Option Nat)×Nat)->SortSt->Prop),wpS M A E s (ltAt' (lo+m) (lo+m-1)) (λc Z'=>∃b,c=some b/\R (if b=true then .done (none,m) else .yield (none,m+1)) Z') st->wpS M A E s (f x (none,m)) R st)
  (q:∀m,n<=m->m<=ZE->Asc r (arrOf st) lo (lo+m)->(m<ZE->kk r (arrOf st) (lo+m)<kk r (arrOf st) (lo+m-1))->Q (none,m) st):wpS M A E s (forIn [n:ZE] (none,n) f) Q st:=by
 refine wpS_forRange (I:=λx c Z'=>Z'=st/\c=(none,x)/\x<=ZE/\Asc r (arrOf st) lo (lo+x)) ?_ ?_ ⟨rfl,rfl,hn,hs⟩
 .rintro x c Z' SR hx ⟨rfl,rfl,_,hs⟩
  refine hf _ _ _ (CP o F B (by omega) (by omega) ⟨_,rfl,?_⟩);by_cases c:kk r (arrOf Z') (lo+x)<kk r (arrOf Z') (lo+x-1)
  .rw[decide_eq_true c]
   exact q x SR (by assumption) hs λ_=>c
  .rw[decide_eq_false c]
   have:=B.ne F (show lo+x<(arrOf Z').size by omega) (show lo+x-1<_ by omega) (by omega);exact⟨rfl,rfl,by assumption,hs.more (by omega) (by omega)⟩
 .rintro c Z' ⟨rfl,rfl,h,hs⟩
  rw[wm hn]at h hs ⊢;exact q _ hn (ao _) hs λh=>absurd h (bA _)
theorem MN{lo ZE:Nat}{Q:Option Nat->SortSt->Prop}(B:Bs κ r D a₀ st)(h1:1<=ZE)(hz:lo+ZE<=(arrOf st).size)
  (q:∀m Z',Bs κ r D a₀ Z'->pendingOf Z'=pendingOf st->1<=m->m<=ZE->(∀k,k<lo->(arrOf Z')[k]?=(arrOf st)[k]?)->Asc r (arrOf Z') lo (lo+m)->Q (some m) Z'):wpS M A E s (countRun' lo ZE) Q st:=by
 have fol:∀{Z':SortSt}{lo m:Nat}{f:Nat->Option (Option Nat)×Nat->StateT SortSt Sem (ForInStep (Option (Option Nat)×Nat))}{R:ForInStep (Option (Option Nat)×Nat)->SortSt->Prop},wpS M A E s (ltAt' (lo+m) (lo+m-1)) (λc Z'=>∃b,c=some b/\R (if b=true then .done (none,m) else .yield (none,m+1)) Z') Z' ->
   wpS M A E s (ltAt' (lo+m) (lo+m - 1) >>= λc=>match c with |some b=>if b=true then pure (.done (none,m)) else pure (.yield (none,m+1)) |_=>pure (.done (some none,m))) R Z':=λh=>wpS_bind (wpS_mono h λc Z' ⟨b,e,g⟩=>by
  subst e;cases b with
  |true=>exact wpS_pure g
  | false=>exact wpS_pure g)
 unfold countRun';refine wpS_bind (Jp o F (n:=1) B hz (ao _) h1 (λp q _ _ _=>by omega) (λx m R h=>fol (f:=λ_ _=>pure (.done (none,0))) h) λn TB YD hs hd=>?_);dsimp only;by_cases e:n=ZE
 .rw[if_pos (by simpa using e)]
  exact wpS_pure (q n st B rfl TB YD (λ_ _=>rfl) hs)
 rw[if_neg (by simpa using e)];by_cases e1:n>1
 .rw[if_pos e1]
  refine wpS_bind (CP o F B (by omega) (by omega) ?_);rw[decide_eq_true (hs lo (lo+n-1) (ao _) (by omega) (by omega))];exact wpS_pure (q n st B rfl TB YD (λ_ _=>rfl) hs)
 rw[if_neg e1];obtain rfl:n=1:=by omega
 refine wpS_bind (wpS_lift (gy ⟨rfl,?_⟩))
 refine wpS_bind (wpS_mono (wpS_forRange (I:=λx c Z'=>Z'=st/\c=(none,x,0)/\x<=ZE /\ ∀p q,lo<=p->p<q->q<lo+x->kk r (arrOf st) q<kk r (arrOf st) p)
  (Q:=λc Z'=>Z'=st /\ ∃x,c=(none,x,0)/\2<=x/\x<=ZE /\ ∀p q,lo<=p->p<q->q<lo+x->kk r (arrOf st) q<kk r (arrOf st) p) ?_ ?_ ⟨rfl,rfl,by exact bp (by assumption) (by assumption),λp q h1 h2 h3 =>?_⟩) ?_)
 .rintro x c Z' SR hx ⟨rfl,rfl,h,hs⟩
  dsimp only;refine wpS_bind (CP o F B (by omega) (by omega) ?_);have:=B.ne F (show lo+x<(arrOf Z').size by omega) (show lo+x-1<_ by omega) (by omega);by_cases c:kk r (arrOf Z') (lo+x)<kk r (arrOf Z') (lo+x-1)
  .rw[decide_eq_true c]
   refine wpS_pure ⟨rfl,rfl,by assumption,λp q h1 h2 h3=>?_⟩;by_cases e:q=lo+x
   .subst e
    by_cases e:p=lo+x-1
    .rw[e];exact c
    .exact bg c (hs p (lo+x-1) h1 (by omega) (by omega))
   .exact hs p q h1 h2 (by omega)
  .rw[decide_eq_false c]
   refine wpS_bind (CP o F B (by omega) (by omega) ?_);rw[decide_eq_true (by omega)];exact wpS_pure ⟨rfl,x,rfl,by assumption,h,hs⟩
 .rintro c Z' ⟨rfl,rfl,h,hs⟩
  exact⟨rfl,_,rfl,by omega,h,hs⟩
 .obtain⟨rfl,rfl⟩:p=lo/\q=lo+1:=by omega
  exact hd (by exact bp (by assumption) (by assumption))
 .rintro c Z' ⟨rfl,x,rfl,hx,Xw,hs⟩
  dsimp only;rw[if_neg (by decide)];have e:=λk=>getElem?_mirror_all (xs:=arrOf Z') (i:=lo) (j:=lo+x) (by omega) k;have ek:∀k,lo<=k->k<lo+x->kk r (mirror (arrOf Z') lo (lo+x) ((lo+x-lo)/2)) k=kk r (arrOf Z') (lo+(lo+x)-1-k):=λk h1 h2=>by
   unfold kk;rw[e,if_pos ⟨h1,h2⟩]
  have B':=B.arr (xs:=mirror (arrOf Z') lo (lo+x) ((lo+x-lo)/2)) (mirror_perm _ _ _ _).toList;refine wpS_bind (wpS_modify (wpS_bind (Jp o F (n:=x) B' (show lo+ZE<=(mirror (arrOf Z') lo (lo+x) ((lo+x-lo)/2)).size by rw[mirror_size];exact hz) (by exact aE (by assumption)) Xw (λp q h1 h2 h3=>?_) (λx m R h=>fol (f:=λ_ _=>pure (.done (none,0))) h) λm Xk Ys hs hd=>?_)))
  .show kk r (mirror (arrOf Z') lo (lo+x) ((lo+x-lo)/2)) p<kk r (mirror (arrOf Z') lo (lo+x) ((lo+x-lo)/2)) q
   rw[ek p h1 (by exact bg (by assumption) (by assumption)),ek q (by omega) h3];exact hs _ _ (by omega) (by omega) (by omega)
  .exact wpS_pure (q m _ B' rfl (by omega) Ys (λk hk=>(e k).trans (if_neg (by omega))) hs)
theorem OE{lo n ok:Nat}{Q:Bool->SortSt->Prop}(B:Bs κ r D a₀ st)(hz:lo+n<=(arrOf st).size)(h1:1<=ok)(hok:ok<=n)(hs:Asc r (arrOf st) lo (lo+ok))
  (q:∀Z',Bs κ r D a₀ Z'->pendingOf Z'=pendingOf st->(∀k,k<lo->(arrOf Z')[k]?=(arrOf st)[k]?)->Asc r (arrOf Z') lo (lo+n)->Q true Z'):wpS M A E s (binarySort' lo n ok) Q st:=by
 unfold binarySort'
 refine wpS_bind (wpS_mono (wpS_forRange (I:=λk c Z'=>c=(none,())/\Bs κ r D a₀ Z'/\pendingOf Z'=pendingOf st/\(∀k,k<lo->(arrOf Z')[k]? = (arrOf st)[k]?)/\k<=n/\Asc r (arrOf Z') lo (lo+k))
  (Q:=λc Z'=>c=(none,())/\Bs κ r D a₀ Z'/\pendingOf Z'=pendingOf st/\(∀k,k<lo->(arrOf Z')[k]? = (arrOf st)[k]?)/\Asc r (arrOf Z') lo (lo+n)) ?_ ?_ ⟨rfl,B,rfl,λ_ _=>rfl,by omega,by rw[yA h1];exact hs⟩) ?_)
 .rintro k c ZK Us hk ⟨rfl,B1,p1,e1,_,hs⟩
  have zz:(arrOf ZK).size=(arrOf st).size:=B1.size.trans B.size.symm
  refine wpS_bind (wpS_mono (wpS_forRange (I:=λx c Z'=>Z'=ZK /\ ∃l u,c=(none,l,u)/\l<=u/\u<=k/\u - l<=k - x/\(∀i,i<l->kk r (arrOf ZK) (lo+i)<kk r (arrOf ZK) (lo+k))/\(∀i,u<=i->i<k->kk r (arrOf ZK) (lo+k)<kk r (arrOf ZK) (lo+i)))
   (Q:=λc Z'=>Z'=ZK /\ ∃l u,c=(none,l,u)/\l<=k/\(∀i,i<l->kk r (arrOf ZK) (lo+i)<kk r (arrOf ZK) (lo+k))/\(∀i,l<=i->i<k->kk r (arrOf ZK) (lo+k)<kk r (arrOf ZK) (lo+i))) ?_ ?_ ⟨rfl,0,k,rfl,by omega,by exact ao _,by exact ao _,λi hi=>by omega,λi h1 h2=>by omega⟩) ?_)
  .rintro x c Z' _ hx ⟨rfl,l,u,rfl,g1,g2,g3,g4,g5⟩
   dsimp only;by_cases hg:l >= u
   .rw[if_pos hg]
    obtain rfl:l=u:=by omega
    exact wpS_pure ⟨rfl,l,l,rfl,g2,g4,g5⟩
   .rw[if_neg hg]
    refine wpS_bind (CP o F B1 (by omega) (by omega) ?_);have hn:=B1.ne F (show lo+k<(arrOf Z').size by omega) (show lo+(l+u)/2<_ by omega) (by omega);by_cases c:kk r (arrOf Z') (lo+k)<kk r (arrOf Z') (lo+(l+u)/2)
    .rw[decide_eq_true c]
     refine wpS_pure ⟨rfl,l,(l+u)/2,rfl,by omega,by omega,by omega,g4,λi h1 h2=>?_⟩;by_cases e:i=(l+u)/2
     .rw[e];exact c
     .exact bg c (hs _ _ (by omega) (by omega) (by omega))
    .rw[decide_eq_false c]
     refine wpS_pure ⟨rfl,(l+u)/2+1,u,rfl,by omega,by assumption,by omega,λi h1=>?_,g5⟩;by_cases e:i=(l+u)/2
     .rw[e];omega
     .exact bg (hs (lo+i) (lo+(l+u)/2) (by omega) (by omega) (by omega)) (by omega)
  .rintro c Z' ⟨rfl,l,u,rfl,g1,g2,g3,g4,g5⟩
   obtain rfl:l=u:=by omega
   exact⟨rfl,l,l,rfl,g2,g4,g5⟩
  .rintro c Z' ⟨rfl,l,u,rfl,g2,g4,g5⟩
   have e:=getElem?_bubble (xs:=arrOf Z') (src:=lo+k) (by omega) (lo+k-(lo+l)) (by omega);have ek:∀i,kk r (bubble (arrOf Z') (lo+k) (lo+k-(lo+l))) i=if i=lo+l then kk r (arrOf Z') (lo+k) else if lo+l<i/\i<=lo+k then kk r (arrOf Z') (i-1) else kk r (arrOf Z') i:=λi=>by
    unfold kk;rw[e i,show lo+k-(lo+k-(lo+l))=lo+l by omega]
    repeat' split
    all_goals rfl
   refine wpS_bind (wpS_modify (wpS_pure ⟨rfl,B1.arr (xs:=bubble (arrOf Z') (lo+k) (lo+k-(lo+l))) (bubble_perm _ _ _).toList,p1,λi hi=>?_,by assumption,λi j h1 h2 h3=>?_⟩))
   .rw[<-e1 i hi]
    exact(e i).trans ((if_neg (by omega)).trans (if_neg (by omega)))
   .show kk r (bubble (arrOf Z') (lo+k) (lo+k-(lo+l))) i<kk r (bubble (arrOf Z') (lo+k) (lo+k-(lo+l))) j
    have QB:∀i,lo<=i->i<lo+l->kk r (arrOf Z') i<kk r (arrOf Z') (lo+k):=λi h1 h2=>by
     have:=g4 (i-lo) (by omega);rwa[show lo+(i-lo)=i by omega]at this
    have QF:∀i,lo+l<=i->i<lo+k->kk r (arrOf Z') (lo+k)<kk r (arrOf Z') i:=λi h1 h2=>by
     have:=g5 (i-lo) (by omega) (by omega);rwa[show lo+(i-lo)=i by omega]at this
    rw[ek,ek]
    repeat' split
    all_goals first
     |(exfalso;omega)
     |exact QB _ (by assumption) (by omega)
     |exact QF _ (by omega) (by omega)
     |exact hs _ _ (by omega) (by omega) (by omega)
 .rintro c Z' ⟨rfl,B1,p1,e1,h,hs⟩
  rw[show max (max ok 1) n=n by omega]at hs;exact⟨rfl,B1,p1,e1,hs⟩
 .rintro c Z' ⟨rfl,B1,p1,e1,hs⟩
  exact wpS_pure (q Z' B1 p1 e1 hs)
end
theorem O5{S:List Keyed}{c:Nat}(m:List Keyed):∀(old P:List Keyed) (a:Array Keyed) (j:Nat),m.length=old.length->a.toList=P++old++S->P.length=c+j ->
  ((m.zipIdx j).foldl (λa x=>a.setIfInBounds (c+x.2) x.1) a).toList=P++m++S:=by
 induction m with
 | nil=>
   intro old P a j hl h hc;rw[bY.mp hl.symm]at h;exact h
 | cons x m ih=>
   intro old P a j hl h hc;obtain⟨y,old,rfl⟩:=List.exists_cons_of_length_pos (l:=old) (by rw[<-hl];exact Nat.succ_pos _)
   rw[u7,List.foldl_cons,ih old (P++[x]) (a.setIfInBounds (c+j) x) (j+1) (by simpa using hl) (by
    rw[yB,h,<-hc]
    simp) (by rw[bo,hc];rfl)]
   simp
def rns:Nat->List (List Keyed)->List (Nat×Nat)
 |_,[]=>[]
 |s,R::Rs=>(s,R.length)::rns (s+R.length) Rs
theorem qI:∀(s:Nat) (Rs ZD:List (List Keyed)),rns s (Rs++ZD)=rns s Rs++rns (s+Rs.flatten.length) ZD
 |s,[],ZD=>by simp[rns]
 | s,R::Rs,ZD=>by
   rw[eN,rns,rns,qI,eN,List.flatten_cons,bo,eu]
theorem iK:∀(s:Nat) (Rs:List (List Keyed)),(rns s Rs).length=Rs.length
 |s,[]=>rfl
 |s,R::Rs=>by rw[rns,bI,iK,bI]
abbrev p2(t:Nat×Nat×Nat):Nat×Nat:=(t.1,t.2.1)
structure Ru(κ:SortKind)(r:Keyed->Nat)(D:Keyed->Prop)(a₀:Array Keyed)(st:SortSt)(Rs:List (List Keyed))(rest:List Keyed):Prop where
 b:Bs κ r D a₀ st
 e:(arrOf st).toList=Rs.flatten++rest
 s:∀R∈Rs,R≠[]/\R.Pairwise λx y=>r x<r y
 p:(pendingOf st).toList.map p2=rns 0 Rs
section
variable {M:Model}{A:Around}{E:Value->Shared->Prop}{s:Shared}{κ:SortKind}{r:Keyed->Nat}{D:Keyed->Prop}{st:SortSt}{a₀:Array Keyed}
theorem Dp{α β:Type}(f:α->β):∀(l:List α) (i:Nat),(l.eraseIdx i).map f=(l.map f).eraseIdx i
 |[],i=>rfl
 |x::l,0=>rfl
 |x::l,i+1=>by rw[Cn,dH,dH,Cn,Dp f l i]
theorem Ph(f:Nat×Nat×Nat->Nat×Nat×Nat)(h:∀x,p2 (f x)=p2 x)(p:Array (Nat×Nat×Nat))(i:Nat):(p.modify i f).toList.map p2=p.toList.map p2:=by
 rw[Array.toList_modify];refine kY λj=>?_;rw[ba,ba,List.getElem?_modify];cases p.toList[j]? with
 |none=>rfl
 | some x=>
   by_cases e:i=j
   .show some (p2 (if i=j then f x else x))=some (p2 x)
    rw[if_pos e,h]
   .simp[e]
theorem Er:∀{Rs:List (List Keyed)},(∀R∈Rs,R≠[])->Rs.length<=Rs.flatten.length
 |[],_=>ao _
 | R::Rs,h=>by
   have h1:=Er (Rs:=Rs) λR hR=>h R (.tail _ hR);have h2:=jZ.mpr (h R (.head _));rw[bI,List.flatten_cons,bo];omega
theorem ite_le(c:Prop)[Decidable c](n:Nat):(if c then n-1 else n)<=n:=by split<;>omega
variable{Q:PUnit->SortSt->Prop}
theorem w_mod{st:SortSt}{f:SortSt->SortSt}(h:∀Z',Z'=f st->Q ⟨⟩ Z'):wpS M A E s (modify f:StateT SortSt Sem PUnit) Q st:=wpS_modify (h _ rfl)
theorem Mg{st Z':SortSt}(h:Q ⟨⟩ Z'):wpS M A E s (set Z':StateT SortSt Sem PUnit) Q st:=by
 unfold wpS;rw[StateT.run_set];exact aF ⟨rfl,h⟩
variable (o:zB M A E s κ r D) (F:Fs r D a₀)
include o F
variable{Q:Bool->SortSt->Prop}
theorem P0{pw UQ:Nat}{P X Y S:List Keyed}(B:Bs κ r D a₀ st)(e:(arrOf st).toList=P++(X++(Y++S)))(hX:X≠[])(hY:Y≠[])(sX:X.Pairwise λx y=>r x<r y)(sY:Y.Pairwise λx y=>r x<r y)
  (p1:(pendingOf st)[i]?=some (P.length,X.length,pw)) (p2:(pendingOf st)[i+1]?=some (P.length+X.length,Y.length,UQ))
  (q:∀Z' Z,Bs κ r D a₀ Z'->(arrOf Z').toList=P++(Z++S)->Z.length=X.length+Y.length->(Z.Pairwise λx y=>r x<r y)->pendingOf Z'=((pendingOf st).setIfInBounds i (P.length,X.length+Y.length,pw)).eraseIdxIfInBounds (i+1)->Q true Z'):wpS M A E s (mergeAt' i) Q st:=by
 obtain⟨k0,xs,pd,mg,fl⟩:=st;have nd:(xs.toList.map r).Nodup:=(B.perm.map r).nodup_iff.mpr F.2;have dd:∀x∈xs.toList,D x:=λx hx=>F.1 x (B.perm.mem_iff.mp hx);have hk:k0=κ:=B.kind;have hf:fl=none:=B.fail;have hp:xs.toList.Perm a₀.toList:=B.perm;replace e:xs.toList=P++(X++(Y++S)):=e;replace p1:pd[i]?=some (P.length,X.length,pw):=p1;replace p2:pd[i+1]?=some (P.length+X.length,Y.length,UQ):=p2;unfold mergeAt';refine wpS_bind (wpS_get ?_);dsimp only;rw[e,bS,bS,bS]at nd;have nXY:∀x∈X,∀y∈Y,r x≠r y:=λx hx y hy=>by
  have:=(iU.mp (iU.mp nd).2.1).2.2;exact this _ (List.mem_map_of_mem hx) _ (aZ _ (List.mem_map_of_mem hy))
 have ZG:xs.size=P.length+(X.length+(Y.length+S.length)):=by rw[<-bX,e];simp
 have gX:(xs.toList.drop P.length).take X.length=X:=by rw[e,dJ,eS]
 have gY:(xs.toList.drop (P.length+X.length)).take Y.length=Y:=by rw[e,<-kl,dJ,dJ,eS]
 have dX:∀x∈X,D x:=λx hx=>dd x (by rw[e];simp[hx]);have dY:∀x∈Y,D x:=λx hx=>dd x (by rw[e];simp[hx]);have lX:=jZ.mpr hX;have lY:=jZ.mpr hY;rw[p1,p2];dsimp only;refine wpS_bind (Mg ?_);obtain⟨y0,Y',rfl⟩:=List.exists_cons_of_ne_nil hY;have ey:xs[P.length+X.length]?=some y0:=by
  rw[<-dh,e,<-aU];simp
 refine wpS_bind (ju ey (wpS_bind (Cb o gX (by omega) sX dX (λx hx=>nXY x hx y0 (.head _)) lX hk (dY y0 (.head _)) λX1 X2 eX f1 f2=>?_)));subst eX;rw[bo]at *;dsimp only;rw[dB];have fY:=(kj.mp sY).1;have WG:=dy.mp sX;by_cases c:X2.length=0
 .rw[if_pos (by simpa using c)]
  obtain rfl:=bY.mp c;rw[bP]at *;refine wpS_pure (q _ (X1++y0::Y') ⟨hk,hf,hp⟩ (by rw[aU];exact e) (by simp) (dy.mpr ⟨sX,sY,λx hx y hy=>?_⟩) rfl);rcases aD.mp hy with rfl |hy
  .exact f1 x hx
  .exact bg (f1 x hx) (fY y hy)
 rw[if_neg (by simpa using c)];have c':X2≠[]:=λz=>c (by rw[z];rfl);obtain⟨Sx,xl,Xw⟩ :∃l x,X2=l++[x]:=⟨_,_,(wy c').symm⟩;have mx:xl∈X2:=by rw[Xw];simp
 have ex:xs[P.length+X1.length+X2.length-1]?=some xl:=by
  have e':P++(X1++X2++(y0::Y'++S))=(P++X1++Sx)++(xl::(y0::Y'++S)):=by rw[Xw];simp
  rw[<-dh,e,e',br (by rw[Xw];simp;omega)];rw[show P.length+X1.length+X2.length-1-(P++X1++Sx).length=0 by rw[Xw];simp;omega];rfl
 have xm:∀x∈X2,r x=r xl\/r x<r xl:=λx hx=>by
  rw[Xw]at hx WG;rcases aV.mp hx with hx|hx
  .exact .inr ((dy.mp WG.2.1).2.2 x hx xl (by simp))
  .exact .inl (by rw[bL.mp hx])
 refine wpS_bind (ju ex (wpS_bind (Cb o gY (by omega) sY dY (λy hy=>(nXY xl (by simp[mx]) y hy).symm) (by exact ao _) hk (dX xl (by simp[mx])) λY1 Y2 eY g1 g2=>?_)));have h0:=f2 xl mx;cases Y1 with
 | nil=>
   have:=g2 y0 (by rw[dR]at eY;rw[<-eY];exact .head _);omega
 |cons y1 Y1=>
 dsimp only;rw[if_neg (by simp)];obtain⟨rfl,rfl⟩:y0=y1/\Y'=Y1++Y2:=by simpa using eY
 have Vr:=(dy (l₁:=y0::Y1) (l₂:=Y2)).mp sY;have ex:(xs.extract (P.length+X1.length) (P.length+(X1.length+X2.length))).toList=X2:=by
  rw[BN,<-kl,e,dJ,aU,dJ,show P.length+(X1.length+X2.length)-(P.length+X1.length)=X2.length by omega,eS]
 have Ym:(xs.extract (P.length+(X1.length+X2.length)) (P.length+(X1.length+X2.length)+(y0::Y1).length)).toList=y0::Y1:=by
  rw[BN,dB,<-kl,e,dJ,<-bo,dJ];exact eS (l₁:=y0::Y1) (l₂:=Y2++S)▸by simp
 have zx:(xs.extract (P.length+X1.length) (P.length+(X1.length+X2.length))).size=X2.length:=by rw[<-bX,ex]
 generalize xs.extract (P.length+X1.length) (P.length+(X1.length+X2.length))=xa at ex zx;generalize xs.extract (P.length+(X1.length+X2.length)) (P.length+(X1.length+X2.length)+(y0::Y1).length)=ya at Ym;have w1:0<xa.size:=by rw[zx];exact fU (by assumption)
 have w2:0<ya.size:=by rw[<-bX,Ym];simp
 have w3:∀x∈xa.toList,∀y∈ya.toList,r x≠r y:=λx hx y hy=>by
  rw[ex]at hx;rw[Ym]at hy;exact nXY x (aJ _ hx) y (by rw[<-eN];exact aZ _ hy)
 have w4:∀x∈xa.toList,D x:=λx hx=>dX x (aJ _ (by rwa[ex]at hx));have w5:∀x∈ya.toList,D x:=λx hx=>dY x (by rw[Ym]at hx;rw[<-eN];exact aZ _ hx);have w6:∀y,ya[0]?=some y->∀x∈xa.toList,r y<r x:=λy hy x hx=>by
  rw[<-dh,Ym]at hy;cases hy;exact f2 x (by rwa[ex]at hx)
 have w7:∀x,xa[xa.size-1]?=some x->∀y∈ya.toList,r y<r x:=λx hx y hy=>by
  rw[<-dh,zx,ex,Xw]at hx;obtain rfl:xl=x:=by simpa using hx
  exact g1 y (by rwa[Ym]at hy)
 refine have H:∀(out:Array Keyed) (Z':SortSt),Eg (wz k0 xs ((pd.setIfInBounds i (P.length,X1.length+X2.length+(y0::(Y1++Y2)).length,pw)).eraseIdxIfInBounds (i+1)) mg fl) Z'->out.toList.Perm (X2++(y0::Y1))->(out.toList.Pairwise λx y=>r x<r y)->(?P1:Array Keyed->SortSt->Prop) out Z':= ?h1;?k1
 case k1=>
  split
  .refine wpS_bind (Pp o hk w1 w2 (by rw[ex];exact WG.2.1) (by rw[Ym];exact Vr.1) w3 w4 w5 w6 w7 ?_)
   intro out Z' u1 u2 u3;rw[ex,Ym]at u2;exact H out Z' u1 u2 u3
  .refine wpS_bind (Pl o hk w1 w2 (by rw[ex];exact WG.2.1) (by rw[Ym];exact Vr.1) w3 w4 w5 w6 w7 ?_)
   intro out Z' u1 u2 u3;rw[ex,Ym]at u2;exact H out Z' u1 u2 u3
 clear w1 w2 w3 w4 w5 w6 w7 ex Ym zx;rintro out ⟨k1,Vk,Qt,mg1,SG⟩ ⟨u1,u2,u3,u4⟩ hpm Q8;replace u1:k1=k0:=u1;replace u2:Vk=xs:=u2;replace u3:Qt=_:=u3;replace u4:SG=fl:=u4;subst u1 u2 u4;have lo:out.toList.length=X2.length+(Y1.length+1):=by rw[hpm.length_eq];simp
 have ew:(List.foldl (λa x=>a.setIfInBounds (P.length+X1.length+x.2) x.1) Vk out.toList.zipIdx).toList=(P++X1)++out.toList++(Y2++S):=by
  refine O5 out.toList (X2++(y0::Y1)) (P++X1) Vk 0 hpm.length_eq ?_ (by simp);rw[e];simp
 refine wpS_bind (wpS_modify (wpS_bind (wpS_get (wpS_pure ?_))));show Q SG.isNone _;rw[hf];refine q _ (X1++(out.toList++Y2)) ⟨hk,rfl,?_⟩ (ew.trans (by simp)) (by rw[bo,bo,lo,bI,bo];omega) ?_ u3
 .refine(List.Perm.of_eq ew).trans (FK ?_ hp)
  rw[e];have:=(hpm.append_right (Y2++S)).append_left (P++X1);simpa using this
 .have om:∀x∈out.toList,x∈X2\/x∈y0::Y1:=λx hx=>aV.mp (hpm.mem_iff.mp hx)
  refine dy.mpr ⟨WG.1,dy.mpr ⟨Q8,Vr.2.1,λx hx y hy=>?_⟩,λx hx y hy=>?_⟩
  .rcases om x hx with hx|hx
   .have h1:=xm x hx
    have h2:=g2 y hy;omega
   .exact Vr.2.2 x hx y hy
  .have hy:y∈X2\/y∈y0::(Y1++Y2):=by
    rcases aV.mp hy with hy|hy
    .exact(om y hy).imp id λh=>by rw[<-eN];exact aZ _ h
    .exact .inr (by rw[<-eN];exact aJ _ hy)
   rcases hy with hy|hy
   .exact WG.2.2 x hx y hy
   .rcases aD.mp hy with rfl|hy
    .exact f1 x hx
    .exact bg (f1 x hx) (fY y hy)
theorem OB{Rs:List (List Keyed)}{rest:List Keyed}(Gr:Ru κ r D a₀ st Rs rest)(hi:i+1<Rs.length)(q:∀Z' ZD,Ru κ r D a₀ Z' ZD rest->ZD.length+1=Rs.length->Q true Z'):wpS M A E s (mergeAt' i) Q st:=by
 obtain⟨R1,X,Y,R2,rfl,hl⟩ :∃R1 X Y R2,Rs=R1++X::Y::R2/\R1.length=i:=by
  refine⟨Rs.take i,Rs[i],Rs[i+1],Rs.drop (i+2),?_,by simp;omega⟩;rw[<-dW hi,<-dW (by exact aE (by assumption)),jg]
 subst hl;have hX:=Gr.s X (by simp);have hY:=Gr.s Y (by simp);have pp:=Gr.p;rw[qI,rns,rns,eA]at pp;have gp:∀j,((pendingOf st).toList.map p2)[j]?=((pendingOf st)[j]?).map p2:=λj=>by rw[ba,dh]
 have g0:=gp R1.length;have g1:=gp (R1.length+1);rw[pp,br (by rw[iK];exact ao _),iK,kh]at g0;rw[pp,br (by rw[iK];exact dz _),iK,dB]at g1;obtain⟨⟨a1,a2,pw⟩,e0,b0⟩:=iN.mp g0.symm;obtain⟨⟨a3,a4,UQ⟩,e1,b1⟩:=iN.mp g1.symm;simp only[p2,yC]at b0 b1;obtain⟨rfl,rfl⟩:=b0;obtain⟨rfl,rfl⟩:=b1;refine P0 o F (S:=R2.flatten++rest) Gr.b (by rw[Gr.e];simp) hX.1 hY.1 hX.2 hY.2 e0 e1 λZ' Z B' e' l' s' p'=>q Z' (R1++Z::R2) ⟨B',by rw[e'];simp,λR hR=>?_,?_⟩ (by simp;omega)
 .rcases aV.mp hR with h|h
  .exact Gr.s R (by simp[h])
  .rcases aD.mp h with rfl|h
   .refine⟨λz=>?_,s'⟩
    have:=jZ.mpr hX.1;rw[z]at l';simp at l';omega
   .exact Gr.s R (by simp[h])
 .rw[p',Array.toList_eraseIdxIfInBounds,yB,Dp,List.map_set,pp,qI,rns,eA,l',eZ _ _ (by rw[iK];exact ao _),iK,kh,List.eraseIdx_append_of_length_le (by rw[iK];exact dz _),iK,dB,eu]
  rfl
omit o F in
theorem Ru.new{Z':SortSt}{Rs:List (List Keyed)}{rest:List Keyed}{n:Nat}(Gr:Ru κ r D a₀ st Rs rest)(B:Bs κ r D a₀ Z')(hp:pendingOf Z'=pendingOf st)(hk:∀k,k<Rs.flatten.length->(arrOf Z')[k]?=(arrOf st)[k]?)(hn:Rs.flatten.length+n<=(arrOf Z').size)(h:Asc r (arrOf Z') Rs.flatten.length (Rs.flatten.length+n)):
  ∃R W9,Ru κ r D a₀ Z' Rs (R++W9)/\R.length=n/\R.Pairwise λx y=>r x<r y:=by
 have et:(arrOf Z').toList.take Rs.flatten.length=Rs.flatten:=by
  have e2:(arrOf st).toList.take Rs.flatten.length=Rs.flatten:=by rw[Gr.e,eS]
  refine Eq.trans (kY λk=>?_) e2;rw[qJ,qJ]
  split
  .have:=hk k (by assumption)
   rwa[<-dh,<-dh]at this
  .rfl
 have lz:((arrOf Z').toList.drop Rs.flatten.length).length=(arrOf Z').size-Rs.flatten.length:=by simp
 refine⟨((arrOf Z').toList.drop Rs.flatten.length).take n,((arrOf Z').toList.drop Rs.flatten.length).drop n,⟨B,?_,Gr.s,by rw[hp];exact Gr.p⟩,by rw[fF,lz];omega,?_⟩
 .rw[jg]
  have:=jg Rs.flatten.length (arrOf Z').toList;rw[et]at this;exact this.symm
 .rw[dg]
  intro i j hi hj Yz;rw[fF,lz]at hi hj;have:=h (Rs.flatten.length+i) (Rs.flatten.length+j) (by omega) (by omega) (by omega);rw[uP (by omega),uP (by omega)]at this;simpa using this
theorem JI{Q:Unit->SortSt->Prop}(B:Bs κ r D a₀ st)(hp:pendingOf st = #[])(q:∀Z',Bs κ r D a₀ Z'->((arrOf Z').toList.Pairwise λx y=>r x<r y)->Q () Z'):wpS M A E s sortRuns' Q st:=by
 have gl:∀{Z' Rs rest},Ru κ r D a₀ Z' Rs rest->Rs.flatten.length+rest.length=a₀.size/\(arrOf Z').size=a₀.size:=λGr=>⟨by rw[<-bo,<-Gr.e,Gr.b.perm.length_eq,bX],Gr.b.size⟩;unfold sortRuns';refine wpS_bind (wpS_get ?_);have ZG:(arrOf st).size=a₀.size:=B.size;generalize hz:(arrOf st).size=z at ZG;have pl:∀{Z' Rs rest},Ru κ r D a₀ Z' Rs rest->(pendingOf Z').size=Rs.length:=λGr=>by
  have:=congrArg gK Gr.p;rwa[ar,bX,iK]at this
 dsimp only;generalize (sortPriv% PySem.Builtin.minRun) z z 0=mr
 refine wpS_bind (wpS_mono (wpS_forRange (I:=λx c Z' =>∃Rs rest,c=(none,Rs.flatten.length)/\Ru κ r D a₀ Z' Rs rest/\x<=Rs.flatten.length)
  (Q:=λc Z' =>∃n Rs,c=(none,n)/\Ru κ r D a₀ Z' Rs []) ?_ ?_ ⟨[],(arrOf st).toList,rfl,⟨B,rfl,λR hR=>absurd hR (by simp),by rw[hp];rfl⟩,cU _⟩) ?_)
 .rintro x c ZK _ hx ⟨Rs,rest,rfl,Gr,RI⟩
  have g1:=gl Gr;by_cases hg:Rs.flatten.length >= z
  .rw[if_pos hg]
   obtain rfl:rest=[]:=bY.mp (by omega);exact wpS_pure ⟨_,Rs,rfl,Gr⟩
  rw[if_neg hg];refine wpS_bind (MN o F Gr.b (by omega) (by omega) λm Zy B2 q2 m1 m2 k2 a2=>?_);refine have H:∀(n:Nat) (ZL:SortSt),Bs κ r D a₀ ZL->pendingOf ZL=pendingOf ZK->1<=n->n<=z-Rs.flatten.length->(∀k,k<Rs.flatten.length->(arrOf ZL)[k]?=(arrOf ZK)[k]?)->Asc r (arrOf ZL) Rs.flatten.length (Rs.flatten.length+n)->(?P1:Nat->SortSt->Prop) n ZL:= ?h1;?k1
  case k1=>
   dsimp only;by_cases c:m<mr
   .rw[if_pos c]
    refine wpS_bind (wpS_lift (gy ⟨rfl,?_⟩));refine wpS_bind (OE o F B2 (n:=min (z-Rs.flatten.length) mr) (by rw[B2.size];omega) m1 (by omega) a2 ?_);intro ZL B3 q3 k3 a3;rw[if_neg (by decide)];have c1:1<=min (z-Rs.flatten.length) mr:=by omega
    have c2:min (z-Rs.flatten.length) mr<=z-Rs.flatten.length:=by omega
    generalize min (z-Rs.flatten.length) mr=n at a3 c1 c2;exact H n ZL B3 (q3.trans q2) c1 c2 (λk hk=>(k3 k hk).trans (k2 k hk)) a3
   .rw[if_neg c]
    exact H m Zy B2 q2 m1 m2 k2 a2
  intro n ZL B3 q3 n1 n2 k3 a3;obtain⟨R,YU,G3,lR,sR⟩:=Ru.new Gr B3 q3 k3 (by rw[B3.size];omega) a3;refine wpS_bind (wpS_get ?_);refine have H2:∀(YE:SortSt) (ZD:List (List Keyed)),Ru κ r D a₀ YE ZD (R++YU)->(?P2:SortSt->Prop) YE:= ?h2;?k2
  case k2=>
   generalize (pendingOf ZL).back? = ob
   match ob with
   | some (s1,w1,pw)=>
     dsimp only;refine wpS_bind (wpS_mono (wpS_forRange (I:=λx c Z'=>c=(none,()) /\ ∃ZD,Ru κ r D a₀ Z' ZD (R++YU)) (Q:=λc Z'=>c=(none,()) /\ ∃ZD,Ru κ r D a₀ Z' ZD (R++YU)) ?_ (λc Z' h=>h) ⟨rfl,Rs,G3⟩) ?_)
     .rintro x c Z' _ _ ⟨rfl,ZD,Zi⟩
      refine wpS_bind (wpS_get ?_);have g2:=pl Zi;have g3:=g2;unfold pendingOf at g3;by_cases c:(pendingOf Z').size>1
      .rw[if_pos c,fe (by omega)]
       dsimp only
       split
       .exact wpS_pure ⟨rfl,ZD,Zi⟩
       .refine wpS_bind (OB o F Zi (by omega) λZw Xf WY _=>?_)
        rw[if_neg (by decide)];exact wpS_pure ⟨rfl,Xf,WY⟩
      .rw[if_neg c]
       exact wpS_pure ⟨rfl,ZD,Zi⟩
     .rintro c YE ⟨rfl,ZD,Zi⟩
      dsimp only;refine wpS_bind (w_mod ?_);intro YN e5;have G5:Ru κ r D a₀ YN ZD (R++YU):=by
       subst e5
       exact⟨⟨Zi.b.kind,Zi.b.fail,Zi.b.perm⟩,Zi.e,Zi.s,by
        refine(Ph _ ?_ _ _).trans Zi.p
        exact λ_=>rfl⟩
      exact H2 YN ZD G5
   |none=>exact H2 ZL Rs G3
  intro YE ZD G4;have g4:=(gl G4).1;have g3:=(gl G3).1;have ln:(ZD++[R]).flatten.length=Rs.flatten.length+n:=by
   rw[List.flatten_append,bo,List.flatten_singleton,lR];omega
  refine wpS_bind (wpS_modify (wpS_pure ⟨ZD++[R],YU,by rw[ln],⟨⟨G4.b.kind,G4.b.fail,G4.b.perm⟩,G4.e.trans (by simp),λR' h=>?_,?_⟩,by omega⟩))
  .rcases aV.mp h with h|h
   .exact G4.s R' h
   .rw[bL.mp h]
    exact⟨λz=>by rw[z]at lR;simp at lR;omega,sR⟩
  .show((pendingOf YE).push (Rs.flatten.length,n,0)).toList.map p2=_
   rw[dG,bS,G4.p,qI,eA,show Rs.flatten.length=ZD.flatten.length by omega];show _=_++[(_,R.length)];rw[lR];rfl
 .rintro c Z' ⟨Rs,rest,rfl,Gr,RI⟩
  have g1:=gl Gr;obtain rfl:rest=[]:=bY.mp (by omega);exact⟨_,Rs,rfl,Gr⟩
 .rintro c ZK ⟨n,Rs,rfl,Gr⟩
  have g1:=gl Gr;have g2:=Er λR hR=>(Gr.s R hR).1;dsimp only;refine wpS_bind (wpS_mono (wpS_forRange (I:=λx c Z'=>c=(none,()) /\ ∃Rs,Ru κ r D a₀ Z' Rs []/\Rs.length<=1+(z-x)) (Q:=λc Z'=>c=(none,()) /\ ∃Rs,Ru κ r D a₀ Z' Rs []/\Rs.length<=1) ?_ ?_ ⟨rfl,Rs,Gr,by omega⟩) ?_)
  .rintro x c Z' _ hx ⟨rfl,ZD,Zi,hl⟩
   refine wpS_bind (wpS_get ?_);have g2:=pl Zi;have g3:=g2;unfold pendingOf at g3;by_cases c:(pendingOf Z').size<=1
   .rw[if_pos c]
    exact wpS_pure ⟨rfl,ZD,Zi,by omega⟩
   .rw[if_neg c]
    refine wpS_bind (OB o F Zi (aK (Nat.succ_le_succ (ite_le _ _)) (by omega)) λZw Xf WY _=>?_);rw[if_neg (by decide)];exact wpS_pure ⟨rfl,Xf,WY,by omega⟩
  .rintro c Z' ⟨rfl,ZD,Zi,hl⟩
   exact⟨rfl,ZD,Zi,by omega⟩
  .rintro c Z' ⟨rfl,ZD,Zi,hl⟩
   refine wpS_pure (q Z' Zi.b ?_);rw[Zi.e]
   match ZD,hl,Zi.s with
   |[],_,_=>exact .nil
   |[R],_,h=>simpa using (h R (by simp)).2
end
end GQ
namespace GQ
open PySem PySem.W PyProof.Rows
open HT (lexLt lexLt_cons)
theorem ny:∀{a b c:List Int},lexLt a b=true->lexLt b c=true->lexLt a c=true:=by
 intro a
 induction a with
 | nil=>
   intro b c h1 h2;cases c with
   |cons z c=>rfl
   | nil=>
     cases b with
     |nil=>cases h2
     |cons y b=>cases h2
 | cons x a ih=>
   intro b c h1 h2;cases b with
   |nil=>cases h1
   | cons y b=>
     cases c with
     |nil=>cases h2
     | cons z c=>
       rw[lexLt_cons]at h1 h2 ⊢;by_cases e1:x=y
       .subst e1
        rw[if_pos rfl]at h1;by_cases e2:x=z
        .rw[if_pos e2]at h2 ⊢;exact ih h1 h2
        .rw[if_neg e2]at h2 ⊢;exact h2
       .rw[if_neg e1,decide_eq_true_eq]at h1
        by_cases e2:y=z
        .subst e2
         rw[if_neg e1];exact decide_eq_true h1
        .rw[if_neg e2,decide_eq_true_eq]at h2
         rw[if_neg (by omega)];exact decide_eq_true (by omega)
theorem wa:∀{a b:List Int},a≠b->lexLt a b=false->lexLt b a=true:=by
 intro a
 induction a with
 | nil=>
   intro b h1 h2;cases b with
   |nil=>exact absurd rfl h1
   |cons y b=>cases h2
 | cons x a ih=>
   intro b h1 h2;cases b with
   |nil=>rfl
   | cons y b=>
     rw[lexLt_cons]at h2 ⊢;by_cases e:x=y
     .subst e
      rw[if_pos rfl]at h2 ⊢;exact ih (λz=>h1 (by rw[z])) h2
     .rw[if_neg e,decide_eq_false_iff_not]at h2
      rw[if_neg (dj e)];exact decide_eq_true (by omega)
section
variable {prog:Program}{w:World}{A:Around}{E:Value->Shared->Prop}{s:Shared}{Q:Bool->Shared->Prop}
theorem PJ{fin:Bool}:∀{xs ys:List Value}{as bs:List Int},IntsAre xs as->IntsAre ys bs->∀i,fin=decide (xs.length<ys.length)->Q (lexLt as bs) s->KatLex prog w A true fin Q (xs.zip ys) i s:=by
 intro xs ys as bs hx
 induction hx generalizing ys bs with
 | nil=>
   intro hy i hf hq;cases hy with
   |nil=>rw[hf];exact hq
   |cons b u r=>rw[hf];exact hq
 | cons a t r ih=>
   intro hy i hf hq;cases hy with
   |nil=>rw[hf];exact hq
   | cons b u r2=>
     refine kat_cons (wpAny_eqBool_int (kat_go (λe=>kat_yes ?_) λe=>kat_no ?_))
     .refine ih r2 (i+1) (by rw[hf];simp) ?_
      rw[lexLt_cons,if_pos (eq_of_beq e)]at hq;exact hq
     .rw[lexLt_cons,if_neg (by simpa using e)]at hq
      cases i with
      |zero=>exact oneLt_int hq
      |succ i=>exact kat_one _ _ (PyProof.Rows.lt_int hq)
def nv(h:Heap)(v:Value)(ns:List Int):Prop := ∃ a o xs n,v=.ref a/\h.get? a=some o/\o.cls=.type "tuple"/\o.data=.seq xs n/\IntsAre xs.toList ns
variable{h:Heap}{v:Value}{ns:List Int}
theorem nv.keep{h':Heap}(x:nv h v ns)(k :∀ b o,o.cls=.type "tuple"->h.get? b=some o->h'.get? b=some o):nv h' v ns:=
 let ⟨a,o,xs,n,e,ho,hc,r⟩:=x;⟨a,o,xs,n,e,k _ _ hc ho,hc,r⟩
theorem ltI{x y:Value}{as bs:List Int}(hx:nv s.heap x as)(hy:nv s.heap y bs)(h:Q (lexLt as bs) s):aN (model prog w) A (keyLt' (tuples' true) x y) Q E s:=by
 obtain⟨a,o,xs,n,rfl,ho,hc,hd,hi⟩:=hx;obtain⟨b,o2,ys,n2,rfl,Yv,Yj,hd2,Xl⟩:=hy;exact kat_lt ho hd Yv hd2 (PJ hi Xl 0 (by simp) h)
inductive Tps(h:Heap):List Value->List (List Int)->Prop where
 |nil:Tps h [] []
 |cons {v:Value}{ns:List Int}{vs:List Value}{L:List (List Int)} (x:nv h v ns) (r:Tps h vs L):Tps h (v::vs) (ns::L)
variable{vs:List Value}{L:List (List Int)}
theorem Tps.len(t:Tps h vs L):vs.length=L.length:=by
 induction t with
 |nil=>rfl
 |cons x r ih=>rw[bI,bI,ih]
theorem Tps.keep{h h':Heap}{vs:List Value}{L:List (List Int)}(t:Tps h vs L)(k :∀ b o,o.cls=.type "tuple"->h.get? b=some o->h'.get? b=some o):Tps h' vs L:=by
 induction t with
 |nil=>exact .nil
 |cons x r ih=>exact .cons (x.keep k) ih
theorem Tps.get(t:Tps h vs L):∀i,i<L.length->nv h (vs.getD i .none) (L.getD i []):=by
 induction t with
 |nil=>intro i hi;cases hi
 | cons x r ih=>
   intro i hi;cases i with
   |zero=>exact x
   |succ i=>exact ih i (i7 hi)
theorem Tps.firsts{L:List (List Int)}(t:Tps h vs L)(hn:∀l∈L,l≠[]):∃fs,KatTups h vs fs/\fs.length=vs.length /\ ∀v∈fs,∃i u,v=AS i u:=by
 induction t with
 |nil=>exact⟨[],KatTups.nil,rfl,by simp⟩
 | @cons v ns vs L x r ih=>
   obtain⟨fs,h1,h2,h3⟩:=ih λl hl=>hn l (av _ hl);obtain⟨a,o,xs,n,rfl,ho,hc,hd,hi⟩:=x;have ZI:=hn ns (aT ..);obtain⟨xl⟩:=xs;have hi:IntsAre xl ns:=hi;cases hi with
   |nil=>exact absurd rfl ZI
   | cons i u r'=>exact⟨.int i u::fs,KatTups.cons ho hc hd rfl h1,by rw[bI,bI,h2],λv hv=>by
     rcases aD.mp hv with rfl|hv
     .exact⟨_,_,rfl⟩
     ·exact h3 v hv⟩
abbrev at_(p:Array Nat)(i:Nat):Nat:=p.getD i 0
def ltL(L:List (List Int))(i j:Nat):Bool:=lexLt (L.getD i []) (L.getD j [])
theorem za:∀(a:List Int),lexLt a a=false
 |[]=>rfl
 |x::a=>by rw[lexLt_cons,if_pos rfl];exact za a
def rkL(L:List (List Int))(l:List Int):Nat:=L.countP λx=>lexLt x l
theorem Iw{a b:List Int}(h:lexLt b a=false)(L:List (List Int)):rkL L a<=rkL L b:=by
 refine List.countP_mono_left λx _ hx=>?_;cases q:lexLt x b with
 |true=>rfl
 | false=>
   by_cases e:x=b
   .subst e;rw[h]at hx;cases hx
   .have:=ny (wa e q) hx;rw[h]at this;cases this
theorem Ip{a b:List Int}(h:lexLt a b=true):∀{L:List (List Int)},a∈L->rkL L a<rkL L b
 | x::L,m=>by
   have h0:lexLt b a=false:=by
    cases q:lexLt b a with
    |false=>rfl
    |true=>have:=ny h q;rw[za]at this;cases this
   have g:=Iw h0 L;unfold rkL at g ⊢;rw[List.countP_cons,List.countP_cons];rcases aD.mp m with rfl|m
   .rw[za,h];simp;omega
   .have:=Ip h m
    unfold rkL at this;have:lexLt x a=true->lexLt x b=true:=λz=>ny z h
    split<;>split<;>simp_all<;>omega
theorem vu{a b:List Int}(ha:a∈L):decide (rkL L a<rkL L b)=lexLt a b:=by
 cases q:lexLt a b with
 |true=>exact decide_eq_true (Ip q ha)
 |false=>exact decide_eq_false (Nat.not_lt.mpr (Iw q L))
theorem CN:∀{xs:List Value}{as bs:List Int},IntsAre xs as->IntsAre xs bs->as=bs:=by
 intro xs as bs h
 induction h generalizing bs with
 |nil=>intro h;cases h;rfl
 |cons a t r ih=>intro h;cases h with |cons b u r2=>rw[ih r2]
theorem nv.uni{as bs:List Int}(x:nv h v as)(y:nv h v bs):as=bs:=by
 obtain⟨a,o,xs,n,rfl,ho,hc,hd,hi⟩:=x;obtain⟨a',o',xs',n',e,XJ,WB,Yp,ZH⟩:=y;cases e;rw[ho]at XJ;cases XJ;rw[hd]at Yp;cases Yp;exact CN hi ZH
def rkV(h:Heap)(L:List (List Int))(x:Keyed):Nat:=rkL L (Classical.epsilon λns=>nv h x.1 ns)
theorem pB{x:Keyed}(t:nv h x.1 ns):rkV h L x=rkL L ns:=by
 unfold rkV;rw[nv.uni (Classical.epsilon_spec ⟨ns,t⟩) t]
theorem Iq{β:Type}{f:Nat->β}:∀{l:List β}{m:List Nat},l.Perm (m.map f)->∃p:List Nat,p.Perm m/\p.map f=l
 | [],m,h=>by
   have:=List.nil_perm.mp h;exact⟨[],by rw[List.map_eq_nil_iff.mp this],rfl⟩
 | x::l,m,h=>by
   obtain⟨a,ha,e⟩:=aR.mp (h.subset (.head _));have h2:=FL ha;subst e;obtain⟨p,h3,h4⟩:=Iq ((yN _).mp (h.trans (h2.map f)));exact⟨a::p,(h3.cons a).trans h2.symm,by rw[dH,h4]⟩
theorem Hq{L:List (List Int)}:zB (model prog w) A E s (tuples' true) (rkV s.heap L) (λx=>∃ns∈L,nv s.heap x.1 ns):=by
 rintro x y st Q hk ⟨as,ma,ta⟩ ⟨bs,mb,tb⟩ q;rw[lt'_eq];refine wpS_bind (wpS_get ?_);rw[hk];refine wpS_bind (wpS_lift (wpAny_attempt (ltI ta tb ⟨rfl,?_⟩)));rw[pB ta,pB tb,vu ma]at q;exact wpS_pure q
theorem Mp{a:Addr}{L:List (List Int)}{n:Nat}{P:PySem.Fin->Shared->Prop}(ho:s.heap.get? a=some (seqObj "list" vs.toArray n))(t:Tps s.heap vs L)(hn :∀ l∈L,l ≠ [])(hd:L.Nodup)(UB:vs.length<100000)
  (h:∀p:Array Nat,p.Perm (ax L.length).toArray->(∀i j,i<j->j<L.length->ltL L (at_ p i) (at_ p j)=true)->P (.done (.ret .none)) { s with heap:=sortedHeap s.heap a vs (tI (p.toList.map λi=>vs.getD i cN)) }):
  aN (model prog w) A (Builtin.«list.sort» ⟨[.ref a],[]⟩) P E s:=by
 rw[list_sort_plain];have ha:a<s.heap.objs.size:=aw ho;have tl:=t.len;refine ag (listItems_at ho rfl ?_);refine ag (listUpdate_at ho rfl ?_);obtain⟨e1,Vz⟩ :∃ e1,(s.heap.update a (cz fun _=>#[])).get? a=some (seqObj "list" #[] e1):=⟨_,get?_update_seq ho (fun _=>#[])⟩;refine ag (seqEpoch_at Vz rfl ?_);refine ag (wpAny_newTuple ?_);refine ag (u9 ?_);refine gJ ?_;have kp :∀ b o,b≠a->s.heap.get? b=some o->(((s.heap.update a (cz fun _=>#[])).push (seqObj "tuple" vs.toArray 0)).push (seqObj "list" #[] 0)).get? b=some o:=fun b o hb e=>af _ (af _ ((cX _ _ (dj hb)).trans e));have VB:(((s.heap.update a (cz fun _=>#[])).push (seqObj "tuple" vs.toArray 0)).push (seqObj "list" #[] 0)).get? a=some (seqObj "list" #[] e1):=af _ (af _ Vz)
 have t6:=t.keep (h':=((s.heap.update a (cz fun _ => #[])).push (seqObj "tuple" vs.toArray 0)).push (seqObj "list" #[] 0)) fun b o hc e=>kp b o (fun z=>by
  rw[z,ho]at e;cases e;have q:qo "list"=qo "tuple":=hc;injection q with q
  exact absurd q (by decide)) e
 show aN (model prog w) A _ P E { s with heap:=((s.heap.update a (cz fun _=>#[])).push (seqObj "tuple" vs.toArray 0)).push (seqObj "list" #[] 0) };dsimp only;have ZG:vs.toArray.size=vs.length:=by simp
 by_cases h2:vs.toArray.size<2
 .rw[if_pos h2,if_pos h2]
  refine ag (aF ?_);rw[StateT.run_pure];refine ag (aF ?_);dsimp only;refine ag (seqEpoch_at VB rfl ?_);refine ag (listUpdate_at VB rfl ?_ (hsz2:=by rw[Array.size_map];show(pairsOf vs).size<=_;rw[pairsOf_size,sizeLine_eq];omega));simp only[bne_self_eq_false,eR,if_false];have q:=h (ax L.length).toArray (Array.Perm.refl _) λi j hi hj=>by omega
  have e:(arrOf (wz general' (vs.toArray.zip vs.toArray) #[] 7 none)).map (·.2)=tI ((ax L.length).toArray.toList.map λi=>vs.getD i cN):=by
   have e1:(vs.toArray.zip vs.toArray).map (·.2)=vs.toArray:=by
    apply Array.toList_inj.mp;rw[Array.toList_map,Array.toList_zip];exact List.map_snd_zip (ao _)
   show(vs.toArray.zip vs.toArray).map (·.2)=_;rw[e1]
   congr 1
   refine mR (by simp[tl]) λi h1 h2=>?_;simp[h1]
  rw[e];exact aF q
 .rw[if_neg h2,if_neg h2]
  obtain⟨fs,f1,f2,f3⟩:=t6.firsts hn;refine ag (kat_kind (T := .type "int") f1 (by omega) (fun v hv=>?_) rfl ?_)
  .obtain⟨i,u,rfl⟩:=f3 v hv
   exact Looks.now
  .rw [show (qo "int" != qo "tuple")=true by decide]
   have key:aN (model prog w) A ((sortRuns').run (wz (tuples' true) (vs.toArray.zip vs.toArray) #[] 7 none)) (fun r s'=>(fun Z' s'=>∃ p:Array Nat,arrOf Z'=p.map (kas_item (vs.toArray.zip vs.toArray))/\failedOf Z'=none/\s'={ s with heap:=((s.heap.update a (cz fun _=>#[])).push (seqObj "tuple" vs.toArray 0)).push (seqObj "list" #[] 0) }/\p.Perm (ax L.length).toArray /\ ∀ i j,i<j->j<L.length->ltL L (at_ p i) (at_ p j)=true) r.2 s') E { s with heap:=((s.heap.update a (cz fun _=>#[])).push (seqObj "tuple" vs.toArray 0)).push (seqObj "list" #[] 0) }:=by
    have ez:(vs.toArray.zip vs.toArray).toList=(ax vs.length).map (kas_item (vs.toArray.zip vs.toArray)):=by
     have e:=kas_range (vs.toArray.zip vs.toArray);rw[show(vs.toArray.zip vs.toArray).size=vs.length by simp]at e;exact(congrArg Array.toList e).symm.trans (by simp)
    have kt :∀ i,i<vs.length->nv (((s.heap.update a (cz fun _=>#[])).push (seqObj "tuple" vs.toArray 0)).push (seqObj "list" #[] 0)) (kas_item (vs.toArray.zip vs.toArray) i).1 (L.getD i []):=fun i hi=>by
     rw[kat_item rfl];exact t6.get i (by omega)
    have ml:∀i,i<vs.length->L.getD i []∈L:=λi hi=>by
     have:i<L.length:=by omega
     rw[aP,aI this];exact bR this
    refine bE (JI (s:={ s with heap:=((s.heap.update a (cz fun _ => #[])).push (seqObj "tuple" vs.toArray 0)).push (seqObj "list" #[] 0) }) (st:=wz (tuples' true) (vs.toArray.zip vs.toArray) #[] 7 none) (a₀:=vs.toArray.zip vs.toArray) (Hq (L:=L)) ⟨fun x hx => ?_,?_⟩ ⟨rfl,rfl,.refl _⟩ rfl
     (Q:=λ_ Z' =>∃p:Array Nat,arrOf Z'=p.map (kas_item (vs.toArray.zip vs.toArray))/\failedOf Z'=none/\p.Perm (ax L.length).toArray /\ ∀i j,i<j->j<L.length->ltL L (at_ p i) (at_ p j)=true) λZ' B so =>?_) (λr s' z =>?_) λ_ _ e=>e
    .rw[ez]at hx
     obtain⟨i,hi,rfl⟩:=aR.mp hx;exact⟨_,ml i (aO.mp hi),kt i (aO.mp hi)⟩
    .rw[ez,dM,bf,dN]
     refine dO ?_ iV;intro i j hi hj Yz e;have hi:=aO.mp hi;have hj:=aO.mp hj;rw[Function.comp,Function.comp,pB (kt i hi),pB (kt j hj)]at e;have n1:=vu (L:=L) (ml i hi) (b:=L.getD j []);have n2:=vu (L:=L) (ml j hj) (b:=L.getD i []);rw[e,decide_eq_false (bA _)]at n1;rw[e,decide_eq_false (bA _)]at n2;have ZH:i<L.length:=by omega
     have ZC:j<L.length:=by omega
     have nd:=dg.mp hd i j ZH ZC Yz;have e1:L.getD i []=L[i]:=by simp[ZH]
     have e2:L.getD j []=L[j]:=by simp[ZC]
     rw[e1,e2]at n1 n2;have:=wa nd n1.symm;rw[<-n2]at this;cases this
    .have pm:=B.perm
     rw[ez]at pm;obtain⟨p,h1,h2⟩:=Iq pm;refine⟨p.toArray,?_,B.fail,by rw[<-tl];exact h1.toArray,λi j Yz hj=>?_⟩
     .apply Array.toList_inj.mp
      rw[<-h2];simp
     .rw[<-h2,dN]at so
      have lp:p.length=L.length:=by rw[h1.length_eq,be,tl]
      have hb:=dg.mp so i j (by omega) (by omega) Yz;have hm:∀(k:Nat) (hk:k<p.length),p[k]<vs.length:=λk hk=>aO.mp (h1.mem_iff.mp (bR hk));rw[pB (kt _ (hm i (by omega))),pB (kt _ (hm j (by omega)))]at hb;have r1:=vu (L:=L) (ml _ (hm i (by omega))) (b:=L.getD (p[j]'(by omega)) []);rw[decide_eq_true hb]at r1;have Xl:i<p.length:=by omega
      have QU:j<p.length:=by omega
      have e1:at_ p.toArray i=p[i]:=by simp[at_,Xl]
      have e2:at_ p.toArray j=p[j]:=by simp[at_,QU]
      unfold ltL;rw[e1,e2];exact r1.symm
    .obtain⟨rfl,p,h1,h2,h3,h4⟩:=z
     exact⟨p,h1,h2,rfl,h3,h4⟩
   refine ag (bE key ?_ λ_ _ e=>e);rintro ⟨⟨⟩,Z'⟩ s' ⟨p,Rt,hf,rfl,g,so⟩;dsimp only;have Uj:=kat_snds (vs:=vs) rfl Rt;rw[Uj];refine ag (seqEpoch_at VB rfl ?_);refine ag (listUpdate_at VB rfl ?_ (hsz2:=by rw[cH,ar,bX,g.size_eq,cH,be,sizeLine_eq];omega));rw[hf];simp only[bne_self_eq_false,eR,if_false];exact aF (h p g so)
end
end GQ
namespace PySem
namespace GR
def zy(h:Heap)(a t:Addr)(i:Int):Prop := ∃ o,h.get? a=some o/\o.cls=.type "reversed"/\o.data=.fields #[.ref t,rawInt i]
theorem zy.at{h h':Heap}{a t:Addr}{i:Int}(x:zy h a t i)(e:∀o,h.get? a=some o->h'.get? a=some o):zy h' a t i:=let ⟨o,ho,r⟩:=x;⟨o,e _ ho,r⟩
open PyProof.Rows in
section
variable {prog:Program}{w:World}{A:Around}{E:Value->Shared->Prop}{s:Shared}
open PyProof.Rows
end
end GR
end PySem
namespace _L
open PySem PySem.Spec PyProof.Rows
section
variable {X:Cx}{tg:Expr}
end
end _L
namespace PySem
namespace GE
open AutoSeq1 (wpAny_loadPart')
section
variable {prog:Program}{w:World}{A:Around}{E:Value->Shared->Prop}{s:Shared}
variable{i:Nat}{items:Array Value}{Q:Value->Shared->Prop}
theorem pX{it t:Addr}{x:Value}(hit:s.heap.IsTupleIter it t i)(ht:s.heap.IsTuple t items)(hx:items[i]?=some x)
  (hQ:∀h',h'.IsTupleIter it t (i+1)->nk it s.heap h'->Q x { s with heap:=h' }):aN (model prog w) A (dr (.ref it)) Q E s:=by
 obtain⟨o,ho,hc,hd⟩:=id hit;obtain⟨ol,V2,_,nl,Yr⟩:=ht;unfold dr;refine ag (i9 (name:=FA "__next__") hit.typeIs gZ (fV gZ hit.typeIs AX ?_ (zQ _)));show aN _ _ (field (.ref it) 0 >>= _) _ _ s;refine ag (e9 ho hd (x:= .ref t) rfl ?_);show aN _ _ (if (bW t==cN)=true then _ else _) _ _ s;rw[if_neg (show ¬((bW t==cN)=true) from cQ)];show aN _ _ (field (.ref it) 1 >>= _) _ _ s;refine ag (e9 ho hd (x:= .int i 0) rfl ?_);show aN _ _ (seqItems? (.ref t) >>= _) _ _ s;refine ag (fW V2 Yr ?_);simp only[uf,hx];refine ag (wpAny_setField ho hd (by simp) (aF ⟨x,rfl,aF (hQ _ ?_ (yD ..))⟩));exact⟨_,gh _ ho (Obj.isFreed_of_fields (Obj.data_mapFields hd _)),(Obj.cls_mapFields ..).trans hc,by rw[Obj.data_mapFields hd];simp[rawInt]⟩
theorem rB{it t:Addr}(hh:A.handled=none)(hit:s.heap.IsTupleIter it t i)(ht:s.heap.IsTuple t items)(hx:items[i]?=none)
  (hE :∀ h' e,oX it s.heap h'->(∃ o,h'.get? e=some o/\o.cls=.type "StopIteration")->E (.ref e) { s with heap:=h' }):aN (model prog w) A (dr (.ref it)) Q E s:=by
 obtain⟨o,ho,hc,hd⟩:=id hit;obtain⟨ol,V2,_,nl,Yr⟩:=ht;unfold dr;refine ag (i9 (name:=FA "__next__") hit.typeIs gZ (fV gZ hit.typeIs AX ?_ (zQ _)));show aN _ _ (field (.ref it) 0 >>= _) _ _ s;refine ag (e9 ho hd (x:= .ref t) rfl ?_);show aN _ _ (if (bW t==cN)=true then _ else _) _ _ s;rw[if_neg (show ¬((bW t==cN)=true) from cQ)];show aN _ _ (field (.ref it) 1 >>= _) _ _ s;refine ag (e9 ho hd (x:= .int i 0) rfl ?_);show aN _ _ (seqItems? (.ref t) >>= _) _ _ s;refine ag (fW V2 Yr ?_);simp only[uf,hx];refine ag (gy (ag (wpAny_setField ho hd (by simp) ?_)));show aN _ _ (newExc (.type "StopIteration") [] >>= _) _ _ _;refine ag ?_;simp only [newExc,newTuple];refine ag (eJ ?_ (by size_fits));refine ag (m:=firstArgMember _ _) (wpAny_of_eq (a:=cN) (by first |rfl | (simp only[firstArgMember];rfl)) ?_);refine eJ ?_ (by size_fits);simp only[raiseNew];refine ag (wpAny_handled ?_)
 (first |rw[show A.in1.handled=none from hh] |rw[hh]);refine ag (aF (wpAny_throw ?_));exact hE _ _ (((yD ..).extBut.push _).push _) ⟨_,ay _ rfl,rfl⟩
end
end GE
end PySem
namespace _L
open PySem PySem.Spec PyProof.Rows
theorem Inv.turnNew{X:Cx}{pins:List (Addr×Obj)}{σ:St}{H:Hp}{s:Shared}{h':Heap}{t':Nat}{fp:List Addr}{T:Addr}{o:HO}(I:Inv X pins σ H s)(hf:∀b∈fp,sj X pins H b)(k:∀b u,b∉fp->s.heap.get? b=some u->h'.get? b=some u)
  (hT:s.heap.objs.size<=T) (new:fP X.prog X.w (upd H T o) h' T o):Inv X pins σ (upd H T o) { s with heap:=h',toks:=t' }:=by
 have hn:=I.hok.fresh hT;have neT:∀b u,s.heap.get? b=some u->b≠T:=λb u e z=>absurd (ak (aw e) (by rw[z];omega)) (bA _);have Qv:∀b u,H b=some u->b∉fp:=λb u e z=>by rw[(hf b z).1]at e;cases e
 refine I.step (λb hb=>⟨(hf b hb).2.2.2.1,(hf b hb).2.1,(hf b hb).2.2.2.2.1,(hf b hb).2.2.2.2.2⟩) (λb o _ _ hc e _=>k b o hc e) (λb o _ _ hc e _=>⟨_,k b o hc e⟩)
  (λb o _ e n=>by rw[aX (neT b o e)];omega) (λb o hc e=>⟨o,k b o hc e⟩) (λb xs e=>by rw[aX (aW e hn)];omega) (λb o u e=>by rw[aX (aW e hn)];omega) (λb ps e=>⟨#[],by rw[aX (aW e hn),e];simp⟩) (λm hm=>?_) (λb u e=>?_) I.bare
 .obtain⟨o,es,ep,ho,r⟩:=hm
  exact⟨o,es,ep,k _ o (λz=>(hf _ z).2.1 rfl) ho,r⟩
 .by_cases hb:b=T
  .subst hb;rw[cb]at e;grind
  .rw[aX hb]at e
   refine(I.hok b u e).stay (λc v hc q=>k c v ?_ q) (λc q=>by rw[aX (aW q hn)];omega) λc xs q=>by rw[aX (aW q hn)];omega
   grind
section
variable {X:Cx}
end
end _L
namespace PySem
namespace GE
section
variable {prog:Program}{w:World}{A:Around}{E:Value->Shared->Prop}{s:Shared}
def hU:Bool->Heap->Addr->Addr->Nat->Prop
 |true,h,i,l,k=>h.IsListIter i l k
 |false,h,i,l,k=>h.IsTupleIter i l k
def kS:Bool->Heap->Addr->Array Value->Prop
 |true,h,l,xs=>h.IsList l xs
 |false,h,l,xs=>h.IsTuple l xs
variable{b:Bool}{h h':Heap}{l:Addr}
theorem yQ{i:Addr}{k:Nat}(x:hU b h i l k)(f:∀o,h.get? i=some o->h'.get? i=some o):hU b h' i l k:=by
 cases b<;>(obtain⟨o,e,r⟩:=x;exact⟨o,f o e,r⟩)
theorem hU.extBut{i c:Addr}{k:Nat}(x:hU b h i l k)(f:oX c h h')(n:i≠c):hU b h' i l k:=yQ x λo e=>f _ o n e
variable{xs:Array Value}
theorem kS.extBut{c:Addr}(x:kS b h l xs)(f:oX c h h')(n:l≠c):kS b h' l xs:=by
 cases b<;>(obtain⟨o,e,r⟩:=x;exact⟨o,f _ o n e,r⟩)
theorem hU.lt{i:Addr}{k:Nat}(x:hU b h i l k):i<h.objs.size:=by
 cases b<;>(obtain⟨o,e,_⟩:=x;exact aw e)
variable{i:Nat}{items:Array Value}{x:Value}{Q:Value->Shared->Prop}
theorem rL{it t:Addr}(hit:hU b s.heap it t i)(ht:kS b s.heap t items)(hx:items[i]?=some x)
  (hQ:∀h',hU b h' it t (i+1)->nk it s.heap h'->Q x { s with heap:=h' }):aN (model prog w) A (dr (.ref it)) Q E s:=by
 cases b
 .exact pX hit ht hx hQ
 .exact wpAny_nextOf_list_item hit ht hx hQ
theorem BE{it t:Addr}(hh:A.handled=none)(hit:hU b s.heap it t i)(ht:kS b s.heap t items)(hx:items[i]?=none)
  (hE :∀ h' e,oX it s.heap h'->(∃ o,h'.get? e=some o/\o.cls=.type "StopIteration")->E (.ref e) { s with heap:=h' }):aN (model prog w) A (dr (.ref it)) Q E s:=by
 cases b
 .exact rB hh hit ht hx hE
 .exact wpAny_nextOf_list_end hh hit ht hx hE
variable{l1 l2:Addr}
theorem Bn{s:Addr}(la:l1<s)(lb:l2<s):ZipApart (s+4) (s+2) (s+3) s (s+1) l1 l2:=by
 have up:∀{a b:Nat},a<b->s+a≠s+b:=λh=>aL (Nat.add_lt_add_left h s);have z:∀{a:Nat},0<a->s≠s+a:=λh=>aL (Nat.lt_add_of_pos_right h);have b1:=λa=>aL (Nat.lt_add_right a la);have b2:=λa=>aL (Nat.lt_add_right a lb);exact⟨up (by decide),up (by decide),z (by decide),up (by decide),up (by decide),(z (by decide)).symm,(up (by decide)).symm,(z (by decide)).symm,(up (by decide)).symm,z (by decide),b1 4,b1 3,b1 0,b1 1,b2 4,b2 3,b2 0,b2 1⟩
variable{b a:Value}{b0:Bool}{i1 i2:Addr}{k1 k2:Nat}{ys:Array Value}
theorem KZ{z TI TO:Addr}{y:Value}(D:ZipApart z TI TO i1 i2 l1 l2)(hz:IsZip s.heap z TI TO .none)(Zf:IsPair s.heap TI (.ref i1) (.ref i2))(YW:IsPair s.heap TO a b)(h1:hU b0 s.heap i1 l1 k1)(h2:s.heap.IsTupleIter i2 l2 k2)(Yx:kS b0 s.heap l1 xs)(YV:s.heap.IsTuple l2 ys)(hx:xs[k1]?=some x)(hy:ys[k2]?=some y)(hQ:∀h',IsZip h' z TI TO (rawInt s.heap.objs.size)->IsPair h' TO x y->hU b0 h' i1 l1 (k1+1)->h'.IsTupleIter i2 l2 (k2+1)->IsPair h' s.heap.objs.size x y->h'.objs.size=s.heap.objs.size+1->(∀c o,c≠z->c≠TO->c≠i1->c≠i2->s.heap.get? c=some o->h'.get? c=some o)->Q (.ref s.heap.objs.size) { s with heap:=h' }):aN (model prog w) A (Builtin.«zip.__next__» ⟨[.ref z],[]⟩) (λfin s'=>∃v,fin=.done (.ret v)/\Q v s') E s:=by
 show aN _ _ (field (.ref z) 2 >>= _) _ _ _;refine ag (e9 hz rfl (x:= .bool false) rfl ?_);refine ag (e9 hz rfl (x:= .ref TI) rfl ?_);refine ag (fW Zf rfl ?_);refine ag ?_;refine ag (e9 hz rfl (x:= .none) rfl (aF ?_));simp only[if_true];refine ag (gy ?_);refine ag (e9 hz rfl (x:= .ref TO) rfl ?_);refine ag (gE hz (by simp) λYQ YA ZS=>?_);refine ag ?_;simp only[u7,List.zipIdx_nil,wB,List.forIn_nil];refine ag (ag (vc ?_));refine ag (rL (h1.extBut ZS.extBut D.i1z) (Yx.extBut ZS.extBut D.l1z) hx λWV Xr ZR=>aF ?_);have Zm:IsPair WV TO a b:=ZR.extBut _ _ D.TOi1 (ZS.extBut _ _ D.TOz YW);refine ag (fW Zm rfl ?_);refine ag (tu Zm λXd Yh ZP=>?_);refine ag (wpAny_letGo (aF ?_));refine ag (ag (vc ?_));refine ag (pX (((h2.extBut ZS.extBut D.i2z).extBut ZR.extBut D.i12.symm).extBut ZP.extBut D.TOi2.symm) (((YV.extBut ZS.extBut D.l2z).extBut ZR.extBut D.l2i1).extBut ZP.extBut D.l2TO) hy λVU W1 Zu=>aF ?_);have Ye:IsPair VU TO x b:=Zu.extBut _ _ D.TOi2 Yh;refine ag (fW Ye rfl ?_);refine ag (tu Ye λZ9 YY Zv=>?_);replace YY:IsPair Z9 TO x y:=YY;refine ag (wpAny_letGo (aF (aF ?_)));refine ag (fW YY rfl ?_);refine ag (wpAny_newTuple ?_);have ZG:Z9.objs.size=s.heap.objs.size:=by rw[Zv.1,Zu.1,ZP.1,ZR.1,ZS.1]
 have Xv:=Zv.extBut _ _ D.TOz.symm (Zu.extBut _ _ D.i2z.symm (ZP.extBut _ _ D.TOz.symm (ZR.extBut _ _ D.i1z.symm YA)));have We :∀ c o,c≠z->c≠TO->c≠i1->c≠i2->s.heap.get? c=some o->Z9.get? c=some o:=fun c o c1 c2 c3 c4 e=>Zv.extBut _ _ c2 (Zu.extBut _ _ c4 (ZP.extBut _ _ c2 (ZR.extBut _ _ c3 (ZS.extBut _ _ c1 e))));have Wl:=((Xr.extBut ZP.extBut D.TOi1.symm).extBut Zu.extBut D.i12).extBut Zv.extBut D.TOi1.symm;have VZ:=W1.extBut Zv.extBut D.TOi2.symm;have Wo:z<Z9.objs.size:=aw Xv;refine ag ?_;have V':IsZip (Z9.push { cls := .type "tuple",data := .seq #[x,y] }) z TI TO .ellipsis:=af _ Xv;refine ag (gE V' (by simp) fun h₇ hz₇ hs₇=>?_);refine gE hz₇ (by simp) fun h₈ hz₈ hs₈=>?_;have up :∀ c o,c≠z->Z9.get? c=some o->h₈.get? c=some o:=fun c o c1 e=>hs₈.extBut _ _ c1 (hs₇.extBut _ _ c1 (af _ e));have Xz:=hs₈.extBut _ _ (cJ Wo) (hs₇.extBut _ _ (cJ Wo) (ay _ rfl));have TH:h₈.objs.size=Z9.objs.size+1:=by rw[hs₈.1,hs₇.1,bF]
 rw[ZG]at hz₈ Xz TH;refine aF ⟨_,rfl,?_⟩;rw[ZG];exact hQ h₈ hz₈ (up _ _ D.TOz YY) (yQ Wl λo e=>up _ o D.i1z e) (VZ.at λo e=>up _ o D.i2z e) Xz TH λc o c1 c2 c3 c4 e=>up c o c1 (We c o c1 c2 c3 c4 e)
theorem K6{z TI TO:Addr}{Q:Fin->Shared->Prop}(hh:A.handled=none)(D:ZipApart z TI TO i1 i2 l1 l2)(hz:IsZip s.heap z TI TO .none)(Zf:IsPair s.heap TI (.ref i1) (.ref i2))(YW:IsPair s.heap TO a b)(h1:hU b0 s.heap i1 l1 k1)(h2:s.heap.IsTupleIter i2 l2 k2)(Yx:kS b0 s.heap l1 xs)(YV:s.heap.IsTuple l2 ys)(Xe:xs[k1]?=none\/ys[k2]?=none)(hE :∀ h' e,(∀ c o,c≠z->c≠TO->c≠i1->c≠i2->s.heap.get? c=some o->h'.get? c=some o)->(∃ o,h'.get? e=some o/\o.cls=.type "StopIteration")->E (.ref e) { s with heap:=h' }):aN (model prog w) A (Builtin.«zip.__next__» ⟨[.ref z],[]⟩) Q E s:=by
 show aN _ _ (field (.ref z) 2 >>= _) _ _ _;refine ag (e9 hz rfl (x:= .bool false) rfl ?_);refine ag (e9 hz rfl (x:= .ref TI) rfl ?_);refine ag (fW Zf rfl ?_);refine ag ?_;refine ag (e9 hz rfl (x:= .none) rfl (aF ?_));simp only[if_true];refine ag (gy ?_);refine ag (e9 hz rfl (x:= .ref TO) rfl ?_);refine ag (gE hz (by simp) λYQ YA ZS=>?_);refine ag ?_;simp only[u7,List.zipIdx_nil,wB,List.forIn_nil];refine ag (ag (vc ?_));cases hx:xs[k1]? with
 | none=>
   refine ag (BE hh (h1.extBut ZS.extBut D.i1z) (Yx.extBut ZS.extBut D.l1z) hx λWV e ZR he=>?_);obtain⟨oe,WL,VR⟩:=he;have Xu:=ZR _ _ D.i1z.symm YA;have US:e≠z:=λx=>by subst x;rw[Xu]at WL;cases WL;simp at VR
   refine gE Xu (by simp) λXd _ ZP=>hE Xd e (λc o c1 _ c3 _ x=>ZP.extBut _ _ c1 (ZR _ _ c3 (ZS.extBut _ _ c1 x))) ⟨oe,ZP.extBut _ _ US WL,VR⟩
 | some x=>
   have hy:ys[k2]?=none:=by rcases Xe with h|h;rw[hx]at h;cases h;exact h
   refine ag (rL (h1.extBut ZS.extBut D.i1z) (Yx.extBut ZS.extBut D.l1z) hx λWV Xr ZR=>aF ?_);have Zm:IsPair WV TO a b:=ZR.extBut _ _ D.TOi1 (ZS.extBut _ _ D.TOz YW);refine ag (fW Zm rfl ?_);refine ag (tu Zm λXd Yh ZP=>?_);refine ag (wpAny_letGo (aF ?_));refine ag (ag (vc ?_));refine ag (rB hh (((h2.extBut ZS.extBut D.i2z).extBut ZR.extBut D.i12.symm).extBut ZP.extBut D.TOi2.symm) (((YV.extBut ZS.extBut D.l2z).extBut ZR.extBut D.l2i1).extBut ZP.extBut D.l2TO) hy λVU e Zu he=>?_);obtain⟨oe,WL,VR⟩:=he;have Xp:=Zu _ _ D.i2z.symm (ZP.extBut _ _ D.TOz.symm (ZR.extBut _ _ D.i1z.symm YA));have US:e≠z:=λx=>by subst x;rw[Xp]at WL;cases WL;simp at VR
   refine gE Xp (by simp) λZ9 _ Zv=>hE Z9 e (λc o c1 c2 c3 c4 x=>Zv.extBut _ _ c1 (Zu _ _ c4 (ZP.extBut _ _ c2 (ZR.extBut _ _ c3 (ZS.extBut _ _ c1 x))))) ⟨oe,Zv.extBut _ _ US WL,VR⟩
variable{Q:Option Value->Shared->Prop}
theorem Bk{z TI TO:Addr}{y:Value}(D:ZipApart z TI TO i1 i2 l1 l2)(hz:IsZip s.heap z TI TO .none)(Zf:IsPair s.heap TI (.ref i1) (.ref i2))(YW:IsPair s.heap TO a b)(h1:hU b0 s.heap i1 l1 k1)(h2:s.heap.IsTupleIter i2 l2 k2)(Yx:kS b0 s.heap l1 xs)(YV:s.heap.IsTuple l2 ys)(hx:xs[k1]?=some x)(hy:ys[k2]?=some y)(hQ:∀h',IsZip h' z TI TO (rawInt s.heap.objs.size)->IsPair h' TO x y->hU b0 h' i1 l1 (k1+1)->h'.IsTupleIter i2 l2 (k2+1)->IsPair h' s.heap.objs.size x y->h'.objs.size=s.heap.objs.size+1->(∀c o,c≠z->c≠TO->c≠i1->c≠i2->s.heap.get? c=some o->h'.get? c=some o)->Q (some (.ref s.heap.objs.size)) { s with heap:=h' }):aN (model prog w) A (pyNext (.ref z)) Q E s:=by
 have hT:s.TypeIs (.ref z) _:=⟨_,hz,rfl⟩;exact ag (wpAny_attempt (i9 hT oY (fV oY hT F.entry_zip_next (KZ D hz Zf YW h1 h2 Yx YV hx hy λh' a1 a2 a3 a4 a5 a6 a7=>aF (hQ h' a1 a2 a3 a4 a5 a6 a7)) (F.args_zip_next_1 _))))
theorem BM{z TI TO:Addr}(hh:A.handled=none)(D:ZipApart z TI TO i1 i2 l1 l2)(hz:IsZip s.heap z TI TO .none)(Zf:IsPair s.heap TI (.ref i1) (.ref i2))(YW:IsPair s.heap TO a b)(h1:hU b0 s.heap i1 l1 k1)(h2:s.heap.IsTupleIter i2 l2 k2)(Yx:kS b0 s.heap l1 xs)(YV:s.heap.IsTuple l2 ys)(Xe:xs[k1]?=none\/ys[k2]?=none)(hQ:∀h',(∀c o,c≠z->c≠TO->c≠i1->c≠i2->s.heap.get? c=some o->h'.get? c=some o)->Q none { s with heap:=h' }):aN (model prog w) A (pyNext (.ref z)) Q E s:=by
 have hT:s.TypeIs (.ref z) _:=⟨_,hz,rfl⟩;refine ag (wpAny_attempt (i9 hT oY (fV oY hT F.entry_zip_next (K6 hh D hz Zf YW h1 h2 Yx YV Xe λh' e hk he=>?_) (F.args_zip_next_1 _))));obtain⟨o,ho,hc⟩:=he;refine ag (wpAny_isInstance ⟨o,ho,hc⟩ isSubtype_stop ?_);exact aF (hQ _ hk)
end
abbrev zH1(b0:Bool)(h:Heap)(l1:Addr):Heap:=h.push { cls := .type (if b0 then "list_iterator" else "tuple_iterator"),data := .fields #[.ref l1,.int 0 0] }
abbrev zH2(b0:Bool)(h:Heap)(a b:Addr):Heap:=(zH1 b0 h a).push { cls := .type "tuple_iterator",data := .fields #[.ref b,.int 0 0] }
abbrev zH3(b0:Bool)(h:Heap)(a b:Addr):Heap:=(zH2 b0 h a b).push { cls := .type "tuple",data := .seq #[.ref h.objs.size,.ref (zH1 b0 h a).objs.size] }
abbrev zH4(b0:Bool)(h:Heap)(a b:Addr):Heap:=(zH3 b0 h a b).push { cls := .type "tuple",data := .seq #[.none,.none] }
abbrev zH5(b0:Bool)(h:Heap)(a b:Addr):Heap:=(zH4 b0 h a b).push { cls := .type "zip",data := .fields #[.none,.bool false,.bool false,.ref (zH2 b0 h a b).objs.size,.ref (zH3 b0 h a b).objs.size] }
theorem Bt(b0:Bool)(a b:Addr)(xs ys:Array Value):Meets (Builtin.«zip.__new__» ⟨[.type "zip",.ref a,.ref b],[]⟩) (fun _ R s=>kS b0 s.heap a xs/\s.heap.IsTuple b ys/\R (.ok (.ret (.ref (zH4 b0 s.heap a b).objs.size))) { s with heap:=zH5 b0 s.heap a b }):=
 .of_wp λprog w A R s h=>by
  obtain⟨hp,g,d,tk,os⟩:=s;obtain⟨Yx,YV,h⟩:=h;have V0:=sub_zip;have XE:tJ (nX ⟨zH1 b0 hp a,g,d,tk,os⟩) b ys:=by
   obtain⟨o,ho,r⟩:=YV;exact⟨o,af _ ho,r⟩
  cases b0 with
  | true=>
    have WH:Heap.IsList (nX ⟨hp,g,d,tk,os⟩) a xs:=Yx;have XE:tJ (nX ⟨hp.push { cls := .type "list_iterator",data := .fields #[.ref a,.int 0 0] },g,d,tk,os⟩) b ys:=XE
    wp_walk using wpAny_pyIter_list WH,mh XE
    exact⟨_,rfl,h⟩
  | false=>
    have WH:tJ (nX ⟨hp,g,d,tk,os⟩) a xs:=Yx;have XE:tJ (nX ⟨hp.push { cls := .type "tuple_iterator",data := .fields #[.ref a,.int 0 0] },g,d,tk,os⟩) b ys:=XE
    wp_walk using mh WH,mh XE
    exact⟨_,rfl,h⟩
section
variable {prog:Program}{w:World}{A:Around}{E:Value->Shared->Prop}{s:Shared}
theorem Fd{b0:Bool}{a b:Addr}{xs ys:Array Value}{Q:Value->Shared->Prop}(Yx:kS b0 s.heap a xs)(YV:s.heap.IsTuple b ys)
  (h :∀ h',IsZip h' (s.heap.objs.size+4) (s.heap.objs.size+2) (s.heap.objs.size+3) .none->IsPair h' (s.heap.objs.size+2) (.ref s.heap.objs.size) (.ref (s.heap.objs.size+1))->IsPair h' (s.heap.objs.size+3) .none .none->hU b0 h' s.heap.objs.size a 0->h'.IsTupleIter (s.heap.objs.size+1) b 0->h'.objs.size=s.heap.objs.size+5->(∀ c o,s.heap.get? c=some o->h'.get? c=some o)->Q (.ref (s.heap.objs.size+4)) { s with heap:=h' }):aN (model prog w) A (call (.type "zip") [.ref a,.ref b]) Q E s:=by
 refine callType_new F.called_zip (by decide) (F.typeCall_zip_2 _ _) (F.newCall_zip_2 _ _) (λobj=>F.args_object_init_3 obj _ _) F.entry_zip_new (Bt b0 a b xs ys) ⟨Yx,YV,?_⟩;have z1:(zH1 b0 _ a).objs.size=s.heap.objs.size+1:=bF ..;have z2:(zH2 b0 s.heap a b).objs.size=s.heap.objs.size+2:=by rw[bF,z1]
 have z3:(zH3 b0 s.heap a b).objs.size=s.heap.objs.size+3:=by rw[bF,z2]
 have z4:(zH4 b0 s.heap a b).objs.size=s.heap.objs.size+4:=by rw[bF,z3]
 have z5:(zH5 b0 s.heap a b).objs.size=s.heap.objs.size+5:=by rw[bF,z4]
 have g5:(zH5 b0 s.heap a b).get? _=some _:=ay _ rfl;have g4:(zH5 b0 s.heap a b).get? _=some _:=af _ (ay _ rfl);have g3:(zH5 b0 s.heap a b).get? _=some _:=af _ (af _ (ay _ rfl));have g2:(zH5 b0 s.heap a b).get? _=some _:=af _ (af _ (af _ (ay _ rfl)));have g1:(zH5 b0 s.heap a b).get? _=some _:=af _ (af _ (af _ (af _ (ay _ rfl))));rw[z2,z3,z4]at g5;rw[z1,z2]at g3;rw[z3]at g4;rw[z1]at g2;rw[z4];exact⟨⟨_,g5,rfl⟩,h _ g5 g3 g4 (by cases b0<;>exact⟨_,g1,rfl,rfl⟩) ⟨_,g2,rfl,rfl⟩ z5 λc o x=>af _ (af _ (af _ (af _ (af _ x))))⟩
end
end GE
end PySem
namespace _L
open PySem PySem.Spec PyProof.Rows
variable{X:Cx}{pins:List (Addr×Obj)}{σ:St}{H:Hp}{s:Shared}{h':Heap}{t':Nat}
theorem Inv.turnFp{fp:List Addr}(I:Inv X pins σ H s)(hf:∀b∈fp,sj X pins H b)(k:∀b u,b∉fp->s.heap.get? b=some u->h'.get? b=some u):Inv X pins σ H { s with heap:=h',toks:=t' }:=by
 have Qv:∀b u,H b=some u->b∉fp:=λb u e z=>by rw[(hf b z).1]at e;cases e
 refine I.step (λb hb=>⟨(hf b hb).2.2.2.1,(hf b hb).2.1,(hf b hb).2.2.2.2.1,(hf b hb).2.2.2.2.2⟩) (λb o _ _ hc e _=>k b o hc e) (λb o _ _ hc e _=>⟨_,k b o hc e⟩)
  (λ_ _ _ _ n=>n) (λb o hc e=>⟨o,k b o hc e⟩) (λ_ _ e=>e) (λ_ _ _ e=>e) (λb ps e=>⟨#[],by rw[e];simp⟩) (λm hm=>?_) (λb u e=>?_) I.bare
 .obtain⟨o,es,ep,ho,r⟩:=hm
  exact⟨o,es,ep,k _ o (λz=>(hf _ z).2.1 rfl) ho,r⟩
 .refine(I.hok b u e).stay (λc v hc q=>k c v ?_ q) (λ_ q=>q) λ_ _ q=>q
  grind
def SqB(b0:Bool)(K:aj)(H:Hp)(a:Addr)(xs:List V):Prop:=match b0 with
 |true=>SqL K H a xs
 |false=>SqT K H a xs
variable{b0:Bool}{a:Addr}{xs:List V}
theorem Inv.seqB(I:Inv X pins σ H s)(h:SqB b0 X.K H a xs):∃ZY,cK xs ZY/\GE.kS b0 s.heap a ZY.toArray:=by
 cases b0 with
 |true=>obtain⟨ZY,rv,p,_⟩:=I.list h;exact⟨_,rv,p.isList⟩
 |false=>obtain⟨ZY,rv,p,_⟩:=I.tuple h;exact⟨_,rv,p⟩
theorem Inv.seqB_inj{ys:List V}(I:Inv X pins σ H s)(h:SqB b0 X.K H a xs)(h':SqB b0 X.K H a ys):xs=ys:=by
 cases b0 with
 |true=>exact I.list_inj h h'
 |false=>exact I.tuple_inj h h'
def Itz(K:aj)(b0:Bool)(a b:Addr):It:=
 ⟨λi H =>∃xs x ys y,SqB b0 K H a xs/\xs[i]? = some x/\SqT K H b ys/\ys[i]? = some y,λi H x H' =>∃T u v,(∀xs,SqB b0 K H a xs->xs[i]? = some u)/\(∀ys,SqT K H b ys->ys[i]? = some v)/\H T=none/\x = .ref T/\H'=upd H T (.tup [u,v]),
  λi H =>∃xs ys,SqB b0 K H a xs/\SqT K H b ys/\(xs.length<=i\/ys.length<=i)⟩
variable{P:Program}{w:World}{ts:List Expr}{kt:Nat}
theorem Fk{K:aj}{pt:Pos}{l1 l2 z TI TO i1 i2:Addr}(D:ZipApart z TI TO i1 i2 l1 l2):Turn P w K (.Tuple ts kt pt) (Itz K b0 l1 l2) [z,TI,TO,i1,i2] z
  (λi h=>IsZip h z TI TO .none/\IsPair h TI (.ref i1) (.ref i2)/\(∃p q,IsPair h TO p q)/\GE.hU b0 h i1 l1 i/\h.IsTupleIter i2 l2 i) where
 mem:=by simp
 obj:=λi h st b hb=>by
  obtain⟨hz,Zf,⟨p,q,YW⟩,h1,o2,Yv,c2,d2⟩:=st;obtain⟨o1,Vz,c1,d1⟩ :∃o,h.get? i1=some o/\True/\o.data=.fields #[.ref l1,rawInt i]:=by cases b0<;>(obtain⟨o,e,_,d⟩:=h1;exact⟨o,e,trivial,d⟩)
  simp only[aD,eO,or_false]at hb;rcases hb with rfl|rfl|rfl|rfl|rfl
  .exact⟨_,hz,λv y=>by have y':Data.fields _=Data.cell v:=y;cases y'⟩
  .exact⟨_,Zf,λv y=>by have y':FM _ _=Data.cell v:=y;cases y'⟩
  .exact⟨_,YW,λv y=>by have y':FM _ _=Data.cell v:=y;cases y'⟩
  .exact⟨o1,Vz,λv y=>by rw[d1]at y;cases y⟩
  .exact⟨o2,Yv,λv y=>by rw[d2]at y;cases y⟩
 keep:=λi h h' st k=>by
  obtain⟨hz,Zf,⟨p,q,YW⟩,h1,o2,Yv,r2⟩:=st;exact⟨k z (by simp) _ hz,k TI (by simp) _ Zf,⟨p,q,k TO (by simp) _ YW⟩,GE.yQ h1 λo e=>k i1 (by simp) o e,o2,k i2 (by simp) _ Yv,r2⟩
 item:=by
  intro X hP hw hK hc i pins s σ H E I hf st hg;subst hP hw hK;obtain⟨xs,x,ys,y,Ww,hx,WA,hy⟩:=hg;obtain⟨W6,Wx,p1⟩:=I.seqB Ww;obtain⟨ZM,XB,p2,Tu⟩:=I.tuple WA;obtain⟨u,hu,ru⟩:=Wx.get hx;obtain⟨v,hv,rv⟩:=XB.get hy;obtain⟨hz,Zf,⟨p,q,YW⟩,h1,h2⟩:=st;have Tv:=aw hz;have lts:∀b∈[z,TI,TO,i1,i2],b<s.heap.objs.size:=λb hb=>by
   simp only[aD,eO,or_false]at hb;rcases hb with rfl|rfl|rfl|rfl|rfl
   .exact Tv
   .exact aw Zf
   .exact aw YW
   .exact h1.lt
   .obtain⟨o,ho,_⟩:=h2;exact aw ho
  refine GE.Bk (b0:=b0) D hz Zf YW h1 h2 p1 (show s.heap.IsTuple l2 ZM.toArray from p2) (x:=u) (y:=v) (by simpa using hu) (by simpa using hv) λh' W5 UW Qz Ur hT ZG hk=>?_;refine⟨_,rfl,wpAny_letOwnedTupleGo_zip (s:={ s with heap:=h' }) W5 λVp he2 Zl=>?_⟩;have WI:Vp.get? s.heap.objs.size=some { cls := .type "tuple",data := .seq #[u,v] }:=(Zl.2 _ (cJ Tv)).trans hT;have k:∀b o,b ∉ [z,TI,TO,i1,i2]->s.heap.get? b=some o->Vp.get? b=some o:=λb o hb eo=>by
   simp only[aD,eO,or_false,not_or]at hb;exact(Zl.2 b hb.1).trans (hk b o hb.1 hb.2.2.1 hb.2.2.2.1 hb.2.2.2.2 eo)
  have new:fP X.prog X.w (upd H s.heap.objs.size (.tup [x,y])) Vp s.heap.objs.size (.tup [x,y]):=⟨by rw[sizeLine_eq];show 2<=16777216;decide,[u,v],.cons ru (.cons rv .nil),⟨_,WI,rfl,_,rfl⟩,_,WI,rfl⟩;have t1:GE.hU b0 Vp i1 l1 (i+1):=Qz.extBut Zl.extBut D.i1z;have t2:Vp.IsTupleIter i2 l2 (i+1):=Ur.extBut Zl.extBut D.i2z
  exact⟨.ref s.heap.objs.size,_,I.turnNew (t':=s.toks) hf k (ao _) new,rfl,⟨_,x,y,λzs hy=>by rw[I.seqB_inj hy Ww];exact hx,λzs XN=>by rw[I.tuple_inj XN WA];exact hy,I.hok.fresh (ao _),rfl,rfl⟩,⟨he2,Zl.extBut _ _ D.TIz (hk _ _ D.TIz D.TITO D.TIi1 D.TIi2 Zf),⟨u,v,Zl.extBut _ _ D.TOz UW⟩,t1,t2⟩,λb hb=>by
   rw[aX (λe=>absurd (lts b hb) (by rw[e];exact bA _))]
   exact(hf b hb).1⟩
 done:=by
  intro X hP hw hK hc i pins s σ H E I hf st hg;subst hP hw hK;obtain⟨xs,ys,Ww,WA,hx⟩:=hg;obtain⟨W6,Wx,p1⟩:=I.seqB Ww;obtain⟨ZM,XB,p2,Tu⟩:=I.tuple WA;obtain⟨hz,Zf,⟨p,q,YW⟩,h1,h2⟩:=st;have e1:=Wx.length;have e2:=XB.length;refine GE.BM (b0:=b0) (I.ok.hd hc) D hz Zf YW h1 h2 p1 (show s.heap.IsTuple l2 ZM.toArray from p2) ?_ λh' hk=>⟨rfl,I.turnFp (t':=s.toks) hf λb o hb e=>?_⟩
  .rcases hx with hx|hx
   .exact .inl (by simp;omega)
   .exact .inr (by simp;omega)
  .simp only[aD,eO,or_false,not_or]at hb
   exact hk b o hb.1 hb.2.2.1 hb.2.2.2.1 hb.2.2.2.2 e
 self:=λ_ _ _ _ _ st h=>wpAny_pyIter_zip st.1 h
section
variable {X:Cx}
def Ax(K:aj)(ta:TA):TI:=λσ H R=>ta σ H λvs H1=>∃b0 a b xs ys,vs=[.ref a,.ref b]/\SqB b0 K H1 a xs/\SqT K H1 b ys/\R (Itz K b0 a b) H1
theorem boot_zip:bootBuiltins "zip"=some (.type "zip"):=by decide +kernel
theorem LW{a b:Expr}{ta:TA}{p pos:Pos}{pt:Pos}(hg:Gl X "zip")(hm:X.mg "zip"=none)(ha:PA X [a,b] ta)(hs:starEach [a,b] X.env=(false,eval a X.env)::starEach [b] X.env)(Zl:starEach [b] X.env=[(false,eval b X.env)]):PI X (.Tuple ts kt pt) (.Call (.Name "zip" p) [a,b] [] pos) (Ax X.K ta):=by
 intro pins s σ H R I h;refine Call_ (kG I hg hm boot_zip (dm (thn (ha _ _ s σ H _ I h) λus s1 ⟨vs,H1,I1,r1,q1⟩=>?_) (by omega) (by rw[Zl];rfl)));obtain⟨b0,l1,l2,xs,ys,e,Ww,WA,q⟩:=q1;subst e;cases r1 with
 | cons r rr=>
   cases rr with
   | cons r2 rr=>
     cases rr;cases r;cases r2;obtain⟨W6,Wx,p1⟩:=I1.seqB Ww;obtain⟨ZM,XB,p2,Tu⟩:=I1.tuple WA;refine GE.Fd p1 (p2) λh' he Zf YW QO Xl ZG hk=>?_;have I2:Inv X _ σ H1 { s1 with heap:=h',toks:=s1.toks }:=I1.kept hk;refine wpAny_pyIter_zip he ?_;have la: @LT.lt _ _ l1 s1.heap.objs.size:=by cases b0<;>(obtain⟨o,ho,_⟩:=p1;exact aw ho)
     have lb: @LT.lt _ _ l2 s1.heap.objs.size:=by obtain⟨o,ho,_⟩:=(p2);exact aw ho
     have D:=GE.Bn la lb;refine⟨_,_,_,_,H1,rfl,I2,Fk D,⟨he,Zf,⟨_,_,YW⟩,QO,Xl⟩,λc hc=>?_,q⟩;have hle:s1.heap.objs.size<=c:=by
      grind
     exact I1.fpOk hle (I1.hok.fresh hle)
end
section
variable {κ:Type} [DecidableEq κ]
def lD(kvs:List (κ×V))(k:κ):Option V:=(kvs.find? λkv=>decide (kv.1=k)).map (·.2)
def putK(kvs:List (κ×V))(k:κ)(v:V):List (κ×V):=
 if (kvs.any λkv=>decide (kv.1=k))=true then kvs.map (λkv=>if kv.1=k then(kv.1,v) else kv) else kvs++[(k,v)]
theorem md{p:κ×V}{r:List (κ×V)}{k:κ}(e:p.1=k):lD (p::r) k=some p.2:=by simp[lD,e]
theorem lB{p:κ×V}{r:List (κ×V)}{k:κ}(e: ¬p.1=k):lD (p::r) k=lD r k:=by simp[lD,e]
theorem wH(k:κ):∀kvs:List (κ×V),(kvs.any λkv=>decide (kv.1=k))=(lD kvs k).isSome
 |[]=>rfl
 | p::r=>by
   rw[k7];by_cases e:p.1=k
   .simp[md e,decide_eq_true e]
   .rw[lB e,decide_eq_false e];exact wH k r
theorem lQ(kvs:List (κ×V))(k:κ)(v:V):(putK kvs k v).length<=kvs.length+1:=by
 unfold putK
 split<;>simp_all
theorem uc.isSome_eq{o:Option V}{u:Option Value}(r:uc o u):o.isSome=u.isSome:=by
 cases o with
 | none=>cases u with
   |none=>rfl
   |some _=>exact(r).elim
 | some _=>cases u with
   |none=>exact(r).elim
   |some _=>rfl
theorem KV.val{kvs:List (κ×V)}{vs:List (κ×Value)}(r:KV kvs vs)(k:κ):uc (lD kvs k) (valueAt vs k):=by
 induction r with
 |nil=>exact nq
 | @cons p q ps qs h t ih=>
   obtain⟨h1,h2⟩:=h;by_cases e:p.1=k
   .have e':=h1.symm.trans e
    have b:valueAt (q::qs) k=some q.2:=by simp[valueAt,e']
    rw[md e,b];exact h2
   .have e': ¬q.1=k:=λz=>e (h1.trans z)
    have b:valueAt (q::qs) k=valueAt qs k:=by simp[valueAt,e']
    rw[lB e,b];omega
theorem KV.any{kvs:List (κ×V)}{vs:List (κ×Value)}(r:KV kvs vs)(k:κ):(kvs.any λkv=>decide (kv.1=k))=vs.any λkv=>decide (kv.1=k):=by
 induction r<;>simp_all
variable{u:Value}
theorem KV.repl{kvs:List (κ×V)}{vs:List (κ×Value)}(r:KV kvs vs)(k:κ){y:V}(ry:RelV y u):
  KV (kvs.map λkv=>if kv.1=k then(kv.1,y) else kv) (vs.map λkv=>if kv.1=k then(kv.1,u) else kv):=by
 induction r with
 |nil=>exact .nil
 | @cons p q ps qs h t ih=>
   refine .cons ?_ ih
   grind
theorem KV.put{kvs:List (κ×V)}{vs:List (κ×Value)}(r:KV kvs vs)(k:κ){y:V}(ry:RelV y u):KV (putK kvs k y) (stored vs k u):=by
 unfold putK stored;rw[r.any k];by_cases e:(vs.any λkv=>decide (kv.1=k))=true
 .rw[if_pos e,if_pos e];exact r.repl k ry
 .rw[if_neg e,if_neg e];exact Paired.snoc r ⟨rfl,ry⟩
theorem KV.length{kvs:List (κ×V)}{vs:List (κ×Value)}(r:KV kvs vs):kvs.length=vs.length:=yL r
end
variable{u:Value}
theorem uE{k:Key}(r:RelV (kV k) u):(eC P w).is k u=true:=by
 cases k with
 |inl i=>obtain⟨t,e⟩:=(r);subst e;exact xO P w i t
 |inr x=>obtain⟨t,e⟩:=(r);subst e;exact wZ P w x t
theorem uA{P:Program}{w:World}:∀{ks:List Key}{us:List Value},cK (ks.map kV) us->ItemsAre (eC P w) ks us
 |[],_,r=>by cases r;exact .nil
 | k::ks,_,r=>by
   cases r with
   |cons h t=>exact .cons (uE h) (uA t)
abbrev KT(H:Hp):List (List Key×V)->List (List Key×Addr×Value)->Prop:=Paired λp q=>p.1=q.1/\H q.2.1=some (.tup (p.1.map kV))/\RelV p.2 q.2.2
variable{xs:List (List Key×Addr×Value)}{kvs:List (List Key×V)}
theorem KT.val(r:KT H kvs xs)(k:List Key):uc (lD kvs k) ((atKey xs k).map (·.2)):=by
 induction r with
 |nil=>exact nq
 | @cons p q ps qs h t ih=>
   obtain⟨h1,_,h2⟩:=h;by_cases e:p.1=k
   .have e':=h1.symm.trans e
    have b:atKey (q::qs) k=some q.2:=by simp[atKey,e']
    rw[md e,b];exact h2
   .have e': ¬q.1=k:=λz=>e (h1.trans z)
    have b:atKey (q::qs) k=atKey qs k:=by simp[atKey,e']
    rw[lB e,b];omega
variable{y:V}
theorem KT.repl(r:KT H kvs xs)(k:List Key)(ry:RelV y u):
  KT H (kvs.map λkv=>if kv.1=k then(kv.1,y) else kv) (xs.map (putAt k u)):=by
 induction r with
 |nil=>exact .nil
 | @cons p q ps qs h t ih=>
   refine .cons ?_ ih;unfold putAt;by_cases e:p.1=k<;>simp_all
variable{b:Addr}
theorem KT.put(r:KT H kvs xs)(k:List Key)(hb:H b=some (.tup (k.map kV)))(ry:RelV y u):
  KT H (putK kvs k y) (storedH xs k b u):=by
 have e:(kvs.any λkv=>decide (kv.1=k))=(atKey xs k).isSome:=by
  rw[wH,(r.val k).isSome_eq,qK]
 unfold putK storedH;rw[e];by_cases q:(atKey xs k).isSome=true
 .rw[if_pos q,if_pos q];exact r.repl k ry
 .rw[if_neg q,if_neg q];exact Paired.snoc r ⟨rfl,hb,ry⟩
variable{H':Hp}
theorem KT.keeps(r:KT H kvs xs)(ht:∀b ys,H b=some (.tup ys)->H' b=some (.tup ys)):KT H' kvs xs:=
 Paired.mapP r λ_ _ z=>⟨z.1,ht _ _ z.2.1,z.2.2⟩
section
variable {P:Program}{w:World}{H:Hp}{h:Heap}{a:Addr}
theorem Ih{u:HO}(ok:HOk P w H h)(e:Rd H a u):fP P w H h a u:=e.ok ok
theorem uo{kvs:List (Key×V)}(ok:HOk P w H h)(e:Rd H a (.dK kvs)):kvs.length<=sizeLine/\(a==sysModules)=false /\ ∃vs,KV kvs vs/\h.DictOf (eC P w) a vs:=
 Ih ok e
theorem ID{kvs:List (Key×V)}(ok:HOk P w H h)(e:H a=some (.dK kvs)):kvs.length<=sizeLine/\(a==sysModules)=false /\ ∃vs,KV kvs vs/\h.DictOf (eC P w) a vs:=uo ok (.inl e)
theorem rT{ks:List Key}(ok:HOk P w H h)(e:H a=some (.tup (ks.map kV))):(tupleKind (eC P w)).is h ks a:=by
 obtain⟨_,ZY,r,⟨o,h1,h2,n,h3⟩,_⟩:=(ok a _ e);exact⟨o,_,n,h1,h2,h3,by simpa using uA r⟩
theorem xT(ok:HOk P w H h)(e:Rd H a (.dT kvs)):kvs.length<=sizeLine/\(a==sysModules)=false /\
  ∃xs,KT H kvs xs/\h.DictOfH (tupleKind (eC P w)) a xs:=by
 obtain⟨z,y,xs,r,o,es,ep,h1,h2,h3,h4,h5⟩:=(Ih ok e);refine⟨z,y,xs,r,o,es,ep,h1,h2,h3,h4,λx hx=>?_,h5⟩;have all:∀{l:List _}{m:List _},KT H l m->∀x∈m,(tupleKind (eC P w)).is h x.1 x.2.1:=by
  intro l m q
  induction q with
  |nil=>grind
  | @cons p q ps qs hq t ih=>
    intro x hx;rcases aD.mp hx with e|hx
    .exact rT ok (by simp_all)
    .exact ih x hx
 exact all r x hx
theorem Ov(ok:HOk P w H h)(e:H a=some (.dT kvs)):kvs.length<=sizeLine/\(a==sysModules)=false /\
  ∃xs,KT H kvs xs/\h.DictOfH (tupleKind (eC P w)) a xs:=xT ok (.inl e)
end
def ue(H:Hp)(a:Addr)(y:V)(r:Option V):Prop:=
 (∃kvs k,Rd H a (.dK kvs)/\y=kV k/\r=lD kvs k) \/ ∃kvs k b,Rd H a (.dT kvs)/\y=.ref b/\H b=some (.tup (k.map kV))/\r=lD kvs k
def Bf(H:Hp)(a:Addr)(y v:V)(H':Hp):Prop:=
 (∃kvs k,H a=some (.dK kvs)/\y=kV k/\kvs.length<sizeLine/\H'=upd H a (.dK (putK kvs k v))) \/
 ∃kvs k b,H a=some (.dT kvs)/\y=.ref b/\H b=some (.tup (k.map kV))/\kvs.length<sizeLine/\H'=upd H a (.dT (putK kvs k v))
theorem ue.k{H:Hp}{a:Addr}{kvs:List (Key×V)}{k:Key}(e:H a=some (.dK kvs)):ue H a (kV k) (lD kvs k):= .inl ⟨kvs,k,.inl e,rfl,rfl⟩
theorem ue.t{k:List Key}(e:H a=some (.dT kvs))(eb:H b=some (.tup (k.map kV))):ue H a (.ref b) (lD kvs k):= .inr ⟨kvs,k,b,.inl e,rfl,eb,rfl⟩
theorem Bf.k{H:Hp}{a:Addr}{kvs:List (Key×V)}{k:Key}{v:V}(e:H a=some (.dK kvs))(hl:kvs.length<sizeLine):Bf H a (kV k) v (upd H a (.dK (putK kvs k v))):= .inl ⟨kvs,k,e,rfl,hl,rfl⟩
theorem Bf.t{k:List Key}{v:V}(e:H a=some (.dT kvs))(eb:H b=some (.tup (k.map kV)))(hl:kvs.length<sizeLine):
  Bf H a (.ref b) v (upd H a (.dT (putK kvs k v))):= .inr ⟨kvs,k,b,e,rfl,eb,hl,rfl⟩
section
variable {X:Cx}{pins:List (Addr×Obj)}{σ:St}{H:Hp}{s:Shared}{a:Addr}{y v:V}{u r:Value}{o:Option V}{A:Around}{E:Value->Shared->Prop}
theorem Inv.big(I:Inv X pins σ H s):sysModules<s.heap.objs.size:=by
 have h:=(I.mod.glob.keeps I.bk).lt;exact bg (by decide) h
variable{Q:Value->Shared->Prop}
theorem Cg(hu:A.units+1<cLine)(I:Inv X pins σ H s)(g:ue H a y (some v))(ry:RelV y u)(h:∀w' s',Inv X pins σ H s'->RelV v w'->Q w' s'):
  aN (model X.prog X.w) A (getItem (.ref a) u) Q E s:=by
 rcases g with⟨kvs,k,e,ey,l⟩|⟨kvs,k,b,e,ey,eb,l⟩
 .subst ey
  obtain⟨z,hd,vs,rel,dd⟩:=uo I.hok e;obtain⟨w',hw,YZ⟩:=uc.some_of (by rw[l];exact rel.val k);exact wpAny_getItem_of (uE ry) dd.mapOf hw (h w' _ (I.tok _) YZ)
 .subst ey
  cases (ry);obtain⟨z,hd,xs,rel,dd⟩:=xT I.hok e;obtain⟨w',hw,YZ⟩:=uc.some_of (by rw[l];exact rel.val k);obtain⟨p,hp,WU⟩:=iN.mp hw;refine wpAny_getItem_heap (tupleKind_room_in1 hu) (rT I.hok eb) dd hp ?_;rw[WU];exact h w' _ (I.tok _) YZ
theorem P8(hu:A.units+1<cLine)(I:Inv X pins σ H s)(g:ue H a y o)(ry:RelV y u)(h:∀s',Inv X pins σ H s'->Q (.bool o.isSome) s'):
  aN (model X.prog X.w) A (compareOp .In u (.ref a)) Q E s:=by
 rcases g with⟨kvs,k,e,ey,l⟩|⟨kvs,k,b,e,ey,eb,l⟩
 .subst ey
  obtain⟨z,hd,vs,rel,dd⟩:=uo I.hok e;refine wpAny_in_of (uE ry) hd dd.mapOf ?_;rw[<-(rel.val k).isSome_eq,<-l];exact h _ (I.tok _)
 .subst ey
  cases (ry);obtain⟨z,hd,xs,rel,dd⟩:=xT I.hok e;refine wpAny_in_heap (tupleKind_room_in1 hu) (rT I.hok eb) hd dd ?_;have q:=(rel.val k).isSome_eq;rw[qK]at q;rw[<-q,<-l];exact h _ (I.tok _)
theorem G6(hu:A.units+1<cLine)(I:Inv X pins σ H s)(g:ue H a y o)(ry:RelV y u)(h:∀s',Inv X pins σ H s'->Q (.bool (!o.isSome)) s'):
  aN (model X.prog X.w) A (compareOp .NotIn u (.ref a)) Q E s:=by
 rcases g with⟨kvs,k,e,ey,l⟩|⟨kvs,k,b,e,ey,eb,l⟩
 .subst ey
  obtain⟨z,hd,vs,rel,dd⟩:=uo I.hok e;refine wpAny_notIn_of (uE ry) hd dd.mapOf ?_;rw[<-(rel.val k).isSome_eq,<-l];exact h _ (I.tok _)
 .subst ey
  cases (ry);obtain⟨z,hd,xs,rel,dd⟩:=xT I.hok e;refine wpAny_notIn_heap (tupleKind_room_in1 hu) (rT I.hok eb) hd dd ?_;have q:=(rel.val k).isSome_eq;rw[qK]at q;rw[<-q,<-l];exact h _ (I.tok _)
theorem vL{ob:HO}(I:Inv X pins σ H s)(mu:Mut (H a))(hs:nk a s.heap h')(he:∃q,h'.get? a=some q)(new:fP X.prog X.w (upd H a ob) h' a ob):
  Inv X pins σ (upd H a ob) { s with heap:=h',toks:=t' }:=
 I.write mu (.inl rfl) (λb q hb z=>(hs.2 b hb).trans z) he new
theorem CS{kvs:List (Key×V)}{vs:List (Key×Value)}(z:kvs.length<=sizeLine)(hd:(a==sysModules)=false)(rel:KV kvs vs)(dd:h'.DictOf (eC P w) a vs):
  fP P w H' h' a (.dK kvs):=⟨z,hd,vs,rel,dd⟩
theorem Bp{Q:Unit->Shared->Prop}(hu:A.units+1<cLine)(I:Inv X pins σ H s)(g:Bf H a y v H')(ry:RelV y u)(rv:RelV v r)(h:∀s',Inv X pins σ H' s'->Q () s'):
  aN (model X.prog X.w) A (setItem (.ref a) u r) Q E s:=by
 rcases g with⟨kvs,k,e,ey,l,eH⟩|⟨kvs,k,b,e,ey,eb,l,eH⟩
 .subst ey eH
  obtain⟨z,hd,vs,rel,dd⟩:=ID I.hok e;have hz:vs.length<=sizeLine:=by rw[<-rel.length];omega
  have hl:=by have:=lQ kvs k v;exact aH (by omega) (by assumption)
  refine wpAny_setItem_pairs (uE ry) dd λh' Xi hs=>h _ ?_;have he:∃q,h'.get? a=some q:=let ⟨q,_,_,hq,_⟩:=Xi;⟨q,hq⟩;exact vL I (by rw[e];exact nq) hs he (CS hl hd (rel.put k rv) Xi)
 .subst ey eH
  cases (ry);obtain⟨z,hd,xs,rel,dd⟩:=Ov I.hok e;have hz:xs.length<=sizeLine:=by rw[<-yL rel];omega
  have hl:=by have:=lQ kvs k v;exact aH (by omega) (by assumption)
  refine wpAny_setItem_heap (tupleKind_room_in1 hu) (rT I.hok eb) dd λh' Xi hs=>h _ ?_;obtain⟨q,es,ep,hq,h2,h3,h4,_,h5⟩:=Xi;refine vL I (by rw[e];exact nq) hs ⟨q,hq⟩ ⟨hl,hd,_,(rel.put k eb rv).keeps λc ys ec=>?_,q,es,ep,hq,h2,h3,h4,h5⟩;rw[aX (pO ec e (λz=>nomatch z))];omega
end
section
variable {X:Cx}{pins:List (Addr×Obj)}{σ:St}{H:Hp}{s:Shared}{a:Addr}{kvs:List (Key×V)}{k:Key}{u:Value}{A:Around}{E:Value->Shared->Prop}
theorem DG{Q:Value->Shared->Prop}(I:Inv X pins σ H s)(e:Rd H a (.dK kvs))(h :∀ t s',Inv X pins σ H s'->Q (.int kvs.length t) s'):aN (model X.prog X.w) A (call (.builtin "len") [.ref a]) Q E s:=by
 obtain⟨z,hd,vs,rel,dd⟩:=uo I.hok e;refine call_len_dict hd dd (by rw[<-rel.length];rw[sizeLine_eq]at z;omega) ?_;rw[<-rel.length];exact h _ _ (I.tok _)
end
theorem yo{o:Option V}(I:Inv X pins σ H s)(g:ue H a y o):s.TypeIs (.ref a) "dict":=by
 rcases g with⟨kvs,k,e,_,_⟩|⟨kvs,k,b,e,_,_,_⟩
 .obtain⟨_,_,vs,_,dd⟩:=uo I.hok e
  exact dd.typeIs
 .obtain⟨_,_,xs,_,dd⟩:=xT I.hok e
  exact dd.typeIs
section
variable {X:Cx}{o i e value:Expr}{pos pos' UC:Pos}{td ty tv:TE}
end
theorem wF (h:Heap)(hb:sysModules<h.objs.size):fP P w H (h.push { cls := .type "dict",data := .dict #[] }) h.objs.size (.dK []):=
 ⟨cU _,beq_eq_false_iff_ne.mpr (dj (aL hb)),[],.nil,Heap.DictOf.new h⟩
def Di:TE:=λ_ H Q=>∀p,H p=none->Q (.ref p) (upd H p (.dK []))
section
variable {X:Cx}{pos:Pos}
theorem E2:PE X (.Dict [] [] pos) Di:=λpins s σ H Q I h=>
 wpAny_Dict_empty ⟨.ref _,_,I.laid (λ_ _ q=>af _ q) (ao _) (wF _ I.big),rfl,h _ (I.hok.fresh (ao _))⟩
end
def y4:List (TE×TE)->St->Hp->(List (V×V)->Hp->Prop)->Prop
 |[],_,H,Q=>Q [] H
 |(tk,tv)::r,σ,H,Q=>tk σ H λx H1=>tv σ H1 λy H2=>y4 r σ H2 λps H3=>Q ((x,y)::ps) H3
abbrev VV:List (V×V)->List (Value×Value)->Prop:=Paired λp q=>RelV p.1 q.1/\RelV p.2 q.2
def PPs(X:Cx)(pos:Pos)(keys:List (Option Expr))(values:List Expr)(Xx:List (TE×TE)):Prop:=
 ∀(pins:List (Addr×Obj)) (s:Shared) (σ:St) (H:Hp) (Q:List (V×V)->Hp->Prop),Inv X pins σ H s->y4 Xx σ H Q ->
  aN (model X.prog X.w) X.A (evalPairs (pairTrees keys values X.env pos)) (λvs s'=>∃ps H',Inv X pins σ H' s'/\VV ps vs/\Q ps H') X.xe s
variable{pos:Pos}
theorem Ib:PPs X pos [] [] []:=λpins s σ H Q I h=>pairTrees_nil_walk ⟨[],H,I,.nil,h⟩
variable{Xx:List (TE×TE)}
theorem DO{k v:Expr}{ks:List (Option Expr)}{vs:List Expr}{tk tv:TE}(hk:PE X k tk)(hv:PE X v tv)(hr:PPs X pos ks vs Xx):
  PPs X pos (some k::ks) (v::vs) ((tk,tv)::Xx):=λpins s σ H Q I h=>
 pairTrees_cons_walk (thn (hk _ s σ H _ I h) λu s1 ⟨x,H1,I1,rx,q1⟩=>thn (hv _ s1 σ H1 _ I1 q1) λw2 s2 ⟨y,H2,I2,ry,q2⟩=>
  thn (hr _ s2 σ H2 _ I2 q2) λws s3 ⟨ps,H3,I3,rel,q3⟩=>⟨_,H3,I3,.cons ⟨rx,ry⟩ rel,q3⟩)
def o4(kvs more:List (Key×V)):List (Key×V):=more.foldl (λacc kv=>putK acc kv.1 kv.2) kvs
theorem KV.merge:∀{more:List (Key×V)}{rs:List (Key×Value)}{kvs:List (Key×V)}{vs:List (Key×Value)},KV more rs->KV kvs vs->KV (o4 kvs more) (merged vs rs):=by
 intro more rs kvs vs r
 induction r generalizing kvs vs with
 |nil=>intro q;exact q
 | @cons p q ps qs h t ih=>
   intro r0;have e:KV (putK kvs p.1 p.2) (stored vs q.1 q.2):=by
    have:=r0.put p.1 h.2<;>simp_all
   exact ih e
theorem nh:∀(more kvs:List (Key×V)),(o4 kvs more).length<=kvs.length+more.length
 |[],kvs=>by exact ao _
 | p::r,kvs=>by
   have h1:=nh r (putK kvs p.1 p.2);have h2:=lQ kvs p.1 p.2;show(o4 _ r).length<=_
   grind
theorem sh{P:Program}{w:World}:∀{kvs:List (Key×V)}{ws:List (Value×Value)},VV (kvs.map λkv=>(kV kv.1,kv.2)) ws->∃rs,Carries (eC P w) ws rs/\KV kvs rs
 |[],_,r=>by cases r;exact⟨[],nq,.nil⟩
 | p::kvs,_,r=>by
   cases r with
   | @cons a b as bs h t=>
     obtain⟨rs,c,q⟩:=sh t;obtain⟨b1,b2⟩:=b;exact⟨(p.1,b2)::rs,⟨uE h.1,rfl,c⟩,.cons ⟨rfl,h.2⟩ q⟩
def IG(Xx:List (TE×TE)):TE:=λσ H Q=>∀p,H p=none->y4 Xx σ (upd H p (.dK [])) λps H2=>H2 p=some (.dK []) /\ ∃kvs:List (Key×V),ps=kvs.map (λkv=>(kV kv.1,kv.2))/\kvs.length<=15/\Q (.ref p) (upd H2 p (.dK (o4 [] kvs)))
theorem Hn{keys:List (Option Expr)}{values:List Expr}(h:PPs X pos keys values Xx)(WN:keys.all (·.isSome)=true)(hl:keys.length=values.length)(h0:keys≠[])
  (Rf:keys.length<=15):PE X (.Dict keys values pos) (IG Xx):=by
 intro pins s σ H Q I q;have hn:=I.hok.fresh (ao _);have I1:=I.laid (t':=s.toks) (λ_ _ q=>af _ q) (ao _) (wF _ I.big);refine wpAny_Dict_walk (knd:=eC _ _) WN hl h0 Rf (thn (h _ _ σ _ _ I1 (q _ hn)) λws s2 ⟨ps,H2,I2,rel,e,kvs,ep,lk,q2⟩=>?_);subst ep;obtain⟨rs,c,rk⟩:=sh rel;obtain⟨z,hd,SF,r0,dd⟩:=ID I2.hok e;cases r0;refine⟨rs,c,dd,λh' Xi hs=>⟨.ref _,_,?_,rfl,q2⟩⟩;have hz:(o4 [] kvs).length<=sizeLine:=by
  have h1:=nh kvs [];rw[List.length_nil]at h1;rw[sizeLine_eq];omega
 have he:∃q,h'.get? _=some q:=let ⟨q,_,_,hq,_⟩:=Xi;⟨q,hq⟩;exact vL I2 (by rw[e];exact nq) hs he (CS hz hd (rk.merge .nil) Xi)
structure M1(X:Cx)(o:Expr)(m:Str)(apos:Pos)(e:Expr)(cpos:Pos):Prop where
 base:attributeBase o m X.env (eval o X.env)=eval o X.env
 few:((backTo cpos (starEach [e] X.env)).all (λx => !x.1)&&(backToKw cpos (keywordEach [] X.env)).all (λx=>x.1.isSome)
  && decide (([e]:List Expr).length+([]:List Keyword).length+(if ([]:List Keyword).isEmpty then 0 else 1)<30))=true
 line:(apos.endLine==cpos.line)=true
 trees:backTo cpos (starEach [e] X.env)=[(false,eval e X.env)]
structure M2(X:Cx)(o:Expr)(m:Str)(apos:Pos)(e f:Expr)(cpos:Pos):Prop where
 base:attributeBase o m X.env (eval o X.env)=eval o X.env
 few:((backTo cpos (starEach [e,f] X.env)).all (λx => !x.1)&&(backToKw cpos (keywordEach [] X.env)).all (λx=>x.1.isSome)
  && decide (([e,f]:List Expr).length+([]:List Keyword).length+(if ([]:List Keyword).isEmpty then 0 else 1)<30))=true
 line:(apos.endLine==cpos.line)=true
 trees:backTo cpos (starEach [e,f] X.env)=[(false,eval e X.env),(false,eval f X.env)]
section
variable {X:Cx}{pins:List (Addr×Obj)}{σ:St}{H:Hp}{s:Shared}{a:Addr}{y d:V}{u r:Value}{o:Option V}{A:Around}{E:Value->Shared->Prop}
end
section
variable {X:Cx}{o e f:Expr}{apos cpos:Pos}{td ty tx:TE}
end
section
variable {X:Cx}{pins:List (Addr×Obj)}{σ:St}{H:Hp}{s:Shared}{a:Addr}{kvs:List (Key×V)}{A:Around}{E:Value->Shared->Prop}
end
section
variable {X:Cx}{pins:List (Addr×Obj)}{σ:St}{H:Hp}{s:Shared}{a:Addr}{y:V}{u:Value}{A:Around}{E:Value->Shared->Prop}
end
section
variable {X:Cx}
theorem B5:iu X (.builtin "len") (fun xs H Q=>∃ a kvs,xs=[V.ref a]/\H a=some (.dK kvs)/\Q (.int kvs.length) H):=by
 intro pins s σ H xs us Q I r h;obtain⟨a,kvs,rfl,ha,q⟩:=h;obtain⟨u,rfl,ru⟩:=vals1 r;cases ru;exact DG I (.inl ha) λt s' I'=>⟨.int _,H,I',⟨t,rfl⟩,q⟩
end
section
variable {κ:Type} [DecidableEq κ]
end
end _L
namespace PySem
open Sem (wp)
def l9(env:Env):List (Str×NameKind)->List (Str×Addr)->List (Str×Addr)
 |[],acc=>acc
 |(n,k)::r,acc=>if k==.free then l9 env r ((n,(env.cells.lookup n).getD 0)::acc) else l9 env r acc
variable{env:Env}
theorem kT{scope:Scope}(h:∀y∈scope.names,y.2=.free->∃c,env.cells.lookup y.1=some c):closureFor scope env=pure (l9 env scope.names []):=by
 have go:∀(names:List _) (acc:List _),(∀y∈names,y.2=.free->∃c,env.cells.lookup y.1=some c) ->
   (forIn names acc λx r=>if (x.2==a9)=true then cellOf env x.1 >>= λa=>pure (eT ((x.1,a)::r)) else pure (eT r))=pure (l9 env names acc):=by
  intro names
  induction names with
  |nil=>intro acc _;rfl
  | cons y r ih=>
    intro acc hy;obtain⟨n,k⟩:=y;by_cases hk:k=.free
    .subst hk
     obtain⟨c,hc⟩:=hy _ aT rfl;have e1:cellOf env n=pure c:=by unfold cellOf;rw[hc]
     have e2:l9 env ((n,a9)::r) acc=l9 env r ((n,c)::acc):=by
      show(if (a9==a9)=true then _ else _)=_<;>simp_all
     simp_all
    .have e2:l9 env ((n,k)::r) acc=l9 env r acc:=by
      show(if (k==a9)=true then _ else _)=_<;>simp_all
     simp_all
 exact(congrArg (λz=>z >>= pure) (go _ [] h)).trans rfl
theorem oa{env:Env}:∀(names:List (Str×NameKind)) (acc:List (Str×Addr)),(∀y∈names,y.2=.free->∃c,env.cells.lookup y.1=some c)->∀x c,(l9 env names acc).lookup x=some c->env.cells.lookup x=some c\/acc.lookup x=some c
 |[],_,_,_,_,h=>.inr h
 | (n,k)::r,acc,hy,x,c,h=>by
   unfold l9 at h
   split at h
   .rename_i hk
    have Yd:=by simpa using hk
    subst Yd;obtain⟨d,hd⟩:=hy _ aT rfl;rcases oa r _ (λz hz=>hy z (av _ hz)) x c h with e |e<;>grind
   .exact oa r _ (λz hz=>hy z (av _ hz)) x c h
theorem og{env:Env}{x:Str}:∀(names:List (Str×NameKind)) (acc:List (Str×Addr)),(names.lookup x=some .free\/(acc.lookup x).isSome=true)->((l9 env names acc).lookup x).isSome=true
 |[],_,h=>h.elim (λe=>by cases e) id
 | (y,k)::r,acc,h=>by
   unfold l9;by_cases hk:(k==.free)=true
   .rw[if_pos hk]
    refine og r _ ?_<;>grind
   .rw[if_neg hk]
    refine og r _ ?_<;>grind
theorem fD:∀(names:List (Str×NameKind)) (n:Nat) (acc:List (Str×Addr)),cellsFrom n names acc=cellsFrom n names []++acc
 |[],_,_=>rfl
 | (y,k)::r,n,acc=>by
   unfold cellsFrom
   split
   .rw[fD r _ _,fD r _ [(y,n)],aU];rfl
   .exact fD r n _
theorem jW{x:Str}:∀(names:List (Str×NameKind)) (n:Nat) (acc:List (Str×Addr)) (c:Addr),(cellsFrom n names acc).lookup x=some c->(∃k∈names,k.1=x/\k.2=.cell)\/acc.lookup x=some c
 |[],_,_,_,h=>.inr h
 | (y,k)::r,n,acc,c,h=>by
   unfold cellsFrom at h
   split at h
   .rcases jW r _ _ c h with⟨z,hz,e⟩|e
    .exact .inl ⟨z,av _ hz,e⟩
    .rw[bT]at e
     cases hb:x==y<;>simp_all
   .rcases jW r _ _ c h with⟨z,hz,e⟩|e
    .exact .inl ⟨z,av _ hz,e⟩
    .exact .inr e
section
variable {M:Model}{A:Around}{E:Value->Shared->Prop}{s:Shared}
theorem oy{scope:Scope}{globals:Addr}{cl:List (Str×Addr)}{qual:Str}{Q:Env->Shared->Prop}
  (hQ:Q { scope:=scope,locals:=s.heap.objs.size,globals:=globals,cells:=cellsFrom (s.heap.objs.size+1) scope.names cl,qual:=qual,func:=none,code:=env.code,frame:=env.frame,builtins:=env.builtins }
   { s with heap:=pushCells (s.heap.push { cls := .type "dict",data := .dict #[] }) scope.names }) :
  aN M A (newFunctionEnv scope globals cl [] qual none .none (some env)) Q E s:=by
 refine ag (wpAny_alloc ?_);refine ag (wpAny_layCells _ (λname kind cells=>by grind) _ _ _ _ ?_);rw[bF ..];exact aF hQ
end
section
variable {prog:Program}{w:World}{A:Around}{R:Result->Shared->Prop}{s:Shared}
theorem lM{elt target iter:Expr}{ifs:List Expr}{scope:Scope}{pos:Pos}{it acc:Value}(I:Nat->Shared->Prop)
  (turn: ∀n s,I n s->aN (model prog w) A (pyNext it) (λr ZT=>match r with
   |none=>R (.ok .next) ZT
   | some v=>aN (model prog w) A (letOwnedTupleGo target it v) (λ_ ZT=>aN (model prog w) A (assign target env v) (λ_ ZX=>
     aN (model prog w) A (forIn ifs true λc r=>if r=true then do let ok <- isTrue c env (eval c env);pure (eT ok) else pure (eT r)) (λok Yk=>
      if ok=true then aN (model prog w) A (eval elt env) (λx XG=>
       aN (model prog w) A (call (.builtin "list.append") [acc,x]) (fun _ Wi => ∃ m,m < n/\I m Wi) (fun _ _=>False) XG) (fun _ _=>False) Yk
      else ∃m,m<n/\I m Yk) (λ_ _=>False) ZX) (λ_ _=>False) ZT) (λ_ _=>False) ZT) (λ_ _=>False) s)
  (n:Nat) (h:I n s):
  pL (model prog w) A (.compLoop (.ListComp elt [⟨target,iter,ifs,0⟩] scope pos) 0 it acc env) R s:=by
 refine codeAny_loop rfl I (λn s hI=>?_) n h;refine wpAny_noted ?_;rw[compTurn_list];refine ag (u0 (ag (bE (turn n s hI) (λr ZT YQ=>?_) λ_ _ h'=>h'.elim)));cases r with
 |none=>exact aF YQ
 | some v=>
   refine ag (bE YQ (λ_ ZT YQ=>?_) λ_ _ h'=>h'.elim);refine ag (bE YQ (λ_ ZX WV=>ag (bE WV (λok Yk Xd=>?_) λ_ _ h'=>h'.elim)) λ_ _ h'=>h'.elim);cases ok with
   |false=>exact aF ⟨rfl,Xd⟩
   | true=>
     exact ag (ag (bE Xd (λx XG VU=>ag (bE VU (λ_ Wi Z9=>aF (aF ⟨rfl,Z9⟩)) λ_ _ h'=>h'.elim)) λ_ _ h'=>h'.elim))
end
end PySem
namespace _G
open PySem
inductive U where
 |non |bl (b:Bool) |int (i:Int) |str (x:Str) |tup (us:List U) |ref (n:Nat) |obj (a:Addr)
 deriving Inhabited
inductive Cell where
 |lst (us:List U)
 |frz (us:List U)
 |dic (kvs:List (_L.Key×U))
 |dit (f:Bool) (kvs:List (List _L.Key×U))
 deriving Inhabited
abbrev Sto:=List Cell
abbrev Rho:=List (Option U)
abbrev Res(α:Type):=Option (α×Sto)
abbrev ME:=Rho->Sto->Res U
abbrev MT:=Rho->Sto->Res Bool
abbrev MA:=Rho->Sto->Res (List U)
abbrev MF:=List U->Sto->Res U
def bnd{α β:Type}(r:Option (α×Sto))(k:α->Sto->Option β):Option β:=match r with
 |none=>none
 |some p=>k p.1 p.2
theorem aB{α β:Type}{a:α}{S:Sto}{k:α->Sto->Option β}:bnd (some (a,S)) k=k a S:=rfl
theorem bu{α β:Type}{r:Option (α×Sto)}{k:α->Sto->Option β}{b:β}(h:bnd r k=some b):∃a S,r=some (a,S)/\k a S=some b:=by
 cases r with
 |none=>cases h
 |some p=>exact⟨_,_,rfl,h⟩
def big:Nat:=16777216
def getL(S:Sto)(n:Nat):Option (List U):=match S[n]? with
 |some (.lst us)=>some us
 |some (.frz us)=>some us
 |some (.dic _)=>none
 |some (.dit _ _)=>none
 |none=>none
abbrev F2:=U->U->Sto->Res U
def dc:F2:=λx y S=>match x,y with
 |.int i,.int j=>some (.int (i+j),S)
 |.tup xs,.tup ys=>if xs.length+ys.length<=big then some (.tup (xs++ys),S) else none
 | .ref n,.ref m=>match S[n]?,S[m]? with
   |some (.lst xs),some (.lst ys)=>if xs.length+ys.length<=big then some (.ref S.length,S++[.lst (xs++ys)]) else none
   |_,_=>none
 |_,_=>none
def rG:F2:=λx y S=>match x,y with
 |.int i,.int j=>some (.int (i-j),S)
 |_,_=>none
def jI(i j:Int):Prop:=(-(2^64)<i/\i<2^64)\/(-(2^64)<j/\j<2^64)
instance(i j:Int):Decidable (jI i j):=cx _
def ig:F2:=λx y S=>match x,y with
 |.int i,.int j=>if jI i j then some (.int (i*j),S) else none
 |_,_=>none
def si(j:Int):Prop:=0<j/\j<1073741824
instance(j:Int):Decidable (si j):=cx _
def oDiv:F2:=λx y S=>match x,y with
 |.int i,.int j=>if si j then some (.int (i/j),S) else none
 |_,_=>none
def oMod:F2:=λx y S=>match x,y with
 |.int i,.int j=>if 0<j then some (.int (i%j),S) else none
 |_,_=>none
def IS(i j:Int):Prop:=0<=j/\j<=1000000/\i.natAbs<2^64
instance(i j:Int):Decidable (IS i j):=cx _
def yX:F2:=λx y S=>match x,y with
 |.int i,.int j=>if IS i j then some (.int (i^j.toNat),S) else none
 |_,_=>none
def Ce(p:Int->Int->Bool):F2:=λx y S=>match x,y with
 |.int i,.int j=>some (.bl (p i j),S)
 |_,_=>none
abbrev oLt:F2:=Ce λi j=>decide (i<j)
abbrev oLe:F2:=Ce λi j=>decide (i<=j)
abbrev oGt:F2:=Ce λi j=>decide (j<i)
abbrev oGe:F2:=Ce λi j=>decide (j<=i)
def eh(S:Sto):U->Option (List U)
 |.tup us=>some us
 |.ref n=>getL S n
 |_=>none
def cZ{α β:Type}(f:α->Option β):List α->Option (List β)
 |[]=>some []
 |x::xs=>(f x).bind λy=>(cZ f xs).map λys=>y::ys
def toD(S:Sto):Nat->U->Option PyData
 |0,_=>none
 |_+1,.non=>some .none
 |_+1,.bl b=>some (.bool b)
 |_+1,.int i=>some (.int i)
 |_+1,.str x=>if iO (.str x)=true then some (.str x) else none
 |f+1,.tup us=>(cZ (toD S f) us).map .tuple
 |f+1,.ref n=>(getL S n).bind λus=>(cZ (toD S f) us).map .list
 |_+1,.obj _=>none
def eqU(S:Sto)(x y:U):Option Bool:=(toD S 40 x).bind λa=>(toD S 40 y).map λb=>mS a b
def oEq:F2:=λx y S=>(eqU S x y).map λb=>(.bl b,S)
def oNe:F2:=λx y S=>(eqU S x y).map λb=>(.bl (!b),S)
def keyOf:U->Option _L.Key
 |.int i=>some (.inl i)
 |.str x=>some (.inr x)
 |_=>none
def iZ{κ:Type}[DecidableEq κ](kvs:List (κ×U))(k:κ):Option U:=(kvs.find? λkv=>decide (kv.1=k)).map (·.2)
def kW{κ:Type}[DecidableEq κ](kvs:List (κ×U))(k:κ)(u:U):List (κ×U):=
 if (kvs.any λkv=>decide (kv.1=k))=true then kvs.map (λkv=>if kv.1=k then(kv.1,u) else kv) else kvs++[(k,u)]
def fJ(S:Sto):U->Option (List (_L.Key×U))
 | .ref n=>match S[n]? with
   |some (.dic kvs)=>some kvs
   |_=>none
 |_=>none
def oIx:F2:=λx y S=>match fJ S x with
 |some kvs=>(keyOf y).bind λk=>(iZ kvs k).map λu=>(u,S)
 | none=>match y with
   |.int i=>((eh S x).bind λus=>_L.atI us i).map λu=>(u,S)
   |_=>none
def ae(i:Nat):ME:=λG S=>match G[i]? with
 |some (some u)=>some (u,S)
 |_=>none
def mC(u:U):ME:=λ_ S=>some (u,S)
def m1(f:U->Sto->Res U)(a:ME):ME:=λG S=>bnd (a G S) λx S1=>f x S1
def m2(f:F2)(a b:ME):ME:=λG S=>bnd (a G S) λx S1=>bnd (b G S1) λy S2=>f x y S2
def ai:MA:=λ_ S=>some ([],S)
def aa(a:ME)(r:MA):MA:=λG S=>bnd (a G S) λx S1=>bnd (r G S1) λxs S2=>some (x::xs,S2)
def gc(a:MA):ME:=λG S=>bnd (a G S) λxs S1=>if xs.length<=big then some (.tup xs,S1) else none
def b9(a:MA):ME:=λG S=>bnd (a G S) λxs S1=>if xs.length<=big then some (.ref S1.length,S1++[.lst xs]) else none
def mFn(f:MF)(a:MA):ME:=λG S=>bnd (a G S) λxs S1=>f xs S1
def ot:U->Sto->Res U:=λx S=>match x with
 |.int i=>some (.int (-i),S)
 |_=>none
def wN(c:MT)(a b:ME):ME:=λG S=>bnd (c G S) λk S1=>if k then a G S1 else b G S1
def cOf(a:ME):MT:=λG S=>bnd (a G S) λx S1=>match x with
 |.bl b=>some (b,S1)
 |_=>none
def wV(a b:MT):MT:=λG S=>bnd (a G S) λk S1=>if k then b G S1 else some (false,S1)
def cOr(a b:MT):MT:=λG S=>bnd (a G S) λk S1=>if k then some (true,S1) else b G S1
def yZ(a:MT):MT:=λG S=>bnd (a G S) λk S1=>some (!k,S1)
def cTT:MT:=λ_ S=>some (true,S)
inductive Src where
 |imm (us:List U)
 |mut (n:Nat)
 |enl (n:Nat)
 |zlt (n:Nat) (us:List U)
 |zpt (us vs:List U)
abbrev MI:=Rho->Sto->Option (Src×Sto)
def okR(i:Int):Prop:= -(2^62)<=i/\i<2^62
instance(i:Int):Decidable (okR i):=cx _
def bx(i:Int)(n:Nat):List U:=(ax n).map λ(k:Nat)=>.int (i+k)
def iR1(a:MA):MI:=λG S=>bnd (a G S) λxs S1=>match xs with
 |[.int j]=>if okR j then some (.imm (bx 0 j.toNat),S1) else none
 |_=>none
def iR2(a:MA):MI:=λG S=>bnd (a G S) λxs S1=>match xs with
 |[.int i,.int j]=>if okR i/\okR j then some (.imm (bx i (j-i).toNat),S1) else none
 |_=>none
def di(a:ME):MI:=λG S=>bnd (a G S) λx S1=>match x with
 |.tup us=>some (.imm us,S1)
 |.ref n=>(getL S1 n).map λ_=>(.mut n,S1)
 |_=>none
def xF(a:MA):MI:=λG S=>bnd (a G S) λxs S1=>match xs with
 |[.ref n,.tup us]=>(getL S1 n).map λ_=>(.zlt n us,S1)
 |[.tup us,.tup vs]=>some (.zpt us vs,S1)
 |_=>none
def fR(t:MT)(e:ME)(G:Rho):List U->List U->Sto->Res (List U)
 |[],acc,S=>some (acc,S)
 |x::xs,acc,S=>bnd (t (G++[some x]) S) λk S1=>if k then bnd (e (G++[some x]) S1) λy S2=>fR t e G xs (acc++[y]) S2 else fR t e G xs acc S1
def jG(t:MT)(e:ME)(G:Rho)(n:Nat):Nat->Nat->List U->Sto->Res (List U)
 |0,_,_,_=>none
 | f+1,i,acc,S=>(getL S n).bind λus=>match us[i]? with
   |none=>some (acc,S)
   |some x=>bnd (t (G++[some x]) S) λk S1=>if k then bnd (e (G++[some x]) S1) λy S2=>jG t e G n f (i+1) (acc++[y]) S2 else jG t e G n f (i+1) acc S1
def fuel:Nat:=100000
def uH(t:MT)(e:ME)(G:Rho):Src->Sto->Res (List U)
 |.imm us,S=>fR t e G us [] S
 |.mut n,S=>jG t e G n fuel 0 [] S
 |_,_=>none
def cy(it:MI)(t:MT)(e:ME):ME:=λG S=>bnd (it G S) λsrc S1=>bnd (uH t e G src S1) λys S2=>if ys.length<big then some (.ref S2.length,S2++[.lst ys]) else none
inductive Fl where
 |nx |rt (u:U) |bk |ct
abbrev MS:=Rho->Sto->Option (Fl×Rho×Sto)
def dF:MS:=λG S=>some (.nx,G,S)
def bh(a b:MS):MS:=λG S=>match a G S with
 |some (.nx,Y5,S1)=>b Y5 S1
 |r=>r
def bD(i:Nat)(e:ME):MS:=λG S=>bnd (e G S) λx S1=>some (.nx,G.set i (some x),S1)
def eU(o i e:ME):MS:=λG S=>bnd (e G S) λx S1=>bnd (o G S1) λp S2=>bnd (i G S2) λj S3=>match p with
 | .ref n=>match S3[n]? with
   | some (.lst us)=>(match j with
     |.int k=>(_L.ixN us.length k).map λm=>(.nx,G,S3.set n (.lst (us.set m x)))
     | _=>none)
   |some (.dic kvs)=>(keyOf j).bind λk=>if kvs.length<big then some (.nx,G,S3.set n (.dic (kW kvs k x))) else none
   |_=>none
 |_=>none
def d7(e:ME):MS:=λG S=>bnd (e G S) λ_ S1=>some (.nx,G,S1)
def dS(e:ME):MS:=λG S=>bnd (e G S) λx S1=>some (.rt x,G,S1)
def sIf(c:MT)(a b:MS):MS:=λG S=>bnd (c G S) λk S1=>if k then a G S1 else b G S1
def aft(r:Option (Fl×Rho×Sto))(k:MS):Option (Fl×Rho×Sto):=match r with
 |some (.nx,Y5,S1)=>k Y5 S1
 |some (.ct,Y5,S1)=>k Y5 S1
 |some (.bk,Y5,S1)=>some (.nx,Y5,S1)
 |r=>r
def yk(i:Nat)(b:MS):List U->MS
 |[],G,S=>some (.nx,G,S)
 |x::xs,G,S=>aft (b (G.set i (some x)) S) (yk i b xs)
def forL(i:Nat)(b:MS)(n:Nat):Nat->Nat->MS
 |0,_,_,_=>none
 | f+1,k,G,S=>(getL S n).bind λus=>match us[k]? with
   |none=>some (.nx,G,S)
   |some x=>aft (b (G.set i (some x)) S) (forL i b n f (k+1))
def P6(i:Nat)(b:MS):Src->MS
 |.imm us=>yk i b us
 |.mut n=>forL i b n fuel 0
 |_=>λ_ _=>none
def fB(i:Nat)(it:MI)(b:MS):MS:=λG S=>bnd (it G S) λsrc S1=>P6 i b src G S1
def whl(c:MT)(b:MS):Nat->MS
 |0,_,_=>none
 |f+1,G,S=>bnd (c G S) λk S1=>if k then aft (b G S1) (whl c b f) else some (.nx,G,S1)
def jR(c:MT)(b:MS):MS:=whl c b fuel
def run(k n:Nat)(b:MS):MF:=λus S=>if us.length=k then match b (us.map some++cp (n-k) none) S with
  |some (.rt u,_,S1)=>some (u,S1)
  |some (.nx,_,S1)=>some (.non,S1)
  |_=>none
 else none
def cR:MF:=λus S=>match us with
 | [x]=>(match fJ S x with
   |some kvs=>some (.int kvs.length,S)
   | none=>(eh S x).map λxs=>(.int xs.length,S))
 |_=>none
def cu:MF:=λus S=>match us with
 |[x]=>(eh S x).map λxs=>(.tup xs,S)
 |_=>none
def sy:MF:=λus S=>match us with
 |[.int i,.int j]=>some (.int (if j>i then j else i),S)
 |_=>none
def oi:U->Option Int
 |.int i=>some i
 |_=>none
def ql:List Int->Option Int
 |[]=>none
 | x::xs=>match ql xs with
   |none=>some x
   |some m=>some (if m<x then m else x)
def nc:U->Option (List Int)
 |.tup us=>cZ oi us
 |_=>none
def nE:MF:=λus S=>match us with
 |[.int i,.int j]=>some (.int (if j<i then j else i),S)
 |[.ref n]=>((getL S n).bind λxs=>(cZ oi xs).bind ql).map λm=>(.int m,S)
 |_=>none
def kI(it:MI):ME:=λG S=>bnd (it G S) λsrc S1=>match src with
 |.imm us=>if us.length<=big then some (.ref S1.length,S1++[.lst us]) else none
 |_=>none
def uz(it:MI):ME:=λG S=>bnd (it G S) λsrc S1=>match src with
 |.imm us=>if us.length<=big then some (.tup us,S1) else none
 |_=>none
def Ly(d:PyData):Prop:=d.showable=true/\d.shown.length<=sizeLine
instance(d:PyData):Decidable (Ly d):=cx _
def mML(f:Nat->List U->Sto->Res U)(o:ME)(a:MA):ME:=λG S=>bnd (o G S) λp S1=>match p with
 |.ref n=>(getL S1 n).bind λ_=>bnd (a G S1) λxs S2=>f n xs S2
 |_=>none
def bZ:Nat->List U->Sto->Res U:=λn xs S=>match xs with
 | [x]=>match S[n]? with
   |some (.lst us)=>if us.length<big then some (.non,S.set n (.lst (us++[x]))) else none
   |_=>none
 |_=>none
def lh:Nat->List U->Sto->Res U:=λn xs S=>match xs with
 | [.int i]=>match S[n]? with
   |some (.lst us)=>if okR i then(_L.ixN us.length i).bind λj=>us[j]?.map λy=>(y,S.set n (.lst (us.eraseIdx j))) else none
   |_=>none
 |_=>none
def vN:Nat->List U->Sto->Res U:=λn xs S=>match xs with
 | []=>match S[n]? with
   |some (.lst us)=>us[us.length-1]?.map λy=>(y,S.set n (.lst us.dropLast))
   |_=>none
 |_=>none
def mMT(f:List U->List U->Sto->Res U)(o:ME)(a:MA):ME:=λG S=>bnd (o G S) λp S1=>match p with
 |.tup us=>bnd (a G S1) λxs S2=>f us xs S2
 |_=>none
end _G
namespace _L
open PySem PySem.Spec PyProof.Rows
def blk(X:Cx)(N':List Str)(scope:Scope)(ZX:Shared)(ZW:Hp)(fp:List Addr):Cx:=
 { X with
  N:=N'
  s₀:=ZX
  H₀:=ZW
  env:={ scope:=relabel scope X.env,locals:=ZX.heap.objs.size+1,globals:=X.env.globals,cells:=cellsFrom (ZX.heap.objs.size+2) scope.names (l9 X.env scope.names []),qual:=X.env.qual,func:=none,code:=X.env.code,frame:=X.env.frame,builtins:=X.env.builtins }
  outer:=X.stack
  ex:=fp
  fn:=λx=>scope.names.lookup x==some .cell
  pn:= []
  xe:=λ_ _=>False }
structure i5(X:Cx)(N':List Str)(scope:Scope)(xs:List Str):Prop where
 kind:scope.kind=.function
 nd:(scope.names.map (·.1)).Nodup
 free:∀y∈scope.names,y.2=.free->X.env.kindOf y.1=some .cell\/X.env.kindOf y.1=some .free
 own:∀x∈xs,scope.names.lookup x=some .local\/scope.names.lookup x=some .cell
 ndN:N'.Nodup
 len:N'.length=X.N.length+xs.length
 last:∀(j:Nat) (x:Str),xs[j]?=some x->N'[X.N.length+j]?=some x
 vis:∀(i:Nat) (y:Str),i<X.N.length->N'[i]?=some y->(scope.names.lookup y=some .local\/scope.names.lookup y=some .cell\/scope.names.lookup y=some .free)->X.N[i]?=some y/\scope.names.lookup y=some .free
theorem hJ{env:Env}:∀{names:List (Str×NameKind)}{x:Str}{k:NameKind},
  (names.map λ(n,k)=>if (k==a9&&env.scope.kind==.function&&env.kindOf n==some .cell) then(n,d5) else(n,k)).lookup x=some k ->
  names.lookup x=some k\/(names.lookup x=some .free/\k=.cell)
 |[],_,_,h=>by simp at h
 | (n,k')::r,x,k,h=>by
   have ih:= @hJ env r x k;have h':FN x ((if (k'==a9&&env.scope.kind==.function&&env.kindOf n==some _)=true then(n,d5) else(n,k'))::(r.map _))=some k:=h;by_cases hc:(k'==a9&&env.scope.kind==.function&&env.kindOf n==some .cell)=true
   .rw[if_pos hc]at h'
    rw[bT]at h' ⊢;cases hx:x==n<;>simp_all
   .rw[if_neg hc]at h'
    rw[bT]at h' ⊢;cases hx:x==n<;>simp_all
theorem kH{env:Env}:∀{names:List (Str×NameKind)}{x:Str},names.lookup x=some .cell ->
  (names.map λ(n,k)=>if (k==a9&&env.scope.kind==.function&&env.kindOf n==some .cell) then(n,d5) else(n,k)).lookup x=some .cell
 |[],_,h=>by simp at h
 | (n,k')::r,x,h=>by
   have ih:= @kH env r x
   grind
theorem ku{env:Env}:∀{names:List (Str×NameKind)}{x:Str},names.lookup x=some .free ->
  (names.map λ(n,k)=>if (k==a9&&env.scope.kind==.function&&env.kindOf n==some .cell) then(n,d5) else(n,k)).lookup x=some .cell \/
  (names.map λ(n,k)=>if (k==a9&&env.scope.kind==.function&&env.kindOf n==some .cell) then(n,d5) else(n,k)).lookup x=some .free
 |[],_,h=>by simp at h
 | (n,k')::r,x,h=>by
   have ih:= @ku env r x;show FN x ((if (k'==a9&&env.scope.kind==.function&&env.kindOf n==some _)=true then(n,d5) else(n,k'))::_)=_\/FN x ((if (k'==a9&&env.scope.kind==.function&&env.kindOf n==some _)=true then(n,d5) else(n,k'))::_)=_;rw[bT]at h;by_cases hc:(k'==a9&&env.scope.kind==.function&&env.kindOf n==some .cell)=true
   .rw[if_pos hc]
    cases hx:x==n with
    |true=>exact .inl (by simp[bT,hx])
    | false=>
      rw[hx]at h;simp only[bT,hx];exact ih h
   .rw[if_neg hc]<;>grind
theorem oj{env:Env}:∀{names:List (Str×NameKind)}{x:Str},names.lookup x=some .globalImplicit ->
  (names.map λ(n,k)=>if (k==a9&&env.scope.kind==.function&&env.kindOf n==some .cell) then(n,d5) else(n,k)).lookup x=some .globalImplicit
 |[],_,h=>by simp at h
 | (n,k')::r,x,h=>by
   have ih:= @oj env r x
   grind
theorem mH:∀{names:List (Str×NameKind)}{x:Str}{k:NameKind},(names.map (·.1)).Nodup->(x,k)∈names->names.lookup x=some k
 |[],_,_,_,h=>by simp at h
 | (n,k')::r,x,k,nd,h=>by
   rw[dH,fi]at nd;rw[bT];rcases aD.mp h with e|h2
   .cases e;simp
   .have ZI:x≠n:=by
     grind
    have hb:=beq_eq_false_iff_ne.mpr ZI;rw[hb];exact mH nd.2 h2
variable{X:Cx}{n:Nat}
theorem j9{scope:Scope}(hf:∀y∈scope.names,y.2=.free->∃c,X.env.cells.lookup y.1=some c){x:Str}{c:Addr}
  (h:(cellsFrom n scope.names (l9 X.env scope.names [])).lookup x=some c):(cellsFrom n scope.names []).lookup x=some c\/X.env.cells.lookup x=some c:=by
 rw[fD,iy]at h;cases q:(cellsFrom n _ []).lookup x with
 |some d=>simp_all
 | none=>
   rw[q]at h;have h':=h;rcases oa _ [] hf x c h' with e|e<;>simp_all
section
variable {X:Cx}{pins:List (Addr×Obj)}{σ:St}{ZW:Hp}{ZX:Shared}{N':List Str}{scope:Scope}{xs:List Str}{fp:List Addr}
theorem i5.frees(C:i5 X N' scope xs)(ok:X.Ok):∀y∈scope.names,y.2=.free->∃c,X.env.cells.lookup y.1=some c:=λy hy e=>ok.has _ (C.free y hy e)
theorem Hw(C:i5 X N' scope xs){y:Str}(h:scope.names.lookup y=some .cell\/scope.names.lookup y=some .free):∃c,(cellsFrom n scope.names (l9 X.env scope.names [])).lookup y=some c:=by
 refine cq.mp (iD _ n _ ?_);rcases h with h|h
 .exact .inl h
 .exact .inr (og _ [] (.inl h))
theorem Jy(I:Inv X pins σ ZW ZX)(C:i5 X N' scope xs)(WD:∀b∈fp,sj X pins ZW b)(ZU:∀b∈fp,b<ZX.heap.objs.size):(blk X N' scope ZX ZW fp).Ok:=by
 have own:=λy c h=>by
  have ok:=cellsFrom_ok scope.names ((ZX.heap.push default).push default) _ [] ⟨λ_ _ hm=>(nomatch hm),gW⟩ (by exact ao _);rw[bF,bF]at ok;exact(ok.empty y c (bN h)).2
 have apart:=by
  have ok:=cellsFrom_ok scope.names ((ZX.heap.push default).push default) _ [] ⟨λ_ _ hm=>(nomatch hm),gW⟩ (by exact ao _);rw[bF,bF]at ok;exact ok.apart
 have old:∀y c,X.env.cells.lookup y=some c->c<ZX.heap.objs.size:=λy c h=>by obtain⟨v,z⟩:=I.cell y c h;exact z.lt
 refine⟨I.ok.mod,C.kind,I.ok.glob,I.ok.blt,dz _,λy z c h1 h2=>?_,λy hy=>?_,λy c hy h=>?_,I.ok.hd,I.ok.frames,.inl rfl,λb hb=>⟨?_,λy c h z=>?_⟩,I.bs,aH I.ok.bsz I.sz,λb o e hb=>?_,λb hb z=>?_,I.stack,I.stkFree⟩
 .rcases j9 (C.frees I.ok) h1 with a|a<;>rcases j9 (C.frees I.ok) h2 with b|b
  .exact name_of_addr apart (bN a) (bN b)
  .exact absurd (ak (old z c b) (aH (fH _ 2) (own y c a))) (bA _)
  .exact absurd (ak (old y c a) (aH (fH _ 2) (own z c b))) (bA _)
  .exact I.ok.inj y z c a b
 .refine Hw C ?_
  rcases hy with hy|hy
  .rcases hJ hy with e|⟨e,_⟩<;>simp_all
  .rcases hJ hy with e|⟨e,_⟩<;>simp_all
 .have XN:=by simpa [blk]using hy
  have h':(cellsFrom _ _ _).lookup y=some c:=h;rw[fD,iy]at h';have q:=cq.mp (iD _ (ZX.heap.objs.size+2) [] (.inl XN));obtain⟨d,hd⟩:=q;rw[hd]at h';have e:=dD h';subst e;have:=own y d hd;show ZX.heap.objs.size<=d;omega
 .have:=ZU b hb
  exact aL (dP this)
 .have:=ZU b hb
  rcases j9 (C.frees I.ok) h with a|a
  .exact absurd (ak this (aH (fH _ 2) (z▸own y c a))) (bA _)
  .exact(WD b hb).2.2.2.2.1 y c a z
 .have z:=(WD b hb).2.2.2.1
  rcases z with z|z
  .exact I.ok.noex b o e z
  .exact absurd (ak (aw e) (aH I.ok.bsz z)) (bA _)
 .rcases aD.mp (I.stkSub b z) with e|e
  .exact(WD b hb).2.1 e
  .exact(WD b hb).2.2.1 e
theorem BY(I:Inv X pins σ ZW ZX)(C:i5 X N' scope xs)(WD:∀b∈fp,sj X pins ZW b)(ZU:∀b∈fp,b<ZX.heap.objs.size){lo VY:Obj}(hdo:VY.data=.dict #[])(TZ:VY.isFreed=false)(Q1:lo.isFreed=false):
  Inv (blk X N' scope ZX ZW fp) [] (σ++cp xs.length none) ZW { ZX with heap:=pushCells ((ZX.heap.push lo).push VY) scope.names }:=by
 have sz:((ZX.heap.push lo).push VY).objs.size=ZX.heap.objs.size+2:=by simp_all
 have V6:=cellsFrom_ok scope.names _ _ [] ⟨λ_ _ hm=>(nomatch hm),gW⟩ (by rw[sz];exact ao _);rw[sz]at V6;have kp:∀b o,ZX.heap.get? b=some o->(pushCells ((ZX.heap.push lo).push VY) scope.names).get? b=some o:=λb o e=>pushCells_keeps _ _ b o (af _ (af _ e))
 have hL:(pushCells _ scope.names).get? (ZX.heap.objs.size+1)=some _:=pushCells_keeps _ _ _ _ (by
  have e:ZX.heap.objs.size+1=(ZX.heap.push lo).objs.size:=by rw[bF]
  rw[e];exact ay _ TZ)
 refine⟨Jy I C WD ZU,rfl,I.bare,Un.kept kp,⟨_,⟨_,_,_,hL,hdo,λe he=>by simp at he,λ_=>rfl⟩,λi y v h1 h2 h3=>?_⟩,λy c h=>?_,I.hok.fresh (dz _),λy c h=>?_,λp hp=>absurd (show p∈[] from hp) (by simp),I.hok.kept kp,?_⟩
 .have hi:i<X.N.length:=by
   by_cases hi:i<X.N.length
   .omega
   .rw[br (by rw[I.len];simp_all),iE]at h2<;>simp_all
  rw[aS (by rw[I.len];omega)]at h2;have hv:scope.names.lookup y=some .local\/scope.names.lookup y=some .cell\/scope.names.lookup y=some .free:=by
   rcases h3 with h3|h3|h3<;>rcases hJ h3 with e|⟨e,e'⟩<;>grind
  obtain⟨hN,Xs⟩:=C.vis i y hi h1 hv;have WM:=bN Xs;have hk:=C.free _ WM rfl;have vis:Vis _ y:= .inr hk;obtain⟨m,hn,hl⟩:=I.loc;obtain⟨u,r,l⟩:=hl i y v hN h2 vis;refine⟨u,r,.inr ⟨ku Xs,?_⟩⟩;rcases l with⟨Yd,_⟩|⟨_,c,hc,Zc⟩
  .simp_all
  .have nown:(cellsFrom (ZX.heap.objs.size+2) scope.names []).lookup y=none:=by
    cases q:(cellsFrom _ _ []).lookup y with
    |none=>rfl
    | some d=>
      rcases jW _ _ _ d q with⟨z,hz,e1,e2⟩|e
      .obtain⟨z1,z2⟩:=z
       simp at e1 e2;subst e1;subst e2;exact absurd (mH C.nd hz) (by rw[Xs];simp)
      .cases e
   obtain⟨d,hd⟩:=cq.mp (og _ [] (.inl Xs));have Yp:X.env.cells.lookup y=some d:=by
    rcases oa _ [] (C.frees I.ok) y d hd with e|e<;>simp_all
   rw[hc]at Yp;cases Yp;refine⟨c,?_,Zc.keeps kp⟩;show(cellsFrom _ _ _).lookup y=some c;rw[fD,iy,nown];exact hd
 .rcases j9 (C.frees I.ok) h with a|a
  .exact⟨_,(V6.empty y c (bN a)).1⟩
  .obtain⟨v,z⟩:=I.cell y c a
   exact⟨v,z.keeps kp⟩
 .rcases j9 (C.frees I.ok) h with a|a
  .exact I.hok.fresh (aH (fH _ 2) (V6.empty y c (bN a)).2)
  .exact I.freeC y c a
 .show(σ++cp _ _).length=N'.length
  rw[bo,FB,I.len,C.len]
end
def PTs(X:Cx)(ifs:List Expr)(t:TT):Prop:=
 ∀(pins:List (Addr×Obj)) (s:Shared) (σ:St) (H:Hp) (Q:Bool->Hp->Prop),Inv X pins σ H s->t σ H Q ->
  aN (model X.prog X.w) X.A (forIn ifs true λc r=>if r=true then do let ok <- isTrue c X.env (eval c X.env);pure (eT ok) else pure (eT r)) (TP X pins σ Q) X.xe s
theorem He:PTs X [] (λ_ H Q=>Q true H):=λpins s σ H Q I h=>by
 exact aF ⟨H,I,h⟩
theorem Hy{c:Expr}{t:TT}(h:PT X c t):PTs X [c] t:=λpins s σ H Q I q=>by
 refine ag (ag (thn (h _ s σ H Q I q) λb s1 e=>aF ?_));exact aF e
def pQ(wi:TI)(tt:TT)(te:TE):TE:=λσ H Q=>wi σ H λJ H1=>∃W:Nat->Nat->List V->Hp->Prop,(∃m,W 0 m [] H1) /\ ∀i m ys H,W i m ys H->ys.length<sizeLine /\
 ((J.stop i H /\ ∀D,H D=none->Q (.ref D) (upd H D (.lst ys))) \/
  (J.go i H /\ ∀x H',J.yld i H x H'->tt (σ++[some x]) H' λb H3=>if b=true then te (σ++[some x]) H3 λy H4 =>∃m',m'<m/\W (i+1) m' (ys++[y]) H4 else ∃m',m'<m/\W (i+1) m' ys H3))
variable{P:Program}{w:World}{a:Addr}
theorem HOk.track{H:Hp}{h:Heap}{o:HO}(x:HOk P w H h)(hn:H a=none)(new:fP P w (upd H a o) h a o):HOk P w (upd H a o) h:=λb u e=>by
 by_cases hb:b=a
 .subst hb;rw[cb]at e;grind
 .rw[aX hb]at e
  exact(x b u e).stay (λc v _ q=>q) (λc q=>by rw[aX (aW q hn)];omega) λc xs q=>by rw[aX (aW q hn)];omega
theorem HOk.but{H:Hp}{h h':Heap}(x:HOk P w H h)(hn:H a=none)(k:∀b o,b≠a->h.get? b=some o->h'.get? b=some o):HOk P w H h':=λb u e=>by
 refine(x b u e).stay (λc v hc q=>k c v ?_ q) (λ_ q=>q) λ_ _ q=>q
 grind
def K8(gT:V->Hp->(St->Hp->Prop)->Prop)(wi:TI)(tt:TT)(te:TE):TE:=λσ H Q=>wi σ H λJ H1=>∃W:Nat->Nat->List V->Hp->Prop,(∃m,W 0 m [] H1) /\ ∀i m ys H,W i m ys H->ys.length<sizeLine /\
 ((J.stop i H /\ ∀D,H D=none->Q (.ref D) (upd H D (.lst ys))) \/
  (J.go i H /\ ∀x H',J.yld i H x H'->gT x H' λτ H2=>tt (σ++τ) H2 λb H3=>if b=true then te (σ++τ) H3 λy H4 =>∃m',m'<m/\W (i+1) m' (ys++[y]) H4 else ∃m',m'<m/\W (i+1) m' ys H3))
def gT1:V->Hp->(St->Hp->Prop)->Prop:=λv H Q=>Q [some v] H
section
variable {X:Cx}{N':List Str}{scope:Scope}{x:Str}{xs:List Str}{tg:Expr}{gT:V->Hp->(St->Hp->Prop)->Prop}{px pos:Pos}{elt iter:Expr}{ifs:List Expr}{wi:TI}{tt:TT}{te:TE}
variable{σ:St}
theorem uL{use:Option (Value->Sem Unit)}{Qf:Value->Shared->Prop}(hc:X.calm=true)(C:i5 X N' scope xs)(hi:PI X tg iter wi)
  (ht:∀ZX ZW fp,PTs (blk X N' scope ZX ZW fp) ifs tt) (he:∀ZX ZW fp,PE (blk X N' scope ZX ZW fp) elt te) {pins:List (Addr×Obj)}{s:Shared}{H:Hp}{Q:VK} (I:Inv X pins σ H s) (h:K8 gT wi tt te σ H Q)
  (QT: ∀(ZX:Shared) (ZW:Hp) (fp:List Addr) (pl:List (Addr×Obj)) (s:Shared) (H:Hp) (v:V) (u:Value) (Q:St->Hp->Prop),Inv (blk X N' scope ZX ZW fp) pl (σ++cp xs.length none) H s->RelV v u->gT v H Q ->
   aN (model X.prog X.w) X.A (assign tg (blk X N' scope ZX ZW fp).env u) (λ_ s' =>∃τ H',τ.length=xs.length/\Inv (blk X N' scope ZX ZW fp) pl (σ++τ) H' s'/\Q τ H') (λ_ _=>False) s)
  (UX: ∀(s':Shared) (L D:Addr) (H':Hp) (ml:Str->Option Value),s'.heap.Ns L ml->Inv X pins σ H' s'->H' L=none->L≠X.env.locals->X.s₀.heap.objs.size<=L->(∀y c,X.env.cells.lookup y=some c->c≠L)->(∀p∈X.pn++pins,p.1≠L) ->
   Q (.ref D) H'->compPost (model X.prog X.w) X.A X.xe use Qf (.ref D) L (.ok .next) s'):
  aN (model X.prog X.w) X.A (eval iter X.env) (λxv ZT=>aN (model X.prog X.w) X.A (pyIter xv) (λit ZX=>aN (model X.prog X.w) X.A (newList []) (λacc Yk=>
   aN (model X.prog X.w) X.A (newFunctionEnv scope X.env.globals (l9 X.env scope.names []) [] X.env.qual none .none (some X.env)) (λUw XG=>
    pL (model X.prog X.w) X.A (.compStart (.ListComp elt [⟨tg,iter,ifs,0⟩] scope pos) 0 it acc { Uw with scope:=relabel scope X.env }) (compPost (model X.prog X.w) X.A X.xe use Qf acc Uw.locals) XG) X.xe Yk) X.xe ZX) X.xe ZT) X.xe s:=by
 refine thn (hi pins s σ H _ I h) λv s1 h1=>thn h1 λitv s2 h2=>?_;obtain⟨it,fp,tn,J,H2,e,I2,T,Zy,f2,W,⟨m0,w0⟩,turn⟩:=h2;subst e;have ZU:∀b∈fp,b<s2.heap.objs.size:=λb hb=>by obtain⟨o,ho,_⟩:=T.obj _ _ Zy b hb;exact aw ho
 refine eJ (oy ?_);have I4:Inv _ [] _ H2 { s2 with heap:=pushCells ((s2.heap.push { cls := .type "list",dict:=none,data := .seq [].toArray }).push { cls := .type "dict",data := .dict #[] }) _ }:=
  BY I2 C f2 ZU rfl rfl rfl
 generalize hXb:blk X N' scope s2 H2 fp=Xb at I4;have Q3:(pushCells ((s2.heap.push _).push { cls := .type "dict",data := .dict #[] }) scope.names).get? _=some { cls := .type "list",data := .seq [].toArray }:=
  pushCells_keeps _ _ _ _ (af _ (ay _ rfl))
 have YE:tn 0 (pushCells ((s2.heap.push { cls := .type "list",dict:=none,data := .seq [].toArray }).push { cls := .type "dict",data := .dict #[] }) scope.names):=
  T.keep _ _ _ Zy λb hb o e=>pushCells_keeps _ _ b o (af _ (af _ e))
 have U4:({ scope:=relabel scope X.env,locals:=(s2.heap.push { cls := .type "list",dict:=none,data := .seq [].toArray }).objs.size,globals:=X.env.globals,cells:=cellsFrom ((s2.heap.push { cls := .type "list",dict:=none,data := .seq [].toArray }).objs.size+1) scope.names (l9 X.env scope.names []),qual:=X.env.qual,func:=none,code:=X.env.code,frame:=X.env.frame,builtins:=X.env.builtins }:Env)=Xb.env:=by
  rw[<-hXb,bF];rfl
 generalize hs4:({ s2 with heap:=pushCells _ _ }:Shared)=s4 at I4;have VX:s4.heap.get? s2.heap.objs.size=some { cls := .type "list",data := .seq [].toArray }:=by rw [<-hs4];exact Q3
 have Ws:tn 0 s4.heap:=by rw[<-hs4];exact YE
 have hL:Xb.env.locals=s2.heap.objs.size+1:=by rw[<-hXb];rfl
 have hex:Xb.ex=fp:=by rw[<-hXb];rfl
 have Vu:Xb.s₀=s2:=by rw[<-hXb];rfl
 have RN:Xb.H₀=H2:=by rw[<-hXb];rfl
 have YX:Xb.fs=frs X.stack:=by rw[<-hXb];rfl
 have Tr:Xb.pn=[]:=by rw[<-hXb];rfl
 have hK:Xb.K=X.K:=by rw[<-hXb];rfl
 have hP:Xb.prog=X.prog:=by rw[<-hXb];rfl
 have hw:Xb.w=X.w:=by rw[<-hXb];rfl
 have hA:Xb.A=X.A:=by rw[<-hXb];rfl
 have TM:Xb.xe=λ_ _=>False:=by rw[<-hXb];rfl
 have SI:Xb.calm=true:=by rw[<-hXb];exact hc
 have XT:PTs Xb ifs tt:=by rw[<-hXb];exact ht _ _ _
 have RC:PE Xb elt te:=by rw[<-hXb];exact he _ _ _
 have RO:∀(pl:List _) (s:Shared) (H:Hp) (v:V) (u:Value) (Q:St->Hp->Prop),Inv Xb pl (σ++cp xs.length none) H s->RelV v u->gT v H Q ->
   aN (model X.prog X.w) X.A (assign tg Xb.env u) (λ_ s'=>∃τ H',τ.length=xs.length/\Inv Xb pl (σ++τ) H' s'/\Q τ H') (λ_ _=>False) s:=by
  rw[<-hXb];exact QT _ _ _
 have WS:∀y c,Xb.env.cells.lookup y=some c->c≠s2.heap.objs.size:=λy c e z=>by
  obtain⟨v,o,ho,hd⟩:=I4.cell y c e;rw[z,VX]at ho;cases ho;cases hd
 have stat:∀{H':Hp}{pl:List _},(∀b∈fp,H' b=none)->(∀p∈pl,p.1=s2.heap.objs.size)->∀b∈fp,sj Xb pl H' b:=λ{H' pl} hn ZO b hb=>by
  refine⟨hn b hb,?_,?_,.inl (by rw[hex];exact hb),λy c e z=>?_,λp hp z=>?_⟩
  .rw[hL];exact aL (dP (ZU b hb))
  .exact I4.ok.exfs b (by rw[hex];exact hb)
  .exact(I4.ok.exf b (by rw[hex];exact hb)).2 y c e z
  .rw[Tr]at hp
   have h1:=ZO p (by simpa using hp);have h2:=ZU b hb;exact absurd h2 (by rw[<-z,h1];exact bA _)
 have Dfs:s2.heap.objs.size∉Xb.fs:=by
  rw[YX];intro z;rcases aD.mp (I2.stkSub _ z) with e|e
  .exact absurd I2.lt (by rw[<-e];exact bA _)
  .exact I2.nofs (ao _) e
 have fin :∀ (s':Shared) (i m:Nat) (ys:List V) (ZY:List Value) (n:Nat) (H':Hp) (Y3:St),Inv Xb [] Y3 H' s'->H' s2.heap.objs.size=none->s'.heap.get? s2.heap.objs.size=some { cls := .type "list",data := .seq ZY.toArray n }->cK ys ZY->ys.length<sizeLine ->
   (∀D,H' D=none->Q (.ref D) (upd H' D (.lst ys)))->compPost (model X.prog X.w) X.A X.xe use Qf (.ref s2.heap.objs.size) Xb.env.locals (.ok .next) s':=by
  intro s' i m ys ZY n H' Y3 I' Wp hDo rv hz q;obtain⟨ml,XD,_⟩:=I'.loc;have kb:∀b o,b≠Xb.env.locals->s'.heap.get? b=some o->s'.heap.get? b=some o:=λb o _ e=>e;have RZ:s2.heap.objs.size≠Xb.env.locals:=by rw[hL];exact aL (cw _)
  have U6:=by
   have:=I'.hok.but I'.free kb;rw[hP,hw]at this;exact this
  have UN:HOk X.prog X.w (upd H' _ (.lst ys)) s'.heap:=U6.track Wp ⟨aE hz,ZY,n,rv,kb _ _ RZ hDo⟩;have base:=I'.base;rw[Vu,RN,hex,YX]at base;have un:Un (frs X.stack) fp H2 (upd H' s2.heap.objs.size (.lst ys)) s2.heap s'.heap:=by
   have ltL:∀b o,s2.heap.get? b=some o->b≠Xb.env.locals:=λb o e=>by rw[hL];exact aL (dP (aw e))
   have ltD:∀b o,s2.heap.get? b=some o->b≠s2.heap.objs.size:=λb o e=>aL (aw e);refine⟨λb o e n hb hx=>kb b o (ltL b o e) (base.keep b o e n hb hx),λb o e n hb hx=>?_,λb o e n hx=>?_,λb o e hx=>?_,λb xs e=>?_,λb o u e=>?_,λb ps e=>?_⟩
   .obtain⟨sl,q⟩:=base.slot b o e n hb hx
    exact⟨sl,kb b _ (ltL b o e) q⟩
   .rw[aX (ltD b o e)];exact base.free b o e n hx
   .obtain⟨o',q⟩:=base.there b o e hx
    exact⟨o',kb b _ (ltL b o e) q⟩
   .have q:=base.tups b xs e
    rw[aX (aW q Wp)];exact q
   .have q:=base.frzs b o u e
    rw[aX (aW q Wp)];exact q
   .obtain⟨more,q⟩:=base.tbls b ps e
    exact⟨more,by rw[aX (aW q Wp)];exact q⟩
  have os:s'.os=s2.os:=by rw[I'.os,Vu]
  have If:=I2.call' os un UN I'.bare λb hb=>⟨(f2 b hb).2.2.2.1,(f2 b hb).2.1,(f2 b hb).2.2.2.2.1,(f2 b hb).2.2.2.2.2⟩;refine UX s' _ _ _ ml XD If ?_ ?_ ?_ ?_ ?_ (q _ Wp)
  .rw[aX (dj RZ)];exact I'.free
  .rw[hL];exact cJ (dP I2.lt)
  .rw[hL];exact eG I2.sz
  .intro y c e z
   obtain⟨v,o,ho,_⟩:=I2.cell y c e;have:=aw ho;rw[z,hL]at this;exact absurd (Nat.lt_of_succ_lt this) (bA _)
  .intro p hp z
   have:=aw (I2.pin p hp).1;rw[z,hL]at this;exact absurd (Nat.lt_of_succ_lt this) (bA _)
 have loop:∀UL:Addr,UL=it->pL (model X.prog X.w) X.A (.compLoop (.ListComp elt [⟨tg,iter,ifs,0⟩] scope pos) 0 (.ref UL) (.ref s2.heap.objs.size) Xb.env) (compPost (model X.prog X.w) X.A X.xe use Qf (.ref s2.heap.objs.size) Xb.env.locals) s4:=by
  rintro UL rfl
  refine lM (λn s' =>∃(i:Nat) (ys:List V) (ZY:List Value) (nn:Nat) (H':Hp),Inv Xb [] _ H' s'/\tn i s'.heap/\(∀b∈fp,H' b=none)/\H' _=none /\
   s'.heap.get? _=some { cls := .type "list",data := .seq ZY.toArray nn }/\cK ys ZY/\W i n ys H') ?_ m0 ⟨0,[],[],_,H2,I4,Ws,fun b hb=>(f2 b hb).1,I2.hok.fresh (ao _),VX,.nil,w0⟩
  rintro n s3 ⟨i,ys,ZY,nn,H3,I3,ZL,VL,Ti,UO,Wv,w3⟩;obtain⟨hz,turn⟩:=turn i n ys H3 w3;have Ui:∀{s':Shared}{H':Hp}{Y3:St}{oD:Obj},Inv Xb [] Y3 H' s'->H' _=none->s'.heap.get? _=some oD->(∀v,oD.data≠.cell v)->Inv Xb [(s2.heap.objs.size,oD)] Y3 H' s':=λ{s' H' Y3 oD} I' hn ho hd=>
   I'.pins_of λp hp=>by
    have e:=by simpa using hp
    subst e;exact⟨ho,hn,by rw[hL];exact aL (cw _),Dfs,hd⟩
  have RX:=Ui I3 Ti UO (λv z=>by cases z);have ZO :∀ p ∈ [(s2.heap.objs.size,({ cls := .type "list",data := .seq ZY.toArray nn }:Obj))],p.1=s2.heap.objs.size:=fun p hp=>by
   have e:=bL.mp hp;rw[e]
  rcases turn with⟨stop,qn⟩|⟨go,step⟩
  .have q:=T.done Xb hP hw hK SI i _ s3 _ H3 (λ_ _=>False) RX (stat VL ZO) ZL stop
   rw[hA]at q;refine bE q (λr s5 ⟨hr,I5⟩=>?_) λ_ _ z=>bK z;subst hr;exact fin s5 i n ys ZY nn H3 _ (I5.pins_of λp hp=>absurd hp (by simp)) Ti (I5.pin _ (aJ _ (bL.mpr rfl))).1 Wv hz qn
  .have q:=T.item Xb hP hw hK SI i _ s3 _ H3 (λ_ _=>False) RX (stat VL ZO) ZL go
   rw[hA]at q;refine bE q (λr s45 ⟨u,hr,h5⟩=>?_) λ_ _ z=>bK z;subst hr;refine bE h5 (λ_ s5 ⟨y5,H5,I5,r5,R4,YN,U1⟩=>?_) λ_ _ z=>bK z;have UZ:=I5.pinned (stat U1 ZO) (T.obj _ _ YN);refine bE (RO _ s5 H5 y5 _ _ UZ r5 (step y5 H5 R4)) (λ_ s6 ⟨τ,H6,RL,I6,q6⟩=>?_) λ_ _ z=>bK z;have qt:=XT _ s6 _ H6 _ I6 q6;rw[hP,hw,hA,TM]at qt;refine bE qt (λb s7 ⟨H7,I7,q7⟩=>?_) λ_ _ z=>bK z;have again :∀ {s8:Shared}{H8:Hp}{Z0:St},Inv Xb ([(s2.heap.objs.size,({ cls := .type "list",data := .seq ZY.toArray nn }:Obj))]++vA fp s5.heap) Z0 H8 s8->tn (i+1) s8.heap/\(∀ b∈fp,H8 b=none)/\H8 _=none/\s8.heap.get? _=some _:=fun {s8 H8 Z0} I8=>by
    refine⟨T.keep _ _ _ YN λb hb o e=>(I8.pin (b,o) (aJ _ (aJ _ (kK hb e)))).1,λb hb=>?_,?_,?_⟩
    .obtain⟨o,e,d⟩:=T.obj _ _ YN b hb
     exact(I8.pin (b,o) (aJ _ (aJ _ (kK hb e)))).2.1
    .exact(I8.pin _ (aJ _ (aZ _ (bL.mpr rfl)))).2.1
    .exact(I8.pin _ (aJ _ (aZ _ (bL.mpr rfl)))).1
   have forget:∀{s8:Shared}{H8:Hp}{pl:List _},Inv Xb pl (σ++τ) H8 s8->Inv Xb [] (σ++cp xs.length none) H8 s8:=λ{s8 H8 pl} I8=>
    (I8.pins_of λp hp=>absurd hp (by simp)).weak (by simp[RL]) λj v hj=>by
     by_cases hjs:j<σ.length
     .rw[aS hjs]at hj ⊢;exact hj
     .rw[br (by exact dA (by assumption)),iE]at hj
      split at hj<;>simp at hj
   cases b with
   | false=>
     have Ux:=q7;obtain⟨m',hm,w7⟩:=Ux;obtain⟨a1,a2,a3,a4⟩:=again I7;exact⟨m',hm,i+1,ys,ZY,nn,H7,forget I7,a1,a2,a3,a4,Wv,w7⟩
   | true=>
     have Ux:=q7;have qe:=RC _ s7 _ H7 _ I7 Ux;rw[hP,hw,hA,TM]at qe;refine bE qe (λuv s8 ⟨y8,H8,I8,r8,m',hm,w8⟩=>?_) λ_ _ z=>bK z;obtain⟨a1,a2,a3,a4⟩:=again I8;have I9:=forget I8;have hl3:=Wv.length;refine call_meets F.slot_list_append ⟨_,a4,rfl⟩ F.entry_list_append (F.args_list_append_2 _ _) (PySem.list_append _ _ nn uv (by rw[cH];omega)) ⟨a4,?_⟩;have Se:=Fx a4 (·.push uv);have e1:(ZY.toArray.push uv)=(ZY++[uv]).toArray:=by simp
     rw[e1]at Se;have Qj:=
      I9.turned (t':=s8.toks) (λb' u hb hu=>(cX s8.heap (cz (·.push uv)) (dj hb)).trans hu) a3 (by rw[hL];exact aL (cw _)) (.inr (by rw[Vu];exact ao _)) WS (λp hp=>by rw[Tr]at hp;exact absurd hp (by simp))
     refine⟨m',hm,i+1,ys++[y8],_,_,H8,Qj,T.keep _ _ _ a1 λb hb o e=>?_,a2,a3,Se,Wv.append (.cons r8 .nil),w8⟩;exact(cX s8.heap _ (by first |exact cJ (ZU b hb) |exact aL (ZU b hb))).trans e
 have start:=codeAny_compStart_list (loop it rfl) (T.self X.A 0 s4 _ _ Ws (loop it rfl));rw[U4];have eL:(s2.heap.push { cls := .type "list",dict:=none,data := .seq [].toArray }).objs.size=Xb.env.locals:=by rw [bF,hL]
 rw[eL];exact start
theorem AJ(C:i5 X N' scope [x])(ZX:Shared)(ZW:Hp)(fp:List Addr)(pl:List (Addr×Obj))(s:Shared)(H:Hp)(v:V)(u:Value)(Q:St->Hp->Prop)(I:Inv (blk X N' scope ZX ZW fp) pl (σ++cp [x].length none) H s)(r:RelV v u)(q:gT1 v H Q):
  aN (model X.prog X.w) X.A (assign (.Name x px) (blk X N' scope ZX ZW fp).env u) (λ_ s'=>∃τ H',τ.length=[x].length/\Inv (blk X N' scope ZX ZW fp) pl (σ++τ) H' s'/\Q τ H') (λ_ _=>False) s:=by
 have hl:σ.length=X.N.length:=by
  have:=I.len;rw[show(blk X N' _ _ _ fp).N=N' from rfl,C.len,bo,FB]at this;omega
 have Wg:Loc (blk X N' scope ZX ZW fp).env.scope x:=by
  rcases C.own x (by simp) with e|e
  .exact .inl (lookup_relabel_local e)
  .exact .inr (kH e)
 have R5:(blk X N' scope ZX ZW fp).fn x=true\/(blk X N' scope ZX ZW fp).env.scope.names.lookup x=some .local:=by
  rcases C.own x (by simp) with e|e
  .right;exact lookup_relabel_local e
  .left;show(scope.names.lookup x==some _)=true;rw[e];rfl
 refine yz (j7 I C.ndN (i:=X.N.length) (C.last 0 x rfl) Wg r (λs6 I6=>?_) R5);have UR:(σ++cp [x].length none).set X.N.length (some v)=σ++[some v]:=by
  rw[<-hl];simp
 rw[UR]at I6;exact⟨_,H,rfl,I6,q⟩
theorem Hh(hc:X.calm=true)(C:i5 X N' scope [x])(hi:PI X (.Name x px) iter wi)
  (ht:∀ZX ZW fp,PTs (blk X N' scope ZX ZW fp) ifs tt) (he:∀ZX ZW fp,PE (blk X N' scope ZX ZW fp) elt te)
  (hs:autoParam (∀x,foldedSetIterable iter X.env x=pure x) au3._auto_1):
  PE X (.ListComp elt [⟨.Name x px,iter,ifs,0⟩] scope pos) (pQ wi tt te):=by
 intro pins s σ H Q I h;refine wpAny_comprehension_free rfl hs (kT (C.frees I.ok)) C.kind (λy hy e=>mH C.nd (by rw[<-e];omega)) ?_;refine uL (gT:=gT1) hc C hi ht he I h (AJ C) λs' L D H' ml XD I' hn h1 h2 h3 h4 q=>?_;exact⟨ml,XD,λh' Wh=>⟨.ref D,H',I'.turned (λb o hb e=>(Wh.2 b hb).trans e) hn h1 (.inr h2) h3 h4,rfl,q⟩⟩
theorem FT{i:Nat}{y:Str}{py Yg:Pos}(hN:X.N.Nodup)(ZH:X.N[i]?=some y)(hy:Loc X.env.scope y)(hc:X.calm=true)(C:i5 X N' scope [x])(hi:PI X (.Name x px) iter wi)
  (ht:∀ZX ZW fp,PTs (blk X N' scope ZX ZW fp) ifs tt) (he:∀ZX ZW fp,PE (blk X N' scope ZX ZW fp) elt te)
  (Rn:swapsWith (.ListComp elt [⟨.Name x px,iter,ifs,0⟩] scope pos) (some (.Name y py)) Yg.line X.env=pure true)
  (hs:autoParam (∀x,foldedSetIterable iter X.env x=pure x) au3._auto_1) (hf:autoParam (X.fn y=true\/X.env.scope.names.lookup y=some .local) au4._auto_1):
  PS X (.Assign [.Name y py] (.ListComp elt [⟨.Name x px,iter,ifs,0⟩] scope pos) Yg) (EG (pQ wi tt te) (jM i)):=by
 intro pins s σ H D I h;rw[exec_Assign_Name_used _ _ _ _ Rn];refine ag (u0 (ag ?_))
 refine ag (bE (wpAny_comprehension_free rfl hs (kT (C.frees I.ok)) C.kind (λy hy e=>mH C.nd (by rw[<- e];omega))
  (uL (gT:=gT1) (Q:=λv H1=>jM i v σ H1 _) hc C hi ht he I h (AJ C) λs' L D' H' ml XD I' hn h1 h2 h3 h4 q =>?_)) (λ_ s' hq=>aF (aF hq)) λ_ _ e=>e)
 refine yz (uW (v:= .ref D') I' hN ZH hy rfl (λs6 I6 Wh=>?_) hf);obtain⟨a,Wh,ha⟩:=Wh;have QZ:L≠a:=by
  rcases ha with e|e
  .rw[e];omega
  .exact dj (h3 _ _ e)
 refine⟨ml,XD.sameBut Wh QZ,λh' Ug=>?_⟩;exact⟨_,H',I6.turned (λb o hb e=>(Ug.2 b hb).trans e) hn h1 (.inr h2) h3 h4,q⟩
end
end _L
namespace HT
open PySem PyProof.Rows
open PySem.SeqAt
open PySem.AutoSeq1 (wpAny_loadPart')
open PySem.MeetsSeq PySem.MeetsSeq2 PySem.MeetsSeq3
section
variable {prog:Program}{w:World}{A:Around}{E:Value->Shared->Prop}{s:Shared}
theorem cat_tup0{t b:Addr}{ws:List Value}{Q:Value->Shared->Prop}(ht:IsTup s.heap t ([]:List Value).toArray)(hb:IsTup s.heap b ws.toArray)(h:Q (.ref b) s):aN (model prog w) A (binaryOp .Add (.ref t) (.ref b)) Q E s:=by
 obtain⟨⟨cls,dd,data,sl⟩,ho,hc,n,hd⟩:=id ht;obtain⟨⟨Vd,Qx,data2,QM⟩,Yv,Yj,n2,hd2⟩:=id hb;subst hc hd Yj hd2;exact concat_meets ⟨_,ho,rfl⟩ ⟨_,Yv,rfl⟩ noFill_tuple_add seq_tuple_add mj kX (kN _ _)
   (tuple_addW0 t b _ _ n n2 dd _ sl _ (by simp)) ⟨ho,Yv,h⟩
end
end HT
namespace _G
open PySem PySem.SeqAt
open PySem.AutoSeq1 (wpAny_loadPart')
open PySem.MeetsSeq PySem.MeetsSeq2 PySem.MeetsSeq3
theorem tQ(l:Addr)(items:Array Value)(n:Nat)(dd:Option Addr)(sl:Array (Option Value))(x:Value)(e:Value->Bool)(j:Nat)(hj:j<items.size)
  (hit:e items[j]=true) (Rj:∀m (hm:m<items.size),m<j->e items[m]=false):
  Meets (Builtin.«tuple.index» ⟨[.ref l,x],[]⟩)
   (fun A R s=>s.heap.get? l=some { cls := .type "tuple",dict:=dd,data := .seq items n,slots:=sl }/\(∀ y,y∈items->EqAt A.in1 s y x (e y))/\R (.ok (.ret (.int j s.toks))) { s with toks:=s.toks+1 }):=
 .of_wp λprog w A R s h=>by
  obtain⟨hp,g,d,tk,os⟩:=s;obtain⟨hl,he,h⟩:=h;simp only[Builtin.«tuple.index»,Std.Legacy.Range.forIn_eq_forIn_range']
  wp_walk using Cm hl,wpAny_forIn_list _ (λrest b s'=>b.1=none/\s'=⟨hp,g,d,tk,os⟩ /\ ∃i,i<=j/\rest=aQ i (items.size-i)) _
  case turn=>
   rintro y rest b s' ⟨hb,rfl,i,Yz,YB⟩;have ZU:i<items.size:=by
    rcases Fy i items.size with q|q
    .exact q
    .exact aK (by assumption) (by assumption)
   obtain⟨k,hk⟩ :∃k,items.size-i=k+1:=⟨items.size-i-1,by omega⟩;rw[hk]at YB;injection YB with h1 h2
   subst h1;have hg:items[y]?=some items[y]:=by simp[ZU]
   rw[hg];refine ag (he _ (Array.getElem_mem ZU) prog w _ _ ?_);by_cases hyj:y=j
   .subst hyj
    wp_walk
    exact⟨_,rfl,h⟩
   .rw[Rj y ZU (by exact bp (by assumption) (by assumption))]
    wp_walk
    exact⟨rfl,rfl,y+1,by exact bp (by assumption) (by assumption),by rw[h2];congr 1;omega⟩
  case fin=>
   rintro ⟨b1,b2⟩ s' ⟨hb,rfl,i,Yz,YB⟩;exfalso;have h3:=congrArg gK YB;simp at h3;omega
  case h=>
   exact⟨rfl,rfl,0,cU _,by simp⟩
end _G
namespace _G
open PySem PySem.Spec _L
open PyProof.Rows hiding St
mutual
def RU(H:Hp)(μ:List Addr):U->V->Prop
 |.non,v=>v=.non
 |.bl b,v=>v=.bl b
 |.int i,v=>v=.int i
 |.str x,v=>v=.str x
 |.tup us,v=>∃a vs,v=.ref a/\H a=some (.tup vs)/\RUs H μ us vs
 |.ref n,v=>∃a,v=.ref a/\μ[n]?=some a
 |.obj a,v=>v=.ref a
def RUs(H:Hp)(μ:List Addr):List U->List V->Prop
 |[],vs=>vs=[]
 |u::us,vs=>∃v r,vs=v::r/\RU H μ u v/\RUs H μ us r
end
structure bq(H H':Hp):Prop where
 t:∀a vs,H a=some (.tup vs)->H' a=some (.tup vs)
 f:∀a o u,H a=some (.frz o u)->H' a=some (.frz o u)
instance{H H':Hp}:CoeFun (bq H H') λ_=>∀a vs,H a=some (.tup vs)->H' a=some (.tup vs):=⟨bq.t⟩
def Pre(μ Y6:List Addr):Prop:= ∃t,Y6=μ++t
theorem bq.refl(H:Hp):bq H H:=⟨λ_ _ h=>h,λ_ _ _ h=>h⟩
variable{H H1:Hp}
theorem bq.trans{H2:Hp}(a:bq H H1)(b:bq H1 H2):bq H H2:=⟨λc vs h=>b c vs (a c vs h),λc o u h=>b.f c o u (a.f c o u h)⟩
theorem Pre.refl(μ:List Addr):Pre μ μ:=⟨[],by simp⟩
variable{μ Y0:List Addr}
theorem Pre.trans{Y8:List Addr}(a:Pre μ Y0)(b:Pre Y0 Y8):Pre μ Y8:=by
 obtain⟨t,rfl⟩:=a;obtain⟨u,rfl⟩:=b;exact⟨t++u,by simp⟩
variable{n:Nat}{a:Addr}
theorem Pre.get{Y6:List Addr}(p:Pre μ Y6)(h:μ[n]?=some a):Y6[n]?=some a:=by
 obtain⟨t,rfl⟩:=p;have hn:=(ah.mp h).1;rw[aS hn];omega
variable{p:Addr}
theorem bq.new{o:HO}(h:H p=none):bq H (upd H p o):=⟨λa vs e=>by rw[aX (aW e h)];omega,λa _ _ e=>by rw[aX (aW e h)];omega⟩
theorem bq.wr{xs ys:List V}(h:H p=some (.lst xs)):bq H (upd H p (.lst ys)):=⟨λa vs e=>by
 rw[aX (pO e h (by grind))];omega,λa _ _ e=>by
 rw[aX (pO e h (by grind))];omega⟩
mutual
theorem RU.mono{H H':Hp}{μ Y6:List Addr}(k:bq H H')(p:Pre μ Y6):∀(u:U) (v:V),RU H μ u v->RU H' Y6 u v
 |.non,_,h=>by simpa [RU]using h
 |.bl _,_,h=>by simpa [RU]using h
 |.int _,_,h=>by simpa [RU]using h
 |.str _,_,h=>by simpa [RU]using h
 |.obj _,_,h=>by simpa [RU]using h
 | .ref n,v,h=>by
   simp only[RU]at h ⊢;obtain⟨a,e,q⟩:=h;exact⟨a,e,p.get q⟩
 | .tup us,v,h=>by
   simp only[RU]at h ⊢;obtain⟨a,vs,e,q,r⟩:=h;exact⟨a,vs,e,k a vs q,RUs.mono k p us vs r⟩
theorem RUs.mono{H H':Hp}{μ Y6:List Addr}(k:bq H H')(p:Pre μ Y6):∀(us:List U) (vs:List V),RUs H μ us vs->RUs H' Y6 us vs
 |[],_,h=>by simpa [RUs]using h
 | u::us,vs,h=>by
   simp only[RUs]at h ⊢;obtain⟨v,r,e,a,b⟩:=h;exact⟨v,r,e,RU.mono k p u v a,RUs.mono k p us r b⟩
end
section
variable {H:Hp}{μ:List Addr}
theorem RUs.nil:RUs H μ [] []:=by simp[RUs]
theorem RUs.cons{u:U}{us:List U}{v:V}{vs:List V}(a:RU H μ u v)(b:RUs H μ us vs):RUs H μ (u::us) (v::vs):=by
 exact⟨v,vs,rfl,a,b⟩
variable{us:List U}{vs:List V}
theorem RUs.inv{u:U}(h:RUs H μ (u::us) vs):∃v r,vs=v::r/\RU H μ u v/\RUs H μ us r:=by simpa only [RUs]using h
theorem RUs.nil_inv(h:RUs H μ [] vs):vs=[]:=by simpa only [RUs]using h
theorem RUs.len:∀{us:List U}{vs:List V},RUs H μ us vs->us.length=vs.length
 |[],vs,h=>by rw[h.nil_inv];rfl
 | u::us,vs,h=>by
   obtain⟨v,r,rfl,_,b⟩:=h.inv;simp[b.len]
theorem RUs.get:∀{us:List U}{vs:List V}{i:Nat}{u:U},RUs H μ us vs->us[i]?=some u->∃v,vs[i]?=some v/\RU H μ u v
 |[],vs,i,u,h,e=>by simp at e
 | x::us,vs,0,u,h,e=>by
   obtain⟨v,r,rfl,a,b⟩:=h.inv
   simp_all
 | x::us,vs,i+1,u,h,e=>by
   obtain⟨v,r,rfl,a,b⟩:=h.inv;obtain⟨w,h1,h2⟩:=RUs.get b (by simpa using e)
   simp_all
theorem RUs.append:∀{us ws:List U}{vs xs:List V},RUs H μ us vs->RUs H μ ws xs->RUs H μ (us++ws) (vs++xs)
 |[],ws,vs,xs,h,g=>by rw[h.nil_inv];exact g
 | u::us,ws,vs,xs,h,g=>by
   obtain⟨v,r,rfl,a,b⟩:=h.inv;exact .cons a (b.append g)
theorem RUs.set{u:U}{v:V}(q:RU H μ u v):∀{us:List U}{vs:List V} (i:Nat),RUs H μ us vs->RUs H μ (us.set i u) (vs.set i v)
 |[],vs,i,h=>by rw[h.nil_inv];simpa using RUs.nil
 | x::us,vs,0,h=>by
   obtain⟨w,r,rfl,a,b⟩:=h.inv;exact .cons q b
 | x::us,vs,i+1,h=>by
   obtain⟨w,r,rfl,a,b⟩:=h.inv;exact .cons a (RUs.set q i b)
theorem RUs.eraseIdx:∀{us:List U}{vs:List V} (i:Nat),RUs H μ us vs->RUs H μ (us.eraseIdx i) (vs.eraseIdx i)
 |[],vs,i,h=>by rw[h.nil_inv];simpa using RUs.nil
 | x::us,vs,0,h=>by
   obtain⟨w,r,rfl,a,b⟩:=h.inv;exact b
 | x::us,vs,i+1,h=>by
   obtain⟨w,r,rfl,a,b⟩:=h.inv;exact .cons a (RUs.eraseIdx i b)
theorem RUs.take:∀{us:List U}{vs:List V} (i:Nat),RUs H μ us vs->RUs H μ (us.take i) (vs.take i)
 |us,vs,0,h=>by simpa using RUs.nil
 |[],vs,i+1,h=>by rw[h.nil_inv];simpa using RUs.nil
 | x::us,vs,i+1,h=>by
   obtain⟨w,r,rfl,a,b⟩:=h.inv;exact .cons a (RUs.take i b)
theorem RUs.dropLast(h:RUs H μ us vs):RUs H μ us.dropLast vs.dropLast:=by
 rw[FD,FD,h.len];exact h.take _
theorem RUs.ints:∀(ns:List Int),RUs H μ (ns.map U.int) (ns.map V.int)
 |[]=>.nil
 |n::ns=>.cons (by simp[RU]) (RUs.ints ns)
end
structure KX where
 K:aj
 caps:List U
 capv:List V
 cds:List (Addr×Obj)
 tabs:List (Addr×Str)
instance:Coe KX aj:=⟨KX.K⟩
def fz:HO:= .ext λ_=>True
def zq(H:Hp)(P:Addr)(q:Str):Prop:= ∃ps:Array Value,H P=some (.tbl ps)/\TriplesOk ps.toList /\
 ∀pos cv,codeAmong pos ps.toList=some cv->∃c oc vs t,cv=.ref c/\H c=some (.frz oc fz)/\oc.data=.fields vs/\vs[1]?=some (.str q t)
structure HX(K:KX)(μ:List Addr)(H:Hp):Prop where
 cap:RUs H μ K.caps K.capv
 cds:∀q∈K.cds,H q.1=some (.frz q.2 fz)
 tab:∀q∈K.tabs,zq H q.1 q.2
theorem HX.upd{K:KX}{μ Y6:List Addr}{H:Hp}{p:Addr}{o':HO}(h:HX K μ H)(kp:bq H (upd H p o'))(pre:Pre μ Y6)(nf:∀o,H p=some o->(∀o' u,o≠.frz o' u) /\ ∀ps,o≠.tbl ps):HX K Y6 (upd H p o'):=by
 have f:∀a o u,H a=some _->_L.upd H p o' a=some (.frz o u):=λa o u e=>by
  rw[aX]
  .omega
  .rintro rfl
   exact(nf _ e).1 o u rfl
 refine⟨RUs.mono kp pre _ _ h.cap,λq hq=>f _ _ _ (h.cds q hq),λq hq=>?_⟩;obtain⟨ps,e,tr,al⟩:=h.tab q hq;refine⟨ps,?_,tr,λpos cv hc=>?_⟩
 .rw[aX]
  .omega
  .intro z
   rw[z]at e;exact(nf _ e).2 ps rfl
 .obtain⟨c,oc,vs,t,e1,e2,e3,e4⟩:=al _ cv hc
  exact⟨c,oc,vs,t,e1,f _ _ _ e2,e3,e4⟩
def dV{κ:Type}(kvs:List (κ×U))(vs:List V):List (κ×V):=(kvs.map (·.1)).zip vs
def m8(K:KX)(H:Hp)(μ:List Addr)(a:Addr):Cell->Prop
 |.lst us=>∃vs,H a=some (.lst vs)/\RUs H μ us vs
 |.frz us=>∃vs,((∃o,H a=some (.frz o (.lst vs)))\/SqL K (λ_=>none) a vs)/\RUs H μ us vs
 |.dic kvs=>∃vs,H a=some (.dK (dV kvs vs))/\RUs H μ (kvs.map (·.2)) vs
 |.dit false kvs=>∃vs,H a=some (.dT (dV kvs vs))/\RUs H μ (kvs.map (·.2)) vs
 |.dit true kvs=>∃vs,(∃o,H a=some (.frz o (.dT (dV kvs vs))))/\RUs H μ (kvs.map (·.2)) vs
def Cell.own:Cell->Bool
 |.frz _=>false
 |.dit f _=>!f
 |_=>true
structure HR(K:KX)(μ:List Addr)(S:Sto)(H:Hp):Prop where
 len:μ.length=S.length
 inj:∀(n m:Nat) (c d:Cell),S[n]?=some c->S[m]?=some d->c.own=true->d.own=true->μ[n]?=μ[m]? -> n=m
 cell:∀(n:Nat) (c:Cell) (a:Addr),S[n]?=some c->μ[n]?=some a->m8 K H μ a c
 ext:HX K μ H
structure ER(H:Hp)(μ:List Addr)(G:Rho)(σ:St):Prop where
 len:G.length=σ.length
 get:∀(i:Nat) (u:U),G[i]?=some (some u)->∃v,σ[i]?=some (some v)/\RU H μ u v
theorem ER.mono{H H':Hp}{μ Y6:List Addr}{G:Rho}{σ:St}(e:ER H μ G σ)(k:bq H H')(p:Pre μ Y6):ER H' Y6 G σ:=
 ⟨e.len,λi u h=>let ⟨v,a,b⟩:=e.get i u h;⟨v,a,RU.mono k p u v b⟩⟩
variable{u:U}{G:Rho}{σ:St}{v:V}
theorem ER.set(e:ER H μ G σ)(r:RU H μ u v)(i:Nat):ER H μ (G.set i (some u)) (σ.set i (some v)):=by
 refine⟨by simpa using e.len,λj w h=>?_⟩;by_cases hj:i=j
 .subst hj
  rw[List.getElem?_set]at h;simp only[if_true]at h
  split at h
  .cases h
   refine⟨v,?_,r⟩;rw[aM (by rw[<-e.len];omega)]
  .cases h
 .rw[aC hj]at h
  obtain⟨x,a,b⟩:=e.get j w h
  simp_all
theorem ER.push(e:ER H μ G σ)(r:RU H μ u v):ER H μ (G++[some u]) (σ++[some v]):=by
 refine⟨by simp[e.len],λj w h=>?_⟩;by_cases hj:j<G.length
 .rw[aS hj]at h
  obtain⟨x,a,b⟩:=e.get j w h;exact⟨x,by rw[aS (by rw[<-e.len];omega)];omega,b⟩
 .have ZC:j=G.length:=by
   have:=(ah.mp h).1;simp at this;omega
  subst ZC;simp at h;subst h;refine⟨v,?_,r⟩;rw[e.len];simp
section
variable {K:KX}{H:Hp}{μ:List Addr}{S:Sto}
theorem m8.mono{H':Hp}{Y6:List Addr}{a:Addr}{c:Cell}(h:m8 K H μ a c)(k:bq H H')(p:Pre μ Y6)(l:c.own=true->H' a=H a)(f:∀o u,H a=some (.frz o u)->H' a=some (.frz o u)):m8 K H' Y6 a c:=by
 cases c with
 | lst us=>
   obtain⟨vs,e,r⟩:=h;exact⟨vs,(l rfl).trans e,RUs.mono k p us vs r⟩
 | dic kvs=>
   obtain⟨vs,e,r⟩:=h;exact⟨vs,(l rfl).trans e,RUs.mono k p _ vs r⟩
 | dit b kvs=>
   cases b with
   | false=>
     obtain⟨vs,e,r⟩:=h;exact⟨vs,(l rfl).trans e,RUs.mono k p _ vs r⟩
   | true=>
     obtain⟨vs,⟨o,e⟩,r⟩:=h;exact⟨vs,⟨o,f o _ e⟩,RUs.mono k p _ vs r⟩
 | frz us=>
   obtain⟨vs,e,r⟩:=h;refine⟨vs,?_,RUs.mono k p us vs r⟩
   grind
variable{c:Cell}
theorem m8.has(h:m8 K H μ a c)(ho:c.own=true):∃o,H a=some o/\(∀vs,o≠.tup vs)/\(∀o' u,o≠.frz o' u) /\ ∀ps,o≠.tbl ps:=by
 cases c with
 |lst us=>obtain⟨vs,e,r⟩:=h;simp_all
 |dic kvs=>obtain⟨vs,e,r⟩:=h;simp_all
 | dit b kvs=>
   cases b with
   |false=>obtain⟨vs,e,r⟩:=h;simp_all
   |true=>cases ho
 |frz us=>cases ho
variable{o':HO}
theorem bq.wrG{H:Hp}{o:HO}(h:H p=some o)(ht: ∀vs,o≠.tup vs)(hf: ∀ob u,o≠.frz ob u):bq H (upd H p o'):=⟨λa vs e=>by
 rw[aX (pO e h (dj (ht vs)))];omega,λa ob u e=>by
 rw[aX (pO e h (dj (hf ob u)))];omega⟩
theorem HR.get(h:HR K μ S H)(e:S[n]?=some c):∃a,μ[n]?=some a/\m8 K H μ a c:=by
 have hn:n<μ.length:=by rw[h.len];exact(ah.mp e).1
 exact⟨μ[n],by simp,h.cell n c _ e (by simp)⟩
theorem HR.wrC(h:HR K μ S H){d:Cell}(e:S[n]?=some c)(ea:μ[n]?=some a)(hc:c.own=true)(r:m8 K (upd H a o') μ a d):HR K μ (S.set n d) (upd H a o'):=by
 obtain⟨o,e0,nt,nf,nb⟩:=(h.cell n _ a e ea).has hc;have kp:bq H (upd H a o'):=bq.wrG e0 nt nf;have hn:=(ah.mp e).1;have pick:∀(m:Nat) (c':Cell),(S.set n d)[m]?=some c'->c'.own=true->∃Tf,S[m]?=some Tf/\Tf.own=true:=λm c' q hq=>by
  by_cases hm:n=m<;>simp_all
 refine⟨by rw[ip];exact h.len,λi j u1 u2 q1 q2 o1 o2 q3=>?_,λm c' b q1 q2=>?_,h.ext.upd kp (Pre.refl _) λo1 q=>by simp_all⟩
 .obtain⟨w1,z1,y1⟩:=pick i u1 q1 o1
  obtain⟨w2,z2,y2⟩:=pick j u2 q2 o2;exact h.inj i j w1 w2 z1 z2 y1 y2 q3
 .by_cases hm:n=m
  .simp_all
  .rw[aC hm]at q1
   refine(h.cell m c' b q1 q2).mono kp (Pre.refl _) (λWB=>?_) λo u hf=>?_
   .refine aX ?_
    rintro rfl;exact hm (h.inj n m c c' e q1 hc WB (ea.trans q2.symm))
   .rw[aX (pO hf e0 (dj (nf o u)))];omega
theorem HR.wr(h:HR K μ S H){n:Nat}{us ws:List U}{vs:List V}{a:Addr}(e:S[n]?=some (.lst us))(ea:μ[n]?=some a)(r:RUs H μ ws vs):HR K μ (S.set n (.lst ws)) (upd H a (.lst vs)):=by
 obtain⟨SF,e0,r0⟩:=h.cell n _ a e ea;exact h.wrC e ea rfl ⟨vs,cb,RUs.mono (bq.wr e0) (Pre.refl _) ws vs r⟩
theorem HR.newC(h:HR K μ S H){d:Cell}(hp:H p=none)(hd:d.own=true)(r:m8 K (upd H p o') (μ++[p]) p d):HR K (μ++[p]) (S++[d]) (upd H p o'):=by
 have kp:bq H (upd H p o'):=bq.new hp;have pre:Pre μ _:=⟨[p],rfl⟩;have old:∀(n:Nat) (c:Cell),n<S.length->(S++[d])[n]?=some c->S[n]?=some c:=λn c hn q=>by rwa[aS hn]at q
 have last:∀(n:Nat) (c:Cell),¬n<S.length->(S++[d])[n]?=some c->n=S.length:=λn c hn q=>by
  have:=(ah.mp q).1;simp at this;omega
 have fresh:∀(n:Nat) (c:Cell),S[n]?=some c->c.own=true->∀a,μ[n]?=some a->a≠p:=λn c q hc a qa=>by
  obtain⟨o,e,_⟩:=(h.cell n _ a q qa).has hc;exact aW e hp
 have YI:(μ++[p])[S.length]?=some p:=by rw[<-h.len];simp
 have YR:∀(n:Nat),n<S.length->(μ++[p])[n]?=μ[n]? := λn hn=>aS (by rw[h.len];exact hn);refine⟨by simp[h.len],λi j u1 u2 q1 q2 o1 o2 q3=>?_,λm c b q1 q2=>?_,h.ext.upd kp pre λo1 q=>by rw[hp]at q;cases q⟩
 .by_cases hi:i<S.length
  .by_cases hj:j<S.length
   .rw[YR i hi,YR j hj]at q3
    exact h.inj i j u1 u2 (old i _ hi q1) (old j _ hj q2) o1 o2 q3
   .have e:=last j _ hj q2
    subst e;obtain⟨a,ha,_⟩:=h.get (old i _ hi q1);rw[YR i hi,YI,ha]at q3;exact absurd (dD q3) (fresh i u1 (old i _ hi q1) o1 a ha)
  .have e:=last i _ hi q1
   subst e;by_cases hj:j<S.length
   .obtain⟨a,ha,_⟩:=h.get (old j _ hj q2)
    rw[YR j hj,YI,ha]at q3;exact absurd (dD q3).symm (fresh j u2 (old j _ hj q2) o2 a ha)
   .exact(last j _ hj q2).symm
 .by_cases hm:m<S.length
  .rw[YR m hm]at q2
   refine(h.cell m c b (old m c hm q1) q2).mono kp pre (λhc=>?_) λo u hf=>?_
   .exact aX (fresh m c (old m _ hm q1) hc b q2)
   .rw[aX (aW hf hp)];exact hf
  .have e:=last m c hm q1
   subst e;rw[YI]at q2;cases q2;simp at q1;subst q1;exact r
theorem HR.new(h:HR K μ S H){us:List U}{vs:List V}{p:Addr}(hp:H p=none)(r:RUs H μ us vs):HR K (μ++[p]) (S++[.lst us]) (upd H p (.lst vs)):=
 h.newC hp rfl ⟨vs,cb,RUs.mono (bq.new hp) ⟨_,rfl⟩ us vs r⟩
theorem HR.tup(h:HR K μ S H){vs:List V}{p:Addr}(hp:H p=none):HR K μ S (upd H p (.tup vs)):=by
 have kp:bq H (upd H p (.tup vs)):=bq.new hp;refine⟨h.len,h.inj,λm c b q1 q2=>(h.cell m c b q1 q2).mono kp (Pre.refl _) (λhc=>?_) λo u hf=>?_,h.ext.upd kp (Pre.refl _) λo1 q=>by grind⟩
 .obtain⟨o,e,_⟩:=(h.cell m _ b q1 q2).has hc
  exact aX (aW e hp)
 .rw[aX (aW hf hp)];omega
theorem HR.sq(h:HR K μ S H){us:List U}(e:getL S n=some us):∃a vs,μ[n]?=some a/\SqL K H a vs/\RUs H μ us vs:=by
 unfold getL at e
 split at e
 .rename_i ws q
  cases e;obtain⟨a,ha,vs,e1,r⟩:=h.get q;exact⟨a,vs,ha,SqL.of e1,r⟩
 .rename_i ws q
  cases e;obtain⟨a,ha,vs,e1,r⟩:=h.get q;refine⟨a,vs,ha,?_,r⟩;rcases e1 with⟨o,e1⟩|e1
  .exact .inl (.inr ⟨o,e1⟩)
  .rcases e1 with (e1|⟨o,e1⟩)|e1
   .cases e1
   .cases e1
   .exact .inr e1
 .cases e
 .cases e
 .cases e
end
def Aft(K:KX)(μ:List Addr)(H:Hp)(u:U)(S':Sto)(Q:VK):Prop:= ∀Y6 v H',Pre μ Y6->bq H H'->HR K Y6 S' H'->RU H' Y6 u v->Q v H'
def tM(K:KX)(m:ME):TE:=λσ H Q=>∃μ S G u S',HR K μ S H/\ER H μ G σ/\m G S=some (u,S')/\Aft K μ H u S' Q
def tMT(K:KX)(m:MT):TT:=λσ H Q=>∃μ S G b S',HR K μ S H/\ER H μ G σ/\m G S=some (b,S') /\ ∀Y6 H',Pre μ Y6->bq H H'->HR K Y6 S' H'->Q b H'
def tMA(K:KX)(m:MA):TA:=λσ H Q=>∃μ S G us S',HR K μ S H/\ER H μ G σ/\m G S=some (us,S') /\ ∀Y6 vs H',Pre μ Y6->bq H H'->HR K Y6 S' H'->RUs H' Y6 us vs->Q vs H'
def FlP(K:KX)(μ:List Addr)(H:Hp)(D:Ends):Fl×Rho×Sto->Prop
 |(.nx,Y4,S')=>∀Y6 Y3 H',Pre μ Y6->bq H H'->HR K Y6 S' H'->ER H' Y6 Y4 Y3->D.nx Y3 H'
 |(.bk,Y4,S')=>∀Y6 Y3 H',Pre μ Y6->bq H H'->HR K Y6 S' H'->ER H' Y6 Y4 Y3->D.bk Y3 H'
 |(.ct,Y4,S')=>∀Y6 Y3 H',Pre μ Y6->bq H H'->HR K Y6 S' H'->ER H' Y6 Y4 Y3->D.ct Y3 H'
 |(.rt u,_,S')=>Aft K μ H u S' D.rt
def tMS(K:KX)(m:MS):TS:=λD σ H=>∃μ S G r,HR K μ S H/\ER H μ G σ/\m G S=some r/\FlP K μ H D r
variable{S':Sto}{Q:VK}
theorem Aft.mono{K:KX}(a:Aft K μ H u S' Q)(p:Pre μ Y0)(k:bq H H1):Aft K Y0 H1 u S' Q:=
 λY6 v H' p' k'=>a _ v H' (p.trans p') (k.trans k')
theorem FlP.mono{K:KX}{μ Y0:List Addr}{H H1:Hp}{D:Ends}{r:Fl×Rho×Sto}(a:FlP K μ H D r)(p:Pre μ Y0)(k:bq H H1):FlP K Y0 H1 D r:=by
 obtain⟨f,Y4,S'⟩:=r;cases f with
 |nx=>exact λY6 Y3 H' p' k'=>a _ _ H' (p.trans p') (k.trans k')
 |bk=>exact λY6 Y3 H' p' k'=>a _ _ H' (p.trans p') (k.trans k')
 |ct=>exact λY6 Y3 H' p' k'=>a _ _ H' (p.trans p') (k.trans k')
 |rt u=>exact Aft.mono a p k
section
variable {K:KX}{σ:St}{H:Hp}{Q:VK}
theorem sZ{A B:Prop}(h:A):if true=true then A else B:=by grind
theorem qN{A B:Prop}(h:B):if false=true then A else B:=by grind
theorem Mv{i:Nat}(h:tM K (ae i) σ H Q):OA i σ H Q:=by
 obtain⟨μ,S,G,u,S',hr,er,e,k⟩:=h;unfold ae at e
 split at e
 .rename_i w q
  cases e;obtain⟨v,hv,ru⟩:=er.get i _ q;exact⟨v,hv,k μ v H (Pre.refl _) (bq.refl _) hr ru⟩
 .cases e
theorem r_c(hv:∀H μ,RU H μ u v)(h:tM K (mC u) σ H Q):tC v σ H Q:=by
 obtain⟨μ,S,G,u',S',hr,er,e,k⟩:=h;cases e;exact k μ v H (Pre.refl _) (bq.refl _) hr (hv _ _)
def OpU(K:KX)(r:R2)(f:F2):Prop:= ∀(μ:List Addr) (S:Sto) (H:Hp) (x y:U) (vx vy:V) (u:U) (S':Sto) (Q:VK),HR K μ S H->RU H μ x vx->RU H μ y vy->f x y S=some (u,S')->Aft K μ H u S' Q->r vx vy H Q
variable{f:F2}
theorem we{r:R2}{a b:ME}(o:OpU K r f)(h:tM K (m2 f a b) σ H Q):tOp r (tM K a) (tM K b) σ H Q:=by
 obtain⟨μ,S,G,u,S',hr,er,e,k⟩:=h;obtain⟨x,S1,e1,e⟩:=bu e;obtain⟨y,S2,e2,e⟩:=bu e;refine⟨μ,S,G,x,S1,hr,er,e1,λY0 vx H1 p1 k1 ZZ rx=>?_⟩;refine⟨_,S1,G,y,S2,ZZ,er.mono k1 p1,e2,λY8 vy H2 p2 k2 ZV ry=>?_⟩;exact o _ S2 H2 x y vx vy u S' Q ZV (RU.mono k2 p2 x vx rx) ry e (k.mono (p1.trans p2) (k1.trans k2))
def UnU(K:KX)(r:V->Hp->VK->Prop)(f:U->Sto->Res U):Prop:= ∀(μ:List Addr) (S:Sto) (H:Hp) (x:U) (vx:V) (u:U) (S':Sto) (Q:VK),HR K μ S H->RU H μ x vx->f x S=some (u,S')->Aft K μ H u S' Q->r vx H Q
theorem PX{r:V->Hp->VK->Prop}{f:U->Sto->Res U}{a:ME}(o:UnU K r f)(h:tM K (m1 f a) σ H Q):tUn r (tM K a) σ H Q:=by
 obtain⟨μ,S,G,u,S',hr,er,e,k⟩:=h;obtain⟨x,S1,e1,e⟩:=bu e;refine⟨μ,S,G,x,S1,hr,er,e1,λY0 vx H1 p1 k1 ZZ rx=>?_⟩;exact o _ S1 H1 x vx u S' Q ZZ rx e (k.mono p1 k1)
variable{S:Sto}
theorem Aft.now(k:Aft K μ H u S Q)(hr:HR K μ S H)(r:RU H μ u v):Q v H:=k μ v H (Pre.refl _) (bq.refl _) hr r
variable{i:Int}
theorem eW:RU H μ (.int i) (.int i):=by simp[RU]
variable{b:Bool}
theorem j6:RU H μ (.bl b) (.bl b):=by simp[RU]
theorem nA:RU H μ .non .non:=by simp[RU]
variable{us:List U}{vs:List V}
theorem kJ(e:H a=some (.tup vs))(r:RUs H μ us vs):RU H μ (.tup us) (.ref a):=by
 exact⟨a,vs,rfl,e,r⟩
theorem rR(e:μ[n]?=some a):RU H μ (.ref n) (.ref a):=by
 exact⟨a,rfl,e⟩
theorem dq(h:RU H μ (.int i) v):v=.int i:=by simpa only [RU]using h
theorem kR(h:RU H μ (.bl b) v):v=.bl b:=by simpa only [RU]using h
theorem hZ(h:RU H μ (.tup us) v):∃a vs,v=.ref a/\H a=some (.tup vs)/\RUs H μ us vs:=by simpa only [RU]using h
theorem fT(h:RU H μ (.ref n) v):∃a,v=.ref a/\μ[n]?=some a:=by simpa only [RU]using h
variable{g:Int->Int->V}
theorem AQ{k:Int->Int->U}(hf:∀x y S u S',f x y S=some (u,S')->∃i j,x=.int i/\y=.int j/\u=k i j/\S'=S)(hg:∀H μ i j,RU H μ (k i j) (g i j)):OpU K (rI0 g) f:=by
 intro μ S H x y vx vy u S' Q hr rx ry e a;obtain⟨i,j,rfl,rfl,rfl,rfl⟩:=hf x y S u S' e;exact⟨i,j,dq rx,dq ry,a.now hr (hg _ _ _ _)⟩
theorem zk{C:Int->Int->Prop}{k:Int->Int->U}(hf:∀x y S u S',f x y S=some (u,S')->∃i j,x=.int i/\y=.int j/\C i j/\u=k i j/\S'=S)(hg:∀H μ i j,RU H μ (k i j) (g i j)):OpU K (rI C g) f:=by
 intro μ S H x y vx vy u S' Q hr rx ry e a;obtain⟨i,j,rfl,rfl,c,rfl,rfl⟩:=hf x y S u S' e;exact⟨i,j,dq rx,dq ry,c,a.now hr (hg _ _ _ _)⟩
theorem KC:OpU K (rI0 λi j => .int (i - j)) rG:=AQ (λx y S u S' h=>by
 unfold rG at h;split at h <;> simp at h;simp_all) λ_ _ _ _=>eW
theorem Md:OpU K (rI GT λi j=>.int (i*j)) ig:=by
 intro μ S H x y vx vy u S' Q hr rx ry e a;unfold ig at e
 split at e
 .split at e
  .rename_i hc
   simp at e;obtain⟨rfl,rfl⟩:=e;exact⟨_,_,dq rx,dq ry,hc,a.now hr eW⟩
  .cases e
 .cases e
theorem JJ:OpU K (rI My λi j => .int (i / j)) oDiv:=zk (k:=λi j => .int (i / j)) (λx y S u S' h=>by
 unfold oDiv at h;split at h
 .split at h
  .rename_i hc;simp at h;obtain⟨rfl,rfl⟩:=h;exact⟨_,_,rfl,rfl,hc,rfl,rfl⟩
  .cases h
 ·cases h) λ_ _ _ _=>eW
theorem La:OpU K (rI (λ_ j=>0<j) λi j => .int (i % j)) oMod:=zk (λx y S u S' h=>by
 unfold oMod at h;split at h <;> simp_all) λ_ _ _ _=>eW
theorem K9:OpU K (rI MY λi j => .int (i ^ j.toNat)) yX:=zk (k:=λi j => .int (i ^ j.toNat)) (λx y S u S' h=>by
 unfold yX at h;split at h
 .split at h
  .rename_i hc;simp at h;obtain⟨rfl,rfl⟩:=h;exact⟨_,_,rfl,rfl,hc,rfl,rfl⟩
  .cases h
 ·cases h) λ_ _ _ _=>eW
theorem vm{p:Int->Int->Bool}:OpU K (rI0 λi j => .bl (p i j)) (Ce p):=AQ (λx y S u S' h=>by
 unfold Ce at h;split at h <;> simp at h;simp_all) λ_ _ _ _=>j6
def Ik(K:aj):R2:=λx y H Q=>∃a b ys,x=.ref a/\y=.ref b/\SqT K H a []/\SqT K H b ys/\Q (.ref b) H
variable{X:Cx}
theorem F7:OpR X (binaryOp .Add) (Ik X.K):=by
 intro pins s σ H x y v u Q I rx ry h;obtain⟨a,b,ys,rfl,rfl,h1,h2,q⟩:=h;cases (rx);cases (ry);obtain⟨ZY,r1,p1,_⟩:=I.tuple h1;obtain⟨ZM,r2,p2,_⟩:=I.tuple h2;cases r1;exact HT.cat_tup0 p1 p2 ⟨.ref b,H,I,rfl,q⟩
theorem K3:OpU K (λx y H Q=>rI0 (λi j=>.int (i+j)) x y H Q\/Jg K x y H Q\/Ik K x y H Q\/Mi x y H Q) dc:=by
 intro μ S H x y vx vy u S' Q hr rx ry e a;unfold dc at e
 split at e
 .simp at e;obtain⟨rfl,rfl⟩:=e
  exact .inl ⟨_,_,dq rx,dq ry,a.now hr eW⟩
 .rename_i xs ys
  split at e
  .rename_i hc
   simp at e;obtain⟨rfl,rfl⟩:=e;obtain⟨p,vs,rfl,hp,r1⟩:=hZ rx;obtain⟨q,ws,rfl,hq,r2⟩:=hZ ry;by_cases hx:xs=[]
   .subst hx
    have hv:=by omega
    subst hv;exact .inr (.inr (.inl ⟨p,q,ws,rfl,rfl,.inl (.inl hp),.inl (.inl hq),a.now hr (kJ hq r2)⟩))
   refine .inr (.inl ⟨p,q,vs,ws,rfl,rfl,.inl (.inl hp),.inl (.inl hq),?_,?_,λz=>?_,λz t ht=>?_⟩)
   .intro z;have:=r1.len;grind
   .have h1:=r1.len;have h2:=r2.len;unfold big at hc;rw[sizeLine_eq];omega
   .subst z
    have:=by have:=r2.len;exact fK (by omega)
    subst this;rw[bP]at a;exact a.now hr (kJ hp r1)
   .refine a μ _ _ (Pre.refl _) (bq.new ht) (hr.tup ht) ?_
    have kp:bq H (upd H t (.tup (vs++ws))):=bq.new ht;exact kJ cb ((RUs.mono kp (Pre.refl _) _ _ r1).append (RUs.mono kp (Pre.refl _) _ _ r2))
  .cases e
 .rename_i n m
  split at e
  .rename_i xs ys q1 q2
   split at e
   .rename_i hc
    simp at e;obtain⟨rfl,rfl⟩:=e;obtain⟨p,rfl,hp⟩:=fT rx;obtain⟨q,rfl,hq⟩:=fT ry;obtain⟨vs,e1,r1⟩:=hr.cell n _ p q1 hp;obtain⟨ws,e2,r2⟩:=hr.cell m _ q q2 hq;refine .inr (.inr (.inr ⟨p,q,vs,ws,rfl,rfl,e1,e2,?_,λt ht=>?_⟩))
    .have h1:=r1.len;have h2:=r2.len;unfold big at hc;rw[sizeLine_eq];omega
    .refine a _ _ _ ⟨_,rfl⟩ (bq.new ht) (hr.new ht (r1.append r2)) (rR ?_)
     rw[<-hr.len];simp
   .cases e
  .cases e
 .cases e
theorem HR.seq{x:U}(hr:HR K μ S H)(r:RU H μ x v)(e:eh S x=some us):∃a vs,v=.ref a/\(SqL K H a vs\/SqT K H a vs)/\RUs H μ us vs:=by
 unfold eh at e
 split at e
 .cases e
  obtain⟨a,vs,rfl,h,q⟩:=hZ r;exact⟨a,vs,rfl,.inr (.inl (.inl h)),q⟩
 .obtain⟨a,rfl,ha⟩:=fT r
  obtain⟨a',vs,Zk,hs,q⟩:=hr.sq e;rw[ha]at Zk;cases Zk;exact⟨a,vs,rfl,.inl hs,q⟩
 .cases e
theorem HH(r:RUs H μ us vs)(e:atI us i=some u):∃v,atI vs i=some v/\RU H μ u v:=by
 unfold atI at e ⊢;rw[<-r.len];cases q:ixN _ i with
 |none=>rw[q]at e;cases e
 | some j=>
   rw[q]at e;exact r.get e
theorem oM{y:U}{k:Key}(r:RU H μ y v)(e:keyOf y=some k):v=kV k:=by
 cases y<;>simp[keyOf]at e<;>subst e<;>(exact r)
theorem Ac{κ:Type}[DecidableEq κ]{μ:List Addr}{k:κ}{u:U}:∀{kvs:List (κ×U)}{vs:List V},RUs H μ (kvs.map (·.2)) vs->iZ kvs k=some u->∃v,lD (dV kvs vs) k=some v/\RU H μ u v
 |[],vs,r,e=>by cases e
 | (j,x)::kvs,vs,r,e=>by
   obtain⟨v,r',rfl,a,b⟩:=r.inv;show ∃w,lD ((j,v)::dV _ r') k=some w/\_;by_cases h:j=k
   .rw[md h]
    simp[iZ,h]at e<;>simp_all
   .rw[lB h]
    refine Ac b ?_;simpa [iZ,iq,h]using e
theorem q8{κ:Type}[DecidableEq κ]{k:κ}:∀{kvs:List (κ×U)}{vs:List V},kvs.length=vs.length->(lD (dV kvs vs) k).isSome=(iZ kvs k).isSome
 |[],vs,_=>by simp[dV,lD,iZ]
 |(j,x)::kvs,[],h=>by simp at h
 | (j,x)::kvs,v::vs,h=>by
   show(lD ((j,v)::dV _ vs) k).isSome=_;by_cases hj:j=k
   .rw[md hj];simp[iZ,hj]
   .rw[lB hj,q8 (by simpa using h)];simp[iZ,hj]
theorem Dx{κ:Type}[DecidableEq κ]{k:κ}:∀{kvs:List (κ×U)}{vs:List V},kvs.length=vs.length->((dV kvs vs).any λkv=>decide (kv.1=k))=kvs.any λkv=>decide (kv.1=k)
 |[],vs,_=>by simp[dV]
 |(j,x)::kvs,[],h=>by simp at h
 | (j,x)::kvs,v::vs,h=>by
   show(((j,v)::dV _ vs).any _)=_;rw[k7,k7,Dx (by simpa using h)]
theorem Eo{κ:Type}{kvs:List (κ×U)}(h:kvs.length=vs.length):(dV kvs vs).length=kvs.length:=by
 simp[dV,h]
theorem AK{κ:Type}[DecidableEq κ]{μ:List Addr}{k:κ}{u:U}{v:V}(ru:RU H μ u v):∀{kvs:List (κ×U)}{vs:List V},RUs H μ (kvs.map (·.2)) vs ->
  ∃ws,dV (kvs.map λkv=>if kv.1=k then(kv.1,u) else kv) ws=(dV kvs vs).map (λkv=>if kv.1=k then(kv.1,v) else kv)/\RUs H μ ((kvs.map λkv=>if kv.1=k then(kv.1,u) else kv).map (·.2)) ws
 |[],vs,r=>⟨[],by simp[dV],.nil⟩
 | (j,x)::kvs,vs,r=>by
   obtain⟨w,r',rfl,a,b⟩:=r.inv;obtain⟨ws,e,q⟩:=AK ru b;show ∃ws',dV ((if j=k then(j,u) else(j,x))::kvs.map _) _=(if j=k then(j,v) else(j,w))::(dV _ r').map _/\RUs H μ (((if j=k then(j,u) else(j,x))::kvs.map _).map _) _;by_cases h:j=k
   .rw[if_pos h,if_pos h]
    exact⟨_,by rw[<-e];rfl,.cons ru q⟩
   .rw[if_neg h,if_neg h]
    exact⟨_,by rw[<-e];rfl,.cons a q⟩
theorem F6{κ:Type}[DecidableEq κ]{k:κ}{kvs:List (κ×U)}(ru:RU H μ u v)(r:RUs H μ (kvs.map (·.2)) vs):∃ws,dV (kW kvs k u) ws=putK (dV kvs vs) k v/\RUs H μ ((kW kvs k u).map (·.2)) ws:=by
 have hl:=by have:=r.len;rwa[ar]at this
 unfold kW putK;rw[Dx hl]
 split
 .exact AK ru r
 .refine⟨_,?_,by rw[bS];exact r.append (.cons ru .nil)⟩
  unfold dV;rw[bS,List.zip_append (by simpa using hl)];rfl
theorem HR.dic{x:U}{kvs:List (Key×U)}(hr:HR K μ S H)(r:RU H μ x v)(e:fJ S x=some kvs):∃a vs,v=.ref a/\H a=some (.dK (dV kvs vs))/\RUs H μ (kvs.map (·.2)) vs:=by
 unfold fJ at e
 split at e
 .split at e
  .rename_i q
   cases e;obtain⟨a,rfl,ha⟩:=fT r;obtain⟨vs,e1,r1⟩:=hr.cell _ _ a q ha;exact⟨a,vs,rfl,e1,r1⟩
  .cases e
 .cases e
def Oz:R2:=λx y H Q=>∃a v,x=.ref a/\ue H a y (some v)/\Q v H
def PK(K:aj):R2:=λx y H Q=>rIx K x y H Q\/Oz x y H Q
theorem JB(hu:X.A.units+1<cLine):IxR X Oz:=by
 intro value slice pins s σ H x y v u Q I rx ry h hs;obtain⟨a,w,rfl,g,q⟩:=h;obtain rfl:v=bW a:=rx;exact tail_any (yo I g) PySem.F.slot_dict_getitem.lookup (Cg hu I g ry λw' s3 I3 YZ=>⟨w,H,I3,YZ,q⟩) hs
theorem Pa:OpU K (PK K) oIx:=by
 intro μ S H x y vx vy u S' Q hr rx ry e a;unfold oIx at e
 split at e
 .rename_i kvs qd
  cases qk:keyOf y with
  |none=>simp_all
  | some kk=>
    rw[qk]at e;simp only[aG]at e;cases qv:iZ _ kk with
    |none=>rw[qv]at e;cases e
    | some w=>
      rw[qv]at e;simp at e;obtain⟨rfl,rfl⟩:=e;obtain⟨p,vs,rfl,hp,r⟩:=hr.dic rx qd;obtain⟨v,hv,rv⟩:=Ac r qv;rw[oM ry qk];exact .inr ⟨p,v,rfl,.inl ⟨_,kk,.inl hp,rfl,hv.symm⟩,a.now hr rv⟩
 split at e
 .rename_i i
  refine .inl ?_;cases q:eh S x with
  |none=>rw[q]at e;cases e
  | some us=>
    rw[q]at e;simp only[aG]at e;cases z:atI us i with
    |none=>rw[z]at e;cases e
    | some w=>
      rw[z]at e;simp at e;obtain⟨rfl,rfl⟩:=e;obtain⟨p,vs,rfl,hs,r⟩:=hr.seq rx q;obtain⟨v,hv,rv⟩:=HH r z;rcases hs with hs|hs
      .exact .inl ⟨p,vs,i,v,rfl,dq ry,hs,hv,a.now hr rv⟩
      .exact .inr (.inl ⟨p,vs,i,v,rfl,dq ry,hs,hv,a.now hr rv⟩)
 .cases e
theorem Kj:UnU K (rU λi=>.int (-i)) ot:=by
 intro μ S H x vx u S' Q hr rx e a;unfold ot at e
 split at e
 .cases e
  exact⟨_,dq rx,a.now hr eW⟩
 .cases e
theorem Mk{Q:List V->Hp->Prop}(h:tMA K ai σ H Q):DZ σ H Q:=by
 obtain⟨μ,S,G,us,S',hr,er,e,k⟩:=h;cases e;exact k μ [] H (Pre.refl _) (bq.refl _) hr .nil
theorem Lf{a:ME}{r:MA}{Q:List V->Hp->Prop}(h:tMA K (aa a r) σ H Q):AI (tM K a) (tMA K r) σ H Q:=by
 obtain⟨μ,S,G,us,S',hr,er,e,k⟩:=h;obtain⟨x,S1,e1,e⟩:=bu e;obtain⟨xs,S2,e2,e⟩:=bu e;cases e;refine⟨μ,S,G,x,S1,hr,er,e1,λY0 vx H1 p1 k1 ZZ rx=>?_⟩;refine⟨_,S1,G,xs,_,ZZ,er.mono k1 p1,e2,λY8 vs H2 p2 k2 ZV rs=>?_⟩;exact k _ _ H2 (p1.trans p2) (k1.trans k2) ZV (.cons (RU.mono k2 p2 x vx rx) rs)
theorem O9{a:MA}(h:tM K (gc a) σ H Q):Nh (tMA K a) σ H Q:=by
 obtain⟨μ,S,G,u,S',hr,er,e,k⟩:=h;obtain⟨xs,S1,e1,e⟩:=bu e
 split at e
 .rename_i hc
  cases e;refine⟨μ,S,G,xs,_,hr,er,e1,λY0 vs H1 p1 k1 ZZ rs=>⟨?_,λp hp=>?_⟩⟩
  .have:=rs.len;unfold big at hc;rw[sizeLine_eq];omega
  .exact k _ _ _ p1 (k1.trans (bq.new hp)) (ZZ.tup hp) (kJ cb (RUs.mono (bq.new hp) (Pre.refl _) _ _ rs))
 .cases e
theorem ko(k:Aft K μ H (.ref S.length) (S++[.lst us]) Q)(hr:HR K μ S H)(rs:RUs H μ us vs)(hp:H p=none):Q (.ref p) (upd H p (.lst vs)):=by
 refine k _ _ _ ⟨_,rfl⟩ (bq.new hp) (hr.new hp rs) (rR ?_);rw[<-hr.len];simp
theorem Nb{a:MA}(h:tM K (b9 a) σ H Q):M3 (tMA K a) σ H Q:=by
 obtain⟨μ,S,G,u,S',hr,er,e,k⟩:=h;obtain⟨xs,S1,e1,e⟩:=bu e
 split at e
 .rename_i hc
  cases e;refine⟨μ,S,G,xs,S1,hr,er,e1,λY0 vs H1 p1 k1 ZZ rs=>⟨?_,λp hp=>?_⟩⟩
  .have:=rs.len;unfold big at hc;rw[sizeLine_eq];omega
  .exact ko (k.mono p1 k1) ZZ rs hp
 .cases e
def oG(K:KX)(r:List V->Hp->VK->Prop)(f:MF):Prop:= ∀(μ:List Addr) (S:Sto) (H:Hp) (us:List U) (vs:List V) (u:U) (S':Sto) (Q:VK),HR K μ S H->RUs H μ us vs->f us S=some (u,S')->Aft K μ H u S' Q->r vs H Q
theorem zE{r:List V->Hp->VK->Prop}{f:MF}{a:MA}(o:oG K r f)(h:tM K (mFn f a) σ H Q):tCB r (tMA K a) σ H Q:=by
 obtain⟨μ,S,G,u,S',hr,er,e,k⟩:=h;obtain⟨xs,S1,e1,e⟩:=bu e;refine⟨μ,S,G,xs,S1,hr,er,e1,λY0 vs H1 p1 k1 ZZ rs=>?_⟩;exact o _ S1 H1 xs vs u S' Q ZZ rs e (k.mono p1 k1)
def spM(K:KX)(m:MF):Sp:=λvs H Q _=>∃μ S us u S',HR K μ S H/\RUs H μ us vs/\m us S=some (u,S')/\Aft K μ H u S' Q
theorem EM{f:MF}{a:MA}{E:XK}(h:tM K (mFn f a) σ H Q):AE (spM K f) [] E (tMA K a) σ H Q:=by
 obtain⟨μ,S,G,u,S',hr,er,e,k⟩:=h;obtain⟨xs,S1,e1,e⟩:=bu e;refine⟨μ,S,G,xs,S1,hr,er,e1,λY0 vs H1 p1 k1 ZZ rs=>?_⟩;show spM K f _ H1 Q E;rw[bP];exact⟨_,S1,xs,u,S',ZZ,rs,e,k.mono p1 k1⟩
theorem Kg:oG K (λxs H Q=>(∃p ys,xs=[.ref p]/\(SqL K H p ys\/SqT K H p ys)/\Q (.int ys.length) H) \/ ∃a kvs,xs=[V.ref a]/\H a=some (.dK kvs)/\Q (.int kvs.length) H) cR:=by
 intro μ S H us vs u S' Q hr rs e a;unfold cR at e
 split at e
 .rename_i x
  obtain⟨v,r,rfl,rx,rn⟩:=rs.inv;rw[rn.nil_inv]
  split at e
  .rename_i kvs qd
   cases e;obtain⟨p,ws,rfl,hp,r'⟩:=hr.dic rx qd;refine .inr ⟨p,_,rfl,hp,?_⟩;have hl:=by have:=r'.len;rwa[ar]at this
   rw[Eo hl];exact a.now hr eW
  cases q:eh S x with
  |none=>rw[q]at e;cases e
  | some ws=>
    rw[q]at e;cases e;obtain⟨p,ys,rfl,hs,r'⟩:=hr.seq rx q;refine .inl ⟨p,ys,rfl,hs,?_⟩;rw[<-r'.len];exact a.now hr eW
 .cases e
theorem CW:oG K (λxs H Q=>∃p ys,xs=[.ref p]/\((SqL K H p ys /\ ∀l,H l=none->Q (.ref l) (upd H l (.tup ys)))\/(SqT K H p ys/\Q (.ref p) H))) cu:=by
 intro μ S H us vs u S' Q hr rs e a;unfold cu at e
 split at e
 .obtain⟨v,r,rfl,rx,rn⟩:=rs.inv
  rw[rn.nil_inv];unfold eh at e
  split at e
  .cases e
   obtain⟨p,ys,rfl,hp,r'⟩:=hZ rx;exact⟨p,ys,rfl,.inr ⟨.inl (.inl hp),a.now hr (kJ hp r')⟩⟩
  .rename_i n
   cases q:getL S n with
   |none=>rw[q]at e;cases e
   | some ws=>
     rw[q]at e;cases e;obtain⟨p,rfl,hp⟩:=fT rx;obtain⟨p',ys,Zr,hs,r'⟩:=hr.sq q;rw[hp]at Zr;cases Zr;refine⟨p,ys,rfl,.inl ⟨hs,λl hl=>?_⟩⟩;exact a μ _ _ (Pre.refl _) (bq.new hl) (hr.tup hl) (kJ cb (RUs.mono (bq.new hl) (Pre.refl _) _ _ r'))
  .cases e
 .cases e
theorem Kx:oG K (λxs H Q=>∃i j,xs=[.int i,.int j]/\Q (.int (if j>i then j else i)) H) sy:=by
 intro μ S H us vs u S' Q hr rs e a;unfold sy at e
 split at e
 .cases e
  obtain⟨v,r,rfl,rx,rs⟩:=rs.inv;obtain⟨w,r,rfl,ry,rn⟩:=rs.inv;rw[rn.nil_inv,dq rx,dq ry];exact⟨_,_,rfl,a.now hr eW⟩
 .cases e
theorem pb:∀{ns:List Int}{m:Int},ql ns=some m->m∈ns /\ ∀a∈ns,m<=a
 |[],m,h=>by cases h
 | x::xs,m,h=>by
   unfold ql at h;cases q:ql xs with
   | none=>
     rw[q]at h;cases h;cases xs with
     |nil=>exact⟨aT,λa ha=>by simp at ha;omega⟩
     | cons y ys=>
       exfalso;unfold ql at q
       split at q<;>cases q
   | some k=>
     rw[q]at h;obtain⟨h1,h2⟩:=pb q;have e:(if k<x then k else x)=m:=dD h;by_cases hk:k<x
     .rw[if_pos hk]at e;subst e
      refine⟨av _ h1,λa ha=>?_⟩;rcases aD.mp ha with z |z
      .omega
      .exact h2 a z
     .rw[if_neg hk]at e;subst e
      refine⟨aT,λa ha=>?_⟩;rcases aD.mp ha with z |z
      .omega
      .have:=h2 a z;omega
theorem z6{μ:List Addr}:∀{us:List U}{vs:List V}{ns:List Int},RUs H μ us vs->cZ oi us=some ns->vs=ns.map V.int
 |[],vs,ns,r,e=>by cases e;rw[r.nil_inv];rfl
 | u::us,vs,ns,r,e=>by
   obtain⟨v,r',rfl,a,b⟩:=r.inv;unfold cZ at e;cases u with
   | int x=>
     simp only[oi,aG]at e;cases q:cZ oi us with
     |none=>rw[q]at e;cases e
     | some cs=>
       rw[q]at e;cases e;rw[dq a,z6 b q];rfl
   |_=>cases e
def Ni(K:aj):List V->Hp->VK->Prop:=λxs H Q=>((∃i j,xs=[.int i,.int j]/\Q (.int (if j<i then j else i)) H) \/ ∃(p:Addr) (ns:List Int) (m:Int),xs=[.ref p]/\SqL K H p (ns.map V.int)/\m∈ns/\(∀a∈ns,m<=a)/\Q (.int m) H)
theorem uV:∀{ns:List Int}{us:List Value},cK (ns.map V.int) us->IntsAre us ns
 |[],us,r=>by cases r;exact .nil
 | n::ns,us,r=>by
   cases r with
   | cons a b=>
     obtain⟨t,rfl⟩:=a;exact .cons n t (uV b)
theorem A5 (hc:X.calm=true)(hu:X.A.units+64<cLine):iu X (.builtin "min") (Ni X.K):=by
 intro pins s σ H xs us Q I rs h;rcases h with h|⟨p,ns,m,rfl,hS,hm,hle,q⟩
 .exact BX hc pins s σ H xs us Q I rs h
 cases rs with
 | cons r1 rr=>
   cases rr;cases (show _=bW p from r1);obtain⟨ZY,rv,pl,_⟩:=I.list hS;have hI:=uV rv;have hl:=pl.isList;obtain⟨ys,ey⟩:=hI.allInts.items;have en:ns=ys.toList.map Prod.fst:=by rw[<-hI.numsOf,<-nums_intItems,<-ey]
   have V3:ns.length=ys.size:=by rw[en];simp
   have pos:0<ys.size:=by rw[<-V3];exact List.length_pos_of_mem hm
   rw[ey]at hl;refine min_intList (I.ok.hd hc) hl pos λv h' tk hv hk=>?_;obtain⟨t,rfl⟩:=intItems_at hv;obtain⟨b1,b2⟩:=argBest_lt (numAt ys) (ys.size-1);have Zx:numAt ys (argBest (λi j=>decide (numAt ys i<numAt ys j)) (ys.size-1))∈ns:=by
    rw[en,numAt_eq];exact getD_mem (by rw[ar,bX];omega)
   obtain⟨j,hj,ej⟩:=mem_getD (show m∈ys.toList.map Prod.fst from en▸hm);have ZC:j<=ys.size-1:=by rw[ar,bX]at hj;omega
   have Qn:=b2 j ZC;rw[numAt_eq ys j,ej]at Qn;have le1:=hle _ Zx;have eq:numAt ys (argBest (λi j=>decide (numAt ys i<numAt ys j)) (ys.size-1))=m:=by omega
   exact⟨.int m,H,I.kept hk,⟨t,by rw[eq]⟩,q⟩
theorem L4:oG K (Ni K) nE:=by
 intro μ S H us vs u S' Q hr rs e a;unfold nE at e
 split at e
 .cases e
  obtain⟨v,r,rfl,rx,rs⟩:=rs.inv;obtain⟨w,r,rfl,ry,rn⟩:=rs.inv;rw[rn.nil_inv,dq rx,dq ry];exact .inl ⟨_,_,rfl,a.now hr eW⟩
 .rename_i n
  obtain⟨v,r,rfl,rx,rn⟩:=rs.inv;rw[rn.nil_inv];cases q:getL S n with
  |none=>rw[q]at e;cases e
  | some xs=>
    rw[q]at e;simp only[aG]at e;cases q2:cZ oi xs with
    |none=>rw[q2]at e;cases e
    | some ns=>
      rw[q2]at e;simp only[aG]at e;cases q3:ql ns with
      |none=>rw[q3]at e;cases e
      | some m=>
        rw[q3]at e;cases e;obtain⟨p,rfl,hp⟩:=fT rx;obtain⟨p',ys,Zr,hs,r'⟩:=hr.sq q;rw[hp]at Zr;cases Zr;rw[z6 r' q2]at hs;obtain⟨h1,h2⟩:=pb q3;exact .inr ⟨p,ns,_,rfl,hs,h1,h2,a.now hr eW⟩
 .cases e
def MtU(K:KX)(r:V->List V->Hp->VK->Prop)(f:Nat->List U->Sto->Res U):Prop:= ∀(μ:List Addr) (S:Sto) (H:Hp) (n:Nat) (p:Addr) (us:List U) (vs:List V) (u:U) (S':Sto) (Q:VK),HR K μ S H->μ[n]?=some p->RUs H μ us vs->f n us S=some (u,S')->Aft K μ H u S' Q->r (.ref p) vs H Q
variable{r:V->List V->Hp->VK->Prop}{f:Nat->List U->Sto->Res U}
theorem LP{o:ME}{a:MA}(m:MtU K r f)(h:tM K (mML f o a) σ H Q):tBM K "list" r (tM K o) (tMA K a) σ H Q:=by
 obtain⟨μ,S,G,u,S',hr,er,e,k⟩:=h;obtain⟨x,S1,e1,e⟩:=bu e
 split at e
 .rename_i n
  cases q:getL S1 n with
  |none=>rw[q]at e;cases e
  | some ws=>
    rw[q]at e;obtain⟨xs,S2,e2,e⟩:=bu e;refine⟨μ,S,G,_,S1,hr,er,e1,λY0 vx H1 p1 k1 ZZ rx=>?_⟩;obtain⟨p,rfl,hp⟩:=fT rx;obtain⟨p',ys,Zr,hs,r'⟩:=ZZ.sq q;rw[hp]at Zr;cases Zr;refine⟨.inl ⟨rfl,ys,hs⟩,_,S1,G,xs,S2,ZZ,er.mono k1 p1,e2,λY8 vs H2 p2 k2 ZV rs=>?_⟩;exact m _ S2 H2 n p xs vs u S' Q ZV (p2.get hp) rs e (k.mono (p1.trans p2) (k1.trans k2))
 .cases e
theorem Ol{o:ME}(m:MtU K r f)(h:tM K (mML f o ai) σ H Q):Ml K "list" r (tM K o) σ H Q:=by
 obtain⟨μ,S,G,u,S',hr,er,e,k⟩:=h;obtain⟨x,S1,e1,e⟩:=bu e
 split at e
 .rename_i n
  cases q:getL S1 n with
  |none=>rw[q]at e;cases e
  | some ws=>
    rw[q]at e;refine⟨μ,S,G,_,S1,hr,er,e1,λY0 vx H1 p1 k1 ZZ rx=>?_⟩;obtain⟨p,rfl,hp⟩:=fT rx;obtain⟨p',ys,Zr,hs,r'⟩:=ZZ.sq q;rw[hp]at Zr;cases Zr;exact⟨.inl ⟨rfl,ys,hs⟩,m _ S1 H1 n p [] [] u S' Q ZZ hp .nil e (k.mono p1 k1)⟩
 .cases e
theorem qV{ws:List U}(k:Aft K μ H u (S.set n (.lst ws)) Q)(hr:HR K μ S H)(e:S[n]?=some (.lst us))(hp:μ[n]?=some p)(rs:RUs H μ ws vs)(ru:RU H μ u v):
  Q v (upd H p (.lst vs)):=by
 obtain⟨SF,e0,_⟩:=hr.cell n _ p e hp;exact k μ _ _ (Pre.refl _) (bq.wr e0) (hr.wr e hp rs) (RU.mono (bq.wr e0) (Pre.refl _) _ _ ru)
theorem Bb:MtU K AF bZ:=by
 intro μ S H n p us vs u S' Q hr hp rs e a;unfold bZ at e
 split at e
 .split at e
  .rename_i ws q
   split at e
   .rename_i hc
    cases e;obtain⟨v,r,rfl,rx,rn⟩:=rs.inv;rw[rn.nil_inv];obtain⟨xs,e0,r0⟩:=hr.cell n _ p q hp;refine⟨p,xs,v,rfl,rfl,e0,?_,qV a hr q hp (r0.append (.cons rx .nil)) nA⟩;have:=r0.len;unfold big at hc;rw[sizeLine_eq];omega
   .cases e
  .cases e
 .cases e
variable{j:Nat}
theorem PB(h:ixN n i=some j):j<n /\ -(n:Int)<=i/\i<n:=by
 unfold ixN at h
 grind
theorem Hu(h:ixN n i=some j):seqIndex? i n=some j:=by
 unfold ixN at h;unfold seqIndex?
 grind
theorem LZ:MtU K NO vN:=by
 intro μ S H n p us vs u S' Q hr hp rs e a;unfold vN at e
 split at e
 .split at e
  .rename_i ws q
   cases z:ws[ws.length-1]? with
   |none=>rw[z]at e;cases e
   | some y=>
     rw[z]at e;cases e;rw[rs.nil_inv];obtain⟨xs,e0,r0⟩:=hr.cell n _ p q hp;obtain⟨v,hv,rv⟩:=r0.get z;exact⟨p,xs,v,rfl,rfl,e0,by rw[<-r0.len];omega,qV a hr q hp r0.dropLast rv⟩
  .cases e
 .cases e
theorem Dk:MtU K CD lh:=by
 intro μ S H n p us vs u S' Q hr hp rs e a;unfold lh at e
 split at e
 .rename_i i
  split at e
  .rename_i ws q
   split at e
   rotate_left
   .cases e
   rename_i hR
   cases z:ixN _ i with
   |none=>rw[z]at e;cases e
   | some j=>
     rw[z]at e;simp only[aG]at e;cases z2:ws[j]? with
     |none=>simp_all
     | some y=>
       rw[z2]at e;cases e;obtain⟨v,r,rfl,rx,rn⟩:=rs.inv;rw[rn.nil_inv,dq rx];obtain⟨xs,e0,r0⟩:=hr.cell n _ p q hp;obtain⟨w,hw,YZ⟩:=r0.get z2;have hlen:=r0.len;refine⟨p,xs,i,j,w,rfl,rfl,e0,?_,?_,?_,hw,qV a hr q hp (r0.eraseIdx j) YZ⟩
       .have:=hR.1;omega
       .have:=hR.2;omega
       .rw[<-hlen];exact Hu z
  .cases e
 .cases e
theorem DN{t:TE}{m:ME}{Q:Bool->Hp->Prop}(ht:∀Q,tM K m σ H Q->t σ H Q)(h:tMT K (cOf m) σ H Q):Im t σ H Q:=by
 obtain⟨μ,S,G,b,S',hr,er,e,k⟩:=h;obtain⟨x,S1,e1,e⟩:=bu e
 split at e
 .cases e
  refine ht _ ⟨μ,S,G,_,_,hr,er,e1,λY0 vx H1 p1 k1 ZZ rx=>?_⟩;exact⟨_,kR rx,k _ H1 p1 k1 ZZ⟩
 .cases e
theorem PQ{t:TE}{m:ME}{Q:Bool->Hp->Prop}(ht:∀Q,tM K m σ H Q->t σ H Q)(h:tMT K (cOf m) σ H Q):tB t σ H Q:=DN ht h
theorem Pd{a b:MT}{Q:Bool->Hp->Prop}(h:tMT K (wV a b) σ H Q):_L.Pe (tMT K a) (tMT K b) σ H Q:=by
 obtain⟨μ,S,G,c,S',hr,er,e,k⟩:=h;obtain⟨x,S1,e1,e⟩:=bu e;refine⟨μ,S,G,x,S1,hr,er,e1,λY0 H1 p1 k1 ZZ=>?_⟩;cases x with
 |true=>exact sZ ⟨_,S1,G,c,S',ZZ,er.mono k1 p1,e,λY8 H2 p2 k2=>k _ H2 (p1.trans p2) (k1.trans k2)⟩
 | false=>
   grind
theorem P9{a b:MT}{Q:Bool->Hp->Prop}(h:tMT K (cOr a b) σ H Q):_L.tOr (tMT K a) (tMT K b) σ H Q:=by
 obtain⟨μ,S,G,c,S',hr,er,e,k⟩:=h;obtain⟨x,S1,e1,e⟩:=bu e;refine⟨μ,S,G,x,S1,hr,er,e1,λY0 H1 p1 k1 ZZ=>?_⟩;cases x with
 | true=>
   grind
 |false=>exact qN ⟨_,S1,G,c,S',ZZ,er.mono k1 p1,e,λY8 H2 p2 k2=>k _ H2 (p1.trans p2) (k1.trans k2)⟩
theorem MH{a:MT}{Q:Bool->Hp->Prop}(h:tMT K (yZ a) σ H Q):_L.M0 (tMT K a) σ H Q:=by
 obtain⟨μ,S,G,c,S',hr,er,e,k⟩:=h;obtain⟨x,S1,e1,e⟩:=bu e;cases e;exact⟨μ,S,G,x,_,hr,er,e1,λY0 H1 p1 k1 ZZ=>k _ H1 p1 k1 ZZ⟩
theorem Mz{c:MT}{a b:ME}(h:tM K (wN c a b) σ H Q):tIf (tMT K c) (tM K a) (tM K b) σ H Q:=by
 obtain⟨μ,S,G,u,S',hr,er,e,k⟩:=h;obtain⟨x,S1,e1,e⟩:=bu e;refine⟨μ,S,G,x,S1,hr,er,e1,λY0 H1 p1 k1 ZZ=>?_⟩;cases x with
 |true=>exact sZ ⟨_,S1,G,u,S',ZZ,er.mono k1 p1,e,k.mono p1 k1⟩
 |false=>exact qN ⟨_,S1,G,u,S',ZZ,er.mono k1 p1,e,k.mono p1 k1⟩
section
variable {D:Ends}
theorem Da(h:tMS K dF D σ H):Dn D σ H:=by
 obtain⟨μ,S,G,r,hr,er,e,k⟩:=h;cases e;exact k μ σ H (Pre.refl _) (bq.refl _) hr er
variable{b:MS}
theorem Nq{a:MS}(h:tMS K (bh a b) D σ H):Pc (tMS K a) (tMS K b) D σ H:=by
 obtain⟨μ,S,G,r,hr,er,e,k⟩:=h;unfold bh at e
 split at e
 .rename_i Y5 S1 q
  refine⟨μ,S,G,_,hr,er,q,λY0 Y7 H1 p1 k1 ZZ ZQ=>?_⟩;exact⟨_,S1,_,r,ZZ,ZQ,e,k.mono p1 k1⟩
 .rename_i q
  refine⟨μ,S,G,r,hr,er,e,?_⟩;obtain⟨f,Y4,S'⟩:=r;cases f with
  |nx=>exact absurd e (q _ S')
  |bk=>exact k
  |ct=>exact k
  |rt u=>exact k
variable{i:Nat}{m:ME}
theorem Jt(h:tMS K (bD i m) D σ H):EG (tM K m) (jM i) D σ H:=by
 obtain⟨μ,S,G,r,hr,er,e,k⟩:=h;obtain⟨x,S1,e1,e⟩:=bu e;cases e;exact⟨μ,S,G,x,S1,hr,er,e1,λY0 vx H1 p1 k1 ZZ rx=>k _ _ H1 p1 k1 ZZ ((er.mono k1 p1).set rx i)⟩
def NY:EH:=λo i v H Q=>∃a H',o=.ref a/\Bf H a i v H'/\Q H'
def Ju:EH:=λo i v H Q=>Ji o i v H Q\/NY o i v H Q
theorem GN{X:Cx}(hu:X.A.units+1<cLine):Me X Ju:=by
 intro pins s σ H o i v ov iv u Q I ro ri rv h;rcases h with h|⟨a,H',rfl,g,q⟩
 .exact set_list _ s σ H o i v ov iv u Q I ro ri rv h
 .obtain rfl:ov=bW a:=ro
  exact Bp hu I g ri rv λs4 I4=>⟨H',I4,q⟩
theorem Hr{o i:ME}(h:tMS K (eU o i m) D σ H):EG (tM K m) (Ms (tM K o) (tM K i) Ju) D σ H:=by
 obtain⟨μ,S,G,r,hr,er,e,k⟩:=h;obtain⟨x,S1,e1,e⟩:=bu e;obtain⟨p,S2,e2,e⟩:=bu e;obtain⟨j,S3,e3,e⟩:=bu e;cases p with
 | ref n=>
   simp at e
   split at e
   .rename_i us q
    split at e
    rotate_left
    .cases e
    rename_i kk
    cases z:ixN _ kk with
    |none=>rw[z]at e;cases e
    | some m'=>
      rw[z]at e;cases e;refine⟨μ,S,G,x,S1,hr,er,e1,λY0 vx H1 p1 k1 ZZ rx=>?_⟩;refine⟨_,S1,G,_,S2,ZZ,er.mono k1 p1,e2,λY8 vo H2 p2 k2 ZV ro=>?_⟩;refine⟨_,S2,G,_,S3,ZV,er.mono (k1.trans k2) (p1.trans p2),e3,λX7 vi H3 p3 k3 YL ri=>?_⟩;obtain⟨a,rfl,ha⟩:=fT ro;have W0:=p3.get ha;obtain⟨vs,e0,r0⟩:=YL.cell n _ a q W0;have Uh:=RU.mono (k2.trans k3) (p2.trans p3) _ _ rx;refine .inl ⟨a,vs,kk,m',rfl,dq ri,e0,by rw[<-r0.len];omega,?_⟩;have kw:bq H3 (upd H3 a (.lst (vs.set m' vx))):=bq.wr e0;exact k _ _ _ (p1.trans (p2.trans p3)) (k1.trans (k2.trans (k3.trans kw))) (YL.wr q W0 (r0.set Uh m')) (er.mono (k1.trans (k2.trans (k3.trans kw))) (p1.trans (p2.trans p3)))
   .rename_i kvs q
    cases qk:keyOf j with
    |none=>simp_all
    | some kk=>
      rw[qk]at e
      split at e
      .rename_i hz
       cases e;refine⟨μ,S,G,x,S1,hr,er,e1,λY0 vx H1 p1 k1 ZZ rx=>?_⟩;refine⟨_,S1,G,_,S2,ZZ,er.mono k1 p1,e2,λY8 vo H2 p2 k2 ZV ro=>?_⟩;refine⟨_,S2,G,_,S3,ZV,er.mono (k1.trans k2) (p1.trans p2),e3,λX7 vi H3 p3 k3 YL ri=>?_⟩;obtain⟨a,rfl,ha⟩:=fT ro;have W0:=p3.get ha;obtain⟨vs,e0,r0⟩:=YL.cell n _ a q W0;have Uh:=RU.mono (k2.trans k3) (p2.trans p3) _ _ rx;have hl:=by have:=r0.len;rwa[ar]at this
       obtain⟨ws,ew,YZ⟩:=F6 Uh r0;have kw:bq H3 (upd H3 a (.dK (putK (dV kvs vs) kk vx))):=bq.wrG e0 (λ_ z=>by cases z) λ_ _ z=>by cases z
       refine .inr ⟨a,_,rfl,.inl ⟨_,kk,e0,oM ri qk,by rw[Eo hl];exact hz,rfl⟩,?_⟩;exact k _ _ _ (p1.trans (p2.trans p3)) (k1.trans (k2.trans (k3.trans kw))) (YL.wrC q W0 rfl ⟨ws,by rw[ew];exact cb,RUs.mono kw (Pre.refl _) _ _ YZ⟩) (er.mono (k1.trans (k2.trans (k3.trans kw))) (p1.trans (p2.trans p3)))
      .cases e
   .cases e
 |_=>cases e
theorem LA(h:tMS K (d7 m) D σ H):Jc (tM K m) D σ H:=by
 obtain⟨μ,S,G,r,hr,er,e,k⟩:=h;obtain⟨x,S1,e1,e⟩:=bu e;cases e;exact⟨μ,S,G,x,S1,hr,er,e1,λY0 vx H1 p1 k1 ZZ rx=>k _ σ H1 p1 k1 ZZ (er.mono k1 p1)⟩
theorem OK(h:tMS K (dS m) D σ H):MJ (tM K m) D σ H:=by
 obtain⟨μ,S,G,r,hr,er,e,k⟩:=h;obtain⟨x,S1,e1,e⟩:=bu e;cases e;exact⟨μ,S,G,x,S1,hr,er,e1,k⟩
theorem PC{c:MT}{a:MS}(h:tMS K (sIf c a b) D σ H):NN (tMT K c) (tMS K a) (tMS K b) D σ H:=by
 obtain⟨μ,S,G,r,hr,er,e,k⟩:=h;obtain⟨x,S1,e1,e⟩:=bu e;refine⟨μ,S,G,x,S1,hr,er,e1,λY0 H1 p1 k1 ZZ=>?_⟩;cases x with
 |true=>exact sZ ⟨_,S1,G,r,ZZ,er.mono k1 p1,e,k.mono p1 k1⟩
 |false=>exact qN ⟨_,S1,G,r,ZZ,er.mono k1 p1,e,k.mono p1 k1⟩
variable{S:Sto}{r:Fl×Rho×Sto}
theorem oR{X4:List Addr}{H0:Hp}{k:MS}{N:St->Hp->Prop}(hr:HR K μ S H)(er:ER H μ G σ)(e:aft (b G S) k=some r)(p:Pre X4 μ)(kp:bq H0 H)(fl:FlP K X4 H0 D r)
  (hN:∀Y0 Y7 H1 Y5 S1,Pre X4 Y0->bq H0 H1->HR K Y0 S1 H1->ER H1 Y0 Y5 Y7->k Y5 S1=some r->N Y7 H1):tMS K b { D with nx:=N,ct:=N,bk:=D.nx } σ H:=by
 unfold aft at e
 split at e
 .rename_i Y5 S1 q
  exact⟨μ,S,G,_,hr,er,q,λY0 Y7 H1 p1 k1 ZZ ZQ=>hN _ _ H1 _ S1 (p.trans p1) (kp.trans k1) ZZ ZQ e⟩
 .rename_i Y5 S1 q
  exact⟨μ,S,G,_,hr,er,q,λY0 Y7 H1 p1 k1 ZZ ZQ=>hN _ _ H1 _ S1 (p.trans p1) (kp.trans k1) ZZ ZQ e⟩
 .rename_i Y5 S1 q
  cases e;exact⟨μ,S,G,_,hr,er,q,λY0 Y7 H1 p1 k1 ZZ ZQ=>fl _ _ H1 (p.trans p1) (kp.trans k1) ZZ ZQ⟩
 .rename_i q1 q2 q3
  refine⟨μ,S,G,r,hr,er,e,?_⟩;obtain⟨f,Y4,S'⟩:=r;cases f with
  |nx=>exact absurd e (q1 _ S')
  |ct=>exact absurd e (q2 _ S')
  |bk=>exact absurd e (q3 _ S')
  |rt u=>exact Aft.mono fl p kp
theorem drop_cons{α:Type}{l:List α}{x:α}(h:l[i]?=some x):l.drop i=x::l.drop (i+1):=by
 obtain⟨hi,e⟩:=ah.mp h;rw[dW hi,e]
theorem Lu{us:List U}{vs:List V}(hr:HR K μ S H)(er:ER H μ G σ)(e:yk i b us G S=some r)(fl:FlP K μ H D r)(ha:H a=some (.tup vs))(ru:RUs H μ us vs):
  ∃W:Nat->Nat->St->Hp->Prop,(∃m,W 0 m σ H) /\ ∀k m σ H,W k m σ H ->
   ((Itt K a).stop k H/\D.nx σ H)\/((Itt K a).go k H /\ ∃N:St->Hp->Prop,(∀Y3 H',N Y3 H'->∃m',m'<m/\W (k+1) m' Y3 H') /\ ∀x H',(Itt K a).yld k H x H'->jM i x σ H' λY9 H2=>tMS K b { D with nx:=N,ct:=N,bk:=D.nx } Y9 H2):=by
 refine FS (xs:=vs) (λk Y7 H1=>∃Y0 S1 Y5,Pre μ Y0/\bq H H1/\HR K Y0 S1 H1/\ER H1 Y0 Y5 Y7/\yk i b (us.drop k) Y5 S1=some r) ⟨μ,S,G,Pre.refl _,bq.refl _,hr,er,e⟩ ?_ ?_ ?_
 .rintro k Y7 H1 _ ⟨Y0,S1,Y5,p1,k1,_⟩
  exact .inl (.inl (k1 a vs ha))
 .rintro k x Y7 H1 hx ⟨Y0,S1,Y5,p1,k1,ZZ,ZQ,e1⟩
  have hk:k<us.length:=by rw[ru.len];exact(ah.mp hx).1
  have hu:us[k]?=some us[k]:=by simp
  obtain⟨v,hv,rv⟩:=ru.get hu;rw[hx]at hv;cases hv;rw[drop_cons hu]at e1;have Wx:=RU.mono k1 p1 _ _ rv;exact oR ZZ (ZQ.set Wx i) e1 p1 k1 fl λY8 Y9 H2 X0 S2 p2 k2 ZV YF e2=>⟨_,S2,_,p2,k2,ZV,YF,e2⟩
 .rintro Y7 H1 ⟨Y0,S1,Y5,p1,k1,ZZ,ZQ,e1⟩
  rw[<-ru.len,vd]at e1;cases e1;exact fl _ _ H1 p1 k1 ZZ ZQ
theorem Ea{lo:Int}(hr:HR K μ S H)(er:ER H μ G σ)(e:yk i b (bx lo n) G S=some r)(fl:FlP K μ H D r):
  ∃W:Nat->Nat->St->Hp->Prop,(∃m,W 0 m σ H) /\ ∀k m σ H,W k m σ H ->
   ((Itr lo n).stop k H/\D.nx σ H)\/((Itr lo n).go k H /\ ∃N:St->Hp->Prop,(∀Y3 H',N Y3 H'->∃m',m'<m/\W (k+1) m' Y3 H') /\ ∀x H',(Itr lo n).yld k H x H'->jM i x σ H' λY9 H2=>tMS K b { D with nx:=N,ct:=N,bk:=D.nx } Y9 H2):=by
 refine Ci (λk Y7 H1=>∃Y0 S1 Y5,Pre μ Y0/\bq H H1/\HR K Y0 S1 H1/\ER H1 Y0 Y5 Y7/\yk i b ((bx lo n).drop k) Y5 S1=some r) ⟨μ,S,G,Pre.refl _,bq.refl _,hr,er,e⟩ ?_ ?_
 .rintro k Y7 H1 hk ⟨Y0,S1,Y5,p1,k1,ZZ,ZQ,e1⟩
  have hu:(bx lo n)[k]?=some (.int (lo+k)):=by simp[bx,hk]
  rw[drop_cons hu]at e1;exact oR ZZ (ZQ.set eW i) e1 p1 k1 fl λY8 Y9 H2 X0 S2 p2 k2 ZV YF e2=>⟨_,S2,_,p2,k2,ZV,YF,e2⟩
 .rintro Y7 H1 ⟨Y0,S1,Y5,p1,k1,ZZ,ZQ,e1⟩
  have hl:(bx lo n).length=n:=by simp[bx]
  rw[List.drop_eq_nil_of_le (by simp_all)]at e1;cases e1;exact fl _ _ H1 p1 k1 ZZ ZQ
theorem Kv{f:Nat}(hr:HR K μ S H)(er:ER H μ G σ)(e:forL i b n f 0 G S=some r)(fl:FlP K μ H D r)(ha:μ[n]?=some a):
  ∃W:Nat->Nat->St->Hp->Prop,(∃m,W 0 m σ H) /\ ∀k m σ H,W k m σ H ->
   ((Itl K a).stop k H/\D.nx σ H)\/((Itl K a).go k H /\ ∃N:St->Hp->Prop,(∀Y3 H',N Y3 H'->∃m',m'<m/\W (k+1) m' Y3 H') /\ ∀x H',(Itl K a).yld k H x H'->jM i x σ H' λY9 H2=>tMS K b { D with nx:=N,ct:=N,bk:=D.nx } Y9 H2):=by
 refine⟨λk m Y7 H1=>∃Y0 S1 Y5,Pre μ Y0/\bq H H1/\HR K Y0 S1 H1/\ER H1 Y0 Y5 Y7/\forL i b n m k Y5 S1=some r,⟨f,μ,S,G,Pre.refl _,bq.refl _,hr,er,e⟩,?_⟩;rintro k m Y7 H1 ⟨Y0,S1,Y5,p1,k1,ZZ,ZQ,e1⟩;cases m with
 |zero=>cases e1
 | succ m=>
   unfold forL at e1;cases q:getL S1 n with
   |none=>simp_all
   | some us=>
     rw[q]at e1;simp at e1;obtain⟨a',vs,Zk,hs,rs⟩:=ZZ.sq q;rw[p1.get ha]at Zk;cases Zk;cases z:us[k]? with
     | none=>
       rw[z]at e1;cases e1;refine .inl ⟨⟨vs,hs,?_⟩,fl _ _ H1 p1 k1 ZZ ZQ⟩;rw[<-rs.len];simp_all
     | some u=>
       rw[z]at e1;obtain⟨v,hv,rv⟩:=rs.get z;refine .inr ⟨⟨vs,v,hs,hv⟩,_,λY3 H' w=>⟨m,cw _,w⟩,λx H' y=>?_⟩;obtain⟨e',y⟩:=y;subst e';have hx:=y vs hs;rw[hv]at hx;cases hx;exact oR ZZ (ZQ.set rv i) e1 p1 k1 fl λY8 Y9 H2 X0 S2 p2 k2 ZV YF e2=>⟨_,S2,_,p2,k2,ZV,YF,e2⟩
theorem F5{c:MT}(h:tMS K (jR c b) D σ H):EC (tMT K c) (tMS K b) D σ H:=by
 obtain⟨μ,S,G,r,hr,er,e,fl⟩:=h;refine⟨λm Y7 H1=>∃Y0 S1 Y5,Pre μ Y0/\bq H H1/\HR K Y0 S1 H1/\ER H1 Y0 Y5 Y7/\whl c b m Y5 S1=some r,⟨_,μ,S,G,Pre.refl _,bq.refl _,hr,er,e⟩,?_⟩;rintro m Y7 H1 ⟨Y0,S1,Y5,p1,k1,ZZ,ZQ,e1⟩;cases m with
 |zero=>cases e1
 | succ m=>
   obtain⟨x,S2,e2,e1⟩:=bu e1;refine⟨_,S1,_,x,S2,ZZ,ZQ,e2,λY8 H2 p2 k2 ZV=>?_⟩;cases x with
   | true=>
     refine sZ ⟨_,λY3 H' w=>⟨m,cw _,w⟩,?_⟩;exact oR ZV (ZQ.mono k2 p2) e1 (p1.trans p2) (k1.trans k2) fl λX7 X9 H3 Z1 S3 p3 k3 YL Qk e3=>⟨_,S3,_,p3,k3,YL,Qk,e3⟩
   | false=>
     have e':=e1;cases e';exact qN (fl _ _ H2 (p1.trans p2) (k1.trans k2) ZV (ZQ.mono k2 p2))
end
end
section
variable {K:KX}{σ:St}{H:Hp}{Q:VK}{D:Ends}
variable{R:It->Hp->Prop}{S S1:Sto}{src:Src}
theorem Iv{a:MA}(hr:HR K μ S H)(er:ER H μ G σ)(e:iR1 a G S=some (src,S1))
  (hR:∀Y0 H1 n,Pre μ Y0->bq H H1->HR K Y0 S1 H1->src=.imm (bx 0 n)->R (Itr 0 n) H1):wI (tMA K a) σ H R:=by
 obtain⟨xs,S2,e1,e⟩:=bu e
 split at e
 .rename_i j
  split at e
  .rename_i hj
   cases e;refine⟨μ,S,G,_,_,hr,er,e1,λY0 vs H1 p1 k1 ZZ rs=>?_⟩;obtain⟨v,r,rfl,rx,rn⟩:=rs.inv;rw[rn.nil_inv,dq rx];exact⟨j,rfl,hj.1,hj.2,hR _ H1 _ p1 k1 ZZ rfl⟩
  .cases e
 .cases e
theorem IM{a:MA}(hr:HR K μ S H)(er:ER H μ G σ)(e:iR2 a G S=some (src,S1))
  (hR:∀Y0 H1 lo n,Pre μ Y0->bq H H1->HR K Y0 S1 H1->src=.imm (bx lo n)->R (Itr lo n) H1):yh (tMA K a) σ H R:=by
 obtain⟨xs,S2,e1,e⟩:=bu e
 split at e
 .rename_i i j
  split at e
  .rename_i hj
   cases e;refine⟨μ,S,G,_,_,hr,er,e1,λY0 vs H1 p1 k1 ZZ rs=>?_⟩;obtain⟨v,r,rfl,rx,rs⟩:=rs.inv;obtain⟨w,r,rfl,ry,rn⟩:=rs.inv;rw[rn.nil_inv,dq rx,dq ry];exact⟨i,j,rfl,⟨hj.1.1,hj.1.2,hj.2.1,hj.2.2⟩,hR _ H1 _ _ p1 k1 ZZ rfl⟩
  .cases e
 .cases e
theorem zv{a:ME}(hr:HR K μ S H)(er:ER H μ G σ)(e:di a G S=some (src,S1))
  (hT:∀Y0 H1 us p vs,Pre μ Y0->bq H H1->HR K Y0 S1 H1->src=.imm us->H1 p=some (.tup vs)->RUs H1 Y0 us vs->R (Itt K p) H1)
  (hL:∀Y0 H1 n p,Pre μ Y0->bq H H1->HR K Y0 S1 H1->src=.mut n->Y0[n]?=some p->R (Itl K p) H1):uy K (tM K a) σ H R\/Bx K (tM K a) σ H R:=by
 obtain⟨x,S2,e1,e⟩:=bu e
 split at e
 .cases e
  refine .inr ⟨μ,S,G,_,_,hr,er,e1,λY0 vx H1 p1 k1 ZZ rx=>?_⟩;obtain⟨p,vs,rfl,hp,r⟩:=hZ rx;exact⟨p,rfl,⟨vs,.inl (.inl hp)⟩,hT _ H1 _ p vs p1 k1 ZZ rfl hp r⟩
 .rename_i n
  cases q:getL S2 n with
  |none=>rw[q]at e;cases e
  | some ws=>
    rw[q]at e;cases e;refine .inl ⟨μ,S,G,_,_,hr,er,e1,λY0 vx H1 p1 k1 ZZ rx=>?_⟩;obtain⟨p,rfl,hp⟩:=fT rx;obtain⟨p',ys,Zr,hs,r'⟩:=ZZ.sq q;rw[hp]at Zr;cases Zr;exact⟨p,rfl,⟨ys,hs⟩,hL _ H1 n p p1 k1 ZZ rfl hp⟩
 .cases e
variable{i:Nat}{b:MS}
theorem MQ{a:MA}(h:tMS K (fB i (iR1 a) b) D σ H):tZ (wI (tMA K a)) (jM i) (tMS K b) D σ H:=by
 obtain⟨μ,S,G,r,hr,er,e,fl⟩:=h;obtain⟨src,S1,e1,e⟩:=bu e;refine Iv hr er e1 λY0 H1 n p1 k1 ZZ hs=>?_;subst hs;exact Ea ZZ (er.mono k1 p1) e (fl.mono p1 k1)
theorem Oq{a:MA}(h:tMS K (fB i (iR2 a) b) D σ H):tZ (yh (tMA K a)) (jM i) (tMS K b) D σ H:=by
 obtain⟨μ,S,G,r,hr,er,e,fl⟩:=h;obtain⟨src,S1,e1,e⟩:=bu e;refine IM hr er e1 λY0 H1 lo n p1 k1 ZZ hs=>?_;subst hs;exact Ea ZZ (er.mono k1 p1) e (fl.mono p1 k1)
theorem Qe{a:ME}(h:tMS K (fB i (di a) b) D σ H):tZ (λσ H R=>uy K (tM K a) σ H R\/Bx K (tM K a) σ H R) (jM i) (tMS K b) D σ H:=by
 obtain⟨μ,S,G,r,hr,er,e,fl⟩:=h;obtain⟨src,S1,e1,e⟩:=bu e;refine zv hr er e1 (λY0 H1 us p vs p1 k1 ZZ hs hp rs=>?_) λY0 H1 n p p1 k1 ZZ hs hp=>?_
 .subst hs
  exact Lu ZZ (er.mono k1 p1) e (fl.mono p1 k1) hp rs
 .subst hs
  exact Kv ZZ (er.mono k1 p1) e (fl.mono p1 k1) hp
theorem pE{t:MT}{e:ME}{G:Rho}:∀{us acc ys:List U}{S S':Sto},fR t e G us acc S=some (ys,S')->acc.length<=ys.length
 |[],acc,ys,S,S',h=>by cases h<;>simp_all
 | x::us,acc,ys,S,S',h=>by
   obtain⟨k,S1,e1,h⟩:=bu h;cases k with
   | true=>
     obtain⟨y,S2,e2,h⟩:=bu (show bnd _ (λy S2=>fR t e G us (acc++[y]) S2)=some _ from h);have:=pE h;simp at this;exact aE (by assumption)
   |false=>exact pE (h)
theorem pf{t:MT}{e:ME}{G:Rho}{n:Nat}:∀{f i:Nat}{acc ys:List U}{S S':Sto},jG t e G n f i acc S=some (ys,S')->acc.length<=ys.length
 |0,i,acc,ys,S,S',h=>by cases h
 | f+1,i,acc,ys,S,S',h=>by
   unfold jG at h;cases q:getL S n with
   |none=>rw[q]at h;cases h
   | some us=>
     rw[q]at h;simp at h;cases z:us[i]? with
     |none=>simp_all
     | some x=>
       rw[z]at h;obtain⟨k,S1,e1,h⟩:=bu h;cases k with
       | true=>
         obtain⟨y,S2,e2,h⟩:=bu (show bnd _ (λy S2=>jG t e G n f _ (acc++[y]) S2)=some _ from h);have:=pf h;simp at this;exact aE (by assumption)
       |false=>exact pf (h)
def z9(J:It)(σ:St)(tt:TT)(te:TE)(H1:Hp)(Q:VK):Prop:= ∃W:Nat->Nat->List V->Hp->Prop,(∃m,W 0 m [] H1) /\ ∀i m ys H,W i m ys H->ys.length<sizeLine /\
 ((J.stop i H /\ ∀D,H D=none->Q (.ref D) (upd H D (.lst ys))) \/
  (J.go i H /\ ∀x H',J.yld i H x H'->tt (σ++[some x]) H' λb H3=>if b=true then te (σ++[some x]) H3 λy H4 =>∃m',m'<m/\W (i+1) m' (ys++[y]) H4 else ∃m',m'<m/\W (i+1) m' ys H3))
variable{e:ME}{ys:List U}
theorem ui{t:MT}{Y4:Rho}{Y3:St}{au:List U}{acc:List V}{next:List U->Sto->Res (List U)}(W:List V->Hp->Prop)(ZZ:HR K Y0 S1 H1)(ZQ:ER H1 Y0 Y4 Y3)(ra:RUs H1 Y0 au acc)
  (e1:bnd (t Y4 S1) (λk S2=>if k then bnd (e Y4 S2) λy S3=>next (au++[y]) S3 else next au S2)=some (ys,S'))
  (hW:∀Y8 S2 au2 XM H2,Pre Y0 Y8->bq H1 H2->HR K Y8 S2 H2->RUs H2 Y8 au2 XM->next au2 S2=some (ys,S')->W XM H2):
  tMT K t Y3 H1 λb H3=>if b=true then tM K e Y3 H3 λy H4=>W (acc++[y]) H4 else W acc H3:=by
 obtain⟨b,S2,e2,e1⟩:=bu e1;refine⟨_,S1,_,b,S2,ZZ,ZQ,e2,λY8 H2 p2 k2 ZV=>?_⟩;have Wz:=RUs.mono k2 p2 _ _ ra;cases b with
 | true=>
   obtain⟨y',S3,e3,e1⟩:=bu (show bnd _ (λy S2=>next (au++[y]) S2)=some _ from e1);exact sZ ⟨_,S2,_,y',S3,ZV,ZQ.mono k2 p2,e3,λX7 v3 H3 p3 k3 YL Wv=>hW _ S3 _ _ H3 (p2.trans p3) (k2.trans k3) YL ((RUs.mono k3 p3 _ _ Wz).append (.cons Wv .nil)) e1⟩
 |false=>exact qN (hW _ S2 _ _ H2 p2 k2 ZV Wz e1)
variable{us:List U}
theorem wK{J:It}{t:MT}(hr:HR K μ S H)(er:ER H μ G σ)(h:fR t e G us [] S=some (ys,S'))(hz:ys.length<big)(k:Aft K μ H (.ref S'.length) (S'++[.lst ys]) Q)
  (Wn:∀H',bq H H'->J.stop us.length H') (QW:∀(i:Nat) H',i<us.length->bq H H'->J.go i H')
  (hy:∀(i:Nat) H' x Xn (u:U),us[i]?=some u->bq H H'->J.yld i H' x Xn->Xn=H'/\RU H μ u x):z9 J σ (tMT K t) (tM K e) H Q:=by
 have W5:ys.length<sizeLine:=by exact hz
 refine⟨λi m acc H1=>m=us.length-i/\i<=us.length /\ ∃Y0 S1 au,Pre μ Y0/\bq H H1/\HR K Y0 S1 H1/\RUs H1 Y0 au acc/\fR t e G (us.drop i) au S1=some _,⟨_,rfl,cU _,μ,S,[],Pre.refl _,bq.refl _,hr,.nil,h⟩,?_⟩;rintro i m acc H1 ⟨rfl,hi,Y0,S1,au,p1,k1,ZZ,ra,e1⟩;have hl:=pE e1;have YV:=ra.len;refine⟨by omega,?_⟩;by_cases ZU:i<us.length
 .have hu:us[i]?=some us[i]:=by simp
  rw[drop_cons hu]at e1;refine .inr ⟨QW i H1 ZU k1,λx H' y=>?_⟩;obtain⟨rfl,rx⟩:=hy i H1 x H' _ hu k1 y;have ZQ:=(er.mono k1 p1).push (RU.mono k1 p1 _ _ rx);exact ui (λacc H1=>∃m',m'<us.length-i/\m'=us.length-(i+1)/\i+1<=us.length /\ ∃Y0 S1 au,Pre μ Y0/\bq H H1/\HR K Y0 S1 H1/\RUs H1 Y0 au _/\fR t e G _ au S1=some _) ZZ ZQ ra e1 λY8 S2 au2 XM H2 p2 k2 ZV Wz q=>⟨_,by omega,rfl,ZU,_,S2,_,p1.trans p2,k1.trans k2,ZV,Wz,q⟩
 .have e:i=us.length:=by omega
  subst e;rw[vd]at e1;cases e1;exact .inl ⟨Wn H1 k1,λD hD=>ko (k.mono p1 k1) ZZ ra hD⟩
theorem CU{t:MT}{f:Nat}(hr:HR K μ S H)(er:ER H μ G σ)(h:jG t e G n f 0 [] S=some (ys,S'))(hz:ys.length<big)(k:Aft K μ H (.ref S'.length) (S'++[.lst ys]) Q)
  (hp:μ[n]?=some p):z9 (Itl K p) σ (tMT K t) (tM K e) H Q:=by
 have W5:ys.length<sizeLine:=by exact hz
 refine⟨λi m acc H1=>∃Y0 S1 au,Pre μ Y0/\bq H H1/\HR K Y0 S1 H1/\RUs H1 Y0 au acc/\jG t e G n m i au S1=some _,⟨f,μ,S,[],Pre.refl _,bq.refl _,hr,.nil,h⟩,?_⟩;rintro i m acc H1 ⟨Y0,S1,au,p1,k1,ZZ,ra,e1⟩;have hl:=pf e1;have YV:=ra.len;refine⟨by omega,?_⟩;cases m with
 |zero=>cases e1
 | succ m=>
   unfold jG at e1;cases q:getL S1 n with
   |none=>simp_all
   | some us=>
     rw[q]at e1;simp at e1;obtain⟨a',vs,Zk,hs,rs⟩:=ZZ.sq q;rw[p1.get hp]at Zk;cases Zk;cases z:us[i]? with
     | none=>
       rw[z]at e1;cases e1;exact .inl ⟨⟨vs,hs,by rw[<-rs.len];simp_all⟩,λD hD=>ko (k.mono p1 k1) ZZ ra hD⟩
     | some u=>
       rw[z]at e1;obtain⟨v,hv,rv⟩:=rs.get z;refine .inr ⟨⟨vs,v,hs,hv⟩,λx H' y=>?_⟩;obtain⟨e',y⟩:=y;subst e';have hx:=y vs hs;rw[hv]at hx;cases hx;exact ui (λacc H1=>∃m',m'<m+1 /\ ∃Y0 S1 au,Pre μ Y0/\bq H H1/\HR K Y0 S1 H1/\RUs H1 Y0 au _/\jG t e G n m' _ au S1=some _) ZZ ((er.mono k1 p1).push rv) ra e1 λY8 S2 au2 XM H2 p2 k2 ZV Wz q=>⟨m,cw _,_,S2,_,p1.trans p2,k1.trans k2,ZV,Wz,q⟩
theorem xV{lo:Int}{t:MT}(hr:HR K μ S H)(er:ER H μ G σ)(h:fR t e G (bx lo n) [] S=some (ys,S'))(hz:ys.length<big)(k:Aft K μ H (.ref S'.length) (S'++[.lst ys]) Q):
  z9 (Itr lo n) σ (tMT K t) (tM K e) H Q:=by
 have hl:(bx lo n).length=n:=by simp[bx]
 refine wK hr er h hz k (λH' _=>by rw[hl];exact ao _) (λi H' hi _=>by rw[hl]at hi;exact hi) λi H' x Xn u hu _ y=>?_;obtain⟨rfl,rfl⟩:=y;have hi:i<n:=by rw[<-hl];exact(ah.mp hu).1
 have e2:(bx lo n)[i]?=some (.int (lo+i)):=by simp[bx,hi]
 rw[e2]at hu;cases hu;exact⟨rfl,eW⟩
theorem Em{vs:List V}{t:MT}(hr:HR K μ S H)(er:ER H μ G σ)(h:fR t e G us [] S=some (ys,S'))(hz:ys.length<big)(k:Aft K μ H (.ref S'.length) (S'++[.lst ys]) Q)
  (hp:H p=some (.tup vs)) (rs:RUs H μ us vs):z9 (Itt K p) σ (tMT K t) (tM K e) H Q:=by
 refine wK hr er h hz k (λH' kp=>⟨vs,.inl (.inl (kp p vs hp)),by rw[rs.len]<;>simp_all⟩) (λi H' hi kp=>?_) λi H' x Xn u hu kp y=>?_
 .have ZH:i<vs.length:=by rw[<-rs.len];omega
  exact⟨vs,vs[i],.inl (.inl (kp p vs hp)),by simp⟩
 .obtain⟨rfl,y⟩:=y
  obtain⟨v,hv,rv⟩:=rs.get hu;have:=y vs (.inl (.inl (kp p vs hp)))
  grind
theorem Oy{a:MA}{t:MT}(h:tM K (cy (iR1 a) t e) σ H Q):pQ (wI (tMA K a)) (tMT K t) (tM K e) σ H Q:=by
 obtain⟨μ,S,G,u,S',hr,er,e0,k⟩:=h;obtain⟨src,S1,e1,e0⟩:=bu e0;obtain⟨ys,S2,e2,e0⟩:=bu e0
 split at e0
 .rename_i hz
  cases e0;refine Iv hr er e1 λY0 H1 n p1 k1 ZZ hs=>?_;subst hs;exact xV ZZ (er.mono k1 p1) e2 hz (k.mono p1 k1)
 .cases e0
theorem Ox{a:MA}{t:MT}(h:tM K (cy (iR2 a) t e) σ H Q):pQ (yh (tMA K a)) (tMT K t) (tM K e) σ H Q:=by
 obtain⟨μ,S,G,u,S',hr,er,e0,k⟩:=h;obtain⟨src,S1,e1,e0⟩:=bu e0;obtain⟨ys,S2,e2,e0⟩:=bu e0
 split at e0
 .rename_i hz
  cases e0;refine IM hr er e1 λY0 H1 lo n p1 k1 ZZ hs=>?_;subst hs;exact xV ZZ (er.mono k1 p1) e2 hz (k.mono p1 k1)
 .cases e0
theorem Qg{a:ME}{t:MT}(h:tM K (cy (di a) t e) σ H Q):pQ (λσ H R=>uy K (tM K a) σ H R\/Bx K (tM K a) σ H R) (tMT K t) (tM K e) σ H Q:=by
 obtain⟨μ,S,G,u,S',hr,er,e0,k⟩:=h;obtain⟨src,S1,e1,e0⟩:=bu e0;obtain⟨ys,S2,e2,e0⟩:=bu e0
 split at e0
 .rename_i hz
  cases e0;refine zv hr er e1 (λY0 H1 us p vs p1 k1 ZZ hs hp rs=>?_) λY0 H1 n p p1 k1 ZZ hs hp=>?_
  .subst hs
   exact Em ZZ (er.mono k1 p1) e2 hz (k.mono p1 k1) hp rs
  .subst hs
   exact CU ZZ (er.mono k1 p1) e2 hz (k.mono p1 k1) hp
 .cases e0
end
section
variable {K:KX}{σ:St}{H:Hp}{Q:VK}{D:Ends}
end
variable{X:Cx}{e:Expr}
theorem PE.con{t t':TE}(h:PE X e t)(hm:∀σ H Q,t' σ H Q->t σ H Q):PE X e t':=λpins s σ H Q I q=>h _ s σ H Q I (hm σ H Q q)
variable{t':TT}
theorem PT.con{t:TT}(h:PT X e t)(hm:∀σ H Q,t' σ H Q->t σ H Q):PT X e t':=λpins s σ H Q I q=>h _ s σ H Q I (hm σ H Q q)
theorem PW.con{t:TT}(h:PW X e t)(hm:∀σ H Q,t' σ H Q->t σ H Q):PW X e t':=λwh pins s σ H Q I q=>h wh _ s σ H Q I (hm σ H Q q)
variable{e:List Expr}
theorem PA.con{t t':TA}(h:PA X e t)(hm:∀σ H Q,t' σ H Q->t σ H Q):PA X e t':=λpos pins s σ H Q I q=>h _ _ s σ H Q I (hm σ H Q q)
theorem PS.con{e:Stmt}{t t':TS}(h:PS X e t)(hm:∀D σ H,t' D σ H->t D σ H):PS X e t':=λpins s σ H D I q=>h _ s σ H D I (hm D σ H q)
theorem PSs.con{e:List Stmt}{t t':TS}(h:PSs X e t)(hm:∀D σ H,t' D σ H->t D σ H):PSs X e t':=λpins s σ H D I q=>h _ s σ H D I (hm D σ H q)
theorem PTs.con{t:TT}(h:PTs X e t)(hm:∀σ H Q,t' σ H Q->t σ H Q):PTs X e t':=λpins s σ H Q I q=>h _ s σ H Q I (hm σ H Q q)
variable{tg:Expr}
theorem PI.or{it:Expr}{w1 w2:TI}(h1:PI X tg it w1)(h2:PI X tg it w2):PI X tg it (λσ H R=>w1 σ H R\/w2 σ H R):=λpins s σ H R I q=>by
 rcases q with q|q
 .exact h1 _ s σ H R I q
 .exact h2 _ s σ H R I q
structure Mo where
 P:Program
 w:World
 K:KX
 mg:Str->Option Value
 base:Heap
 mkr:Option (Addr×Str)
def nK(ns:List (Str×NameKind))(x:Str):Bool:=match ns.lookup x with
 |some .local=>true
 |some .cell=>true
 |some .free=>true
 |_=>false
def ly(ns:List (Str×NameKind))(x:Str):Bool:=match ns.lookup x with
 |some .local=>true
 |some .cell=>true
 |_=>false
def eg(ns:List (Str×NameKind))(x:Str):Bool:=match ns.lookup x with
 |some .globalImplicit=>true
 |_=>false
structure Sc(M:Mo)(X:Cx)(k:Nat)(N:List Str)(ns:List (Str×NameKind)):Prop where
 hP:X.prog=M.P
 hw:X.w=M.w
 hK:X.K=M.K
 hm:X.mg=M.mg
 hb:X.base=M.base
 hN:X.N=N
 nd:N.Nodup
 calm:X.calm=true
 loc:∀y,ns.lookup y=some .local->X.env.scope.names.lookup y=some .local
 cel:∀y,ns.lookup y=some .cell->X.env.scope.names.lookup y=some .cell/\X.fn y=true
 fre:∀y,ns.lookup y=some .free->X.env.scope.names.lookup y=some .cell\/X.env.scope.names.lookup y=some .free
 glo:∀y,ns.lookup y=some .globalImplicit->X.env.scope.names.lookup y=some .globalImplicit
 room:kc k X.A
 own:PassesOwn (model X.prog X.w) X.A X.env X.xe
 cod:∀c q,M.mkr=some (c,q)->X.env.code=.ref c/\X.env.qual=q
section
variable {M:Mo}{X:Cx}{k:Nat}{N:List Str}{ns:List (Str×NameKind)}
theorem Sc.vis(S:Sc M X k N ns){x:Str}(h:nK ns x=true):Vis X.env.scope x:=by
 unfold nK at h
 split at h
 .rename_i e;exact .inl (S.loc x e)
 .rename_i e;exact .inr (.inl (S.cel x e).1)
 .rename_i e;exact .inr (S.fre x e)
 grind
theorem Sc.lo(S:Sc M X k N ns){x:Str}(h:ly ns x=true):Loc X.env.scope x/\(X.fn x=true\/X.env.scope.names.lookup x=some .local):=by
 unfold ly at h
 split at h
 .rename_i e;exact⟨.inl (S.loc x e),.inr (S.loc x e)⟩
 .rename_i e;exact⟨.inr (S.cel x e).1,.inl (S.cel x e).2⟩
 grind
theorem Sc.gl(S:Sc M X k N ns){x:Str}(h:eg ns x=true):Gl X x:=by
 unfold eg at h
 split at h
 .rename_i e;exact S.glo x e
 grind
variable {a b c e:Expr}{es:List Expr}{ma mb mc:ME}{mt:MT}{mas:MA}{pos p1 p2:Pos}{x:Str}
theorem Ir(S:Sc M X k N ns)(i:Nat)(hi:N[i]?=some x)(hv:nK ns x=true)(hd:(x==("__debug__":Str))=false)(Zs:(x==("__classdict__":Str))=false):PE X (.Name x pos) (tM M.K (ae i)):=
 PE.con (rK (by rw[S.hN];omega) (S.vis hv) hd Zs) λ_ _ _ h=>Mv h
theorem Nw{i:Int}{j}:PE X (.Constant (.int i) j pos) (tM M.K (mC (.int i))):=PE.con Li λ_ _ _ h=>r_c (λ_ _=>eW) h
theorem Pu{i:Bool}{j}:PE X (.Constant (.bool i) j pos) (tM M.K (mC (.bl i))):=PE.con Ow λ_ _ _ h=>r_c (λ_ _=>j6) h
theorem DK{j}:PE X (.Constant .none j pos) (tM M.K (mC .non)):=PE.con LM λ_ _ _ h=>r_c (λ_ _=>nA) h
theorem Kf{g:Value}(S:Sc M X k N ns)(hg:eg ns x=true)(hm:M.mg x=some g)(r:RelV v g)(hv :∀ H μ,RU H μ u v)(hd:(x==("__debug__":Str))=false):PE X (.Name x pos) (tM M.K (mC u)):=
 PE.con (Gj (S.gl hg) (by rw[S.hm];omega) r hd) λ_ _ _ h=>r_c hv h
theorem IA(S:Sc M X k N ns)(ha:PE X a (tM M.K ma))(hb:PE X b (tM M.K mb)):PE X (.BinOp a .Add b pos) (tM M.K (m2 dc ma mb)):=
 PE.con (uj (JC.or (OpR.or (S.hK▸HZ) (OpR.or (S.hK▸F7) JN))) ha hb) λ_ _ _ h=>we K3 h
theorem ND(ha:PE X a (tM M.K ma))(hb:PE X b (tM M.K mb)):PE X (.BinOp a .Sub b pos) (tM M.K (m2 rG ma mb)):=PE.con (uj Mb ha hb) λ_ _ _ h=>we KC h
theorem NB(S:Sc M X k N ns)(ha:PE X a (tM M.K ma))(hb:PE X b (tM M.K mb)):PE X (.BinOp a .Mult b pos) (tM M.K (m2 ig ma mb)):=PE.con (uj Lk ha hb) λ_ _ _ h=>we Md h
theorem NA(ha:PE X a (tM M.K ma))(hb:PE X b (tM M.K mb)):PE X (.BinOp a .FloorDiv b pos) (tM M.K (m2 oDiv ma mb)):=PE.con (uj GH ha hb) λ_ _ _ h=>we JJ h
theorem Ot(ha:PE X a (tM M.K ma))(hb:PE X b (tM M.K mb)):PE X (.BinOp a .Mod b pos) (tM M.K (m2 oMod ma mb)):=PE.con (uj Lz ha hb) λ_ _ _ h=>we La h
theorem Ng(ha:PE X a (tM M.K ma))(hb:PE X b (tM M.K mb)):PE X (.BinOp a .Pow b pos) (tM M.K (m2 yX ma mb)):=PE.con (uj Lr ha hb) λ_ _ _ h=>we K9 h
theorem Nz(ha:PE X a (tM M.K ma)):PE X (.UnaryOp .USub a pos) (tM M.K (m1 ot ma)):=PE.con (MZ LG ha) λ_ _ _ h=>PX Kj h
theorem PN(S:Sc M X k N ns)(ha:PE X a (tM M.K ma))(hb:PE X b (tM M.K mb))(hs:vV b):PE X (.Subscript a b pos) (tM M.K (m2 oIx ma mb)):=
 PE.con (IQ (IxR.or (S.hK▸Kw) (JB (by have:=S.room.units;omega))) ha hb hs) λ_ _ _ h=>we Pa h
theorem NI(hc:PT X c (tMT M.K mt))(ha:PE X a (tM M.K ma))(hb:PE X b (tM M.K mb)):PE X (.IfExp c a b pos) (tM M.K (wN mt ma mb)):=PE.con (CO hc ha hb) λ_ _ _ h=>Mz h
theorem AD:PA X [] (tMA M.K ai):=PA.con yS λ_ _ _ h=>Mk h
theorem lu(ha:PE X a (tM M.K ma))(hr:PA X es (tMA M.K mas))(hs:autoParam (starEach (a::es) X.env=(false,eval a X.env)::starEach es X.env) au1._auto_1):PA X (a::es) (tMA M.K (aa ma mas)):=
 PA.con (mL ha hr hs) λ_ _ _ h=>Lf h
theorem Na{x1}(h:PA X es (tMA M.K mas)):PE X (.Tuple es x1 pos) (tM M.K (gc mas)):=PE.con (L5 h) λ_ _ _ h=>O9 h
theorem EA(h:PA X es (tMA M.K mas)):PE X (.List es pos) (tM M.K (b9 mas)):=PE.con (KW h) λ_ _ _ h=>Nb h
variable{Vo:MT}
theorem MP(ha:PT X a (tMT M.K mt))(hb:PW X (.BoolOp .And (b::es) pos) (tMT M.K Vo)):PW X (.BoolOp .And (a::b::es) pos) (tMT M.K (wV mt Vo)):=PW.con (Lg ha hb) λ_ _ _ h=>Pd h
theorem PL(ha:PT X a (tMT M.K mt))(hb:PW X (.BoolOp .Or (b::es) pos) (tMT M.K Vo)):PW X (.BoolOp .Or (a::b::es) pos) (tMT M.K (cOr mt Vo)):=PW.con (NM ha hb) λ_ _ _ h=>P9 h
theorem JV(ha:PT X a (tMT M.K mt)):PW X (.BoolOp .And [a] pos) (tMT M.K mt):=H9 ha
theorem Mw(ha:PT X a (tMT M.K mt)):PW X (.BoolOp .Or [a] pos) (tMT M.K mt):=Jw ha
theorem Iu(ha:PT X a (tMT M.K mt)):PT X (.UnaryOp .Not a pos) (tMT M.K (yZ mt)):=PT.con (Le ha) λ_ _ _ h=>MH h
theorem Jl(ha:PE X a (tM M.K ma))(he:autoParam (∀whole,isTrue a X.env whole=(do let v <- whole;standAt a.pos;holding [v] (truthy v))) au3._auto_1):PT X a (tMT M.K (cOf ma)):=PT.con (Kl ha he) λ_ _ _ h=>PQ (λ_ q=>q) h
theorem DG(S:Sc M X k N ns)(hg:eg ns "len"=true)(hm:M.mg "len"=none)(ha:PA X (e::es) (tMA M.K mas))(he:autoParam (starEach (e::es) X.env=(false,eval e X.env)::starEach es X.env) au1._auto_1)(ZO:autoParam ((backTo pos (starEach es X.env)).any (·.1)=false) au1._auto_1) :
  PE X (.Call (.Name "len" p1) (e::es) [] pos) (tM M.K (mFn cR mas)):=
 PE.con (lL (iu.or (S.hK▸wk) B5) (S.gl hg) (by rw[S.hm];omega) PySem.boot_len ha (by decide) (by decide) he ZO) λ_ _ _ h=>zE Kg h
theorem GD(S:Sc M X k N ns)(hg:eg ns "tuple"=true)(hm:M.mg "tuple"=none)(ha:PA X (e::es) (tMA M.K mas))(he:autoParam (starEach (e::es) X.env=(false,eval e X.env)::starEach es X.env) au1._auto_1)(ZO:autoParam ((backTo pos (starEach es X.env)).any (·.1)=false) au1._auto_1) :
  PE X (.Call (.Name "tuple" p1) (e::es) [] pos) (tM M.K (mFn cu mas)):=
 PE.con (mQ (S.hK▸ud) (S.gl hg) (by rw[S.hm];omega) ug ha (by decide) (by decide) he ZO) λ_ _ _ h=>zE CW h
theorem O8(S:Sc M X k N ns)(hg:eg ns "max"=true)(hm:M.mg "max"=none)(ha:PA X (e::es) (tMA M.K mas))(he:autoParam (starEach (e::es) X.env=(false,eval e X.env)::starEach es X.env) au1._auto_1)(ZO:autoParam ((backTo pos (starEach es X.env)).any (·.1)=false) au1._auto_1) :
  PE X (.Call (.Name "max" p1) (e::es) [] pos) (tM M.K (mFn sy mas)):=
 PE.con (lL (By S.calm) (S.gl hg) (by rw[S.hm];omega) PyProof.Rows.boot_max ha (by decide) (by decide) he ZO) λ_ _ _ h=>zE Kx h
theorem Oa(S:Sc M X k N ns)(hg:eg ns "min"=true)(hm:M.mg "min"=none)(ha:PA X (e::es) (tMA M.K mas))(he:autoParam (starEach (e::es) X.env=(false,eval e X.env)::starEach es X.env) au1._auto_1)(ZO:autoParam ((backTo pos (starEach es X.env)).any (·.1)=false) au1._auto_1) :
  PE X (.Call (.Name "min" p1) (e::es) [] pos) (tM M.K (mFn nE mas)):=
 PE.con (lL (S.hK▸A5 S.calm (by have:=S.room.units;omega)) (S.gl hg) (by rw[S.hm];omega) PyProof.Rows.boot_min ha (by decide) (by decide) he ZO) λ_ _ _ h=>zE L4 h
structure Fn(M:Mo)(x:Str)(k:Nat)(ps:List Str)(m:MF):Prop where
 ex:∃(f:Addr) (fd:FuncData),M.mg x=some (.ref f)/\cg M.K (.ref f)=true/\Binds M.K fd ps []/\iY M.P M.w M.K M.mg M.base CX0 k f fd ps (spM M.K m)
variable{mf:MF}{ps:List Str}{k':Nat}
theorem Ls (S:Sc M X k N ns)(F:Fn M x k' ps mf)(hk:k'<=k)(hg:eg ns x=true)(ha:PA X (e::es) (tMA M.K mas))(hd:(x==("__debug__":Str))=false)(he:autoParam (starEach (e::es) X.env=(false,eval e X.env)::starEach es X.env) au1._auto_1)(ZO:autoParam ((backTo pos (starEach es X.env)).any (·.1)=false) au1._auto_1) :
  PE X (.Call (.Name x p1) (e::es) [] pos) (tM M.K (mFn mf mas)):=by
 obtain⟨f,fd,hm,Za,hb,F⟩:=F.ex;rw[<-S.hP,<-S.hw,<-S.hK,<-S.hm,<-S.hb]at F;rw[<-S.hm]at hm;rw[<-S.hK]at Za hb;exact PE.con (vH F (S.room.mono hk) (S.gl hg) hm Za hb .nil uM ha hd he ZO) λ_ _ _ h=>EM h
theorem HN (S:Sc M X k N ns)(F:Fn M x k' ps mf)(hk:k'<=k)(hg:eg ns x=true)(hd:(x==("__debug__":Str))=false) :
  PE X (.Call (.Name x p1) [] [] pos) (tM M.K (mFn mf ai)):=by
 obtain⟨f,fd,hm,Za,hb,F⟩:=F.ex;rw[<-S.hP,<-S.hw,<-S.hK,<-S.hm,<-S.hb]at F;rw[<-S.hm]at hm;rw[<-S.hK]at Za hb;refine PE.con (EZ F (S.room.mono hk) (S.gl hg) hm Za hb .nil uM hd) λσ H Q h=>?_;obtain⟨μ,S,G,u,S',hr,er,e,kk⟩:=h;exact⟨μ,S,[],u,S',hr,.nil,e,kk⟩
theorem wU(S:Sc M X k N ns)(ho:PE X a (tM M.K ma))(ha:PA X (e::es) (tMA M.K mas))(Zz:autoParam (attributeBase a "append" X.env (eval a X.env)=eval a X.env) au1._auto_1)
  (YK:autoParam (((backTo pos (starEach (e::es) X.env)).all (λx => !x.1)&&(backToKw pos (keywordEach [] X.env)).all (λx=>x.1.isSome)
   && decide ((e::es).length+([]:List Keyword).length+(if ([]:List Keyword).isEmpty then 0 else 1)<30))=true) au1._auto_1)
  (ZA:autoParam ((p1.endLine==pos.line)=true) au1._auto_1) (hs:autoParam (starEach (e::es) X.env=(false,eval e X.env)::starEach es X.env) au1._auto_1) (ZO:autoParam ((backTo pos (starEach es X.env)).any (·.1)=false) au1._auto_1):
  PE X (.Call (.Attribute a "append" p1) (e::es) [] pos) (tM M.K (mML bZ ma mas)):=by
 exact PE.con (zU fw yE yF Bm ho ha Zz YK ZA hs ZO) λ_ _ _ h=>S.hK▸LP Bb h
theorem HL(S:Sc M X k N ns)(ho:PE X a (tM M.K ma))(ha:PA X (e::es) (tMA M.K mas))(Zz:autoParam (attributeBase a "pop" X.env (eval a X.env)=eval a X.env) au1._auto_1)
  (YK:autoParam (((backTo pos (starEach (e::es) X.env)).all (λx => !x.1)&&(backToKw pos (keywordEach [] X.env)).all (λx=>x.1.isSome)
   && decide ((e::es).length+([]:List Keyword).length+(if ([]:List Keyword).isEmpty then 0 else 1)<30))=true) au1._auto_1)
  (ZA:autoParam ((p1.endLine==pos.line)=true) au1._auto_1) (hs:autoParam (starEach (e::es) X.env=(false,eval e X.env)::starEach es X.env) au1._auto_1) (ZO:autoParam ((backTo pos (starEach es X.env)).any (·.1)=false) au1._auto_1):
  PE X (.Call (.Attribute a "pop" p1) (e::es) [] pos) (tM M.K (mML lh ma mas)):=by
 exact PE.con (zU fw AY AZ EE ho ha Zz YK ZA hs ZO) λ_ _ _ h=>S.hK▸LP Dk h
theorem ML (S:Sc M X k N ns)(hg:eg ns "range"=true)(hm:M.mg "range"=none)(ha:PA X [a] (tMA M.K mas))(hs:autoParam (starEach [a] X.env=[(false,eval a X.env)]) au1._auto_1):PI X tg (.Call (.Name "range" p1) [a] [] pos) (wI (tMA M.K mas)):=
 Cd (S.gl hg) (by rw[S.hm];omega) ha hs
theorem M7 (S:Sc M X k N ns)(hg:eg ns "range"=true)(hm:M.mg "range"=none)(ha:PA X [a,b] (tMA M.K mas))(hs:autoParam (starEach [a,b] X.env=[(false,eval a X.env),(false,eval b X.env)]) au1._auto_1)(Zl:autoParam (starEach [b] X.env=[(false,eval b X.env)]) au1._auto_1):PI X tg (.Call (.Name "range" p1) [a,b] [] pos) (yh (tMA M.K mas)):=
 BF (S.gl hg) (by rw[S.hm];omega) ha hs Zl
theorem Lj(S:Sc M X k N ns)(ha:PE X a (tM M.K ma)):PI X tg a (λσ H R=>uy M.K (tM M.K ma) σ H R\/Bx M.K (tM M.K ma) σ H R):=by
 have h:=PI.or (FY (tg:=tg) ha) (LJ ha);rw[S.hK]at h;omega
def wc(N N':List Str)(ns names:List (Str×NameKind))(xs:List Str):Bool:=
 decide ((names.map (·.1)).Nodup)&&names.all (λy=>if y.2==.free then(match ns.lookup y.1 with |some .cell=>true |some .free=>true |_=>false) else true)&&xs.all (ly names)&&decide N'.Nodup &&
 (N'.length==N.length+xs.length)&&((ax xs.length).all λj=>N'[N.length+j]? == xs[j]?)&&(ax N.length).all λi=>match N'[i]? with
  |none=>true
  |some y=>if nK names y then N[i]? == some y&&names.lookup y==some .free else true
def mM(N N':List Str)(ns names:List (Str×NameKind))(x:Str):Bool:=wc N N' ns names [x]
variable{N' xs:List Str}{scope:Scope}
theorem zC(S:Sc M X k N ns)(hk:scope.kind=.function)(h:wc N N' ns scope.names xs=true):i5 X N' scope xs:=by
 unfold wc at h;simp only[aq]at h;obtain⟨⟨⟨⟨⟨⟨h1,h2⟩,h3⟩,h4⟩,h5⟩,h6⟩,h7⟩:=h;refine⟨hk,of_decide_eq_true h1,λy hy e=>?_,λx hx=>?_,of_decide_eq_true h4,?_,λj x hj=>?_,λi y hi e hv=>?_⟩
 .have:=d8.mp h2 y hy
  rw[if_pos (by rw[e];rfl)]at this
  split at this
  .rename_i q;exact .inl (S.cel _ q).1
  .rename_i q;exact S.fre _ q
  grind
 .have h3:=d8.mp h3 x hx
  unfold ly at h3
  split at h3<;>grind
 .rw[S.hN];exact eq_of_beq h5
 .have hl:=(ah.mp hj).1
  have:=d8.mp h6 j (aO.mpr hl);rw[S.hN,eq_of_beq this];omega
 .rw[S.hN]at hi ⊢
  have:=d8.mp h7 i (aO.mpr hi);rw[e]at this;have hvb:nK scope.names y=true:=by
   unfold nK;rcases hv with q|q|q<;>rw[q]
  grind
theorem uF(S:Sc M X k N ns)(hk:scope.kind=.function)(h:mM N N' ns scope.names x=true):i5 X N' scope [x]:=zC S hk h
theorem vq(S:Sc M X k N ns)(C:i5 X N' scope xs)(ZX:Shared)(ZW:Hp)(fp:List Addr):Sc M (blk X N' scope ZX ZW fp) k N' scope.names where
 hP:=S.hP
 hw:=S.hw
 hK:=S.hK
 hm:=S.hm
 hb:=S.hb
 hN:=rfl
 nd:=C.ndN
 calm:=S.calm
 loc:=λy h=>lookup_relabel_local h
 cel:=λy h=>⟨kH h,by show(scope.names.lookup y==some _)=true;rw[h];rfl⟩
 fre:=λy h=>ku h
 glo:=λy h=>oj h
 room:=S.room
 own:=k8
 cod:=S.cod
variable{iter:Expr}{wi:TI}{mi:MI}
theorem Dd{px:Pos}{elt:Expr}{ifs:List Expr}(S:Sc M X k N ns)(hk:scope.kind=.function)(ok:mM N N' ns scope.names x=true)(hi:PI X (.Name x px) iter wi)
  (ht:∀X',Sc M X' k N' scope.names->PTs X' ifs (tMT M.K mt)) (he:∀X',Sc M X' k N' scope.names->PE X' elt (tM M.K mc)) (hr:∀σ H Q,tM M.K (cy mi mt mc) σ H Q->pQ wi (tMT M.K mt) (tM M.K mc) σ H Q)
  (hs:autoParam (∀x,foldedSetIterable iter X.env x=pure x) au3._auto_1):PE X (.ListComp elt [⟨.Name x px,iter,ifs,0⟩] scope pos) (tM M.K (cy mi mt mc)):=by
 have C:=uF S hk ok;exact PE.con (Hh S.calm C hi (λZX ZW fp=>ht _ (vq S C _ _ fp)) (λZX ZW fp=>he _ (vq S C _ _ fp)) hs) hr
theorem LX:PTs X [] (tMT M.K cTT):=PTs.con He λσ H Q h=>by
 obtain⟨μ,S,G,b,S',hr,er,e,kk⟩:=h;cases e;exact kk μ H (Pre.refl _) (bq.refl _) hr
theorem Os(h:PT X c (tMT M.K mt)):PTs X [c] (tMT M.K mt):=Hy h
variable {st:Stmt}{sts:List Stmt}{ms Vt:MS}
theorem Il:PSs X [] (tMS M.K dF):=PSs.con Gf λ_ _ _ h=>Da h
theorem xY(h1:PS X st (tMS M.K ms))(h2:PSs X sts (tMS M.K Vt)):PSs X (st::sts) (tMS M.K (bh ms Vt)):=PSs.con (lK h1 h2) λ_ _ _ h=>Nq h
theorem DQ(h1:PS X st (tMS M.K ms)):PSs X [st] (tMS M.K ms):=z0 h1
theorem yb(S:Sc M X k N ns)(i:Nat)(hi:N[i]?=some x)(ho:ly ns x=true)(he:PE X e (tM M.K ma))(hs:autoParam (swapsWith e (some (.Name x p1)) pos.line X.env=pure false) au1._auto_1):PS X (.Assign [.Name x p1] e pos) (tMS M.K (bD i ma)):=
 PS.con (zb (by rw[S.hN];exact S.nd) (by rw[S.hN];omega) (S.lo ho).1 he hs (S.lo ho).2) λ_ _ _ h=>Jt h
theorem Hl(S:Sc M X k N ns)(ho:PE X a (tM M.K ma))(hi:PE X b (tM M.K mb))(he:PE X e (tM M.K mc))(hs:autoParam (swapsWithSole [.Subscript a b p1] e pos.line X.env=pure false) au1._auto_1)(hw:autoParam (swappedStores [.Subscript a b p1] e X.env=pure none) au1._auto_1)
  (h1:autoParam ((assignEach [.Subscript a b p1] X.env).map (·.2)=[assign (.Subscript a b p1) X.env]) au1._auto_1)
  (UE:autoParam (∀v,assign (.Subscript a b p1) X.env v=(do
   let ov <- holding [v] (eval a X.env)
   let iv <- holding [v,ov] (eval b X.env)
   standAt p1
   holding [v,ov,iv] (setItem ov iv v)
   release [v,ov,iv] [])) au3._auto_1):PS X (.Assign [.Subscript a b p1] e pos) (tMS M.K (eU ma mb mc)):=
 PS.con (LK he (Ko ho hi (GN (by have:=S.room.units;omega)) UE) hs hw h1) λ_ _ _ h=>Hr h
theorem CM(he:PE X e (tM M.K ma))(hs:autoParam (swapsWith e none pos.line X.env=pure false) au1._auto_1):PS X (.Expr e pos) (tMS M.K (d7 ma)):=PS.con (AH he hs) λ_ _ _ h=>LA h
theorem IY(he:PE X e (tM M.K ma)):PS X (.Return (some e) pos) (tMS M.K (dS ma)):=PS.con (E7 he) λ_ _ _ h=>OK h
theorem NZ{Wf:List Stmt}(hc:PT X c (tMT M.K mt))(ha:PSs X sts (tMS M.K ms))(hb:PSs X Wf (tMS M.K Vt)):PS X (.If c sts Wf pos) (tMS M.K (sIf mt ms Vt)):=PS.con (Jf hc ha hb) λ_ _ _ h=>PC h
theorem OR(S:Sc M X k N ns)(i:Nat)(hi:N[i]?=some x)(ho:ly ns x=true)(hit:PI X (.Name x p1) iter wi)(hb:PSs X sts (tMS M.K ms))(hr:∀D σ H,tMS M.K (fB i mi ms) D σ H->tZ wi (jM i) (tMS M.K ms) D σ H)
  (hs:autoParam (∀x,foldedSetIterable iter X.env x=pure x) au3._auto_1):PS X (.For (.Name x p1) iter sts [] pos) (tMS M.K (fB i mi ms)):=
 PS.con (Dm S.own S.calm hit (AC (by rw[S.hN];exact S.nd) (by rw[S.hN];omega) (S.lo ho).1 (S.lo ho).2) hb hs) hr
theorem Ht(S:Sc M X k N ns)(hc:PT X c (tMT M.K mt))(hb:PSs X sts (tMS M.K ms)):PS X (.While c sts [] pos) (tMS M.K (jR mt ms)):=PS.con (Do S.own hc hb) λ_ _ _ h=>F5 h
end
variable{A:Around}{f:Addr}{N:List Str}{qual:Str}{s:Shared}
theorem Sc.def{M:Mo}{ps:List Str}{scope:Scope}{cdv:Value}{outer:List Env}{E:XK}{k:Nat}(S:bw N ps scope)(hr:kc k (A.deeper (envOfC qual scope s.heap.objs.size f cdv)))(h0 :∀ c q,M.mkr=some (c,q)->cdv=.ref c/\qual++".<locals>."=q) :
  Sc M (rN CX0 M.P M.w M.K M.mg M.base N qual scope f cdv A outer s H E).nox k N scope.names:=
 ⟨rfl,rfl,rfl,rfl,rfl,rfl,S.nd,rfl,λ_ h=>h,λ_ h=>⟨h,rfl⟩,λ_ h=>.inr h,λ_ h=>h,hr,k8,h0⟩
theorem mn{us:List U}{vs:List V}(r:RUs H μ us vs):ER H μ (us.map some++cp (N.length-us.length) none) (_L.start N vs):=by
 unfold _L.start;refine⟨by simp[r.len],λi u h=>?_⟩;by_cases hi:i<us.length
 .rw[aS (by simpa using hi),ba]at h
  cases e:us[i]? with
  |none=>rw[e]at h;cases h
  | some w=>
    rw[e]at h;cases h;obtain⟨v,hv,rv⟩:=r.get e;refine⟨v,?_,rv⟩;rw[aS (by simpa [<-r.len]using hi),ba,hv];rfl
 .rw[br (by simpa using hi)]at h
  rw[iE]at h
  simp_all
theorem Je{M:Mo}(h0:M.mkr=none){x:Str}{st:Stmt}{fd:FuncData}{ps:List Str}{k:Nat}{ms:MS}(F:Fun M.K x qual st f fd)(S:bw N ps (az st))
  (hb:∀X,Sc M X k N (az st).names->PSs X (bV st) (tMS M.K ms)):iY M.P M.w M.K M.mg M.base CX0 (k+1) f fd ps (spM M.K (run ps.length N.length ms)):=by
 refine F.ok S (λvs H Q E h=>?_) λcdv A outer s H vs Q E hr h=>⟨_,hb _ (Sc.def S hr λc q h=>by grind),?_⟩
 .obtain⟨μ,S',us,u,YO,hr,rs,e,_⟩:=h
  unfold run at e
  split at e
  .rw[<-rs.len];omega
  .cases e
 .obtain⟨μ,S1,us,u,S2,hr,rs,e,ka⟩:=h
  unfold run at e
  split at e
  .rename_i hl
   have er:=mn (N:=N) rs;rw[hl]at er
   split at e
   .rename_i w Y4 S3 q
    cases e;exact⟨μ,S1,_,_,hr,er,q,ka⟩
   .rename_i Y4 S3 q
    cases e;exact⟨μ,S1,_,_,hr,er,q,λY6 Y3 H' p' k' Zd Qw=>ka _ _ H' p' k' Zd nA⟩
   .cases e
  .cases e
mutual
inductive pK(K:aj)(H:Hp):V->PyData->Prop where
 |non:pK K H .non .none
 |bl (b:Bool):pK K H (.bl b) (.bool b)
 |int (i:Int):pK K H (.int i) (.int i)
 |str (x:Str):pK K H (.str x) (.str x)
 |tup {a:Addr}{vs:List V}{ds:List PyData}:SqT K H a vs->kU K H vs ds->pK K H (.ref a) (.tuple ds)
 |lst {a:Addr}{vs:List V}{ds:List PyData}:SqL K H a vs->kU K H vs ds->pK K H (.ref a) (.list ds)
inductive kU(K:aj)(H:Hp):List V->List PyData->Prop where
 |nil:kU K H [] []
 |cons {v:V}{vs:List V}{d:PyData}{ds:List PyData}:pK K H v d->kU K H vs ds->kU K H (v::vs) (d::ds)
end
section
variable {X:Cx}{pins:List (Addr×Obj)}{σ:St}{H:Hp}{s:Shared}
mutual
theorem pK.reads(I:Inv X pins σ H s):∀{v:V}{d:PyData}{w:Value},pK X.K H v d->RelV v w->∃as,Reads s.heap w d as
 |_,_,_,.non,r=>⟨[],by cases (show _=cN from r);exact .none⟩
 |_,_,_,.bl b,r=>⟨[],by cases (show _=Value.bool b from r);exact .bool b⟩
 | _,_,_,.int i,r=>by
   obtain⟨t,e⟩:=(show ∃t,_=AS i t from r);subst e;exact⟨[],.int i t⟩
 | _,_,_,.str x,r=>by
   obtain⟨t,e⟩:=(show ∃t,_=Value.str x t from r);subst e;exact⟨[],.str x t⟩
 | _,_,_,.tup (a:=a) h rs,r=>by
   cases (show _=bW a from r);obtain⟨ZY,rv,⟨o,e,c,n,dt⟩,_⟩:=I.tuple h;obtain⟨as,q⟩:=kU.reads I rs rv;exact⟨as,.tuple e c dt q⟩
 | _,_,_,.lst (a:=a) h rs,r=>by
   cases (show _=bW a from r);obtain⟨ZY,rv,⟨o,n,e,c,dd,dt⟩,_⟩:=I.list h;obtain⟨as,q⟩:=kU.reads I rs rv;exact⟨a::as,.list e c dt q⟩
theorem kU.reads(I:Inv X pins σ H s):∀{vs:List V}{ds:List PyData}{ws:List Value},kU X.K H vs ds->cK vs ws->∃as,ReadsAll s.heap ws ds as
 |_,_,_,.nil,r=>by cases r;exact⟨[],.nil⟩
 | _,_,_,.cons h rs,r=>by
   cases r with
   | cons r1 r2=>
     obtain⟨as,q⟩:=pK.reads I h r1;obtain⟨bs,q'⟩:=kU.reads I rs r2;exact⟨as++bs,.cons q q'⟩
end
end
theorem oP{α β:Type}{f:α->Option β}{P:α->β->Prop}(hf:∀x y,f x=some y->P x y):∀{xs:List α}{ys:List β},cZ f xs=some ys->Paired P xs ys
 |[],ys,h=>by cases h;exact .nil
 | x::xs,ys,h=>by
   unfold cZ at h;cases e:f x with
   |none=>grind
   | some y=>
     rw[e]at h;cases e2:cZ f xs with
     |none=>simp_all
     | some zs=>
       rw[e2]at h;cases h;exact .cons (hf x y e) (oP hf e2)
theorem qA{f:Nat}:∀{us:List U}{ds:List PyData},Paired (λ(_:U) (d:PyData)=>d.canLay0=true/\d.depth<=f) us ds->kO ds=true/\mY ds<=f
 |_,_,.nil=>⟨by simp[kO],by simp[mY]⟩
 | _,_,.cons h t=>by
   obtain⟨a,b⟩:=qA t;exact⟨by simp[kO,h.1,a],by exact Nat.max_le.mpr ⟨h.2,b⟩⟩
section
variable {K:KX}{H:Hp}{μ:List Addr}{S:Sto}
theorem qC{f:Nat}(hr:HR K μ S H)(ih:∀(u:U) (d:PyData),toD S f u=some d->∀v,RU H μ u v->pK K H v d):∀{us:List U}{ds:List PyData},cZ (toD S f) us=some ds->∀{vs:List V},RUs H μ us vs->kU K H vs ds
 |[],ds,h,vs,r=>by cases h;rw[r.nil_inv];exact .nil
 | u::us,ds,h,vs,r=>by
   unfold cZ at h;cases e:toD S f u with
   |none=>grind
   | some y=>
     rw[e]at h;cases e2:cZ _ us with
     |none=>rw[e2]at h;cases h
     | some zs=>
       rw[e2]at h;cases h;obtain⟨v,r',rfl,a,b⟩:=r.inv;exact .cons (ih u y e v a) (qC hr ih e2 b)
theorem qw(hr:HR K μ S H):∀(f:Nat) (u:U) (d:PyData),toD S f u=some d->∀v,RU H μ u v->pK K H v d
 |0,u,d,h,v,r=>by cases u<;>cases h
 |f+1,.non,d,h,v,r=>by cases h;rw[show v=.non by simpa only [RU]using r];exact .non
 |f+1,.bl b,d,h,v,r=>by cases h;rw[kR r];exact .bl b
 |f+1,.int i,d,h,v,r=>by cases h;rw[dq r];exact .int i
 | f+1,.str x,d,h,v,r=>by
   unfold toD at h
   split at h
   .cases h;rw[show v=.str x by simpa only [RU]using r];exact .str x
   grind
 | f+1,.tup us,d,h,v,r=>by
   unfold toD at h;cases e:cZ _ us with
   |none=>rw[e]at h;cases h
   | some ds=>
     rw[e]at h;cases h;obtain⟨a,vs,rfl,ha,rs⟩:=hZ r;exact .tup (.inl (.inl ha)) (qC hr (qw hr f) e rs)
 | f+1,.ref n,d,h,v,r=>by
   unfold toD at h;cases e0:getL S n with
   |none=>grind
   | some us=>
     rw[e0]at h;simp only[aG]at h;cases e:cZ _ us with
     |none=>rw[e]at h;cases h
     | some ds=>
       rw[e]at h;cases h;obtain⟨a,rfl,ha⟩:=fT r;obtain⟨a',vs,Zk,hs,rs⟩:=hr.sq e0;rw[ha]at Zk;cases Zk;exact .lst hs (qC hr (qw hr f) e rs)
 |f+1,.obj a,d,h,v,r=>by cases h
end
theorem qB(S:Sto):∀(f:Nat) (u:U) (d:PyData),toD S f u=some d->d.canLay0=true/\d.depth<=f
 |0,u,d,h=>by cases u<;>cases h
 |f+1,.non,d,h=>by cases h;exact⟨by simp[iO],by simp[qL]⟩
 |f+1,.bl b,d,h=>by cases h;exact⟨by simp[iO],by simp[qL]⟩
 |f+1,.int i,d,h=>by cases h;exact⟨by simp[iO],by simp[qL]⟩
 | f+1,.str x,d,h=>by
   unfold toD at h
   split at h
   .rename_i q;cases h;exact⟨q,by simp[qL]⟩
   grind
 | f+1,.tup us,d,h=>by
   unfold toD at h;cases e:cZ _ us with
   |none=>rw[e]at h;cases h
   | some ds=>
     rw[e]at h;cases h;obtain⟨a,b⟩:=qA (oP (λx y q=>qB S f x y q) e);exact⟨by simpa [iO]using a,by exact Nat.lt_succ_of_le (by omega)⟩
 | f+1,.ref n,d,h=>by
   unfold toD at h;cases e0:getL S n with
   |none=>simp_all
   | some us=>
     rw[e0]at h;simp only[aG]at h;cases e:cZ _ us with
     |none=>rw[e]at h;cases h
     | some ds=>
       rw[e]at h;cases h;obtain⟨a,b⟩:=qA (oP (λx y q=>qB S f x y q) e);exact⟨by simpa [iO]using a,by exact Nat.lt_succ_of_le (by omega)⟩
 |f+1,.obj a,d,h=>by cases h
def sM(K:aj)(H:Hp)(v:V)(d:PyData):Prop:=pK K H v d/\d.canLay0=true/\d.depth<=40
def Nc(K:aj):R2:=λx y H Q=>∃a b,sM K H x a/\sM K H y b/\Q (.bl (mS a b)) H
def OG(K:aj):R2:=λx y H Q=>∃a b,sM K H x a/\sM K H y b/\Q (.bl (!mS a b)) H
variable{d:PyData}
theorem mO{K:aj}(h:sM K H v d):SeqAt.shaped d=true:=by
 unfold SeqAt.shaped;rw[h.2.1,decide_eq_true (aH h.2.2 (by decide))];rfl
section
variable {X:Cx}
theorem JW(hu:X.A.units+64<cLine):OpR X (compareOp .Eq) (Nc X.K):=by
 intro pins s σ H x y v u Q I rx ry h;obtain⟨a,b,ha,hb,q⟩:=h;obtain⟨as,r1⟩:=ha.1.reads I rx;obtain⟨bs,r2⟩:=hb.1.reads I ry;exact SeqAt.compareEq_shaped r1 r2 (mO ha) (mO hb) hu ⟨.bl _,H,I,rfl,q⟩
theorem L6(hu:X.A.units+64<cLine):OpR X (compareOp .NotEq) (OG X.K):=by
 intro pins s σ H x y v u Q I rx ry h;obtain⟨a,b,ha,hb,q⟩:=h;obtain⟨as,r1⟩:=ha.1.reads I rx;obtain⟨bs,r2⟩:=hb.1.reads I ry;exact SeqAt.compareNe_shaped r1 r2 (mO ha) (mO hb) hu ⟨.bl _,H,I,rfl,q⟩
end
section
variable {K:KX}{μ:List Addr}{S:Sto}{H:Hp}
theorem yx(hr:HR K μ S H)(r:RU H μ u v)(h:toD S 40 u=some d):sM K H v d:=⟨qw hr 40 u d h v r,qB S 40 u d h⟩
theorem zY{x y:U}{b:Bool}(h:eqU S x y=some b):∃a c,toD S 40 x=some a/\toD S 40 y=some c/\b=mS a c:=by
 unfold eqU at h;cases e1:toD S 40 x with
 |none=>simp_all
 | some a=>
   cases e2:toD S 40 y<;>grind
theorem M8:OpU K (Nc K) oEq:=by
 intro μ S H x y vx vy u S' Q hr rx ry e a;unfold oEq at e;cases q:eqU S x y with
 |none=>rw[q]at e;cases e
 | some b=>
   rw[q]at e;cases e;obtain⟨d1,d2,e1,e2,rfl⟩:=zY q;exact⟨d1,d2,yx hr rx e1,yx hr ry e2,a.now hr j6⟩
theorem O4:OpU K (OG K) oNe:=by
 intro μ S H x y vx vy u S' Q hr rx ry e a;unfold oNe at e;cases q:eqU S x y with
 |none=>rw[q]at e;cases e
 | some b=>
   rw[q]at e;cases e;obtain⟨d1,d2,e1,e2,rfl⟩:=zY q;exact⟨d1,d2,yx hr rx e1,yx hr ry e2,a.now hr j6⟩
end
section
variable {K:KX}{σ:St}{H:Hp}{Q:VK}
end
section
variable {M:Mo}{X:Cx}{k:Nat}{N:List Str}{ns:List (Str×NameKind)}{a b c e:Expr}{es:List Expr}{ma mb mc:ME}{mt:MT}{mas:MA}{pos p1 p2:Pos}{x:Str}
inductive vI(M:Mo)(X:Cx):Option Expr->Option ME->Prop where
 |none:vI M X .none .none
 |some {e:Expr}{m:ME}:PE X e (tM M.K m)->vI M X (.some e) (.some m)
end
def LQ(a b:ME):ME:=λG S=>bnd (a G S) λx S1=>match x with
 |.bl true=>b G S1
 |.bl false=>some (.bl false,S1)
 |_=>none
def mOr(a b:ME):ME:=λG S=>bnd (a G S) λx S1=>match x with
 |.bl true=>some (.bl true,S1)
 |.bl false=>b G S1
 |_=>none
def Hg:U->Sto->Res U:=λx S=>match x with
 |.bl b=>some (.bl (!b),S)
 |_=>none
section
variable {K:KX}{σ:St}{H:Hp}{Q:VK}
theorem JQ{a b:ME}(h:tM K (LQ a b) σ H Q):Jq (tM K a) (tM K b) σ H Q:=by
 obtain⟨μ,S,G,u,S',hr,er,e,k⟩:=h;obtain⟨x,S1,e1,e⟩:=bu e;refine⟨μ,S,G,x,S1,hr,er,e1,λY0 vx H1 p1 k1 ZZ rx=>?_⟩
 split at e
 .exact⟨_,kR rx,sZ ⟨_,S1,G,u,S',ZZ,er.mono k1 p1,e,k.mono p1 k1⟩⟩
 .cases e
  exact⟨_,kR rx,qN (k _ _ H1 p1 k1 ZZ j6)⟩
 .cases e
theorem OQ{a b:ME}(h:tM K (mOr a b) σ H Q):Og (tM K a) (tM K b) σ H Q:=by
 obtain⟨μ,S,G,u,S',hr,er,e,k⟩:=h;obtain⟨x,S1,e1,e⟩:=bu e;refine⟨μ,S,G,x,S1,hr,er,e1,λY0 vx H1 p1 k1 ZZ rx=>?_⟩
 split at e
 .cases e
  exact⟨_,kR rx,sZ (k _ _ H1 p1 k1 ZZ j6)⟩
 .exact⟨_,kR rx,qN ⟨_,S1,G,u,S',ZZ,er.mono k1 p1,e,k.mono p1 k1⟩⟩
 .cases e
theorem KO{a:ME}(h:tM K (m1 Hg a) σ H Q):IR (tM K a) σ H Q:=by
 obtain⟨μ,S,G,u,S',hr,er,e,k⟩:=h;obtain⟨x,S1,e1,e⟩:=bu e;refine⟨μ,S,G,x,S1,hr,er,e1,λY0 vx H1 p1 k1 ZZ rx=>?_⟩;unfold Hg at e
 split at e
 .cases e
  exact⟨_,kR rx,k _ _ H1 p1 k1 ZZ j6⟩
 .cases e
end
section
variable {X:Cx}{a b:Expr}{ta:TA}{p pos:Pos}
def Jm(ta:TA):TE:=λσ H Q=>ta σ H λvs H1=>∃j:Int,vs=[.int j] /\ -(2^62)<=j/\j<2^62 /\ ∀r,H1 r=none->Q (.ref r) (upd H1 r (.rng 0 j))
def IT(ta:TA):TE:=λσ H Q=>ta σ H λvs H1=>∃i j:Int,vs=[.int i,.int j]/\(-(2^62)<=i/\i<2^62 /\ -(2^62)<=j/\j<2^62) /\ ∀r,H1 r=none->Q (.ref r) (upd H1 r (.rng i j))
theorem wW{pins:List (Addr×Obj)}{lo hi:Int}{t u v:Tok}{tk:Nat}(I:Inv X pins σ H s)(q:∀r,H r=none->Q (.ref r) (upd H r (.rng lo hi))):
  EP X pins σ Q (.ref s.heap.objs.size) { s with heap:=s.heap.push { cls := .type "range",data := .fields #[.int lo t,.int hi u,.int 1 v] },toks:=tk }:=by
 refine⟨.ref _,_,I.laid (λb ob q=>af _ q) (ao _) ?_,rfl,q _ (I.hok.fresh (ao _))⟩;exact⟨t,u,v,ay _ rfl⟩
theorem Hv(hg:Gl X "range")(hm:X.mg "range"=none)(ha:PA X [a] ta)(hs:autoParam (starEach [a] X.env=[(false,eval a X.env)]) au1._auto_1):PE X (.Call (.Name "range" p) [a] [] pos) (Jm ta):=by
 intro pins s σ H Q I h;refine Call_ (kG I hg hm boot_range (dm (thn (ha _ _ s σ H _ I h) λus s1 ⟨vs,H1,I1,r1,q1⟩=>?_) (by rw[hs];rfl) rfl));obtain⟨j,e,q1,q2,q⟩:=q1;subst e;cases r1 with
 | cons r rr=>
   cases rr;obtain⟨t,rfl⟩:=r;exact call_range_1 (wW I1 q)
theorem GG(hg:Gl X "range")(hm:X.mg "range"=none)(ha:PA X [a,b] ta)(hs:autoParam (starEach [a,b] X.env=[(false,eval a X.env),(false,eval b X.env)]) au1._auto_1)(Zl:autoParam (starEach [b] X.env=[(false,eval b X.env)]) au1._auto_1) :
  PE X (.Call (.Name "range" p) [a,b] [] pos) (IT ta):=by
 intro pins s σ H Q I h;refine Call_ (kG I hg hm boot_range (dm (thn (ha _ _ s σ H _ I h) λus s1 ⟨vs,H1,I1,r1,q1⟩=>?_) (by rw[hs,Zl]) (by rw[Zl];rfl)));obtain⟨i,j,e,⟨q1,q2,q3,q4⟩,q⟩:=q1;subst e;cases r1 with
 | cons r rr=>
   cases rr with
   | cons r' rr=>
     cases rr;obtain⟨t,rfl⟩:=r;obtain⟨t',rfl⟩:=r';exact call_range_2 (wW I1 q)
theorem vB:∀{xs:List V}{us:List Value},xs.length=us.length->(∀(i:Nat) (x:V) (u:Value),xs[i]?=some x->us[i]?=some u->RelV x u)->cK xs us
 |[],[],_,_=>.nil
 |[],_::_,h,_=>by simp at h
 |_::_,[],h,_=>by simp at h
 |x::xs,u::us,h,k=>.cons (k 0 x u rfl rfl) (vB (by simpa using h) λi y w h1 h2=>k (i+1) y w (by simpa using h1) (by simpa using h2))
def mW(i:Int)(n:Nat):List V:=(ax n).map λ(k:Nat)=>.int (i+k)
theorem ub(hc:X.calm=true):iu X (.type "list") (fun xs H Q=>∃ r lo hi,xs=[.ref r]/\H r=some (.rng lo hi)/\(-(2^62)<=lo/\lo<2^62 /\ -(2^62)<=hi/\hi<2^62)/\(hi-lo).toNat<=sizeLine /\ ∀ l,H l=none->Q (.ref l) (upd H l (.lst (mW lo (hi-lo).toNat)))):=by
 intro pins s σ H xs us Q I rs h;obtain⟨r,lo,hi,rfl,hr,⟨h1,h2,h3,h4⟩,hz,q⟩:=h;cases rs with
 | cons r1 rr=>
   cases rr;cases (r1);obtain⟨t,u,v,e⟩:=I.hok r _ hr;have hn:dZ lo hi 1=((hi-lo).toNat):=by rw[rangeSize_one];grind
   refine call_list_range (I.ok.hd hc) e (small_one h1 h2 h3 h4) hn (by exact hz) λh' tk acc c' hk hl ZJ=>?_;obtain⟨ZG,hit⟩:=ZJ;refine⟨.ref _,_,I.laid hk (ao _) ?_,rfl,q _ (I.hok.fresh (ao _))⟩;refine⟨by rw[mW,ar,be];omega,_,c',?_,by omega⟩;refine vB (by rw[mW,ar,be,bX,ZG]) λi x w h5 h6=>?_;have ZU:=by
    have:=(ah.mp h5).1;rwa[mW,ar,be]at this
   have hx:(mW lo (hi-lo).toNat)[i]?=some (.int (lo+i)):=by simp[mW,ZU]
   rw[hx]at h5;cases h5;obtain⟨t',e'⟩:=hit i w (by simpa using h6);exact⟨t',by rw[e'];simp⟩
end
theorem zV(i:Int)(n:Nat):RUs H μ (bx i n) (mW i n):=by
 unfold bx mW
 induction n with
 |zero=>simpa using RUs.nil
 |succ n ih=>rw[ir,bS,bS];exact ih.append (.cons eW .nil)
section
variable {K:KX}{σ:St}{H:Hp}{Q:VK}
def rLR:List V->Hp->VK->Prop:=λxs H Q=>∃r lo hi,xs=[.ref r]/\H r=some (.rng lo hi)/\(-(2^62)<=lo/\lo<2^62 /\ -(2^62)<=hi/\hi<2^62)/\(hi-lo).toNat<=sizeLine /\ ∀l,H l=none->Q (.ref l) (upd H l (.lst (mW lo (hi-lo).toNat)))
theorem HR.rng{μ:List Addr}{S:Sto}{p:Addr}{i j:Int}(h:HR K μ S H)(hp:H p=none):HR K μ S (upd H p (.rng i j)):=by
 have kp:bq H (upd H p (.rng i j)):=bq.new hp;refine⟨h.len,h.inj,λm c b q1 q2=>(h.cell m c b q1 q2).mono kp (Pre.refl _) (λhc=>?_) λo u hf=>?_,h.ext.upd kp (Pre.refl _) λo1 q=>by grind⟩
 .obtain⟨o,e,_⟩:=(h.cell m _ b q1 q2).has hc
  exact aX (aW e hp)
 .rw[aX (aW hf hp)];omega
theorem Hb{S1:Sto}{i j:Int}{r:Addr}(ZZ:HR K μ S1 H)(ho:okR i/\okR j)(hz:(bx i (j-i).toNat).length<=big)(k:Aft K μ H (.ref S1.length) (S1++[.lst (bx i (j-i).toNat)]) Q)(XQ:H r=none):rLR [.ref r] (upd H r (.rng i j)) Q:=by
 refine⟨r,i,j,rfl,cb,⟨ho.1.1,ho.1.2,ho.2.1,ho.2.2⟩,?_,λl hl=>?_⟩
 .unfold bx big at hz;rw[ar,be]at hz;exact hz
 .exact ko (k.mono (Pre.refl _) (bq.new XQ)) (ZZ.rng XQ) (zV _ _) hl
theorem E6{a:MA}(h:tM K (kI (iR2 a)) σ H Q):tCB rLR (AI (IT (tMA K a)) DZ) σ H Q:=by
 obtain⟨μ,S,G,u,S',hr,er,e,k⟩:=h;obtain⟨src,S1,e1,e⟩:=bu e;obtain⟨xs,S2,e2,e1⟩:=bu e1;refine⟨μ,S,G,xs,S2,hr,er,e2,λY0 vs H1 p1 k1 ZZ rs=>?_⟩
 split at e1
 .rename_i i j
  split at e1
  .rename_i hj
   cases e1;simp only at e
   split at e
   .rename_i hz
    cases e;obtain⟨v,r,rfl,rx,rs⟩:=rs.inv;obtain⟨w,r,rfl,ry,rn⟩:=rs.inv;rw[rn.nil_inv,dq rx,dq ry];exact⟨i,j,rfl,⟨hj.1.1,hj.1.2,hj.2.1,hj.2.2⟩,λr XQ=>Hb ZZ hj hz (k.mono p1 k1) XQ⟩
   .cases e
  .cases e1
 .cases e1
end
def DF(S:Sto)(x:U)(us:List U):Option Nat:=(cZ (toD S 39) us).bind λds=>(toD S 40 x).bind λd=>ds.findIdx? λy=>mS y d
def jK:List U->List U->Sto->Res U:=λus xs S=>match xs with
 |[x]=>(DF S x us).map λk=>(.int k,S)
 |_=>none
def Nt(K:aj)(to:TE)(t:TA):TE:=λσ H Q=>to σ H λx H1=>(∃p ys,x=.ref p/\H1 p=some (.tup ys))/\t σ H1 λxs H2=>∃p ys v ds d j,x=.ref p/\xs=[v]/\H2 p=some (.tup ys) /\
 kU K H2 ys ds/\kO ds=true/\mY ds<=40/\sM K H2 v d/\ds.findIdx? (λy=>mS y d)=some j/\Q (.int j) H2
theorem Ez{o e:Expr}{es:List Expr}{to:TE}{t:TA}{apos cpos:Pos}(hu:X.A.units+64<cLine)(ho:PE X o to)(ha:PA X (e::es) t)
  (Zz:autoParam (attributeBase o "index" X.env (eval o X.env)=eval o X.env) au1._auto_1)
  (YK:autoParam (((backTo cpos (starEach (e::es) X.env)).all (λx => !x.1)&&(backToKw cpos (keywordEach [] X.env)).all (λx=>x.1.isSome)
   && decide ((e::es).length+([]:List Keyword).length+(if ([]:List Keyword).isEmpty then 0 else 1)<30))=true) au1._auto_1)
  (ZA:autoParam ((apos.endLine==cpos.line)=true) au1._auto_1) (hs:autoParam (starEach (e::es) X.env=(false,eval e X.env)::starEach es X.env) au1._auto_1) (YH:autoParam ((backTo cpos (starEach es X.env)).any (·.1)=false) au1._auto_1):
  PE X (.Call (.Attribute o "index" apos) (e::es) [] cpos) (Nt X.K to t):=by
 intro pins s σ H Q I h;refine wpAny_Call_method_late Zz YK ZA rfl (thn (ho pins s σ H _ I h) λv s1 ⟨x,H1,I1,r1,⟨p,ys,hx,hp⟩,q1⟩=>?_);subst hx;cases (r1);obtain⟨_,ZY,rv,⟨o1,e1,c1,n1,d1⟩,o2,e2,c2⟩:=I1.hok p _ hp;refine⟨"tuple",_,PySem.F.plainAttrs_tuple,yG,PySem.F.type_tuple_index,⟨o1,e1,c1⟩,fun a ea=>by cases ea;exact⟨o2,e2,c2⟩,?_⟩;have hA:=ha cpos pins s1 σ H1 _ I1 q1;rw[hs]at hA ⊢;refine mX (by show(false||(backTo cpos _).any (·.1))=false;rw[YH]<;>rfl) (jy ?_);refine thn hA λus s2 ⟨vs,H2,I2,r2,q2⟩=>?_;obtain⟨p',ys',v',ds,d,j,hx,R3,Zr,rd,hl,hdp,hd,hj,q⟩:=q2;cases hx;subst R3;cases r2 with
 | cons ra rr=>
   cases rr;obtain⟨_,ZM,XB,⟨⟨cls,dd,data,sl⟩,e3,c3,n3,d3⟩,_⟩:=I2.hok p _ Zr;subst c3 d3;obtain⟨as,UK⟩:=rd.reads I2 XB;obtain⟨bs,QC⟩:=hd.1.reads I2 ra;have hlen:=SeqAt.ReadsAll.length _ _ _ UK;have U9:j<ds.length:=by
    obtain⟨h1,_⟩:=ff.mp hj;exact h1
   have U8:=SeqAt.readsAll_map ds _ _ hl UK;have VT:∀(m:Nat) (h1:m<ZM.length) (h2:m<ds.length),SeqAt.readOf s2.heap ZM[m]=ds[m]:=λm h1 h2=>by
    have:=congrArg (λl=>l[m]?) U8;simp[h1,h2]at this;exact this
   have heq:=SeqAt.items_eqAt (A:=X.A) (by simpa using UK) QC hl hd.2.1 (by have:=Nat.min_le_left (mY ds) d.depth;omega);obtain⟨h1,h2,h3⟩:=ff.mp hj;refine call_meets yG ⟨_,e3,rfl⟩ PySem.F.entry_tuple_index (PySem.F.args_tuple_index_2 _ _)
    (tQ p _ n3 dd sl _ _ j (by rw[cH];omega) ?_ ?_) ⟨e3,heq,?_⟩
   .have:=VT j (by omega) U9
    simp only[FP,this];exact h2
   .intro m hm Vy
    have:=VT m hm (by exact bg (by assumption) (by assumption));simp only[FP,this];simpa using h3 m Vy
   .exact⟨.int j,H2,I2.tok _,⟨_,rfl⟩,q⟩
theorem Gg{K:KX}{o:ME}{a:MA}(h:tM K (mMT jK o a) σ H Q):Nt K (tM K o) (tMA K a) σ H Q:=by
 obtain⟨μ,S,G,u,S',hr,er,e,k⟩:=h;obtain⟨x,S1,e1,e⟩:=bu e;refine⟨μ,S,G,x,S1,hr,er,e1,λY0 vx H1 p1 k1 ZZ rx=>?_⟩;cases x with
 | tup us=>
   obtain⟨xs,S2,e2,e⟩:=bu e;obtain⟨p,vs,rfl,hp,rs⟩:=hZ rx;refine⟨⟨p,vs,rfl,hp⟩,_,S1,G,xs,S2,ZZ,er.mono k1 p1,e2,λY8 ws H2 p2 k2 ZV rws=>?_⟩;unfold jK at e
   split at e
   .rename_i x
    obtain⟨v,r,rfl,Rb,rn⟩:=rws.inv;rw[rn.nil_inv];cases q:DF S2 x us with
    |none=>rw[q]at e;cases e
    | some j=>
      rw[q]at e;cases e;unfold DF at q;cases q1:cZ _ us with
      |none=>rw[q1]at q;cases q
      | some ds=>
        rw[q1]at q;cases q2:toD S' 40 x with
        |none=>simp_all
        | some d=>
          rw[q2]at q;obtain⟨l1,l2⟩:=qA (oP (λx y z=>qB S' 39 x y z) q1);exact⟨p,vs,v,ds,d,j,rfl,rfl,k2 p vs hp,qC ZV (qw ZV 39) q1 (RUs.mono k2 p2 _ _ rs),l1,by exact aH (by omega) (by decide),yx ZV Rb q2,q,k _ _ H2 (p1.trans p2) (k1.trans k2) ZV eW⟩
   .cases e
 |_=>cases e
section
variable {X:Cx}
end
section
variable {K:KX}
end
def gR:U->Option V
 |.non=>some .non
 |.bl b=>some (.bl b)
 |.int i=>some (.int i)
 |.str x=>some (.str x)
 |_=>none
def oIn:F2:=λx y S=>match fJ S y with
 |some kvs=>(keyOf x).map λk=>(.bl (iZ kvs k).isSome,S)
 |none=>(gR x).bind λvx=>(eh S y).bind λys=>(cZ gR ys).map λvs=>(.bl (inV vx vs),S)
def kr:F2:=λx y S=>match fJ S y with
 |some kvs=>(keyOf x).map λk=>(.bl (!(iZ kvs k).isSome),S)
 |none=>(gR x).bind λvx=>(eh S y).bind λys=>(cZ gR ys).map λvs=>(.bl (!inV vx vs),S)
theorem vO{w:V}(e:gR u=some v)(r:RU H μ u w):w=v/\ni v=true:=by
 cases u<;>simp[gR]at e<;>subst e<;>exact⟨by simpa only [RU]using r,rfl⟩
theorem rZ{H:Hp}{μ:List Addr}:∀{us:List U}{vs ws:List V},cZ gR us=some vs->RUs H μ us ws->ws=vs/\vs.all ni=true
 |[],vs,ws,e,r=>by cases e;rw[r.nil_inv]<;>simp_all
 | u::us,vs,ws,e,r=>by
   obtain⟨v,r',rfl,a,b⟩:=r.inv;unfold cZ at e;cases q1:gR u with
   |none=>grind
   | some x=>
     cases q2:cZ _ us with
     |none=>rw[q1,q2]at e;cases e
     | some xs=>
       rw[q2]at e;obtain⟨e1,f1⟩:=vO q1 a;obtain⟨e2,f2⟩:=rZ q2 b<;>grind
section
variable {K:KX}
def Ie(K:aj)(neg:Bool):R2:=λy x H Q=>rIn K neg y x H Q \/ ∃a o,x=.ref a/\ue H a y o/\Q (.bl (if neg then !o.isSome else o.isSome)) H
theorem Ki(hu:X.A.units+1<cLine):OpR X (compareOp .In) (Ie X.K false):=by
 intro pins s σ H x y v u Q I rx ry h;rcases h with h|⟨a,o,rfl,g,q⟩
 .exact BP _ s σ H x y v u Q I rx ry h
 .obtain rfl:u=bW a:=ry
  exact P8 hu I g rx λs3 I3=>⟨.bl _,H,I3,rfl,q⟩
theorem B9(hu:X.A.units+1<cLine):OpR X (compareOp .NotIn) (Ie X.K true):=by
 intro pins s σ H x y v u Q I rx ry h;rcases h with h|⟨a,o,rfl,g,q⟩
 .exact v7 _ s σ H x y v u Q I rx ry h
 .obtain rfl:u=bW a:=ry
  exact G6 hu I g rx λs3 I3=>⟨.bl _,H,I3,rfl,q⟩
theorem OJ:OpU K (Ie K false) oIn:=by
 intro μ S H x y vx vy u S' Q hr rx ry e a;unfold oIn at e
 split at e
 .rename_i kvs qd
  cases qk:keyOf x with
  |none=>simp_all
  | some kk=>
    rw[qk]at e;cases e;obtain⟨p,vs,rfl,hp,r⟩:=hr.dic ry qd;have hl:=by have:=r.len;rwa[ar]at this
    refine .inr ⟨p,_,rfl,.inl ⟨_,kk,.inl hp,oM rx qk,rfl⟩,?_⟩;rw[q8 hl];exact a.now hr j6
 refine .inl ?_;cases q1:gR x with
 |none=>simp_all
 | some fx=>
   cases q2:eh S y with
   |none=>simp_all
   | some ys=>
     cases q3:cZ gR ys with
     |none=>simp_all
     | some vs=>
       rw[q1,q2]at e;simp only[aG,q3]at e;cases e;obtain⟨rfl,f1⟩:=vO q1 rx;obtain⟨p,zs,rfl,hs,r'⟩:=hr.seq ry q2;obtain⟨rfl,f2⟩:=rZ q3 r';exact⟨p,zs,rfl,hs,f1,f2,a.now hr j6⟩
theorem Ef:OpU K (Ie K true) kr:=by
 intro μ S H x y vx vy u S' Q hr rx ry e a;unfold kr at e
 split at e
 .rename_i kvs qd
  cases qk:keyOf x with
  |none=>rw[qk]at e;cases e
  | some kk=>
    rw[qk]at e;cases e;obtain⟨p,vs,rfl,hp,r⟩:=hr.dic ry qd;have hl:kvs.length=vs.length:=by have:=r.len;rwa[ar]at this
    refine .inr ⟨p,_,rfl,.inl ⟨_,kk,.inl hp,oM rx qk,rfl⟩,?_⟩;simp only[if_true];rw[q8 hl];exact a.now hr j6
 refine .inl ?_;cases q1:gR x with
 |none=>rw[q1]at e;cases e
 | some fx=>
   cases q2:eh S y with
   |none=>rw[q1,q2]at e;cases e
   | some ys=>
     cases q3:cZ gR ys with
     |none=>rw[q1,q2]at e;simp only[aG,q3]at e;cases e
     | some vs=>
       rw[q1,q2]at e;simp only[aG,q3]at e;cases e;obtain⟨rfl,f1⟩:=vO q1 rx;obtain⟨p,zs,rfl,hs,r'⟩:=hr.seq ry q2;obtain⟨rfl,f2⟩:=rZ q3 r';exact⟨p,zs,rfl,hs,f1,f2,a.now hr j6⟩
def isU(x:U):U->Option Bool
 | .non=>(match x with
   |.non=>some true
   |.bl _=>some false
   |.tup _=>some false
   |.ref _=>some false
   |.int _=>some false
   | _=>none)
 | .bl j=>(match x with
   |.bl i=>some (i==j)
   |.non=>some false
   | _=>none)
 |_=>none
def nG:F2:=λx y S=>(isU x y).map λb=>(.bl (!b),S)
def rIs(neg:Bool):R2:=λx y H Q=>(∃i j,x=.bl i/\y=.bl j/\Q (.bl (if neg then i != j else i==j)) H)\/(∃i,x=.bl i/\y=.non/\Q (.bl neg) H) \/
 (∃j,x=.non/\y=.bl j/\Q (.bl neg) H)\/(x=.non/\y=.non/\Q (.bl (!neg)) H) \/
 (∃p,x=.ref p/\y=.non/\Q (.bl neg) H)\/(∃i,x=.int i/\y=.non/\Q (.bl neg) H)
theorem BI:OpR X (compareOp .IsNot) (rIs true):=by
 intro pins s σ H x y v u Q I rx ry h;rcases h with⟨i,j,rfl,rfl,q⟩|⟨i,rfl,rfl,q⟩|⟨j,rfl,rfl,q⟩|⟨rfl,rfl,q⟩|⟨p,rfl,rfl,q⟩|⟨i,rfl,rfl,q⟩
 .cases rx;cases ry
  exact isnot_bool ⟨.bl _,H,I,rfl,q⟩
 .cases rx;cases ry
  exact isnot_bool_none ⟨.bl _,H,I,rfl,q⟩
 .cases rx;cases ry
  exact aF ⟨.bl _,H,I,rfl,q⟩
 .cases rx;cases ry
  exact isnot_none_none ⟨.bl _,H,I,rfl,q⟩
 .cases rx;cases ry
  exact aF ⟨.bl _,H,I,rfl,q⟩
 .obtain⟨t,rfl⟩:=rx;cases ry
  exact aF ⟨.bl _,H,I,rfl,q⟩
theorem zM(h:RU H μ .non v):v=.non:=by simpa only [RU]using h
theorem JG{neg:Bool}{x y:U}{vx vy:V}{b:Bool}(rx:RU H μ x vx)(ry:RU H μ y vy)(e:isU x y=some b)(a:Q (.bl (if neg then !b else b)) H):rIs neg vx vy H Q:=by
 have hf:(if neg then !false else false)=neg:=by cases neg<;>rfl
 have ht:(if neg then !true else true) = !neg:=by cases neg<;>rfl
 cases y with
 | non=>
   have hy:=zM ry;subst hy;cases x with
   |non=>cases e;rw[ht]at a;exact .inr (.inr (.inr (.inl ⟨zM rx,rfl,a⟩)))
   |bl i=>cases e;rw[hf]at a;exact .inr (.inl ⟨_,kR rx,rfl,a⟩)
   |tup us=>cases e;rw[hf]at a;obtain⟨p,_,rfl,_⟩:=hZ rx;exact .inr (.inr (.inr (.inr (.inl ⟨_,rfl,rfl,a⟩))))
   |ref n=>cases e;rw[hf]at a;obtain⟨p,rfl,_⟩:=fT rx;exact .inr (.inr (.inr (.inr (.inl ⟨_,rfl,rfl,a⟩))))
   |int i=>cases e;rw[hf]at a;exact .inr (.inr (.inr (.inr (.inr ⟨_,dq rx,rfl,a⟩))))
   |_=>cases e
 | bl j=>
   have hy:=kR ry;subst hy;cases x with
   |bl i=>cases e;exact .inl ⟨_,_,kR rx,rfl,a⟩
   |non=>cases e;rw[hf]at a;exact .inr (.inr (.inl ⟨_,zM rx,rfl,a⟩))
   |_=>cases e
 |_=>cases e
theorem Ew:OpU K (rIs true) nG:=by
 intro μ S H x y vx vy u S' Q hr rx ry e a;unfold nG at e;cases q:isU x y with
 |none=>rw[q]at e;cases e
 |some b=>rw[q]at e;cases e;exact JG rx ry q (a.now hr j6)
def ja:Nat->List U->Sto->Res U:=λn xs S=>match xs with
 | [.ref m]=>match S[n]?,S[m]? with
   |some (.lst us),some (.lst ws)=>if us.length+ws.length<=big then some (.non,S.set n (.lst (us++ws))) else none
   |_,_=>none
 | [.tup ws]=>match S[n]? with
   |some (.lst us)=>if us.length+ws.length<=big then some (.non,S.set n (.lst (us++ws))) else none
   |_=>none
 |_=>none
theorem BV:MtU K (λx vs H Q=>vv x vs H Q\/IF x vs H Q) ja:=by
 intro μ S H n p us vs u S' Q hr hp rs e a;unfold ja at e
 split at e
 .rename_i m
  split at e
  .rename_i xs ws q q2
   split at e
   .rename_i hc
    cases e;obtain⟨v,r,rfl,rx,rn⟩:=rs.inv;rw[rn.nil_inv];obtain⟨b,rfl,hb⟩:=fT rx;obtain⟨ys,e0,r0⟩:=hr.cell n _ p q hp;obtain⟨zs,e1,r1⟩:=hr.cell m _ b q2 hb;refine .inl ⟨p,b,ys,zs,rfl,rfl,e0,e1,?_,qV a hr q hp (r0.append r1) nA⟩;have:=r0.len;have:=r1.len;unfold big at hc;rw[sizeLine_eq];omega
   .cases e
  .cases e
 .rename_i ws
  split at e
  .rename_i xs q
   split at e
   .rename_i hc
    cases e;obtain⟨v,r,rfl,rx,rn⟩:=rs.inv;rw[rn.nil_inv];obtain⟨b,zs,rfl,hb,r1⟩:=hZ rx;obtain⟨ys,e0,r0⟩:=hr.cell n _ p q hp;refine .inr ⟨p,b,ys,zs,rfl,rfl,e0,hb,?_,qV a hr q hp (r0.append r1) nA⟩;have:=r0.len;have:=r1.len;unfold big at hc;rw[sizeLine_eq];omega
   .cases e
  .cases e
 .cases e
end
def rH(ns:List Int):List Int:=ns.mergeSort λi j=>decide (i<=j)
def AO:U->Option Int
 |.int i=>some i
 |_=>none
def zJ(n:Nat):Prop:=n<64
instance(n:Nat):Decidable (zJ n):=cx _
def vR:_L.Key×U->Option Int
 |(.inl i,_)=>some i
 |_=>none
def uR(S:Sto)(x:U):Option (List Int):=match fJ S x with
 |some kvs=>cZ vR kvs
 |none=>(eh S x).bind λxs=>cZ AO xs
def fo:MF:=λus S=>match us with
 |[x]=>(uR S x).bind λns=>if zJ ns.length then some (.ref S.length,S++[.lst ((rH ns).map U.int)]) else none
 |_=>none
theorem jm(ns:List Int):(rH ns).Perm ns:=List.mergeSort_perm _ _
theorem yn(ns:List Int):(rH ns).Pairwise (· <= ·):=by
 have h:=Co (le:=λ(i j)=>decide (i<=j)) (λa b c h1 h2=>by grind) (λa b=>by grind) ns;exact h.imp λh=>by simpa using h
theorem pU:∀{as bs:List Int},as.Perm bs->as.Pairwise (· <= ·)->bs.Pairwise (· <= ·)->as=bs
 |[],bs,p,_,_=>by simp_all
 |a::as,[],p,_,_=>by simp_all
 | a::as,b::bs,p,h1,h2=>by
   rw[kj]at h1 h2;have e:a=b:=by
    have m1:a∈b::bs:=p.subset (by simp);have m2:b∈a::as:=p.symm.subset (by simp)<;>grind
   subst e;rw[pU (yN _ |>.mp p) h1.2 h2.2]
variable{ns:List Int}
theorem wX{ms:List Int}(p:ms.Perm ns)(h:ms.Pairwise (· <= ·)):ms=rH ns:=pU (p.trans (jm ns).symm) h (yn ns)
theorem Ab{H:Hp}{μ:List Addr}:∀{us:List U}{vs:List V}{ns:List Int},RUs H μ us vs->cZ AO us=some ns->vs=ns.map V.int
 |[],vs,ns,r,e=>by cases e;rw[r.nil_inv];rfl
 | u::us,vs,ns,r,e=>by
   obtain⟨v,r',rfl,a,b⟩:=r.inv;unfold cZ at e;cases u with
   | int x=>
     cases q:cZ _ us with
     |none=>rw[q]at e;cases e
     | some cs=>
       rw[q]at e;cases e;rw[dq a,Ab b q];rfl
   |_=>cases e
theorem intsAre_of:∀{ns:List Int}{us:List Value},cK (ns.map V.int) us->IntsAre us ns
 |[],us,r=>by cases r;exact .nil
 | n::ns,us,r=>by
   cases r with
   | cons a b=>
     obtain⟨t,rfl⟩:=a;exact .cons n t (intsAre_of b)
theorem pA:∀{ns:List Int}{us:List Value},IntsAre us ns->cK (ns.map V.int) us
 |_,_,.nil=>.nil
 |_,_,.cons n t r=>.cons ⟨t,rfl⟩ (pA r)
theorem jL:∀{ns:List Int}{us:List Value},IntsAre us ns->us.length=ns.length
 |_,_,.nil=>rfl
 |_,_,.cons n t r=>by simp[jL r]
variable{o:Obj}{Q:List Value->Shared->Prop}{E:Value->Shared->Prop}{w:World}{prog:Program}{T:String}
theorem rQ (it:Addr){items:Array Value}(hT:T="list"\/T="tuple")
  (ho:s.heap.get? it=some o) (hc:o.cls=.type T) (hd:o.data=.seq items n) (ZG:items.size<=sizeLine)
  (hQ:∀h',(∀b o',s.heap.get? b=some o'->h'.get? b=some o')->s.heap.objs.size<=h'.objs.size->Q items.toList { s with heap:=h' }):
  aN (model prog w) A (collect (.ref it)) Q E s:=by
 refine ag (FE (fA pM ?_));refine ag (eJ (aF ⟨plainId_quiet wo _,fA wq ?_⟩));have hS:(s.heap.push _).get? _=some { cls := .type "list",data := .seq #[] 0 }:=ay _ rfl;have Wd:=gh (cz (· ++ items)) hS rfl
 refine bE (wpAny_extend_seq (R:=λr s'=>r = .ok _/\s'={ s with heap:=(s.heap.push _).update _ _ })
  _ it _ 0 hT hS (af _ ho) hc hd ⟨rfl,rfl⟩) (λfin s' h =>?_) (λe s' h=>absurd h.1 (by simp))
 have WT:aN (model prog w) A (match bW s.heap.objs.size with
   | bW a=>do
     match (<- load a).data with
      |FM xs _=>pure xs.toList
      |_=>unsupported "internal:collect"
   | _=>unsupported "internal:collect") Q E { s with heap:=(s.heap.push { cls := .type "list",data := .seq [].toArray }).update s.heap.objs.size (cz (· ++ items)) }:=by
  refine ag (Fv Wd (aF ?_));rw[show((#[]:Array Value)++items).toList=items.toList by simp];exact hQ _ (λb o' hb=>(cX _ _ (cJ (aw hb))).trans (af _ hb)) (by simp_all)
 cases fin with
 | done f=>
   obtain⟨e,rfl⟩:=h;cases e;omega
 |again c'=>exact⟨h.1,ij h.2 λr s'' hr=>by obtain⟨rfl,rfl⟩:=hr;omega⟩
theorem qY{l:Addr}{vs:List Value}{Q:Value->Shared->Prop}(hT:T="list"\/T="tuple")
  (ho:s.heap.get? l=some o) (hc:o.cls=.type T) (hd:o.data=.seq vs.toArray n) (hI:IntsAre vs ns) (Xo:vs.length<64)
  (h: ∀(out:Array Value) (YM:List Int) (a:Addr) (e:Nat) (h':Heap),IntsAre out.toList YM->YM.Perm ns->YM.Pairwise (· <= ·)->s.heap.objs.size<=a->(∀b o',s.heap.get? b=some o'->h'.get? b=some o') ->
   h'.get? a=some (seqObj "list" out e)->Q (.ref a) { s with heap:=h' }) :
  aN (model prog w) A (call (.builtin "sorted") [.ref l]) Q E s:=by
 refine kP kind_sorted plain_sorted entry_sorted (args_sorted1 _) ?_;refine ag (aF ?_);refine ag (rQ l hT ho hc hd (by rw[cH,sizeLine_eq];omega) λh1 hk hle=>?_);refine ag (u9 ?_);have Yw:(h1.push _).get? _=some (seqObj "list" vs.toArray 0):=ay _ rfl;refine ag (gJ (fV slot_list_sort ⟨_,Yw,rfl⟩ entry_list_sort (list_sort_tree Yw hI Xo λout YM a1 a2 a3=>⟨_,rfl,?_⟩) (args_list_sort _)));obtain⟨e,he⟩:=sortedHeap_at Yw
 exact aF ⟨_,rfl,h _ _ _ e _ a1 a2 a3 hle (λb o' hb=>by
  have Yq:=hk b o' hb;have ZU:=aw Yq;rw[sortedHeap_old (aL ZU) (by rw[size_push'];exact dP ZU),tK _ _ _ (aL ZU)]
  omega) he⟩
variable{vs:List (Key×Value)}{d:Addr}
theorem vT{ep:Nat}(hh:A.handled=none)(hS:(d==sysModules)=false)(hm:s.heap.DictAt (eC prog w) d vs ep)(hn:vs.length<=sizeLine)
  (hQ:∀s' acc,(∀b o,s.heap.get? b=some o->s'.heap.get? b=some o)->s'.gens=s.gens->s'.drawn=s.drawn->s'.os=s.os->ItemsOf (λi v=>∃k x,vs[i]?=some (k,x)/\(eC prog w).is k v=true) acc vs.length->s.heap.objs.size<=s'.heap.objs.size->Q acc.toList s'):aN (model prog w) A (collect (.ref d)) Q E s:=by
 have Yr:d<s.heap.objs.size:=hm.lt_size
 let lo:Obj:={ cls := .type "list",data := .seq ([]:List Value).toArray }
 let io:Obj:={ cls := .type "dict_keyiterator",data := .fields #[.ref d,.int 0 0,.int vs.length 0,.int ep 0] }
 have Xk:=hm.push lo;have QS:Shared.TypeIs { s with heap:=s.heap.push lo } (.ref d) "dict":=Xk.dictOf.typeIs;unfold collect;refine ag (FE (fA pM ?_));refine ag (eJ (aF ⟨plainId_quiet wo _,fA wq ?_⟩));show aN _ A.in1 (Builtin.List.listExtendWith (.ref s.heap.objs.size) (.ref d) (.ref s.heap.objs.size)) _ _ _;refine ag (wpAny_typeOf QS ?_);have ZI:tL (.ref s.heap.objs.size) (.ref d)=false:=by simp[tL];exact cJ Yr
 rw[if_neg (by rw[ZI];decide)];refine ag (wpAny_pyIter_dict hS Xk ?_);refine ag (gJ ?_);have WI:Shared.TypeIs { s with heap:=(s.heap.push lo).push io } (.ref d) "dict":=(Xk.push io).dictOf.typeIs;refine ag (wpAny_specialOf WI PySem.F.slot_dict_len.lookup ?_);generalize hid:("dict.__len__":String)=id0
 wp_delta
 subst hid;refine ag (wpAny_isInstance (b:=true) WI (by rw[isSubtype_type];kernel_rfl) ?_);simp only[Bool.not_true,eR,if_false];refine ag (wpAny_typeOf WI (aF ?_));refine ag (gy (ag ?_));have Ve:s.heap.objs.size≠(s.heap.push lo).objs.size:=by rw[bF];exact aL (cw _)
 have WH:((s.heap.push lo).push io).get? s.heap.objs.size=some lo:=af _ (ay _ rfl);refine ag (Ck WH rfl ?_);have XE:=gh (cz (·.push cN)) WH rfl;refine Ck XE rfl ?_;have Ri:=gh (cz (·.pop)) XE rfl;have oth:∀b o,b≠s.heap.objs.size->((s.heap.push lo).push io).get? b=some o->((((s.heap.push lo).push io).update s.heap.objs.size (cz (·.push cN))).update s.heap.objs.size (cz (·.pop))).get? b=some o:=
  λb o hb e=>(cX _ _ (dj hb)).trans ((cX _ _ (dj hb)).trans e)
 have hI:(s.heap.push lo).objs.size=s.heap.objs.size+1:=bF ..;have QP:d≠(s.heap.push lo).objs.size:=by rw[hI];exact aL (dP Yr)
 have W:=(Walks.dictKeys (prog:=prog) (w:=w) (A:=A.in1) (knd:=eC prog w) hh (s.heap.push lo).objs.size d QP vs ep).toS;have Rp:s.heap.objs.size ∉ [(s.heap.push lo).objs.size,d]:=by
  rw[hI];intro z;rcases aD.mp z with z|z
  .omega
  .rw[bL]at z;exact absurd z (cJ Yr)
 have QR:((s.heap.push lo).push io).IsKeyIter (s.heap.push lo).objs.size d 0 vs.length ep:=⟨io,ay _ rfl,rfl,rfl⟩;refine aF ⟨plainId_quiet F.plain_extend_loop _,codeAny_extend_loopS W hn s.heap.objs.size Rp _ vs.length 0 _ _ _ rfl (cU _) ?_ Ri (ItemsOf.nil _) λs' Ze c' VD WX ZJ=>?_⟩
 .exact⟨QR.at λo e=>oth _ o (dj Ve) e,(Xk.push io).at' λo e=>oth _ o (aL Yr) e⟩
 .refine ag (Fv WX (aF (hQ s' Ze (λb o e=>?_) VD.gens VD.drawn VD.os ZJ (aE (aw WX)))))
  have hb:b<s.heap.objs.size:=aw e;refine VD.heap b o ?_ (oth b o (aL hb) (af _ (af _ e)));rw[hI];intro z;rcases aD.mp z with z|z
  .exact absurd z (aL hb)
  .rw[bL]at z;exact absurd z (aL (dP hb))
theorem uT:∀{l:List Value}{ns:List Int},l.length=ns.length->(∀(j:Nat) (v:Value),l[j]?=some v->∃i t,ns[j]?=some i/\v=.int i t)->IntsAre l ns
 |[],[],_,_=>.nil
 |[],_::_,h,_=>by simp at h
 |_::_,[],h,_=>by simp at h
 | v::l,n::ns,h,k=>by
   obtain⟨i,t,e,rfl⟩:=k 0 v rfl;simp at e;subst e;exact .cons n t (uT (by simpa using h) λj w hj=>by simpa using k (j+1) w (by simpa using hj))
theorem yr{Q:Value->Shared->Prop}(hh:A.handled=none)(hS:(d==sysModules)=false)(hm:s.heap.DictOf (eC prog w) d vs)(hk:vs.map (·.1)=ns.map i6)(Xo:ns.length<64)
  (h: ∀(out:Array Value) (YM:List Int) (a:Addr) (e:Nat) (h':Heap) (tk:Nat),IntsAre out.toList YM->YM.Perm ns->YM.Pairwise (· <= ·)->s.heap.objs.size<=a->(∀b o',s.heap.get? b=some o'->h'.get? b=some o') ->
   h'.get? a=some (seqObj "list" out e)->Q (.ref a) { s with heap:=h',toks:=tk }) :
  aN (model prog w) A (call (.builtin "sorted") [.ref d]) Q E s:=by
 obtain⟨ep,hm⟩:=hm.dictAt;have hlen:=by have:=congrArg gK hk;simpa using this
 refine kP kind_sorted plain_sorted entry_sorted (args_sorted1 _) ?_;refine ag (aF (ag (vT hh hS hm (by rw[sizeLine_eq];omega) λs1 acc Us hg M' R9 ZJ hle=>?_)));have hI:IntsAre acc.toList ns:=uT (by rw[<-hlen,<-ZJ.1];simp) λj v hj=>by
  obtain⟨k,x,e,ik⟩:=ZJ.2 j v (by simpa using hj);have e2:(vs.map (·.1))[j]?=some k:=by rw[ba,e];rfl
  rw[hk,ba]at e2;cases q:ns[j]? with
  |none=>simp_all
  | some i=>
    rw[q]at e2;have e3:=dD e2;subst e3;rcases eD (show sg (i6 i) v=true from ik) with⟨i',t,e4,e5⟩|⟨y,t,e4,_⟩<;>simp_all
 have R7:acc.toList.length<64:=by rw[jL hI];omega
 refine ag (u9 ?_);have Yw:(s1.heap.push (seqObj "list" acc 0)).get? _=some _:=ay _ rfl;refine ag (gJ (fV slot_list_sort ⟨_,Yw,rfl⟩ entry_list_sort (list_sort_tree Yw hI R7 λout YM a1 a2 a3=>⟨_,rfl,?_⟩) (args_list_sort _)));obtain⟨e,he⟩:=sortedHeap_at Yw
 have hq:=h _ _ _ e _ s1.toks a1 a2 a3 hle (λb o' hb=>by
  have Yq:=Us b o' hb;have ZU:=aw Yq;rw[sortedHeap_old (aL ZU) (by rw[size_push'];exact dP ZU),tK _ _ _ (aL ZU)]
  omega) he
 rw[<-hg,<-M',<-R9]at hq;exact aF ⟨_,rfl,hq⟩
section
variable {X:Cx}
def vt(K:aj):List V->Hp->VK->Prop:=λxs H Q=>∃(p:Addr) (ns:List Int),xs=[.ref p]/\((SqL K H p (ns.map V.int)\/SqT K H p (ns.map V.int)) \/ ∃kvs,H p=some (.dK kvs)/\kvs.map (·.1)=ns.map i6)/\ns.length<64 /\ ∀l,H l=none->Q (.ref l) (upd H l (.lst ((rH ns).map V.int)))
theorem Gp{kvs:List (Key×V)}(h:KV kvs vs):vs.map (·.1)=kvs.map (·.1):=by
 induction h<;>simp_all
theorem qb(hc:X.calm=true):iu X (.builtin "sorted") (vt X.K):=by
 intro pins s σ H xs us Q I rs h;obtain⟨p,ns,rfl,hS,Xo,q⟩:=h;cases rs with
 | cons r1 rr=>
   cases rr;cases (r1);have fin:∀(out:Array _) (YM:List _) (a:Addr) (e:Nat) (h':Heap) (tk:Nat),IntsAre out.toList YM->YM.Perm ns->YM.Pairwise (· <= ·)->s.heap.objs.size<=a->(∀b o',s.heap.get? b=some o'->h'.get? b=some o') ->
    h'.get? a=some (seqObj "list" out e)->EP X pins σ Q (.ref a) { s with heap:=h',toks:=tk }:=by
    intro out YM a e h' tk a1 a2 a3 hle hk he;have e':=wX a2 a3;subst e';refine⟨.ref a,_,I.laid hk hle ?_,rfl,q _ (I.hok.fresh hle)⟩;refine⟨by rw[ar,(jm ns).length_eq,sizeLine_eq];omega,_,e,pA a1,?_⟩;omega
   rcases hS with (hS|hS)|⟨kvs,hp,hks⟩
   .obtain⟨ZY,rv,pl,_⟩:=I.list hS
    have hl:=pl.isList;obtain⟨o,ho,hc,n,hd⟩:=hl;have hI:=intsAre_of rv;exact qY (.inl rfl) ho hc hd hI (by rw[jL hI];omega) λout YM a e h'=>fin _ _ a e h' _
   .obtain⟨ZY,rv,pl,_⟩:=I.tuple hS
    obtain⟨o,ho,hc,n,hd⟩:=pl;have hI:=intsAre_of rv;exact qY (.inr rfl) ho hc hd hI (by rw[jL hI];omega) λout YM a e h'=>fin _ _ a e h' _
   .obtain⟨_,Rl,vs,rel,dd⟩:=(I.hok p _ hp)
    exact yr (I.ok.hd hc) Rl dd (by rw[Gp rel];omega) Xo fin
end
section
variable {K:KX}
theorem oB{H:Hp}{μ:List Addr}:∀ns:List Int,RUs H μ (ns.map U.int) (ns.map V.int)
 |[]=>.nil
 |n::ns=>.cons eW (oB ns)
theorem Ad:∀{kvs:List (Key×U)}{vs:List V},kvs.length=vs.length->(dV kvs vs).map (·.1)=kvs.map (·.1)
 |[],_,_=>rfl
 |_::_,[],h=>by simp at h
 | kv::kvs,v::vs,h=>by
   show kv.1::(dV _ vs).map _=kv.1::kvs.map _;rw[Ad (by simpa using h)]
theorem uD:∀{kvs:List (Key×U)}{ns:List Int},cZ vR kvs=some ns->kvs.map (·.1)=ns.map i6
 |[],ns,h=>by cases h;rfl
 | (k,u)::kvs,ns,h=>by
   unfold cZ at h;cases k with
   |inr x=>cases h
   | inl i=>
     cases q:cZ _ _ with
     |none=>rw[q]at h;cases h
     | some ms=>
       rw[q]at h;cases h;rw[dH,uD q];rfl
theorem uC:oG K (vt K) fo:=by
 intro μ S H us vs u S' Q hr rs e a;unfold fo at e
 split at e
 .rename_i x
  obtain⟨v,r,rfl,rx,rn⟩:=rs.inv;rw[rn.nil_inv];cases q:uR S x with
  |none=>rw[q]at e;cases e
  | some ns=>
    rw[q]at e;simp only[aG]at e
    split at e
    rotate_left
    .cases e
    rename_i hc
    cases e;unfold uR at q
    split at q
    .rename_i kvs qd
     obtain⟨p,ws,rfl,hp,r'⟩:=hr.dic rx qd;have hl:=by have:=r'.len;rwa[ar]at this
     exact⟨p,ns,rfl,.inr ⟨_,hp,by rw[Ad hl];exact uD q⟩,hc,λl hl=>ko a hr (oB _) hl⟩
    .cases q1:eh S x with
     |none=>simp_all
     | some ws=>
       rw[q1]at q;obtain⟨p,ys,rfl,hs,r'⟩:=hr.seq rx q1;rw[Ab r' q]at hs;exact⟨p,ns,rfl,.inl hs,hc,λl hl=>ko a hr (oB _) hl⟩
 .cases e
end
section
variable {X:Cx}
end
section
variable {K:KX}
end
end _G
namespace _G
open PySem PySem.Spec _L GQ
open PyProof.Rows hiding St
def okT(L:List (List Int)):Prop:=L.length<100000/\L.Nodup /\ ∀l∈L,l≠[]
instance(L:List (List Int)):Decidable (okT L):=cx _
def ng(L:List (List Int)):List (List Int):=L.mergeSort λa b=>!HT.lexLt b a
def tupI(l:List Int):U:= .tup (l.map U.int)
def Gq:MF:=λus S=>match us with
 |[.ref n]=>(getL S n).bind λxs=>(cZ nc xs).bind λL=>if okT L then some (.ref S.length,S++[.lst ((ng L).map tupI)]) else none
 |_=>none
def pv:MF:=λus S=>(Gq us S).or (fo us S)
theorem qF:∀(a:List Int),HT.lexLt a a=false
 |[]=>rfl
 |x::a=>by rw[HT.lexLt_cons,if_pos rfl];exact qF a
theorem zN{a b:List Int}(ZI:a≠b)(h:(!HT.lexLt b a)=true):HT.lexLt a b=true:=by
 rw[tN]at h;exact wa (dj ZI) h
theorem rY(L:List (List Int)):(ng L).Perm L:=List.mergeSort_perm _ _
theorem Dj(L:List (List Int)):(ng L).Pairwise λa b=>(!HT.lexLt b a)=true:=by
 refine Co (le:=λa b=>!HT.lexLt b a) (λa b c h1 h2=>?_) (λa b=>?_) L
 .by_cases e1:a=b
  .subst e1;exact h2
  .by_cases e2:b=c
   .subst e2;exact h1
   .have h3:=ny (zN e1 h1) (zN e2 h2)
    cases q:HT.lexLt c a with
    |false=>rfl
    |true=>have:=ny h3 q;rw[qF]at this;cases this
 .cases q:HT.lexLt b a with
  |false=>rfl
  | true=>
    cases q2:HT.lexLt a b with
    |false=>rfl
    |true=>have:=ny q q2;rw[qF]at this;cases this
variable{L:List (List Int)}
theorem DU(nd:L.Nodup):(ng L).Pairwise λa b=>HT.lexLt a b=true:=by
 have h2:(ng L).Nodup:=(rY L).nodup_iff.mpr nd;exact((Dj L).and h2).imp λh=>zN h.2 h.1
theorem xK:∀{as bs:List (List Int)},as.Perm bs->(as.Pairwise λa b=>HT.lexLt a b=true)->(bs.Pairwise λa b=>HT.lexLt a b=true)->as=bs
 |[],bs,p,_,_=>by rw[List.nil_perm.mp p]
 |a::as,[],p,_,_=>by cases List.perm_nil.mp p
 | a::as,b::bs,p,h1,h2=>by
   rw[kj]at h1 h2;have e:a=b:=by
    rcases aD.mp (p.subset (aT ..)) with e|m1
    .exact e
    .rcases aD.mp (p.symm.subset (aT ..)) with e|m2
     .exact e.symm
     .have:=ny (h1.1 b m2) (h2.1 a m1)
      rw[qF]at this;cases this
   subst e;rw[xK (yN _ |>.mp p) h1.2 h2.2]
theorem DX{M:List (List Int)}(nd:L.Nodup)(p:M.Perm L)(h:M.Pairwise λa b=>HT.lexLt a b=true):M=ng L:=xK (p.trans (rY L).symm) h (DU nd)
theorem yU{prog:Program}{w:World}{A:Around}{E:Value->Shared->Prop}{s:Shared}{l:Addr}{T:String}{o:Obj}{n:Nat}{vs:List Value}{L:List (List Int)}{Q:Value->Shared->Prop}(hT:T="list"\/T="tuple")
  (ho:s.heap.get? l=some o) (hc:o.cls=.type T) (hd:o.data=.seq vs.toArray n) (t:Tps s.heap vs L) (hn:∀l∈L,l≠[]) (nd:L.Nodup) (UB:vs.length<100000)
  (h: ∀(p:Array Nat) (a:Addr) (e:Nat) (h':Heap),p.Perm (ax L.length).toArray->(∀i j,i<j->j<L.length->ltL L (at_ p i) (at_ p j)=true)->s.heap.objs.size<=a->(∀b o',s.heap.get? b=some o'->h'.get? b=some o') ->
   h'.get? a=some (seqObj "list" (tI (p.toList.map fun i=>vs.getD i cN)) e)->Q (.ref a) { s with heap:=h' }) :
  aN (model prog w) A (call (.builtin "sorted") [.ref l]) Q E s:=by
 refine kP kind_sorted plain_sorted entry_sorted (args_sorted1 _) ?_;unfold Builtin.«sorted»;refine ag (m:=checkCount "sorted" 1 1 _) (aF ?_);refine ag (rQ l hT ho hc hd (by rw[cH,sizeLine_eq];omega) λh1 hk hle=>?_);refine ag (u9 ?_);have Yw:(h1.push (seqObj "list" vs.toArray 0)).get? h1.objs.size=some (seqObj "list" vs.toArray 0):=ay _ rfl;show aN _ _ _ _ _ { s with heap:=h1.push (seqObj "list" vs.toArray 0) };have t1:Tps (h1.push (seqObj "list" vs.toArray 0)) vs L:=t.keep fun b o' _ e=>af _ (hk b o' e);refine ag (gJ (fV slot_list_sort ⟨_,Yw,rfl⟩ entry_list_sort (Mp (s:={ s with heap:=h1.push (seqObj "list" vs.toArray 0) }) Yw t1 hn nd UB fun p a1 a2=>⟨_,rfl,?_⟩) (args_list_sort _)));obtain⟨e,he⟩:=sortedHeap_at (out:=tI (p.toList.map λi=>vs.getD i cN)) Yw
 exact aF ⟨_,rfl,h p _ e _ a1 a2 hle (λb o' hb=>by
  have Yq:=hk b o' hb;have ZU:=aw Yq;rw[sortedHeap_old (aL ZU) (by rw[size_push'];exact dP ZU),tK _ _ _ (aL ZU)]
  exact Yq) he⟩
inductive TV(H:Hp):List V->List (List Int)->Prop where
 |nil:TV H [] []
 |cons {a:Addr}{ns:List Int}{vs:List V}{L:List (List Int)} (h:H a=some (.tup (ns.map V.int))) (r:TV H vs L):TV H (.ref a::vs) (ns::L)
variable{vs:List V}{H:Hp}
theorem TV.len(t:TV H vs L):vs.length=L.length:=by
 induction t with
 |nil=>rfl
 |cons h r ih=>rw[bI,bI,ih]
theorem TV.get(t:TV H vs L):∀i,i<L.length->∃a,vs.getD i .non=.ref a/\H a=some (.tup ((L.getD i []).map V.int)):=by
 induction t with
 |nil=>intro i hi;cases hi
 | @cons a ns vs L h r ih=>
   intro i hi;cases i with
   |zero=>exact⟨a,rfl,h⟩
   |succ i=>exact ih i (i7 hi)
theorem TV.perm{H:Hp}{vs:List V}{L:List (List Int)}(t:TV H vs L):∀(is:List Nat),(∀i∈is,i<L.length)->TV H (is.map λi=>vs.getD i .non) (is.map λi=>L.getD i [])
 |[],_=>.nil
 | i::is,h=>by
   obtain⟨a,e,ha⟩:=t.get i (h i (aT ..));show TV H (vs.getD i .non::_) (L.getD i []::_);rw[e];exact .cons ha (t.perm is λj hj=>h j (av _ hj))
theorem uG{vs:List V}{us:List Value}(r:cK vs us):∀(is:List Nat),(∀i∈is,i<vs.length)->cK (is.map λi=>vs.getD i .non) (is.map λi=>us.getD i cN)
 |[],_=>.nil
 | i::is,h=>by
   have hi:=h i (aT ..);obtain⟨u,hu,ru⟩:=r.get (aI hi);have e1:vs.getD i .non=vs[i]:=by simp[hi]
   have e2:us.getD i cN=u:=by simp[hu]
   refine .cons ?_ (uG r is λj hj=>h j (av _ hj));show RelV (vs.getD i .non) (us.getD i cN);rw[e1,e2];exact ru
section
variable {X:Cx}{pins:List (Addr×Obj)}{σ:St}{H:Hp}{s:Shared}
theorem LN(I:Inv X pins σ H s)(t:TV H vs L):∀{us:List Value},cK vs us->Tps s.heap us L:=by
 induction t with
 |nil=>intro us r;cases r;exact .nil
 | @cons a ns vs L h r ih=>
   intro us rv;cases rv with
   | cons r1 r2=>
     cases (show _=bW a from r1);obtain⟨ZY,rt,pl,_⟩:=I.tuple (SqT.of (K:=X.K) h);obtain⟨o,ho,hc,n,hd⟩:=pl;exact .cons ⟨a,o,ZY.toArray,n,rfl,ho,hc,hd,intsAre_of rt⟩ (ih r2)
def y6(K:aj):List V->Hp->VK->Prop:=λxs H Q=>∃(p:Addr) (vs:List V) (L:List (List Int)),xs=[.ref p]/\SqL K H p vs/\TV H vs L/\okT L /\ ∀D ws,H D=none->TV H ws (ng L)->Q (.ref D) (upd H D (.lst ws))
theorem yP:iu X (.builtin "sorted") (y6 X.K):=by
 intro pins s σ H xs us Q I rs h;obtain⟨p,vs,L,rfl,hS,tv,⟨Xo,nd,ZI⟩,q⟩:=h;cases rs with
 | cons r1 rr=>
   cases rr;cases (show _=bW p from r1);obtain⟨ZY,rv,pl,hz⟩:=I.list hS;obtain⟨o,ho,hc,n,hd⟩:=pl.isList;have tp:=LN I tv rv;refine yU (.inl rfl) ho hc hd tp ZI nd (by rw[tp.len];exact Xo) λp a e h' hp so hle hk he=>?_;have UB:L.length<100000:=Xo;have ZO:p.toList.Perm (ax L.length):=hp.toList;have ZU:∀i∈p.toList,i<L.length:=λi hi=>aO.mp (ZO.mem_iff.mp hi);have el:p.toList.map (λi=>L.getD i [])=ng L:=by
    refine DX nd ((ZO.map _).trans ?_) ?_
    .rw[show(ax L.length).map (λi=>L.getD i [])=L from mR (by simp) λi h1 h2=>by simp[h2]]
    .rw[dN,dg]
     intro i j hi hj Yz;have hs:p.toList.length=L.length:=by rw[ZO.length_eq,be]
     have:=so i j Yz (by omega);have ZH:i<p.size:=by simpa using hi
     have ZC:j<p.size:=by simpa using hj
     have e1:at_ p i=p.toList[i]:=by simp[at_,ZH]
     have e2:at_ p j=p.toList[j]:=by simp[at_,ZC]
     rw[e1,e2]at this;exact this
   have tw:=tv.perm p.toList ZU;rw[el]at tw;refine⟨.ref a,_,I.laid (t':=s.toks) (o:= .lst (p.toList.map λi=>vs.getD i .non)) hk hle ?_,rfl,q _ _ (I.hok.fresh hle) tw⟩;refine⟨?_,p.toList.map λi=>ZY.getD i cN,e,uG rv p.toList (λi hi=>by rw[tv.len];exact ZU i hi),?_⟩
   .rw[ar,ZO.length_eq,be,sizeLine_eq];omega
   .rw[he]
end
section
variable {K:KX}
theorem Bz{x:U}{ns:List Int}(h:nc x=some ns):∃us,x=.tup us/\cZ oi us=some ns:=by
 cases x with
 |tup us=>exact⟨us,rfl,h⟩
 |_=>cases h
theorem uS{H:Hp}{μ:List Addr}:∀{us:List U}{vs:List V}{ns:List Int},RUs H μ us vs->cZ oi us=some ns->vs=ns.map V.int
 |[],vs,ns,r,e=>by cases e;rw[r.nil_inv];rfl
 | u::us,vs,ns,r,e=>by
   obtain⟨v,r',rfl,a,b⟩:=r.inv;unfold cZ at e;cases u with
   | int x=>
     simp only[oi,aG]at e;cases q:cZ oi us with
     |none=>rw[q]at e;cases e
     | some cs=>
       rw[q]at e;cases e;rw[dq a,uS b q];rfl
   |_=>cases e
theorem IK{H:Hp}{μ:List Addr}:∀{us:List U}{vs:List V}{L:List (List Int)},RUs H μ us vs->cZ nc us=some L->TV H vs L
 |[],vs,L,r,e=>by cases e;rw[r.nil_inv];exact .nil
 | u::us,vs,L,r,e=>by
   obtain⟨v,r',rfl,a,b⟩:=r.inv;unfold cZ at e;cases q1:nc u with
   |none=>rw[q1]at e;cases e
   | some ns=>
     rw[q1]at e;simp only[aG]at e;cases q:cZ nc us with
     |none=>rw[q]at e;cases e
     | some cs=>
       rw[q]at e;cases e;obtain⟨ws,rfl,q2⟩:=Bz q1;obtain⟨p,ys,rfl,hp,r2⟩:=hZ a;rw[uS r2 q2]at hp;exact .cons hp (IK b q)
theorem KN{μ:List Addr}{ws:List V}(t:TV H ws L):RUs H μ (L.map tupI) ws:=by
 induction t with
 |nil=>exact .nil
 |cons h r ih=>exact .cons (kJ h (oB _)) ih
theorem KJ:oG K (y6 K) Gq:=by
 intro μ S H us vs u S' Q hr rs e a;unfold Gq at e
 split at e
 .rename_i n
  obtain⟨v,r,rfl,rx,rn⟩:=rs.inv;rw[rn.nil_inv];cases q:getL S n with
  |none=>rw[q]at e;cases e
  | some xs=>
    rw[q]at e;simp only[aG]at e;cases q2:cZ nc xs with
    |none=>rw[q2]at e;cases e
    | some L=>
      rw[q2]at e;simp only[aG]at e
      split at e
      .rename_i hok
       cases e;obtain⟨p,rfl,hp⟩:=fT rx;obtain⟨p',ys,Zr,hs,r'⟩:=hr.sq q;rw[hp]at Zr;cases Zr;exact⟨p,ys,L,rfl,hs,IK r' q2,hok,λD ws hD tw=>ko a hr (KN tw) hD⟩
      .cases e
 .cases e
theorem Ei:oG K (λxs H Q=>y6 K xs H Q\/vt K xs H Q) pv:=λμ S H us vs u S' Q hr rs e a=>by
 rcases Cp.mp e with e|⟨_,e⟩
 .exact .inl (KJ μ S H us vs u S' Q hr rs e a)
 .exact .inr (uC μ S H us vs u S' Q hr rs e a)
end
end _G
namespace _G
open PySem PySem.Spec _L
open PyProof.Rows hiding St
section
variable {prog:Program}{w:World}{A:Around}{E:Value->Shared->Prop}{s:Shared}
end
section
variable {X:Cx}{e:Expr}{te:TE}{pos p2 p3 p4:Pos}{j:Nat}
end
section
variable {K:KX}{σ:St}{H:Hp}{Q:VK}
end
def oN:ME:=λ_ S=>some (.ref S.length,S++[.dic []])
def qR(k v:ME):ME:=λG S=>bnd (k G (S++[.dic []])) λx S1=>bnd (v G S1) λy S2=>(keyOf x).bind λkk=>match S2[S.length]? with
 |some (.dic [])=>some (.ref S.length,S2.set S.length (.dic [(kk,y)]))
 |_=>none
section
variable {K:KX}{σ:St}{H:Hp}{Q:VK}
variable{μ:List Addr}{S:Sto}{p:Addr}
theorem As(hr:HR K μ S H)(hp:H p=none):HR K (μ++[p]) (S++[.dic []]) (upd H p (.dK [])):=
 hr.newC hp rfl ⟨[],cb,.nil⟩
theorem AR(hr:HR K μ S H):(μ++[p])[S.length]?=some p:=by
 rw[<-hr.len];simp
theorem K1(h:tM K oN σ H Q):Di σ H Q:=by
 obtain⟨μ,S,G,u,S',hr,er,e,k⟩:=h;cases e;intro p hp;exact k _ _ _ ⟨_,rfl⟩ (bq.new hp) (As hr hp) (rR (AR hr))
theorem Lm{a b:ME}(h:tM K (qR a b) σ H Q):IG [(tM K a,tM K b)] σ H Q:=by
 obtain⟨μ,S,G,u,S',hr,er,e,k⟩:=h;intro p hp;obtain⟨x,S1,e1,e⟩:=bu e;obtain⟨y,S2,e2,e⟩:=bu e;have pre:Pre μ _:=⟨[p],rfl⟩;refine⟨_,_,G,x,S1,As hr hp,er.mono (bq.new hp) pre,e1,λY0 vx H1 p1 k1 ZZ rx=>?_⟩;refine⟨_,S1,G,y,S2,ZZ,er.mono ((bq.new hp).trans k1) (pre.trans p1),e2,λY8 vy H2 p2 k2 ZV ry=>?_⟩;cases qk:keyOf x with
 |none=>simp_all
 | some kk=>
   rw[qk]at e
   split at e
   .rename_i q
    cases e;have hm:=p2.get (p1.get (AR hr));obtain⟨vs,e0,r0⟩:=ZV.cell _ _ p q hm;have kw:bq H2 (upd H2 p (.dK (o4 [] [(kk,vy)]))):=bq.wrG e0 (λ_ z=>by cases z) λ_ _ z=>by cases z
    refine⟨e0,[(kk,vy)],?_,by simp,?_⟩
    .rw[oM (RU.mono k2 p2 _ _ rx) qk];rfl
    .refine k _ _ _ (pre.trans (p1.trans p2)) ((bq.new hp).trans (k1.trans (k2.trans kw))) (ZV.wrC q hm rfl ⟨_,by rw[cb];rfl,.cons (RU.mono kw (Pre.refl _) _ _ ry) .nil⟩) (rR hm)
   .cases e
def t7:MF:=λus S=>match us with
 |[.int i]=>some (.int i,S)
 |[.bl k]=>some (.int (if k then 1 else 0),S)
 |_=>none
def Qh(i:Int):Prop:=i.natAbs.log2<1920
theorem Lc:oG K (λxs H Q=>(∃i,xs=[.int i]/\Q (.int i) H) \/ ∃k,xs=[.bl k]/\Q (.int (if k then 1 else 0)) H) t7:=by
 intro μ S H us vs u S' Q hr rs e a;unfold t7 at e
 split at e
 .cases e
  obtain⟨v,r,rfl,rx,rn⟩:=rs.inv;rw[rn.nil_inv,dq rx];exact .inl ⟨_,rfl,a.now hr eW⟩
 .cases e
  obtain⟨v,r,rfl,rx,rn⟩:=rs.inv;rw[rn.nil_inv,kR rx];exact .inr ⟨_,rfl,a.now hr eW⟩
 .cases e
end
abbrev MG:=U->Rho->Sto->Option (Rho×Sto)
abbrev MGs:=List U->Rho->Sto->Option (Rho×Sto)
def gN(i:Nat):MG:=λu G S=>some (G.set i (some u),S)
def oh:MGs:=λus G S=>match us with
 |[]=>some (G,S)
 |_=>none
def fG(g:MG)(r:MGs):MGs:=λus G S=>match us with
 |[]=>none
 |u::us=>(g u G S).bind λp=>r us p.1 p.2
def gTp(n:Nat)(gs:MGs):MG:=λu G S=>match u with
 |.tup us=>if us.length=n then gs us G S else none
 |_=>none
def tG(K:KX)(g:MG):TG:=λv σ H Q=>∃μ S G u r,HR K μ S H/\ER H μ G σ/\RU H μ u v/\g u G S=some r /\ ∀Y6 Y3 H',Pre μ Y6->bq H H'->HR K Y6 r.2 H'->ER H' Y6 r.1 Y3->Q Y3 H'
def tGs(K:KX)(g:MGs):TGs:=λvs σ H Q=>∃μ S G us r,HR K μ S H/\ER H μ G σ/\RUs H μ us vs/\g us G S=some r /\ ∀Y6 Y3 H',Pre μ Y6->bq H H'->HR K Y6 r.2 H'->ER H' Y6 r.1 Y3->Q Y3 H'
variable{X:Cx}
theorem PG.con{tg:Expr}{t u:TG}(h:PG X tg t)(k:∀v σ H Q,u v σ H Q->t v σ H Q):PG X tg u:=λpins s σ H v w Q I r q=>h _ s σ H v w Q I r (k _ _ _ _ q)
theorem PGs.con{tg:List Expr}{t u:TGs}(h:PGs X tg t)(k:∀v σ H Q,u v σ H Q->t v σ H Q):PGs X tg u:=λpins s σ H v w Q I r q=>h _ s σ H v w Q I r (k _ _ _ _ q)
section
variable {K:KX}{σ:St}{H:Hp}{Q:St->Hp->Prop}{v:V}{D:Ends}
theorem Qb{i:Nat}(h:tG K (gN i) v σ H Q):jM i v σ H Q:=by
 obtain⟨μ,S,G,u,r,hr,er,ru,e,k⟩:=h;cases e;exact k μ _ H (Pre.refl _) (bq.refl _) hr (er.set ru i)
variable{vs:List V}
theorem Kh(h:tGs K oh vs σ H Q):OP vs σ H Q:=by
 obtain⟨μ,S,G,us,r,hr,er,rs,e,k⟩:=h;cases us with
 |nil=>cases e;exact⟨rs.nil_inv,k μ _ H (Pre.refl _) (bq.refl _) hr er⟩
 |cons u us=>cases e
variable{gs:MGs}
theorem Hk{g:MG}(h:tGs K (fG g gs) vs σ H Q):IZ (tG K g) (tGs K gs) vs σ H Q:=by
 obtain⟨μ,S,G,us,r,hr,er,rs,e,k⟩:=h;cases us with
 |nil=>cases e
 | cons u us=>
   obtain⟨v,vr,rfl,ra,rb⟩:=rs.inv;cases q:g u G S with
   |none=>rw[show fG g gs _ G S=(g u G S).bind _ from rfl,q]at e;cases e
   | some p=>
     rw[show fG g gs _ G S=(g u G S).bind _ from rfl,q]at e;refine⟨v,vr,rfl,μ,S,G,u,p,hr,er,ra,q,λY0 Y7 H1 p1 k1 ZZ ZQ=>?_⟩;exact⟨_,_,_,us,r,ZZ,ZQ,RUs.mono k1 p1 _ _ rb,e,λY8 Y9 H2 p2 k2=>k _ _ H2 (p1.trans p2) (k1.trans k2)⟩
theorem OI{n:Nat}(h:tG K (gTp n gs) v σ H Q):OV K n (tGs K gs) v σ H Q:=by
 obtain⟨μ,S,G,u,r,hr,er,ru,e,k⟩:=h;unfold gTp at e
 split at e
 .rename_i us
  split at e
  .obtain⟨a,vs,rfl,ha,rs⟩:=hZ ru
   exact⟨a,vs,rfl,.inl (.inl ha),by rw[<-rs.len];omega,μ,S,G,us,r,hr,er,rs,e,k⟩
  .cases e
 .cases e
end
def Aa(g:MG)(b:MS):List U->MS
 |[],G,S=>some (.nx,G,S)
 |x::xs,G,S=>(g x G S).bind λp=>aft (b p.1 p.2) (Aa g b xs)
def sN(g:MG)(b:MS)(n:Nat):Nat->Nat->MS
 |0,_,_,_=>none
 | f+1,k,G,S=>(getL S n).bind λus=>match us[k]? with
   |none=>some (.nx,G,S)
   |some x=>(g x G S).bind λp=>aft (b p.1 p.2) (sN g b n f (k+1))
def IU(g:MG)(b:MS)(n:Nat):Nat->Nat->MS
 |0,_,_,_=>none
 | f+1,k,G,S=>(getL S n).bind λus=>match us[k]? with
   |none=>some (.nx,G,S)
   |some x=>(g (.tup [.int k,x]) G S).bind λp=>aft (b p.1 p.2) (IU g b n f (k+1))
def pZ(g:MG)(b:MS)(n:Nat)(us:List U):Nat->Nat->MS
 |0,_,_,_=>none
 | f+1,k,G,S=>(getL S n).bind λxs=>match xs[k]? with
   |none=>some (.nx,G,S)
   | some x=>match us[k]? with
     |none=>some (.nx,G,S)
     |some y=>(g (.tup [x,y]) G S).bind λp=>aft (b p.1 p.2) (pZ g b n us f (k+1))
def NP(g:MG)(b:MS):Src->MS
 |.imm us=>Aa g b us
 |.mut n=>sN g b n fuel 0
 |.enl n=>IU g b n fuel 0
 |.zlt n us=>pZ g b n us fuel 0
 |.zpt _ _=>λ_ _=>none
def j4(g:MG)(it:MI)(b:MS):MS:=λG S=>bnd (it G S) λsrc S1=>NP g b src G S1
section
variable {K:KX}{σ:St}{H:Hp}{Q:VK}{D:Ends}
variable{g:MG}{b:MS}{G:Rho}{S:Sto}{μ:List Addr}{r:Fl×Rho×Sto}
theorem rS{x:U}{v:V}{X4:List Addr}{H0:Hp}{k:MS}{N:St->Hp->Prop}(hr:HR K μ S H)(er:ER H μ G σ)(rx:RU H μ x v)(e:((g x G S).bind λp=>aft (b p.1 p.2) k)=some r)(p:Pre X4 μ)(kp:bq H0 H)(fl:FlP K X4 H0 D r)
  (hN:∀Y0 Y7 H1 Y5 S1,Pre X4 Y0->bq H0 H1->HR K Y0 S1 H1->ER H1 Y0 Y5 Y7->k Y5 S1=some r->N Y7 H1):tG K g v σ H λY9 H2=>tMS K b { D with nx:=N,ct:=N,bk:=D.nx } Y9 H2:=by
 cases q:g x G S with
 |none=>rw[q]at e;cases e
 | some y=>
   rw[q]at e;exact⟨μ,S,G,x,y,hr,er,rx,q,λY0 Y7 H1 p1 k1 ZZ ZQ=>oR ZZ ZQ e (p.trans p1) (kp.trans k1) fl hN⟩
variable{us:List U}{vs:List V}{a:Addr}
theorem GM(hr:HR K μ S H)(er:ER H μ G σ)(e:Aa g b us G S=some r)(fl:FlP K μ H D r)(ha:H a=some (.tup vs))(ru:RUs H μ us vs):
  ∃W:Nat->Nat->St->Hp->Prop,(∃m,W 0 m σ H) /\ ∀k m σ H,W k m σ H ->
   ((Itt K a).stop k H/\D.nx σ H)\/((Itt K a).go k H /\ ∃N:St->Hp->Prop,(∀Y3 H',N Y3 H'->∃m',m'<m/\W (k+1) m' Y3 H') /\ ∀x H',(Itt K a).yld k H x H'->tG K g x σ H' λY9 H2=>tMS K b { D with nx:=N,ct:=N,bk:=D.nx } Y9 H2):=by
 refine⟨λk m Y7 H1=>m+k=us.length /\ ∃Y0 S1 Y5,Pre μ Y0/\bq H H1/\HR K Y0 S1 H1/\ER H1 Y0 Y5 Y7/\Aa g b (us.drop k) Y5 S1=some r,⟨_,rfl,μ,S,G,Pre.refl _,bq.refl _,hr,er,e⟩,?_⟩;rintro k m Y7 H1 ⟨hm,Y0,S1,Y5,p1,k1,ZZ,ZQ,e1⟩;have hq:SqT K H1 a vs:= .inl (.inl (k1 a vs ha));cases m with
 | zero=>
   have hk:k=us.length:=by omega
   subst hk;rw[vd]at e1;cases e1;exact .inl ⟨⟨vs,hq,by rw[ru.len]<;>simp_all⟩,fl _ _ H1 p1 k1 ZZ ZQ⟩
 | succ m=>
   have hu:us[k]?=some us[k]:=by simp
   obtain⟨v,hv,rv⟩:=ru.get hu;rw[drop_cons hu]at e1;refine .inr ⟨⟨vs,v,hq,hv⟩,_,λY3 H' w=>⟨m,cw _,by omega,w⟩,λx H' y=>?_⟩;obtain⟨e',y⟩:=y;subst e';have hx:=y vs hq;rw[hv]at hx;cases hx;exact rS ZZ ZQ (RU.mono k1 p1 _ _ rv) e1 p1 k1 fl λY8 Y9 H2 X0 S2 p2 k2 ZV YF e2=>⟨_,S2,_,p2,k2,ZV,YF,e2⟩
theorem Gv{n f:Nat}(hr:HR K μ S H)(er:ER H μ G σ)(e:sN g b n f 0 G S=some r)(fl:FlP K μ H D r)(ha:μ[n]?=some a):
  ∃W:Nat->Nat->St->Hp->Prop,(∃m,W 0 m σ H) /\ ∀k m σ H,W k m σ H ->
   ((Itl K a).stop k H/\D.nx σ H)\/((Itl K a).go k H /\ ∃N:St->Hp->Prop,(∀Y3 H',N Y3 H'->∃m',m'<m/\W (k+1) m' Y3 H') /\ ∀x H',(Itl K a).yld k H x H'->tG K g x σ H' λY9 H2=>tMS K b { D with nx:=N,ct:=N,bk:=D.nx } Y9 H2):=by
 refine⟨λk m Y7 H1=>∃Y0 S1 Y5,Pre μ Y0/\bq H H1/\HR K Y0 S1 H1/\ER H1 Y0 Y5 Y7/\sN g b n m k Y5 S1=some r,⟨f,μ,S,G,Pre.refl _,bq.refl _,hr,er,e⟩,?_⟩;rintro k m Y7 H1 ⟨Y0,S1,Y5,p1,k1,ZZ,ZQ,e1⟩;cases m with
 |zero=>cases e1
 | succ m=>
   unfold sN at e1;cases q:getL S1 n with
   |none=>simp_all
   | some us=>
     rw[q]at e1;simp at e1;obtain⟨a',vs,Zk,hs,rs⟩:=ZZ.sq q;rw[p1.get ha]at Zk;cases Zk;cases z:us[k]? with
     | none=>
       rw[z]at e1;cases e1;refine .inl ⟨⟨vs,hs,?_⟩,fl _ _ H1 p1 k1 ZZ ZQ⟩;rw[<-rs.len];simp_all
     | some u=>
       rw[z]at e1;obtain⟨v,hv,rv⟩:=rs.get z;refine .inr ⟨⟨vs,v,hs,hv⟩,_,λY3 H' w=>⟨m,cw _,w⟩,λx H' y=>?_⟩;obtain⟨e',y⟩:=y;subst e';have hx:=y vs hs;rw[hv]at hx;cases hx;exact rS ZZ ZQ rv e1 p1 k1 fl λY8 Y9 H2 X0 S2 p2 k2 ZV YF e2=>⟨_,S2,_,p2,k2,ZV,YF,e2⟩
theorem Ii{a:ME}(h:tMS K (j4 g (di a) b) D σ H):tZ (λσ H R=>uy K (tM K a) σ H R\/Bx K (tM K a) σ H R) (tG K g) (tMS K b) D σ H:=by
 obtain⟨μ,S,G,r,hr,er,e,fl⟩:=h;obtain⟨src,S1,e1,e⟩:=bu e;refine zv hr er e1 (λY0 H1 us p vs p1 k1 ZZ hs hp rs=>?_) λY0 H1 n p p1 k1 ZZ hs hp=>?_
 .subst hs
  exact GM ZZ (er.mono k1 p1) e (fl.mono p1 k1) hp rs
 .subst hs
  exact Gv ZZ (er.mono k1 p1) e (fl.mono p1 k1) hp
theorem J6{a:MA}{R:It->Hp->Prop}{S1:Sto}{src:Src}(hr:HR K μ S H)(er:ER H μ G σ)(e:xF a G S=some (src,S1))
  (hR:∀Y0 H1 n us p q vs,Pre μ Y0->bq H H1->HR K Y0 S1 H1->src=.zlt n us->Y0[n]?=some p->H1 q=some (.tup vs)->RUs H1 Y0 us vs->R (Itz K true p q) H1)
  (hT:∀Y0 H1 us ws p q xs ys,Pre μ Y0->bq H H1->HR K Y0 S1 H1->src=.zpt us ws->H1 p=some (.tup xs)->RUs H1 Y0 us xs->H1 q=some (.tup ys)->RUs H1 Y0 ws ys->R (Itz K false p q) H1):Ax K (tMA K a) σ H R:=by
 obtain⟨xs,S2,e1,e⟩:=bu e
 split at e
 .rename_i n us
  cases q:getL S2 n with
  |none=>rw[q]at e;cases e
  | some ws=>
    rw[q]at e;simp only[cP,jP,yC]at e;obtain⟨e2,e3⟩:=e;subst e3;refine⟨μ,S,G,_,_,hr,er,e1,λY0 vs H1 p1 k1 ZZ rs=>?_⟩;obtain⟨v,r,rfl,rx,rn⟩:=rs.inv;obtain⟨v2,r2,rfl,ry,Wu⟩:=rn.inv;rw[Wu.nil_inv];obtain⟨p,rfl,hp⟩:=fT rx;obtain⟨p2,vs,rfl,WU,r⟩:=hZ ry;obtain⟨a',zs,Zk,hs,_⟩:=ZZ.sq q;rw[hp]at Zk;cases Zk;exact⟨true,p,p2,zs,vs,rfl,hs,.inl (.inl WU),hR Y0 H1 n us p p2 vs p1 k1 ZZ e2.symm hp WU r⟩
 .cases e
  refine⟨μ,S,G,_,_,hr,er,e1,λY0 vs H1 p1 k1 ZZ rs=>?_⟩;obtain⟨v,r,rfl,rx,rn⟩:=rs.inv;obtain⟨v2,r2,rfl,ry,Wu⟩:=rn.inv;rw[Wu.nil_inv];obtain⟨p,xs,rfl,hp,r⟩:=hZ rx;obtain⟨p2,ys,rfl,WU,r2⟩:=hZ ry;exact⟨false,p,p2,xs,ys,rfl,.inl (.inl hp),.inl (.inl WU),hT Y0 H1 _ _ p p2 xs ys p1 k1 ZZ rfl hp r WU r2⟩
 .cases e
theorem GY{n f:Nat}{c:Addr}(hr:HR K μ S H)(er:ER H μ G σ)(e:pZ g b n us f 0 G S=some r)(fl:FlP K μ H D r)(ha:μ[n]?=some a)(hc:H c=some (.tup vs))(ru:RUs H μ us vs):
  ∃W:Nat->Nat->St->Hp->Prop,(∃m,W 0 m σ H) /\ ∀k m σ H,W k m σ H ->
   ((Itz K true a c).stop k H/\D.nx σ H)\/((Itz K true a c).go k H /\ ∃N:St->Hp->Prop,(∀Y3 H',N Y3 H'->∃m',m'<m/\W (k+1) m' Y3 H') /\ ∀x H',(Itz K true a c).yld k H x H'->tG K g x σ H' λY9 H2=>tMS K b { D with nx:=N,ct:=N,bk:=D.nx } Y9 H2):=by
 refine⟨λk m Y7 H1=>∃Y0 S1 Y5,Pre μ Y0/\bq H H1/\HR K Y0 S1 H1/\ER H1 Y0 Y5 Y7/\pZ g b n us m k Y5 S1=some r,⟨f,μ,S,G,Pre.refl _,bq.refl _,hr,er,e⟩,?_⟩;rintro k m Y7 H1 ⟨Y0,S1,Y5,p1,k1,ZZ,ZQ,e1⟩;have hq:SqT K H1 c vs:= .inl (.inl (k1 c vs hc));cases m with
 |zero=>cases e1
 | succ m=>
   unfold pZ at e1;cases q:getL S1 n with
   |none=>rw[q]at e1;cases e1
   | some xs=>
     rw[q]at e1;simp only[aG]at e1;obtain⟨a',ws,Zk,hs,rs⟩:=ZZ.sq q;rw[p1.get ha]at Zk;cases Zk;cases z:xs[k]? with
     | none=>
       rw[z]at e1;cases e1;refine .inl ⟨⟨ws,vs,hs,hq,.inl ?_⟩,fl Y0 Y7 H1 p1 k1 ZZ ZQ⟩;rw[<-rs.len];exact zR.mp z
     | some u=>
       rw[z]at e1;obtain⟨v,hv,rv⟩:=rs.get z;cases z2:us[k]? with
       | none=>
         simp only[z2]at e1;cases e1;refine .inl ⟨⟨ws,vs,hs,hq,.inr ?_⟩,fl Y0 Y7 H1 p1 k1 ZZ ZQ⟩;rw[<-ru.len];exact zR.mp z2
       | some y=>
         simp only[z2]at e1;obtain⟨v2,Sr,XB⟩:=ru.get z2;refine .inr ⟨⟨ws,v,vs,v2,hs,hv,hq,Sr⟩,λY9 H2=>∃Y8 S2 X0,Pre μ Y8/\bq H H2/\HR K Y8 S2 H2/\ER H2 Y8 X0 Y9/\pZ g b n us m (k+1) X0 S2=some r,λY3 H' w=>⟨m,cw _,w⟩,λx H' yl=>?_⟩;obtain⟨T,w1,w2,QQ,hy2,hT,rfl,rfl⟩:=yl;have TJ:=QQ ws hs;rw[hv]at TJ;cases TJ;have VQ:=hy2 vs hq;rw[Sr]at VQ;cases VQ;have kp:bq H1 (upd H1 T (.tup [v,v2])):=bq.new hT;have rx:RU (upd H1 T (.tup [v,v2])) Y0 (.tup [u,y]) (.ref T):=kJ cb (.cons (RU.mono kp (Pre.refl _) _ _ rv) (.cons (RU.mono (k1.trans kp) p1 _ _ XB) .nil));exact rS (ZZ.tup hT) (ZQ.mono kp (Pre.refl _)) rx e1 p1 (k1.trans kp) fl λY8 Y9 H2 X0 S2 p2 k2 ZV YF e2=>⟨Y8,S2,X0,p2,k2,ZV,YF,e2⟩
theorem MR{a:MA}(h:tMS K (j4 g (xF a) b) D σ H):tZ (Ax K (tMA K a)) (tG K g) (tMS K b) D σ H:=by
 obtain⟨μ,S,G,r,hr,er,e,fl⟩:=h;obtain⟨src,S1,e1,e⟩:=bu e;refine J6 hr er e1 (λY0 H1 n us p q vs p1 k1 ZZ hs hp hq rs=>?_) λY0 H1 us ws p q xs ys p1 k1 ZZ hs _ _ _ _=>?_
 .subst hs
  exact GY ZZ (er.mono k1 p1) e (fl.mono p1 k1) hp hq rs
 .subst hs
  cases (show none=some r from e)
end
section
variable {K:KX}{σ:St}{H:Hp}{Q:VK}
end
section
variable {prog:Program}{w:World}{A:Around}{E:Value->Shared->Prop}{s:Shared}
variable{r:Addr}{n:Nat}
theorem tV{Q:List Value->Shared->Prop}{a b c:Int}{t u v:Tok}(hh:A.handled=none)(hr:IsRange s.heap r a b c t u v)(Zp:mm a b c=true)
  (hn:dZ a b c=n) (hlen:n<=2^24)
  (hQ:∀(h':Heap) (tk:Nat) (acc:Array Value),(∀b o,s.heap.get? b=some o->h'.get? b=some o)->s.heap.objs.size<=h'.objs.size->ItemsOf (λi v=>∃t,v=.int (a+i*c) t) acc n->Q acc.toList { s with heap:=h',toks:=tk }):
  aN (model prog w) A (collect (.ref r)) Q E s:=by
 refine ag (FE (fA pM ?_));refine ag (eJ (aF ⟨plainId_quiet wo _,fA wq ?_⟩));have hS:(s.heap.push _).get? _=some { cls := .type "list",data := .seq #[] 0 }:=ay _ rfl;have lt:∀b o,s.heap.get? b=some o->b≠s.heap.objs.size:=λb o e=>aL (aw e)
 refine bE (wpAny_extend_range (R:=λx s' =>∃h' tk acc c',x = .ok _/\s'={ s with heap:=h',toks:=tk }/\(∀b o,s.heap.get? b=some o->h'.get? b=some o) /\
   h'.get? _=some { cls:= .type _,dict:=none,data:= .seq acc c',slots:= #[] }/\ItemsOf _ acc n)
  hh (af _ hr) Zp hn hlen _ _ 0 hS
  λh' tk acc c' hk WX ZJ=>⟨h',tk,_,c',rfl,rfl,λb o e=>hk b o (lt b o e) (af _ e),WX,ZJ⟩) (λfin s' h =>?_) (λe s' h=>by simp_all)
 have WT: ∀x s',(∃h' tk acc c',x=(.ok (.ret (.ref s.heap.objs.size)):Result)/\s'={ s with heap:=h',toks:=tk }/\(∀b o,s.heap.get? b=some o->h'.get? b=some o) /\
   h'.get? s.heap.objs.size=some { cls := .type "list",dict:=none,data := .seq acc c',slots := #[] }/\ItemsOf (fun i v=>∃ t,v=.int (a+i*c) t) acc n)->x=.ok (.ret (.ref s.heap.objs.size))/\aN (model prog w) A (match bW s.heap.objs.size with
   | bW a=>do
     match (<- load a).data with
      |FM xs _=>pure xs.toList
      |_=>unsupported "internal:collect"
   | _=>unsupported "internal:collect") Q E s':=by
  rintro x s' ⟨h',tk,acc,c',rfl,rfl,hk,WX,ZJ⟩;refine⟨rfl,?_⟩;refine ag (Fv WX (aF ?_));exact hQ h' tk _ hk (aE (aw WX)) ZJ
 cases fin with
 | done f=>
   obtain⟨e,q⟩:=WT _ _ h;cases e;omega
 | again c'=>exact⟨h.1,ij h.2 λr s'' hr=>by
   obtain⟨e,q⟩:=WT _ _ hr;subst e
   omega⟩
theorem lU{Q₁:Value->Shared->Prop}{a b c:Int}{t u v:Tok}(hh:A.handled=none)(hr:IsRange s.heap r a b c t u v)(Zp:mm a b c=true)
  (hn:dZ a b c=n) (hlen:n<=2^24)
  (h :∀ (h':Heap) (tk:Nat) (acc:Array Value),(∀ b o,s.heap.get? b=some o->h'.get? b=some o)->s.heap.objs.size<=h'.objs.size->ItemsOf (fun i v=>∃ t,v=.int (a+i*c) t) acc n->Q₁ (.ref h'.objs.size) { s with heap:=h'.push { cls := .type "tuple",data := .seq acc },toks:=tk }) :
  pL (model prog w) A (.call (.builtin "tuple.__new__") ⟨[.type "tuple",.ref r],[]⟩) (wants Q₁ E) s:=by
 refine codeAny_of_tree ?_;show aN _ A.in1 (do checkBuiltinCall "tuple.__new__" ⟨[.type "tuple",.ref r],[]⟩;again (.builtin "tuple.__new__" ⟨[.type "tuple",.ref r],[]⟩)) _ _ s;refine ag (wpAny_of_eq (F.newCall_tuple_1 _) (aF ⟨plainId_quiet F.plain_tuple_new _,fA F.entry_tuple_new ?_⟩));rw[Around.under_plainId F.plain_tuple_new _];have V0:=sub_tuple_self;have hinit:=init_tuple_lookup;have hmh:=madeHere_tuple;have Zf:s.TypeIs (.ref r) "range":=⟨_,hr,rfl⟩;have QV:A.in1.handled=none:=hh
 wp_walk using wpAny_typeOf Zf,tV QV hr Zp hn hlen
 intro h' tk acc hk hle ZJ;show aN _ _ (tz acc.toList.toArray >>= λv=>ret v) _ _ _;unfold tz;refine ag (eJ ?_ (by show acc.toList.toArray.size<=sizeLine;simp only[Array.toArray_toList];rw[ZJ.1,sizeLine_eq];exact hlen));refine aF ?_;have e:acc.toList.toArray=acc:=by simp
 rw[e];exact h h' tk acc hk hle ZJ
theorem pg{Q:Value->Shared->Prop}{a b c:Int}{t u v:Tok}(hh:A.handled=none)(hr:IsRange s.heap r a b c t u v)(Zp:mm a b c=true)
  (hn:dZ a b c=n) (hlen:n<=2^24)
  (h :∀ (h':Heap) (tk:Nat) (acc:Array Value),(∀ b o,s.heap.get? b=some o->h'.get? b=some o)->s.heap.objs.size<=h'.objs.size->ItemsOf (fun i v=>∃ t,v=.int (a+i*c) t) acc n->Q (.ref h'.objs.size) { s with heap:=h'.push { cls := .type "tuple",data := .seq acc },toks:=tk }) :
  aN (model prog w) A (call (.type "tuple") [.ref r]) Q E s:=by
 refine callType_codes (Q₁:=λobj ZT=>ZT.TypeIs obj _/\Q obj ZT) F.called_tuple (F.typeCall_tuple_1 _) F.entry_object_init
  (lU hh hr Zp hn hlen λh' tk acc hk hle ZJ=>⟨⟨_,ay _ rfl,rfl⟩,h h' tk _ hk hle ZJ⟩) λobj ZT YQ=>?_
 exact⟨YQ.1,F.args_object_init_2 _ _,object_init_meets F.called_tuple.init.lookup F.called_tuple.made (by decide) _ w _ _ _ ⟨YQ.1,rfl,YQ.2⟩⟩
end
theorem sv (hc:X.calm=true):iu X (.type "tuple") (fun xs H Q=>∃ r lo hi,xs=[.ref r]/\H r=some (.rng lo hi)/\(-(2^62)<=lo/\lo<2^62 /\ -(2^62)<=hi/\hi<2^62)/\(hi-lo).toNat<=sizeLine /\ ∀ l,H l=none->Q (.ref l) (upd H l (.tup (mW lo (hi-lo).toNat)))):=by
 intro pins s σ H xs us Q I rs h;obtain⟨r,lo,hi,rfl,hr,⟨h1,h2,h3,h4⟩,hz,q⟩:=h;cases rs with
 | cons r1 rr=>
   cases rr;cases (r1);obtain⟨t,u,v,e⟩:=I.hok r _ hr;have hn:dZ lo hi 1=((hi-lo).toNat):=by rw[rangeSize_one];grind
   refine pg (I.ok.hd hc) e (small_one h1 h2 h3 h4) hn (by exact hz) λh' tk acc hk hle ZJ=>?_;obtain⟨ZG,hit⟩:=ZJ;refine⟨.ref _,_,I.laid (λb o e=>af _ (hk b o e)) hle ?_,rfl,q _ (I.hok.fresh hle)⟩;refine⟨by rw[mW,ar,be];omega,_,?_,AW _ _,_,ay _ rfl,rfl⟩;refine vB (by rw[mW,ar,be,bX,ZG]) λi x w h5 h6=>?_;have ZU:=by
    have:=(ah.mp h5).1;rwa[mW,ar,be]at this
   have hx:(mW lo (hi-lo).toNat)[i]?=some (.int (lo+i)):=by simp[mW,ZU]
   rw[hx]at h5;cases h5;obtain⟨t',e'⟩:=hit i w (by simpa using h6);exact⟨t',by rw[e'];simp⟩
section
variable {K:KX}{σ:St}{H:Hp}{Q:VK}
def rTR:List V->Hp->VK->Prop:=λxs H Q=>∃r lo hi,xs=[.ref r]/\H r=some (.rng lo hi)/\(-(2^62)<=lo/\lo<2^62 /\ -(2^62)<=hi/\hi<2^62)/\(hi-lo).toNat<=sizeLine /\ ∀l,H l=none->Q (.ref l) (upd H l (.tup (mW lo (hi-lo).toNat)))
theorem ES{μ:List Addr}{S1:Sto}{i j:Int}{r:Addr}(ZZ:HR K μ S1 H)(ho:okR i/\okR j)(hz:(bx i (j-i).toNat).length<=big)(k:Aft K μ H (.tup (bx i (j-i).toNat)) S1 Q)(XQ:H r=none):rTR [.ref r] (upd H r (.rng i j)) Q:=by
 refine⟨r,i,j,rfl,cb,⟨ho.1.1,ho.1.2,ho.2.1,ho.2.2⟩,?_,λl hl=>?_⟩
 .unfold bx big at hz;rw[ar,be]at hz;exact hz
 .have k2:=k.mono (Pre.refl _) (bq.new XQ (o:= .rng i j))
  exact k2 μ _ _ (Pre.refl _) (bq.new hl) ((ZZ.rng XQ).tup hl) (kJ cb (RUs.mono (bq.new hl) (Pre.refl _) _ _ (zV _ _)))
theorem HW{a:MA}(h:tM K (uz (iR1 a)) σ H Q):tCB rTR (AI (Jm (tMA K a)) DZ) σ H Q:=by
 obtain⟨μ,S,G,u,S',hr,er,e,k⟩:=h;obtain⟨src,S1,e1,e⟩:=bu e;obtain⟨xs,S2,e2,e1⟩:=bu e1;refine⟨μ,S,G,xs,S2,hr,er,e2,λY0 vs H1 p1 k1 ZZ rs=>?_⟩
 split at e1
 .rename_i j
  split at e1
  .rename_i hj
   cases e1;simp only at e
   split at e
   .cases e
    obtain⟨v,r,rfl,rx,rn⟩:=rs.inv;rw[rn.nil_inv,dq rx];refine⟨j,rfl,hj.1,hj.2,λr XQ=>?_⟩;have ez:(j-0).toNat=j.toNat:=by simp
    exact ES ZZ ⟨⟨by decide,by decide⟩,hj⟩ (by rw[ez];omega) (by rw[ez];exact k.mono p1 k1) XQ
   .cases e
  .cases e1
 .cases e1
end
def A8(i:Nat)(f:Addr)(φ:MF)(a:MA):ME:=λG S=>match G[i]? with
 |some (some (.obj g))=>if g=f then mFn φ a G S else none
 |_=>none
def jt(is:List Nat)(G:Rho):Option (List U):=cZ (λi=>(G[i]?).bind id) is
def nu(np:Nat)(ml:ME)(cs:List U):MF:=λus S=>if us.length=np then ml (us.map some++cs.map some) S else none
def oZ(F:Addr->MF->MF)(np:Nat)(is:List Nat)(ml:ME)(ma:ME):ME:=λG S=>bnd (ma G S) λx S1=>(jt is G).bind λcs=>
 open Classical in
 if h:∃r,∀f,F f (nu np ml cs) [x,.obj f] S1=some r then some h.choose else none
theorem DT{F:Addr->MF->MF}{np:Nat}{is:List Nat}{ml ma:ME}{G:Rho}{S S1:Sto}{x:U}{cs:List U}{r:U×Sto}(ha:ma G S=some (x,S1))(hc:jt is G=some cs)(h:∀f,F f (nu np ml cs) [x,.obj f] S1=some r):
  oZ F np is ml ma G S=some r:=by
 have hx:∃r,∀f,F f _ [x,.obj f] S1=some r:=⟨r,h⟩;unfold oZ;rw[ha];simp only[aB,hc,aG];rw[dif_pos hx];have e:=(hx.choose_spec 0).symm.trans (h 0);omega
structure Lam(M:Mo)(f:Addr)(k:Nat)(ps:List Str)(φ:MF):Prop where
 ex:∃fd:FuncData,((∃(oc:Value) (od:Option Addr) (sl:Array (Option Value)),M.base.get? f=some ⟨oc,od,.func fd,sl⟩)\/cg M.K (.ref f)=true)/\Binds M.K fd ps []/\iY M.P M.w M.K M.mg M.base CX0 k f fd ps (spM M.K φ)
section
variable {M:Mo}{X:Cx}{k:Nat}{N:List Str}{ns:List (Str×NameKind)}{e:Expr}{es:List Expr}{mas:MA}{x:Str}{p1 pos:Pos}
theorem GK{f:Addr}{φ:MF}{ps:List Str}{k':Nat}(S:Sc M X k N ns)(F:Lam M f k' ps φ)(hk:k'<=k)(i:Nat)(hi:N[i]?=some x)(hv:nK ns x=true)(ha:PA X (e::es) (tMA M.K mas))
  (hd:(x==("__debug__":Str))=false) (Zs:(x==("__classdict__":Str))=false)
  (he:starEach (e::es) X.env=(false,eval e X.env)::starEach es X.env) (ZO:(backTo pos (starEach es X.env)).any (·.1)=false):
  PE X (.Call (.Name x p1) (e::es) [] pos) (tM M.K (A8 i f φ mas)):=by
 obtain⟨fd,hf,hb,F⟩:=F.ex;rw[<-S.hP,<-S.hw,<-S.hK,<-S.hm,<-S.hb]at F;rw[<-S.hb,<-S.hK]at hf;rw[<-S.hK]at hb;intro pins s σ H Q I h;obtain⟨μ,S0,G,u,S',hr,er,q,aft⟩:=h;unfold A8 at q
 split at q
 rotate_left
 .cases q
 rename_i g hg
 split at q
 rotate_left
 .cases q
 rename_i QN
 subst QN;obtain⟨v,X3,rv⟩:=er.get i _ hg;have Vj:=by omega
 subst Vj;refine dE (thn (rK (by rw[S.hN];omega) (S.vis hv) hd Zs _ s σ H (λv H1=>v=.ref g/\H1=H) I ⟨_,X3,rfl,rfl⟩) λw s1 ⟨v,H1,I1,r1,e1,e2⟩=>?_);subst e1;subst e2;obtain rfl:w=bW g:=r1;have hc:AE _ [] E0 _ σ H1 Q:=EM ⟨μ,S0,G,u,S',hr,er,q,aft⟩;have hA:=ha pos _ s1 σ H1 _ I1 hc;rcases hf with⟨oc,od,sl,hf⟩ |hf
 rotate_left
 .exact jY I1.ok.mod.kin hf (thn hA λus s2 ⟨vs,H2,I2,r2,q2⟩=>⟨I2.kIn,qQ F (S.room.mono hk) hb .nil uM I2 r2 q2⟩) he ZO
 rw[he];refine Cw (P:=λh=>h.get? g=some ⟨oc,od,.func fd,sl⟩) (by show((false||(backTo _ _).any _)||false)=false;rw[ZO];rfl)
  (λh q=>⟨_,.inl rfl,(oV q).andThen .now⟩) (jy ?_)
 rw[he]at hA;refine thn hA λus s2 ⟨vs,H2,I2,r2,q2⟩=>⟨I2.bk g _ hf,?_⟩;exact qQ F (S.room.mono hk) hb .nil uM I2 r2 q2
end
end _G
namespace _G
open PySem PySem.Spec _L
open PySem.W (envX kla_fn kla_obj CodeHd tabObj)
open PyProof.Rows hiding St
structure iQ(ps fs:List Str)(scope:Scope):Prop where
 kind:scope.kind=.function
 co:scope.isCoroutine=false
 gen:scope.isGenerator=false
 nd:(ps++fs).Nodup
 par:∀p∈ps,scope.names.lookup p=some .local\/scope.names.lookup p=some .cell
 cel:∀x∈scope.names,x.2=.cell->scope.names.lookup x.1=some .cell
 fre:∀y∈scope.names,y.2=.free->y.1∈fs
 free:∀y∈fs,scope.names.lookup y=some .free
theorem nD:∀(names:List (Str×NameKind)) (n:Nat) (a b:List (Str×Addr)),cellsFrom n names (a++b)=cellsFrom n names a++b
 |[],_,_,_=>rfl
 | (x,k)::r,n,a,b=>by
   unfold cellsFrom;cases k==d5 with
   |true=>exact nD r _ ((x,n)::a) b
   |false=>exact nD r n a b
theorem A4(names:List (Str×NameKind))(n:Nat)(b:List (Str×Addr)):cellsFrom n names b=cellsFrom n names []++b:=nD _ n [] b
theorem o9:∀(names:List (Str×NameKind)) (n:Nat) (a:List (Str×Addr)) {x:Str}{c:Addr},(x,c)∈cellsFrom n names a->(x,d5)∈names\/(x,c)∈a
 |[],_,_,_,_,h=>.inr h
 | (y,k)::r,n,a,x,c,h=>by
   unfold cellsFrom at h
   split at h
   .rcases o9 r _ _ h with h|h<;>grind
   .exact(o9 r n a h).imp (av _) id
variable{x:Str}
theorem gI{α:Type}{c:α}:∀{a b:List (Str×α)},a.lookup x=some c->(a++b).lookup x=some c
 |a,b,h=>by rw[iy,h];rfl
theorem iX{α:Type}:∀{a b:List (Str×α)},a.lookup x=none->(a++b).lookup x=b.lookup x
 |a,b,h=>by rw[iy,h];rfl
theorem iC{α:Type}{c:α}{a b:List (Str×α)}(h:(a++b).lookup x=some c):a.lookup x=some c\/(a.lookup x=none/\b.lookup x=some c):=by
 cases q:a.lookup x with
 |some d=>rw[gI q]at h;exact .inl h
 |none=>rw[iX q]at h;exact .inr ⟨rfl,h⟩
theorem qT{f g:Str×Value->PUnit->Sem (ForInStep PUnit)}:∀{l:List (Str×Value)},(∀x∈l,∀u,f x u=g x u)->forIn l PUnit.unit f=forIn l PUnit.unit g
 |[],_=>rfl
 | x::l,h=>by
   have ih:=qT λy hy=>h y (av _ hy)
   simp_all
variable{env:Env}
theorem yT{cs:List (Str×Addr)}{v:Value}(h:env.kindOf x=some .local\/env.cells.lookup x=cs.lookup x):storeName env x v=storeName { env with cells:=cs } x v:=by
 rcases h with h|h
 .have h':Env.kindOf { env with cells:=cs } x=some _:=h
  unfold storeName;rw[h,h'];rfl
 .have e:cellOf env x=cellOf { env with cells:=cs } x:=by unfold cellOf;rw[h]
  unfold storeName;rw[e];rfl
variable{A:Around}{scope:Scope}{cl:List (Str×Addr)}{qual:Str}
theorem zW{M:Model}{E:Value->Shared->Prop}{s:Shared}{g:Addr}{binds:List (Str×Value)}{func:Option Addr}{code:Value}{bt:Addr}{Q:Env->Shared->Prop}(hk:scope.kind=.function)
  (hb:∀x∈binds,scope.names.lookup x.1=some .local\/scope.names.lookup x.1=some .cell)
  (hQ: ∀s',InCallC s s.heap.objs.size (bindL (λx=>scope.names.lookup x) binds λ_=>none) (cellsFrom (s.heap.objs.size+1) scope.names []) (bindC (λx=>scope.names.lookup x) binds λ_=>none) s' ->
   Q (newEnv scope s.heap.objs.size g (cellsFrom (s.heap.objs.size+1) scope.names []++cl) qual func code none bt) s'):
  aN M A (newFunctionEnv scope g cl binds qual func code none bt) Q E s:=by
 have ok:CellsOk (pushCells (s.heap.push { cls := .type "frame",data := .dict #[] }) _) _ _:=
  cellsFrom_ok scope.names _ _ [] ⟨λ_ _ z=>(nomatch z),gW⟩ (by exact ao _)
 rw[bF]at ok;have RB:InCallC s _ _ _ _ _:=
  ⟨⟨⟨_,s.toks,rfl⟩,(Heap.Ns.new _ _).keeps λb o e=>pushCells_keeps _ _ b o e,λb o e=>pushCells_keeps _ _ b o (af _ e),ao _⟩,
   λn c hc=>(ok.empty n c (mem_of_lookup hc)).1,ok.apart,λn c hm=>Nat.lt_of_succ_le (ok.empty n c hm).2⟩
 refine ag (wpAny_alloc (ag (wpAny_layCells _ (λnm kd cs=>by cases q:kd==d5<;>simp[q]) _ _ _ _ ?_)));rw[bF ..,A4];refine ag ?_;have same:∀x∈binds,∀v,storeName (newEnv _ s.heap.objs.size g (cellsFrom (s.heap.objs.size+1) _ []++cl) _ _ _ none bt) _ v=storeName (newEnv _ _ g _ qual func code none bt) _ v:=λx hx v=>by
  refine yT ?_;rcases hb x hx with h|h
  .exact .inl h
  .obtain⟨c,hc⟩:=jo h
   exact .inr (by rw[hc];exact gI hc)
 show aN M A (forIn binds _ λx _=>(do storeName (newEnv _ _ g _ _ _ _ none bt) x.1 _;pure _)) _ E _;rw[qT λx hx u=>by rw[same x hx]];refine wpAny_bindParams _ (λ_ _ _=>rfl) hk _ _ _ _ _ RB (λx hx=>?_) λs' x=>aF (hQ s' x);rcases hb x hx with h |h
 .exact .inl h
 .obtain⟨c,hc⟩:=jo h
  exact .inr ⟨h,by show((cellsFrom _ _ []).lookup _).isSome=true;rw[hc];rfl⟩
def lq(base:Heap)(cl:List (Str×Addr)):List Str->List V->Prop
 |[],[]=>True
 |y::fs,v::vs=>(∃c o u,cl.lookup y=some c/\base.get? c=some o/\o.data=.cell (some u)/\RelV v u)/\lq base cl fs vs
 |_,_=>False
theorem lq.len{base:Heap}{cl:List (Str×Addr)}:∀{fs:List Str}{vs:List V},lq base cl fs vs->fs.length=vs.length
 |[],[],_=>rfl
 |_::_,_::_,h=>by simp[lq.len h.2]
 |[],_::_,h=>h.elim
 |_::_,[],h=>h.elim
theorem lq.get{base:Heap}{cl:List (Str×Addr)}:∀{fs:List Str}{vs:List V}{i:Nat}{y:Str}{v:V},lq base cl fs vs->fs[i]?=some y->vs[i]?=some v->∃c o u,cl.lookup y=some c/\base.get? c=some o/\o.data=.cell (some u)/\RelV v u
 |[],_,i,y,v,_,h1,_=>by simp at h1
 |_::_,[],i,y,v,h,_,_=>h.elim
 | _::_,_::_,0,y,v,h,h1,h2=>by
   simp at h1 h2;subst h1;subst h2;exact h.1
 |_::_,_::_,i+1,y,v,h,h1,h2=>lq.get h.2 (by simpa using h1) (by simpa using h2)
def o6(qual:Str)(scope:Scope)(L f:Addr)(cd:Value)(cl:List (Str×Addr)):Env:=envX qual scope L f cd (cellsFrom (L+1) scope.names []++cl)
def yv(P:Program)(w:World)(K:aj)(mg:Str->Option Value)(base:Heap)(N:List Str)(qual:Str)(scope:Scope)(f:Addr)(cd:Value)(cl:List (Str×Addr))(A:Around)(outer:List Env)(s:Shared)(H:Hp):Cx where
 prog:=P
 w:=w
 K:=K
 mg:=mg
 base:=base
 A:=A.deeper (o6 qual scope s.heap.objs.size f cd cl)
 N:=N
 s₀:=s
 H₀:=H
 env:=o6 qual scope s.heap.objs.size f cd cl
 outer:=outer
 stack:=o6 qual scope s.heap.objs.size f cd cl::outer
 ex:= []
 calm:=true
 fn:=λx=>scope.names.lookup x==some .cell
 pn:= []
 xe:=λ_ _=>False
variable{mg:Str->Option Value}{ps:List Str}{f:Addr}{us:List Value}{cv:List V}
theorem AL{P:Program}{w:World}{K:aj}{base:Heap}{fs:List Str}{cd:Value}{outer:List Env}{s s1:Shared}{H:Hp}{vs:List V}
  (S:iQ ps fs scope) (hd:A.handled=none) (e0:Cc P w K mg base A outer s H) (hl:vs.length=ps.length) (r:cK vs us) (C:lq base cl fs cv)
  (Yu:∀y c,cl.lookup y=some c->∃o v,base.get? c=some o/\o.data=.cell v) (inj:∀x y c,cl.lookup x=some c->cl.lookup y=some c->x=y)
  (x:InCallC s s.heap.objs.size (bindL (λy=>scope.names.lookup y) (ps.zip us) λ_=>none) (cellsFrom (s.heap.objs.size+1) scope.names []) (bindC (λy=>scope.names.lookup y) (ps.zip us) λ_=>none) s1):
  Inv (yv P w K mg base (ps++fs) qual scope f cd cl A outer s H) [] (vs.map some++cv.map some) H s1:=by
 obtain⟨h1,tk,rfl,hk⟩:=x.done;have Wb:=(iU.mp S.nd).1;have newc:∀y c,(cellsFrom _ _ []).lookup y=some c->scope.names.lookup y=some _/\s.heap.objs.size<c:=λy c e=>by
  have m:=mem_of_lookup e;rcases o9 _ _ _ m with z|z
  .exact⟨S.cel _ z rfl,x.above y c m⟩
  .simp at z
 have oldc:∀y c,cl.lookup y=some c->c<s.heap.objs.size/\(∃v,h1.IsCell c v)/\H c=none:=λy c e=>by
  obtain⟨o,v,e1,e2⟩:=Yu y c e;exact⟨aw (e0.bs c o e1).1,⟨v,o,hk _ _ (e0.bs c o e1).1,e2⟩,(e0.bs c o e1).2⟩
 have frc:∀y∈fs,(cellsFrom _ _ []).lookup y=none:=λy hy=>by
  cases q:(cellsFrom _ _ []).lookup y with
  |none=>rfl
  | some c=>
    have:=(newc y c q).1;rw[S.free y hy]at this;grind
 have noA:∀b,b∉(yv P w K mg base (ps++fs) qual scope f cd cl A outer s H).ex:=λb z=>absurd (show b∈[] from z) (by simp)
 refine⟨⟨e0.mod,S.kind,rfl,rfl,ao _,λy z c e1 e2 =>?_,λy hy =>?_,λy c hy e =>?_,λ_=>hd,Cv e0.frames,.inr ⟨rfl,rfl⟩,λb z=>absurd z (noA b),e0.bs,e0.bsz,λb _ _=>noA b,λb z=>absurd z (noA b),e0.funs,e0.frf⟩,
  rfl,e0.bare,Un.kept hk,⟨_,x.toInCall.ns,λi y v h2 h3 h4 =>?_⟩,λy c h =>?_,e0.hok.fresh (ao _),λy c h =>?_,λp hp=>absurd (show p∈[] from hp) (by simp),e0.hok.kept hk,?_⟩
 .rcases iC e1 with e1|⟨_,e1⟩
  .rcases iC e2 with e2|⟨_,e2⟩
   .exact name_of_addr x.apart (mem_of_lookup e1) (mem_of_lookup e2)
   .exact absurd (bg (newc y c e1).2 (oldc z c e2).1) (bA _)
  .rcases iC e2 with e2|⟨_,e2⟩
   .exact absurd (bg (newc z c e2).2 (oldc y c e1).1) (bA _)
   .exact inj y z c e1 e2
 .rcases hy with hy|hy
  .obtain⟨c,hc⟩:=jo hy
   exact⟨c,gI hc⟩
  .have hf:=S.fre _ (mem_of_lookup hy) rfl
   obtain⟨i,hi⟩:=List.getElem?_of_mem hf;have Xl:i<cv.length:=by rw[<-C.len];exact(ah.mp hi).1
   obtain⟨c,o,u,e,_⟩:=C.get hi (aI Xl);exact⟨c,(iX (frc y hf)).trans e⟩
 .rcases iC e with e|⟨_,e⟩
  .exact aE (newc y c e).2
  .have XN:=eq_of_beq hy
   obtain⟨c',WB⟩:=jo XN
   rename_i z
   rw[WB]at z;cases z
 .have hN:(ps++fs)[i]?=some y:=h2
  by_cases hi:i<ps.length
  .rw[aS hi]at hN
   rw[aS (by simpa [hl]using hi),ba]at h3;cases e:vs[i]? with
   |none=>rw[e]at h3;cases h3
   | some a=>
     rw[e]at h3;cases h3;obtain⟨u,hu,rv⟩:=r.get e;refine⟨u,rv,?_⟩;rcases S.par y (bG hN) with kd|kd
     .exact .inl ⟨kd,pj Wb hN hu kd⟩
     .obtain⟨c,hc⟩:=jo kd
      refine .inr ⟨.inl kd,c,gI hc,?_⟩;have z:=x.cell y c hc;rw[pH Wb hN hu (by rw[kd];decide)]at z;omega
  .rw[br (by simp_all)]at hN
   rw[br (by simp;omega),ba]at h3;simp only[ar,hl]at h3;cases e:cv[i-ps.length]? with
   |none=>simp_all
   | some a=>
     rw[e]at h3;cases h3;have hf:=bG hN;obtain⟨c,o,u,e1,e2,e3,e4⟩:=C.get hN e;exact⟨u,e4,.inr ⟨.inr (S.free y hf),c,(iX (frc y hf)).trans e1,o,hk _ _ (e0.bs c o e2).1,e3⟩⟩
 .rcases iC h with e|⟨_,e⟩
  .exact⟨_,x.cell y c e⟩
  .exact(oldc y c e).2.1
 .rcases iC h with e|⟨_,e⟩
  .exact e0.hok.fresh (aE (newc y c e).2)
  .exact(oldc y c e).2.2
 .show(vs.map _++cv.map _).length=(ps++fs).length
  simp[hl,C.len]
variable{cs:List U}{params:Arguments}{body:Expr}{pm:Value}{oc:Obj}{ws:Array Value}
theorem DJ{M:Mo}(h0:M.mkr=none){name:Str}{Zq:Value}{c:Addr}{t:Tok}{fs:List Str}{k:Nat}{ml:ME}{od:Option Addr}{fc:Value}{Um:Array (Option Value)}(WJ:∀μ S H,HR M.K μ S H->RUs H μ cs cv)
  (hf:M.base.get? f=some ⟨fc,od,.func (kla_fn name qual params body scope cl pm (.ref c) Zq),Um⟩) (hc:(c,oc)∈M.K.cds) (Zb:oc.data=.fields ws) (hq:ws[1]?=some (.str qual t))
  (S:iQ ps fs scope) (C:lq M.base cl fs cv) (Yu:∀y c,cl.lookup y=some c->∃o v,M.base.get? c=some o/\o.data=.cell v) (inj:∀x y c,cl.lookup x=some c->cl.lookup y=some c->x=y)
  (hb:∀X,Sc M X k (ps++fs) scope.names->PE X body (tM M.K ml)):
  iY M.P M.w M.K M.mg M.base CX0 (k+1) f (kla_fn name qual params body scope cl pm (.ref c) Zq) ps (spM M.K (nu ps.length ml cs)):=by
 have len:∀vs H Q E,spM M.K (nu ps.length ml cs) vs H Q E->vs.length=ps.length:=λvs H Q E h=>by
  obtain⟨μ,S',us,u,YO,hr,rs,e,_⟩:=h;unfold nu at e
  split at e
  .rename_i hl;rw[<-rs.len];exact hl
  .cases e
 refine⟨len,λA outer s H args us vs Q E hr e0 Yy r Zh=>?_⟩;have hl:=len _ _ _ _ Zh;obtain⟨μ,S1,zs,u,S2,hR,rs,e,ka⟩:=Zh;have V5:s.heap.get? c=some oc:=(e0.hok c _ (hR.ext.cds _ hc)).1;have lim:s.heap.NoLimit:=e0.mod.nolimit.keeps λb o e=>(e0.bs b o e).1;refine Cq hr.depth (e0.bs f _ hf).1 rfl S.co S.gen rfl ⟨c,oc,ws,t,rfl,V5,Zb,hq⟩ (Yy _ _ _ _ ?_);refine zW S.kind (λx hx=>S.par _ (jO hx).1) λs1 x=>⟨lim.keeps x.toInCall.keep,?_⟩;show pL _ _ (.expr body (o6 qual scope s.heap.objs.size f (.ref c) cl)) _ _;have I:=AL (qual:=qual) (f:=f) (cd:= .ref c) S hr.hd e0 hl r C Yu inj x;have SS:Sc M (yv M.P M.w M.K M.mg M.base (ps++fs) qual scope f (.ref c) cl A outer s H) k (ps++fs) scope.names:=
  ⟨rfl,rfl,rfl,rfl,rfl,rfl,S.nd,rfl,λ_ h=>h,λy h=>⟨h,by show(scope.names.lookup y==some .cell)=true;rw[h];rfl⟩,λ_ h=>.inr h,λ_ h=>h,hr.deeper _,k8,λc q h=>by rw[h0]at h;cases h⟩
 unfold nu at e
 split at e
 rotate_left
 .cases e
 have er:ER H μ (zs.map some++cs.map some) (vs.map some++cv.map some):=by
  have rc:=WJ _ _ _ hR;have all:=rs.append rc;refine⟨by simp[rs.len,rc.len],λi w hw=>?_⟩;rw[<-bS,ba]at hw;cases q:(zs++cs)[i]? with
  |none=>rw[q]at hw;cases hw
  | some w'=>
    rw[q]at hw;cases hw;obtain⟨v,hv,rv⟩:=all.get q;exact⟨v,by rw[<-bS,ba,hv];rfl,rv⟩
 refine Cr (bE (hb _ SS [] _ _ H Q I ⟨μ,S1,_,u,S2,hR,er,e,ka⟩) (λv s' hs=>?_) λe s' hs=>hs.elim);obtain⟨x,H',J,rv,q⟩:=hs;exact⟨x,H',J.os,J.bare,J.base,J.hok,rv,q⟩
def fj(cells:List (Str×Addr)):List (Str×NameKind)->List (Str×Addr)->List (Str×Addr)
 |[],acc=>acc
 | (y,k)::r,acc=>if k==.free then(match cells.lookup y with
   |some c=>fj cells r ((y,c)::acc)
   | none=>fj cells r acc) else fj cells r acc
theorem sW{scope:Scope}(h:∀y∈scope.names,y.2=.free->∃c,env.cells.lookup y.1=some c):closureFor scope env=pure (fj env.cells scope.names []):=by
 unfold closureFor;have key:∀(l:List _) (acc:List _),(∀y∈l,y.2=.free->∃c,env.cells.lookup y.1=some c) ->
   (forIn l acc λx r=>if (x.2==a9)=true then(do let a <- cellOf env x.1;pure (eT ((x.1,a)::r))) else pure (eT r):Sem _)=pure (fj env.cells l acc):=by
  intro l
  induction l with
  |nil=>intro acc _;rfl
  | cons y l ih=>
    intro acc hh;rw[wB];unfold fj;cases q:y.2==a9 with
    | true=>
      obtain⟨c,hc⟩:=hh y aT (eq_of_beq q);have e:cellOf env y.1=pure c:=by unfold cellOf;rw[hc]
      simp only[e,hc];exact ih _ λz hz=>hh z (av _ hz)
    | false=>
      exact ih _ λz hz=>hh z (av _ hz)
 have e:=key _ [] h;rw[bind_pure];omega
theorem mK{cells:List (Str×Addr)}:∀(l:List (Str×NameKind)) (acc:List (Str×Addr)) {y:Str}{c:Addr},(y,c)∈fj cells l acc->(y,c)∈acc\/(cells.lookup y=some c/\(y,a9)∈l)
 |[],acc,y,c,h=>.inl h
 | (z,k)::l,acc,y,c,h=>by
   unfold fj at h
   split at h
   .split at h
    .rcases mK l _ h with h|h<;>grind
    .exact(mK l _ h).imp id λh=>⟨h.1,av _ h.2⟩
   .exact(mK l _ h).imp id λh=>⟨h.1,av _ h.2⟩
theorem my{cells:List (Str×Addr)}:∀(l:List (Str×NameKind)) (acc:List (Str×Addr)) {y:Str}{c:Addr},(y,c)∈acc->(y,c)∈fj cells l acc
 |[],acc,y,c,h=>h
 | (z,k)::l,acc,y,c,h=>by
   unfold fj
   split
   .split
    .exact my l _ (av _ h)
    .exact my l _ h
   .exact my l _ h
theorem mE{cells:List (Str×Addr)}:∀(l:List (Str×NameKind)) (acc:List (Str×Addr)) {y:Str}{c:Addr},(y,a9)∈l->cells.lookup y=some c->(y,c)∈fj cells l acc
 |[],acc,y,c,h,_=>by simp at h
 | (z,k)::l,acc,y,c,h,hc=>by
   unfold fj;rcases aD.mp h with e|h
   .cases e
    simp[hc];exact my l _ aT
   .split
    .split
     .exact mE l _ h hc
     .exact mE l _ h hc
    .exact mE l _ h hc
theorem lookup_mem{α:Type}:∀{l:List (Str×α)}{y:Str}{c:α},(y,c)∈l->∃d,l.lookup y=some d
 |[],y,c,h=>by simp at h
 | (z,d)::l,y,c,h=>by
   rw[bT];cases q:y==z with
   |true=>exact⟨d,rfl⟩
   | false=>
     rcases aD.mp h with e|h
     .grind
     .exact lookup_mem h
variable{cells:List (Str×Addr)}{l:List (Str×NameKind)}{y:Str}{c:Addr}
theorem gO(h:(fj cells l []).lookup y=some c):cells.lookup y=some c/\(y,a9)∈l:=by
 rcases mK l [] (bN h) with h|h<;>simp_all
theorem BD(h:(y,a9)∈l)(hc:cells.lookup y=some c):(fj cells l []).lookup y=some c:=by
 obtain⟨d,hd⟩:=lookup_mem (mE l [] h hc);have:=(gO hd).1
 grind
theorem zp{pos:Pos}{a b:Int}{c cv:Value}(l:List Value)(h:TriplesOk l)(hc:codeAmong pos (l++[rawInt a,rawInt b,c])=some cv):codeAmong pos l=some cv\/cv=c:=by
 fun_induction TriplesOk l with
 | case1=>
   simp[rawInt,codeAmong]at hc
   grind
 | case2 x t y u z rest ih=>
   simp only[eN,codeAmong]at hc ⊢
   split at hc
   .rename_i q;rw[if_pos q];exact .inl hc
   .rename_i q;rw[if_neg q];exact ih h hc
 |case3 l h1 h2=>exact h.elim
section
variable {K:KX}{H:Hp}{μ:List Addr}{S:Sto}
theorem HR.table{P:Addr}{ps:Array Value}{t:Tok}{a b:Int}{q:Str}(h:HR K μ S H)(hP:H P=some (.tbl ps))(hc:H c=none)(Zb:oc.data=.fields ws)(hq:ws[1]?=some (.str q t))(un:∀r∈K.tabs,r.1=P->r.2=q):
  bq H (upd (upd H c (.frz oc fz)) P (.tbl (ps ++ #[rawInt a,rawInt b,.ref c])))/\HR K μ S (upd (upd H c (.frz oc fz)) P (.tbl (ps ++ #[rawInt a,rawInt b,.ref c]))):=by
 have stay:∀x o,H x=some o->(∀ps,o≠.tbl ps)->upd (upd H c (.frz oc fz)) P (.tbl (ps ++ #[rawInt a,rawInt b,.ref c])) x=some o:=λx o e n=>by
  rw[aX (pO e hP (n ps)),aX (aW e hc)];omega
 have kp:bq H _:=⟨λx vs e=>stay x _ e (λ_ z=>nomatch z),λx o u e=>stay x _ e (λ_ z=>nomatch z)⟩;have fr:∀x o u,H x=some _->upd _ P _ x=some (.frz o u):=λx o u e=>stay x _ e λ_ z=>by cases z
 have Qr:=(aW hP hc).symm;refine⟨kp,h.len,h.inj,λm d x q1 q2=>(h.cell m d x q1 q2).mono kp (Pre.refl _) (λhd=>?_) λo u e=>fr x o u e,RUs.mono kp (Pre.refl _) _ _ h.ext.cap,λr hr=>fr _ _ _ (h.ext.cds r hr),λr hr=>?_⟩
 .obtain⟨o,e,_,_,nb⟩:=(h.cell m d x q1 q2).has hd
  rw[stay x o e nb,e]
 .obtain⟨VA,e,tr,al⟩:=h.ext.tab r hr
  by_cases Zd:r.1=P
  .rw[Zd,hP]at e
   cases e;refine⟨_,by rw[Zd,cb],by rw[bO];exact TriplesOk_snoc _ _ _ _ tr,λpos cv Vm=>?_⟩;rw[bO]at Vm;rcases zp _ tr Vm with z |z
   .obtain⟨d,od,vs,t',e1,e2,e3,e4⟩:=al _ cv z
    exact⟨d,od,vs,t',e1,fr _ _ _ e2,e3,e4⟩
   .exact⟨c,oc,ws,t,z,by rw[aX Qr,cb],Zb,by rw[un r hr Zd];omega⟩
  .refine⟨_,by rw[aX Zd,aX (aW e hc)];omega,tr,λpos cv Vm=>?_⟩
   obtain⟨d,od,vs,t',e1,e2,e3,e4⟩:=al _ cv Vm;exact⟨d,od,vs,t',e1,fr _ _ _ e2,e3,e4⟩
end
section
variable {X:Cx}{pins:List (Addr×Obj)}{σ:St}{H:Hp}{s:Shared}
theorem uX{P:Addr}{ps more:Array Value}{ob:Obj}{h':Heap}{tk:Nat}(I:Inv X pins σ H s)(hP:H P=some (.tbl ps))(hx:oX P s.heap h')(Yn:s.heap.objs.size<=c)(hc:h'.get? c=some oc)(XT:h'.get? P=some (tabObj (ps++more))):
  Inv X pins σ (upd (upd H c (.frz oc fz)) P (.tbl (ps++more))) { s with heap:=h'.push ob,toks:=tk }:=by
 have Ts:=I.hok.fresh Yn;have kp:∀b o,b≠P->s.heap.get? b=some o->(h'.push ob).get? b=some o:=λb o n e=>af _ (hx b o n e);have nP:∀b,H b=none->b≠P:=λb n z=>by grind
 have stay:∀x o,H x=some o->(∀ps,o≠.tbl ps)->upd (upd H c (.frz oc fz)) P (.tbl (ps++more)) x=some o:=λx o e n=>by
  rw[aX (pO e hP (n ps)),aX (aW e Ts)];omega
 refine I.step (ch:= []) (λ_ z=>nomatch z) (λb o _ _ _ e n=>kp b o (nP b n) e) (λb o _ _ _ e n=>⟨_,kp b o (nP b n) e⟩)
  (λb o _ e n=>by rw[aX (nP b n),aX (aL (ak (aw e) Yn))];omega) (λb o _ e=>?_) (λb xs e=>stay b _ e λ_ z=>by cases z) (λb o u e=>stay b _ e λ_ z=>by cases z)
  (λb qs e=>?_) (λm hm=>?_) (λb u e=>?_) I.bare
 .by_cases hb:b=P
  .exact⟨_,by rw[hb];exact af _ XT⟩
  .exact⟨o,kp b o hb e⟩
 .by_cases hb:b=P
  .rw[hb,hP]at e
   cases e;exact⟨_,by rw[hb,cb]⟩
  .exact⟨#[],by rw[aX hb,aX (aW e Ts),e];simp⟩
 .exact(hm.extBut hx (nP _ I.free)).push _
 .by_cases hb:b=P
  .rw[hb,cb]at e
   cases e;rw[hb];exact af _ XT
  .rw[aX hb]at e
   by_cases hbc:b=c
   .rw[hbc,cb]at e
    cases e;rw[hbc];exact⟨af _ hc,trivial,⟨_,af _ hc⟩,λ_ _ _ _=>trivial⟩
   .rw[aX hbc]at e
    refine(I.hok b u e).stay (λd v hd q=>kp d v ?_ q) (λd q=>stay d _ q λ_ z=>by cases z) λd xs q=>stay d _ q λ_ z=>by cases z
    grind
def baseOf(h:Heap)(H:Hp)(fr:List Addr):Heap:=g9 (xP h H) fr
variable{h:Heap}{fr:List Addr}{b:Addr}{o:Obj}
theorem eV{H:Hp}(e:h.get? b=some o)(n:H b=none)(hf:b∉fr):(baseOf h H fr).get? b=some o:=fk _ (oK e n) hf
theorem B8{H:Hp}(e:(baseOf h H fr).get? b=some o):h.get? b=some o/\H b=none:=AG (jX fr e)
theorem oJ(I:Inv X pins σ H s):∀b o,X.base.get? b=some o->(baseOf s.heap H (frs X.stack)).get? b=some o:=λb o e=>
 eV (I.bs b o e).1 (I.bs b o e).2 λz=>by
  have:=(I.stack.mem z).1
  grind
theorem pD(I:Inv X pins σ H s):Cc X.prog X.w X.K X.mg (baseOf s.heap H (frs X.stack)) X.A X.stack s H:=by
 have k:=oJ I;obtain⟨m1,m2,⟨mb,m3,m4⟩,m5⟩:=I.ok.mod;refine⟨I.ok.frames,⟨m1.keeps k,m2.keeps k,⟨mb,m3.keeps k,m4⟩,m5.keeps k⟩,λb o e=>B8 e,by rw[baseOf,nQ,pq]<;>simp_all,?_,I.stkFree,I.hok,I.bare⟩;have all:∀l,(∀b∈frs l,b∈frs X.stack)->s.heap.FunFrames X.base l->s.heap.FunFrames (baseOf s.heap H (frs X.stack)) l:=by
  intro l
  induction l with
  |nil=>intro _ _;trivial
  | cons env r ih=>
    intro hs hl;obtain⟨hk,⟨L,o,hf,hn,ho,hd⟩,hr⟩:=hl;have hL:=hs L (by unfold frs;simp_all);exact⟨hk,⟨L,o,hf,gw _ hL,ho,hd⟩,ih (λb hb=>hs b (by unfold frs;rw[hG,hf];exact av _ hb)) hr⟩
 exact all _ (λ_ h=>h) I.stack
end
def fQ(mg:Str->Option Value)(base:Heap):Prop := ∃ bm ob,mg "__builtins__"=some (.ref bm)/\bm≠builtinsNs/\base.get? bm=some ob/\ob.cls=.type "module"/\ob.dict=some builtinsNs/\ob.data=.plain
theorem fQ.keeps{b b':Heap}(h:fQ mg b)(k:∀a o,b.get? a=some o->b'.get? a=some o):fQ mg b':=
 let ⟨bm,ob,e1,e2,e3,r⟩:=h;⟨bm,ob,e1,e2,k _ _ e3,r⟩
structure Mkr(M:Mo)(c P:Addr)(q:Str):Prop where
 hd:∀h:Heap,M.K.K.In h->CodeHd h c P
 bl:fQ M.mg M.base
 gP:mainGlobals≠P
 mem:(P,q)∈M.K.tabs
 un:∀r∈M.K.tabs,r.1=P->r.2=q
def KX.to(K:KX)(caps:List U)(capv:List V)(cds:List (Addr×Obj)):KX:=⟨K.K,caps,capv,cds,K.tabs⟩
def Mo.to(M:Mo)(caps:List U)(capv:List V)(cds:List (Addr×Obj))(base:Heap):Mo:=⟨M.P,M.w,M.K.to caps capv cds,M.mg,base,none⟩
structure FnC(M:Mo)(x:Str)(k:Nat)(ps:List Str)(F:Addr->MF->MF):Prop where
 ex:∃(f:Addr) (fd:FuncData),M.mg x=some (.ref f)/\cg M.K (.ref f)=true/\Binds M.K fd ps [] /\
  ∀(caps:List U) (capv:List V) (cds:List (Addr×Obj)) (base:Heap) (g:Addr) (j:Nat) (lps:List Str) (φ:MF),fQ M.mg base->k<=j->Lam (M.to caps capv cds base) g j lps φ ->
   iY M.P M.w M.K M.mg base CX0 (j+1) f fd ps (spM (M.K.to caps capv cds) (F g φ))
def qD:List (List Str) := [["x"],["least"],["walk"],["i","j"],["one","other"],["group","steps"]]
def qz(p:Arguments):Bool:=p.posonlyargs.isEmpty&&(p.vararg.isNone&&(p.kwonlyargs.isEmpty&&(p.kw_defaults.isEmpty&&(p.kwarg.isNone&&p.defaults.isEmpty))))
def q9(p:Arguments):Option (List Str):=if qz p&&qD.contains (p.args.map (·.arg)) then some (p.args.map (·.arg)) else none
variable{p:Arguments}
theorem tq(h:qz p=true):p=⟨[],p.args,none,[],[],none,[]⟩:=by
 obtain⟨a,b,c,d,e,f,g⟩:=p;unfold qz at h
 simp_all
theorem xN(h:q9 p=some ps):∃as,p=⟨[],as,none,[],[],none,[]⟩/\as.map (·.arg)=ps/\ps∈qD:=by
 unfold q9 at h
 split at h
 .rename_i q
  cases h;rw[aq]at q;exact⟨_,tq q.1,rfl,List.contains_iff_mem.mp q.2⟩
 .cases h
variable{as:List Arg}
theorem MB(e:as.map (·.arg)=[x]):∃an ps,as=[⟨x,an,ps⟩]:=by
 obtain⟨a,l,rfl,h1,h2⟩:=FQ.mp e;rw[List.map_eq_nil_iff.mp h2];obtain⟨n,an,ps⟩:=a
 grind
theorem PO(e:as.map (·.arg)=[x,y]):∃an ps Uu Tc,as=[⟨x,an,ps⟩,⟨y,Uu,Tc⟩]:=by
 obtain⟨a,l,rfl,h1,h2⟩:=FQ.mp e;obtain⟨Uu,Tc,rfl⟩:=MB h2;obtain⟨n,an,ps⟩:=a
 grind
theorem Oh{α:Type}{us:List α}(h:us.length=1):∃a,us=[a]:=List.length_eq_one_iff.mp h
theorem Pz{α:Type}{us:List α}(h:us.length=2):∃a b,us=[a,b]:=by
 cases us with
 |nil=>cases h
 | cons a us=>
   obtain⟨b,rfl⟩:=Oh (yO h);exact⟨a,b,rfl⟩
theorem Fm(e:as.map (·.arg)=ps)(hk:ps∈qD){fd:FuncData}(hp:fd.params=⟨[],as,none,[],[],none,[]⟩)(hd:fd.defaults=.none)(hl:us.length=ps.length):bindArgs fd ⟨us,[]⟩=pure (ps.zip us):=by
 obtain⟨c1,c2,pr,c4,c5,df,c7,c8,c9,c10,c11,c12,c13⟩:=fd;cases hp;cases hd;simp[qD,or_false]at hk;rcases hk with rfl|rfl|rfl|rfl|rfl|rfl
 all_goals first
  |(obtain⟨an,q,rfl⟩:=MB e;obtain⟨a,rfl⟩:=Oh hl;rfl)
  |(obtain⟨an,q,Uu,q2,rfl⟩:=PO e;obtain⟨a,b,rfl⟩:=Pz hl;rfl)
theorem Cf(h:q9 p=some ps)(nd:ps.Nodup){K:aj}{name:Str}{cdv ct:Value}:Binds K (kla_fn name qual p body scope cl pm cdv ct) ps []:=by
 obtain⟨as,rfl,e,hk⟩:=xN h;exact .all λus hl=>Fm e hk rfl rfl hl
theorem EF(h:q9 p=some ps)(env:Env):defaultsOf p env=([],[]):=by
 obtain⟨as,rfl,_⟩:=xN h;rfl
section
variable {M:Mo}{X:Cx}{k:Nat}{N:List Str}{ns:List (Str×NameKind)}{pins:List (Addr×Obj)}{σ:St}{H:Hp}{s:Shared}
theorem sP(S:Sc M X k N ns)(I:Inv X pins σ H s)(hy:ns.lookup y=some .cell)(hc:X.env.cells.lookup y=some c):c∉frs X.stack:=λz=>by
 have fn:=(S.cel y hy).2;rcases aD.mp (I.stkSub c z) with e|hb
 .exact I.cne y c hc e
 .obtain⟨_,o,ho,_⟩:=I.ok.funs.mem hb
  exact absurd (ak (aw ho) (I.ok.cab y c fn hc)) (bA _)
theorem vP(S:Sc M X k N ns)(I:Inv X pins σ H s){μ:List Addr}{G:Rho}(er:ER H μ G σ){names:List (Str×NameKind)}:∀{fs:List Str}{is:List Nat}{cs:List U},(∀y∈fs,ns.lookup y=some .cell/\(y,a9)∈names) ->
  cZ (λy=>N.findIdx? (· == y)) fs=some is->jt is G=some cs->∃cv,RUs H μ cs cv/\lq (baseOf s.heap H (frs X.stack)) (fj X.env.cells names []) fs cv
 |[],is,cs,_,h1,h2=>by cases h1;cases h2;exact⟨[],.nil,trivial⟩
 | y::fs,is,cs,hf,h1,h2=>by
   unfold cZ at h1;cases e1:N.findIdx? _ with
   |none=>rw[e1]at h1;cases h1
   | some i=>
     rw[e1]at h1;cases e2:cZ _ fs with
     |none=>rw[e2]at h1;cases h1
     | some is'=>
       rw[e2]at h1;cases h1;unfold jt cZ at h2;cases e3:(G[i]?).bind id with
       |none=>simp_all
       | some u=>
         rw[e3]at h2;cases e4:cZ _ _ with
         |none=>rw[e4]at h2;cases h2
         | some cs'=>
           rw[e4]at h2;cases h2;obtain⟨cv,r1,r2⟩:=vP S I er (λz hz=>hf z (av _ hz)) e2 (e4);have X6:G[i]?=some (some u):=by
            grind
           obtain⟨v,X3,rv⟩:=er.get i u X6;obtain⟨hi,hy,_⟩:=ff.mp e1;have hN:X.N[i]?=some y:=by rw[S.hN,aI hi,eq_of_beq hy]
           obtain⟨m,hn,hl⟩:=I.loc;have Yu:=(S.cel y (hf y aT).1).1;obtain⟨w,YZ,l⟩:=hl i y v hN X3 (.inr (.inl Yu));rcases l with⟨hk,_⟩|⟨_,c,hc,o,ho,hd⟩
           .have Yd:X.env.scope.names.lookup y=some _:=hk<;>grind
           .refine⟨_,.cons rv r1,⟨c,o,w,BD (hf y aT).2 hc,?_,hd,YZ⟩,r2⟩
            exact eV ho (I.freeC y c hc) (sP S I (hf y aT).1 hc)
variable{F:Addr->MF->MF}{is:List Nat}
theorem GJ{f0:Addr}{Xg:FuncData}{Wy fs:List Str}{k' j:Nat}{ml:ME}{Zq:Value}{c':Addr}{t:Tok}
  {μ:List Addr}{S1 S':Sto}{G:Rho}{x u:U}{v1:V}{u1:Value}{Q:VK}
  (S:Sc M X k N ns) (hB:fQ M.mg M.base) (hj:k'<=j+1) (hk:j+2<=k) (Yy:Binds M.K Xg Wy [])
  (FF:∀(caps:List U) (capv:List V) (cds:List (Addr×Obj)) (base:Heap) (g:Addr) (j:Nat) (lps:List Str) (φ:MF),fQ M.mg base->k'<=j->Lam (M.to caps capv cds base) g j lps φ->iY M.P M.w M.K M.mg base CX0 (j+1) f0 Xg Wy (spM (M.K.to caps capv cds) (F g φ)))
  (Vs:q9 params=some ps) (LS:iQ ps fs scope) (YX:∀y∈fs,ns.lookup y=some .cell/\(y,a9)∈scope.names) (WR:cZ (λy=>N.findIdx? (· == y)) fs=some is)
  (hb:∀(caps:List U) (capv:List V) (cds:List (Addr×Obj)) (base:Heap),fQ M.mg base->∀(X':Cx),Sc (M.to caps capv cds base) X' j (ps++fs) scope.names->PE X' body (tM (M.K.to caps capv cds) ml))
  (I:Inv X pins σ H s) (hr:HR M.K μ S1 H) (er:ER H μ G σ) (Yf:jt is G=some cs) (spec:F f (nu ps.length ml cs) [x,.obj f] S1=some (u,S')) (rx:RU H μ x v1) (ru:RelV v1 u1) (aft:Aft M.K μ H u S' Q)
  (hf:s.heap.get? f=some (kla_obj "<lambda>" qual params body scope (fj X.env.cells scope.names []) pm c' Zq)) (YJ:H f=none) (XZ:f∉frs X.stack) (hc:H c'=some (.frz oc fz)) (Zb:oc.data=.fields ws) (hq:ws[1]?=some (.str qual t)) :
  aN (model X.prog X.w) X.A (call (.ref f0) [u1,.ref f]) (EP X pins σ Q) X.xe s:=by
 obtain⟨cv,rc,C⟩:=vP S I er YX WR Yf;have WC:fQ M.mg (baseOf s.heap H (frs X.stack)):=hB.keeps λa o e=>oJ I a o (by rw[S.hb];exact e);have lam:Lam (M.to cs cv (M.K.cds++[(c',oc)]) (baseOf s.heap H (frs X.stack))) f (j+1) ps (nu ps.length ml cs):=by
  refine⟨_,.inl ⟨_,_,_,eV hf YJ XZ⟩,Cf Vs (iU.mp LS.nd).1,?_⟩;refine DJ (M:=M.to cs cv (M.K.cds++[(c',oc)]) (baseOf s.heap H (frs X.stack))) rfl (λ_ _ _ h=>h.ext.cap) (eV hf YJ XZ) (aJ _ aT) Zb hq LS C (λy c e=>?_) (λy z c e1 e2=>I.ok.inj y z c (gO e1).1 (gO e2).1) (hb _ _ _ _ WC);obtain⟨e1,e2⟩:=gO e;obtain⟨v,o,ho,hd⟩:=I.cell y c e1;exact⟨o,v,eV ho (I.freeC y c e1) (sP S I (YX y (LS.fre _ e2 rfl)).1 e1),hd⟩
 have FO:=FF _ _ _ _ f (j+1) ps _ WC hj lam;rw[<-S.hP,<-S.hw,<-S.hK,<-S.hm]at FO
 have Zd:HR (M.K.to cs cv (M.K.cds++[(c',oc)])) μ S1 H:=⟨hr.len,hr.inj,hr.cell,rc,λq hq=>by
  rcases aV.mp hq with z|z
  .exact hr.ext.cds q z
  .have e:q=(c',oc):=by simpa using z
   rw[e];exact hc,hr.ext.tab⟩
 have Zh:spM (M.K.to cs cv (M.K.cds++[(c',oc)])) (F f (nu ps.length ml cs)) [v1,.ref f] H Q E0:=by
  refine⟨μ,S1,[x,.obj f],u,S',Zd,.cons rx (.cons (by simp only[RU]) .nil),spec,λY6 v H' p' k' ZV U'=>?_⟩;refine aft Y6 v H' p' k' ⟨ZV.len,ZV.inj,ZV.cell,RUs.mono k' p' _ _ hr.ext.cap,λq hq=>ZV.ext.cds q (aZ _ hq),ZV.ext.tab⟩ U'
 have hl:([u1,bW f]++[]).length=Wy.length:=by have:=FO.len _ _ _ _ Zh;simpa using this
 rw[<-S.hK]at Yy;refine Fw (ij (FO.run X.A X.stack s H ⟨[u1,.ref f],[]⟩ [u1,.ref f] [v1,.ref f] Q E0 (S.room.mono hk) (pD I) (Yy s _ I.kIn hl) (.cons ru (.cons rfl .nil)) Zh) λr s' hq=>?_);cases r with
 |error e=>exact hq.elim
 | ok fl=>
   cases fl with
   |ret u=>exact I.after hq
   |next=>exact bK hq
   |brk=>exact bK hq
   |cont=>exact bK hq
theorem Hd{Wy fs:List Str}{k' j:Nat}{ml ma:ME}{g q:Str}{P:Addr}{a:Expr}{p1 lp pos:Pos}
  (S:Sc M X k N ns) (FC:FnC M g k' Wy F) (hj:k'<=j+1) (hk:j+2<=k) (WZ:M.mkr=some (c,q)) (MK:Mkr M c P (q++"<lambda>"))
  (hg:eg ns g=true) (U3:(g==("__debug__":Str))=false) (ha:PE X a (tM M.K ma)) (hs:starEach [a,.Lambda params body scope lp] X.env=(false,eval a X.env)::starEach [.Lambda params body scope lp] X.env)
  (Vs:q9 params=some ps) (LS:iQ ps fs scope) (YX:∀y∈fs,ns.lookup y=some .cell/\(y,a9)∈scope.names) (WR:cZ (λy=>N.findIdx? (· == y)) fs=some is)
  (hb:∀(caps:List U) (capv:List V) (cds:List (Addr×Obj)) (base:Heap),fQ M.mg base->∀(X':Cx),Sc (M.to caps capv cds base) X' j (ps++fs) scope.names->PE X' body (tM (M.K.to caps capv cds) ml)):
  PE X (.Call (.Name g p1) [a,.Lambda params body scope lp] [] pos) (tM M.K (oZ F ps.length is ml ma)):=by
 intro pins s σ H Q I h;obtain⟨μ,S0,G,u,S',hr,er,qm,aft⟩:=h;obtain⟨x,S1,e1,qm⟩:=bu qm;cases Yf:jt is G with
 |none=>rw[Yf]at qm;cases qm
 |some cs=>
 rw[Yf]at qm;simp only[aG]at qm
 split at qm
 rotate_left
 .cases qm
 rename_i hx
 have spec:=λf=>(hx.choose_spec f).trans qm;obtain⟨f0,Xg,hm,Za,Yy,FF⟩:=FC.ex;rw[<-S.hK]at Za;refine dE (je I (S.gl hg) (by rw[S.hm];exact hm) ?_ U3);refine jY I.ok.mod.kin Za ?_ hs rfl;rw[hs];refine d6 (thn (ha _ s σ H (λv H1=>∃Y0,Pre μ _/\bq H H1/\HR _ _ S1 H1/\RU H1 _ x v) I ⟨μ,S0,G,x,S1,hr,er,e1,λY6 v H' p k Zd ru=>⟨Y6,p,k,Zd,ru⟩⟩) λu1 s1 ⟨v1,H1,I1,r1,Y0,Tw,RT,ZZ,Rq⟩=>?_);obtain⟨YS,YT⟩:=S.cod c q WZ;obtain⟨Sl,hP,tr,al⟩:=ZZ.ext.tab _ MK.mem;have WO:=I1.hok P _ hP;have kin:=by have:=I1.kIn;rwa[S.hK]at this
 have C:=MK.hd _ kin;have W':=I1.mod.glob.keeps I1.bk;obtain⟨bm,ob,b1,b2,b5,b6,b7,b8⟩:=MK.bl;have XH:=I1.bk bm ob (by rw[S.hb];exact b5);have b3:bm≠mainGlobals:=λz=>by
  obtain⟨o,es,ep,e,hd,_⟩:=W';rw[<-z,XH]at e;cases e;rw[b8]at hd;cases hd
 have b4:bm≠P:=λz=>by
  rw[z,WO]at XH;cases XH;cases b8
 have BA:s1.heap.BuiltinsAt X.mg P:=⟨bm,ob,by rw[S.hm];exact b1,b2,b3,b4,XH,b6,b7,b8⟩;have Ya:=sW λy hy Vb=>I.ok.has _ (.inl (S.cel _ (YX _ (LS.fre y hy Vb)).1).1);refine d6 (PySem.W.kla_eval (EF Vs _) ?_);have fin:∀(H2:Hp) (s2:Shared) (c' f:Addr) (Zq:Value) (oc:Obj) (ws:Array _) (t:Tok),Inv X pins σ H2 s2->bq H1 H2->HR M.K Y0 S1 H2 ->
   s2.heap.get? f=some (kla_obj "<lambda>" (X.env.qual++"<lambda>") params body scope (fj X.env.cells scope.names []) ((X.mg "__name__").getD .none) c' Zq)->H2 f=none->s1.heap.objs.size<=f->H2 c'=some (.frz oc fz)->oc.data=.fields ws->ws[1]?=some (.str (q++"<lambda>") t) ->
   aN (model X.prog X.w) X.A (spliced []) (λvs ZX=>X.K.In ZX.heap/\aN (model X.prog X.w) X.A (call (.ref f0) ([]++(u1::bW f::vs))) (EP X pins σ Q) X.xe ZX) X.xe s2:=by
  intro H2 s2 c' f Zq oc ws t I2 XS ZV hf YJ WW hc Zb hq;have XZ:f∉frs _:=λz=>by
   obtain⟨_,o,ho,_⟩:=I1.stack.mem z;exact absurd (ak (aw ho) WW) (bA _)
  rw[<-YT]at hq;exact gg ⟨I2.kIn,GJ S MK.bl hj hk Yy FF Vs LS YX WR hb I2 ZV (er.mono (RT.trans XS) Tw) Yf (spec f) (RU.mono XS (Pre.refl _) _ _ Rq) r1 (aft.mono Tw (RT.trans XS)) hf YJ XZ hc Zb hq⟩
 cases ham:codeAmong lp _ with
 | none=>
   refine yH Ya I1.ok.glob W' YS C WO tr ham MK.gP BA λc' Zq h' tk hx Yn ZU Xa XT=>?_;obtain⟨c2,oc,ws,t,e,Zb,hd,Yl⟩:=Xa;cases e;have I2:=uX (ob:=kla_obj "<lambda>" (X.env.qual++"<lambda>") params body scope (fj X.env.cells scope.names []) ((X.mg "__name__").getD .none) c' Zq) (tk:=tk) I1 hP hx Yn Zb XT;rw[YT]at Yl;obtain⟨XS,ZV⟩:=ZZ.table hP (I1.hok.fresh Yn) hd Yl MK.un;have ZG:=aH Yn (aE ZU);refine fin _ _ c' _ _ oc ws t I2 XS ZV (ay _ rfl) ?_ ZG ?_ hd Yl
   .rw[aX (cJ (aw XT)),aX (cJ ZU)]
    exact I1.hok.fresh ZG
   .rw[aX (aW hP (I1.hok.fresh Yn)).symm,cb]
 | some cv=>
   obtain⟨c',oc,ws,t,rfl,Xs,hd,Yl⟩:=al lp cv ham;refine ve Ya I1.ok.glob W' YS C WO tr ham BA λZq h' tk hk ZG=>?_;have I2:=I1.kept (t':=tk) (h':=h'.push (kla_obj "<lambda>" (X.env.qual++"<lambda>") params body scope (fj X.env.cells scope.names []) ((X.mg "__name__").getD .none) c' Zq)) (fun b o e=>af _ (hk b o e));exact fin H1 _ c' _ _ oc ws t I2 (bq.refl _) ZZ (ay _ rfl) (I1.hok.fresh ZG) ZG Xs hd Yl
end
end _G
namespace _G
open PySem PySem.Spec _L
open PyProof.Rows hiding St
def Trc(e T:Addr)(cls:Value)(h:Heap):Prop:= ∃(oe:Obj) (vs:Array Value) (a0:Value) (oT:Obj) (ts:Array Value),h.get? e=some oe/\(oe.cls=cls/\vs[0]?=some a0)/\oe.data=.fields vs/\vs[1]?=some (.ref T)/\T≠e/\h.get? T=some oT/\oT.data=.fields ts/\ts[3]?=some .none
def CX1(P:Program)(w:World):CXT:=λouter H s E ev s'=>∃(e T:Addr) (cls:Value) (H':Hp),ev=.ref e/\s'.os=s.os/\AllBare s'.gens/\Un (frs outer) [] H H' s.heap s'.heap/\HOk P w H' s'.heap/\Trc e T cls s'.heap/\s.heap.get? e=none/\s.heap.get? T=none/\H' e=none/\H' T=none/\E cls none H'
variable{h:Heap}{e:Addr}
theorem Trc.of{base:Heap}{cls a0:Value}(t:h.TracedW base e cls a0):∃T,Trc e T cls h/\base.get? T=none:=by
 obtain⟨oe,vs,T,oT,ts,h1,h2,h3,h4,h5,h6,h7,h8,h9⟩:=t;exact⟨T,⟨oe,vs,a0,oT,ts,h1,h2,h3,h4,h6,h7,h8,h9⟩,h5⟩
variable{T:Addr}
theorem Trc.to{base:Heap}{cls:Value}(t:Trc e T cls h)(hT:base.get? T=none):∃a0,h.TracedW base e cls a0:=by
 obtain⟨oe,vs,a0,oT,ts,h1,h2,h3,h4,h6,h7,h8,h9⟩:=t;exact⟨a0,oe,vs,T,oT,ts,h1,h2,h3,h4,hT,h6,h7,h8,h9⟩
variable{P:Program}{w:World}{H:Hp}{a:Addr}
theorem fP.has{o:HO}(x:fP P w H h a o):∃u,h.get? a=some u:=by
 cases o with
 |lst xs=>obtain⟨_,_,_,_,e⟩:=x;exact⟨_,e⟩
 |tup xs=>obtain⟨_,_,_,_,o,e,_⟩:=x;exact⟨_,e⟩
 |dK kvs=>obtain⟨_,_,_,_,o,_,_,e,_⟩:=x;exact⟨_,e⟩
 |dT kvs=>obtain⟨_,_,_,_,o,_,_,e,_⟩:=x;exact⟨_,e⟩
 |set S n=>obtain⟨o,_,_,_,e,_⟩:=x;exact⟨_,e⟩
 |ins C dx fs=>obtain⟨_,_,_,e,_⟩:=x;exact⟨_,e⟩
 |own y=>obtain⟨_,e⟩:=x;exact⟨_,e⟩
 |xd fs=>obtain⟨_,⟨_,_,_,e,_⟩,_⟩:=x;exact⟨_,e⟩
 |rng lo hi=>obtain⟨_,_,_,e⟩:=x;exact⟨_,e⟩
 |frz ob u=>obtain⟨e,_⟩:=x;exact⟨_,e⟩
 |tbl ps=>exact⟨_,(x)⟩
 |met f y=>exact⟨_,(x)⟩
 |ext φ=>obtain⟨_,e,_⟩:=x;omega
theorem HOk.none_of(x:HOk P w H h)(e:h.get? a=none):H a=none:=by
 cases q:H a with
 |none=>rfl
 | some o=>
   obtain⟨u,hu⟩:=fP.has (x a o q)
   grind
theorem o3{h g base:Heap}{S:List Addr}:∀{l:List Env},(∀b∈frs l,b∈S)->h.FunFrames base l->h.FunFrames (g9 g S) l
 |[],_,_=>trivial
 | env::r,hs,⟨hk,⟨L,o,hf,hn,ho,hd⟩,hr⟩=>by
   have hL:=hs L (by unfold frs;simp_all);exact⟨hk,⟨L,o,hf,gw _ hL,ho,hd⟩,o3 (λb hb=>hs b (by unfold frs;rw[hG,hf];exact av _ hb)) hr⟩
structure Left(fs:List Addr)(e T:Addr)(h h':Heap):Prop where
 keep:∀b o,b∉fs->b≠e->b≠T->h.get? b=some o->h'.get? b=some o
 slot:∀b o,b∈fs->h.get? b=some o->∃sl,h'.get? b=some { o with slots:=sl }
variable{h2:Heap}
theorem Left.un{fs:List Addr}{H':Hp}{h1:Heap}(l:Left fs e T h1 h2)(u:Un fs [] H H' h h1)(he:h.get? e=none)(hT:h.get? T=none):Un fs [] H H' h h2 where
 keep:=λb o q n hb hx=>l.keep b o hb (λz=>by grind) (λz=>by grind) (u.keep b o q n hb hx)
 slot:=λb o q n hb hx=>by
  obtain⟨sl,e1⟩:=u.slot b o q n hb hx;obtain⟨XF,e2⟩:=l.slot b _ hb e1;exact⟨_,e2⟩
 free:=λb o q n hx=>u.free b o q n hx
 there:=λb o q hx=>by
  obtain⟨o',e1⟩:=u.there b o q hx;by_cases hb:b∈fs
  .obtain⟨sl,e2⟩:=l.slot b _ hb e1
   exact⟨_,e2⟩
  .exact⟨o',l.keep b o' hb (λz=>by grind) (λz=>by grind) e1⟩
 tups:=u.tups
 frzs:=u.frzs
 tbls:=u.tbls
theorem Left.hok{fs:List Addr}{h':Heap}(l:Left fs e T h h')(x:HOk P w H h)(hf:∀b∈fs,H b=none)(he:H e=none)(hT:H T=none):HOk P w H h':=λa o q=>by
 refine(x a o q).stay (λb u hb e1=>?_) (λ_ z=>z) λ_ _ z=>z;have key:∃o,H b=some o:=by
  grind
 obtain⟨ob,key⟩:=key;exact l.keep b u (λz=>by grind) (λz=>by grind) (λz=>by grind) e1
section
variable {X:Cx}{pins:List (Addr×Obj)}{σ:St}{H H':Hp}{s s':Shared}
theorem flying{cls:Value}(I:Inv X pins σ H' s')(t:Trc e T cls s'.heap):∃a0,nr (g9 s'.heap (e::T::frs X.stack)) X.stack e cls a0 s'.heap:=by
 obtain⟨a0,z⟩:=t.to (gw _ (av _ aT));exact⟨a0,λb o q=>jX _ q,gw _ aT,o3 (λb hb=>av _ (av _ hb)) I.stack,z⟩
theorem wg(I:Inv X pins σ H' s')(k:(g9 s'.heap (e::T::frs X.stack)).StaysIn h2)(sl:s'.heap.UpToSlots h2):Left (frs X.stack) e T s'.heap h2:=by
 refine⟨λb o hb he hT q=>k b o (fk _ q λz=>?_),λb o hb q=>?_⟩
 .grind
 .obtain⟨_,o',ho,hd⟩:=I.stack.mem hb
  rw[q]at ho;cases ho;exact sl b o q hd
theorem FW{T2:Addr}{cls:Value}(I:Inv X pins σ H' s')(t2:Trc e T2 cls h2)(hn:(g9 s'.heap (e::T::frs X.stack)).get? T2=none)(sl:s'.heap.UpToSlots h2):T2=T\/s'.heap.get? T2=none:=by
 cases q:s'.heap.get? T2 with
 |none=>exact .inr rfl
 | some o=>
   left;obtain⟨oe,vs,a0,oT,ts,h1,Ur,h3,h4,h6,h7,h8,h9⟩:=t2;by_cases hm:T2∈e::T::frs X.stack
   .rcases aD.mp hm with z|z
    .exact absurd z h6
    .rcases aD.mp z with z|z
     .omega
     .obtain⟨_,o',ho,hd⟩:=I.stack.mem z
      obtain⟨XF,e2⟩:=sl T2 o' ho hd;rw[h7]at e2;simp_all
   .rw[fk _ q hm]at hn;cases hn
variable{E:XK}
theorem Fg{cls:Value}(hex:X.ex=[])(I:Inv X pins σ H s)(os:s'.os=s.os)(hg:AllBare s'.gens)(un:Un (frs X.stack) [] H H' s.heap s'.heap)(hok:HOk X.prog X.w H' s'.heap)(t:Trc e T cls s'.heap)(he:s.heap.get? e=none)(hT:s.heap.get? T=none)(ne:H' e=none)(nT:H' T=none)(q:E cls none H'):
  CX1 X.prog X.w X.outer X.H₀ X.s₀ E (.ref e) s':=by
 have I2:=I.call' os un hok hg λb z=>nomatch z
 have old:∀a,s.heap.get? a=none->X.s₀.heap.get? a=none:=λa ha=>by
  cases q:X.s₀.heap.get? a with
  |none=>rfl
  | some o=>
    obtain⟨o',e1⟩:=I.base.there a o q (by rw[hex];simp)<;>grind
 have b:=I2.base;rw[hex]at b;exact⟨e,T,_,H',rfl,os.trans I.os,hg,b,hok,t,old e he,old T hT,ne,nT,q⟩
structure Lv(X:Cx)(E:XK):Prop where
 stk:X.stack=X.env::X.outer
 fr:X.env.frame=some X.env.locals
 ex:X.ex=[]
 xe:X.xe=λe s'=>aN (model X.prog X.w) X.A (leaving X.env e) (λ_ s''=>CX1 X.prog X.w X.outer X.H₀ X.s₀ E e s'') (λe' s''=>CX1 X.prog X.w X.outer X.H₀ X.s₀ E e' s'') s'
theorem Lv.pass(L:Lv X E):rJ (CX1 X.prog X.w) X E:=by
 rintro pins σ H s ev s' I ⟨e,T,cls,H',rfl,os,hg,un,hok,t,he,hT,ne,nT,q⟩;have I1:=I.call' os un hok hg λb z=>nomatch z
 rw[L.xe];obtain⟨a0,fl⟩:=flying I1 t;have Sq:=fl;rw[show nr _ _ e _ a0 _=nr _ (X.env::X.outer) e _ a0 _ by rw[<-L.stk]]at Sq;refine wpAny_leaves_onW (by rw[I.ok.frames,L.stk]) L.fr Sq λh2 Ub sl=>?_;obtain⟨f1,f2,f3,f4⟩:=Ub;obtain⟨T2,t2,YD⟩:=Trc.of f4;have lf:=wg I1 f1 sl;have new:=FW I1 t2 YD sl;refine Fg L.ex I os hg (lf.un un he hT) (lf.hok hok I1.stkFree ne nT) t2 he ?_ ne ?_ q
 .rcases new with z|z
  .rw[z];omega
  .cases q:s.heap.get? T2 with
   |none=>rfl
   | some o=>
     obtain⟨o',e1⟩:=un.there T2 o q (by simp)<;>grind
 .rcases new with z|z
  .rw[z];omega
  .exact HOk.none_of hok z
theorem Lv.made{C:Addr}{args:List Value}{h1:Heap}(L:Lv X E)(I:Inv X pins σ H s)(hx:Heap.MadeExcOf s.heap h1 e (.ref C) args)(q:E (.ref C) none H):X.xe (.ref e) { s with heap:=h1 }:=by
 rw[L.xe];have fs:=by
  have:=o3 (g:=s.heap) (λb hb=>hb) I.stack;rwa[show s.heap.FunFrames _ _=s.heap.FunFrames _ (X.env::X.outer) by rw[<-L.stk]]at this
 refine wpAny_leaves_madeW (by rw[I.ok.frames,L.stk]) L.fr (λb o q=>jX _ q) fs hx λh2 t Ub _ _ sl=>?_;obtain⟨f1,f2,f3,f4⟩:=Ub;obtain⟨T2,t2,YD⟩:=Trc.of f4;have XF:=λb o q nf=>sl b o (hx.keeps b o q) nf;have slt:∀b o,b∈frs _->s.heap.get? b=some o->∃sl,h2.get? b=some _:=λb o hb q=>by
  obtain⟨_,o',ho,hd⟩:=I.stack.mem hb;rw[q]at ho;cases ho;exact XF b o q hd
 have lf:Left _ e e _ h2:=⟨λb o hb _ _ q=>f1 b o (fk _ q hb),slt⟩;have ne:=HOk.none_of I.hok hx.new;have hT:s.heap.get? T2=none:=by
  cases q:s.heap.get? T2 with
  |none=>rfl
  | some o=>
    by_cases hm:T2∈frs X.stack
    .obtain⟨_,o',ho,hd⟩:=I.stack.mem hm
     obtain⟨sl'',e2⟩:=XF T2 o' ho hd;obtain⟨oe,vs,a0,oT,ts,h1,Ur,h3,h4,h6,h7,h8,h9⟩:=t2<;>grind
    .rw[fk _ q hm]at YD;omega
 exact Fg L.ex I rfl I.bare (lf.un Un.refl hx.new hx.new) (lf.hok I.hok I.stkFree ne ne) t2 hx.new hT ne (HOk.none_of I.hok hT) q
end
end _G
namespace _G
open PySem PySem.Spec _L
open PySem.W (envX kla_fn kla_obj CodeHd tabObj)
open PyProof.Rows hiding St
abbrev MX:=Rho->Sto->Option (Nat×Sto)
abbrev RF:=List U->Sto->Option (Nat×Sto)
def xFn(r:RF)(a:MA):MX:=λG S=>bnd (a G S) λus S1=>r us S1
def xML(o:ME)(r:MX):MX:=λG S=>bnd (o G S) λp S1=>match p with
 |.ref n=>(getL S1 n).bind λ_=>r G S1
 |_=>none
def vj(np:Nat)(r:MX)(cs:List U):RF:=λus S=>if us.length=np then r (us.map some++cs.map some) S else none
def kL(b:Nat->Bool)(is:List Nat):Cell:= .lst (is.map λi=>.bl (b i))
def iS(b:Nat->Bool):Sto:= [kL b [0,1,2],kL b [3,4,5],kL b [0,1,2,3,4,5,6]]
def bQ(q:Nat)(j:Nat):Bool:=decide (q=j)||decide (j=7)
def qM(rz:List Nat)(φ:MF)(ψ:RF)(S:Sto):Res U:=match φ [] S with
 |some r=>some (.non,r.2++iS λ_=>false)
 | none=>match ψ [] S with
   |some r=>if r.1∈rz then some (.ref (r.2.length+3),r.2++(iS (bQ r.1)++[.lst [.int r.1]])) else none
   |none=>none
abbrev VF:=MF->RF->Sto->Res U
def Bg(vf:VF)(g:Addr)(φ:MF)(ψ:RF):MF:=λus S=>match us with
 |[.obj a]=>if a=g then vf φ ψ S else none
 |_=>none
def kB(vf:VF)(is:List Nat)(ml:ME)(rl:MX):ME:=λG S=>(jt is G).bind λcs=>vf (nu 0 ml cs) (vj 0 rl cs) S
def Fc(cl:Nat->Addr)(K:KX)(μ:List Addr)(H:Hp)(C:Nat)(S':Sto)(E:XK):Prop:= ∀Y6 H',Pre μ Y6->bq H H'->HR K Y6 S' H'->E (.ref (cl C)) none H'
def tX(cl:Nat->Addr)(K:KX)(r:MX)(E:XK)(σ:St)(H:Hp):Prop:= ∃μ S G C S',HR K μ S H/\ER H μ G σ/\r G S=some (C,S')/\Fc cl K μ H C S' E
def tXE(cl:Nat->Addr)(K:KX)(r:MX)(E:XK):TE:=λσ H _=>tX cl K r E σ H
def tXA(cl:Nat->Addr)(K:KX)(r:MX)(E:XK):TA:=λσ H _=>tX cl K r E σ H
def tXS(cl:Nat->Addr)(K:KX)(r:MX)(E:XK):TS:=λ_ σ H=>tX cl K r E σ H
def spX(cl:Nat->Addr)(K:KX)(r:RF):Sp:=λvs H _ E=>∃μ S us C S',HR K μ S H/\RUs H μ us vs/\r us S=some (C,S')/\Fc cl K μ H C S' E
variable{cl:Nat->Addr}{μ:List Addr}
theorem Fc.mono{K:KX}{Y0:List Addr}{H H1:Hp}{C:Nat}{S':Sto}{E:XK}(a:Fc cl K μ H C S' E)(p:Pre μ Y0)(k:bq H H1):Fc cl K Y0 H1 C S' E:=λY6 H' p' k'=>a _ H' (p.trans p') (k.trans k')
abbrev vE:List Value := [.type "ValueError",.type "Exception",.type "BaseException",.type "object"]
structure FnX(M:Mo)(cl:Nat->Addr)(x:Str)(k:Nat)(ps:List Str)(r:RF):Prop where
 ex:∃(f:Addr) (fd:FuncData),M.mg x=some (.ref f)/\cg M.K (.ref f)=true/\Binds M.K fd ps []/\iY M.P M.w M.K M.mg M.base (CX1 M.P M.w) k f fd ps (spX cl M.K r)
variable{X:Cx}
theorem _root_._L.PA.nox{es:List Expr}{t:TA}(h:PA X.nox es t):PA X es t:=λpos pins s σ H Q I hw=>
 bE (h _ _ s σ H Q (I.wish _) hw) (λus s' ⟨vs,H',J,r,q⟩=>⟨vs,H',J.unwish,r,q⟩) λ_ _ z=>z.elim
theorem _root_._L.PS.nox{st:Stmt}{t:TS}(h:PS X.nox st t):PS X st t:=λpins s σ H D I hw=>
 bE (h _ s σ H D (I.wish _) hw) (λf s' hs=>SP.unwish hs) λ_ _ z=>z.elim
theorem PE.never{e:Expr}:PE X e λ_ _ _=>False:=λ_ _ _ _ _ _ h=>h.elim
theorem PSs.never{e:List Stmt}:PSs X e λ_ _ _=>False:=λ_ _ _ _ _ _ h=>h.elim
structure yd(M:Mo)(cl:Nat->Addr)(f:Addr)(k:Nat)(ps:List Str)(r:RF):Prop where
 ex:∃fd:FuncData,((∃(oc:Value) (od:Option Addr) (sl:Array (Option Value)),M.base.get? f=some ⟨oc,od,.func fd,sl⟩)\/cg M.K (.ref f)=true)/\Binds M.K fd ps []/\iY M.P M.w M.K M.mg M.base (CX1 M.P M.w) k f fd ps (spX cl M.K r)
variable{qual:Str}{body:Expr}{scope:Scope}{pm:Value}{oc:Obj}{ws:Array Value}{cs:List U}
theorem HQ{M:Mo}(h0:M.mkr=none){name:Str}{params:Arguments}{XX:List (Str×Addr)}{Zq:Value}{c f:Addr}{t:Tok}{ps fs:List Str}{k:Nat}{ml:MX}{od:Option Addr}{fc:Value}{Um:Array (Option Value)}{cv:List V}(WJ:∀μ S H,HR M.K μ S H->RUs H μ cs cv)
  (hf:M.base.get? f=some ⟨fc,od,.func (kla_fn name qual params body scope XX pm (.ref c) Zq),Um⟩) (hc:(c,oc)∈M.K.cds) (Zb:oc.data=.fields ws) (hq:ws[1]?=some (.str qual t))
  (S:iQ ps fs scope) (C:lq M.base XX fs cv) (Yu:∀y c,XX.lookup y=some c->∃o v,M.base.get? c=some o/\o.data=.cell v) (inj:∀x y c,XX.lookup x=some c->XX.lookup y=some c->x=y)
  (hb:∀X E,Lv X E->Sc M X.nox k (ps++fs) scope.names->PE X body (tXE cl M.K ml E)):
  iY M.P M.w M.K M.mg M.base (CX1 M.P M.w) (k+1) f (kla_fn name qual params body scope XX pm (.ref c) Zq) ps (spX cl M.K (vj ps.length ml cs)):=by
 have len:∀vs H Q E,spX cl M.K (vj _ ml cs) vs H Q E->vs.length=ps.length:=λvs H Q E h=>by
  obtain⟨μ,S',us,u,YO,hr,rs,e,_⟩:=h;unfold vj at e
  split at e
  .rename_i hl;rw[<-rs.len];exact hl
  .cases e
 refine⟨len,λA outer s H args us vs Q E hr e0 Yy r Zh=>?_⟩;have hl:=len _ _ _ _ Zh;obtain⟨μ,S1,zs,u,S2,hR,rs,e,ka⟩:=Zh;have V5:=(e0.hok c _ (hR.ext.cds _ hc)).1;have lim:=e0.mod.nolimit.keeps λb o e=>(e0.bs b o e).1;refine Cq hr.depth (e0.bs f _ hf).1 rfl S.co S.gen rfl ⟨c,oc,ws,t,rfl,V5,Zb,hq⟩ (Yy _ _ _ _ ?_);refine zW S.kind (λx hx=>S.par _ (jO hx).1) λs1 x=>⟨lim.keeps x.toInCall.keep,?_⟩;have I:=AL (qual:=qual) (f:=f) (cd:= .ref c) S hr.hd e0 hl r C Yu inj x;have SS:Sc M (yv _ _ _ _ _ _ qual _ f (.ref c) XX A outer s H) k _ scope.names:=
  ⟨rfl,rfl,rfl,rfl,rfl,rfl,S.nd,rfl,λ_ h=>h,λy h=>⟨h,by show(scope.names.lookup y==some _)=true;rw[h];rfl⟩,λ_ h=>.inr h,λ_ h=>h,hr.deeper _,k8,λc q h=>by rw[h0]at h;cases h⟩
 unfold vj at e
 split at e
 rotate_left
 .cases e
 have er:ER H μ (zs.map some++cs.map some) (vs.map some++cv.map some):=by
  have rc:=WJ _ _ _ hR;have all:=rs.append rc;refine⟨by simp[rs.len,rc.len],λi w hw=>?_⟩;rw[<-bS,ba]at hw;cases q:(zs++cs)[i]? with
  |none=>rw[q]at hw;cases hw
  | some w'=>
    rw[q]at hw;cases hw;obtain⟨v,hv,rv⟩:=all.get q;exact⟨v,by rw[<-bS,ba,hv];rfl,rv⟩
 let X1:=(yv M.P M.w M.K M.mg M.base (ps++fs) qual scope f (.ref c) XX A outer s H).wish λe s'=>aN (model M.P M.w) (A.deeper (o6 qual scope s.heap.objs.size f (.ref c) XX)) (leaving (o6 qual scope s.heap.objs.size f (.ref c) XX) e) (λ_ s''=>CX1 M.P M.w outer H s E e s'') (λe' s''=>CX1 M.P M.w outer H s E e' s'') s'
 refine Cr (bE (hb X1 E ⟨rfl,rfl,rfl,rfl⟩ SS [] _ _ H (λ_ _=>False) (I.wish _) ⟨μ,S1,_,u,S2,hR,er,e,ka⟩) (λv s' hs=>?_) λe s' hs=>hs);obtain⟨x,H',J,rv,q⟩:=hs;exact q.elim
structure FnR(M:Mo)(cl:Nat->Addr)(x:Str)(k d:Nat)(vf:VF):Prop where
 ex :∃ (f:Addr) (fd:FuncData),M.mg x=some (.ref f)/\cg M.K (.ref f)=true/\Binds M.K fd ["call"] [] /\
  ∀(caps:List U) (capv:List V) (cds:List (Addr×Obj)) (base:Heap) (g:Addr) (j:Nat) (φ:MF) (ψ:RF),fQ M.mg base->k<=j->Lam (M.to caps capv cds base) g j [] φ->yd (M.to caps capv cds base) cl g j [] ψ ->
   iY M.P M.w M.K M.mg base CX0 (j+d) f fd ["call"] (spM (M.K.to caps capv cds) (Bg vf g φ ψ))
theorem yd.imp{M:Mo}{cl:Nat->Addr}{f:Addr}{k:Nat}{ps:List Str}{r r':RF}(L:yd M cl f k ps r)(h:∀us S q,r' us S=some q->r us S=some q):yd M cl f k ps r':=by
 obtain⟨fd,a,b,F⟩:=L.ex;refine⟨fd,a,b,F.imp λvs H Q E=>?_⟩;rintro ⟨μ,S,us,C,S',h1,h2,h3,h4⟩;exact⟨μ,S,us,C,S',h1,h2,h _ _ _ h3,h4⟩
def zc:Arguments:=⟨[],[],none,[],[],none,[]⟩
theorem qU{K:aj}{name:Str}{cl:List (Str×Addr)}{cdv ct:Value}:Binds K (kla_fn name qual zc body scope cl pm cdv ct) [] []:= .all λus hl=>by
 match us,hl with
 |[],_=>rfl
section
variable {M:Mo}{X:Cx}{k:Nat}{N:List Str}{ns:List (Str×NameKind)}{pins:List (Addr×Obj)}{σ:St}{H:Hp}{s:Shared}{cl:Nat->Addr}{vf:VF}{d:Nat}
structure Xt(M:Mo)(caps:List U)(capv:List V)(cds:List (Addr×Obj))(base:Heap):Prop where
 mod:Mod M.K M.mg M.base
 sz:M.base.objs.size<=base.objs.size
 sub:∀a o,M.base.get? a=some o->base.get? a=some o
 cap:∀{μ:List Addr}{H:Hp},RUs H μ caps capv->RUs H μ M.K.caps M.K.capv
 cds:∀q∈M.K.cds,q∈cds
theorem RUs.split{H:Hp}{μ:List Addr}:∀{as bs:List U}{vs ws:List V},as.length=vs.length->RUs H μ (as++bs) (vs++ws)->RUs H μ as vs/\RUs H μ bs ws
 |[],_,[],_,_,h=>⟨.nil,h⟩
 | _::_,_,_::_,_,e,h=>by
   obtain⟨v,r,e1,h1,h2⟩:=h;cases e1;obtain⟨a,b⟩:=RUs.split (yO e) h2;exact⟨.cons h1 a,b⟩
variable{is:List Nat}{rl:MX}
theorem EV{f0:Addr}{Xg:FuncData}{fs:List Str}{k' j:Nat}{ml:ME}{Zq:Value}{c' f:Addr}{t:Tok}
  {S1 S':Sto}{G:Rho}{u:U}{Q:VK}
  (S:Sc M X k N ns) (hB:fQ M.mg M.base) (hj:k'<=j+1) (hk:j+1+d<=k) (Yy:Binds M.K Xg ["call"] [])
  (FF :∀ (caps:List U) (capv:List V) (cds:List (Addr×Obj)) (base:Heap) (g:Addr) (j:Nat) (φ:MF) (ψ:RF),fQ M.mg base->k'<=j->Lam (M.to caps capv cds base) g j [] φ->yd (M.to caps capv cds base) cl g j [] ψ->iY M.P M.w M.K M.mg base CX0 (j+d) f0 Xg ["call"] (spM (M.K.to caps capv cds) (Bg vf g φ ψ)))
  (LS:iQ [] fs scope) (YX:∀y∈fs,ns.lookup y=some .cell/\(y,a9)∈scope.names) (WR:cZ (λy=>N.findIdx? (· == y)) fs=some is)
  (hb:∀(caps:List U) (capv:List V) (cds:List (Addr×Obj)) (base:Heap),fQ M.mg base->Xt M caps capv cds base->∀(X':Cx),Sc (M.to caps capv cds base) X' j ([]++fs) scope.names->PE X' body (tM (M.K.to caps capv cds) ml))
  (hx:∀(caps:List U) (capv:List V) (cds:List (Addr×Obj)) (base:Heap),fQ M.mg base->Xt M caps capv cds base->∀(X':Cx) (E:XK),Lv X' E->Sc (M.to caps capv cds base) X'.nox j ([]++fs) scope.names->PE X' body (tXE cl (M.K.to caps capv cds) rl E))
  (I:Inv X pins σ H s) (hr:HR M.K μ S1 H) (er:ER H μ G σ) (Yf:jt is G=some cs) (spec:vf (nu 0 ml cs) (vj 0 rl cs) S1=some (u,S')) (aft:Aft M.K μ H u S' Q)
  (hf:s.heap.get? f=some (kla_obj "<lambda>" qual zc body scope (fj X.env.cells scope.names []) pm c' Zq)) (YJ:H f=none) (XZ:f∉frs X.stack) (hc:H c'=some (.frz oc fz)) (Zb:oc.data=.fields ws) (hq:ws[1]?=some (.str qual t)) :
  aN (model X.prog X.w) X.A (call (.ref f0) [.ref f]) (EP X pins σ Q) X.xe s:=by
 obtain⟨cv,rc,C⟩:=vP S I er YX WR Yf;have WC:fQ M.mg (baseOf s.heap H (frs X.stack)):=hB.keeps λa o e=>oJ I a o (by rw[S.hb];exact e);have xt:Xt M (cs++M.K.caps) (cv++M.K.capv) (M.K.cds++[(c',oc)]) (baseOf s.heap H (frs X.stack)):=by
  refine⟨?_,?_,λa o e=>oJ I a o (by rw[S.hb];exact e),λr=>(RUs.split rc.len r).2,λ_=>aZ _⟩
  .have:=I.ok.mod;rwa[S.hK,S.hm,S.hb]at this
  .have:=(pD I).bsz;have e:=I.env0.bsz;rw[S.hb]at e;rw[baseOf,nQ,pq];exact e
 have Yu:∀y c,(fj X.env.cells scope.names []).lookup y=some c->∃o v,(baseOf s.heap H (frs X.stack)).get? c=some o/\o.data=.cell v:=λy c e=>by
  obtain⟨e1,e2⟩:=gO e;obtain⟨v,o,ho,hd⟩:=I.cell y c e1;exact⟨o,v,eV ho (I.freeC y c e1) (sP S I (YX y (LS.fre _ e2 rfl)).1 e1),hd⟩
 have inj:∀y z c,(fj X.env.cells scope.names []).lookup y=some c->(fj X.env.cells scope.names []).lookup z=some c->y=z:=λy z c e1 e2=>I.ok.inj y z c (gO e1).1 (gO e2).1;have lam:Lam (M.to (cs++M.K.caps) (cv++M.K.capv) (M.K.cds++[(c',oc)]) (baseOf s.heap H (frs X.stack))) f (j+1) [] (nu 0 ml cs):=
  ⟨_,.inl ⟨_,_,_,eV hf YJ XZ⟩,qU,DJ (M:=M.to (cs++M.K.caps) (cv++M.K.capv) (M.K.cds++[(c',oc)]) (baseOf s.heap H (frs X.stack))) rfl (λ_ _ _ h=>(RUs.split rc.len h.ext.cap).1) (eV hf YJ XZ) (aJ _ aT) Zb hq LS C Yu inj (hb _ _ _ _ WC xt)⟩
 have Xj:yd (M.to (cs++M.K.caps) (cv++M.K.capv) (M.K.cds++[(c',oc)]) (baseOf s.heap H (frs X.stack))) cl f (j+1) [] (vj 0 rl cs):=
  ⟨_,.inl ⟨_,_,_,eV hf YJ XZ⟩,qU,HQ (M:=M.to (cs++M.K.caps) (cv++M.K.capv) (M.K.cds++[(c',oc)]) (baseOf s.heap H (frs X.stack))) rfl (λ_ _ _ h=>(RUs.split rc.len h.ext.cap).1) (eV hf YJ XZ) (aJ _ aT) Zb hq LS C Yu inj (hx _ _ _ _ WC xt)⟩
 have FO:=FF _ _ _ _ f (j+1) _ _ WC hj lam Xj;rw[<-S.hP,<-S.hw,<-S.hK,<-S.hm]at FO
 have Zd:HR (M.K.to (cs++M.K.caps) (cv++M.K.capv) (M.K.cds++[(c',oc)])) μ S1 H:=⟨hr.len,hr.inj,hr.cell,rc.append hr.ext.cap,λq hq=>by
  rcases aV.mp hq with z|z
  .exact hr.ext.cds q z
  .have e:q=(c',oc):=by simpa using z
   rw[e];exact hc,hr.ext.tab⟩
 have Zh:spM (M.K.to (cs++M.K.caps) (cv++M.K.capv) (M.K.cds++[(c',oc)])) (Bg vf f (nu 0 ml cs) (vj 0 rl cs)) [.ref f] H Q E0:=by
  refine⟨μ,S1,[.obj f],u,S',Zd,.cons (by simp only[RU]) .nil,(if_pos rfl).trans spec,λY6 v H' p' k' ZV U'=>?_⟩;exact aft Y6 v H' p' k' ⟨ZV.len,ZV.inj,ZV.cell,RUs.mono k' p' _ _ hr.ext.cap,λq hq=>ZV.ext.cds q (aZ _ hq),ZV.ext.tab⟩ U'
 rw[<-S.hK]at Yy;refine Fw (ij (FO.run X.A X.stack s H ⟨[.ref f],[]⟩ [.ref f] [.ref f] Q E0 (S.room.mono hk) (pD I) (Yy s _ I.kIn rfl) (.cons rfl .nil) Zh) λr s' hq=>?_);cases r with
 |error e=>exact hq.elim
 | ok fl=>
   cases fl with
   |ret u=>exact I.after hq
   |next=>exact bK hq
   |brk=>exact bK hq
   |cont=>exact bK hq
theorem HG{fs:List Str}{k' j:Nat}{ml:ME}{g q:Str}{c P:Addr}{p1 lp pos:Pos}
  (S:Sc M X k N ns) (FC:FnR M cl g k' d vf) (hj:k'<=j+1) (hk:j+1+d<=k) (WZ:M.mkr=some (c,q)) (MK:Mkr M c P (q++"<lambda>"))
  (hg:eg ns g=true) (U3:(g==("__debug__":Str))=false)
  (LS:iQ [] fs scope) (YX:∀y∈fs,ns.lookup y=some .cell/\(y,a9)∈scope.names) (WR:cZ (λy=>N.findIdx? (· == y)) fs=some is)
  (hb:∀(caps:List U) (capv:List V) (cds:List (Addr×Obj)) (base:Heap),fQ M.mg base->Xt M caps capv cds base->∀(X':Cx),Sc (M.to caps capv cds base) X' j ([]++fs) scope.names->PE X' body (tM (M.K.to caps capv cds) ml))
  (hx:∀(caps:List U) (capv:List V) (cds:List (Addr×Obj)) (base:Heap),fQ M.mg base->Xt M caps capv cds base->∀(X':Cx) (E:XK),Lv X' E->Sc (M.to caps capv cds base) X'.nox j ([]++fs) scope.names->PE X' body (tXE cl (M.K.to caps capv cds) rl E)):
  PE X (.Call (.Name g p1) [.Lambda zc body scope lp] [] pos) (tM M.K (kB vf is ml rl)):=by
 intro pins s σ H Q I h;obtain⟨μ,S1,G,u,S',ZZ,er,qm,aft⟩:=h;unfold kB at qm;cases Yf:jt is G with
 |none=>rw[Yf]at qm;cases qm
 |some cs=>
 rw[Yf]at qm;obtain⟨f0,Xg,hm,Za,Yy,FF⟩:=FC.ex;rw[<-S.hK]at Za;refine dE (je I (S.gl hg) (by rw[S.hm];exact hm) ?_ U3);refine jY I.ok.mod.kin Za ?_ rfl rfl;obtain⟨YS,YT⟩:=S.cod c q WZ;obtain⟨Sl,hP,tr,al⟩:=ZZ.ext.tab _ MK.mem;have WO:=I.hok P _ hP;have kin:=by have:=I.kIn;rwa[S.hK]at this
 have C:=MK.hd _ kin;have W':=I.mod.glob.keeps I.bk;obtain⟨bm,ob,b1,b2,b5,b6,b7,b8⟩:=MK.bl;have XH:=I.bk bm ob (by rw[S.hb];exact b5);have b3:bm≠mainGlobals:=λz=>by
  obtain⟨o,es,ep,e,hd,_⟩:=W';rw[<-z,XH]at e;cases e;rw[b8]at hd;cases hd
 have b4:bm≠P:=λz=>by
  rw[z,WO]at XH;cases XH;cases b8
 have BA:s.heap.BuiltinsAt X.mg P:=⟨bm,ob,by rw[S.hm];exact b1,b2,b3,b4,XH,b6,b7,b8⟩;have Ya:=sW λy hy Vb=>I.ok.has y.1 (.inl (S.cel y.1 (YX y.1 (LS.fre y hy Vb)).1).1);show aN _ _ (spliced [(false,eval _ X.env)]) _ _ s;refine d6 (PySem.W.kla_eval rfl ?_);have fin:∀(H2:Hp) (s2:Shared) (c' f:Addr) (Zq:Value) (oc:Obj) (ws:Array Value) (t:Tok),Inv X pins σ H2 s2->bq H H2->HR M.K μ S1 H2 ->
   s2.heap.get? f=some (kla_obj "<lambda>" (X.env.qual++"<lambda>") zc body scope (fj X.env.cells scope.names []) ((X.mg "__name__").getD .none) c' Zq)->H2 f=none->s.heap.objs.size<=f->H2 c'=some (.frz oc fz)->oc.data=.fields ws->ws[1]?=some (.str (q++"<lambda>") t) ->
   aN (model X.prog X.w) X.A (spliced []) (λvs ZX=>X.K.In ZX.heap/\aN (model X.prog X.w) X.A (call (.ref f0) ([]++(bW f::vs))) (EP X pins σ Q) X.xe ZX) X.xe s2:=by
  intro H2 s2 c' f Zq oc ws t I2 XS ZV hf YJ WW hc Zb hq;have XZ:f∉frs X.stack:=λz=>by
   obtain⟨_,o,ho,_⟩:=I.stack.mem z;exact absurd (ak (aw ho) WW) (bA _)
  rw[<-YT]at hq;exact gg ⟨I2.kIn,EV S MK.bl hj hk Yy FF LS YX WR hb hx I2 ZV (er.mono XS (Pre.refl _)) Yf qm (aft.mono (Pre.refl _) XS) hf YJ XZ hc Zb hq⟩
 cases ham:codeAmong lp Sl.toList with
 | none=>
   refine yH (mg:=X.mg) Ya I.ok.glob W' YS C WO tr ham MK.gP BA λc' Zq h' tk hx Yn ZU Xa XT=>?_;obtain⟨c2,oc,ws,t,e,Zb,hd,Yl⟩:=Xa;cases e;have I2:=uX (ob:=kla_obj "<lambda>" (X.env.qual++"<lambda>") zc body scope (fj X.env.cells scope.names []) ((X.mg "__name__").getD .none) c' Zq) (tk:=tk) I hP hx Yn Zb XT;rw[YT]at Yl;obtain⟨XS,ZV⟩:=ZZ.table hP (I.hok.fresh Yn) hd Yl MK.un;have ZG:=aH Yn (aE ZU);refine fin _ _ c' h'.objs.size Zq oc ws t I2 XS ZV (ay _ rfl) ?_ ZG ?_ hd Yl
   .rw[aX (cJ (aw XT)),aX (cJ ZU)]
    exact I.hok.fresh ZG
   .rw[aX (aW hP (I.hok.fresh Yn)).symm,cb]
 | some cv=>
   obtain⟨c',oc,ws,t,rfl,Xs,hd,Yl⟩:=al lp cv ham;refine ve (mg:=X.mg) Ya I.ok.glob W' YS C WO tr ham BA λZq h' tk hk ZG=>?_;have I2:=I.kept (t':=tk) (h':=h'.push (kla_obj "<lambda>" (X.env.qual++"<lambda>") zc body scope (fj X.env.cells scope.names []) ((X.mg "__name__").getD .none) c' Zq)) (fun b o e=>af _ (hk b o e));exact fin H _ c' h'.objs.size Zq oc ws t I2 (bq.refl _) ZZ (ay _ rfl) (I.hok.fresh ZG) ZG Xs hd Yl
end
end _G
namespace _G
open PySem PySem.Spec _L
open PySem.W (envX fnX fnMade CodeHd tabObj)
open PyProof.Rows hiding St
def sml(i:Int):Prop:= -(2^64)<i/\i<2^64
instance(i:Int):Decidable (sml i):=cx _
section
variable {M:Mo}{X:Cx}{k:Nat}{N:List Str}{ns:List (Str×NameKind)}
end
section
variable {M:Mo}{X:Cx}{k:Nat}{N:List Str}{ns:List (Str×NameKind)}{pins:List (Addr×Obj)}{σ:St}{H:Hp}{s:Shared}
end
end _G
namespace _G
open PySem PySem.Spec _L
open PyProof.Rows hiding St
abbrev NS:=List (Str×NameKind)
structure Zt where
 R:List (Str×RF)
 F:List (Str×VF)
 cl:Nat->Addr
 nm:Str
def Zt.to(z:Zt)(nm:Str):Zt:=⟨z.R,z.F,z.cl,nm⟩
structure Tb where
 D:List (Str×MF)
 C:List (Str×U)
 L:List (Str×Addr×MF)
 H:List (Str×(Addr->MF->MF))
 mkr:Bool
 Z:Zt
def Tb.bare(T:Tb):Tb:=⟨T.D,T.C,[],T.H,false,T.Z⟩
def frees(sc:Scope):List Str:=(sc.names.filter λy=>y.2==.free).map (·.1)
def vD(ps:List Str)(sc:Scope)(ns:NS):Bool:=
 sc.kind==.function && !sc.isCoroutine && !sc.isGenerator&&decide ((ps++frees sc).Nodup)&&ps.all (λp=>sc.names.lookup p==some .local||sc.names.lookup p==some .cell)&&sc.names.all (λy=>!(y.2==.cell)||sc.names.lookup y.1==some .cell)&&(frees sc).all λy=>sc.names.lookup y==some .free&&ns.lookup y==some .cell
def notStar:Expr->Bool
 |.Starred _ _=>false
 |_=>true
def jb:Expr->Bool
 |.ListComp _ _ _ _=>false
 |.SetComp _ _ _ _=>false
 |.DictComp _ _ _ _ _=>false
 |_=>true
def kA:Expr->Bool
 |.Set _ _ _=>false
 |_=>true
def kg:Expr->Bool
 |.Slice _ _ _ _=>false
 |_=>true
def baseOk:Expr->Bool
 |.Call (.Name _ _) [] [] _=>false
 |_=>true
def plainT:Expr->Bool
 |.Name _ _=>true
 |.Call _ _ _ _=>true
 |.Subscript _ _ _=>true
 |.Constant _ _ _=>true
 |_=>false
def dummy(N:List Str):Str:=⟨#[N.length+1]⟩
def zl(N:List Str)(x:Str):List Str:=(N.map λy=>if y==x then dummy N else y)++[x]
def bM(x:Str):Bool := !(x==("__debug__":Str)) && !(x==("__classdict__":Str))
def slot(N:List Str)(x:Str):Option Nat:=N.findIdx? (· == x)
def LD(g:Str):Option MF:=
 if g==("len":Str) then some cR else if g==("tuple":Str) then some cu
 else if g==("max":Str) then some sy else if g==("min":Str) then some nE
 else if g==("sorted":Str) then some fo else if g==("int":Str) then some t7   else none
def jr:List Str := ["len","tuple","list","max","min","range","isinstance","bool","int","str","dict","all","any","sorted","reversed","zip","enumerate","set","sum","repr"]
def K5:Operator->Option F2
 |.Add=>some dc
 |.Sub=>some rG
 |.Mult=>some ig
 |.FloorDiv=>some oDiv
 |.Mod=>some oMod
 |.Pow=>some yX
 |_=>none
def Gi:CmpOp->Option F2
 |.Lt=>some oLt
 |.LtE=>some oLe
 |.Gt=>some oGt
 |.GtE=>some oGe
 |.Eq=>some oEq
 |.NotEq=>some oNe
 |.In=>some oIn
 |.NotIn=>some kr
 |.IsNot=>some nG
 |_=>none
def sNo:MS:=λ_ _=>none
def OF:MS:=λG S=>some (.bk,G,S)
def M6:MS:=λG S=>some (.ct,G,S)
def Ec(name:Str)(ma:ME)(mas:MA):Option ME:=
 if name==("append":Str) then some (mML bZ ma mas) else if name==("pop":Str) then some (mML lh ma mas)
 else if name==("index":Str) then some (mMT jK ma mas)
 else if name==("extend":Str) then some (mML ja ma mas) else none
set_option genInjectivity false in
structure Rc where
 e:Tb->List Str->NS->Expr->Option ME
 c:Tb->List Str->NS->Str->List Expr->Option ME
 v:Tb->List Str->NS->Str->List Expr->Option ME
 o:Tb->List Str->NS->Option Expr->Option (Option ME)
 t:Tb->List Str->NS->Expr->Option MT
 l:Tb->List Str->NS->Bool->List Expr->Option MT
 f:Tb->List Str->NS->List Expr->Option MT
 a:Tb->List Str->NS->List Expr->Option MA
 i:Tb->List Str->NS->Expr->Option MI
 g:Tb->List Str->NS->Expr->Option MG
 gs:Tb->List Str->NS->List Expr->Option MGs
 s:Tb->List Str->NS->Stmt->Option MS
 b:Tb->List Str->NS->List Stmt->Option MS
section
variable (R:Rc) (T:Tb) (N:List Str) (ns:NS)
def Mt:Const->Option ME
 |.int i=>some (mC (.int i))
 |.bool b=>some (mC (.bl b))
 |.none=>some (mC .non)
 |.str x=>some (mC (.str x))
 |_=>none
def eUn(a:Expr):UnaryOp->Option ME
 |.USub=>(R.e T N ns a).map (m1 ot)
 |.Not=>(R.e T N ns a).map (m1 Hg)
 |_=>none
def eBo(op:BoolOp)(p:Pos):List Expr->Option ME
 |[]=>none
 |[a]=>R.e T N ns a
 | a::b::r=>(R.e T N ns a).bind λma=>match op with
   |.And=>(R.e T N ns (.BoolOp .And (b::r) p)).map (LQ ma)
   |.Or=>(R.e T N ns (.BoolOp .Or (b::r) p)).map (mOr ma)
def eCm(a:Expr):List CmpOp->List Expr->Option ME
 |[op],[b]=>if kA b then(R.e T N ns a).bind λma=>(R.e T N ns b).bind λmb=>(Gi op).map λf=>m2 f ma mb else none
 |_,_=>none
def eSb(a:Expr):Expr->Option ME
 |.Slice _ _ _ _=>none
 |b=>if kg b then(R.e T N ns a).bind λma=>(R.e T N ns b).map (m2 oIx ma) else none
def eDi:List (Option Expr)->List Expr->Option ME
 |[],[]=>some oN
 |[some a],[b]=>(R.e T N ns a).bind λma=>(R.e T N ns b).map (qR ma)
 |_,_=>none
def eLn(elt it:Expr)(ifs:List Expr)(scope:Scope)(x:Str):Option ME:=
 (R.i T N ns it).bind λmi=>(R.f T (zl N x) scope.names ifs).bind λmt=>(R.e T (zl N x) scope.names elt).map (cy mi mt)
def eLt(elt it:Expr)(ifs:List Expr)(scope:Scope):Expr->Option ME
 |.Name x _=>if scope.kind==.function&&mM N (zl N x) ns scope.names x&&kA it then eLn R T N ns elt it ifs scope x else none
 |_=>none
def eLc(elt:Expr)(scope:Scope):List Comprehension->Option ME
 |[c]=>if c.is_async=0 then eLt R T N ns elt c.iter c.ifs scope c.target else none
 |_=>none
def yq(fs:List Str)(XI:NS):Expr->Option MX
 |.Call (.Name f _) (a::as) [] _=>if eg XI f&&bM f then(T.Z.R.lookup f).bind λrf=>(R.a T.bare fs XI (a::as)).map (xFn rf) else none
 |_=>none
def II(fs:List Str)(XI:NS)(q:Pos)(a:Expr):Expr->Option MX
 |.Attribute o x p=>if x==("append":Str)&&baseOk o&&(p.endLine==q.line)&&notStar a then (R.e T.bare fs XI o).bind fun mo=>(yq R T fs XI a).map (xML mo) else none
 |_=>none
def IE(fs:List Str)(XI:NS):Expr->Option MX
 |.Call g [a] [] q=>(II R T fs XI q a g).or (yq R T fs XI (.Call g [a] [] q))
 |e=>yq R T fs XI e
def Dl(p:Arguments):Bool:=qz p&&p.args.isEmpty
def En(g:Str)(p:Arguments)(b:Expr)(sc:Scope):Option ME:=
 if T.mkr&&T.Z.nm==("<lambda>":Str)&&Dl p&&vD [] sc ns then (cZ (fun y=>N.findIdx? (· == y)) (frees sc)).bind fun is=>(R.e T.bare ([]++frees sc) sc.names b).bind fun ml=>(IE R T ([]++frees sc) sc.names b).bind fun rl=>(T.Z.F.lookup g).map fun rz=>kB rz is ml rl else none
def eRg(g:Str):List Expr->Option ME
 |[a]=>if g==("list":Str) then none else (R.a T N ns [a]).map fun m=>uz (iR1 m)
 |[a,b]=>if g==("list":Str) then (R.a T N ns [a,b]).map fun m=>kI (iR2 m) else none
 |_=>none
def Pn(T:Tb)(g:Str):Bool:=g==("sorted":Str)&&T.Z.nm==("sorted":Str)
def eC1(g:Str):Expr->Option ME
 |.Lambda p b sc _=>En R T N ns g p b sc
 |.Call (.Name r q) rs [] rp=>if (g==("list":Str)||g==("tuple":Str))&&r==("range":Str) then (if eg ns r then eRg R T N ns g rs else none) else R.c T N ns g [.Call (.Name r q) rs [] rp]
 |a=>if Pn T g then(R.a T N ns [a]).map (mFn pv) else R.c T N ns g [a]
def eIs(g t:Str)(tp:Pos)(a:Expr):Option ME:=
 if g==("isinstance":Str) then none else R.c T N ns g [a,.Name t tp]
def Nv(g:Str)(a:Expr)(p:Arguments)(b:Expr)(sc:Scope):Option ME:=
 if T.mkr&&T.Z.nm==("<lambda>":Str)&&notStar a then (q9 p).bind fun ps=>
    if vD ps sc ns then(cZ (λy=>N.findIdx? (· == y)) (frees sc)).bind λis=>(R.e T N ns a).bind λma=>(R.e T.bare (ps++frees sc) sc.names b).bind λml=>(T.H.lookup g).map λF=>oZ F ps.length is ml ma else none
   else none
def eC2(g:Str)(a:Expr):Expr->Option ME
 |.Name t tp=>eIs R T N ns g t tp a
 |.Lambda p b sc _=>Nv R T N ns g a p b sc
 |b=>R.c T N ns g [a,b]
def eCf(g:Str):List Expr->Option ME
 |[]=>(T.D.lookup g).map λmf=>mFn mf ai
 |[a]=>eC1 R T N ns g a
 |[a,b]=>eC2 R T N ns g a b
 |a::b::c::r=>R.c T N ns g (a::b::c::r)
def eMe(o:Expr)(name:Str)(p q:Pos):List Expr->Option ME
 |[]=>if baseOk o&&(p.endLine==q.line)&&name==("pop":Str) then (R.e T N ns o).map fun mo=>mML vN mo ai else none
 |[a]=>if baseOk o&&(p.endLine==q.line)&&notStar a then(R.e T N ns o).bind λmo=>(R.a T N ns [a]).bind (Ec name mo) else none
 |_=>none
def eCa(as:List Expr)(q:Pos):Expr->Option ME
 |.Name g _=>if eg ns g&&bM g then eCf R T N ns g as else R.v T N ns g as
 |.Attribute o name p=>eMe R T N ns o name p q as
 |_=>none
end
def sE(R:Rc)(T:Tb):List Str->NS->Expr->Option ME:=λN ns e=>match e with
  |.Name x _=>if bM x then(if nK ns x then(slot N x).map ae else if eg ns x then(T.C.lookup x).map mC else none) else none
  |.Constant c _ _=>Mt c
  |.BinOp a op b _=>(R.e T N ns a).bind λma=>(R.e T N ns b).bind λmb=>(K5 op).map λf=>m2 f ma mb
  |.UnaryOp op a _=>eUn R T N ns a op
  |.BoolOp op vs p=>eBo R T N ns op p vs
  |.Compare a ops bs _=>eCm R T N ns a ops bs
  |.IfExp c a b _=>(R.t T N ns c).bind λmc=>(R.e T N ns a).bind λma=>(R.e T N ns b).map (wN mc ma)
  |.Subscript a b _=>eSb R T N ns a b
  |.Dict ks vs _=>eDi R T N ns ks vs
  |.Tuple es _ _=>(R.a T N ns es).map gc
  |.List es _=>(R.a T N ns es).map b9
  |.ListComp elt gens scope _=>eLc R T N ns elt scope gens
  |.Call f as Vx q=>if Vx.isEmpty then eCa R T N ns as q f else none
  |_=>none
def sC(R:Rc)(T:Tb):List Str->NS->Str->List Expr->Option ME:=λN ns g as=>(R.a T N ns as).bind λmas=>match LD g with
  |some mf=>some (mFn mf mas)
  |none=>(T.D.lookup g).map λmf=>mFn mf mas
def sV(R:Rc)(T:Tb):List Str->NS->Str->List Expr->Option ME:=λN ns g as=>match as with
 |[]=>none
 |a::as=>if nK ns g&&bM g then(T.L.lookup g).bind λq=>(slot N g).bind λi=>(R.a T N ns (a::as)).map (A8 i q.1 q.2) else none
def sO(R:Rc)(T:Tb):List Str->NS->Option Expr->Option (Option ME):=λN ns o=>match o with
  |none=>some none
  |some e=>(R.e T N ns e).map some
def sT(R:Rc)(T:Tb):List Str->NS->Expr->Option MT:=λN ns e=>match e with
  |.UnaryOp .Not a _=>(R.t T N ns a).map yZ
  |.BoolOp .And vs _=>R.l T N ns true vs
  |.BoolOp .Or vs _=>R.l T N ns false vs
  |.Compare a ops bs _=>(eCm R T N ns a ops bs).map cOf
  |e=>if plainT e then(R.e T N ns e).map cOf else none
def sL(R:Rc)(T:Tb):List Str->NS->Bool->List Expr->Option MT:=λN ns b vs=>match vs with
  |[]=>none
  |[a]=>R.t T N ns a
  |a::r=>(R.t T N ns a).bind λma=>(R.l T N ns b r).map λmr=>if b then wV ma mr else cOr ma mr
def sF(R:Rc)(T:Tb):List Str->NS->List Expr->Option MT:=λN ns ifs=>match ifs with
  |[]=>some cTT
  |[c]=>R.t T N ns c
  |_=>none
def sA(R:Rc)(T:Tb):List Str->NS->List Expr->Option MA:=λN ns es=>match es with
  |[]=>some ai
  |e::r=>if notStar e then(R.e T N ns e).bind λm=>(R.a T N ns r).map (aa m) else none
def sI(R:Rc)(T:Tb):List Str->NS->Expr->Option MI:=λN ns e=>match e with
  | .Call (.Name g q) as [] p=>
    if g==("range":Str) then
     if eg ns g then match as with
      |[a]=>(R.a T N ns [a]).map iR1
      |[a,b]=>(R.a T N ns [a,b]).map iR2
      |_=>none
     else none
    else(R.e T N ns (.Call (.Name g q) as [] p)).map di
  |e=>(R.e T N ns e).map di
def sG(R:Rc)(T:Tb):List Str->NS->Expr->Option MG:=λN ns e=>match e with
  |.Name x _=>if ly ns x then(slot N x).map gN else none
  |.Tuple es _ _=>(R.gs T N ns es).map (gTp es.length)
  |_=>none
def sGs(R:Rc)(T:Tb):List Str->NS->List Expr->Option MGs:=λN ns es=>match es with
  |[]=>some oh
  |e::r=>if notStar e then(R.g T N ns e).bind λg=>(R.gs T N ns r).map (fG g) else none
def KH(R:Rc)(T:Tb)(N:List Str)(ns:NS)(e:Expr):Option MI:=match e with
  |.Call (.Name g q) [a,b] [] p=>if g==("zip":Str) then (if eg ns g then (R.a T N ns [a,b]).map xF else none) else (R.e T N ns (.Call (.Name g q) [a,b] [] p)).map di
  |e=>(R.e T N ns e).map di
def eIt(R:Rc)(T:Tb)(N:List Str)(ns:NS)(e:Expr):Option MI:=match e with
  |e=>KH R T N ns e
def KM(R:Rc)(T:Tb)(N:List Str)(ns:NS)(y:Str)(elt it:Expr)(ifs:List Expr)(scope:Scope):Expr->Option MS
 | .Name x _=>
   if ly ns y&&(scope.kind==.function&&mM N (zl N x) ns scope.names x&&kA it) then
    (slot N y).bind λi=>(R.i T N ns it).bind λmi=>(R.f T (zl N x) scope.names ifs).bind λmt=>(R.e T (zl N x) scope.names elt).map λme=>bD i (cy mi mt me)
   else none
 |_=>none
def O7(R:Rc)(T:Tb)(N:List Str)(ns:NS)(y:Str)(elt:Expr)(scope:Scope):List Comprehension->Option MS
 |[c]=>if c.is_async=0 then KM R T N ns y elt c.iter c.ifs scope c.target else none
 |_=>none
def LL(R:Rc)(T:Tb)(N:List Str)(ns:NS)(x:Str):Expr->Option MS
 |.ListComp elt gens scope _=>O7 R T N ns x elt scope gens
 |e=>if ly ns x&&jb e then(slot N x).bind λi=>(R.e T N ns e).map (bD i) else none
def Bo(i j:Nat)(mas:MA):MS:=λG S=>bnd (mas G S) λvs S1=>match vs with
 |[v,w]=>some (.nx,(G.set i (some v)).set j (some w),S1)
 |_=>none
def G2(px py:Pos)(x y:Str)(a b:Expr):Bool:=px.line==py.line && !(x==y)&&notStar a&&notStar b && !(foldedForSure 8 a&&foldedForSure 8 b) && !(constantsAlone 8 a&&constantsAlone 8 b)
def zZ(ts:List Expr)(e:Expr):Option (Str×Str×List Expr):=match ts,e with
 |[.Name x px,.Name y py],.Tuple [a,b] _ _=>if G2 px py x y a b then some (x,y,[a,b]) else none
 |_,_=>none
def Oc(R:Rc)(T:Tb)(N:List Str)(ns:NS)(e:Expr)(ts:List Expr)(kt:Nat)(pt:Pos):Option MS:=match zZ ts e with
 |some (x,y,as)=>if ns.lookup x==some .local&&ns.lookup y==some .local then(slot N x).bind λi=>(slot N y).bind λj=>(R.a T N ns as).map (Bo i j) else none
 |none=>none
def KU(R:Rc)(T:Tb)(N:List Str)(ns:NS)(e:Expr):Expr->Option MS
  |.Name x _=>LL R T N ns x e
  |.Subscript a b _=>if jb e&&kg b then(R.e T N ns a).bind λma=>(R.e T N ns b).bind λmb=>(R.e T N ns e).map (eU ma mb) else none
  |.Tuple ts kt pt=>Oc R T N ns e ts kt pt
  |_=>none
def sAs(R:Rc)(T:Tb)(N:List Str)(ns:NS)(e:Expr):List Expr->Option MS
 |[t]=>KU R T N ns e t
 |_=>none
def sAu(R:Rc)(T:Tb)(N:List Str)(ns:NS)(x:Str)(e:Expr):Operator->Option MS
  |_=>none
def Lo(R:Rc)(T:Tb)(N:List Str)(ns:NS)(op:Operator)(e:Expr):Expr->Option MS
 |.Name x _=>sAu R T N ns x e op
 |_=>none
def sRt(R:Rc)(T:Tb)(N:List Str)(ns:NS):Option Expr->Option MS
 |some e=>(R.e T N ns e).map dS
 |none=>some (dS (mC .non))
def sFo(R:Rc)(T:Tb)(N:List Str)(ns:NS)(it:Expr)(body:List Stmt):Expr->Option MS
  |.Name x _=>if ly ns x&&kA it then(slot N x).bind λi=>(R.i T N ns it).bind λmi=>(R.b T N ns body).map (fB i mi) else none
  |.Tuple ts kt pt=>if kA it then(R.g T N ns (.Tuple ts kt pt)).bind λg=>(eIt R T N ns it).bind λmi=>(R.b T N ns body).map (j4 g mi) else none
  |_=>none
def JE(R:Rc)(T:Tb)(N:List Str)(ns:NS)(t it:Expr)(body:List Stmt):List Stmt->Option MS
 |[]=>sFo R T N ns it body t
 |_=>none
def sWh(R:Rc)(T:Tb)(N:List Str)(ns:NS)(c:Expr)(body:List Stmt):List Stmt->Option MS
 |[]=>(R.t T N ns c).bind λmc=>(R.b T N ns body).map (jR mc)
 |_=>none
def sS(R:Rc)(T:Tb):List Str->NS->Stmt->Option MS:=λN ns st=>match st with
  |.Assign ts e _=>sAs R T N ns e ts
  |.AugAssign t op e _=>Lo R T N ns op e t
  |.Expr e _=>if jb e then(R.e T N ns e).map d7 else none
  |.Return o _=>sRt R T N ns o
  |.If c a b _=>(R.t T N ns c).bind λmc=>(R.b T N ns a).bind λma=>(R.b T N ns b).map (sIf mc ma)
  |.For t it body els _=>JE R T N ns t it body els
  |.While c body els _=>sWh R T N ns c body els
  |.Pass _=>some dF
  |.Break _=>some OF
  |.Raise _ _ _=>some sNo
  |.Continue _=>some M6
  |_=>none
section
variable (R:Rc) (T:Tb) (N:List Str) (ns:NS)
end
def sB(R:Rc)(T:Tb):List Str->NS->List Stmt->Option MS:=λN ns sts=>match sts with
  |[]=>some dF
  |[s]=>R.s T N ns s
  |s::r=>(R.s T N ns s).bind λms=>(R.b T N ns r).map (bh ms)
def rc:Nat->Rc
 |0=>⟨λ_ _ _ _=>none,λ_ _ _ _ _=>none,λ_ _ _ _ _=>none,λ_ _ _ _=>none,λ_ _ _ _=>none,λ_ _ _ _ _=>none,λ_ _ _ _=>none,λ_ _ _ _=>none,λ_ _ _ _=>none,λ_ _ _ _=>none,λ_ _ _ _=>none,λ_ _ _ _=>none,λ_ _ _ _=>none⟩
 |n+1=>⟨sE (rc n),sC (rc n),sV (rc n),sO (rc n),sT (rc n),sL (rc n),sF (rc n),sA (rc n),sI (rc n),sG (rc n),sGs (rc n),sS (rc n),sB (rc n)⟩
abbrev cE(T:Tb)(n:Nat):=(rc n).e T
abbrev cC(T:Tb)(n:Nat):=(rc n).c T
abbrev cV(T:Tb)(n:Nat):=(rc n).v T
abbrev cO(T:Tb)(n:Nat):=(rc n).o T
abbrev cT(T:Tb)(n:Nat):=(rc n).t T
abbrev cL(T:Tb)(n:Nat):=(rc n).l T
abbrev cF(T:Tb)(n:Nat):=(rc n).f T
abbrev cA(T:Tb)(n:Nat):=(rc n).a T
abbrev cI(T:Tb)(n:Nat):=(rc n).i T
abbrev cG(T:Tb)(n:Nat):=(rc n).g T
abbrev cGs(T:Tb)(n:Nat):=(rc n).gs T
abbrev cS(T:Tb)(n:Nat):=(rc n).s T
abbrev cB(T:Tb)(n:Nat):=(rc n).b T
section
variable {env:Env}{e a b o:Expr}{es:List Expr}{pos q:Pos}
theorem ck(h:notStar e=true)(es:List Expr)(env:Env):starEach (e::es) env=(false,eval e env)::starEach es env:=by
 cases e<;>first |rfl |cases h
theorem nI(pos:Pos)(env:Env):∀{es:List Expr},es.all notStar=true->(backTo pos (starEach es env)).any (·.1)=false
 |[],_=>rfl
 | e::es,h=>by
   rw[bH,aq]at h;rw[ck h.1];show(false||(backTo _ _).any _)=false;rw[nI _ _ h.2];rfl
theorem DD(h:plainT e=true)(env:Env):∀whole,isTrue e env whole=(do let v <- whole;standAt e.pos;holding [v] (truthy v)):=by
 intro whole;cases e<;>first |rfl |cases h
theorem qG(h:kA e=true)(env:Env):∀x,foldedSetIterable e env x=pure x:=by
 intro x;cases e<;>first |rfl |cases h
theorem AN(h:kA b=true)(op:CmpOp):behindInMarks op b=false:=by
 cases b<;>first |rfl |cases h
theorem Iz(h:kg b=true):vV b:=by
 intro o i;cases b<;>first |rfl |cases h
theorem mq(h:baseOk o=true)(name:Str)(env:Env):attributeBase o name env (eval o env)=eval o env:=by
 cases o with
 | Call f as ks p=>
   cases f with
   | Name x p=>
     cases as with
     | nil=>cases ks with
       |nil=>cases h
       |cons k ks=>rfl
     |cons a as=>rfl
   |_=>rfl
 |_=>rfl
theorem oQ(h:jb e=true)(t:Option Expr)(line:Nat)(env:Env):swapsWith e t line env=pure false:=by
 cases e<;>first |rfl |cases h
theorem Gu(h:jb e=true)(t:Expr)(line:Nat)(env:Env):swapsWithSole [t] e line env=pure false:=by
 exact oQ h _ _ _
theorem rj(h:notStar a=true)(q:Pos)(env:Env):((backTo q (starEach [a] env)).all (λx => !x.1)&&(backToKw q (keywordEach [] env)).all (λx=>x.1.isSome)
   && decide ([a].length+([]:List Keyword).length+(if ([]:List Keyword).isEmpty then 0 else 1)<30))=true:=by
 rw[ck h];rfl
theorem J3(h:kg b=true)(env:Env): ∀v,assign (.Subscript a b pos) env v=(do
   let ov <- holding [v] (eval a env)
   let iv <- holding [v,ov] (eval b env)
   standAt pos
   holding [v,ov,iv] (setItem ov iv v)
   release [v,ov,iv] []):=by
 intro v;cases b<;>first |rfl |cases h
theorem xp(h:notStar e=true)(es:List Expr)(env:Env):assignEach (e::es) env=(false,assign e env)::assignEach es env:=by
 cases e<;>first |rfl |cases h
theorem Aq(env:Env):∀es:List Expr,es.all notStar=true->(assignEach es env).length=es.length/\(assignEach es env).findIdx? (·.1)=none
 |[],_=>⟨rfl,rfl⟩
 | e::es,h=>by
   rw[bH,aq]at h;obtain⟨a,b⟩:=Aq env es h.2;rw[xp h.1];exact⟨by simp[a],by rw[List.findIdx?_cons];simp[b]⟩
theorem zK:swappedStores [.Subscript a b pos] e env=pure none:=by
 cases e<;>rfl
end
theorem ib{T:Tb}:∀{n:Nat}{N:List Str}{ns:NS}{es:List Expr}{m:MA},cA T n N ns es=some m->es.all notStar=true
 |0,_,_,_,_,h=>by simp[cA,rc]at h
 |n+1,_,_,[],_,h=>rfl
 | n+1,N,ns,e::es,m,h=>by
   simp only[cA,rc,sA]at h
   split at h
   .rename_i hs
    cases e1:(rc n).e T N ns e with
    |none=>simp_all
    | some me=>
      cases e2:(rc n).a T N ns es with
      |none=>grind
      |some mr=>rw[bH,hs,ib e2];rfl
   grind
theorem yc{T:Tb}:∀{n:Nat}{N:List Str}{ns:NS}{es:List Expr}{m:MGs},cGs T n N ns es=some m->es.all notStar=true
 |0,_,_,_,_,h=>by simp[cGs,rc]at h
 |n+1,_,_,[],_,h=>rfl
 | n+1,N,ns,e::es,m,h=>by
   simp only[cGs,rc,sGs]at h
   split at h
   .rename_i hs
    cases e1:(rc n).g T N ns e with
    |none=>simp_all
    | some me=>
      cases e2:(rc n).gs T N ns es with
      |none=>grind
      |some mr=>rw[bH,hs,yc e2];rfl
   grind
variable{N:List Str}{x:Str}{i:Nat}
theorem slot_get(h:slot N x=some i):N[i]?=some x:=by
 obtain⟨h1,h2,_⟩:=ff.mp h
 simp_all
theorem bU (h:bM x=true):(x==("__debug__":Str))=false/\(x==("__classdict__":Str))=false:=by
 unfold bM at h
 simp_all
theorem bind_eq{α β:Type}{o:Option α}{f:α->Option β}{b:β}(h:o.bind f=some b):∃a,o=some a/\f a=some b:=by
 cases o<;>simp_all
theorem map_eq{α β:Type}{o:Option α}{f:α->β}{b:β}(h:o.map f=some b):∃a,o=some a/\f a=b:=by
 simp_all
section
variable {M:Mo}{X:Cx}{k:Nat}{N:List Str}{ns:NS}{a b c e:Expr}{es:List Expr}{ma mb mc:ME}{mt:MT}{mas:MA}{pos p1 p2:Pos}{x:Str}
theorem KA{ts:List Expr}{kt:Nat}{pt:Pos}{a b:Expr}(S:Sc M X k N ns)(hg:eg ns "zip"=true)(hm:M.mg "zip"=none)(ha:PA X [a,b] (tMA M.K mas))(hs:starEach [a,b] X.env=(false,eval a X.env)::starEach [b] X.env)(Zl:starEach [b] X.env=[(false,eval b X.env)]):PI X (.Tuple ts kt pt) (.Call (.Name "zip" p1) [a,b] [] pos) (Ax M.K (tMA M.K mas)):=
 S.hK▸LW (S.gl hg) (by rw[S.hm];exact hm) ha hs Zl
theorem Es(S:Sc M X k N ns)(hg:eg ns "sorted"=true)(hm:M.mg "sorted"=none)(ha:PA X (e::es) (tMA M.K mas))(he:starEach (e::es) X.env=(false,eval e X.env)::starEach es X.env)(ZO:(backTo pos (starEach es X.env)).any (·.1)=false) :
  PE X (.Call (.Name "sorted" p1) (e::es) [] pos) (tM M.K (mFn fo mas)):=
 PE.con (lL (S.hK▸qb S.calm) (S.gl hg) (by rw[S.hm];omega) tO ha (by decide) (by decide) he ZO) λ_ _ _ h=>zE uC h
theorem HB(S:Sc M X k N ns)(hg:eg ns "sorted"=true)(hm:M.mg "sorted"=none)(ha:PA X (e::es) (tMA M.K mas))(he:starEach (e::es) X.env=(false,eval e X.env)::starEach es X.env)(ZO:(backTo pos (starEach es X.env)).any (·.1)=false) :
  PE X (.Call (.Name "sorted" p1) (e::es) [] pos) (tM M.K (mFn pv mas)):=
 PE.con (lL (S.hK▸λpins s σ H xs us Q I rs h=>h.elim (yP pins s σ H xs us Q I rs) (qb S.calm pins s σ H xs us Q I rs)) (S.gl hg) (by rw[S.hm];exact hm) tO ha (by decide) (by decide) he ZO) λ_ _ _ h=>zE Ei h
theorem Ej(S:Sc M X k N ns)(ho:PE X b (tM M.K mb))(ha:PA X [a] (tMA M.K mas))(hb:baseOk b=true)(hs:notStar a=true)(hl:(p1.endLine==pos.line)=true):PE X (.Call (.Attribute b "extend" p1) [a] [] pos) (tM M.K (mML ja mb mas)):=by
 exact PE.con (zU fw PySem.F.slot_list_extend PySem.F.type_list_extend Hi ho ha (mq hb _ _) (rj hs _ _) hl (ck hs _ _) rfl) λ_ _ _ h=>S.hK▸LP BV h
theorem NX{op:CmpOp}{f:F2}(S:Sc M X k N ns)(h:Gi op=some f):∃r,OpR X (compareOp op) r/\OpU M.K r f:=by
 cases op<;>simp only[Gi,jP,reduceCtorEq]at h<;>subst h
 .exact⟨_,S.hK▸JW S.room.units,M8⟩
 .exact⟨_,S.hK▸L6 S.room.units,O4⟩
 .exact⟨_,O6,vm⟩
 .exact⟨_,MM,vm⟩
 .exact⟨_,NQ,vm⟩
 .exact⟨_,OS,vm⟩
 .exact⟨_,BI,Ew⟩
 .exact⟨_,S.hK▸Ki (by have:=S.room.units;omega),OJ⟩
 .exact⟨_,S.hK▸B9 (by have:=S.room.units;omega),Ef⟩
theorem JP{N':List Str}{scope:Scope}{px py Yg:Pos}{iter elt:Expr}{ifs:List Expr}{wi:TI}{mi:MI}{y:Str}(S:Sc M X k N ns)(i:Nat)(hy:N[i]?=some y)(ho:ly ns y=true)(hk:scope.kind=.function)(ok:mM N N' ns scope.names x=true)(hi:PI X (.Name x px) iter wi)
  (ht:∀X',Sc M X' k N' scope.names->PTs X' ifs (tMT M.K mt)) (he:∀X',Sc M X' k N' scope.names->PE X' elt (tM M.K mc)) (hr:∀σ H Q,tM M.K (cy mi mt mc) σ H Q->pQ wi (tMT M.K mt) (tM M.K mc) σ H Q)
  (hs:∀x,foldedSetIterable iter X.env x=pure x):PS X (.Assign [.Name y py] (.ListComp elt [⟨.Name x px,iter,ifs,0⟩] scope pos) Yg) (tMS M.K (bD i (cy mi mt mc))):=by
 have C:=uF S hk ok;have e:∃b,swapsWith (.ListComp elt [⟨.Name x px,iter,ifs,0⟩] scope pos) (some (.Name y py)) Yg.line X.env=pure b:=⟨_,rfl⟩;obtain⟨b,e⟩:=e;cases b with
 |true=>exact PS.con (FT (by rw[S.hN];exact S.nd) (by rw[S.hN];omega) (S.lo ho).1 S.calm C hi (λZX ZW fp=>ht _ (vq S C _ _ fp)) (λZX ZW fp=>he _ (vq S C _ _ fp)) e hs (S.lo ho).2) λ_ _ _ h=>hr _ _ _ (Jt h)
 |false=>exact yb S i hy ho (Dd S hk ok hi ht he hr hs) e
theorem Ld(S:Sc M X k N ns)(hg:eg ns "int"=true)(hm:M.mg "int"=none)(ha:PA X (e::es) (tMA M.K mas))(he:starEach (e::es) X.env=(false,eval e X.env)::starEach es X.env)(ZO:(backTo pos (starEach es X.env)).any (·.1)=false) :
  PE X (.Call (.Name "int" p1) (e::es) [] pos) (tM M.K (mFn t7 mas)):=
 PE.con (mQ BH (S.gl hg) (by rw[S.hm];omega) PyProof.Rows.boot_int ha (by decide) (by decide) he ZO) λ_ _ _ h=>zE Lc h
theorem Kc:PE X (.Dict [] [] pos) (tM M.K oN):=PE.con E2 λ_ _ _ h=>K1 h
theorem Ke(ha:PE X a (tM M.K ma))(hb:PE X b (tM M.K mb)):PE X (.Dict [some a] [b] pos) (tM M.K (qR ma mb)):=
 PE.con (Hn (DO ha hb Ib) rfl rfl (by simp) (by simp)) λ_ _ _ h=>Lm h
theorem EB{as bs:Expr}{q rp:Pos}(S:Sc M X k N ns)(hg:eg ns "list"=true)(hm:M.mg "list"=none)(V8:eg ns "range"=true)(Ys:M.mg "range"=none)(ha:PA X [as,bs] (tMA M.K mas))(hs:notStar as=true)(Zl:notStar bs=true) :
  PE X (.Call (.Name "list" p1) [.Call (.Name "range" q) [as,bs] [] rp] [] pos) (tM M.K (kI (iR2 mas))):=
 PE.con (mQ (ub S.calm) (S.gl hg) (by rw[S.hm];omega) PyProof.Rows.boot_list (mL (GG (S.gl V8) (by rw[S.hm];omega) ha (by rw[ck hs,ck Zl];rfl) (by rw[ck Zl];rfl)) yS) (by decide) (by decide)) λ_ _ _ h=>E6 h
theorem HY{as:Expr}{q rp:Pos}(S:Sc M X k N ns)(hg:eg ns "tuple"=true)(hm:M.mg "tuple"=none)(V8:eg ns "range"=true)(Ys:M.mg "range"=none)(ha:PA X [as] (tMA M.K mas))(hs:notStar as=true) :
  PE X (.Call (.Name "tuple" p1) [.Call (.Name "range" q) [as] [] rp] [] pos) (tM M.K (uz (iR1 mas))):=
 PE.con (mQ (sv S.calm) (S.gl hg) (by rw[S.hm];omega) ug (mL (Hv (S.gl V8) (by rw[S.hm];omega) ha (by rw[ck hs];rfl)) yS) (by decide) (by decide)) λ_ _ _ h=>HW h
theorem HA(S:Sc M X k N ns)(ho:PE X b (tM M.K mb))(ha:PA X [a] (tMA M.K mas))(hb:baseOk b=true)(hs:notStar a=true)(hl:(p1.endLine==pos.line)=true):PE X (.Call (.Attribute b "index" p1) [a] [] pos) (tM M.K (mMT jK mb mas)):=by
 refine PE.con ?_ λ_ _ _ h=>Gg h;rw[<-S.hK];exact Ez S.room.units ho ha (mq hb _ _) (rj hs _ _) hl (ck hs _ _) rfl
theorem Km(S:Sc M X k N ns)(ho:PE X b (tM M.K mb))(hb:baseOk b=true)(hl:(p1.endLine==pos.line)=true):PE X (.Call (.Attribute b "pop" p1) [] [] pos) (tM M.K (mML vN mb ai)):=by
 exact PE.con (Ma fw AY AZ J9 ho (mq hb _ _) hl) λ_ _ _ h=>S.hK▸Ol LZ h
section
variable {X:Cx}
end
theorem OD{st:Stmt}:PS X st (tMS M.K sNo):=by
 intro pins s σ H D I h;obtain⟨μ,S,G,r,hr,er,e,kk⟩:=h;cases e
theorem MO:PS X (.Break pos) (tMS M.K OF):=PS.con DI λD σ H h=>by
 obtain⟨μ,S,G,r,hr,er,e,kk⟩:=h;cases e;exact kk μ σ H (Pre.refl _) (bq.refl _) hr er
theorem Nx:PS X (.Continue pos) (tMS M.K M6):=PS.con xG λD σ H h=>by
 obtain⟨μ,S,G,r,hr,er,e,kk⟩:=h;cases e;exact kk μ σ H (Pre.refl _) (bq.refl _) hr er
theorem KP:PS X (.Pass pos) (tMS M.K dF):=PS.con HF λD σ H h=>Da h
theorem Lh:PS X (.Return none pos) (tMS M.K (dS (mC .non))):=PS.con F9 λD σ H h=>by
 obtain⟨μ,S,G,r,hr,er,e,kk⟩:=h;cases e;exact kk μ _ H (Pre.refl _) (bq.refl _) hr nA
theorem KG(ha:PE X a (tM M.K ma))(hb:PE X (.BoolOp .And (b::es) pos) (tM M.K mb)):PE X (.BoolOp .And (a::b::es) pos) (tM M.K (LQ ma mb)):=PE.con (J4 ha hb) λ_ _ _ h=>JQ h
theorem NJ(ha:PE X a (tM M.K ma))(hb:PE X (.BoolOp .Or (b::es) pos) (tM M.K mb)):PE X (.BoolOp .Or (a::b::es) pos) (tM M.K (mOr ma mb)):=PE.con (Nj ha hb) λ_ _ _ h=>OQ h
theorem Jx(ha:PE X a (tM M.K ma)):PE X (.UnaryOp .Not a pos) (tM M.K (m1 Hg ma)):=PE.con (Kn ha) λ_ _ _ h=>KO h
end
section
variable {M:Mo}{cl:Nat->Addr}{k n fu:Nat}{N:List Str}{ns:NS}{X:Cx}{E:XK}
theorem x_call{g:Str}{a:Expr}{as:List Expr}{p pos:Pos}{r:RF}{mas:MA}{k':Nat}{ps:List Str}(L:Lv X E)(S:Sc M X.nox k N ns)(F:FnX M cl g k' ps r)(hk:k'<=k)(hg:eg ns g=true)(hp:bM g=true)(ha:PA X.nox (a::as) (tMA M.K mas))(hs:(a::as).all notStar=true):
  PE X (.Call (.Name g p) (a::as) [] pos) (tXE cl M.K (xFn r mas) E):=by
 obtain⟨f,fd,hm,Za,hb,F⟩:=F.ex;have e1:=S.hP;have e2:=S.hw;have e3:=S.hK;have e4:=S.hm;have e5:=S.hb;rw[<-e1,<-e2,<-e3,<-e4,<-e5]at F;rw[<-e4]at hm;rw[<-e3]at Za hb;rw[bH,aq]at hs;refine PE.con (vH F (S.room.mono hk) (S.gl hg) hm Za hb .nil L.pass ha.nox (bU hp).1 (ck hs.1 _ _) (nI _ _ hs.2)) λσ H Q h=>?_;obtain⟨μ,S0,G,C,S',hr,er,q,aft⟩:=h;obtain⟨us,S1,e1,q⟩:=bu q;refine⟨μ,S0,G,us,S1,hr,er,e1,λY0 vs H1 p1 k1 ZZ rs=>?_⟩;show spX cl _ r _ H1 Q E;rw[bP];exact⟨_,S1,us,C,S',ZZ,rs,q,aft.mono p1 k1⟩
end
structure TOk(M:Mo)(T:Tb)(k:Nat):Prop where
 D:∀x mf,T.D.lookup x=some mf->∃k' ps,k'<=k/\Fn M x k' ps mf
 C:∀x u,T.C.lookup x=some u->∃g v,M.mg x=some g/\RelV v g /\ ∀H μ,RU H μ u v
 B:∀x∈jr,M.mg x=none
 L:∀x q,T.L.lookup x=some q->∃k' ps,k'<=k/\Lam M q.1 k' ps q.2
 mkr:T.mkr=true->∃c q P,M.mkr=some (c,q)/\Mkr M c P (q++T.Z.nm)
 Z:∀x r,T.Z.R.lookup x=some r->∃k' ps,k'<=k/\FnX M T.Z.cl x k' ps r
def GOk(M:Mo)(T:Tb)(k:Nat):Prop:=TOk M T k/\(T.mkr=true->∃j,j+4<=k/\(∀x F,T.H.lookup x=some F->∃k' ps,k'<=j+1/\FnC M x k' ps F)/\(∀x vf,T.Z.F.lookup x=some vf->∃k' d,d<=3/\k'<=j+1/\FnR M T.Z.cl x k' d vf) /\ ∀caps capv cds base,fQ M.mg base->TOk (M.to caps capv cds base) T.bare j)
def IOk(M:Mo)(X:Cx)(tg it:Expr)(mi:MI):Prop:= ∃wi,PI X tg it wi /\
 (∀i ms D σ H,tMS M.K (fB i mi ms) D σ H->tZ wi (jM i) (tMS M.K ms) D σ H) /\
 (∀mt mc σ H Q,tM M.K (cy mi mt mc) σ H Q->pQ wi (tMT M.K mt) (tM M.K mc) σ H Q)
structure Snd(M:Mo)(T:Tb)(k n:Nat):Prop where
 e:∀N ns e m,cE T n N ns e=some m->∀X,Sc M X k N ns->PE X e (tM M.K m)
 c:∀N ns g as m,cC T n N ns g as=some m->eg ns g=true->bM g=true->∀a r,as=a::r->∀X p1 pos,Sc M X k N ns->PE X (.Call (.Name g p1) as [] pos) (tM M.K m)
 v:∀N ns g as m,cV T n N ns g as=some m->∀a r,as=a::r->∀X p1 pos,Sc M X k N ns->PE X (.Call (.Name g p1) as [] pos) (tM M.K m)
 v0:∀N ns g m,cV T n N ns g []≠some m
 o:∀N ns o m,cO T n N ns o=some m->∀X,Sc M X k N ns->vI M X o m
 t:∀N ns e m,cT T n N ns e=some m->∀X,Sc M X k N ns->PT X e (tMT M.K m)
 l:∀N ns b vs m pos,cL T n N ns b vs=some m->∀X,Sc M X k N ns->PW X (.BoolOp (if b then .And else .Or) vs pos) (tMT M.K m)
 f:∀N ns vs m,cF T n N ns vs=some m->∀X,Sc M X k N ns->PTs X vs (tMT M.K m)
 a:∀N ns es m,cA T n N ns es=some m->∀X,Sc M X k N ns->PA X es (tMA M.K m)
 i:∀N ns tg it m,cI T n N ns it=some m->∀X,Sc M X k N ns->IOk M X tg it m
 g:∀N ns e m,cG T n N ns e=some m->∀X,Sc M X k N ns->PG X e (tG M.K m)
 gs:∀N ns es m,cGs T n N ns es=some m->∀X,Sc M X k N ns->PGs X es (tGs M.K m)
 s:∀N ns st m,cS T n N ns st=some m->∀X,Sc M X k N ns->PS X st (tMS M.K m)
 b:∀N ns sts m,cB T n N ns sts=some m->∀X,Sc M X k N ns->PSs X sts (tMS M.K m)
theorem eI{α:Type}{x:α}{P:Prop}(h:(none:Option α)=some x):P:=by cases h
theorem P7(M:Mo)(T:Tb)(k:Nat):Snd M T k 0:=
 ⟨λ_ _ _ _ h=>eI h,λ_ _ _ _ _ h=>eI h,λ_ _ _ _ _ h=>eI h,λ_ _ _ _ h=>eI h,λ_ _ _ _ h=>eI h,λ_ _ _ _ h=>eI h,λ_ _ _ _ _ _ h=>eI h,λ_ _ _ _ h=>eI h,λ_ _ _ _ h=>eI h,λ_ _ _ _ _ h=>eI h,λ_ _ _ _ h=>eI h,λ_ _ _ _ h=>eI h,λ_ _ _ _ h=>eI h,λ_ _ _ _ h=>eI h⟩
section
variable {M:Mo}{T:Tb}{k n:Nat}
variable{ns:NS}{X:Cx}{a:Expr}{pos:Pos}
theorem JH{b:Expr}{ma mb:ME}{op:Operator}{f:F2}(h:K5 op=some f)(S:Sc M X k N ns)(ha:PE X a (tM M.K ma))(hb:PE X b (tM M.K mb)):PE X (.BinOp a op b pos) (tM M.K (m2 f ma mb)):=by
 cases op<;>simp only[K5,jP,reduceCtorEq]at h<;>subst h
 .exact IA S ha hb
 .exact ND ha hb
 .exact NB S ha hb
 .exact Ot ha hb
 .exact Ng ha hb
 .exact NA ha hb
theorem LI{b:Expr}{ma mb:ME}{op:CmpOp}{f:F2}(h:Gi op=some f)(S:Sc M X k N ns)(ha:PE X a (tM M.K ma))(hb:PE X b (tM M.K mb))(hs:kA b=true):
  PE X (.Compare a [op] [b] pos) (tM M.K (m2 f ma mb))/\PT X (.Compare a [op] [b] pos) (tMT M.K (cOf (m2 f ma mb))):=by
 obtain⟨r,ho,ou⟩:=NX S h;exact⟨PE.con (Ia ho ha hb (AN hs _)) λ_ _ _ h=>we ou h,PT.con (Ga ho ha hb (AN hs _)) λ_ _ _ h=>DN (λ_ q=>we ou q) h⟩
variable{mas:MA}
theorem GW{g:Str}{e:Expr}{es:List Expr}{p1:Pos}{mf:MF}(O:TOk M T k)(h:LD g=some mf)(hg:eg ns g=true)(S:Sc M X k N ns)(ha:PA X (e::es) (tMA M.K mas))(hs:(e::es).all notStar=true):
  PE X (.Call (.Name g p1) (e::es) [] pos) (tM M.K (mFn mf mas)):=by
 rw[bH,aq]at hs;have he:=ck hs.1 es X.env;have hp:=nI pos X.env hs.2;unfold LD at h
 repeat' split at h
 all_goals first
  |(cases h;done)
  | (rename_i q
     cases h;rw[eq_of_beq q]at hg ⊢
     first
      |exact DG S hg (O.B _ (by decide +kernel)) ha he hp
      |exact GD S hg (O.B _ (by decide +kernel)) ha he hp
      |exact O8 S hg (O.B _ (by decide +kernel)) ha he hp
      |exact Oa S hg (O.B _ (by decide +kernel)) ha he hp
      |exact Es S hg (O.B _ (by decide +kernel)) ha he hp
      | exact Ld S hg (O.B _ (by decide +kernel)) ha he hp)
theorem Gw{name:Str}{o:Expr}{mo m:ME}{p1:Pos}(h:Ec name mo mas=some m)(S:Sc M X k N ns)(ho:PE X o (tM M.K mo))(ha:PA X [a] (tMA M.K mas))(hb:baseOk o=true)(hl:(p1.endLine==pos.line)=true)(hs:notStar a=true):
  PE X (.Call (.Attribute o name p1) [a] [] pos) (tM M.K m):=by
 unfold Ec at h
 repeat' split at h
 all_goals first
  |(cases h;done)
  | (rename_i q
     cases h;rw[eq_of_beq q]
     first
      |exact wU S ho ha (mq hb _ _) (rj hs _ _) hl (ck hs _ _) rfl
      |exact HL S ho ha (mq hb _ _) (rj hs _ _) hl (ck hs _ _) rfl
      |exact HA S ho ha hb hs hl
      | exact Ej S ho ha hb hs hl)
end
section
variable {M:Mo}{T:Tb}{k n:Nat}
variable{ps:List Str}{ns:NS}
theorem pY{sc:Scope}(h:vD ps sc ns=true):iQ ps (frees sc) sc /\ ∀y∈frees sc,ns.lookup y=some .cell/\(y,a9)∈sc.names:=by
 unfold vD at h;simp only[aq,d8,tN,decide_eq_true_eq]at h;obtain⟨⟨⟨⟨⟨⟨h1,h2⟩,h3⟩,h4⟩,h5⟩,h6⟩,h7⟩:=h;have fm:∀y∈frees sc,(y,a9)∈sc.names:=λy hy=>by
  obtain⟨z,hz,e⟩:=aR.mp hy
  grind
 refine⟨⟨eq_of_beq h1,h2,h3,h4,λp hp=>?_,λx hx e=>?_,λy hy e=>aR.mpr ⟨y,dQ.mpr ⟨hy,by rw[e];rfl⟩,rfl⟩,λy hy=>eq_of_beq (h7 y hy).1⟩,λy hy=>⟨eq_of_beq (h7 y hy).2,fm y hy⟩⟩
 .grind
 .have:=h6 x hx
  simp_all
theorem GOk.of(O:TOk M T k)(h:T.mkr=false):GOk M T k:=⟨O,λz=>by grind⟩
theorem O2(O:TOk M T k)(R:Snd M T k n):∀N ns g as m,cV T (n+1) N ns g as=some m->∀a r,as=a::r->∀X p1 pos,Sc M X k N ns->PE X (.Call (.Name g p1) as [] pos) (tM M.K m):=by
 intro N ns g as m h a r e X p1 pos S;subst e;simp only[cV,rc,sV]at h
 split at h
 .rename_i hs
  rw[aq]at hs;obtain⟨q,e1,h⟩:=bind_eq h;obtain⟨i,e2,h⟩:=bind_eq h;obtain⟨mas,e3,rfl⟩:=map_eq h;obtain⟨k',ps,hk,F⟩:=O.L _ _ e1;have ZN:=ib e3;rw[bH,aq]at ZN;obtain⟨n1,n2⟩:=bU hs.2;exact GK S F hk i (slot_get e2) hs.1 (R.a _ _ _ _ e3 X S) n1 n2 (ck ZN.1 _ _) (nI _ _ ZN.2)
 grind
section
variable {N:List Str}{ns:NS}{X:Cx}{m:ME}
variable{pos:Pos}
theorem FV{c:Const}{j}(h:Mt c=some m):PE X (.Constant c j pos) (tM M.K m):=by
 cases c<;>first |grind |skip
 all_goals cases h
 all_goals first |exact Nw |exact Pu |exact DK |exact PE.con Fp λ_ _ _ q=>r_c (λ_ _=>by simp[RU]) q
variable{a:Expr}
theorem Ks(R:Snd M T k n){op:UnaryOp}(h:eUn (rc n) T N ns a op=some m)(S:Sc M X k N ns):PE X (.UnaryOp op a pos) (tM M.K m):=by
 cases op<;>first | (cases h) |skip
 all_goals obtain⟨ma,e1,rfl⟩:=map_eq h
 all_goals first |exact Nz (R.e _ _ _ _ e1 X S) |exact Jx (R.e _ _ _ _ e1 X S)
variable{vs:List Expr}
theorem KQ(R:Snd M T k n){op:BoolOp}{p:Pos}(h:eBo (rc n) T N ns op p vs=some m)(S:Sc M X k N ns):PE X (.BoolOp op vs p) (tM M.K m):=by
 unfold eBo at h
 split at h
 .cases h
 .exact LU (R.e _ _ _ _ h X S)
 .obtain⟨ma,e1,h⟩:=bind_eq h
  cases op
  .obtain⟨mb,e2,rfl⟩:=map_eq h
   exact KG (R.e _ _ _ _ e1 X S) (R.e _ _ _ _ e2 X S)
  .obtain⟨mb,e2,rfl⟩:=map_eq h
   exact NJ (R.e _ _ _ _ e1 X S) (R.e _ _ _ _ e2 X S)
theorem Du(R:Snd M T k n){ops:List CmpOp}{bs:List Expr}(h:eCm (rc n) T N ns a ops bs=some m)(S:Sc M X k N ns):PE X (.Compare a ops bs pos) (tM M.K m)/\PT X (.Compare a ops bs pos) (tMT M.K (cOf m)):=by
 unfold eCm at h
 split at h
 .split at h
  .rename_i hs
   obtain⟨ma,e1,h⟩:=bind_eq h;obtain⟨mb,e2,h⟩:=bind_eq h;obtain⟨f,e3,rfl⟩:=map_eq h;exact LI e3 S (R.e _ _ _ _ e1 X S) (R.e _ _ _ _ e2 X S) hs
  .cases h
 .cases h
theorem Kd(R:Snd M T k n){b:Expr}(h:eSb (rc n) T N ns a b=some m)(S:Sc M X k N ns):PE X (.Subscript a b pos) (tM M.K m):=by
 unfold eSb at h
 split at h
 .cases h
 .split at h
  .rename_i hs
   obtain⟨ma,e1,h⟩:=bind_eq h;obtain⟨mb,e2,rfl⟩:=map_eq h;exact PN S (R.e _ _ _ _ e1 X S) (R.e _ _ _ _ e2 X S) (Iz hs)
  .cases h
theorem JM(R:Snd M T k n){ks:List (Option Expr)}(h:eDi (rc n) T N ns ks vs=some m)(S:Sc M X k N ns):PE X (.Dict ks vs pos) (tM M.K m):=by
 unfold eDi at h
 split at h
 .cases h;exact Kc
 .obtain⟨ma,e1,h⟩:=bind_eq h
  obtain⟨mb,e2,rfl⟩:=map_eq h;exact Ke (R.e _ _ _ _ e1 X S) (R.e _ _ _ _ e2 X S)
 .cases h
variable{elt:Expr}{scope:Scope}
theorem Kz(O:TOk M T k)(R:Snd M T k n){it:Expr}{ifs:List Expr}{px:Pos}(h:eLn (rc n) T N ns elt it ifs scope x=some m)(S:Sc M X k N ns)(hk:scope.kind=.function)(ok:mM N (zl N x) ns scope.names x=true)(hs:kA it=true):
  PE X (.ListComp elt [⟨.Name x px,it,ifs,0⟩] scope pos) (tM M.K m):=by
 unfold eLn at h;obtain⟨mi,e1,h⟩:=bind_eq h;obtain⟨mt,e2,h⟩:=bind_eq h;obtain⟨mc,e3,rfl⟩:=map_eq h;obtain⟨wi,h1,_,h3⟩:=R.i _ _ _ _ _ e1 X S;exact Dd S hk ok h1 (λX' S'=>R.f _ _ _ _ e2 X' S') (λX' S'=>R.e _ _ _ _ e3 X' S') (h3 mt mc) (qG hs _)
theorem JD(O:TOk M T k)(R:Snd M T k n){gens:List Comprehension}(h:eLc (rc n) T N ns elt scope gens=some m)(S:Sc M X k N ns):PE X (.ListComp elt gens scope pos) (tM M.K m):=by
 unfold eLc at h
 split at h
 rotate_left
 .cases h
 rename_i c
 obtain⟨tg,it,ifs,ia⟩:=c
 split at h
 rotate_left
 .cases h
 rename_i h0
 have Ut:ia=0:=h0;subst Ut;have h:eLt (rc n) T N ns elt it ifs scope tg=some m:=h;unfold eLt at h
 split at h
 .split at h
  .rename_i hs
   rw[aq,aq]at hs;exact Kz O R h S (eq_of_beq hs.1.1) hs.1.2 hs.2
  .cases h
 .cases h
variable{g:Str}{p1:Pos}
theorem JL(O:TOk M T k)(R:Snd M T k n){rs:List Expr}{q rp:Pos}(h:eRg (rc n) T N ns g rs=some m)(S:Sc M X k N ns)(hl:g="list"\/g="tuple")(hg:eg ns g=true)(hr:eg ns "range"=true) :
  PE X (.Call (.Name g p1) [.Call (.Name "range" q) rs [] rp] [] pos) (tM M.K m):=by
 unfold eRg at h
 split at h
 .rcases hl with rfl|rfl
  .rw[if_pos (by decide +kernel)]at h
   cases h
  .rw[if_neg (by decide +kernel)]at h
   obtain⟨ma,e1,rfl⟩:=map_eq h;have ZN:=ib e1;simp only[bH,iW,ie]at ZN;exact HY S hg (O.B _ (by decide +kernel)) hr (O.B _ (by decide +kernel)) (R.a _ _ _ _ e1 X S) ZN
 .rcases hl with rfl|rfl
  .rw[if_pos (by decide +kernel)]at h
   obtain⟨ma,e1,rfl⟩:=map_eq h;have ZN:=ib e1;simp only[bH,iW,ie,aq]at ZN;exact EB S hg (O.B _ (by decide +kernel)) hr (O.B _ (by decide +kernel)) (R.a _ _ _ _ e1 X S) ZN.1 ZN.2
  .rw[if_neg (by decide +kernel)]at h
   cases h
 .cases h
theorem Fj{cl:Nat->Addr}{E:XK}{X:Cx}{o:Expr}{mo:ME}{r:MX}(S:Sc M X.nox k N ns)(ho:PE X.nox o (tM M.K mo))(ha:PE X a (tXE cl M.K r E))(hb:baseOk o=true)(hs:notStar a=true)(hl:(p1.endLine==pos.line)=true):
  PE X (.Call (.Attribute o "append" p1) [a] [] pos) (tXE cl M.K (xML mo r) E):=by
 have hK:=S.hK;refine PE.con (zU (r:=λ_ _ _ _=>False) fw yE yF (λ_ _ _ _ _ _ _ _ _ _ _ _ z=>z.elim) ho.nox (λpos pins s σ H Q I q=>mL (t:=λ_ _ _=>False) ha (λ_ _ _ _ _ _ _ h=>h.elim) (ck hs _ _) _ _ s σ H Q I q) (mq hb _ _) (rj hs _ _) hl (ck hs _ _) rfl) λσ H Q h=>?_;obtain⟨μ,S0,G,C,S',hr,er,e,aft⟩:=h;obtain⟨x,S1,e1,e⟩:=bu e
 split at e
 .rename_i n
  cases q:getL S1 n with
  |none=>rw[q]at e;cases e
  | some ws=>
    rw[q]at e;refine⟨μ,S0,G,_,S1,hr,er,e1,λY0 vx H1 p1 k1 ZZ rx=>?_⟩;obtain⟨p,rfl,hp⟩:=fT rx;obtain⟨p',ys,Zr,f',r'⟩:=ZZ.sq q;rw[hp]at Zr;cases Zr;exact⟨hK ▸ .inl ⟨rfl,ys,f'⟩,_,S1,G,C,S',ZZ,er.mono k1 p1,e,aft.mono p1 k1⟩
 .cases e
theorem LY(Gk:GOk M T k)(RA:∀M T k,GOk M T k->Snd M T k n){p:Arguments}{b:Expr}{sc:Scope}{lp:Pos}(h:En (rc n) T N ns g p b sc=some m)(S:Sc M X k N ns)(hg:eg ns g=true)(hn:bM g=true):
  PE X (.Call (.Name g p1) [.Lambda p b sc lp] [] pos) (tM M.K m):=by
 unfold En at h
 split at h
 rotate_left
 .cases h
 rename_i hc
 simp only[aq]at hc;obtain⟨⟨⟨hT,UJ⟩,hp⟩,hl⟩:=hc;have Zr:p=zc:=by
  unfold Dl at hp;rw[aq,List.isEmpty_iff]at hp;rw[tq hp.1,hp.2];rfl
 subst Zr;obtain⟨is,e1,h⟩:=bind_eq h;obtain⟨ml,e2,h⟩:=bind_eq h;obtain⟨rl,e3,h⟩:=bind_eq h;obtain⟨rz,e4,rfl⟩:=map_eq h;obtain⟨c,q,P,WZ,MK⟩:=Gk.1.mkr hT;rw[eq_of_beq UJ]at MK;obtain⟨j,hj,hH,hF,hB⟩:=Gk.2 hT;obtain⟨k',d,hd,Yd,FR⟩:=hF _ _ e4;obtain⟨LS,YX⟩:=pY hl;refine HG S FR Yd (by omega) WZ MK hg (bU hn).1 LS YX e1 (λcaps capv cds base Zj _ X' S'=>(RA _ _ _ (.of (hB _ _ _ _ Zj) rfl)).e _ _ _ _ e2 X' S') λcaps capv cds base Zj _ X' E L S'=>?_;have Y:∀{e:Expr}{rl:MX},yq (rc n) T ([]++frees sc) sc.names e=some rl->PE X' e (tXE T.Z.cl (M.K.to caps capv cds) rl E):=by
  intro e rl e3;unfold yq at e3
  split at e3
  .split at e3
   .rename_i hs
    rw[aq]at hs;obtain⟨rf,e5,e3⟩:=bind_eq e3;obtain⟨mas,e6,rfl⟩:=map_eq e3;obtain⟨k2,ps,Vv,FX⟩:=(hB _ _ _ _ Zj).Z _ _ e5;exact x_call L S' FX Vv hs.1 hs.2 ((RA _ _ _ (.of (hB _ _ _ _ Zj) rfl)).a _ _ _ _ e6 _ S') (ib e6)
   .cases e3
  .cases e3
 unfold IE at e3
 split at e3
 .rcases Cp.mp e3 with h|⟨_,h⟩
  .unfold II at h
   split at h
   .split at h
    .rename_i hs
     simp only[aq]at hs;obtain⟨⟨⟨hx,hb⟩,hl⟩,ZN⟩:=hs;obtain⟨mo,e5,h⟩:=bind_eq h;obtain⟨r,e6,rfl⟩:=map_eq h;rw[eq_of_beq hx];exact Fj S' ((RA _ _ _ (.of (hB _ _ _ _ Zj) rfl)).e _ _ _ _ e5 _ S') (Y e6) hb ZN hl
    .cases h
   .cases h
  .exact Y h
 .exact Y e3
variable{as:List Expr}
theorem JO(Gk:GOk M T k)(R:Snd M T k n)(RA:∀M T k,GOk M T k->Snd M T k n)(h:eCf (rc n) T N ns g as=some m)(S:Sc M X k N ns)(hg:eg ns g=true)(hn:bM g=true):
  PE X (.Call (.Name g p1) as [] pos) (tM M.K m):=by
 have O:=Gk.1;unfold eCf at h
 split at h
 .obtain⟨mf,e1,rfl⟩:=map_eq h
  obtain⟨k',ps,hk,F⟩:=O.D _ _ e1;exact HN S F hk hg (bU hn).1
 .unfold eC1 at h
  split at h
  .exact LY Gk RA h S hg hn
  .split at h
   .rename_i hl
    rw[aq,Bool.or_eq_true]at hl
    split at h
    .rename_i hr
     rw[eq_of_beq hl.2]at hr ⊢;exact JL O R h S (hl.1.imp eq_of_beq eq_of_beq) hg hr
    .cases h
   .exact R.c _ _ _ _ _ h hg hn _ _ rfl X _ _ S
  .split at h
   .rename_i hs
    obtain⟨h1,_⟩:=eB.mp hs;rw[eq_of_beq h1]at hg ⊢;obtain⟨ma,e1,rfl⟩:=map_eq h;have ZN:=ib e1;simp only[bH,iW,ie]at ZN;exact HB S hg (O.B _ (by decide +kernel)) (R.a _ _ _ _ e1 X S) (ck ZN _ _) rfl
   .exact R.c _ _ _ _ _ h hg hn _ _ rfl X _ _ S
 .unfold eC2 at h
  split at h
  .unfold eIs at h
   split at h
   .cases h
   .exact R.c _ _ _ _ _ h hg hn _ _ rfl X _ _ S
  .unfold Nv at h
   split at h
   .rename_i hs
    rw[aq,aq]at hs;obtain⟨⟨hT,UJ⟩,ZN⟩:=hs;obtain⟨ps,e0,h⟩:=bind_eq h
    split at h
    .rename_i hl
     obtain⟨is,e1,h⟩:=bind_eq h;obtain⟨ma,e2,h⟩:=bind_eq h;obtain⟨ml,e3,h⟩:=bind_eq h;obtain⟨F,e4,rfl⟩:=map_eq h;obtain⟨c,q,P,WZ,MK⟩:=O.mkr hT;rw[eq_of_beq UJ]at MK;obtain⟨j,hj,hH,hF,hB⟩:=Gk.2 hT;obtain⟨k',Wy,Yd,FC⟩:=hH _ _ e4;obtain⟨LS,YX⟩:=pY hl;exact Hd S FC Yd (by omega) WZ MK hg (bU hn).1 (R.e _ _ _ _ e2 X S) (ck ZN _ _) e0 LS YX e1
      λcaps capv cds base hb X' S'=>(RA _ _ _ ⟨hB caps capv cds base hb,λz=>by cases z⟩).e _ _ _ _ e3 X' S'
    .cases h
   .cases h
  .exact R.c _ _ _ _ _ h hg hn _ _ rfl X _ _ S
 .exact R.c _ _ _ _ _ h hg hn _ _ rfl X _ _ S
theorem Mc(R:Snd M T k n){o:Expr}{name:Str}{p q:Pos}(h:eMe (rc n) T N ns o name p q as=some m)(S:Sc M X k N ns):PE X (.Call (.Attribute o name p) as [] q) (tM M.K m):=by
 unfold eMe at h
 split at h
 .split at h
  .rename_i hs
   rw[aq,aq]at hs;obtain⟨mo,e1,rfl⟩:=map_eq h;rw[eq_of_beq hs.2];exact Km S (R.e _ _ _ _ e1 X S) hs.1.1 hs.1.2
  .cases h
 .split at h
  .rename_i hs
   rw[aq,aq]at hs;obtain⟨mo,e1,h⟩:=bind_eq h;obtain⟨mas,e2,h⟩:=bind_eq h;exact Gw h S (R.e _ _ _ _ e1 X S) (R.a _ _ _ _ e2 X S) hs.1.1 hs.1.2 hs.2
  .cases h
 .cases h
end
theorem Od(Gk:GOk M T k)(R:Snd M T k n)(RA:∀M T k,GOk M T k->Snd M T k n):∀N ns e m,cE T (n+1) N ns e=some m->∀X,Sc M X k N ns->PE X e (tM M.K m):=by
 have O:=Gk.1;intro N ns e m h X S;cases e with
 | Name x p=>
   have h:(if bM x then(if nK ns x then(slot N x).map _ else if eg ns x then(T.C.lookup x).map mC else none) else none)=some m:=h
   split at h
   .rename_i hn
    obtain⟨n1,n2⟩:=bU hn
    split at h
    .rename_i hv
     obtain⟨i,e1,rfl⟩:=map_eq h;exact Ir S i (slot_get e1) hv n1 n2
    .split at h
     .rename_i hg
      obtain⟨u,e1,rfl⟩:=map_eq h;obtain⟨g,v,hm,r,hv⟩:=O.C _ _ e1;exact Kf S hg hm r hv n1
     .cases h
   .cases h
 |Constant c j p=>exact FV h
 | BinOp a op b p=>
   obtain⟨ma,e1,h⟩:=bind_eq (h);obtain⟨mb,e2,h⟩:=bind_eq h;obtain⟨f,e3,rfl⟩:=map_eq h;exact JH e3 S (R.e _ _ _ _ e1 X S) (R.e _ _ _ _ e2 X S)
 |UnaryOp op a p=>exact Ks R h S
 |BoolOp op vs p=>exact KQ R h S
 |Compare a ops bs p=>exact(Du R h S).1
 | IfExp c a b p=>
   obtain⟨mc,e1,h⟩:=bind_eq (h);obtain⟨ma,e2,h⟩:=bind_eq h;obtain⟨mb,e3,rfl⟩:=map_eq h;exact NI (R.t _ _ _ _ e1 X S) (R.e _ _ _ _ e2 X S) (R.e _ _ _ _ e3 X S)
 |Subscript a b p=>exact Kd R h S
 |Dict ks vs p=>exact JM R h S
 | Tuple es j p=>
   obtain⟨ma,e1,rfl⟩:=map_eq (h);exact Na (R.a _ _ _ _ e1 X S)
 | List es p=>
   obtain⟨ma,e1,rfl⟩:=map_eq (h);exact EA (R.a _ _ _ _ e1 X S)
 |ListComp elt gens scope p=>exact JD Gk.1 R h S
 | Call f as Vx q=>
   cases Vx with
   |cons w ws=>cases h
   | nil=>
     have h:eCa _ T N ns as q f=some m:=h;unfold eCa at h
     split at h
     .split at h
      .rename_i hs
       rw[aq]at hs;exact JO Gk R RA h S hs.1 hs.2
      .cases as with
       |nil=>exact absurd h (R.v0 _ _ _ _)
       |cons a r=>exact R.v _ _ _ _ _ h _ _ rfl X _ _ S
     .exact Mc R h S
     .cases h
 |_=>cases h
theorem Mh(O:TOk M T k)(R:Snd M T k n):∀N ns g as m,cC T (n+1) N ns g as=some m->eg ns g=true->bM g=true->∀a r,as=a::r->∀X p1 pos,Sc M X k N ns->PE X (.Call (.Name g p1) as [] pos) (tM M.K m):=by
 intro N ns g as m h hg hn a r e X p1 pos S;subst e;obtain⟨mas,e1,h⟩:=bind_eq h;have ZN:=ib e1
 split at h
 .rename_i mf hb
  cases h;exact GW O hb hg S (R.a _ _ _ _ e1 X S) ZN
 .obtain⟨mf,e2,rfl⟩:=map_eq h
  obtain⟨k',ps,hk,F⟩:=O.D _ _ e2;rw[bH,aq]at ZN;exact Ls S F hk hg (R.a _ _ _ _ e1 X S) (bU hn).1 (ck ZN.1 _ _) (nI _ _ ZN.2)
theorem NV(R:Snd M T k n):∀N ns o m,cO T (n+1) N ns o=some m->∀X,Sc M X k N ns->vI M X o m:=by
 intro N ns o m h X S;simp[cO,rc,sO]at h
 split at h
 .cases h;exact .none
 .obtain⟨me,e1,rfl⟩:=map_eq h
  exact .some (R.e _ _ _ _ e1 X S)
theorem MV(R:Snd M T k n):∀N ns e m,cT T (n+1) N ns e=some m->∀X,Sc M X k N ns->PT X e (tMT M.K m):=by
 intro N ns e m h X S;simp[cT,rc,sT]at h
 split at h
 .obtain⟨ma,e1,rfl⟩:=map_eq h
  exact Iu (R.t _ _ _ _ e1 X S)
 .exact PW.pt (R.l _ _ _ _ _ _ h X S)
 .exact PW.pt (R.l _ _ _ _ _ _ h X S)
 .obtain⟨mc,e1,rfl⟩:=map_eq h
  exact(Du R e1 S).2
 .split at h
  .rename_i hs
   obtain⟨ma,e1,rfl⟩:=map_eq h;exact Jl (R.e _ _ _ _ e1 X S) (DD hs _)
  grind
theorem OL(R:Snd M T k n):∀N ns b vs m pos,cL T (n+1) N ns b vs=some m->∀X,Sc M X k N ns->PW X (.BoolOp (if b then .And else .Or) vs pos) (tMT M.K m):=by
 intro N ns b vs m pos h X S;simp[cL,rc,sL]at h
 split at h
 .cases h
 .cases b
  .exact Mw (R.t _ _ _ _ h X S)
  .exact JV (R.t _ _ _ _ h X S)
 .rename_i a r hr
  obtain⟨ma,e1,h⟩:=bind_eq h;obtain⟨mr,e2,rfl⟩:=map_eq h;cases r with
  |nil=>exact(hr rfl).elim
  | cons c r=>
    have h2:=R.l _ _ b _ _ pos e2 X S;cases b
    .exact PL (R.t _ _ _ _ e1 X S) h2
    .exact MP (R.t _ _ _ _ e1 X S) h2
theorem NW(R:Snd M T k n):∀N ns vs m,cF T (n+1) N ns vs=some m->∀X,Sc M X k N ns->PTs X vs (tMT M.K m):=by
 intro N ns vs m h X S;simp[cF,rc,sF]at h
 split at h
 .cases h;exact LX
 .exact Os (R.t _ _ _ _ h X S)
 .cases h
theorem MU(R:Snd M T k n):∀N ns es m,cA T (n+1) N ns es=some m->∀X,Sc M X k N ns->PA X es (tMA M.K m):=by
 intro N ns es m h X S;simp[cA,rc,sA]at h
 split at h
 .cases h;exact AD
 .split at h
  .rename_i hs
   obtain⟨ma,e1,h⟩:=bind_eq h;obtain⟨mr,e2,rfl⟩:=map_eq h;exact lu (R.e _ _ _ _ e1 X S) (R.a _ _ _ _ e2 X S) (ck hs _ _)
  grind
variable{X:Cx}{e:Expr}
theorem Dz{tg:Expr}{m:ME}(S:Sc M X k N ns)(h:PE X e (tM M.K m)):IOk M X tg e (di m):=
 ⟨_,Lj S h,λ_ _ _ _ _ q=>Qe q,λ_ _ _ _ _ q=>Qg q⟩
theorem M9(O:TOk M T k)(R:Snd M T k n):∀N ns tg it m,cI T (n+1) N ns it=some m->∀X,Sc M X k N ns->IOk M X tg it m:=by
 intro N ns tg it m h X S;simp only[cI,rc,sI]at h
 split at h
 .split at h
  .rename_i hr
   split at h
   .rename_i hg
    rw[eq_of_beq hr]at hg ⊢
    split at h
    .obtain⟨ma,e1,rfl⟩:=map_eq h
     have ZN:=ib e1;simp only[bH,iW,ie]at ZN;exact⟨_,ML S hg (O.B _ (by decide +kernel)) (R.a _ _ _ _ e1 X S) (ck ZN _ _),λ_ _ _ _ _ q=>MQ q,λ_ _ _ _ _ q=>Oy q⟩
    .obtain⟨ma,e1,rfl⟩:=map_eq h
     have ZN:=ib e1;simp only[bH,iW,ie,aq]at ZN;exact⟨_,M7 S hg (O.B _ (by decide +kernel)) (R.a _ _ _ _ e1 X S) (by rw[ck ZN.1,ck ZN.2];rfl) (by rw[ck ZN.2];rfl),λ_ _ _ _ _ q=>Oq q,λ_ _ _ _ _ q=>Ox q⟩
    .cases h
   .cases h
  .obtain⟨ma,e1,rfl⟩:=map_eq h
   exact Dz S (R.e _ _ _ _ e1 X S)
 .obtain⟨ma,e1,rfl⟩:=map_eq h
  exact Dz S (R.e _ _ _ _ e1 X S)
theorem MD(R:Snd M T k n):∀N ns e m,cG T (n+1) N ns e=some m->∀X,Sc M X k N ns->PG X e (tG M.K m):=by
 intro N ns e m h X S;simp only[cG,rc,sG]at h
 split at h
 .split at h
  .rename_i hs
   obtain⟨i,e1,rfl⟩:=map_eq h;exact PG.con (AC (by rw[S.hN];exact S.nd) (by rw[S.hN];exact slot_get e1) (S.lo hs).1 (S.lo hs).2) λ_ _ _ _ q=>Qb q
  .cases h
 .obtain⟨gs,e1,rfl⟩:=map_eq h
  obtain⟨h1,h2⟩:=Aq X.env _ (yc e1);refine PG.con (Mf S.calm (R.gs _ _ _ _ e1 X S) h1 h2) λ_ _ _ _ q=>?_;rw[S.hK];exact OI q
 .cases h
theorem L8(R:Snd M T k n):∀N ns es m,cGs T (n+1) N ns es=some m->∀X,Sc M X k N ns->PGs X es (tGs M.K m):=by
 intro N ns es m h X S;simp[cGs,rc,sGs]at h
 split at h
 .cases h;exact PGs.con Ig λ_ _ _ _ q=>Kh q
 .split at h
  .rename_i hs
   obtain⟨g,e1,h⟩:=bind_eq h;obtain⟨gs,e2,rfl⟩:=map_eq h;exact PGs.con (EN (R.g _ _ _ _ e1 X S) (R.gs _ _ _ _ e2 X S) (by rw[xp hs];rfl)) λ_ _ _ _ q=>Hk q
  grind
variable{it:Expr}{mi:MI}{ts:List Expr}{kt:Nat}
theorem HM(O:TOk M T k)(R:Snd M T k n){pt:Pos}(h:KH (rc n) T N ns it=some mi)(S:Sc M X k N ns):
  ∃wi,PI X (.Tuple ts kt pt) it wi /\ ∀g mb D σ H,tMS M.K (j4 g mi mb) D σ H->tZ wi (tG M.K g) (tMS M.K mb) D σ H:=by
 unfold KH at h
 split at h
 .split at h
  .rename_i hr
   split at h
   .rename_i hg
    rw[eq_of_beq hr]at hg ⊢;obtain⟨ma,e1,rfl⟩:=map_eq h;have ZN:=ib e1;simp only[bH,iW,ie,aq]at ZN;exact⟨_,KA S hg (O.B _ (by decide +kernel)) (R.a _ _ _ _ e1 X S) (ck ZN.1 _ _) (ck ZN.2 _ _),λ_ _ _ _ _ q=>MR q⟩
   .cases h
  .obtain⟨ma,e1,rfl⟩:=map_eq h
   exact⟨_,Lj S (R.e _ _ _ _ e1 X S),λ_ _ _ _ _ q=>Ii q⟩
 .obtain⟨ma,e1,rfl⟩:=map_eq h
  exact⟨_,Lj S (R.e _ _ _ _ e1 X S),λ_ _ _ _ _ q=>Ii q⟩
theorem Kb(O:TOk M T k)(R:Snd M T k n){pt:Pos}(h:eIt (rc n) T N ns it=some mi)(S:Sc M X k N ns):
  ∃wi,PI X (.Tuple ts kt pt) it wi /\ ∀g mb D σ H,tMS M.K (j4 g mi mb) D σ H->tZ wi (tG M.K g) (tMS M.K mb) D σ H:=by
 unfold eIt at h
 .exact HM O R h S
variable{m:MS}{y:Str}{p1 p3:Pos}
theorem Ge(R:Snd M T k n){elt tg:Expr}{ifs:List Expr}{scope:Scope}{p2:Pos}(h:KM (rc n) T N ns y elt it ifs scope tg=some m)(S:Sc M X k N ns):
  PS X (.Assign [.Name y p1] (.ListComp elt [⟨tg,it,ifs,0⟩] scope p2) p3) (tMS M.K m):=by
 unfold KM at h
 split at h
 .split at h
  .rename_i hs
   rw[aq,aq,aq]at hs;obtain⟨i,e0,h⟩:=bind_eq h;obtain⟨mi,e1,h⟩:=bind_eq h;obtain⟨mt,e2,h⟩:=bind_eq h;obtain⟨mc,e3,rfl⟩:=map_eq h;obtain⟨wi,h1,_,h3⟩:=R.i _ _ _ _ _ e1 X S;exact JP S i (slot_get e0) hs.1 (eq_of_beq hs.2.1.1) hs.2.1.2 h1 (λX' S'=>R.f _ _ _ _ e2 X' S') (λX' S'=>R.e _ _ _ _ e3 X' S') (h3 mt mc) (qG hs.2.2 _)
  .cases h
 .cases h
theorem GV(R:Snd M T k n)(h:LL (rc n) T N ns x e=some m)(S:Sc M X k N ns):PS X (.Assign [.Name x p1] e p3) (tMS M.K m):=by
 unfold LL at h
 split at h
 .unfold O7 at h
  split at h
  .rename_i c
   obtain⟨tg,it,ifs,ia⟩:=c
   split at h
   .rename_i h0
    have Ut:=h0;subst Ut;exact Ge R h S
   .cases h
  .cases h
 .split at h
  .rename_i hs
   rw[aq]at hs;obtain⟨i,e1,h⟩:=bind_eq h;obtain⟨me,e2,rfl⟩:=map_eq h;exact yb S i (slot_get e1) hs.1 (R.e _ _ _ _ e2 X S) (oQ hs.2 _ _ _)
  grind
theorem CJ{as:List Expr}(h:zZ ts e=some (x,y,as)):∃px py a b k2 p2,ts=[.Name x px,.Name y py]/\e=.Tuple [a,b] k2 p2/\as=[a,b]/\G2 px py x y a b=true:=by
 unfold zZ at h
 split at h<;>grind
theorem OM{j:Nat}{a b:Expr}{mas:MA}{px py pt p2:Pos}{k2:Nat}(S:Sc M X k N ns)(hp:G2 px py x y a b=true)(hi:N[i]?=some x)(hj:N[j]?=some y)(hx:ns.lookup x=some .local)(hy:ns.lookup y=some .local)(ha:PA X [a,b] (tMA M.K mas)):
  PS X (.Assign [.Tuple [.Name x px,.Name y py] kt pt] (.Tuple [a,b] k2 p2) p3) (tMS M.K (Bo i j mas)):=by
 intro pins s σ H D I h;simp only[G2,aq,tN]at hp;obtain⟨⟨⟨⟨⟨h1,h2⟩,h3⟩,h4⟩,h5⟩,h6⟩:=hp;have XW:x≠y:=λz=>by rw[z]at h2;simp at h2
 refine KS S.calm (by rw[S.hN];exact S.nd) (by rw[S.hN];exact hi) (by rw[S.hN];exact hj) (λz=>XW ?_) (S.loc x hx) (S.loc y hy) ha ?_ rfl _ s σ H D I ?_
 .subst z;rw[hi]at hj;cases hj;rfl
 .have kx:X.env.kindOf x=some _:=S.loc x hx
  have ky:X.env.kindOf y=some _:=S.loc y hy;have bk:X.env.blockKind=.function:=by unfold Env.blockKind;rw[I.ok.kind];rfl
  have l1:(py.line==px.line)=true:=by rw[beq_iff_eq]at h1 ⊢;exact h1.symm
  have dd:([x,y]).eraseDups.length=2:=by
   have: ¬y=x:=λz=>XW z.symm;simp[List.eraseDups_cons,this]
  simp only[swappedStores,bk,hG,List.filterMap_nil,kx,ky,List.head?_cons,cP,Option.getD_some,Expr.pos,l1,bH,iW,ie,h5,h6];simp;rw[if_neg,if_pos dd];rintro (z|z)
  .cases a<;>first | (cases z;done) | (cases h3)
  .cases b<;>first | (cases z;done) | (cases h4)
 .obtain⟨μ,S0,G,r,hr,er,e,kk⟩:=h
  obtain⟨vs,S1,e1,e⟩:=bu e
  split at e
  .cases e
   refine⟨μ,S0,G,_,S1,hr,er,e1,λY0 ws H1 p1 k1 ZZ rs=>?_⟩;obtain⟨v,r,rfl,rx,rn⟩:=rs.inv;obtain⟨v2,r2,rfl,ry,Wu⟩:=rn.inv;rw[Wu.nil_inv];exact⟨v,v2,rfl,kk _ _ H1 p1 k1 ZZ (((er.mono k1 p1).set rx i).set ry j)⟩
  .cases e
theorem GS(R:Snd M T k n){t:Expr}(h:KU (rc n) T N ns e t=some m)(S:Sc M X k N ns):PS X (.Assign [t] e p3) (tMS M.K m):=by
 unfold KU at h
 split at h
 .exact GV R h S
 .split at h
  .rename_i hs
   rw[aq]at hs;obtain⟨ma,e1,h⟩:=bind_eq h;obtain⟨mb,e2,h⟩:=bind_eq h;obtain⟨me,e3,rfl⟩:=map_eq h;exact Hl S (R.e _ _ _ _ e1 X S) (R.e _ _ _ _ e2 X S) (R.e _ _ _ _ e3 X S) (Gu hs.1 _ _ _) zK rfl (J3 hs.2 _)
  .cases h
 .rename_i ts kt pt
  unfold Oc at h;cases q:zZ ts e with
  | none=>
    rw[q]at h;cases h
  | some xy=>
    obtain⟨x,y,as⟩:=xy;rw[q]at h;obtain⟨px,py,a,b,k2,p2,rfl,rfl,rfl,hp⟩:=CJ q;replace h:(if ns.lookup x==some .local&&ns.lookup y==some .local then(slot N x).bind λi=>(slot N y).bind λj=>((rc n).a T N ns [a,b]).map (Bo i j) else none)=some m:=h
    split at h
    .rename_i hs
     rw[aq]at hs;obtain⟨i,e1,h⟩:=bind_eq h;obtain⟨j,e2,h⟩:=bind_eq h;obtain⟨mas,e3,rfl⟩:=map_eq h;exact OM S hp (slot_get e1) (slot_get e2) (eq_of_beq hs.1) (eq_of_beq hs.2) (R.a _ _ _ _ e3 X S)
    .cases h
 .cases h
theorem Kp(R:Snd M T k n){op:Operator}(h:sAu (rc n) T N ns x e op=some m)(S:Sc M X k N ns):PS X (.AugAssign (.Name x p1) op e p3) (tMS M.K m):=by
 unfold sAu at h;cases h
theorem JU(O:TOk M T k)(R:Snd M T k n){t:Expr}{body:List Stmt}(h:sFo (rc n) T N ns it body t=some m)(S:Sc M X k N ns):PS X (.For t it body [] p3) (tMS M.K m):=by
 unfold sFo at h
 split at h
 .split at h
  .rename_i hs
   rw[aq]at hs;obtain⟨i,e1,h⟩:=bind_eq h;obtain⟨mi,e2,h⟩:=bind_eq h;obtain⟨mb,e3,rfl⟩:=map_eq h;obtain⟨wi,h1,h2,_⟩:=R.i _ _ _ _ _ e2 X S;exact OR S i (slot_get e1) hs.1 h1 (R.b _ _ _ _ e3 X S) (h2 i mb) (qG hs.2 _)
  .cases h
 .rename_i ts kt pt
  split at h
  .rename_i hs
   obtain⟨g,e1,h⟩:=bind_eq h;obtain⟨mi,e2,h⟩:=bind_eq h;obtain⟨mb,e3,rfl⟩:=map_eq h;obtain⟨wi,h1,h2⟩:=Kb O R e2 S;exact PS.con (Dm S.own S.calm h1 (R.g _ _ _ _ e1 X S) (R.b _ _ _ _ e3 X S) (qG hs _)) λ_ _ _ q=>h2 _ _ _ _ _ q
  .cases h
 .cases h
theorem OW(O:TOk M T k)(R:Snd M T k n):∀N ns st m,cS T (n+1) N ns st=some m->∀X,Sc M X k N ns->PS X st (tMS M.K m):=by
 intro N ns st m h X S;cases st with
 | Assign ts e p=>
   have h:sAs _ T N ns e ts=some m:=h;unfold sAs at h
   split at h
   .exact GS R h S
   .cases h
 | AugAssign t op e p=>
   have h:Lo _ T N ns op e t=some m:=h;unfold Lo at h
   split at h
   .exact Kp R h S
   .cases h
 | Expr e p=>
   have h:(if jb e then((rc n).e T N ns e).map _ else none)=some m:=h
   split at h
   .rename_i hs
    obtain⟨me,e2,rfl⟩:=map_eq h;exact CM (R.e _ _ _ _ e2 X S) (oQ hs _ _ _)
   .cases h
 | Return o p=>
   have h:sRt _ T N ns o=some m:=h;unfold sRt at h
   split at h
   .obtain⟨me,e2,rfl⟩:=map_eq h
    exact IY (R.e _ _ _ _ e2 X S)
   .cases h;exact Lh
 | If c a b p=>
   obtain⟨mc,e1,h⟩:=bind_eq h;obtain⟨ma,e2,h⟩:=bind_eq h;obtain⟨mb,e3,rfl⟩:=map_eq h;exact NZ (R.t _ _ _ _ e1 X S) (R.b _ _ _ _ e2 X S) (R.b _ _ _ _ e3 X S)
 | For t it body els p=>
   have h:JE _ T N ns t it _ _=some m:=h;unfold JE at h
   split at h
   .exact JU O R h S
   .cases h
 | While c body els p=>
   have h:sWh _ T N ns c _ _=some m:=h;unfold sWh at h
   split at h
   .obtain⟨mc,e1,h⟩:=bind_eq h
    obtain⟨mb,e2,rfl⟩:=map_eq h;exact Ht S (R.t _ _ _ _ e1 X S) (R.b _ _ _ _ e2 X S)
   .cases h
 | Pass p=>
   cases h;exact KP
 | Break p=>
   cases h;exact MO
 | Raise a b p=>
   cases h;exact OD
 | Continue p=>
   cases h;exact Nx
 |_=>cases h
theorem NK(Gk:GOk M T k)(R:Snd M T k n)(RA:∀M T k,GOk M T k->Snd M T k n):∀N ns sts m,cB T (n+1) N ns sts=some m->∀X,Sc M X k N ns->PSs X sts (tMS M.K m):=by
 intro N ns sts m h X S;simp only[cB,rc,sB]at h
 split at h
 .cases h;exact Il
 .exact DQ (R.s _ _ _ _ h X S)
 .obtain⟨ma,e1,h⟩:=bind_eq h
  obtain⟨mr,e2,rfl⟩:=map_eq h;exact xY (R.s _ _ _ _ e1 X S) (R.b _ _ _ _ e2 X S)
theorem snd:∀n M T k,GOk M T k->Snd M T k n
 |0,M,T,k,_=>P7 M T k
 | n+1,M,T,k,Gk=>by
   have RA:=snd n;have R:=RA M T k Gk;exact⟨Od Gk R RA,Mh Gk.1 R,O2 Gk.1 R,λN ns g m h=>(by cases (h)),NV R,MV R,OL R,NW R,MU R,M9 Gk.1 R,MD R,L8 R,OW Gk.1 R,NK Gk R RA⟩
theorem xM{qual:Str}{st:Stmt}{f:Addr}{fd:FuncData}{ms:MS}{fu:Nat}(O:TOk M T k)(h0:M.mkr=none)(h1:T.mkr=false)(F:Fun M.K x qual st f fd)(S:bw N ps (az st))(hm:M.mg x=some (.ref f))(hb:Binds M.K fd ps [])
  (h:cB T fu N (az st).names (bV st)=some ms):Fn M x (k+1) ps (run ps.length N.length ms):=
 ⟨f,fd,hm,F.2,hb,Je h0 F S λX S'=>(snd fu M T k (.of O h1)).b _ _ _ _ h X S'⟩
end
structure Def(K:aj)(x:Str)(st:Stmt):Prop where
 ex:∃f fd,bj K mainGlobals x=some (some (.ref f))/\Fun K x x st f fd
variable{f:Addr}{st:Stmt}{K:aj}{od an:Option Addr}{sl:Array (Option Value)}
theorem J5{oc kV doc pm cd ct:Value}(a:bj K mainGlobals x=some (some (.ref f)))
  (l:K.lookup f=some ⟨oc,od,.func (cW x x (fZ st) (bV st) (az st) .none kV doc pm an cd ct),sl⟩) (c:gz K cd x=true) (k:cg K (.ref f)=true):Def K x st:=
 ⟨f,_,a,KI l c k⟩
section
variable {M:Mo}{T:Tb}{k:Nat}{h:Heap}{x:Str}{st:Stmt}{N ps:List Str}{ms:MS}{fu:Nat}
theorem Def.fn(O:TOk M T k)(h0:M.mkr=none)(h1:T.mkr=false)(X:M.K.K.In h)(Gn:h.Ns mainGlobals M.mg)(D:Def M.K x st)(S:bw N ps (az st))
  (hb:∀(kV doc pm:Value) (an:Option Addr) (cdv ct:Value) (us:List Value),us.length=ps.length->bindArgs (cW x x (fZ st) (bV st) (az st) .none kV doc pm an cdv ct) ⟨us,[]⟩=pure (ps.zip us))
  (hc:cB T fu N (az st).names (bV st)=some ms):Fn M x (k+1) ps (run ps.length N.length ms):=by
 obtain⟨f,fd,a,F⟩:=D.ex;exact xM O h0 h1 F S (cm X Gn a) (F.binds hb) hc
theorem TOk.mono{j:Nat}(O:TOk M T k)(hj:k<=j):TOk M T j where
 Z:=λy r hy=>let ⟨k',_,hk,F'⟩:=O.Z y r hy;⟨k',_,aH hk hj,F'⟩
 D:=λy g hy=>let ⟨k',_,hk,F'⟩:=O.D y g hy;⟨k',_,aH hk hj,F'⟩
 C:=O.C
 B:=O.B
 L:=λy q hy=>let ⟨k',_,hk,F'⟩:=O.L y q hy;⟨k',_,aH hk hj,F'⟩
 mkr:=O.mkr
theorem TOk.cons{j:Nat}{mf:MF}(O:TOk M T k)(F:Fn M x j ps mf)(hj:k<=j):TOk M ⟨(x,mf)::T.D,T.C,T.L,T.H,T.mkr,T.Z⟩ j where
 D:=λy g hy=>by
  rw[bT]at hy;cases e:y==x with
  |true=>rw[e]at hy;cases hy;rw[eq_of_beq e];exact⟨j,ps,ao _,F⟩
  | false=>
    rw[e]at hy;obtain⟨k',VA,hk,F'⟩:=O.D y g hy;exact⟨k',_,aH hk hj,F'⟩
 C:=O.C
 B:=O.B
 L:=(O.mono hj).L
 mkr:=O.mkr
 Z:=(O.mono hj).Z
theorem TOk.setH{Hs:List (Str×(Addr->MF->MF))}(O:TOk M T k):TOk M ⟨T.D,T.C,T.L,Hs,T.mkr,T.Z⟩ k:=⟨O.D,O.C,O.B,O.L,O.mkr,O.Z⟩
theorem TOk.con{i:Int}(O:TOk M T k)(X:M.K.K.In h)(Gn:h.Ns mainGlobals M.mg)(a:∃t,bj M.K mainGlobals x=some (some (.int i t))):TOk M ⟨T.D,(x,.int i)::T.C,T.L,T.H,T.mkr,T.Z⟩ k where
 D:=O.D
 C:=λy u hy=>by
  rw[bT]at hy;cases e:y==x with
  | true=>
    rw[e]at hy;cases hy;rw[eq_of_beq e];obtain⟨t,a⟩:=a;exact⟨_,.int i,cm X Gn a,⟨t,rfl⟩,λ_ _=>eW⟩
  |false=>rw[e]at hy;exact O.C y u hy
 B:=O.B
 L:=O.L
 mkr:=O.mkr
 Z:=O.Z
theorem TOk.nil{Fs:List (Str×VF)}{cl:Nat->Addr}{nm:Str}(X:M.K.K.In h)(Gn:h.Ns mainGlobals M.mg)(B:∀x∈jr,bj M.K mainGlobals x=some none):TOk M ⟨[],[],[],[],false,⟨[],Fs,cl,nm⟩⟩ 0 where
 D:=λy g hy=>by cases hy
 C:=λy g hy=>by cases hy
 B:=λy hy=>FG X Gn (B y hy)
 L:=λy g hy=>by cases hy
 mkr:=λh=>by cases h
 Z:=λy g hy=>by cases hy
theorem Def.fnC{y:Str}{msC:Addr->MF->MS}(O:∀caps capv cds base,fQ M.mg base->TOk (M.to caps capv cds base) T k)(h1:T.mkr=false)(hL:T.L=[])(X:M.K.K.In h)(Gn:h.Ns mainGlobals M.mg)(D:Def M.K x st)(S:bw N ps (az st))
  (hb:∀(kV doc pm:Value) (an:Option Addr) (cdv ct:Value) (us:List Value),us.length=ps.length->bindArgs (cW x x (fZ st) (bV st) (az st) .none kV doc pm an cdv ct) ⟨us,[]⟩=pure (ps.zip us))
  (hc:∀g φ,cB ⟨T.D,T.C,[(y,g,φ)],T.H,T.mkr,T.Z⟩ fu N (az st).names (bV st)=some (msC g φ)):FnC M x k ps λg φ=>run ps.length N.length (msC g φ):=by
 obtain⟨f,fd,a,F⟩:=D.ex;refine⟨f,fd,cm X Gn a,F.2,F.binds hb,λcaps capv cds base g j lps φ Zj Uy lam=>?_⟩;have O':TOk (M.to caps capv cds base) ⟨T.D,T.C,[(y,g,φ)],T.H,T.mkr,T.Z⟩ j:=by
  have O1:=(O caps capv cds _ Zj).mono Uy;refine⟨O1.D,O1.C,O1.B,λz q hz=>?_,(λhm=>by grind),O1.Z⟩;rw[bT]at hz;cases e:z==y with
  |true=>rw[e]at hz;cases hz;exact⟨j,_,ao _,lam⟩
  |false=>simp_all
 exact Je (M:=M.to _ _ cds _) rfl F S λX' S'=>(snd fu _ _ _ (.of O' h1)).b _ _ _ _ (hc g φ) X' S'
end
structure oU(K:aj)(x:Str)(st:Stmt)(c P:Addr):Prop where
 ex:∃(f:Addr) (oc:Value) (od:Option Addr) (kV doc pm:Value) (an:Option Addr) (ct:Value) (sl:Array (Option Value)),bj K mainGlobals x=some (some (.ref f)) /\
  K.lookup f=some ⟨oc,od,.func (cW x x (fZ st) (bV st) (az st) .none kV doc pm an (.ref c) ct),sl⟩/\gz K (.ref c) x=true/\cg K (.ref f)=true
 cd :∃ (vs:Array Value) (od:Option Addr) (sl:Array (Option Value)) (file:Str) (tf:Tok) (flags:Int) (tg:Tok) (inF:Bool) (text:Int) (tt:Tok),K.lookup c=some ⟨.type "code",od,.fields vs,sl⟩/\vs[11]?=some (.ref P)/\vs.getD 11 .none=.ref P/\vs.getD 18 .none=.str file tf /\
  vs.getD 7 .none=.int flags tg/\vs.getD 9 .none=.bool inF/\vs.getD 10 .none=.int text tt/\c≠P
section
variable {M:Mo}{T:Tb}{k:Nat}{h:Heap}{x:Str}{st:Stmt}{N ps:List Str}{ms:MS}{fu:Nat}{c P:Addr}
theorem oU.mkr(D:oU M.K x st c P)(B:fQ M.mg M.base)(X:M.K.K.In h)(Gn:h.Ns mainGlobals M.mg){q:Str}(hm:(P,q)∈M.K.tabs)(nd:(M.K.tabs.map (·.1)).Nodup)(hg:mainGlobals≠P):Mkr M c P q where
 hd:=λh' X'=>by
  obtain⟨vs,od,sl,file,tf,flags,tg,inF,text,tt,e,r⟩:=D.cd;obtain⟨r1,r2,r3,r4,r5,r6,r7⟩:=r;exact⟨_,vs,_,tf,_,tg,_,_,tt,X' _ _ e,rfl,rfl,r1,r2,r3,r4,r5,r6,r7⟩
 bl:=B
 gP:=hg
 mem:=hm
 un:=λr hr e=>by
  have key:∀(l:List _),(l.map (·.1)).Nodup->r∈l->(P,q)∈l->r.2=q:=by
   intro l
   induction l<;>grind
  exact key _ nd hr hm
theorem oU.ok(D:oU M.K x st c P)(h0:M.mkr=none)(O :∀ caps capv cds base,fQ M.mg base->TOk (M.to caps capv cds base) T k)(O0:TOk M T k)(hL:T.L=[])(h1:T.mkr=false)(hH :∀ y F,T.H.lookup y=some F->∃ k' ps,k'<=k+1/\FnC M y k' ps F)(hF :∀ y vf,T.Z.F.lookup y=some vf->∃ k' d,d<=3/\k'<=k+1/\FnR M T.Z.cl y k' d vf){nm:Str}(MK:Mkr M c P (x++".<locals>."++nm))
  (S:bw N ps (az st)) (hc:cB ⟨T.D,T.C,T.L,T.H,true,T.Z.to nm⟩ fu N (az st).names (bV st)=some ms)
  {oc kV doc pm ct:Value} (lk:M.K.K.lookup f=some ⟨oc,od,.func (cW x x (fZ st) (bV st) (az st) .none kV doc pm an (.ref c) ct),sl⟩) (Zs:gz M.K.K (.ref c) x=true):
  iY M.P M.w M.K M.mg M.base CX0 (k+5) f (cW x x (fZ st) (bV st) (az st) .none kV doc pm an (.ref c) ct) ps (spM M.K (run ps.length N.length ms)):=by
 let M1:Mo:=⟨M.P,M.w,M.K,M.mg,M.base,some (c,x++".<locals>.")⟩
 have O1:TOk M1 ⟨T.D,T.C,T.L,T.H,true,T.Z.to nm⟩ (k+4):=by
  have Om:=O0.mono (show k<=k+4 by omega);refine⟨λy g hy=>?_,Om.C,Om.B,λy q hy=>?_,λ_=>⟨c,_,P,rfl,MK.hd,MK.bl,MK.gP,MK.mem,MK.un⟩,λy r hy=>?_⟩
  .obtain⟨k',VA,hk,F'⟩:=Om.D y g hy
   exact⟨k',_,hk,⟨F'.ex⟩⟩
  .rw[hL]at hy
   cases hy
  .obtain⟨k',VA,hk,F'⟩:=Om.Z y r hy
   exact⟨k',_,hk,⟨F'.ex⟩⟩
 have G1:GOk M1 _ _:=⟨O1,λ_=>⟨k,ao _,λy F hy=>by
  obtain⟨k',VA,hk,FC⟩:=hH y F hy;exact⟨k',_,hk,⟨FC.ex⟩⟩,λy rz hy=>by
  obtain⟨k',d,hd,hk,FC⟩:=hF y rz hy;exact⟨k',d,hd,hk,⟨FC.ex⟩⟩,λcaps capv cds base Zj=>by
   have Ob:=O caps capv cds _ Zj
   exact⟨Ob.D,Ob.C,Ob.B,λy q hy=>(by cases hy),λz=>(by cases z),Ob.Z⟩⟩⟩
 have len:∀vs H Q E,spM M.K (run _ N.length ms) vs H Q E->vs.length=ps.length:=λvs H Q E h=>by
  obtain⟨μ,S',us,u,YO,hr,rs,e,_⟩:=h;unfold run at e
  split at e
  .rename_i hl;rw[<-rs.len];exact hl
  .cases e
 refine _L.xM lk Zs S len λA outer s H vs Q E hr h=>⟨_,((snd fu M1 _ _ G1).b _ _ _ _ hc _ (Sc.def S hr λc' q' hq=>by cases hq;exact⟨rfl,rfl⟩)).nox,?_⟩;obtain⟨μ,S1,us,u,S2,hr,rs,e,ka⟩:=h;unfold run at e
 split at e
 .rename_i hl
  have er:=mn (N:=N) rs;rw[hl]at er
  split at e
  .rename_i w Y4 S3 q
   cases e;exact⟨μ,S1,_,_,hr,er,q,ka⟩
  .rename_i Y4 S3 q
   cases e;exact⟨μ,S1,_,_,hr,er,q,λY6 Y3 H' p' k' Zd Qw=>ka _ _ H' p' k' Zd nA⟩
  .cases e
 .cases e
theorem oU.fn(D:oU M.K x st c P)(h0:M.mkr=none)(O :∀ caps capv cds base,fQ M.mg base->TOk (M.to caps capv cds base) T k)(O0:TOk M T k)(hL:T.L=[])(h1:T.mkr=false)(hH :∀ y F,T.H.lookup y=some F->∃ k' ps,k'<=k+1/\FnC M y k' ps F)(hF :∀ y vf,T.Z.F.lookup y=some vf->∃ k' d,d<=3/\k'<=k+1/\FnR M T.Z.cl y k' d vf){nm:Str}(MK:Mkr M c P (x++".<locals>."++nm))
  (X:M.K.K.In h) (Gn:h.Ns mainGlobals M.mg) (S:bw N ps (az st))
  (hb:∀(kV doc pm:Value) (an:Option Addr) (cdv ct:Value) (us:List Value),us.length=ps.length->bindArgs (cW x x (fZ st) (bV st) (az st) .none kV doc pm an cdv ct) ⟨us,[]⟩=pure (ps.zip us))
  (hc:cB ⟨T.D,T.C,T.L,T.H,true,T.Z.to nm⟩ fu N (az st).names (bV st)=some ms):Fn M x (k+5) ps (run ps.length N.length ms):=by
 obtain⟨f,oc,od,kV,doc,pm,an,ct,sl,a,lk,Zs,Za⟩:=D.ex;exact⟨f,_,cm X Gn a,Za,.all (hb kV _ pm an _ ct),D.ok h0 O O0 hL h1 hH hF MK S hc lk Zs⟩
end
section
variable {M:Mo}
variable{Hs:List (Str×(Addr->MF->MF))}
theorem mD{j k:Nat}(h:∀y F,Hs.lookup y=some F->∃k' ps,k'<=j/\FnC M y k' ps F)(hj:j<=k):∀y F,Hs.lookup y=some F->∃k' ps,k'<=k/\FnC M y k' ps F:=λy F hy=>
 let ⟨k',ps,a,b⟩:=h y F hy;⟨k',ps,aH a hj,b⟩
theorem GF{j k:Nat}{F0:Addr->MF->MF}{ps:List Str}(h:∀y F,Hs.lookup y=some F->∃k' ps,k'<=j/\FnC M y k' ps F)(F1:FnC M x i ps F0)(hi:i<=k)(hj:j<=k):∀y F,((x,F0)::Hs).lookup y=some F->∃k' ps,k'<=k/\FnC M y k' ps F:=λy F hy=>by
 rw[bT]at hy;cases e:y==x with
 |true=>rw[e]at hy;cases hy;rw[eq_of_beq e];exact⟨i,ps,hi,F1⟩
 |false=>rw[e]at hy;exact mD h hj y F hy
end
theorem Aj{c P:Addr}{Sf:Option Addr}{XF:Array (Option Value)}{oc kV doc pm ct:Value}{vs:Array Value}{file:Str}{tf tg tt:Tok}{flags text:Int}{inF:Bool}(a:bj K mainGlobals x=some (some (.ref f)))
  (l:K.lookup f=some ⟨oc,od,.func (cW x x (fZ st) (bV st) (az st) .none kV doc pm an (.ref c) ct),sl⟩) (cc:gz K (.ref c) x=true) (k:cg K (.ref f)=true)
  (e:K.lookup c=some ⟨.type "code",Sf,.fields vs,XF⟩) (r1:vs[11]?=some (.ref P)) (r2:vs.getD 11 .none=.ref P) (r3:vs.getD 18 .none=.str file tf) (r4:vs.getD 7 .none=.int flags tg) (r5:vs.getD 9 .none=.bool inF) (r6:vs.getD 10 .none=.int text tt) (r7:c≠P):oU K x st c P:=
 ⟨⟨f,oc,od,kV,_,pm,an,ct,sl,a,l,cc,k⟩,⟨vs,_,_,_,tf,_,tg,_,_,tt,e,r1,r2,r3,r4,r5,r6,r7⟩⟩
theorem M5{tabs:List (Addr×Str)}{H:Hp}{a:Addr}{ns:List Int}{m:MF}(hT:∀q∈tabs,zq H q.1 q.2)(hS:SqL K H a (ns.map V.int))(hm:∀S:Sto,S.length=1->getL S 0=some (ns.map U.int)->∃S',m [.ref 0] S=some (.bl true,S')):
  spM ⟨K,[],[],[],tabs⟩ m [.ref a] H (λv _=>v=.bl true) λ_ _ _=>False:=by
 have key:∃c:Cell,m8 ⟨K,[],[],[],tabs⟩ H [a] a c/\getL [c] 0=some (ns.map U.int):=by
  rcases hS with (h|⟨o,h⟩)|h
  .exact⟨.lst _,⟨_,h,RUs.ints ns⟩,rfl⟩
  .exact⟨.frz _,⟨_,.inl ⟨o,h⟩,RUs.ints ns⟩,rfl⟩
  .exact⟨.frz _,⟨_,.inr (.inr h),RUs.ints ns⟩,rfl⟩
 obtain⟨c,hc,hg⟩:=key;obtain⟨S',e⟩:=hm _ rfl hg;refine⟨[a],_,_,_,S',⟨rfl,λn m us ws q1 q2 _ _ _=>?_,λn c' b q1 q2=>?_,⟨.nil,λq hq=>(nomatch hq),hT⟩⟩,.cons (rR rfl) .nil,e,λY6 v H' _ _ _ r=>kR r⟩
 .have h1:=(ah.mp q1).1
  have h2:=(ah.mp q2).1<;>simp_all
 .have h1:=(ah.mp q1).1
  simp_all
end _G
namespace _G
open PySem PySem.Spec _L
open PySem.W (CodeHd tabObj tabIn)
open PyProof.Rows hiding St
theorem oU.tab{K:aj}{x:Str}{st:Stmt}{c P:Addr}(D:oU K x st c P):tabIn K x=some (c,P):=by
 obtain⟨f,oc,od,kV,doc,pm,an,ct,sl,e1,e2,_⟩:=D.ex;obtain⟨vs,Sf,XF,file,tf,flags,tg,inF,text,tt,e3,e4,_⟩:=D.cd;unfold tabIn
 simp_all
def yf(K:aj)(tabs:List (Addr×Str))(a:Addr)(o:Obj)(xs:List V):Hp:=λb=>
 if b∈tabs.map (·.1) then some (.tbl #[]) else if b=a/\K.lookup a=none then some (.frz o (.lst xs)) else none
section
variable {P:Program}{w:World}{K:aj}{mg mb:Str->Option Value}{k:Nat}{fa a:Addr}{fd:FuncData}{x:Str}{sp:Sp}{s:Shared}{vs:List Value}{ns:List Int}{tabs:List (Addr×Str)}
theorem GI(kx:K.In s.heap)(Yo:s.heap.Ns mainGlobals mg)(hb:s.heap.Ns builtinsNs mb)(Zj :∀ x:Str,x≠"__name__"->mb x=bootBuiltins x)(UY:s.heap.NoLimit)(Rg:fQ mg s.heap)(hg:s.gens = #[])
  (ha:s.heap.get? a=some { cls := .type "list",data := .seq vs.toArray }) (hi:IntsAre vs ns) (hl:ns.length<=sizeLine) (hr:kc k callerA)
  (hT:∀r∈tabs,K.lookup r.1=none /\ ∃c,s.heap.TableAt c r.1 #[])
  (F:∀base:Heap,K.In base->base.Ns mainGlobals mg->fQ mg base->iY P w K mg base CX0 k fa fd [x] sp) (VO:∀(s:Shared) (u:Value),BindsTo s fd ⟨[u],[]⟩ [(x,u)])
  (Zh:∀H:Hp,(∀r∈tabs,zq H r.1 r.2)->SqL K H a (ns.map V.int)->sp [.ref a] H (λv _=>v=.bl true) λ_ _ _=>False):
  pL (model P w) callerA (.call (.ref fa) ⟨[.ref a],[]⟩) (λr s'=>r=.ok (.ret (.bool true))/\OldK s.heap s'.heap/\s'.os=s.os/\AllBare s'.gens) s:=by
 have rv:=pA hi;have UD:=hi.length
 let o:Obj:={ cls := .type "list",data := .seq vs.toArray }
 let H:=yf K tabs a o (ns.map V.int)
 have hH:H=yf K _ a o _:=rfl;have tab:∀b,b∈tabs.map (·.1)->H b=some _/\K.lookup b=none /\ ∃c,s.heap.TableAt c b _:=λb hb=>by
  obtain⟨r,hr,e⟩:=aR.mp hb;subst e;exact⟨if_pos hb,hT r hr⟩
 have Uz:a∉tabs.map _:=λz=>by
  obtain⟨_,_,c,ht⟩:=tab a z;have e:=ht.2;rw[ha]at e;cases e
 have VJ:∀b u,H b=some u->(b∈tabs.map _/\u=.tbl _)\/(b=a/\K.lookup a=none/\u=.frz o _):=λb u e=>by
  rw[hH]at e;unfold yf at e
  split at e
  .rename_i z;cases e;exact .inl ⟨z,rfl⟩
  .split at e
   .rename_i z;cases e;exact .inr ⟨z.1,z.2,rfl⟩
   .cases e
 have nodic:∀{b:Addr}{o:Obj}{es:Array _}{ep:Nat},s.heap.get? b=some o->o.data=.dict es ep->H b=none:=λ{b o' es ep} e d=>by
  cases q:H b with
  |none=>rfl
  | some u=>
    rcases VJ b u q with⟨z,_⟩|⟨z,_⟩
    .obtain⟨_,_,c,ht⟩:=tab b z
     have e2:=ht.2;rw[e]at e2;cases e2;cases d
    .subst z
     rw[ha]at e;cases e;cases d
 have nsK:∀{b:Addr}{m:Str->Option _},s.heap.Ns b m->(xP _ H).Ns b m:=λ{b m} ⟨o,es,ep,e,d,r⟩=>⟨o,es,ep,oK e (nodic e d),d,r⟩
 have Sk:K.In (xP _ H):=λb o' e=>oK (kx b o' e) (by
  cases q:H b <;> grind)
 have hok:HOk P w H s.heap:=λb u e=>by
  rcases VJ b u e with⟨z,rfl⟩|⟨rfl,z2,rfl⟩
  .obtain⟨_,_,c,ht⟩:=tab b z
   exact ht.2
  .exact⟨ha,by rw[ar];exact hl,vs,_,rv,ha⟩
 have hS:SqL K H a (ns.map V.int):=by
  cases hk:K.lookup a with
  | some o'=>
    have e:=kx a o' hk;rw[ha]at e;cases e;exact .inr ⟨_,_,_,hk,rfl,rfl,rfl,by rw[cH,UD];exact hl,by simpa using rv⟩
  |none=>exact .inl (.inr ⟨o,by show yf K _ a o _ a=_;unfold yf;rw[if_neg Uz,if_pos ⟨rfl,hk⟩]⟩)
 have hM:Mod K mg _:=⟨Sk,nsK Yo,⟨mb,nsK hb,Zj⟩,let ⟨mc,h1,h2⟩:=UY;⟨mc,nsK h1,h2⟩⟩;have e0:Cc P w K mg _ callerA [] s H:=⟨rfl,hM,λb o e=>AG e,Nat.le_of_eq (pq _ _),trivial,λb hb=>absurd (show b∈[] from hb) (by simp),hok,.of_eq hg⟩;have Rr:fQ mg (xP s.heap H):=by
  obtain⟨bm,ob,e1,e2,e3,e4,e5,e6⟩:=Rg;refine⟨bm,ob,e1,e2,oK e3 ?_,e4,e5,e6⟩;cases q:H bm with
  |none=>rfl
  | some u=>
    rcases VJ bm u q with⟨z,_⟩|⟨z,_⟩
    .obtain⟨_,_,c,ht⟩:=tab bm z
     have e:=ht.2;rw[e3]at e;cases e;cases e6
    .rw[z,ha]at e3;cases e3;cases e6
 have hTR:∀r∈tabs,zq H _ r.2:=λr hr=>⟨_,(tab _ (aR.mpr ⟨r,hr,rfl⟩)).1,trivial,λpos cv h=>by cases h⟩;refine ij ((F _ Sk (nsK Yo) Rr).run _ [] s H _ [.ref a] [.ref a] _ _ hr e0 (VO s _) (.cons rfl .nil) (Zh H hTR hS)) λr s' h=>?_;cases r with
 |error e=>exact h.elim
 | ok fl=>
   cases fl with
   |next=>exact bK h
   |brk=>exact bK h
   |cont=>exact bK h
   | ret u=>
     obtain⟨v,H',os,bare,un,Wq,r',q⟩:=h;have q':=q;subst q';obtain rfl:u=Value.bool _:=r';refine⟨rfl,⟨λb o' e=>?_,λb o' e=>un.there b o' e (by simp)⟩,os,bare⟩;cases q:H b with
     |none=>exact .inl (un.keep b o' e q (by intro z;exact absurd (show b∈[] from z) (by simp)) (by simp))
     | some u=>
       rcases VJ b u q with⟨z,rfl⟩|⟨rfl,_,rfl⟩
       .obtain⟨_,_,c,ht⟩:=tab b z
        obtain⟨more,e2⟩:=un.tbls b _ q;have e3:=Wq b _ e2;have e4:=ht.2;rw[e]at e4;cases e4;exact .inr (.inl ⟨ht.isCodeTable,rfl,_,_,rfl,e3⟩)
       .obtain⟨e2,_⟩:=Wq b _ (un.frzs b _ _ q)
        rw[ha]at e;cases e;exact .inl e2
end
theorem Ff{l:mT}{n k:Nat}{q:Program}{loose:List Str}{XP:(Str->Option Value)->Heap->Prop}{YP:World->Heap->Prop}{d:DefRec}{K:Params->aj}{x:Str}
  (hn:l.most=some n) (YD:n<=sizeLine) (W4:d.params.defaults=[]) (hr:kc k callerA) (hY:∀(w:World) (h:Heap),YP w h->(K w.params).In h)
  (F: ∀(w:World) (mg:Str->Option Value) (fa:Addr) (h:Heap),(K w.params).In h->h.Ns mainGlobals mg->mg d.name=some (.ref fa) -> ∃(tabs:List (Addr×Str)) (fd:FuncData) (sp:Sp),
   (∀r∈tabs,(K w.params).lookup r.1=none /\ ∃x d c,(recsOf q).find? (λe=>e.name==x)=some d/\tabIn (K w.params) x=some (c,r.1)) /\
   (∀(s:Shared) (u:Value),BindsTo s fd ⟨[u],[]⟩ [(x,u)])/\(∀base:Heap,(K w.params).In base->base.Ns mainGlobals mg->fQ mg base->iY l.prog w (K w.params) mg base CX0 k fa fd [x] sp) /\
   ∀(H:Hp) (a:Addr) (ns:List Int),ns.length<=n->(∀r∈tabs,zq H r.1 r.2)->SqL (K w.params) H a (ns.map V.int)->sp [.ref a] H (λv _=>v = .bl true) λ_ _ _=>False):
  PySem.W.WalkO q loose XP YP l.row.toRowW d [] (λf vs=>PySem.call f vs):=by
 refine Att.attach_call hn W4 λw s₀ ZT mg mb fa o pm cd doc a vs ns v6 Y ho hd Zs VN Xm hints hlen hg=>?_;have kx:=hY w _ Y;obtain⟨tabs,fd,sp,hT,hb,hF,Zh⟩:=F w mg fa _ kx v6.T.g VN;refine GI kx v6.T.g v6.T.b v6.T.builtins v6.T.nolimit v6.T.bmain hg Xm hints (aH hlen YD) hr (λr hr=>?_) hF hb λH h1 h2=>Zh H a ns hlen h1 h2;obtain⟨h1,x',d',c,h2,h3⟩:=hT r hr;obtain⟨h4,h5⟩:=PySem.W.tab_of v6.T kx h2 h3;exact⟨h1,c,h4.tab h5⟩
end _G
namespace _G
open PySem PySem.Spec _L
variable{p:List Value->Prop}
theorem usC{n:Nat}(h:∀a us,us.length=n->p (a::us)):∀us:List Value,us.length=n+1->p us:=λus hl=>by
 cases us<;>simp_all
theorem us0(h:p []):∀us:List Value,us.length=0->p us
 |[],_=>h
theorem us1(h:∀a,p [a]):∀us:List Value,us.length=1->p us:=usC λa us hl=>fK hl▸h a
theorem us2(h:∀a b,p [a,b]):∀us:List Value,us.length=2->p us:=usC λa=>us1 (h a)
theorem us3(h:∀a b c,p [a,b,c]):∀us:List Value,us.length=3->p us:=usC λa=>us2 (h a)
theorem TOk.nm{M:Mo}{T:Tb}{k:Nat}(h:TOk M T k)(x:Str):TOk M ⟨T.D,T.C,[],T.H,false,T.Z.to x⟩ k:=⟨h.D,h.C,h.B,λ_ _ e=>(by cases e),λz=>(by cases z),h.Z⟩
def Bd(x:Str)(st:Stmt)(ps:List Str):Prop:= ∀(kV doc pm:Value) (an:Option Addr) (cdv ct:Value) (us:List Value),us.length=ps.length->bindArgs (cW x x (fZ st) (bV st) (az st) .none kV doc pm an cdv ct) ⟨us,[]⟩=pure (ps.zip us)
structure Ch(P:Program)(w:World)(K:aj)(mg:Str->Option Value)(tabs:List (Addr×Str))(T:Tb)(k:Nat):Prop where
 o:∀(caps:List U) (capv:List V) (cds:List (Addr×Obj)) (base:Heap),fQ mg base->TOk ⟨P,w,⟨K,caps,capv,cds,tabs⟩,mg,base,none⟩ T k
 h:∀(caps:List U) (capv:List V) (cds:List (Addr×Obj)) (base:Heap),fQ mg base->∀y F,T.H.lookup y=some F->∃k' ps,k'<=k/\FnC ⟨P,w,⟨K,caps,capv,cds,tabs⟩,mg,base,none⟩ y k' ps F
 r:∀(caps:List U) (capv:List V) (cds:List (Addr×Obj)) (base:Heap),fQ mg base->∀y vf,T.Z.F.lookup y=some vf->∃k' d,d<=3/\k'<=k/\FnR ⟨P,w,⟨K,caps,capv,cds,tabs⟩,mg,base,none⟩ T.Z.cl y k' d vf
theorem oo{M:Mo}{Fs:List (Str×VF)}{cl:Nat->Addr}{j k:Nat}(h:∀y vf,Fs.lookup y=some vf->∃k' d,d<=3/\k'<=j/\FnR M cl y k' d vf)(hj:j<=k):∀y vf,Fs.lookup y=some vf->∃k' d,d<=3/\k'<=k/\FnR M cl y k' d vf:=λy vf hy=>
 let ⟨k',d,hd,a,b⟩:=h y vf hy;⟨k',d,hd,aH a hj,b⟩
section
variable {P:Program}{w:World}{K:aj}{mg:Str->Option Value}{tabs:List (Addr×Str)}{T T':Tb}{k j:Nat}{h:Heap}{x:Str}{st:Stmt}{N ps:List Str}{ms:MS}{fu:Nat}
theorem Ch.dfn(c:Ch P w K mg tabs T k)(O:∀(caps:List U) (capv:List V) (cds:List (Addr×Obj)) (base:Heap),fQ mg base->TOk ⟨P,w,⟨K,caps,capv,cds,tabs⟩,mg,base,none⟩ T' k)(h1:T'.mkr=false)(X:K.In h)(Gn:h.Ns mainGlobals mg)(D:Def K x st)(S:bw N ps (az st))(hb:Bd x st ps)
  (hc:cB T' fu N (az st).names (bV st)=some ms):Ch P w K mg tabs ⟨(x,run ps.length N.length ms)::T.D,T.C,T.L,T.H,T.mkr,T.Z⟩ (k+1):=
 ⟨λa b d e f=>(c.o a b d e f).cons (D.fn (O a b d e f) rfl h1 X Gn S hb hc) (dz k),λa b d e f=>mD (c.h a b d e f) (dz k),λa b d e f=>oo (c.r a b d e f) (dz k)⟩
theorem Ch.cls{y:Str}{msC:Addr->MF->MS}(c:Ch P w K mg tabs T k)(h1:T.mkr=false)(hL:T.L=[])(X:K.In h)(Gn:h.Ns mainGlobals mg)(D:Def K x st)(S:bw N ps (az st))(hb:Bd x st ps)
  (hc:∀g φ,cB ⟨T.D,T.C,[(y,g,φ)],T.H,T.mkr,T.Z⟩ fu N (az st).names (bV st)=some (msC g φ)):Ch P w K mg tabs ⟨T.D,T.C,T.L,(x,λg φ=>run ps.length N.length (msC g φ))::T.H,T.mkr,T.Z⟩ k:=
 ⟨λa b d e f=>(c.o a b d e f).setH,λa b d e f=>GF (c.h a b d e f) (D.fnC c.o h1 hL X Gn S hb hc) (ao k) (ao k),c.r⟩
theorem Ch.lam_{a p:Addr}{nm:Str}(c:Ch P w K mg tabs T k)(h1:T.mkr=false)(hL:T.L=[])(hm:(p,x++".<locals>."++nm)∈tabs)(nd:(tabs.map (·.1)).Nodup)(hg:mainGlobals≠p)(X:K.In h)(Gn:h.Ns mainGlobals mg)(D:oU K x st a p)(S:bw N ps (az st))(hb:Bd x st ps)
  (hc:cB ⟨T.D,T.C,T.L,T.H,true,T.Z.to nm⟩ fu N (az st).names (bV st)=some ms):Ch P w K mg tabs ⟨(x,run ps.length N.length ms)::T.D,T.C,T.L,T.H,T.mkr,T.Z⟩ (k+5):=
 ⟨λa b d e f=>(c.o a b d e f).cons (D.fn rfl c.o (c.o a b d e f) hL h1 (mD (c.h a b d e f) (dz k)) (oo (c.r a b d e f) (dz k)) (D.mkr f X Gn hm nd hg) X Gn S hb hc) (fH k 5),λa b d e f=>mD (c.h a b d e f) (fH k 5),λa b d e f=>oo (c.r a b d e f) (fH k 5)⟩
end
end _G
namespace _G
open PySem PySem.Spec _L
open PyProof.Rows hiding St
def xNo:MX:=λ_ _=>none
def MW(m:ME)(r:MX):MX:=λG S=>bnd (m G S) λ_ S1=>r G S1
def vK(C:Nat):MX:=λ_ S=>some (C,S)
def xIf(c:MT)(a b:MX):MX:=λG S=>bnd (c G S) λk S1=>if k then a G S1 else b G S1
def rV(a:MX)(m:MS)(b:MX):MX:=λG S=>match a G S with
 |some r=>some r
 | none=>match m G S with
   |some (.nx,Y5,S1)=>b Y5 S1
   |_=>none
def yi(k n:Nat)(r:MX):RF:=λus S=>if us.length=k then r (us.map some++cp (n-k) none) S else none
structure Tx where
 R:List (Str×RF)
 Cl:List (Str×Nat)
def JY:Const->Option Str
 |.str s=>some s
 |_=>none
def HC:Expr->Option Str
 |.Constant c _ _=>JY c
 |_=>none
def B0:Expr->Option Str
 |.Name y _=>some y
 |_=>none
def J2:Expr->Option (Str×Int)
 |.FormattedValue e c o _=>if o.isNone then(B0 e).map λy=>(y,c) else none
 |_=>none
def Nr(a b:Str):U->Bool
 |.int i=>decide (i.natAbs.log2<1920)&&decide (a.length<=1000)&&decide ((toString i:Str).length<=1000)&&decide (b.length<=1000)
 |_=>false
def PU(T:Tb)(ns:NS):List Expr->Option U
 |[x,y,z]=>(HC x).bind λa=>(J2 y).bind λq=>(HC z).bind λb=>(T.C.lookup q.1).bind λu=>if q.2 == -1&&eg ns q.1&&bM q.1&&Nr a b u then some u else none
 |_=>none
def AA(T:Tb)(ns:NS):Expr->Bool
 |.Constant c _ _=>(JY c).isSome
 |.JoinedStr es _=>(PU T ns es).isSome
 |_=>false
def oneOf{α:Type}:List α->Option α
 |[a]=>some a
 |_=>none
structure Xc where
 e:Tb->Tx->List Str->NS->Expr->Option MX
 a:Tb->Tx->List Str->NS->List Expr->Option MX
 s:Tb->Tx->List Str->NS->Stmt->Option MX
 b:Tb->Tx->List Str->NS->List Stmt->Option MX
section
variable (f:Nat) (R:Xc) (T:Tb) (Z:Tx) (N:List Str) (ns:NS)
def xC(g:Str)(as:List Expr):Option MX:=match Z.R.lookup g with
 |some r=>(cA T f N ns as).map (xFn r)
 | none=>match T.D.lookup g with
   |some _=>if as.all notStar then R.a T Z N ns as else none
   |none=>none
def xE:Expr->Option MX
 |.Call g as ks _=>(B0 g).bind λx=>if ks.isEmpty&&(!as.isEmpty&&(eg ns x&&bM x)) then xC f R T Z N ns x as else none
 |.Subscript a b _=>if kg b then R.e T Z N ns a else none
 |_=>none
def xA:List Expr->Option MX
 |[]=>none
 | e::r=>if notStar e then(match R.e T Z N ns e with
   |some re=>some re
   | none=>(cE T f N ns e).bind λme=>(R.a T Z N ns r).map (MW me)) else none
def xR:Expr->Option MX
 |.Call g as ks _=>(B0 g).bind λx=>(oneOf as).bind λa=>if ks.isEmpty&&eg ns x&&bM x&&notStar a&&AA T ns a then(Z.Cl.lookup x).map vK else none
 |_=>none
def xS:Stmt->Option MX
 |.Raise o c _=>if c.isNone then o.bind (xR T Z ns) else none
 |.If c a b _=>(cT T f N ns c).bind λmc=>(R.b T Z N ns a).map λra=>xIf mc ra ((R.b T Z N ns b).getD xNo)
 |.Expr e _=>if jb e then R.e T Z N ns e else none
 |.Return o _=>o.bind λe=>R.e T Z N ns e
 |.Assign ts e _=>(oneOf ts).bind λt=>(B0 t).bind λx=>if ly ns x&&jb e&&(slot N x).isSome then R.e T Z N ns e else none
 |_=>none
def xB:List Stmt->Option MX
 |[]=>none
 | s::r=>match R.s T Z N ns s with
   |some rs=>some (rV rs ((cS T f N ns s).getD sNo) ((R.b T Z N ns r).getD xNo))
   |none=>(cS T f N ns s).bind λms=>(R.b T Z N ns r).map (rV xNo ms)
end
def xc(f:Nat):Nat->Xc
 |0=>⟨λ_ _ _ _ _=>none,λ_ _ _ _ _=>none,λ_ _ _ _ _=>none,λ_ _ _ _ _=>none⟩
 |n+1=>⟨xE f (xc f n),xA f (xc f n),xS f (xc f n),xB f (xc f n)⟩
def Gc:Data->Option ClassData
 |.cls cd=>some cd
 |_=>none
def exC(K:aj)(C:Addr)(oc:Value)(cd:ClassData)(sl:Array (Option Value)):Bool:=
 oc == .type "type"&&(sl == #[sl.getD 0 none,sl.getD 1 none,sl.getD 2 none,sl.getD 3 none,some (.builtin "ValueError.__new__"),sl.getD 5 none]&&(cd.mro == .ref C::cd.mro.tail&&(!cd.hasDel&&(PySem.W.tailIn K vE cd.mro.tail&&(PySem.W.nsOkIn K cd.ns&&bj K cd.ns "__init__" == some none)))))
def exB(K:aj)(C:Addr):Bool:=match K.lookup C with
 | some o=>(match Gc o.data with
   |some cd=>exC K C o.cls cd o.slots
   | none=>false)
 |none=>false
structure XOk(M:Mo)(cl:Nat->Addr)(T:Tb)(Z:Tx)(k:Nat):Prop where
 g:GOk M T k
 R:∀x r,Z.R.lookup x=some r->∃k' ps,k'<=k/\FnX M cl x k' ps r
 C:∀x c,Z.Cl.lookup x=some c->M.mg x=some (.ref (cl c))/\exB M.K.K (cl c)=true
theorem JA{d:Data}{cd:ClassData}(h:Gc d=some cd):d=.cls cd:=by
 cases d<;>first | (cases h;rfl) |cases h
theorem JX{K:aj}{h:Heap}{mg:Str->Option Value}{x:Str}{C:Addr}(X:K.In h)(e:mg x=some (.ref C))(q:exB K C=true):OwnCls x C vE "ValueError.__new__" mg h:=by
 refine⟨e,?_⟩;unfold exB at q;cases ho:K.lookup C with
 |none=>simp_all
 | some o=>
   rw[ho]at q;obtain⟨oc,dd,da,sl⟩:=o
   have qa:(match Gc da with
    |some cd=>exC K C oc cd sl
    | none=>false)=true:=q
   clear q;cases hd:Gc da with
   |none=>simp_all
   | some cd=>
     have q:=qa;clear qa;have Yp:=JA hd;clear hd;subst Yp;obtain⟨q0,q⟩:=eB.mp q;obtain⟨q1,q⟩:=eB.mp q;obtain⟨q3,q⟩:=eB.mp q;obtain⟨q4,q⟩:=eB.mp q;obtain⟨q5,q⟩:=eB.mp q;obtain⟨q6,q7⟩:=eB.mp q;obtain⟨nm,bs,mro,ns,qn,hd,sn,sub,ab,col,del⟩:=cd;have Q5:mro=.ref C::mro.tail:=eq_of_beq q3;have RH:del=false:=by
      cases del with
      |false=>rfl
      |true=>cases q4
     rw[eq_of_beq q0,Q5,RH,eq_of_beq q1]at ho;exact⟨_,ns,nm,qn,bs,hd,sn,_,ab,_,dd,_,_,_,_,_,_,X _ _ ho,.of_isNs (PySem.W.isNs_of_in X q6),PySem.W.nsMap_none_of_in X q6 (eq_of_beq q7),PySem.W.tail_of_in X q5⟩
section
variable {M:Mo}{cl:Nat->Addr}{T:Tb}{Z:Tx}{k n fu:Nat}{N:List Str}{ns:NS}{X:Cx}{E:XK}
variable{s:Str}
theorem Am{c:Const}(h:JY c=some s):c=.str s:=by
 cases c<;>cases h;rfl
variable{e:Expr}
theorem Ao(h:HC e=some s):∃k p,e=.Constant (.str s) k p:=by
 unfold HC at h
 split at h
 .exact⟨_,_,by rw[Am h]⟩
 .cases h
theorem Af(h:B0 e=some s):∃p,e=.Name s p:=by
 unfold B0 at h
 split at h<;>simp_all
theorem Ic{q:Str×Int}(h:J2 e=some q):∃p p',e=.FormattedValue (.Name q.1 p) q.2 none p':=by
 unfold J2 at h
 split at h
 .rename_i e c o p
  split at h
  .rename_i ho
   obtain⟨y,e1,rfl⟩:=map_eq h;obtain⟨p1,rfl⟩:=Af e1;cases o with
   |none=>exact⟨p1,p,rfl⟩
   |some _=>cases ho
  .cases h
 .cases h
theorem Ed{α:Type}{l:List α}{a:α}(h:oneOf l=some a):l=[a]:=by
 match l,h with
 |[_],h=>cases h;rfl
theorem JT(O:TOk M T k)(S:Sc M X.nox k N ns){a:Expr}(h:AA T ns a=true):PE X a λσ H Q=>∀x,Q (.str x) H:=by
 unfold AA at h
 split at h
 .obtain⟨s,e⟩:=cq.mp h
  rw[Am e];exact PE.con Fp λ_ _ _ q=>q _
 .rename_i es p
  obtain⟨u,h⟩:=cq.mp h
  match es,h with
  | [x,y,z],h=>
    obtain⟨a,e1,h⟩:=bind_eq (h);obtain⟨⟨n,c⟩,e2,h⟩:=bind_eq h;obtain⟨b,e3,h⟩:=bind_eq h;obtain⟨u',hi,h⟩:=bind_eq h
    split at h
    rotate_left
    .cases h
    rename_i hs
    simp only[aq]at hs;obtain⟨⟨⟨hc,hg⟩,hp⟩,hI⟩:=hs;obtain⟨k1,p1,rfl⟩:=Ao e1;obtain⟨p2,p3,rfl⟩:=Ic e2;obtain⟨k3,p4,rfl⟩:=Ao e3;obtain⟨i,rfl,hI⟩ :∃i,u'=.int i/\Nr a b (.int i)=true:=by
     cases u' with
     |int i=>exact⟨i,rfl,hI⟩
     |_=>cases hI
    have h:(decide _&&decide _&&decide _&&decide _)=true:=hI;simp only[aq,decide_eq_true_eq]at h;obtain⟨⟨⟨h1,h2⟩,h3⟩,h4⟩:=h;obtain⟨g,v,hm,rv,hu⟩:=O.C _ _ hi;have hv:=dq (hu (λ_=>none) []);subst hv;obtain⟨t,rfl⟩ :∃t,g=.int i t:=rv;cases eq_of_beq hc;intro pins s σ H Q I q;have big:3000<=sizeLine:=by decide
    refine JoinedStr_many (joinParts_cons (qp ⟨?_,?_⟩))
    .rw[strLen_append]
     have:(Cy).length=0:=rfl;omega
    refine joinParts_cons (FormattedValue_plain (je (I.tok _) (S.gl hg) (by have:=S.hm;exact(congrFun this _).trans hm) ?_ (bU hp).1));refine formatField_int_small h1 ⟨?_,?_⟩
    .rw[strLen_append,strLen_append]
     have:(Cy).length=0:=rfl;omega
    refine joinParts_cons (qp ⟨?_,?_⟩)
    .rw[strLen_append,strLen_append,strLen_append]
     have:(Cy).length=0:=rfl;omega
    refine joinParts_nil ⟨.str _,H,?_,⟨_,rfl⟩,q _⟩ ?_
    .exact I.tok _
    .rw[strLen_append,strLen_append,strLen_append]
     have:(Cy).length=0:=rfl;omega
 .cases h
end
theorem Nk{T:Tb}{Z:Tx}{ns:NS}{e:Expr}{r:MX}(h:xR T Z ns e=some r):∃x a p1 p C,e=.Call (.Name x p1) [a] [] p/\Z.Cl.lookup x=some C/\r=vK C/\eg ns x=true/\bM x=true/\notStar a=true/\AA T ns a=true:=by
 unfold xR at h
 split at h
 .rename_i g as ks p
  obtain⟨x,e1,hy⟩:=bind_eq h;obtain⟨a,e2,hz⟩:=bind_eq hy;obtain⟨p1,rfl⟩:=Af e1;cases Ed e2
  split at hz
  .rename_i hs
   simp at hs;obtain⟨C,e1,rfl⟩:=map_eq hz;have hk:=hs.1.1.1.1;cases ks with
   |nil=>exact⟨x,a,p1,p,C,rfl,e1,rfl,hs.1.1.1.2,hs.1.1.2,hs.1.2,hs.2⟩
   |cons _ _=>cases hk
  .cases hz
 .cases h
section
variable {M:Mo}{cl:Nat->Addr}{T:Tb}{Z:Tx}{k n fu:Nat}{N:List Str}{ns:NS}{X:Cx}{E:XK}
variable{a:Expr}
theorem x_raise{x:Str}{C:Nat}{p1 p2 pos:Pos}(L:Lv X E)(S:Sc M X.nox k N ns)(O:M.mg x=some (.ref (cl C))/\exB M.K.K (cl C)=true)(hg:eg ns x=true)(hp:bM x=true)(hs:notStar a=true)(ha:PE X a λσ H Q=>∀x,Q (.str x) H):
  PS X (.Raise (some (.Call (.Name x p1) [a] [] p2)) none pos) (tXS cl M.K (vK C) E):=by
 intro pins s σ H D I h;obtain⟨μ,S0,G,C',S',hr,er,q,aft⟩:=h;cases q;have hb:X.base=M.base:=S.hb;have hm:X.mg=M.mg:=S.hm;have hK:X.K=M.K.K:=S.hK;have O:=JX (K:=M.K.K) (h:=X.base) (by rw[<-hK];exact I.ok.mod.kin) O.1 O.2;obtain⟨tl,Nn,nm,q,bs,hdct,sn,sub,ab,col,dd,k0,k1,k2,k3,k5,mN,hC,hN,L',T'⟩:=O.obj;refine wpAny_Raise_call_subU (C:=cl C) (nm:=nm) (q:=q) (N:=Nn) (bs:=bs) (bm:=tl) (hdct:=hdct) (sn:=sn) (sub:=sub) (ab:=ab) (col:=col) (dd:=dd) (k0:=k0) (k1:=k1) (k2:=k2) (k3:=k3) (k5:=k5)
  wt (bmB:=vE) (by decide +kernel) wt (mN:=mN) (T'.hasType PySem.F.excBase_ValueError.hasBase) S.room.hd (nI _ _ (by rw[bH,hs];rfl)) L' (je I (S.gl hg) (by rw[hm];exact O.bound) ⟨rfl,?_⟩ (bU hp).1)
 rw[ck hs];refine jy ?_;refine d6 (thn (ha pins s σ H (λv H1=>(∃x,v=.str x)/\H1=H) I λx=>⟨⟨x,rfl⟩,rfl⟩) λu s1 ⟨v,H1,I1,r1,_,e1⟩=>?_);subst e1;refine gg ⟨rfl,?_,I1.bk _ _ hC,hN.keeps I1.bk,T'.keeps I1.bk,λh' e hx=>?_⟩
 .show 1<=sizeLine
  rw[sizeLine_eq];decide
 .exact L.made I1 hx (aft μ H1 (Pre.refl _) (bq.refl _) hr)
theorem JS{g:Str}{as:List Expr}{p pos:Pos}{mf:MF}{r:MX}{k':Nat}{ps:List Str}(S:Sc M X.nox k N ns)(F:Fn M g k' ps mf)(hk:k'<=k)(hg:eg ns g=true)(hp:bM g=true)(ha:PA X (a::as) (tXA cl M.K r E))(hs:(a::as).all notStar=true):
  PE X (.Call (.Name g p) (a::as) [] pos) (tXE cl M.K r E):=by
 obtain⟨f,fd,hm,Za,hb,F⟩:=F.ex;have e1:=S.hP;have e2:=S.hw;have e3:=S.hK;have e4:=S.hm;have e5:=S.hb;rw[<-e1,<-e2,<-e3,<-e4,<-e5]at F;rw[<-e4]at hm;rw[<-e3]at Za hb;rw[bH,aq]at hs;exact PE.con (vH F (S.room.mono hk) (S.gl hg) hm Za hb .nil uM ha (bU hp).1 (ck hs.1 _ _) (nI _ _ hs.2)) λσ H Q h=>h
structure Oj(M:Mo)(cl:Nat->Addr)(T:Tb)(Z:Tx)(k fu n:Nat):Prop where
 e:∀N ns e r,(xc fu n).e T Z N ns e=some r->∀X E,Lv X E->Sc M X.nox k N ns->PE X e (tXE cl M.K r E)
 a:∀N ns es r,(xc fu n).a T Z N ns es=some r->∀X E,Lv X E->Sc M X.nox k N ns->PA X es (tXA cl M.K r E)
 s:∀N ns st r,(xc fu n).s T Z N ns st=some r->∀X E,Lv X E->Sc M X.nox k N ns->PS X st (tXS cl M.K r E)
 b:∀N ns sts r,(xc fu n).b T Z N ns sts=some r->∀X E,Lv X E->Sc M X.nox k N ns->PSs X sts (tXS cl M.K r E)
theorem OT{R:Oj M cl T Z k fu n}{sts:List Stmt}(h:∀r,(xc fu n).b T Z N ns sts=some r->PSs X sts (tXS cl M.K r E)):PSs X sts (tXS cl M.K (((xc fu n).b T Z N ns sts).getD xNo) E):=by
 cases q:(xc fu n).b T Z N ns _ with
 |some r=>exact h r q
 | none=>
   rintro pins s σ H D I ⟨μ,S0,G,C,S',hr,er,q,aft⟩;cases q
theorem Mq(O:XOk M cl T Z k):∀n,Oj M cl T Z k fu n
 |0=>⟨λ_ _ _ _ h=>eI h,λ_ _ _ _ h=>eI h,λ_ _ _ _ h=>eI h,λ_ _ _ _ h=>eI h⟩
 | n+1=>by
   have R:=Mq O n;have Sn:=snd fu M T k O.g;refine⟨λN ns e r h X E L S=>?_,λN ns es r h X E L S=>?_,λN ns st r h X E L S=>?_,λN ns sts r h X E L S=>?_⟩
   .replace h:xE fu (xc fu n) T Z N ns e=some r:=h
    cases e with
    | Call g as ks p=>
      obtain⟨x,hx,h2⟩:=bind_eq h;clear h;obtain⟨p1,rfl⟩:=Af hx;have h:(if ks.isEmpty&&(!as.isEmpty&&(eg ns x&&bM x)) then xC fu (xc fu n) T Z N ns x as else none)=some r:=h2;clear h2
      split at h
      .rename_i hs
       rw[aq,aq,aq,List.isEmpty_iff]at hs;obtain⟨rfl,ha,hs⟩:=hs;cases as with
       |nil=>cases ha
       |cons a as=>
       unfold xC at h
       split at h
       .rename_i rr hr
        obtain⟨mas,e1,rfl⟩:=map_eq h;obtain⟨k',ps,hk,F⟩:=O.R _ _ hr;exact x_call L S F hk hs.1 hs.2 (Sn.a _ _ _ _ e1 _ S) (ib e1)
       .split at h
        .rename_i mf hd
         split at h
         .rename_i ZN
          obtain⟨k',ps,hk,F⟩:=O.g.1.D _ _ hd;exact JS S F hk hs.1 hs.2 (R.a _ _ _ _ h _ _ L S) ZN
         .cases h
        .cases h
      .cases h
    | Subscript a b p=>
      have h:(if kg b then(xc fu n).e T Z N ns a else none)=some r:=h
      split at h
      .rename_i hs
       exact PE.con (IQ (r:=λ_ _ _ _=>False) (by unfold IxR;intros;contradiction) (R.e _ _ _ _ h _ _ L S) PE.never (Iz hs)) λ_ _ _ q=>q
      .cases h
    |_=>cases h
   .simp only[xc]at h
    unfold xA at h
    split at h
    .cases h
    .split at h
     .rename_i e es hs
      split at h
      .rename_i re he
       cases h;exact λpos pins s σ H Q I q=>mL (t:=λ_ _ _=>False) (R.e _ _ _ _ he _ _ L S) (λ_ _ _ _ _ _ _ h=>h.elim) (ck hs _ _) pos pins s σ H Q I q
      .obtain⟨me,e1,h⟩:=bind_eq h
       obtain⟨rr,e2,rfl⟩:=map_eq h;intro pos pins s σ H Q I q;refine mL (Sn.e _ _ _ _ e1 _ S).nox (R.a _ _ _ _ e2 _ _ L S) (ck hs _ _) pos pins s σ H Q I ?_;obtain⟨μ,S0,G,C,S',hr,er,q,aft⟩:=q;obtain⟨u,S1,e1,q⟩:=bu q;exact⟨μ,S0,G,u,S1,hr,er,e1,λY0 v H1 p1 k1 ZZ _=>⟨Y0,S1,G,C,S',ZZ,er.mono k1 p1,q,aft.mono p1 k1⟩⟩
     .cases h
   .replace h:xS fu (xc fu n) T Z N ns st=some r:=h
    cases st with
    | Raise o c p=>
      have h:(if c.isNone then o.bind (xR T Z ns) else none)=some r:=h
      split at h
      .rename_i hn
       obtain⟨e,rfl,hx⟩:=bind_eq h;clear h;cases c with
       |some _=>cases hn
       |none=>
       obtain⟨x,a,p1,p2,C,rfl,e1,rfl,h1,h2,h3,h4⟩:=Nk hx;exact x_raise L S (O.C _ _ e1) h1 h2 h3 (JT O.g.1 S h4)
      .cases h
    | If c a b p=>
      obtain⟨mc,e1,h⟩:=bind_eq h;obtain⟨ra,e2,rfl⟩:=map_eq h;refine PS.con (Jf (Sn.t _ _ _ _ e1 _ S).nox (R.b _ _ _ _ e2 _ _ L S) (OT (R:=R) λr q=>R.b _ _ _ _ q _ _ L S)) λD σ H q=>?_;obtain⟨μ,S0,G,C,S',hr,er,q,aft⟩:=q;obtain⟨b,S1,e1,q⟩:=bu q;refine⟨μ,S0,G,b,S1,hr,er,e1,λY0 H1 p1 k1 ZZ=>?_⟩;cases b with
      |true=>exact Pk ⟨Y0,S1,G,C,S',ZZ,er.mono k1 p1,q,aft.mono p1 k1⟩
      |false=>exact Qa ⟨Y0,S1,G,C,S',ZZ,er.mono k1 p1,q,aft.mono p1 k1⟩
    | Expr e p=>
      have h:(if jb e then(xc fu n).e T Z N ns e else none)=some r:=h
      split at h
      .rename_i hs
       exact PS.con (AH (R.e _ _ _ _ h _ _ L S) (oQ hs _ _ _)) λ_ _ _ q=>q
      .cases h
    | Return o p=>
      obtain⟨e,rfl,hx⟩:=bind_eq h;exact PS.con (E7 (R.e _ _ _ _ hx _ _ L S)) λ_ _ _ q=>q
    | Assign ts e p=>
      obtain⟨t,e1,hx⟩:=bind_eq h;clear h;obtain⟨x,e2,h⟩:=bind_eq hx;clear hx;cases Ed e1;obtain⟨p1,rfl⟩:=Af e2
      split at h
      .rename_i hs
       simp only[aq]at hs;obtain⟨i,hi⟩:=cq.mp hs.2;have hl:=S.lo hs.1.1;exact PS.con (zb (i:=i) (by have:=S.nd;have e:=S.hN;exact e▸this) (by have e:X.N=N:=S.hN;rw[e];exact slot_get hi) hl.1 (R.e _ _ _ _ h _ _ L S) (oQ hs.1.2 _ _ _) hl.2) λ_ _ _ q=>q
      .cases h
    |_=>cases h
   .simp only[xc]at h
    unfold xB at h
    split at h
    .cases h
    .rename_i st rest
     have two:∀(rs:MX) (ms:MS) (rr:MX),PS X st (tXS cl M.K rs E)->PS X st (tMS M.K ms)->PSs X rest (tXS cl M.K rr E)->PSs X (st::rest) (tXS cl M.K (rV rs ms rr) E):=by
      rintro rs ms rr h1 h2 h3 pins s σ H D I ⟨μ,S0,G,C,S',hr,er,q,aft⟩;unfold rV at q
      split at q
      .rename_i r e1
       cases q;exact(lK h1 (PSs.never (e:=rest))) pins s σ H D I ⟨μ,S0,G,C,S',hr,er,e1,aft⟩
      .split at q
       .rename_i Y5 S1 e2
        exact(lK h2 h3) pins s σ H D I ⟨μ,S0,G,_,hr,er,e2,λY0 Y7 H1 p1 k1 ZZ ZQ=>⟨Y0,S1,Y5,C,S',ZZ,ZQ,q,aft.mono p1 k1⟩⟩
       .cases q
     split at h
     .rename_i rs e1
      cases h;refine two _ _ _ (R.s _ _ _ _ e1 _ _ L S) ?_ (OT (R:=R) λr q=>R.b _ _ _ _ q _ _ L S);cases e2:cS T fu N ns st with
      |some ms=>exact(Sn.s _ _ _ _ e2 _ S).nox
      |none=>exact OD
     .obtain⟨ms,e1,h⟩:=bind_eq h
      obtain⟨rr,e2,rfl⟩:=map_eq h;refine two _ _ _ ?_ (Sn.s _ _ _ _ e1 _ S).nox (R.b _ _ _ _ e2 _ _ L S);rintro pins s σ H D I ⟨μ,S0,G,C,S',hr,er,q,aft⟩;cases q
end
section
variable {M:Mo}{cl:Nat->Addr}{T:Tb}{Z:Tx}{k:Nat}{h:Heap}{x:Str}{st:Stmt}{N ps:List Str}{r:MX}{fu n:Nat}
theorem Def.fnX(O:XOk M cl T Z k)(h0:M.mkr=none)(X:M.K.K.In h)(Gn:h.Ns mainGlobals M.mg)(D:Def M.K x st)(S:bw N ps (az st))
  (hb:Bd x st ps) (hc:(xc fu n).b T Z N (az st).names (bV st)=some r):FnX M cl x (k+1) ps (yi ps.length N.length r):=by
 obtain⟨f,fd,a,F⟩:=D.ex;refine⟨f,fd,cm X Gn a,F.2,F.binds hb,?_⟩;obtain⟨oc,od,kV,doc,pm,an,cdv,ct,osl,rfl,lk,Zs⟩:=F.ex;have len:∀vs H Q E,spX cl M.K (yi _ N.length r) vs H Q E->vs.length=ps.length:=λvs H Q E h=>by
  obtain⟨μ,S',us,u,YO,hr,rs,e,_⟩:=h;unfold yi at e
  split at e
  .rw[<-rs.len];omega
  .cases e
 refine _L.xM lk Zs S len λA outer s H vs Q E hr h=>⟨_,(Mq O n).b _ _ _ _ hc _ E ⟨rfl,rfl,rfl,rfl⟩ (Sc.def (E:=E) S hr λc q h=>by grind),?_⟩;obtain⟨μ,S1,us,C,S2,hR,rs,e,ka⟩:=h;unfold yi at e
 split at e
 .rename_i hl
  have er:=mn (N:=N) rs;rw[hl]at er;exact⟨μ,S1,_,C,S2,hR,er,e,ka⟩
 .cases e
end
end _G
namespace _G
open PySem PySem.Spec PySem.W _L
open PyProof.Rows hiding St
section
variable {prog:Program}{w:World}{A:Around}{E:Value->Shared->Prop}{K:Frag}{h:Heap}{g:Array GenState}{d:Drawn}{t:Nat}{os:OsState}{e C:Addr}{oe:Obj}
theorem JK{tp:Value}{R:Result->Shared->Prop}(X:K.In h)(he:h.get? e=some oe)(hc:oe.cls=.ref C)(hm:mroIn K C (.type "object")=some true)(q:R (.ok (.ret (.ref C))) ⟨h,g,d,t,os⟩) :
  pL (model prog w) A (.call (.builtin "getset_descriptor.__get__") ⟨[.builtin "object.__class__",.ref e,tp],[]⟩) R ⟨h,g,d,t,os⟩:=by
 have L1:=looks_mroIn (M:=model prog w) X hm;have ow:=PySem.F.owner_object_class;have T5:(⟨h,g,d,t,os⟩:Shared).TypeIs (.builtin "object.__class__") "getset_descriptor":=jB;refine codeAny_call_builtin PySem.F.slot_gs_get.plain PySem.F.entry_gs_get (PySem.F.slot_gs_get.check _ _ _ _ _ _ _ _ T5 (PySem.F.args_gs_get _ _ _) ?_)
 repeat (any_goals (first |assumption | (with_reducible refine jz he ?_;rw[hc]) | (rw[ow];with_reducible refine L1.at ?_) |with_reducible refine L1.at ?_ |wp_step))
 refine⟨Code.quiet_builtin _ (by decide +kernel),fA PySem.F.entry_object_class ?_⟩
 repeat (any_goals (first |assumption | (with_reducible refine jz he ?_;rw[hc]) |wp_step))
variable{tk:Tok}
theorem Fi{Q:Fin->Shared->Prop}(X:K.In h)(he:h.get? e=some oe)(hc:oe.cls=.ref C)(hm:mroIn K C (.type "object")=some true)(hf:findIn K (.ref C) "__class__"=some (some (.builtin "object.__class__")))(q:Q (.done (.ret (.ref C))) ⟨h,g,d,t,os⟩) :
  aN (model prog w) A (Builtin.«object.__getattribute__» ⟨[.ref e,.str "__class__" tk],[]⟩) Q E ⟨h,g,d,t,os⟩:=by
 have L1:=looks_findIn (M:=model prog w) X hf;have f5:(⟨h,g,d,t,os⟩:Shared).TypeIs (.builtin "object.__class__") "getset_descriptor":=jB;have f4:=jB;have f6:=PySem.F.slot_gs_get.lookup;have f7:=PySem.F.slot_gs_set.lookup
 repeat (any_goals (first |assumption | (with_reducible refine jz he ?_;rw[hc]) |with_reducible refine L1.at ?_ |wp_step))
 refine JK X he hc hm ?_
 repeat (any_goals (first |assumption |wp_step))
theorem DR{Xq:Value}{M:Model}{Q:Unit->Shared->Prop}(X:K.In h)(he:h.get? e=some oe)(hc:oe.cls=.ref C)(hb:mroIn K C (.type "BaseException")=some true)(q:Q () ⟨h,g,d,t,os⟩) :
  aN M A (checkBuiltinCall "BaseException.__getattribute__" ⟨[.ref e,Xq],[]⟩) Q E ⟨h,g,d,t,os⟩:=by
 have L1:=looks_mroIn (M:=M) X hb;have k1:builtinKind "BaseException.__getattribute__"=some .slot:=by decide +kernel
 have k2:splitId "BaseException.__getattribute__"=some ("BaseException","__getattribute__"):=by decide +kernel
 have ha:=PySem.F.args_bexc_ga (.ref e) Xq;simp only[checkBuiltinCall,k1,k2];refine ag ?_;unfold isInstance
 repeat (first | (with_reducible refine jz he ?_;rw[hc]) |with_reducible refine L1.at ?_ |wp_step)
 exact q
theorem NC{Q:Value->Shared->Prop}(X:K.In h)(he:h.get? e=some oe)(hc:oe.cls=.ref C)(hm:mroIn K C (.type "object")=some true)(hb:mroIn K C (.type "BaseException")=some true)(hf:findIn K (.ref C) "__class__"=some (some (.builtin "object.__class__")))
  (hg:findIn K (.ref C) "__getattribute__"=some (some (.builtin "BaseException.__getattribute__"))) (ha:findIn K (.ref C) "__getattr__"=some none) (q:Q (.ref C) ⟨h,g,d,t,os⟩) :
  aN (model prog w) A (getAttrBy (.ref e) (.str "__class__" tk) false) Q E ⟨h,g,d,t,os⟩:=by
 have L1:=looks_findIn (M:=model prog w) X hg;have L2:=looks_findIn (M:=model prog w) X ha;have f3:=PySem.F.excAttr_ValueError.ga.bind (.ref e);have x2:(qg "BaseException.__getattribute__" == qg "object.__getattribute__")=false:=by decide +kernel
 have x1:(onTheHeap (bW C)&&qg "BaseException.__getattribute__" == qg "object.__getattribute__")=false:=by rw [x2];rfl
 repeat (any_goals (first |assumption | (with_reducible refine jz he ?_;rw[hc]) |with_reducible refine L1.at ?_ |with_reducible refine L2.at ?_ |wp_step))
 refine codeAny_call_builtin PySem.F.excAttr_ValueError.ga.plain PySem.F.entry_bexc_ga (DR X he hc hb (Fi X he hc hm hf ?_))
 repeat (any_goals (first |assumption |wp_step))
theorem Hc{Q:Option Value->Shared->Prop}(X:K.In h)(he:h.get? e=some oe)(hc:oe.cls=.ref C)(hm:mroIn K C (.type "object")=some true)(hb:mroIn K C (.type "BaseException")=some true)(hf:findIn K (.ref C) "__class__"=some (some (.builtin "object.__class__")))
  (hg:findIn K (.ref C) "__getattribute__"=some (some (.builtin "BaseException.__getattribute__"))) (ha:findIn K (.ref C) "__getattr__"=some none) (q:Q (some (.ref C)) ⟨h,g,d,t+1,os⟩) :
  aN (model prog w) A (getAttr? (.ref e) "__class__") Q E ⟨h,g,d,t,os⟩:=by
 unfold getAttr? getAttrBy?
 repeat (any_goals (first |assumption |with_reducible apply NC X he hc hm hb hf hg ha |wp_step))
def Dv(K:Frag)(C:Addr):Bool:=(clsIn K C).isSome&&mroIn K C (.type "object")==some true&&mroIn K C (.type "BaseException")==some true&&findIn K (.ref C) "__class__" == some (some (.builtin "object.__class__")) &&
 findIn K (.ref C) "__getattribute__" == some (some (.builtin "BaseException.__getattribute__"))&&findIn K (.ref C) "__getattr__" == some none
theorem DV(hB:Dv K C=true):KitX K (.ref e) (.ref C) (λh=>∃oe,h.get? e=some oe/\oe.cls=.ref C):=by
 unfold Dv at hB;simp only[aq,beq_iff_eq]at hB;obtain⟨⟨⟨⟨⟨h0,h1⟩,h2⟩,h3⟩,h4⟩,h5⟩:=hB;obtain⟨cd,Zs⟩:=cq.mp h0;unfold clsIn at Zs
 split at Zs
 rotate_left
 .cases Zs
 rename_i c' d' cd' XF ho
 refine⟨λM h X p=>?_,λM h X p=>?_,λh tp dd ZY n sl X Rx=>?_,λ{prog w A E Q s} X p k=>?_⟩
 .obtain⟨oe,e1,e2⟩:=p
  exact e2▸(Looks.ld e1).andThen .now
 .intro A' Q' E' s' k q
  unfold isType loadHead;exact ag (wpAny_loadPart (k _ _ (X _ _ ho)) (aF q))
 .refine Bool.eq_false_iff.mpr λq=>?_
  have z:C=tp:=Value.ref.inj (beq_iff_eq.mp q);subst z;have:=(X _ _ ho).symm.trans Rx;cases this
 .obtain⟨oe,e1,e2⟩:=p
  obtain⟨h,g,d,t,os⟩:=s;exact Hc X e1 e2 h1 h2 h3 h4 h5 k
end
end _G
namespace _G
open PySem PySem.Spec _L
open PySem.W (envX kla_fn kla_obj CodeHd tabObj)
open PyProof.Rows hiding St
section
variable {X:Cx}{pins:List (Addr×Obj)}{σ:St}{H H':Hp}{s s':Shared}
theorem Ds{M:Model}{A:Around}{E:Value->Shared->Prop}{j:Nat}{n:Str}{pos:Pos}{Q:Unit->Shared->Prop}(I:Inv X pins σ H s)(hN:X.N.Nodup)(hj:X.N[j]?=some n)(hn:X.env.scope.names.lookup n=some .local)
  (h:∀s',Inv X pins (σ.set j none) H s'->Q () s'):aN M A (do bindName X.env n .none;unbindBehindTheSuite X.env n pos) Q E s:=by
 obtain⟨m,hm,hl⟩:=id I.loc;have Yi:(X.env.scope.kind==.class||(X.env.scope.kind==.module&&X.env.locals != X.env.globals))=false:=by rw[I.ok.kind];rfl
 refine wpAny_nameGoes_keeps hn hm Yi λh' v U7 hs=>h _ ?_;have below:∀b o,X.s₀.heap.get? b=some o->b≠X.env.locals:=λb o e=>aL (ak (aw e) I.ok.above);refine⟨I.ok,I.os,I.bare,⟨λb o e n hb hx=>(hs.2 b (below b o e)).trans (I.base.keep b o e n hb hx),λb o e n hb hx=>?_,I.base.free,λb o e hx=>?_,I.base.tups,I.base.frzs,I.base.tbls⟩,⟨_,U7,λi y w e1 e2 e3=>?_⟩,λy c e=>?_,I.free,I.freeC,λp hp=>?_,λb ob e=>?_,by simpa using I.len⟩
 .obtain⟨sl,e1⟩:=I.base.slot b o e n hb hx
  exact⟨sl,(hs.2 b (below b o e)).trans e1⟩
 .obtain⟨o',e1⟩:=I.base.there b o e hx
  exact⟨o',(hs.2 b (below b o e)).trans e1⟩
 .by_cases hi:i=j
  .rw[List.getElem?_set]at e2<;>simp_all
  .rw[aC (dj hi)]at e2
   obtain⟨u',r',q⟩:=hl i y w e1 e2 e3;refine⟨u',r',?_⟩;rcases q with⟨k,e⟩|⟨k,c,e,z⟩
   .refine .inl ⟨k,?_⟩
    have ZI:y≠n:=λe=>hi (rD hN e1 (e▸hj))<;>simp_all
   .exact .inr ⟨k,c,e,z.sameBut hs (I.cne y c e)⟩
 .obtain⟨w',z⟩:=I.cell y c e
  exact⟨w',z.sameBut hs (I.cne y c e)⟩
 .obtain⟨e,n,ne,nf,d⟩:=I.pin p hp
  exact⟨(hs.2 _ ne).trans e,n,ne,nf,d⟩
 .refine(I.hok b ob e).stay (λc w' hc q=>(hs.2 c ?_).trans q) (λ_ q=>q) λ_ _ q=>q
  rintro rfl;rcases hc with rfl|hc
  .rw[I.free]at e;cases e
  .rw[I.free]at hc;cases hc
abbrev Cx.mkd(X:Cx)(e:Value):Cx:={ X with A:=X.A.mark (some e),calm:=false,xe:=λ_ _=>False }
variable{e:Value}
theorem Inv.mkd(I:Inv X pins σ H s):Inv (Cx.mkd X e) pins σ H s:=
 ⟨⟨I.ok.mod,I.ok.kind,I.ok.glob,I.ok.blt,I.ok.above,I.ok.inj,I.ok.has,I.ok.cab,(λz=>nomatch z),I.ok.frames,I.ok.stk,I.ok.exf,I.ok.bs,I.ok.bsz,I.ok.noex,I.ok.exfs,I.ok.funs,I.ok.frf⟩,I.os,I.bare,I.base,I.loc,I.cell,I.free,I.freeC,I.pin,I.hok,I.len⟩
theorem Inv.unmkd(I:Inv (Cx.mkd X e) pins σ H s)(hd:X.calm=true->X.A.handled=none):Inv X pins σ H s:=
 ⟨⟨I.ok.mod,I.ok.kind,I.ok.glob,I.ok.blt,I.ok.above,I.ok.inj,I.ok.has,I.ok.cab,hd,I.ok.frames,I.ok.stk,I.ok.exf,I.ok.bs,I.ok.bsz,I.ok.noex,I.ok.exfs,I.ok.funs,I.ok.frf⟩,I.os,I.bare,I.base,I.loc,I.cell,I.free,I.freeC,I.pin,I.hok,I.len⟩
variable{a:Addr}{o:Obj}
theorem HOk.frz{P:Program}{w:World}{h:Heap}(x:HOk P w H h)(n:H a=none)(e:h.get? a=some o):HOk P w (upd H a (.frz o fz)) h:=λb u q=>by
 by_cases hb:b=a
 .subst hb
  rw[cb]at q;cases q;exact⟨e,trivial,⟨_,e⟩,λ_ _ _ _=>trivial⟩
 .rw[aX hb]at q
  exact(x b u q).stay (λ_ _ _ z=>z) (λc z=>by rw[aX (aW z n)];omega) λc xs z=>by rw[aX (aW z n)];omega
theorem Un.frz{fs:List Addr}{h h':Heap}(u:Un fs [] H H' h h')(hn:h.get? a=none)(n:H' a=none):Un fs [] H (upd H' a (.frz o fz)) h h' where
 keep:=u.keep
 slot:=u.slot
 free:=λb o q m hx=>by rw[aX (λz=>by grind)];exact u.free b o q m hx
 there:=u.there
 tups:=λb xs q=>by have:=u.tups b xs q;rw[aX (aW this n)];omega
 frzs:=λb ob xs q=>by have:=u.frzs b ob xs q;rw[aX (aW this n)];omega
 tbls:=λb ps q=>by obtain⟨m,e⟩:=u.tbls b ps q;exact⟨m,by rw[aX (aW e n)];omega⟩
end
end _G
namespace _G
open PySem PySem.Spec _L
open PyProof.Rows hiding St
section
variable {X:Cx}{pins:List (Addr×Obj)}{σ:St}{H H':Hp}{s s':Shared}
theorem HR.frz{K:KX}{μ:List Addr}{S:Sto}{a:Addr}{o:Obj}(h:HR K μ S H)(n:H a=none):bq H (upd H a (.frz o fz))/\HR K μ S (upd H a (.frz o fz)):=by
 have kp:bq H (upd H a (.frz o fz)):=bq.new n;refine⟨kp,h.len,h.inj,λm c x q1 q2=>(h.cell m c x q1 q2).mono kp (Pre.refl _) (λhc=>?_) λo' u e=>by rw[aX (aW e n)];omega,h.ext.upd kp (Pre.refl _) λo' q=>by grind⟩;obtain⟨ob,e,_⟩:=(h.cell m c x q1 q2).has hc;exact aX (aW e n)
theorem IL{E:Value->Shared->Prop}{Q:Value->Shared->Prop}{i:Nat}{x:Str}{g:Addr}{fd:FuncData}{p1 pos:Pos}(I:Inv X pins σ H s)(hN:X.N[i]?=some x)(hv:Vis X.env.scope x)(hp:bM x=true)(X3:σ[i]?=some (some (.ref g)))
  (hf:(∃(oc:Value) (od:Option Addr) (sl:Array (Option Value)),X.base.get? g=some ⟨oc,od,.func fd,sl⟩)\/cg X.K (.ref g)=true)
  (h:∀s1,Inv X pins σ H s1->aN (model X.prog X.w) X.A (call (.ref g) []) Q E s1):aN (model X.prog X.w) X.A (eval (.Call (.Name x p1) [] [] pos) X.env) Q E s:=by
 obtain⟨n1,n2⟩:=bU hp;refine dE (thn (rK (X:=X.wish E) hN hv n1 n2 _ s σ H (λv H1=>v=.ref g/\H1=H) (I.wish E) ⟨_,X3,rfl,rfl⟩) λw s1 ⟨v,H1,I1,r1,e1,e2⟩=>?_);subst e1;subst e2;obtain rfl:w=bW g:=r1;have I1:=I1.unwish;rcases hf with⟨oc,od,sl,hf⟩ |hf
 .exact Cw rfl (λh q=>⟨_,.inl rfl,(oV q).andThen .now⟩) (evalArgs_nil3 ⟨I1.bk g _ hf,h s1 I1⟩)
 .exact Cu I1.kIn hf (h s1 I1)
end
def Px(cl:Nat->Addr)(K:KX)(i j l:Nat)(g:Addr)(φ:MF)(ψ:RF):TS:=λD σ H=>∃μ S G,HR K μ S H/\ER H μ G σ/\G[i]?=some (some (.obj g))/\G[j]?=some none /\
 ((∃u S1,φ [] S=some (u,S1) /\ ∀Y6 Y3 H',Pre μ Y6->bq H H'->HR K Y6 S1 H'->ER H' Y6 G Y3->D.nx Y3 H') \/
  ∃q S1,ψ [] S=some (q,S1) /\ ∀e oe Y6 Y3 H',Pre μ Y6->bq H H'->HR K Y6 S1 H'->ER H' Y6 (G.set l (some (.obj e))) Y3->H' e=some (.frz oe fz)->oe.cls = .ref (cl q)->D.nx Y3 H')
section
variable {M:Mo}{X:Cx}{k:Nat}{N:List Str}{ns:List (Str×NameKind)}{x n y W:Str}{p1 p2 p3 p4 p5 p6 p7 p8 p9:Pos}
theorem Ka{cl:Nat->Addr}{φ:MF}{ψ:RF}{g w:Addr}{k' i j l:Nat}(S:Sc M X k N ns)(stk:X.stack=X.env::X.outer)(fr:X.env.frame=some X.env.locals)(F:Lam M g k' [] φ)(F':yd M cl g k' [] ψ)(hk:k'<=k)
  (hi:N[i]?=some x) (hx:nK ns x=true) (hp:bM x=true) (hj:N[j]?=some n) (hn:ns.lookup n=some .local) (S9:bM n=true) (hl:N[l]?=some y) (hy:ly ns y=true) (U9:j≠l) (hW:eg ns W=true) (R6:bM W=true) (hw:M.mg W=some (.ref w))
  (hm:∀S q S1,ψ [] S=some (q,S1)->wu M.K (.ref (cl q)) (.ref w)=some true):
  PS X (.Try [.Expr (.Call (.Name x p1) [] [] p2) p3] [.ExceptHandler (some (.Name W p4)) (some n) [.Assign [.Name y p5] (.Name n p6) p7] p8] [] [] p9) (Px cl M.K i j l g φ ψ):=by
 intro pins s σ H D I h;obtain⟨μ,S0,G,hr,er,X6,Z4,h⟩:=h;obtain⟨v,X3,rv⟩:=er.get i _ X6;have Vj:=by simpa only [RU]using rv
 subst Vj;have TL:X.N[i]?=some x:=by rw[S.hN];exact hi
 refine wpAny_Try_except (zP (wpAny_Expr_any ?_ I.quiet rfl));rcases h with⟨u,S1,Wj,kk⟩|⟨q,S1,Vn,kk⟩
 .obtain⟨fd,hf,hb,F⟩:=F.ex
  rw[<-S.hP,<-S.hw,<-S.hK,<-S.hm,<-S.hb]at F;rw[<-S.hb,<-S.hK]at hf;rw[<-S.hK]at hb;refine IL I TL (S.vis hx) hp X3 hf λs1 I1=>?_;refine thn (bE (qQ (X:=X.nox) F (S.room.mono hk) hb .nil uM (I1.wish _) .nil (⟨μ,S0,[],u,S1,hr,.nil,Wj,λY6 v H' p k Zd _=>kk Y6 σ H' p k Zd (er.mono k p)⟩)) (λ_ _ z=>z) λ_ _ z=>z.elim) λu s2 ⟨v,H2,I2,r2,q2⟩=>?_;exact iT (iT ⟨σ,H2,I2.unwish,q2⟩)
 .obtain⟨fd,hf,hb,F'⟩:=F'.ex
  rw[<-S.hP,<-S.hw,<-S.hK,<-S.hm,<-S.hb]at F';rw[<-S.hb,<-S.hK]at hf;rw[<-S.hK]at hb;have hM:=hm _ _ _ Vn;refine IL I TL (S.vis hx) hp X3 hf λs1 I1=>?_;have Zh:spX cl _ ψ [] H (λ_ _=>False) (λc _ H'=>c=.ref _ /\ ∃Y6,Pre μ Y6/\bq H H'/\HR _ Y6 S1 H'):=⟨μ,S0,[],q,S1,hr,.nil,Vn,λY6 H' p k Zd=>⟨rfl,_,p,k,Zd⟩⟩;refine Fw (ij (F'.run _ _ s1 H _ [] [] _ _ (S.room.mono hk) I1.env0 (hb s1 [] I1.kIn (by simpa using this)) .nil Zh) λr s2 hq=>?_);cases r with
  | ok fl=>
    cases fl with
    |ret u=>obtain⟨_,_,_,_,_,_,_,z⟩:=hq;exact z.elim
    |next=>exact bK hq
    |brk=>exact bK hq
    |cont=>exact bK hq
  | error ev=>
    obtain⟨e,T,cls,H',rfl,os,hg,un,hok,t,he,hT,ne,nT,rfl,Y6,pr,kp,Zd⟩:=hq;have I2:=I1.call' os un hok hg λb z=>nomatch z
    have fS:X.A.frames=some (X.env::X.outer):=by rw[I.ok.frames,stk]
    obtain⟨a0,fl⟩:=flying I2 t;rw[show nr _ _ e _ a0 _=nr _ (X.env::X.outer) e _ a0 _ by rw[<-stk]]at fl;refine wpAny_looks_onW fS fr fl λh3 Rz Qs=>wpAny_landsW Rz λh4 Up Qy=>?_;have VP:=Qs.trans Qy;have Sj:=wg I2 Up.1 VP;have I4:=I1.call' (s':={ s2 with heap:=h4 }) os (Sj.un un he hT) (Sj.hok hok I2.stkFree ne nT) hg λb z=>nomatch z
    refine wpAny_handleBy_cons (codeAny_handlers_test (je (Inv.mkd I4) (S.gl hW) (by rw[S.hm];exact hw) ?_ (bU R6).1)) (by intro z;cases z);obtain⟨ob,Q0,Vi⟩:=Up.there;have kin:=by have:=I4.kIn;rw[S.hK]at this;exact this
    refine(PySem.W.exm_one kin (Vi▸(oV Q0).andThen .now) hM).here ?_;refine codeAny_handlers_suite_as (lands_againW Up λh6 Th Qq=>?_);have UI:=VP.trans Qq;have RY:=wg I2 Th.1 UI;obtain⟨oe,e1,e2⟩:=Th.there;have I6:=I1.call' (s':={ s2 with heap:=h6 }) os (Un.frz (RY.un un he hT) he ne) (HOk.frz (RY.hok hok I2.stkFree ne nT) ne e1) hg λb z=>nomatch z
    obtain⟨Sb,Qp⟩:=HR.frz Zd ne;have ndN:X.N.Nodup:=by rw[S.hN];exact S.nd
    have VG:X.N[j]?=some n:=by rw[S.hN];exact hj
    have Sh:X.N[l]?=some y:=by rw[S.hN];exact hl
    have VE:=S.loc n hn;refine j7 I6 ndN VG (.inl VE) (v:= .ref e) rfl (λs7 I7=>?_) (.inr VE);have Ue:j<σ.length:=by rw[I.len];exact(ah.mp VG).1
    have ps:=z0 (zb (X:=Cx.mkd X (.ref e)) (pos:=p7) (pos':=p5) ndN Sh (S.lo hy).1 (rK (pos:=p6) VG (.inl VE) (bU S9).1 (bU S9).2) rfl (S.lo hy).2);refine bE (ps _ s7 _ _ { nx:=λY3 Xn=>Y3=(σ.set j _).set l _/\Xn=upd H' e _,rt:=λ_ _=>False } (Inv.mkd I7) ⟨_,aM Ue,rfl,rfl⟩) (λf s8 hs=>?_) λ_ _ z=>z.elim;cases f with
    |ret u=>obtain⟨_,_,_,_,_,z⟩:=hs;exact z.elim
    |brk=>obtain⟨_,_,_,z⟩:=hs;exact z.elim
    |cont=>obtain⟨_,_,_,z⟩:=hs;exact z.elim
    | next=>
      obtain⟨Y3,Xn,I8,rfl,rfl⟩:=hs;have RR:=Inv.unmkd I8 I.ok.hd;refine Ds RR ndN VG VE λs9 I9=>⟨_,_,I9,?_⟩;refine kk e oe _ _ _ pr (kp.trans Sb) Qp ⟨by simp[er.len],λm u hu=>?_⟩ cb e2;have er6:=er.mono (kp.trans Sb) pr;have V7:l<σ.length:=by rw[I.len];exact(ah.mp Sh).1
      by_cases XD:m=l
      .subst XD
       rw[aM (by rw[er.len];exact V7)]at hu;cases hu;refine⟨.ref e,?_,by simp[RU]⟩;rw[aC U9,aM (by simpa using V7)]
      .rw[aC (dj XD)]at hu
       have Vy:m≠j:=λz=>by rw[z,Z4]at hu;cases hu
       obtain⟨v,h1,h2⟩:=er6.get m u hu;refine⟨v,?_,h2⟩;rw[aC (dj Vy),aC (dj XD),aC (dj Vy)];exact h1
end
def cn:List Str := ["TooMany","NotLevel","NoLift","NotPlain","NoName","BadNote","NoTwist"]
structure xQ(K:aj)(mg:Str->Option Value)(cl:Nat->Addr)(w:Addr)(rz:List Nat):Prop where
 c:∀j t,cn[j]?=some t->mg t=some (.ref (cl j))
 W:mg "WalkError"=some (.ref w)
 V:mg "ValueError"=none
 n :∀ j,j<7->cM K (.type "NoneType") (.ref (cl j))=some false
 nV:cM K (.type "NoneType") (.type "ValueError")=some false
 lt:∀q∈rz,q<7
 x:∀q∈rz,Dv K (cl q)=true
 m:∀q∈rz,wu K (.ref (cl q)) (.ref w)=some true
 k:∀q∈rz,∀j,j<7->cM K (.ref (cl q)) (.ref (cl j))=some (decide (q=j))
 kV :∀ q∈rz,cM K (.ref (cl q)) (.type "ValueError")=some true
def mIs(u:U)(b:Bool):ME:=λG S=>open Classical in if G[1]?=some (some u) then some (.bl b,S) else none
def PP(L a b c:Nat):Pos:=⟨L+a,b,L+a,c⟩
def isi(L a b:Nat)(t:Str)(n:Nat):Expr := .Call (.Name "isinstance" (PP L a b (b+10))) [.Name "error" (PP L a (b+11) (b+16)),.Name t (PP L a (b+18) (b+18+n))] [] (PP L a b (b+19+n))
def zd(K:KX)(u:U)(t:Value):Prop:=(u=.non/\t=.type "NoneType") \/ ∃ e oe C,u=.obj e/\t=.ref C/\(e,oe)∈K.cds/\oe.cls=.ref C/\Dv K.K C=true
section
variable {M:Mo}{X:Cx}{k:Nat}{N:List Str}{ns:List (Str×NameKind)}
variable{b:Bool}
theorem KB{pins:List (Addr×Obj)}{σ:St}{H:Hp}{s:Shared}{E:Value->Shared->Prop}{u:U}{t c:Value}{v:V}{x:Value}{Q:VK}{μ:List Addr}{S:Sto}(I:Inv X pins σ H s)(hK:X.K=M.K.K)(hr:HR M.K μ S H)(ok:zd M.K u t)(ru:RU H μ u v)(rv:RelV v x)(e:cM M.K t c=some b)(q:Q (.bl b) H):
  aN (model X.prog X.w) X.A (call (.builtin "isinstance") [x,c]) (EP X pins σ Q) E s:=by
 have kin:M.K.K.In s.heap:=by rw[<-hK];exact I.kIn
 rcases ok with⟨rfl,rfl⟩|⟨ea,oe,C,rfl,rfl,hm,hc,hB⟩
 .have hv:=by simpa only [RU]using ru
  subst hv;obtain rfl:x=cN:=rv;exact PySem.W.kia_one PySem.W.kitx_none kin trivial e (by grind) λtk=>⟨.bl b,H,I.tok tk,rfl,q⟩
 .have hv:=by simpa only [RU]using ru
  subst hv;obtain rfl:x=bW ea:=rv;exact PySem.W.kia_one (DV hB) kin ⟨oe,(I.hok ea _ (hr.ext.cds _ hm)).1,hc⟩ e (by grind) λtk=>⟨.bl b,H,I.tok tk,rfl,q⟩
theorem Jo{u:U}{t c:Value}{L a bb n:Nat}{y:Str}(S:Sc M X k N ns)(ok:zd M.K u t)(h1:N[1]?=some ("error":Str))(hv:nK ns "error"=true)(hg:eg ns "isinstance"=true)(hm:M.mg "isinstance"=none)(hy:eg ns y=true)(hp:bM y=true)
  (hc:M.mg y=some c\/(M.mg y=none/\bootBuiltins y=some c/\y≠"__name__")) (e:cM M.K t c=some b):PE X (isi L a bb y n) (tM M.K (mIs u b)):=by
 rintro pins s σ H Q I ⟨μ,S0,G,w,S',hr,er,q,aft⟩;unfold mIs at q
 split at q
 rotate_left
 .cases q
 rename_i X6
 cases q;obtain⟨v,X3,ru⟩:=er.get 1 _ X6;have h1N:X.N[1]?=some ("error":Str):=by rw [S.hN];omega
 refine dE (kG I (S.gl hg) (by rw[S.hm];omega) boot_isinstance ?_ (by decide) (by decide));refine callWith_builtin1 ?_ rfl rfl;refine d6 (thn (rK h1N (S.vis hv) (by decide +kernel) (by decide +kernel) _ s σ H (λv' H1=>v'=v/\H1=H) I ⟨_,X3,rfl,rfl⟩) λx s1 ⟨v',H1,I1,r1,e1,e2⟩=>?_);subst e1;subst e2;have fin:aN _ _ _ _ X.xe s1:=KB I1 S.hK hr ok ru r1 e (aft μ _ H1 (Pre.refl _) (bq.refl _) hr j6);rcases hc with hc | ⟨hc,hb,hn⟩
 .exact d6 (je I1 (S.gl hy) (by rw[S.hm];omega) (gg fin) (bU hp).1)
 .exact d6 (kG I1 (S.gl hy) (by rw[S.hm];omega) hb (gg fin) hn (bU hp).1)
end
def mJ(L:Nat)(z:Stmt):List Stmt:= [
 .Assign [.Name "error" (PP L 1 4 9)] (.Constant .none 0 (PP L 1 12 16)) (PP L 1 4 16),
 .Try [.Expr (.Call (.Name "call" (PP L 3 8 12)) [] [] (PP L 3 8 14)) (PP L 3 8 14)] [.ExceptHandler (some (.Name "WalkError" (PP L 4 11 20))) (some "e") [.Assign [.Name "error" (PP L 5 8 13)] (.Name "e" (PP L 5 16 17)) (PP L 5 8 17)] ⟨L+4,4,L+5,17⟩] [] [] ⟨L+2,4,L+5,17⟩,
 .Assign [.Name "kinds" (PP L 6 4 9)] (.List [isi L 6 13 "TooMany" 7,isi L 6 41 "NotLevel" 8,isi L 6 70 "NoLift" 6] (PP L 6 12 96)) (PP L 6 4 96),
 .Assign [.Name "kinds" (PP L 7 4 9)] (.BinOp (.Name "kinds" (PP L 7 12 17)) .Add (.List [isi L 7 21 "NotPlain" 8,isi L 7 50 "NoName" 6,isi L 7 77 "BadNote" 7] (PP L 7 20 104)) (PP L 7 12 104)) (PP L 7 4 104),
 .Expr (.Call (.Attribute (.Name "kinds" (PP L 8 4 9)) "append" (PP L 8 4 16)) [isi L 8 17 "NoTwist" 7] [] (PP L 8 4 44)) (PP L 8 4 44),
 .If (.UnaryOp .Not (isi L 9 11 "ValueError" 10) (PP L 9 7 40)) [.Return (some (.Constant .none 0 (PP L 10 15 19))) (PP L 10 8 19)] [] ⟨L+9,4,L+10,19⟩,
 z]
def mzR:MS:=dS (cy (iR1 (aa (mC (.int 7)) ai)) (cOf (m2 oIx (ae 3) (ae 4))) (ae 4))
def tlR(u:U)(b:Nat->Bool):MS:=
 bh (bD 3 (b9 (aa (mIs u (b 0)) (aa (mIs u (b 1)) (aa (mIs u (b 2)) ai)))))
 (bh (bD 3 (m2 dc (ae 3) (b9 (aa (mIs u (b 3)) (aa (mIs u (b 4)) (aa (mIs u (b 5)) ai))))))
 (bh (d7 (mML bZ (ae 3) (aa (mIs u (b 6)) ai)))
 (bh (sIf (yZ (cOf (mIs u (b 7)))) (dS (mC .non)) dF) mzR)))
def uu(ns:NS):Bool:=ly ns "error"&&ly ns "kinds"&&nK ns "call"&&ns.lookup ("e":Str)==some .local&&eg ns "isinstance"&&eg ns "ValueError"&&eg ns "WalkError"&&cn.all (eg ns)
def qh:List Str := ["call","error","e","kinds"]
theorem vQ{ns:NS}{x:Str}(h:ly ns x=true):nK ns x=true:=by
 unfold ly at h;unfold nK
 split at h<;>rename_i e<;>first | (cases h;done) |rw[e]
section
variable {M:Mo}{X:Cx}{k:Nat}{ns:List (Str×NameKind)}
theorem Ap{u:U}{t:Value}{b:Nat->Bool}{c:Nat->Value}{L:Nat}{z:Stmt}{cl:Nat->Addr}{w:Addr}{rz:List Nat}(S:Sc M X k qh ns)(Yo:uu ns=true)(B :∀ x∈jr,M.mg x=none)(Rk:xQ M.K.K M.mg cl w rz)(ok:zd M.K u t)(hb :∀ j,j<7->cM M.K t (.ref (cl j))=some (b j))(hV:cM M.K t (.type "ValueError")=some (b 7))
  (hz:PS X z (tMS M.K mzR)):PSs X ((mJ L z).drop 2) (tMS M.K (tlR u b)):=by
 unfold uu at Yo;simp at Yo;obtain⟨⟨⟨⟨⟨⟨⟨h1,h2⟩,h3⟩,h4⟩,h5⟩,h6⟩,h7⟩,h8⟩:=Yo;have TR:M.mg "isinstance"=none:=B _ (by decide +kernel);have is:∀(j a bb n:Nat) (y:Str),cn[j]?=some y->PE X (isi L a bb y n) _:=λj a bb n y hj=>by
  have ZU:=(ah.mp hj).1;have hm:=bG hj;have hp:=by
   have:∀y∈cn,bM y=true:=by decide +kernel
   exact this y hm
  exact Jo S ok rfl (vQ h1) h5 TR (h8 y hm) hp (.inl (Rk.c j y hj)) (hb j ZU)
 have kv:∀pos,PE X (.Name _ pos) _:=λpos=>Ir S 3 rfl (vQ h2) (by decide +kernel) (by decide +kernel);refine xY (yb S 3 rfl h2 (EA (lu (is 0 _ _ _ _ rfl) (lu (is 1 _ _ _ _ rfl) (lu (is 2 _ _ _ _ rfl) AD))))) ?_;refine xY (yb S 3 rfl h2 (IA S (kv _) (EA (lu (is 3 _ _ _ _ rfl) (lu (is 4 _ _ _ _ rfl) (lu (is 5 _ _ _ _ rfl) AD)))))) ?_;refine xY (CM (wU S (kv _) (lu (is 6 _ _ _ _ rfl) AD) rfl rfl (by show((L+8)==(L+8))=true;simp) rfl rfl)) ?_;refine xY (NZ (Iu (Jl (Jo S ok rfl (vQ h1) h5 TR h6 (by decide +kernel) (.inr ⟨Rk.V,by decide +kernel,by decide +kernel⟩) hV))) (DQ (IY DK)) Il) (DQ hz)
end
variable{u:U}{S:Sto}
theorem zD{b:Bool}{G:Rho}(h:G[1]?=some (some u)):mIs u b G S=some (.bl b,S):=by
 unfold mIs;rw[if_pos h]
variable{x y:Option U}{b:Nat->Bool}
theorem AB:tlR u b [x,some u,y,none] S =
  (bh (sIf (yZ (cOf (mIs u (b 7)))) (dS (mC .non)) dF) mzR) [x,some u,y,some (.ref (S.length+2))] (S++iS b):=by
 have i0:∀(v:Option U) (c:Bool) (S:Sto),mIs u c [x,some u,y,v] S=some _:=λv c S=>zD rfl;have e1:bD 3 (b9 (aa (mIs u (b 0)) (aa (mIs u (b 1)) (aa (mIs u (b 2)) ai)))) [x,some u,y,none] S=some (.nx,[x,some u,y,some (.ref S.length)],S++[kL b [0,1,2]]):=by
  simp[bD,b9,aa,i0];rfl
 have g1:(S++[kL b [0,1,2],kL b [3,4,5]])[S.length]?=some (kL b [0,1,2]):=by simp
 have g2:(S++[kL b [0,1,2],kL b [3,4,5]])[S.length+1]?=some (kL b [3,4,5]):=by simp
 have e2:bD 3 (m2 dc (ae 3) (b9 (aa (mIs u (b 3)) (aa (mIs u (b 4)) (aa (mIs u (b 5)) ai))))) [x,some u,y,some (.ref S.length)] (S++[kL b [0,1,2]])=some (.nx,[x,some u,y,some (.ref (S.length+2))],S++[kL b [0,1,2],kL b [3,4,5],kL b [0,1,2,3,4,5]]):=by
  have a0:b9 (aa (mIs u (b 3)) (aa (mIs u (b 4)) (aa (mIs u (b 5)) ai))) [x,some u,y,some (.ref S.length)] (S++[kL b [0,1,2]])=some (.ref (S.length+1),S++[kL b [0,1,2],kL b [3,4,5]]):=by
   simp only[b9,aa,ai,i0,aB];rw[if_pos (by simp[big])];simp[kL]
  have v0:∀S',ae 3 [x,some u,y,some (.ref S.length)] S'=some _:=λS'=>rfl;have a1:dc (.ref S.length) (.ref (S.length+1)) (S++[kL b [0,1,2],kL b [3,4,5]])=some (.ref (S.length+2),S++[kL b [0,1,2],kL b [3,4,5],kL b [0,1,2,3,4,5]]):=by
   unfold dc;simp only[g1,g2];simp only[kL];rw[if_pos (by simp[big])];simp
  simp only[bD,m2,v0,aB,a0,a1];rfl
 have g3:(S++[kL b [0,1,2],kL b [3,4,5],kL b [0,1,2,3,4,5]])[S.length+2]?=some (kL b [0,1,2,3,4,5]):=by simp
 have e3:d7 (mML bZ (ae 3) (aa (mIs u (b 6)) ai)) [x,some u,y,some (.ref (S.length+2))] (S++[kL b [0,1,2],kL b [3,4,5],kL b [0,1,2,3,4,5]])=some (.nx,[x,some u,y,some (.ref (S.length+2))],S++iS b):=by
  have v0:∀S',ae 3 [x,some u,y,some (.ref (S.length+2))] S'=some _:=λS'=>rfl;have gl:getL (S++[kL b [0,1,2],kL b [3,4,5],kL b [0,1,2,3,4,5]]) (S.length+2)=some ([0,1,2,3,4,5].map λi=>.bl (b i)):=by
   unfold getL;rw[g3];rfl
  have a1:bZ (S.length+2) [.bl (b 6)] (S++[kL b [0,1,2],kL b [3,4,5],kL b [0,1,2,3,4,5]])=some (.non,S++iS b):=by
   unfold bZ;simp only[g3];simp only[kL];rw[eZ _ _ (by omega)];have:S.length+2-S.length=2:=by omega
   rw[this];rfl
  simp only[d7,mML,v0,aB,gl,aG,aa,ai,i0,a1]
 unfold tlR;rw[show ∀(a b:MS) (G:Rho) (S:Sto),bh a b G S=(match a G S with |some (.nx,Y5,S1)=>b _ S1 |r=>r) from λ_ _ _ _=>rfl,e1];simp;rw[show ∀(a b:MS) (G:Rho) (S:Sto),bh a b G S=(match a G S with |some (.nx,Y5,S1)=>b _ S1 |r=>r) from λ_ _ _ _=>rfl,e2];simp;rw[show ∀(a b:MS) (G:Rho) (S:Sto),bh a b G S=(match a G S with |some (.nx,Y5,S1)=>b _ S1 |r=>r) from λ_ _ _ _=>rfl,e3]
theorem Gx(hb:b 7=false):tlR u b [x,some u,y,none] S=some (.rt .non,[x,some u,y,some (.ref (S.length+2))],S++iS b):=by
 rw[AB];simp[bh,sIf,yZ,cOf,zD _,hb];rfl
theorem P4:okR 7:=by unfold okR;omega
theorem HS{q:Nat}(hq:q<7):∃Y4,tlR u (bQ q) [x,some u,y,none] S=some (.rt (.ref (S.length+3)),Y4,S++(iS (bQ q)++[.lst [.int q]])):=by
 rw[AB];have h7:bQ q 7=true:=by unfold bQ;simp
 simp only[bh,sIf,yZ,cOf,zD (show([x,some u,y,some _]:Rho)[1]?=some _ from rfl),aB,h7,Bool.not_true,eR,if_false,dF];refine⟨[x,some u,y,some (.ref (S.length+2))],?_⟩;unfold mzR dS cy;have hi:iR1 (aa (mC (.int 7)) ai) [x,some u,y,some (.ref (S.length+2))] (S++iS (bQ q))=some (.imm (bx 0 7),S++iS (bQ q)):=by
  simp only[iR1,aa,mC,ai,aB];rw[if_pos P4];rfl
 have g3:(S++iS (bQ q))[S.length+2]?=some (kL (bQ q) [0,1,2,3,4,5,6]):=by simp[iS]
 have gi:∀i:Nat,i<7->cOf (m2 oIx (ae 3) (ae 4)) [x,some u,y,some (.ref (S.length+2)),some (.int i)] (S++iS (bQ q))=some (bQ q i,S++iS (bQ q)):=λi hi=>by
  have v3:∀S',ae 3 [x,some u,y,some (.ref (S.length+2)),some (.int i)] S'=some _:=λS'=>rfl;have v4:∀S',ae 4 [x,some u,y,some (.ref (S.length+2)),some (.int i)] S'=some _:=λS'=>rfl;have d0:fJ (S++iS (bQ q)) (.ref (S.length+2))=none:=by
   simp only[fJ,g3,kL]
  have s0:eh (S++iS (bQ q)) (.ref (S.length+2))=some ([0,1,2,3,4,5,6].map λi=>.bl (bQ q i)):=by
   simp only[eh,getL,g3,kL]
  have a0:_L.atI ([0,1,2,3,4,5,6].map λi=>U.bl (bQ q i)) i=some (.bl (bQ q i)):=by
   have:i=0\/i=1\/i=2\/i=3\/i=4\/i=5\/i=6:=by omega
   rcases this with rfl|rfl|rfl|rfl|rfl|rfl|rfl<;>rfl
  simp only[cOf,m2,v3,v4,aB,oIx,d0,s0,aG,a0,cP]
 have v4:∀(i:Nat) S',ae 4 [x,some u,y,some (.ref (S.length+2)),some (.int i)] S'=some _:=λi S'=>rfl;have key:∀(is:List Nat) (acc:List U),(∀i∈is,i<7)->fR (cOf (m2 oIx (ae 3) (ae 4))) (ae 4) [x,some u,y,some (.ref (S.length+2))] (is.map λ(i:Nat)=>.int i) acc (S++iS (bQ q))=some (acc++(is.filter (bQ q)).map (λi=>.int i),S++iS (bQ q)):=by
  intro is
  induction is with
  |nil=>intro acc _;simp[fR]
  | cons i is ih=>
    intro acc h;have hi:=h i aT;have SQ:=λacc=>ih acc λj hj=>h j (av _ hj);rw[dH];unfold fR;rw[show([x,some u,y,some _]:Rho)++[some _]=[x,some u,y,some _,some _] from rfl,gi i hi];simp only[aB];cases hb:bQ q i with
    | true=>
      rw[v4];simp only[aB];rw[SQ];simp[hb]
    | false=>
      rw[SQ];simp[hb]
 have hr:bx 0 7=([0,1,2,3,4,5,6]).map λ(i:Nat)=>.int i:=rfl;have hf:([0,1,2,3,4,5,6]).filter (bQ q)=[q]:=by
  have:q=0\/q=1\/q=2\/q=3\/q=4\/q=5\/q=6:=by omega
  rcases this with rfl|rfl|rfl|rfl|rfl|rfl|rfl<;>decide
 have hc:uH (cOf (m2 oIx (ae 3) (ae 4))) (ae 4) [x,some u,y,some (.ref (S.length+2))] (.imm (bx 0 7)) (S++iS (bQ q))=some ([.int q],S++iS (bQ q)):=by
  unfold uH;simp only[hr,key _ _ (show ∀i∈([0,1,2,3,4,5,6]),i<7 by decide),hf];rfl
 simp only[hi,aB,hc];simp[iS];rfl
section
variable {M:Mo}{cl:Nat->Addr}{T:Tb}{k fu L:Nat}{h:Heap}{x:Str}{st z:Stmt}{w:Addr}{rz:List Nat}
theorem Def.fnRef(O :∀ caps capv cds base,fQ M.mg base->TOk (M.to caps capv cds base) T k)(h1:T.mkr=false)(X:M.K.K.In h)(Gn:h.Ns mainGlobals M.mg)(D:Def M.K x st)(S:bw qh ["call"] (az st))(hb:Bd x st ["call"])
  (Yo:uu (az st).names=true) (Zn:bV st=mJ L z) (hz:cS T fu qh (az st).names z=some mzR) (Rk:xQ M.K.K M.mg cl w rz):FnR M cl x k 1 (qM rz):=by
 obtain⟨f,fd,a,F⟩:=D.ex;refine⟨f,fd,cm X Gn a,F.2,F.binds hb,λcaps capv cds base g j φ ψ Zj Uy lam Xj=>?_⟩;have len:∀vs H Q E,spM (M.K.to caps capv cds) (Bg (qM rz) g φ ψ) vs H Q E->vs.length=1:=λvs H Q E hh=>by
  obtain⟨μ,S',us,u,YO,hr,rs,e,_⟩:=hh;unfold Bg at e
  split at e
  .rw[<-rs.len];rfl
  .cases e
 have lx:yd (M.to caps capv cds base) cl g j [] λus S=>(ψ us S).filter λr=>decide (r.1∈rz):=Xj.imp λus S q hq=>(km.mp hq).1;have WQ:=Yo;unfold uu at WQ;simp only[aq]at WQ;obtain⟨⟨⟨⟨⟨⟨⟨n1,n2⟩,n3⟩,n4⟩,n5⟩,n6⟩,n7⟩,n8⟩:=WQ;refine Fun.ok (K:=M.K.K) F S (λvs H Q E hh=>len vs H Q E hh) λcdv A outer s H vs Q E hr hh=>?_;have S0:∀YG,Sc (M.to caps capv YG base) (rN CX0 M.P M.w M.K M.mg base qh x (az st) f cdv A outer s H E).nox j qh (az st).names:=λYG=>Sc.def (M:=M.to caps capv YG base) S hr λc q z=>nomatch z
 have Ss:∀YG,PS (rN CX0 M.P M.w M.K M.mg base qh x (az st) f cdv A outer s H E).nox z (tMS (M.K.to caps capv YG) mzR):=λYG=>(snd fu (M.to caps capv YG base) T j (.of ((O caps capv YG base Zj).mono Uy) h1)).s _ _ _ _ hz _ (S0 YG);have B:∀y∈jr,M.mg y=none:=λy hy=>(O caps capv cds base Zj).B y hy;have hf :∀ j',j'<7->cM M.K.K (.type "NoneType") (.ref (cl j'))=some ((fun _=>false) j'):=fun j' hj=>Rk.n j' hj;have QX:=Ap (M:=M.to caps capv cds base) (L:=L) (z:=z) (c:=λ_=>.none) (S0 cds) Yo B Rk (u:= .non) (.inl ⟨rfl,rfl⟩) hf Rk.nV (Ss cds);have R0:∀e oe q,q∈rz->oe.cls=.ref (cl q)->PSs (rN CX0 M.P M.w M.K M.mg base qh x (az st) f cdv A outer s H E).nox ((mJ L z).drop 2) (tMS (M.K.to caps capv (cds++[(e,oe)])) (tlR (.obj e) (bQ q))):=λe oe q hq hc=>by
  refine Ap (M:=M.to caps capv (cds++[(e,oe)]) base) (L:=L) (z:=z) (c:=λ_=>.none) (S0 _) Yo B Rk (.inr ⟨e,oe,cl q,rfl,rfl,aJ _ aT,hc,Rk.x q hq⟩) (λj' hj=>?_) ?_ (Ss _)
  .rw[show bQ q j'=decide (q=j') by unfold bQ;rw[show decide (j'=7)=false from decide_eq_false (by omega)];simp]
   exact Rk.k q hq j' hj
  .rw[show bQ q 7=true by unfold bQ;simp]
   exact Rk.kV q hq
 have pT:=Ka (M:=M.to caps capv cds base) (cl:=cl) (S0 cds) rfl rfl lam lx (ao j) (i:=0) (x:="call") (j:=2) (n:="e") (l:=1) (y:="error") (W:="WalkError") (w:=w) (p1:=PP L 3 8 12) (p2:=PP L 3 8 14) (p3:=PP L 3 8 14) (p4:=PP L 4 11 20) (p5:=PP L 5 8 13) (p6:=PP L 5 16 17) (p7:=PP L 5 8 17) (p8:=⟨L+4,4,L+5,17⟩) (p9:=⟨L+2,4,L+5,17⟩)
  rfl n3 (by decide +kernel) rfl (eq_of_beq n4) (by decide +kernel) rfl n1 (by decide) n7 (by decide +kernel) Rk.W λS q S1 hq=>by
   obtain⟨_,h2⟩:=km.mp hq;exact Rk.m q (of_decide_eq_true h2)
 have pS:=yb (M:=M.to caps capv cds base) (p1:=PP L 1 4 9) (pos:=PP L 1 4 16) (S0 cds) 1 rfl n1 (DK (M:=M.to caps capv cds base) (j:=0) (pos:=PP L 1 12 16)) rfl
 let tT:TS:=λD σ H=>tMS (M.K.to caps capv cds) (tlR .non λ_=>false) D σ H \/ ∃e oe q,q∈rz/\oe.cls=.ref (cl q)/\tMS (M.K.to caps capv (cds++[(e,oe)])) (tlR (.obj e) (bQ q)) D σ H
 have QY:PSs (rN CX0 M.P M.w M.K M.mg base qh x (az st) f cdv A outer s H E).nox ((mJ L z).drop 2) tT:=λpins s σ H D I q=>by
  rcases q with q|⟨e,oe,q',hq,hc,q⟩
  .exact QX pins s σ H D I q
  .exact R0 e oe q' hq hc pins s σ H D I q
 rw[Zn];refine⟨_,lK pS (lK pT QY),?_⟩;obtain⟨μ,S1,us,u,S2,hR,rs,e,ka⟩:=hh;unfold Bg at e
 split at e
 rotate_left
 .cases e
 rename_i a'
 split at e
 rotate_left
 .cases e
 rename_i ha
 subst ha;have er:=mn (N:=qh) rs;refine⟨μ,S1,_,_,hR,er,rfl,λY0 Y7 H1 p1 k1 ZZ ZQ=>?_⟩;refine⟨Y0,S1,_,ZZ,ZQ,rfl,rfl,?_⟩;unfold qM at e
 split at e
 .rename_i r Wj
  cases e;refine .inl ⟨r.1,r.2,Wj,λY8 Y9 H2 p2 k2 ZV YF=>.inl ⟨Y8,r.2,_,_,ZV,YF,Gx rfl,?_⟩⟩;exact ka.mono (p1.trans p2) (k1.trans k2)
 .split at e
  rotate_left
  .cases e
  rename_i r Vn
  split at e
  rotate_left
  .cases e
  rename_i hq
  cases e;refine .inr ⟨r.1,r.2,km.mpr ⟨Vn,decide_eq_true hq⟩,λe oe Y8 Y9 H2 p2 k2 ZV YF Q6 Yi=>.inr ⟨e,oe,r.1,hq,Yi,?_⟩⟩;obtain⟨Y4,hv⟩:=HS (x:=some (.obj a')) (y:=none) (S:=r.2) (u:= .obj e) (Rk.lt _ hq);refine⟨Y8,r.2,_,_,⟨ZV.len,ZV.inj,ZV.cell,ZV.ext.cap,λc hc=>?_,ZV.ext.tab⟩,YF,hv,λX7 v3 H3 p3 k3 YL RG=>?_⟩
  .rcases aV.mp hc with z|z
   .exact ZV.ext.cds c z
   .have e':c=(e,oe):=by simpa using z
    rw[e'];exact Q6
  .exact ka X7 v3 H3 ((p1.trans p2).trans p3) ((k1.trans k2).trans k3) ⟨YL.len,YL.inj,YL.cell,YL.ext.cap,λc hc=>YL.ext.cds c (aZ _ hc),YL.ext.tab⟩ RG
end
end _G
namespace _G
open PySem PySem.Spec _L
section
variable {P:Program}{w:World}{K:aj}{mg:Str->Option Value}{tabs:List (Addr×Str)}{T:Tb}{k j:Nat}{h:Heap}{x:Str}{st z:Stmt}{N ps:List Str}{r:MX}{fu n L:Nat}{wA:Addr}{rz:List Nat}
theorem Ch.raise(c:Ch P w K mg tabs T k)(Cl:List (Str×Nat))(h1:T.mkr=false)(hC:∀y i,Cl.lookup y=some i->mg y=some (.ref (T.Z.cl i))/\exB K (T.Z.cl i)=true)(X:K.In h)(Gn:h.Ns mainGlobals mg)(D:Def K x st)(S:bw N ps (az st))(hb:Bd x st ps)
  (hc:(xc fu n).b T ⟨T.Z.R,Cl⟩ N (az st).names (bV st)=some r):Ch P w K mg tabs ⟨T.D,T.C,T.L,T.H,T.mkr,⟨(x,yi ps.length N.length r)::T.Z.R,T.Z.F,T.Z.cl,T.Z.nm⟩⟩ (k+1):=
 ⟨λa b d e f=>by
  have O:=c.o a b d e f;have F:=D.fnX ⟨.of O h1,O.Z,hC⟩ rfl X Gn S hb hc;have Om:=O.mono (dz k);refine⟨Om.D,Om.C,Om.B,Om.L,Om.mkr,λy r' hy=>?_⟩;rw[bT]at hy;cases q:y==x with
  |true=>rw[q]at hy;cases hy;rw[eq_of_beq q];exact⟨_,ps,ao _,F⟩
  | false=>rw[q]at hy;exact Om.Z y r' hy,λa b d e f=>mD (c.h a b d e f) (dz k),λa b d e f=>oo (c.r a b d e f) (dz k)⟩
theorem Ch.refd(c:Ch P w K mg tabs T k)(h1:T.mkr=false)(X:K.In h)(Gn:h.Ns mainGlobals mg)(D:Def K x st)(S:bw qh ["call"] (az st))(hb:Bd x st ["call"])(Yo:uu (az st).names=true)(Zn:bV st=mJ L z)(hz:cS T fu qh (az st).names z=some mzR)(Rk:xQ K mg T.Z.cl wA rz) :
  Ch P w K mg tabs ⟨T.D,T.C,T.L,T.H,T.mkr,⟨T.Z.R,(x,qM rz)::T.Z.F,T.Z.cl,T.Z.nm⟩⟩ k:=
 ⟨λa b d e f=>let O:=c.o a b d e f;⟨O.D,O.C,O.B,O.L,O.mkr,O.Z⟩,c.h,λa b d e f y Rm hy=>by
  rw[bT]at hy;cases q:y==x with
  |true=>rw[q]at hy;cases hy;rw[eq_of_beq q];exact⟨k,1,by decide,ao _,D.fnRef (M:=⟨P,w,⟨K,a,b,d,tabs⟩,mg,e,none⟩) c.o h1 X Gn S hb Yo Zn hz Rk⟩
  | false=>rw[q]at hy;exact c.r a b d e f y Rm hy⟩
end
theorem G8{l:mT}{w:World}{K:aj}{h:Heap}{mg:Str->Option Value}{fa c P:Addr}{st:Stmt}{N:List Str}{ms:MS}{fu k:Nat}{T:Tb}{tabs:List (Addr×Str)}(X:K.In h)(Gn:h.Ns mainGlobals mg)(Ul:mg "law"=some (.ref fa))
  (D:oU K "law" st c P) (S:bw N ["script"] (az st)) (hb:Bd "law" st ["script"]) (h1:T.mkr=false) (hL:T.L=[]) (hm:(P,("law":Str)++".<locals>."++"<lambda>")∈tabs) (nd:(tabs.map (·.1)).Nodup) (hg:mainGlobals≠P)
  (hO:Ch l.prog w K mg tabs T k) (hc:cB ⟨T.D,T.C,T.L,T.H,true,T.Z.to "<lambda>"⟩ fu N (az st).names (bV st)=some ms) :
  ∃ fd:FuncData,(∀ (s:Shared) (v:Value),BindsTo s fd ⟨[v],[]⟩ [("script",v)]) /\ ∀ base:Heap,K.In base->base.Ns mainGlobals mg->fQ mg base->iY l.prog w K mg base CX0 (k+5) fa fd ["script"] (spM ⟨K,[],[],[],tabs⟩ (run 1 N.length ms)):=by
 obtain⟨f,oc,od,kV,doc,pm,an,ct,sl,a,lk,Zs,Za⟩:=D.ex;have e:=Ul.symm.trans (cm X Gn a);cases e;refine⟨_,λs v=>.of_eq (hb kV doc pm an (.ref c) ct [v] rfl),λbase _ _ Zj=>?_⟩;exact D.ok (M:=⟨l.prog,w,⟨K,[],[],[],tabs⟩,mg,base,none⟩) rfl hO.o (hO.o [] [] [] base Zj) hL h1 (mD (hO.h [] [] [] base Zj) (dz k)) (oo (hO.r [] [] [] base Zj) (dz k)) (D.mkr (M:=⟨l.prog,w,⟨K,[],[],[],tabs⟩,mg,base,none⟩) Zj X Gn hm nd hg) S hc lk Zs
def clR(rz:List Nat):List (Str×Nat):=rz.map fun q=>(cn.getD q (FA ""),q)
def LH(K:aj)(cs:List Addr)(w:Addr)(rz:List Nat):Bool:=
 bj K mainGlobals "ValueError" == some none&&(ax 7).all (fun j=>cM K (.type "NoneType") (.ref (cs.getD j 0))==some false)&&cM K (.type "NoneType") (.type "ValueError")==some false &&
 rz.all λq=>decide (q<7)&&Dv K (cs.getD q 0)&&wu K (.ref (cs.getD q 0)) (.ref w)==some true&&(ax 7).all (λj=>cM K (.ref (cs.getD q 0)) (.ref (cs.getD j 0))==some (decide (q=j))) &&
  cM K (.ref (cs.getD q 0)) (.type "ValueError")==some true&&exB K (cs.getD q 0)
section
variable {K:aj}{h:Heap}{mg:Str->Option Value}{c0 c1 c2 c3 c4 c5 c6 w:Addr}{rz:List Nat}
theorem Kq(X:K.In h)(Gn:h.Ns mainGlobals mg)(n0:bj K mainGlobals "TooMany"=some (some (.ref c0)))(n1:bj K mainGlobals "NotLevel"=some (some (.ref c1)))(n2:bj K mainGlobals "NoLift"=some (some (.ref c2)))(n3:bj K mainGlobals "NotPlain"=some (some (.ref c3)))
  (n4:bj K mainGlobals "NoName"=some (some (.ref c4))) (n5:bj K mainGlobals "BadNote"=some (some (.ref c5))) (n6:bj K mainGlobals "NoTwist"=some (some (.ref c6))) (nw:bj K mainGlobals "WalkError"=some (some (.ref w)))
  (hb:LH K [c0,c1,c2,c3,c4,c5,c6] w rz=true):xQ K mg (λj=>[c0,c1,c2,c3,c4,c5,c6].getD j 0) w rz /\ ∀y i,(clR rz).lookup y=some i->mg y=some (.ref ([c0,c1,c2,c3,c4,c5,c6].getD i 0))/\exB K ([c0,c1,c2,c3,c4,c5,c6].getD i 0)=true:=by
 unfold LH at hb;simp at hb;obtain⟨⟨⟨b1,b2⟩,b3⟩,b4⟩:=hb;have hc:∀j t,cn[j]?=some t->mg t=some (.ref ([c0,c1,c2,c3,c4,c5,c6].getD j 0)):=λj t hj=>by
  have hl:j<7:=(ah.mp hj).1;have:j=0\/j=1\/j=2\/j=3\/j=4\/j=5\/j=6:=by omega
  rcases this with rfl|rfl|rfl|rfl|rfl|rfl|rfl<;>cases hj
  .exact cm X Gn n0
  .exact cm X Gn n1
  .exact cm X Gn n2
  .exact cm X Gn n3
  .exact cm X Gn n4
  .exact cm X Gn n5
  .exact cm X Gn n6
 refine⟨⟨hc,cm X Gn nw,FG X Gn b1,b2,b3,λq hq=>(b4 q hq).1.1.1.1.1,λq hq=>(b4 q hq).1.1.1.1.2,λq hq=>(b4 q hq).1.1.1.2,λq hq=>(b4 q hq).1.1.2,λq hq=>(b4 q hq).1.2⟩,λy i hy=>?_⟩;have hm:=mem_of_lookup hy;obtain⟨q,hq,e⟩:=aR.mp hm;cases e;refine⟨hc i _ ?_,(b4 i hq).2⟩;have hl:=(b4 i hq).1.1.1.1.1;rw[aP,aI hl];rfl
end
end _G
namespace _G
open PySem PySem.Spec _L
open PyProof.Rows hiding St
section
variable {M:Mo}{caps:List U}{capv:List V}{cds:List (Addr×Obj)}{base:Heap}{μ:List Addr}{S:Sto}{H:Hp}
end
section
variable {M:Mo}{X:Cx}{k:Nat}{N:List Str}{ns:List (Str×NameKind)}{x:Str}{p1 pos:Pos}
end
section
variable {M:Mo}{cl:Nat->Addr}{T:Tb}{k k0 fu L:Nat}{h:Heap}{x r:Str}{st z1 z3:Stmt}{rz:List Nat}{c P:Addr}{sc:Scope}
end
section
variable {P:Program}{w:World}{K:aj}{mg:Str->Option Value}{tabs:List (Addr×Str)}{T:Tb}{k k0 fu L:Nat}{h:Heap}{x r:Str}{st z:Stmt}{wA a0 p:Addr}{rz:List Nat}
end
end _G
namespace _G
open PySem PySem.Spec _L
def Tb.dd(T:Tb)(x:Str)(f:MF):Tb:=⟨(x,f)::T.D,T.C,[],T.H,false,T.Z⟩
def Tb.hh(T:Tb)(x:Str)(F:Addr->MF->MF):Tb:=⟨T.D,T.C,[],(x,F)::T.H,false,T.Z⟩
def Tb.xx(T:Tb)(x:Str)(f:MF)(r:RF):Tb:=⟨(x,f)::T.D,T.C,[],T.H,false,⟨(x,r)::T.Z.R,T.Z.F,T.Z.cl,T.Z.nm⟩⟩
def Tb.qq(T:Tb)(x:Str)(vf:VF):Tb:=⟨T.D,T.C,[],T.H,false,⟨T.Z.R,(x,vf)::T.Z.F,T.Z.cl,T.Z.nm⟩⟩
abbrev cD(T:Tb)(N:List Str)(st:Stmt):Option MS:=cB T 80 N (az st).names (bV st)
def fsB(N P:List Str)(sc:Scope):Bool:=sc.kind==.function && !sc.isCoroutine && !sc.isGenerator&&decide N.Nodup&&N.take P.length==P&&P.all (λx=>sc.names.lookup x==some .local||sc.names.lookup x==some .cell)&&sc.names.all λy=>!(y.2==.free)
theorem eQ{N P:List Str}{sc:Scope}(h:fsB N P sc=true):bw N P sc:=by
 unfold fsB at h;simp only[aq]at h;obtain⟨⟨⟨⟨⟨⟨h1,h2⟩,h3⟩,h4⟩,h5⟩,h6⟩,h7⟩:=h;refine⟨eq_of_beq h1,by simpa using h2,by simpa using h3,of_decide_eq_true h4,eq_of_beq h5,λx hx=>?_,λy hy z=>?_⟩<;>grind
def K7(K:aj):List (Str×Stmt)->Prop
 |[]=>True
 |p::r=>Def K p.1 p.2/\K7 K r
end _G
namespace _W
open PySem PySem.Spec _L _G
def iL:MS:=bh (sIf (cOf (m2 oLt (ae 1) (mFn cR (aa (ae 0) ai)))) (dS (m2 oIx (ae 0) (ae 1))) dF) (dS (mC (.int 0)))
def jV:MF:=run 2 2 iL
def pP:MS:=bh (bD 2 (mFn jV (aa (ae 0) (aa (ae 1) ai)))) (bh (sIf (cOf (m2 oGe (ae 2) (m2 yX (mC (.int 10)) (mC (.int 18))))) (dS (b9 (aa (m2 rG (ae 2) (m2 yX (mC (.int 10)) (mC (.int 18)))) (aa (mC (.bl true)) ai)))) dF) (dS (b9 (aa (m2 oMod (ae 2) (mC (.int 2147483647))) (aa (mC (.bl false)) ai)))))
def jD:MF:=run 2 3 pP
def kD:MS:=bh (sIf (cOf (m2 oIx (ae 0) (mC (.int 1)))) (bh (bD 2 (m2 oMod (m2 oIx (ae 0) (mC (.int 0))) (ae 1))) (bh (eU (ae 0) (mC (.int 0)) (m2 oDiv (m2 oIx (ae 0) (mC (.int 0))) (ae 1))) (dS (ae 2)))) dF) (bh (eU (ae 0) (mC (.int 0)) (m2 oMod (m2 dc (m2 ig (m2 oIx (ae 0) (mC (.int 0))) (mC (.int 48271))) (mC (.int 29))) (mC (.int 2147483647)))) (bh (bD 3 (m2 oMod (m2 dc (m2 dc (m2 ig (m2 oIx (ae 0) (mC (.int 0))) (m2 oIx (ae 0) (mC (.int 0)))) (m2 ig (mC (.int 39373)) (m2 oIx (ae 0) (mC (.int 0))))) (mC (.int 7))) (mC (.int 2147483629)))) (bh (bD 3 (m2 oMod (m2 dc (m2 ig (ae 3) (ae 3)) (m2 ig (mC (.int 16807)) (ae 3))) (mC (.int 2147483587)))) (dS (m2 oMod (m2 oDiv (ae 3) (mC (.int 8))) (ae 1))))))
def a8:MF:=run 2 4 kD
def l8:MS:=dS (mFn cu (aa (cy (iR1 (aa (ae 0) ai)) cTT (mFn cu (aa (cy (iR1 (aa (ae 0) ai)) cTT (m2 oMod (m2 dc (ae 1) (ae 2)) (ae 0))) ai))) ai))
def cf:MF:=run 1 1 l8
def pV:MS:=bh (bD 1 (b9 ai)) (bh (fB 2 (iR1 (aa (m2 ig (mC (.int 2)) (ae 0)) ai)) (bh (bD 3 (b9 ai)) (bh (fB 4 (iR1 (aa (m2 ig (mC (.int 2)) (ae 0)) ai)) (bh (bD 5 (m2 oMod (m2 dc (m2 oMod (ae 2) (ae 0)) (m2 ig (m2 oIx (b9 (aa (mC (.int 1)) (aa (m1 ot (mC (.int 1))) ai))) (m2 oDiv (ae 2) (ae 0))) (m2 oMod (ae 4) (ae 0)))) (ae 0))) (d7 (mML bZ (ae 3) (aa (m2 dc (ae 5) (m2 ig (ae 0) (m2 oMod (m2 dc (m2 oDiv (ae 2) (ae 0)) (m2 oDiv (ae 4) (ae 0))) (mC (.int 2))))) ai))))) (d7 (mML bZ (ae 1) (aa (mFn cu (aa (ae 3) ai)) ai)))))) (dS (mFn cu (aa (ae 1) ai))))
def fO:MF:=run 1 6 pV
def nj:MS:=bh (bD 0 (b9 (aa (b9 (aa (mC (.int 0)) (aa (mC (.int 0)) (aa (mC (.int 0)) (aa (mC (.int 0)) ai))))) (aa (b9 (aa (mC (.int 0)) (aa (mC (.int 1)) (aa (mC (.int 0)) (aa (mC (.int 1)) ai))))) (aa (b9 (aa (mC (.int 0)) (aa (mC (.int 1)) (aa (mC (.int 1)) (aa (mC (.int 0)) ai))))) (aa (b9 (aa (mC (.int 0)) (aa (mC (.int 0)) (aa (mC (.int 1)) (aa (mC (.int 1)) ai))))) ai)))))) (bh (bD 1 (b9 (aa (b9 (aa (mC (.int 0)) (aa (mC (.int 1)) (aa (mC (.int 2)) (aa (mC (.int 3)) ai))))) (aa (b9 (aa (mC (.int 1)) (aa (mC (.int 0)) (aa (mC (.int 3)) (aa (mC (.int 2)) ai))))) (aa (b9 (aa (mC (.int 2)) (aa (mC (.int 3)) (aa (mC (.int 0)) (aa (mC (.int 1)) ai))))) (aa (b9 (aa (mC (.int 3)) (aa (mC (.int 2)) (aa (mC (.int 1)) (aa (mC (.int 0)) ai))))) ai)))))) (bh (bD 2 (b9 ai)) (bh (fB 3 (iR1 (aa (mC (.int 8)) ai)) (bh (bD 4 (b9 ai)) (bh (fB 5 (iR1 (aa (mC (.int 8)) ai)) (bh (bD 6 (m2 oMod (m2 dc (m2 dc (ae 3) (ae 5)) (m2 oIx (m2 oIx (ae 0) (m2 oDiv (ae 3) (mC (.int 2)))) (m2 oDiv (ae 5) (mC (.int 2))))) (mC (.int 2)))) (d7 (mML bZ (ae 4) (aa (m2 dc (m2 ig (mC (.int 2)) (m2 oIx (m2 oIx (ae 1) (m2 oDiv (ae 3) (mC (.int 2)))) (m2 oDiv (ae 5) (mC (.int 2))))) (ae 6)) ai))))) (d7 (mML bZ (ae 2) (aa (mFn cu (aa (ae 4) ai)) ai)))))) (dS (mFn cu (aa (ae 2) ai))))))
def iJ:MF:=run 0 7 nj
def sQ:MS:=bh (bD 2 (mFn cR (aa (ae 1) ai))) (bh (bD 3 (b9 ai)) (bh (fB 4 (iR1 (aa (m2 ig (mFn cR (aa (ae 0) ai)) (ae 2)) ai)) (bh (bD 5 (b9 ai)) (bh (fB 6 (iR1 (aa (m2 ig (mFn cR (aa (ae 0) ai)) (ae 2)) ai)) (bh (bD 7 (m2 oIx (m2 oIx (ae 0) (m2 oDiv (ae 4) (ae 2))) (m2 oDiv (ae 6) (ae 2)))) (d7 (mML bZ (ae 5) (aa (m2 dc (m2 ig (ae 7) (ae 2)) (m2 oIx (m2 oIx (ae 1) (m2 oMod (ae 4) (ae 2))) (m2 oMod (ae 6) (ae 2)))) ai))))) (d7 (mML bZ (ae 3) (aa (mFn cu (aa (ae 5) ai)) ai)))))) (dS (mFn cu (aa (ae 3) ai)))))
def kz:MF:=run 2 8 sQ
def qf:MS:=dS (mFn cu (aa (cy (di (ae 1)) cTT (mFn cu (aa (cy (di (ae 1)) cTT (mMT jK (ae 1) (aa (m2 oIx (m2 oIx (ae 0) (ae 2)) (ae 3)) ai))) ai))) ai))
def jH:MF:=run 2 2 qf
def pR:MS:=bh (bD 2 (kI (iR2 (aa (mC (.int 1)) (aa (ae 1) ai))))) (dS (m2 dc (gc (aa (mC (.int 0)) ai)) (mFn cu (aa (cy (iR1 (aa (m2 rG (ae 1) (mC (.int 1))) ai)) cTT (mML lh (ae 2) (aa (mFn a8 (aa (ae 0) (aa (mFn cR (aa (ae 2) ai)) ai))) ai))) ai))))
def jN:MF:=run 2 3 pR
def lT:MS:=bh (bD 2 (mFn a8 (aa (ae 0) (aa (mC (.int 8)) ai)))) (bh (bD 3 (mFn cf (aa (m2 dc (mC (.int 1)) (mFn a8 (aa (ae 0) (aa (ae 1) ai)))) ai))) (bh (sIf (cOr (cOf (m2 oEq (ae 2) (mC (.int 1)))) (cOf (m2 oEq (ae 2) (mC (.int 2))))) (bD 3 (mFn fO (aa (m2 dc (mC (.int 1)) (mFn a8 (aa (ae 0) (aa (m2 oDiv (ae 1) (mC (.int 2))) ai)))) ai))) dF) (bh (sIf (wV (cOf (m2 oEq (ae 2) (mC (.int 3)))) (cOf (m2 oGt (ae 1) (mC (.int 7))))) (bD 3 (mFn iJ ai)) dF) (bh (sIf (cOf (m2 oGt (ae 2) (mC (.int 3)))) (bh (bD 4 (m2 dc (mC (.int 2)) (mFn a8 (aa (ae 0) (aa (mC (.int 3)) ai))))) (bh (bD 5 (m2 oIx (b9 (aa (mFn cf (aa (ae 4) ai)) (aa (mFn fO (aa (ae 4) ai)) ai))) (mFn a8 (aa (ae 0) (aa (mC (.int 2)) ai))))) (bh (sIf (cOf (m2 oGt (mFn cR (aa (ae 5) ai)) (ae 1))) (bD 5 (mFn cf (aa (ae 4) ai))) dF) (bD 3 (mFn kz (aa (ae 5) (aa (mFn cf (aa (m2 dc (mC (.int 1)) (mFn a8 (aa (ae 0) (aa (m2 oDiv (ae 1) (mFn cR (aa (ae 5) ai))) ai)))) ai)) ai))))))) dF) (bh (sIf (cOf (m2 oEq (mFn a8 (aa (ae 0) (aa (mC (.int 3)) ai))) (mC (.int 0)))) (bD 3 (mFn jH (aa (ae 3) (aa (mFn jN (aa (ae 0) (aa (mFn cR (aa (ae 3) ai)) ai))) ai)))) dF) (dS (ae 3)))))))
def lE:MF:=run 2 6 lT
end _W
namespace _W
structure Grp(m:Nat)(T:Nat->Nat->Nat):Prop where
 pos:0<m
 cl:∀i j,i<m->j<m->T i j<m
 l0:∀i,i<m->T 0 i=i
 r0:∀i,i<m->T i 0=i
 inv:∀i,i<m->∃j,j<m/\T i j=0/\T j i=0
 as:∀i j k,i<m->j<m->k<m->T (T i j) k=T i (T j k)
def fq(n:Nat):Nat->Nat->Nat:=λi j=>(i+j)%n
variable{n:Nat}
theorem ji(h:0<n):Grp n (fq n) where
 pos:=h
 cl:=λi j _ _=>kQ _ h
 l0:=λi hi=>by unfold fq;rw[eA];exact bC hi
 r0:=λi hi=>by exact bC hi
 inv:=λi hi=>by
  by_cases h0:i=0
  .subst h0;exact⟨0,h,by simp[fq],by simp[fq]⟩
  .refine⟨n-i,by omega,?_,?_⟩<;>unfold fq
   .rw[show i+(n-i)=n by omega,nR]
   .rw[show n-i+i=n by omega,nR]
 as:=λi j k _ _ _=>by
  unfold fq;rw[nY,Nat.add_mod_mod,eu]
def iw(n:Nat):Nat->Nat->Nat:=λi j=>
 (if i<n then(i%n+j%n)%n else(i%n+(n-j%n))%n)+n*((i/n+j/n)%2)
variable{i:Nat}
theorem half(h:i<2*n):(i<n/\i%n=i/\i/n=0)\/(n<=i/\i%n=i-n/\i/n=1):=by
 by_cases hi:i<n
 .exact .inl ⟨hi,bC hi,g8 hi⟩
 .refine .inr ⟨by omega,?_,?_⟩
  .rw[tD (by omega),bC (by omega)]
  .exact Nat.div_eq_of_lt_le (by omega) (by omega)
variable{a b:Nat}
theorem ft(ha:a<n)(hb:b<n):iw n a b=(a+b)%n:=by
 unfold iw;rw[if_pos ha,g8 ha,g8 hb];simp
theorem HD(ha:a<n):(n+a)/n=1:=Nat.div_eq_of_lt_le (by omega) (by omega)
theorem Py(ha:a<n):(n+a)%n=a:=by rw[Nat.add_mod_left];exact bC ha
theorem iM(ha:a<n)(hb:b<n):iw n a (n+b)=n+(a+b)%n:=by
 unfold iw;rw[if_pos ha,g8 ha,HD hb];simp;omega
theorem iI(ha:a<n)(hb:b<n):iw n (n+a) b=n+(a+(n-b))%n:=by
 unfold iw;rw[if_neg (by omega),bC hb,g8 hb,HD ha];simp;omega
theorem iG(ha:a<n)(hb:b<n):iw n (n+a) (n+b)=(a+(n-b))%n:=by
 unfold iw;rw[if_neg (by omega),Py hb,HD ha,HD hb];simp
theorem PF(ha:a<n)(hb:b<n):(a+b)%n=if a+b<n then a+b else a+b-n:=by
 split
 .exact bC (by omega)
 .rw[tD (by omega),bC (by omega)]
theorem PR(ha:a<n)(hb:b<n):(a+(n-b))%n=if b<=a then a-b else a+n-b:=by
 have e:=Nat.add_sub_assoc (aE hb) a
 split
 .rename_i h
  rw[<-e,mZ h,k9,bC (aK (nS a b) ha)]
 .rename_i h
  rw[bC (Nat.lt_of_lt_of_eq (Nat.add_lt_add_right (Nat.lt_of_not_le h) _) (Nat.add_sub_cancel' (aE hb))),e]
theorem lO(h:i<2*n):(i<n) \/ ∃a,a<n/\i=n+a:=by
 by_cases hi:i<n
 .exact .inl hi
 .exact .inr ⟨i-n,by omega,by omega⟩
variable{c:Nat}
theorem GO:((a+b)%n+c)%n=(a+(b+c)%n)%n:=by rw[nY,Nat.add_mod_mod,eu]
theorem Nd(hb:b<n)(hc:c<n):((a+(n-b))%n+(n-c))%n=(a+(n-(b+c)%n))%n:=by
 rw[nY,PF hb hc]
 split
 .rename_i h
  have h1:n-b=n-(b+c)+c:=by rw[Nat.sub_add_eq,Nat.sub_add_cancel (Nat.le_sub_of_add_le' (aE h))]
  rw[h1,<-eu,eu _ c,Nat.add_sub_cancel' (aE hc),k9]
 .rename_i h
  rw[<-lg b (aE hc),lg n (Nat.sub_le_of_le_add (dA h)),mZ (aE hb),eu]
theorem NF(hb:b<n)(hc:c<n):((a+(n-b))%n+c)%n=(a+(n-(b+(n-c))%n))%n:=by
 rw[nY,PR hb hc]
 split
 .rename_i h
  rw[lg n h,mZ (aE hb),eu]
 .rename_i h
  have h':=aE (Nat.lt_of_not_le h);rw[FH b n,<-lg n h',Nat.sub_sub_self (aH (nS c b) (aE hc)),<-k9 (a+(c-b)) n,eu a _ n,FH _ n,<-Nat.add_sub_assoc h' n,mZ (aE hb),eu]
theorem w9(h:0<n):Grp (2*n) (iw n):=by
 have ml:∀x,x%n<n:=λx=>kQ _ h;have cl:∀i j,i<2*n->j<2*n->iw n i j<2*n:=λi j hi hj=>by
  rcases lO hi with hi|⟨a,ha,rfl⟩<;>rcases lO hj with hj|⟨b,hb,rfl⟩
  .rw[ft hi hj];have:=ml (i+j);omega
  .rw[iM hi hb];have:=ml (i+b);omega
  .rw[iI ha hj];have:=ml (a+(n-j));omega
  .rw[iG ha hb];have:=ml (a+(n-b));omega
 refine⟨by omega,cl,λi hi=>?_,λi hi=>?_,λi hi=>?_,λi j k hi hj hk=>?_⟩
 .rcases lO hi with hi|⟨a,ha,rfl⟩
  .rw[ft h hi,eA,bC hi]
  .rw[iM h ha,eA,bC ha]
 .rcases lO hi with hi|⟨a,ha,rfl⟩
  .rw[ft hi h,Nat.add_zero,bC hi]
  .rw[iI ha h,Nat.sub_zero,k9,bC ha]
 .rcases lO hi with hi|⟨a,ha,rfl⟩
  .by_cases h0:i=0
   .subst h0;exact⟨0,by omega,by rw[ft h h];simp,by rw[ft h h];simp⟩
   .have hl:n-i<n:=by omega
    refine⟨n-i,by omega,?_,?_⟩
    .rw[ft hi hl,show i+(n-i)=n by omega,nR]
    .rw[ft hl hi,show n-i+i=n by omega,nR]
  .refine⟨_,by omega,?_,?_⟩<;>rw[iG ha ha,show a+(n-a)=n by omega,nR]
 .rcases lO hi with hi|⟨a,ha,rfl⟩<;>rcases lO hj with hj|⟨b,hb,rfl⟩<;>rcases lO hk with hk|⟨c,hc,rfl⟩
  .rw[ft hi hj,ft hj hk,ft (ml _) hk,ft hi (ml _),GO]
  .rw[ft hi hj,iM hj hc,iM (ml _) hc,iM hi (ml _),GO]
  .rw[iM hi hb,iI hb hk,iI (ml _) hk,iM hi (ml _),GO]
  .rw[iM hi hb,iG hb hc,iG (ml _) hc,ft hi (ml _),GO]
  .rw[iI ha hj,ft hj hk,iI (ml _) hk,iI ha (ml _),Nd hj hk]
  .rw[iI ha hj,iM hj hc,iG (ml _) hc,iG ha (ml _),Nd hj hc]
  .rw[iG ha hb,iI hb hk,ft (ml _) hk,iG ha (ml _),NF hb hk]
  .rw[iG ha hb,iG hb hc,iM (ml _) hc,iI ha (ml _),NF hb hc]
def rP(m:Nat)(A B:Nat->Nat->Nat):Nat->Nat->Nat:=λi j=>A (i/m) (j/m)*m+B (i%m) (j%m)
variable{m:Nat}
theorem zf(hb:b<m):(a*m+b)/m=a/\(a*m+b)%m=b:=by
 have hm:0<m:=by omega
 constructor
 .rw[ki,Nat.mul_add_div hm,g8 hb];rfl
 .rw[ki,Nat.mul_add_mod,bC hb]
theorem ED{k:Nat}{A B:Nat->Nat->Nat}(ga:Grp k A)(gb:Grp m B):Grp (k*m) (rP m A B):=by
 have hm:=gb.pos;have dl:∀i,i<k*m->i/m<k:=λi hi=>Nat.div_lt_of_lt_mul (by rw[ki];exact hi);have rl:∀i,i%m<m:=λi=>kQ _ hm;have lt:∀a b,a<k->b<m->a*m+b<k*m:=λa b ha hb=>by
  have:(a+1)*m<=k*m:=pN m ha;rw[Nat.add_mul]at this;omega
 refine⟨Nat.mul_pos ga.pos hm,λi j hi hj=>lt _ _ (ga.cl _ _ (dl i hi) (dl j hj)) (gb.cl _ _ (rl i) (rl j)),λi hi=>?_,λi hi=>?_,λi hi=>?_,λi j l hi hj hl=>?_⟩
 .unfold rP;rw[Nat.zero_div,Nat.zero_mod,ga.l0 _ (dl i hi),gb.l0 _ (rl i),ki];exact yI i m
 .unfold rP;rw[Nat.zero_div,Nat.zero_mod,ga.r0 _ (dl i hi),gb.r0 _ (rl i),ki];exact yI i m
 .obtain⟨a,ha,a1,a2⟩:=ga.inv _ (dl i hi)
  obtain⟨b,hb,b1,b2⟩:=gb.inv _ (rl i);obtain⟨p1,p2⟩:=zf hb;refine⟨_,lt a b ha hb,?_,?_⟩<;>unfold rP<;>rw[p1,p2]
  .rw[a1,b1];simp
  .rw[a2,b2];simp
 .unfold rP
  obtain⟨p1,p2⟩:=zf (gb.cl _ _ (rl i) (rl j));obtain⟨q1,q2⟩:=zf (gb.cl _ _ (rl j) (rl l));rw[p1,p2,q1,q2,ga.as _ _ _ (dl i hi) (dl j hj) (dl l hl),gb.as _ _ _ (rl i) (rl j) (rl l)]
def Mx:List (List Nat):= [[0,1,2,3,4,5,6,7],[1,0,3,2,5,4,7,6],[2,3,1,0,6,7,5,4],[3,2,0,1,7,6,4,5],[4,5,7,6,1,0,2,3],[5,4,6,7,0,1,3,2],[6,7,4,5,3,2,1,0],[7,6,5,4,2,3,0,1]]
def ic:Nat->Nat->Nat:=λi j=>(Mx.getD i []).getD j 0
def q1:Bool:=(ax 8).all λi=>(ic 0 i==i)&&(ic i 0==i)&&((ax 8).any λj=>(ic i j==0)&&(ic j i==0))&&(ax 8).all λj=>decide (ic i j<8)&&(ax 8).all λk=>ic (ic i j) k==ic i (ic j k)
theorem Oi:q1=true:=by decide +kernel
theorem Ba:Grp 8 ic:=by
 have h:=d8.mp Oi;have g:=λi hi=>h i (aO.mpr hi);simp at g;refine⟨by decide,λi j hi hj=>((g i hi).2 j hj).1,λi hi=>(g i hi).1.1.1,λi hi=>(g i hi).1.1.2,λi hi=>?_,λi j k hi hj hk=>((g i hi).2 j hj).2 k hk⟩
 simp_all
structure Ord(m:Nat)(o p:Nat->Nat):Prop where
 ol:∀i,i<m->o i<m
 pl:∀i,i<m->p i<m
 po:∀i,i<m->p (o i)=i
 op:∀i,i<m->o (p i)=i
 o0:o 0=0
def pz(T:Nat->Nat->Nat)(o p:Nat->Nat):Nat->Nat->Nat:=λi j=>p (T (o i) (o j))
variable{T:Nat->Nat->Nat}
theorem BG{o p:Nat->Nat}(g:Grp m T)(h:Ord m o p):Grp m (pz T o p):=by
 have p0:=by have:=h.po 0 g.pos;rwa[h.o0]at this
 refine⟨g.pos,λi j hi hj=>h.pl _ (g.cl _ _ (h.ol i hi) (h.ol j hj)),λi hi=>?_,λi hi=>?_,λi hi=>?_,λi j k hi hj hk=>?_⟩
 .unfold pz;rw[h.o0,g.l0 _ (h.ol i hi),h.po i hi]
 .unfold pz;rw[h.o0,g.r0 _ (h.ol i hi),h.po i hi]
 .obtain⟨j,hj,a,b⟩:=g.inv _ (h.ol i hi)
  refine⟨_,h.pl j hj,?_,?_⟩<;>unfold pz<;>rw[h.op j hj]<;>simp_all
 .unfold pz
  rw[h.op _ (g.cl _ _ (h.ol i hi) (h.ol j hj)),h.op _ (g.cl _ _ (h.ol j hj) (h.ol k hk)),g.as _ _ _ (h.ol i hi) (h.ol j hj) (h.ol k hk)]
theorem qW{α:Type}:∀(l:List α) (i:Nat) (h:i<l.length),(l[i]::l.eraseIdx i).Perm l
 |x::l,0,_=>by simp
 | x::l,i+1,h=>by
   have h':=by simpa using h
   have:=qW l i h';exact(List.Perm.swap _ _ _).trans (this.cons x)
theorem HV{l:List Nat}(nd:l.Nodup)(h:i<l.length):l.idxOf l[i]=i:=by
 grind
structure o7(m:Nat)(l:List Nat):Prop where
 perm:l.Perm (ax m)
 z:l[0]?=some 0
def oF(l:List Nat):Nat->Nat:=λi=>l.getD i 0
def pF(l:List Nat):Nat->Nat:=λx=>l.idxOf x
section
variable {m:Nat}{l:List Nat}
theorem o7.len(h:o7 m l):l.length=m:=by have:=h.perm.length_eq;simpa using this
theorem o7.nd(h:o7 m l):l.Nodup:=h.perm.nodup_iff.mpr List.nodup_range
theorem o7.mem(h:o7 m l){x:Nat}:x∈l↔x<m:=by rw[h.perm.mem_iff,aO]
theorem o7.get(h:o7 m l)(hi:i<m):l[i]?=some (oF l i):=by
 have hl:i<l.length:=by rw[h.len];omega
 simp[oF,hl]
theorem o7.ord(h:o7 m l):Ord m (oF l) (pF l) where
 ol:=λi hi=>h.mem.mp (bG (h.get hi))
 pl:=λx hx=>by
  have:=A0.mpr (h.mem.mpr hx);rw[h.len]at this;exact this
 po:=λi hi=>by
  have hl:i<l.length:=by rw[h.len];omega
  have e:oF l i=l[i]:=by simp[oF,hl]
  rw[e];exact HV h.nd hl
 op:=λx hx=>by
  have h1:=A0.mpr (h.mem.mpr hx);unfold oF pF
  simp_all
 o0:=by
  unfold oF;rw[aP,h.z];rfl
end
theorem BC{xs:List Nat}(hm:0<m)(h:xs.Perm (aQ 1 (m-1))):o7 m (0::xs):=by
 refine⟨?_,rfl⟩;have e:ax m=0::aQ 1 (m-1):=by
  rw[jA];have:m=(m-1)+1:=by omega
  rw[this,mU];simp
 simp_all
section
variable {m:Nat}{T:Nat->Nat->Nat}
theorem Grp.cancel(g:Grp m T)(ha:a<m)(hb:b<m)(hc:c<m)(h:T a b=T a c):b=c:=by
 obtain⟨i,hi,h1,h2⟩:=g.inv a ha;have e1:T i (T a b)=b:=by rw[<-g.as i a b hi ha hb,h2,g.l0 b hb]
 have e2:T i (T a c)=c:=by rw[<-g.as i a c hi ha hc,h2,g.l0 c hc]
 simp_all
theorem Grp.cancelR(g:Grp m T)(ha:a<m)(hb:b<m)(hc:c<m)(h:T b a=T c a):b=c:=by
 obtain⟨i,hi,h1,h2⟩:=g.inv a ha;have e1:T (T b a) i=b:=by rw[g.as b a i hb ha hi,h1,g.r0 b hb]
 have e2:T (T c a) i=c:=by rw[g.as c a i hc ha hi,h1,g.r0 c hc]
 simp_all
theorem Grp.inv1(g:Grp m T)(hi:i<m):∃j,j<m/\T i j=0/\T j i=0 /\ ∀k,k<m->T i k=0->k=j:=by
 obtain⟨j,hj,h1,h2⟩:=g.inv i hi;exact⟨j,hj,h1,h2,λk hk h=>g.cancel hi hk hj (h.trans h1.symm)⟩
def pw(T:Nat->Nat->Nat)(x:Nat):Nat->Nat
 |0=>0
 |n+1=>T (pw T x n) x
theorem ix(g:Grp m T){x:Nat}(hx:x<m):∀n,pw T x n<m
 |0=>g.pos
 |n+1=>g.cl _ _ (ix g hx n) hx
theorem qS(g:Grp m T){x:Nat}(hx:x<m)(a:Nat):∀b,pw T x (a+b)=T (pw T x a) (pw T x b)
 |0=>by show pw T x a=T _ 0;rw[g.r0 _ (ix g hx a)]
 | b+1=>by
   show T (pw T x (a+b)) x=T _ (T _ x);rw[qS g hx a b,g.as _ _ _ (ix g hx a) (ix g hx b) hx]
theorem Al(g:Grp m T){x:Nat}(hx:x<m)(YC:a<=b)(h:pw T x a=pw T x b):pw T x (b-a)=0:=by
 have e:b=a+(b-a):=by omega
 rw[e,qS g hx]at h;have e2:T (pw T x a) 0=T (pw T x a) (pw T x (b-a)):=by rw[g.r0 _ (ix g hx a)];omega
 exact(g.cancel (ix g hx a) g.pos (ix g hx _) e2).symm
end
theorem sf:∀(m:Nat) (l:List Nat),l.Nodup->(∀x∈l,x<m)->l.length<=m
 | 0,l,_,h=>by
   cases l with
   |nil=>simp
   |cons x l=>exact absurd (h x (by simp)) (by omega)
 | m+1,l,nd,h=>by
   have h1:=sf m _ (nd.erase m) λx hx=>by
    grind
   grind
theorem Ee{f:Nat->Nat}(h:∀i,i<=m->f i<m):∃i j,i<j/\j<=m/\f i=f j:=by
 apply gG;intro no;have inj:=λi j h1 h2 e=>no ⟨i,j,h1,h2,e⟩;have nd:((ax (m+1)).map f).Nodup:=by
  rw[bf,dN];refine dO ?_ (iV)
  grind
 have:=sf m _ nd (λx hx=>by
  obtain⟨i,hi,rfl⟩:=aR.mp hx
  exact h i (by have:=aO.mp hi;exact eF (by omega)))
 simp at this
 grind
theorem least{P:Nat->Prop}:∀n,P n->∃k,k<=n/\P k /\ ∀j,j<k->¬P j:=by
 intro n
 induction n using Nat.strongRecOn with
 | ind n ih=>
   intro h;by_cases hx:∃j,j<n/\P j
   .obtain⟨j,hj,hp⟩:=hx
    obtain⟨k,h1,h2,h3⟩:=ih j hj hp<;>grind
   .exact⟨n,ao _,h,λj hj hp=>hx ⟨j,hj,hp⟩⟩
theorem Grp.ord(g:Grp m T){x:Nat}(hx:x<m):∃n,1<=n/\n<=m/\pw T x n=0 /\ ∀k,1<=k->k<n->pw T x k≠0:=by
 obtain⟨a,b,h1,h2,h3⟩:=Ee λi _=>ix g hx i;have h4:=Al g hx (aE h1) h3;obtain⟨n,k1,⟨k2,k3⟩,k4⟩:=least (P:=λn=>1<=n/\pw T x n=0) _ ⟨by omega,h4⟩;exact⟨n,k2,by omega,k3,λj j1 j2 j3=>k4 j j2 ⟨j1,j3⟩⟩
theorem oz{p:Nat->Bool}:∀(n s k:Nat),s<=k->k<s+n->p k=true->(∀j,s<=j->j<k->p j=false)->((aQ s n).filter p)[0]?=some k
 |0,s,k,h1,h2,_,_=>by omega
 | n+1,s,k,h1,h2,hp,hn=>by
   rw[mU,List.filter_cons];by_cases hs:s=k
   .subst hs;simp[hp]
   .rw[hn s (ao _) (by exact bp (by assumption) (by assumption))]
    simp only[eR,if_false];exact oz n (s+1) k (by exact bp (by assumption) (by assumption)) (by omega) hp λj h1 h2=>hn j (by exact aE (by assumption)) h2
theorem idx_map{f:Nat->Nat}{x:Nat}:∀(n s k:Nat),s<=k->k<s+n->f k=x->(∀j,s<=j->j<k->f j≠x)->((aQ s n).map f).idxOf x=k-s
 |0,s,k,h1,h2,_,_=>by omega
 | n+1,s,k,h1,h2,hp,hn=>by
   rw[mU,dH,List.idxOf_cons];by_cases hs:s=k
   .subst hs;simp[hp]
   .have hb:(f s==x)=false:=by simpa using hn s (ao _) (by exact bp (by assumption) (by assumption))
    rw[hb];simp only[cond_false];rw[idx_map n (s+1) k (by exact bp (by assumption) (by assumption)) (by omega) hp λj h1 h2=>hn j (by exact aE (by assumption)) h2];omega
end _W
namespace _W
open _L _G
def Ex(S S':Sto):Prop:= ∃t,S'=S++t
theorem Ex.refl(S:Sto):Ex S S:=⟨[],by simp⟩
variable{S S1 S2:Sto}
theorem Ex.trans(a:Ex S S1)(b:Ex S1 S2):Ex S S2:=by
 obtain⟨t,rfl⟩:=a;obtain⟨u,rfl⟩:=b;exact⟨t++u,by simp⟩
theorem Ex.push(S:Sto)(c:Cell):Ex S (S++[c]):=⟨_,rfl⟩
variable{S':Sto}{n:Nat}
theorem Ex.get(h:Ex S S')(hn:n<S.length):S'[n]?=S[n]? := by
 obtain⟨t,rfl⟩:=h;exact aS hn
variable{c:Cell}
theorem Ex.some(h:Ex S S')(e:S[n]?=some c):S'[n]?=some c:=by
 rw[h.get (ah.mp e).1];omega
theorem Ex.len(h:Ex S S'):S.length<=S'.length:=by
 obtain⟨t,rfl⟩:=h;simp
def nN(n:Nat)(S:Sto):Prop:= ∃s b,S[n]?=some (.lst [.int s,.bl b])
structure Stp(n:Nat)(S S':Sto):Prop where
 len:S.length<=S'.length
 same:∀m,m<S.length->m≠n->S'[m]?=S[m]?
 st:nN n S'
theorem Stp.trans{n:Nat}{S S1 S2:Sto}(a:Stp n S S1)(b:Stp n S1 S2):Stp n S S2:=
 ⟨aH a.len b.len,λm h1 h2=>(b.same m (ak h1 a.len) h2).trans (a.same m h1 h2),b.st⟩
theorem nN.lt(h:nN n S):n<S.length:=by
 obtain⟨s,b,e⟩:=h;exact(ah.mp e).1
theorem nN.ex(h:nN n S)(e:Ex S S'):nN n S':=by
 obtain⟨s,b,q⟩:=h;exact⟨s,b,e.some q⟩
theorem Stp.ex{n:Nat}{S S':Sto}(h:nN n S)(e:Ex S S'):Stp n S S':=⟨e.len,λm h1 _=>e.get h1,h.ex e⟩
variable{m:Nat}
theorem Stp.some(h:Stp n S S')(hm:m≠n)(e:S[m]?=some c):S'[m]?=some c:=by
 rw[h.same m (ah.mp e).1 hm];omega
theorem Aw{many:Int}(h:nN n S)(hm:0<many)(Ys:many<1073741824):
  ∃r S',a8 [.ref n,.int many] S=some (.int r,S')/\0<=r/\r<many/\Stp n S S'/\S'.length=S.length:=by
 obtain⟨s,b,e⟩:=h;have hn:=(ah.mp e).1;have hd:si many:=⟨hm,Ys⟩;have RK:si 8:=⟨by decide,by decide⟩;cases b with
 | true=>
   refine⟨s%many,S.set n (.lst _),?_,yJ _ (by omega),tE _ hm,⟨by simp,λm h1 h2=>by rw[aC (dj h2)],⟨s/many,true,by rw[aM hn]⟩⟩,by simp⟩;simp[a8,_G.run,kD,bh,sIf,cOf,m2,ae,mC,bnd,oIx,fJ,eh,getL,e,atI,ixN,bD,oMod,oDiv,hm,hd,eU,dS]
 | false=>
   have b1:∀x m,0<m->m<4294967296->jI (x%m) (x%m):=λx m h1 h2=>by
    have h3:=yJ x (show m≠0 by omega);have h4:=tE x h1;exact .inl ⟨by omega,by omega⟩
   have hg:∀c,(S.set n c)[n]?=Option.some c:=λc=>aM hn;have k1:jI s 48271:= .inr ⟨by decide,by decide⟩;have k2:=b1 (s*48271+29) 2147483647 (by decide) (by decide);generalize UT:(s*48271+29)%2147483647=s1 at k2;have k3:jI 39373 s1:= .inl ⟨by decide,by decide⟩;have k4:=b1 (s1*s1+39373*s1+7) 2147483629 (by decide) (by decide);generalize Xk:(s1*s1+39373*s1+7)%2147483629=m1 at k4;have k5:jI 16807 m1:= .inl ⟨by decide,by decide⟩;refine⟨(m1*m1+16807*m1)%2147483587/8%many,S.set n (.lst _),?_,yJ _ (by omega),tE _ hm,⟨by simp,λm h1 h2=>by rw[aC (dj h2)],⟨s1,false,by rw[aM hn]⟩⟩,by simp⟩;simp[a8,_G.run,kD,bh,sIf,cOf,m2,ae,mC,bnd,oIx,fJ,eh,getL,e,atI,ixN,bD,oMod,oDiv,dc,ig,hm,hd,eU,dS,dF,hg,k1,k2,k3,k4,k5,UT,Xk,RK]
theorem tm{i:Nat}{b:MS}(P:Nat->Rho->Sto->Prop):∀(us:List U) (k:Nat) (G:Rho) (S:Sto),P k G S ->
  (∀(j:Nat) (u:U) (G:Rho) (S:Sto),us[j]?=some u->P (k+j) G S->∃Y4 S',b (G.set i (some u)) S=some (.nx,Y4,S')/\P (k+j+1) Y4 S') ->
  ∃Y4 S',yk i b us G S=some (.nx,Y4,S')/\P (k+us.length) Y4 S'
 |[],k,G,S,h,_=>⟨G,S,rfl,h⟩
 | u::us,k,G,S,h,st=>by
   obtain⟨Y5,S1,e1,h1⟩:=st 0 u G S rfl h;obtain⟨X0,S2,e2,h2⟩:=tm P us _ _ S1 h1 λj v G S hj hp=>by
    have:=st (j+1) v G S (by simpa using hj) (by grind);rw[show k+(j+1)+1=k+1+j+1 by omega]at this;omega
   refine⟨_,S2,?_,by rw[show k+(u::us).length=k+1+us.length by grind];omega⟩;show aft _ _=_;rw[e1];exact e2
theorem mw{e:ME}{G:Rho}(g:Nat->U)(P:Nat->Sto->Prop):∀(us:List U) (k:Nat) (acc:List U) (S:Sto),P k S ->
  (∀(j:Nat) (u:U) (S:Sto),us[j]?=some u->P (k+j) S->∃S',e (G++[some u]) S=some (g (k+j),S')/\P (k+j+1) S') ->
  ∃S',fR cTT e G us acc S=some (acc++(ax us.length).map (λj=>g (k+j)),S')/\P (k+us.length) S'
 |[],k,acc,S,h,_=>⟨S,by simp[fR],h⟩
 | u::us,k,acc,S,h,st=>by
   obtain⟨S1,e1,h1⟩:=st 0 u S rfl h;obtain⟨S2,e2,h2⟩:=mw g P us (k+1) _ S1 h1 λj v S hj hp=>by
    have:=st (j+1) v S (by simpa using hj) (by rw[show k+(j+1)=k+1+j by omega];omega);rw[show k+(j+1)=k+1+j by omega]at this;omega
   refine⟨S2,?_,by rw[show k+(u::us).length=k+1+us.length by simp;omega];omega⟩;show bnd _ _=_;simp only[cTT,aB,if_true];rw[e1];simp only[aB];rw[e2];simp only[aU,jP,yC,and_true];rw[bI,List.range_succ_eq_map,dH,dM];simp only[List.singleton_append,List.append_cancel_left_eq,List.cons.injEq,true_and];apply fC
   grind
def BQ(n:Nat)(g:Nat->U):U:= .tup ((ax n).map g)
theorem qE(h:n<big):okR (n:Int):=by
 unfold big at h;exact⟨by simp_all,by omega⟩
variable{G:Rho}{S0:Sto}{a:ME}{u:U}
theorem lr(ha:a G S=some (u,S0)):aa a ai G S=some ([u],S0):=by
 simp[aa,ai,ha,aB]
variable{j:Int}
theorem Ku{a:MA}(ha:a G S=some ([.int j],S0))(h:okR j):iR1 a G S=some (.imm (bx 0 j.toNat),S0):=by
 unfold iR1;rw[ha];exact if_pos h
theorem oE(ha:a G S=some (.int n,S0))(h:n<big):iR1 (aa a ai) G S=some (.imm (bx 0 n),S0):=by
 rw[Ku (lr ha) (qE h),uf]
variable{e:ME}{us ys:List U}
theorem mz{it:MI}{t:MT}(hi:it G S=some (.imm us,S0))(h:fR t e G us [] S0=some (ys,S1))(hz:ys.length<big):cy it t e G S=some (.ref S1.length,S1++[.lst ys]):=by
 simp only[cy,hi,aB,uH,h];exact if_pos hz
theorem gQ(h:a G S=some (.ref S1.length,S1++[.lst ys])):mFn cu (aa a ai) G S=some (.tup ys,S1++[.lst ys]):=by
 unfold mFn;rw[lr h];show(eh _ _).map _=_;have:eh (S1++[Cell.lst ys]) (.ref S1.length)=some ys:=by
  show getL _ _=_;unfold getL;simp
 rw[this];rfl
theorem I0{S:Sto}(ha:a G S=some (.int n,S0))(hn:n<big)(g:Nat->U)(P:Nat->Sto->Prop)(h0:P 0 S0)
  (hs:∀(j:Nat) (S:Sto),j<n->P j S->∃S',e (G++[some (.int j)]) S=some (g j,S')/\P (j+1) S'):
  ∃S',mFn cu (aa (cy (iR1 (aa a ai)) cTT e) ai) G S=some (BQ n g,S'++[.lst ((ax n).map g)])/\P n S':=by
 obtain⟨S1,e1,h1⟩:=mw g P (bx 0 n) 0 [] S0 h0 λj u S hj hp=>by
  have hl:=by have:=(ah.mp hj).1;simpa [bx]using this
  have hu:(bx 0 n)[j]?=some (.int j):=by simp[bx,hl]
  rw[hu]at hj;cases hj;simpa using hs j S hl (by simpa using hp)
 have hlen:(bx 0 n).length=n:=by simp[bx]
 simp[hlen]at e1 h1;exact⟨S1,gQ (mz (oE ha hn) e1 (by simp_all)),h1⟩
theorem Ny{S:Sto}(ha:a G S=some (.tup us,S0))(hn:us.length<big)(g:Nat->U)(P:Nat->Sto->Prop)(h0:P 0 S0)
  (hs:∀(j:Nat) (u:U) (S:Sto),us[j]?=some u->P j S->∃S',e (G++[some u]) S=some (g j,S')/\P (j+1) S'):
  ∃S',mFn cu (aa (cy (di a) cTT e) ai) G S=some (BQ us.length g,S'++[.lst ((ax us.length).map g)])/\P us.length S':=by
 obtain⟨S1,e1,h1⟩:=mw g P us 0 [] S0 h0 λj u S hj hp=>by
  simpa using hs j u S hj (by simpa using hp)
 simp at e1 h1;exact⟨S1,gQ (mz (by unfold di;rw[ha];rfl) e1 (by simp_all)),h1⟩
def sk(m:Nat)(T:Nat->Nat->Nat)(i:Nat):U:=BQ m λj=>.int (T i j)
def tab(m:Nat)(T:Nat->Nat->Nat):U:=BQ m (sk m T)
variable{i:Nat}
theorem mI{α:Type}{f:Nat->α}(h:i<m):atI ((ax m).map f) (i:Int)=some (f i):=by
 simp[atI,ixN,h]
theorem j0(h:0<n)(hn:n<big):∃S',cf [.int n] S=some (tab n (fq n),S')/\Ex S S':=by
 have key:∃S',mFn cu (aa (cy (iR1 (aa (ae 0) ai)) cTT (mFn cu (aa (cy (iR1 (aa (ae 0) ai)) cTT (m2 oMod (m2 dc (ae 1) (ae 2)) (ae 0))) ai))) ai) [some (.int n)] S=some (BQ n (sk n (fq n)),S'++[.lst ((ax n).map (sk n (fq n)))])/\Ex S S':=by
  refine I0 (by simp[ae]) hn _ (λ_ S'=>Ex S S') (Ex.refl S) λi S1 hi hx=>?_;obtain⟨S2,e2,h2⟩:=I0 (G:= [some (.int n),some (.int i)]) (S:=S1) (a:=ae 0) (e:=m2 oMod (m2 dc (ae 1) (ae 2)) (ae 0)) (by simp[ae]) hn (λj=>.int (fq n i j)) (λ_ S'=>S'=S1) rfl λj S' hj hx=>by
   refine⟨S',?_,hx⟩;have h0:(0:Int)<n:=by omega
   simp only[m2,ae,eN,dR,List.getElem?_cons_succ,List.getElem?_cons_zero,aB,dc,oMod,h0,if_true,fq,m7,yK]
  subst h2;exact⟨_,e2,hx.trans (Ex.push _ _)⟩
 obtain⟨S',e,hx⟩:=key;refine⟨S'++[.lst ((ax n).map (sk n (fq n)))],?_,hx.trans (Ex.push _ _)⟩;simp[cf,_G.run,l8,dS,bI,List.length_nil,dH,List.map_nil,kh,List.replicate_zero,bP,if_true,e,aB,tab]
theorem uQ(h:0<n)(h2:n<1000):si (n:Int):=⟨by omega,by omega⟩
theorem qy{i:Int}(h1: -1000000000<=i)(h2:i<=1000000000):jI i j:= .inl ⟨by omega,by omega⟩
theorem uY(h:n<1000000):jI (n:Int) j:=qy (by simp_all) (by omega)
def Agr(L:List Nat)(G' G:Rho):Prop:=G.length=G'.length /\ ∀i,i∉L->G[i]?=G'[i]?
theorem Agr.refl(L:List Nat)(G:Rho):Agr L G G:=⟨rfl,λ_ _=>rfl⟩
variable{L:List Nat}{G':Rho}{v:Option U}
theorem Agr.set(h:Agr L G' G)(hi:i∈L):Agr L G' (G.set i v):=
 ⟨by rw[ip];exact h.1,λj hj=>by rw[aC (by grind)];exact h.2 j hj⟩
structure Sm(b:Nat)(S0 S:Sto):Prop where
 len:S0.length<=S.length
 same:∀m,m<b->S[m]?=S0[m]?
theorem Sm.trans{b:Nat}{S0 S1 S2:Sto}(a:Sm b S0 S1)(c:Sm b S1 S2):Sm b S0 S2:=⟨aH a.len c.len,λm h=>(c.same m h).trans (a.same m h)⟩
variable{b:Nat}
theorem Sm.ex(h:Ex S0 S)(hb:b<=S0.length):Sm b S0 S:=⟨h.len,λm hm=>h.get (ak hm hb)⟩
theorem Sm.set(h:Sm b S0 S)(hn:b<=n):Sm b S0 (S.set n c):=
 ⟨by rw[ip];exact h.len,λm hm=>by rw[aC (by omega)];exact h.same m hm⟩
structure Wr(r:Nat)(S S':Sto):Prop where
 len:S.length<=S'.length
 same:∀m,m<S.length->m≠r->S'[m]?=S[m]?
theorem Wr.trans{r:Nat}{S S1 S2:Sto}(a:Wr r S S1)(b:Wr r S1 S2):Wr r S S2:=
 ⟨aH a.len b.len,λm h1 h2=>(b.same m (ak h1 a.len) h2).trans (a.same m h1 h2)⟩
theorem Wr.refl(r:Nat)(S:Sto):Wr r S S:=⟨ao _,λ_ _ _=>rfl⟩
variable{r:Nat}
theorem Wr.ex(h:Ex S S'):Wr r S S':=⟨h.len,λm hm _=>h.get hm⟩
theorem Wr.set(r:Nat)(S:Sto)(c:Cell):Wr r S (S.set r c):=⟨by simp,λm _ h=>aC (dj h)⟩
theorem Wr.sm(h:Wr r S S')(hb:b<=r)(hr:b<=S.length):Sm b S S':=⟨h.len,λm hm=>h.same m (by exact ak (by omega) (by omega)) (by omega)⟩
theorem oS(h:i<G.length):(G.set i v)[i]?=some v:=aM h
theorem var_eq(h:G[i]?=some (some u)):ae i G S=some (u,S):=by simp[ae,h]
variable{b:MS}
theorem Eb(ha:a G S=some (.int n,S))(h:n<big):fB i (iR1 (aa a ai)) b G S=yk i b (bx 0 n) G S:=by
 unfold fB;rw[oE ha h];rfl
theorem mP{G:Rho}{S:Sto}(ha:a G S=some (.int n,S))(h:n<big)(P:Nat->Rho->Sto->Prop)(h0:P 0 G S)
  (st:∀(j:Nat) (G:Rho) (S:Sto),j<n->P j G S->∃Y4 S',b (G.set i (some (.int j))) S=some (.nx,Y4,S')/\P (j+1) Y4 S'):
  ∃Y4 S',fB i (iR1 (aa a ai)) b G S=some (.nx,Y4,S')/\P n Y4 S':=by
 rw[Eb ha h];obtain⟨Y4,S',e,q⟩:=tm P (bx 0 n) 0 G S h0 λj u G S hj hp=>by
  have hl:=by have:=(ah.mp hj).1;simpa [bx]using this
  have hu:(bx 0 n)[j]?=some (.int j):=by simp[bx,hl]
  rw[hu]at hj;cases hj;simpa using st j G S hl (by simpa using hp)
 have hlen:(bx 0 n).length=n:=by simp[bx]
 rw[hlen,eA]at q;exact⟨_,S',e,q⟩
variable{o:ME}{row:List U}
theorem append_eq(ho:o G S=some (.ref r,S))(ha:a G S=some (u,S1))(hr:S[r]?=some (Cell.lst row))(ZZ:S1[r]?=some (Cell.lst row))(hl:row.length<big):
  d7 (mML bZ o (aa a ai)) G S=some (.nx,G,S1.set r (Cell.lst (row++[u]))):=by
 simp[d7,mML,ho,aB,getL,hr,lr ha,bZ,ZZ,hl]
theorem lI(ha:a G S=some (.ref r,S))(hr:S[r]?=some (Cell.lst row)):mFn cu (aa a ai) G S=some (.tup row,S):=by
 simp[mFn,lr ha,aB,cu,eh,getL,hr]
variable{T:Nat->Nat->Nat}
theorem build{fs rs is js:Nat}{TN:MS}(hm:m<big)(h1:rs∈L)(h2:is∈L)(h3:js∈L)(h4:fs∉L)(d1:rs≠is)(d2:js≠is)(d3:js≠rs)
  (l1:rs<G'.length) (l2:is<G'.length) (l3:js<G'.length) (hf:G'[fs]?=some (some (.ref S0.length)))
  (ha:∀G S,Agr L G' G->Sm S0.length S0 S->a G S=some (.int m,S))
  (hb: ∀(i j r:Nat) (G:Rho) (S:Sto) (row:List U),i<m->j<m->Agr L G' G->G[is]? = some (some (.int i))->G[js]? = some (some (.int j))->G[rs]? = some (some (.ref r))->Sm S0.length S0 S->S0.length<r->S[r]? = some (Cell.lst row)->row.length<big ->
   ∃Y4 S',TN G S=some (.nx,Y4,S')/\Agr L G' Y4/\Y4[is]? = some (some (.int i))/\Y4[rs]? = some (some (.ref r))/\Wr r S S'/\S'[r]? = some (Cell.lst (row++[.int (T i j)]))):
  ∃Y4 S',fB is (iR1 (aa a ai)) (bh (bD rs (b9 ai)) (bh (fB js (iR1 (aa a ai)) TN) (d7 (mML bZ (ae fs) (aa (mFn cu (aa (ae rs) ai)) ai))))) G' (S0++[Cell.lst []])=some (.nx,Y4,S') /\
   Agr L G' Y4/\Sm S0.length S0 S'/\S'[S0.length]?=some (Cell.lst ((ax m).map (sk m T))):=by
 have s0:Sm _ S0 (S0++[Cell.lst []]):=Sm.ex (Ex.push _ _) (ao _);refine mP (P:=λk G S=>Agr L _ G/\Sm _ S0 S/\S0.length<S.length/\S[S0.length]?=some (Cell.lst ((ax k).map _))) (ha _ _ (Agr.refl _ _) s0) hm ⟨Agr.refl _ _,s0,by simp,by simp⟩ ?_ |>.imp λY4 h=>h.imp λS' h=>⟨h.1,h.2.1,h.2.2.1,h.2.2.2.2⟩
 rintro i G S hi ⟨g1,g2,g3,g4⟩;have e0:bD rs (b9 ai) (G.set is (some (.int i))) S=some (.nx,(G.set is (some (.int i))).set rs (some (.ref S.length)),S++[Cell.lst []]):=by
  have hz:([]:List U).length<=big:=cU _;simp[bD,b9,ai,aB,if_true]
 have ga:Agr L _ ((G.set is (some (.int i))).set rs (some (.ref S.length))):=(g1.set h2).set h1;have gs:Sm _ S0 (S++[Cell.lst []]):=g2.trans (Sm.ex (Ex.push _ _) g2.len);obtain⟨Y5,S1,e1,q1,q2,q3,q4,q5⟩:=mP (P:=λk Y5 S1=>Agr L _ Y5/\Y5[is]?=some _/\Y5[rs]?=some _/\Wr _ _ S1/\S1[S.length]?=some (Cell.lst ((ax k).map _)))
  (ha _ _ ga gs) hm ⟨ga,by rw[aC d1,oS (by rw[g1.1];exact l2)],by rw[oS (by rw[ip,g1.1];exact l1)],Wr.refl _ _,by simp⟩ (by
   rintro j Y5 S1 hj ⟨q1,q2,q3,q4,q5⟩;have U5:=gs.trans (q4.sm (aE g3) (by simp;omega));obtain⟨X0,S2,f1,f2,f3,f4,f5,f6⟩:=hb i j _ _ S1 _ hi hj (q1.set h3) (by rw[aC d2];exact q2) (oS (by rw[q1.1];exact l3)) (by rw[aC d3];exact q3) U5 g3 q5 (by rw[ar,be];exact bg (by assumption) (by assumption))
   exact⟨_,S2,f1,f2,f3,f4,q4.trans f5,by rw[f6,ir,bS];rfl⟩)
 have g5:S1[S0.length]?=some (Cell.lst ((ax i).map (sk m T))):=by
  rw[q4.same _ (by simp;exact eG (by assumption)) (by exact aL (by assumption)),(Ex.push S _).get g3];exact g4
 have U5:=gs.trans (q4.sm (aE g3) (by simp;omega));have R8:ae fs _ S1=some _:=var_eq (by rw[q1.2 fs h4];exact hf);have e2:=append_eq R8 (lI (var_eq q3) q5) g5 g5 (by rw[ar,be];exact bg (by assumption) (by assumption));refine⟨_,S1.set _ (Cell.lst ((ax (i+1)).map (sk m T))),?_,q1,U5.set (ao _),?_,?_⟩
 .simp only[bh,e0,e1,e2]
  rw[ir,bS];rfl
 .rw[ip];have:=q4.len;simp at this;exact bg (by assumption) (by assumption)
 .exact aM (by have:=q4.len;simp at this;exact bg (by assumption) (by assumption))
def vJ:MS:=bh (bD 5 (m2 oMod (m2 dc (m2 oMod (ae 2) (ae 0)) (m2 ig (m2 oIx (b9 (aa (mC (.int 1)) (aa (m1 ot (mC (.int 1))) ai))) (m2 oDiv (ae 2) (ae 0))) (m2 oMod (ae 4) (ae 0)))) (ae 0))) (d7 (mML bZ (ae 3) (aa (m2 dc (ae 5) (m2 ig (ae 0) (m2 oMod (m2 dc (m2 oDiv (ae 2) (ae 0)) (m2 oDiv (ae 4) (ae 0))) (mC (.int 2))))) ai)))
variable{f:Nat}
theorem Bi{n i c:Int}{x y:Option U}(h0:0<n)(hd:si n)(hc:atI [U.int 1,U.int (-1)] (i/n)=some (.int c))(k1:jI c (j%n))(k2:jI n ((i/n+j/n)%2))
  (hr:(S++[Cell.lst [U.int 1,U.int (-1)]])[r]?=some (Cell.lst row)) (hl:row.length<big):
  vJ ([some (U.int n),some (U.ref f),some (U.int i),some (U.ref r),x,y].set 4 (some (U.int j))) S =
   some (Fl.nx,[some (U.int n),some (U.ref f),some (U.int i),some (U.ref r),some (U.int j),some (U.int ((i%n+c*(j%n))%n))],(S++[Cell.lst [U.int 1,U.int (-1)]]).set r (Cell.lst (row++[U.int ((i%n+c*(j%n))%n+n*((i/n+j/n)%2))]))):=by
 have Xh:2<=big:=by decide
 simp[vJ,bh,bD,m2,m1,ae,mC,b9,aa,ai,bnd,oMod,dc,ig,oDiv,oIx,fJ,ot,eh,getL,h0,hd,Xh,hc,k1,k2,d7,mML,bZ,hr,hl]
variable{j:Nat}
theorem Dc{x y:Option U}(hn:0<n)(YD:n<1000)(hi:i<2*n)(hj:j<2*n)(hr:S[r]?=some (Cell.lst row))(hl:row.length<big):
  ∃z,vJ ([some (U.int n),some (U.ref f),some (U.int i),some (U.ref r),x,y].set 4 (some (U.int j))) S =
   some (Fl.nx,[some (U.int n),some (U.ref f),some (U.int i),some (U.ref r),some (U.int j),z],(S++[Cell.lst [U.int 1,U.int (-1)]]).set r (Cell.lst (row++[U.int (iw n i j:Nat)]))):=by
 have hd:=uQ hn YD;have h0:(0:Int)<n:=by omega
 have ZV:=(Ex.push S (Cell.lst [U.int 1,U.int (-1)])).some hr;have hk:jI n ((i/n+j/n)%2):=uY (by exact ak (by omega) (by decide));have hc:∃c:Int,atI [U.int 1,U.int (-1)] (i/n)=some (.int c)/\jI c (j%n)/\(i%n+c*(j%n))%n+n*((i/n+j/n)%2)=(iw n i j):=by
  rcases half hi with⟨h1,h2,h3⟩|⟨h1,h2,h3⟩
  .refine⟨1,?_,qy (by decide) (by decide),?_⟩
   .have:(i:Int)/n=0:=by rw[<-wx,h3];rfl
    rw[this];rfl
   .unfold iw<;>simp_all
  .refine⟨-1,?_,qy (by decide) (by decide),?_⟩
   .have:(i:Int)/n=1:=by rw[<-wx,h3];rfl
    rw[this];rfl
   .unfold iw
    have hjm:j%n<n:=kQ _ hn;rw[if_neg (by omega)];have e1:(i%n + -1*((j:Int)%n))%n=((i%n+(n-j%n))%n:Nat):=by
     have e2:((n-j%n:Nat):Int)=n-j%n:=by omega
     rw[m7,yK,e2,m7];rw[show i%n+(n-j%n)=(i%n + -1*((j:Int)%n))+n by omega,Int.add_emod_right]
    rw[e1];rfl
 obtain⟨c,c1,c2,c3⟩:=hc;rw[<-c3];exact⟨_,Bi h0 hd c1 c2 hk ZV hl⟩
theorem aY{a:MS}{Y5:Rho}(h:a G S=some (.nx,Y5,S1)):bh a b G S=b Y5 S1:=by simp[bh,h]
theorem du(h:e G S=some (u,S1)):dS e G S=some (.rt u,G,S1):=by simp[dS,h,aB]
theorem bB(h:e G S=some (u,S1)):bD i e G S=some (.nx,G.set i (some u),S1):=by simp[bD,h,aB]
theorem mG:b9 ai G S=some (.ref S.length,S++[Cell.lst []]):=by
 simp[b9,ai,aB]
theorem dv{k:Nat}(hl:us.length=k)(h:b (us.map some++cp (n-k) none) S=some (.rt u,G,S1)):_G.run k n b us S=some (u,S1):=by
 simp[_G.run,hl,h]
theorem Sm.toEx(h:Sm S.length S S'):Ex S S':=by
 refine⟨S'.drop S.length,kY λi=>?_⟩;by_cases hi:i<S.length
 .rw[aS hi];exact h.same i hi
 .rw[br (by simp_all),List.getElem?_drop];grind
theorem Pr(h:G.length=6):∃a b c d e f,G=[a,b,c,d,e,f]:=by
 have k:∀{n:Nat}{l:Rho},l.length=n+1->∃a r,l=a::r/\r.length=n:=λ{n l} h=>by
  cases l with
  |nil=>cases h
  |cons a r=>exact⟨a,r,rfl,yO h⟩
 obtain⟨a,r1,rfl,h1⟩:=k h;obtain⟨b,r2,rfl,h2⟩:=k h1;obtain⟨c,r3,rfl,h3⟩:=k h2;obtain⟨d,r4,rfl,h4⟩:=k h3;obtain⟨e,r5,rfl,h5⟩:=k h4;obtain⟨f,r6,rfl,h6⟩:=k h5
 grind
theorem ye(hn:0<n)(YD:n<1000):∃S',fO [.int n] S=some (tab (2*n) (iw n),S')/\Ex S S':=by
 have ZF:2*n<big:=by unfold big;omega
 obtain⟨Y5,S1,e1,q1,q2,q3⟩:=build (fs:=1) (rs:=3) (is:=2) (js:=4) (L:= [2,3,4,5]) (G':= [some (.int n),some _,none,none,none,none]) (a:=m2 ig (mC (.int 2)) (ae 0))
  ZF (by decide) (by decide) (by decide) (by decide) (by decide) (by decide) (by decide) (by simp) (by simp) (by simp) rfl
  (λG S' g s=>by
   have h0:=g.2 0 (by decide);have hk:jI 2 n:=qy (by decide) (by decide);simp only[m2,mC,aB,var_eq h0,ig,hk]
   rfl)
  (λi j r G S' row hi hj g gi gj gr s hr he hl=>by
   obtain⟨a,b,c,d,e,f,rfl⟩:=Pr g.1;have h0:=g.2 0 (by decide);have h1:=g.2 1 (by decide);simp at h0 h1 gi gj gr;subst h0 h1 gi gj gr;obtain⟨z,ez⟩:=Dc (x:=none) hn YD hi hj he hl;refine⟨_,_,ez,⟨rfl,λk hk=>?_⟩,rfl,rfl,(Wr.ex (Ex.push _ _)).trans (Wr.set _ _ _),?_⟩
   .match k with
    |0=>rfl
    |1=>rfl
    |2=>exact absurd (by decide) hk
    |3=>exact absurd (by decide) hk
    |4=>exact absurd (by decide) hk
    |5=>exact absurd (by decide) hk
    |k+6=>rfl
   ·exact aM (by have:=(ah.mp he).1;simp;exact eG (by assumption)))
 have e2:=lI (var_eq (by rw[q1.2 1 (by decide)];rfl)) q3;refine⟨S1,dv (G:=Y5) rfl ?_,?_⟩
 .exact(aY (bB mG)).trans ((aY e1).trans (du e2))
 .exact q2.toEx
section
variable {G:Rho}{S S1 S2:Sto}{a b:ME}
theorem op2{f:F2}{x y:U}{r:Res U}(ha:a G S=some (x,S1))(hb:b G S1=some (y,S2))(h:f x y S2=r):m2 f a b G S=r:=by simp[m2,ha,hb,aB,h]
variable{z:Int}
theorem EU(ha:a G S=some (.tup us,S1))(hb:b G S1=some (.int z,S2))(h:atI us z=some u):m2 oIx a b G S=some (u,S2):=op2 ha hb (by simp[oIx,fJ,eh,h])
theorem r9(ha:a G S=some (.ref n,S1))(hb:b G S1=some (.int z,S2))(hn:S2[n]?=some (Cell.lst us))(h:atI us z=some u):m2 oIx a b G S=some (u,S2):=op2 ha hb (by simp[oIx,fJ,eh,getL,hn,h])
variable{x y:Int}
theorem Mu(ha:a G S=some (.int x,S1))(hb:b G S1=some (.int y,S2)):m2 dc a b G S=some (.int (x+y),S2):=op2 ha hb rfl
theorem Ai(ha:a G S=some (.int x,S1))(hb:b G S1=some (.int y,S2)):m2 rG a b G S=some (.int (x-y),S2):=op2 ha hb rfl
theorem Ou(ha:a G S=some (.int x,S1))(hb:b G S1=some (.int y,S2))(h:jI x y):m2 ig a b G S=some (.int (x*y),S2):=op2 ha hb (if_pos h)
theorem Nu(ha:a G S=some (.int x,S1))(hb:b G S1=some (.int y,S2))(h:si y):m2 oDiv a b G S=some (.int (x/y),S2):=op2 ha hb (if_pos h)
theorem Jv(ha:a G S=some (.int x,S1))(hb:b G S1=some (.int y,S2))(h:0<y):m2 oMod a b G S=some (.int (x%y),S2):=op2 ha hb (if_pos h)
theorem c_i:mC (.int z) G S=some (.int z,S):=rfl
theorem EW(ha:a G S=some (.tup us,S1)):mFn cR (aa a ai) G S=some (.int us.length,S1):=by
 simp[mFn,lr ha,aB,cR,fJ,eh]
theorem len_tab(ha:a G S=some (tab m T,S1)):mFn cR (aa a ai) G S=some (.int m,S1):=by
 rw[EW ha,ar,be]
theorem jw(hi:i<m)(ha:a G S=some (tab m T,S1))(hb:b G S1=some (.int i,S2)):m2 oIx a b G S=some (sk m T i,S2):=EU ha hb (mI hi)
theorem jQ(hj:j<m)(ha:a G S=some (sk m T i,S1))(hb:b G S1=some (.int j,S2)):m2 oIx a b G S=some (.int (T i j),S2):=EU ha hb (mI hj)
variable{x y:Nat}
theorem pW(ha:a G S=some (.int x,S1))(hb:b G S1=some (.int y,S2))(h:0<y)(h2:y<1000):m2 oDiv a b G S=some (.int (x/y:Nat),S2):=by rw[Nu ha hb (uQ h h2),wx]
theorem Ag(ha:a G S=some (.int x,S1))(hb:b G S1=some (.int y,S2))(h:0<y):m2 oMod a b G S=some (.int (x%y:Nat),S2):=by rw[Jv ha hb (by omega),m7]
theorem Fb(ha:a G S=some (.int x,S1))(hb:b G S1=some (.int y,S2))(h:x<1000000):m2 ig a b G S=some (.int (x*y:Nat),S2):=by rw[Ou ha hb (uY h),Int.natCast_mul]
theorem add_n(ha:a G S=some (.int x,S1))(hb:b G S1=some (.int y,S2)):m2 dc a b G S=some (.int (x+y:Nat),S2):=by rw[Mu ha hb,yK]
end
theorem Agr.of(h:Agr L G' G)(hi:i∉L)(e:G'[i]?=some v):G[i]?=some v:=(h.2 i hi).trans e
def Qc:MS:=bh (bD 7 (m2 oIx (m2 oIx (ae 0) (m2 oDiv (ae 4) (ae 2))) (m2 oDiv (ae 6) (ae 2)))) (d7 (mML bZ (ae 5) (aa (m2 dc (m2 ig (ae 7) (ae 2)) (m2 oIx (m2 oIx (ae 1) (m2 oMod (ae 4) (ae 2))) (m2 oMod (ae 6) (ae 2)))) ai)))
theorem HP{k:Nat}{A B:Nat->Nat->Nat}(hk:0<k)(Vv:k<1000)(hm:0<m)(Ys:m<1000)(ca:∀i j,i<k->j<k->A i j<k):∃S',kz [tab k A,tab m B] S=some (tab (k*m) (rP m A B),S')/\Ex S S':=by
 have Sa:=by
  calc k*m<=999*m:=pN m (by exact eF (by assumption))
   _<=999*999:=qr _ (by exact eF (by assumption))
   _<1000000:=by decide
 have ZF:k*m<big:=by exact ak (by assumption) (by decide)
 have dl:∀i,i<k*m->i/m<k:=λi hi=>Nat.div_lt_of_lt_mul (by rw[ki];exact hi);have rl:∀i,i%m<m:=λi=>kQ _ hm;obtain⟨Y5,S1,e1,q1,q2,q3⟩:=build (fs:=3) (rs:=5) (is:=4) (js:=6) (L:= [4,5,6,7]) (G':= [some _,some (tab m B),some _,some _,none,none,none,none]) (a:=m2 _ (mFn _ (aa (ae 0) _)) (ae 2)) (T:=rP m A B)
  ZF (by decide) (by decide) (by decide) (by decide) (by decide) (by decide) (by decide) (by simp) (by simp) (by simp) rfl
  (λG S' g s=>Fb (len_tab (var_eq (g.of (by decide) rfl))) (var_eq (g.of (by decide) rfl)) (by exact ak (by assumption) (by decide)))
  (λi j r G S' row hi hj g gi gj gr s hr he hl=>by
   have v0:∀S',ae 0 G S'=some _:=λS'=>var_eq (g.of (by decide) rfl);have v2:∀S',ae 2 G S'=some _:=λS'=>var_eq (g.of (by decide) rfl);have e7:m2 _ _ _ G S'=some _:=
    jQ (dl j hj) (jw (dl i hi) (v0 _) (pW (var_eq gi) (v2 _) hm Ys)) (pW (var_eq gj) (v2 _) hm Ys)
   have hlen:G.length=8:=g.1;have g':Agr _ _ (G.set 7 (some (.int (A (i/m) (j/m))))):=g.set (by decide);have w2:∀S',ae 2 _ S'=some _:=λS'=>var_eq (g'.of (by decide) rfl);have w1:∀S',ae 1 _ S'=some _:=λS'=>var_eq (g'.of (by decide) rfl);have w7:∀S',ae 7 (G.set 7 _) S'=some (.int (A (i/m) (j/m)),S'):=λS'=>var_eq (oS (by omega));have n4:(G.set 7 (some (.int (A (i/m) (j/m)))))[4]?=some (some (.int i)):=by rw[aC (by decide)];exact gi
   have n5:(G.set 7 (some (.int (A (i/m) (j/m)))))[5]?=some (some (.ref r)):=by rw[aC (by decide)];exact gr
   have n6:(G.set 7 (some (.int (A (i/m) (j/m)))))[6]?=some (some (.int j)):=by rw[aC (by decide)];exact gj
   have hA:A _ _<1000000:=bg (ca _ _ (dl i hi) (dl j hj)) (by exact ak (by assumption) (by decide));have ev:m2 _ _ _ _ S'=some _:=
    add_n (Fb (w7 _) (w2 _) hA) (jQ (rl j) (jw (rl i) (w1 _) (Ag (var_eq n4) (w2 _) hm)) (Ag (var_eq n6) (w2 _) hm))
   exact⟨_,_,(aY (bB e7)).trans (append_eq (var_eq n5) ev he he hl),g',n4,n5,Wr.set _ _ _,aM (ah.mp he).1⟩)
 have e2:mFn _ (aa (ae 3) _) _ S1=some _:=lI (var_eq (q1.of (by decide) rfl)) q3;refine⟨S1,dv (G:=Y5) rfl ?_,q2.toEx⟩;exact(aY (bB (len_tab (var_eq rfl)))).trans ((aY (bB mG)).trans ((aY e1).trans (du e2)))
def tS:Nat->Nat->Nat:=λa b=>([[0,0,0,0],[0,1,0,1],[0,1,1,0],[0,0,1,1]].getD a []).getD b 0
def El:Nat->Nat->Nat:=λa b=>([[0,1,2,3],[1,0,3,2],[2,3,0,1],[3,2,1,0]].getD a []).getD b 0
def xr(i j:Nat):Nat:=2*El (i/2) (j/2)+(i+j+tS (i/2) (j/2))%2
theorem EX:((ax 8).all λi=>(ax 8).all λj=>xr i j==ic i j)=true:=by decide +kernel
theorem Bh(hi:i<8)(hj:j<8):xr i j=ic i j:=by
 have h:=d8.mp (d8.mp EX i (aO.mpr hi)) j (aO.mpr hj);exact eq_of_beq h
def Pj:MS:=bh (bD 6 (m2 oMod (m2 dc (m2 dc (ae 3) (ae 5)) (m2 oIx (m2 oIx (ae 0) (m2 oDiv (ae 3) (mC (.int 2)))) (m2 oDiv (ae 5) (mC (.int 2))))) (mC (.int 2)))) (d7 (mML bZ (ae 4) (aa (m2 dc (m2 ig (mC (.int 2)) (m2 oIx (m2 oIx (ae 1) (m2 oDiv (ae 3) (mC (.int 2)))) (m2 oDiv (ae 5) (mC (.int 2))))) (ae 6)) ai)))
def vZ(T:Nat->Nat->Nat)(a:Nat):Cell:= .lst ((ax 4).map λb=>.int (T a b))
def E5(s:Nat):Cell:= .lst ((ax 4).map λa=>.ref (s+a))
def ten(s:Nat):Sto:= [vZ tS 0,vZ tS 1,vZ tS 2,vZ tS 3,E5 s,vZ El 0,vZ El 1,vZ El 2,vZ El 3,E5 (s+5)]
theorem look{k:Nat}(s:Sm (S++ten S.length).length (S++ten S.length) S')(hk:(ten S.length)[k]?=some c)(hn:n=S.length+k):S'[n]?=some c:=by
 have hl:=(ah.mp hk).1;rw[s.same n (by grind)]
 grind
variable{x q:Nat}
theorem xX{S:Sto}{v p y:Nat}(hv:G[v]?=some (some (.ref x)))(hx:S'[x]?=some (E5 y))(hy:∀a,a<4->S'[y+a]?=some (vZ T a))(hi:G[p]?=some (some (.int i)))(hj:G[q]?=some (some (.int j)))(li:i<8)(lj:j<8):
  m2 oIx (m2 oIx (ae v) (m2 oDiv (ae p) (mC (.int 2)))) (m2 oDiv (ae q) (mC (.int 2))) G S'=some (.int (T (i/2) (j/2)),S'):=
 r9 (r9 (var_eq hv) (pW (y:=2) (var_eq hi) c_i (by decide) (by decide)) hx (mI (by omega))) (pW (y:=2) (var_eq hj) c_i (by decide) (by decide)) (hy _ (by omega)) (mI (by omega))
variable{y z:Int}
theorem jC{x w:Int}:b9 (aa (mC (.int x)) (aa (mC (.int y)) (aa (mC (.int z)) (aa (mC (.int w)) ai)))) G S=some (.ref S.length,S++[Cell.lst [.int x,.int y,.int z,.int w]]):=by
 have hz:4<=big:=by decide
 simp[b9,aa,mC,ai,aB,hz]
variable{b:ME}
theorem x9{S3 S4:Sto}{c d:ME}{x y z w:U}(ha:a G S=some (x,S1))(hb:b G S1=some (y,S2))(hc:c G S2=some (z,S3))(hd:d G S3=some (w,S4)):
  b9 (aa a (aa b (aa c (aa d ai)))) G S=some (.ref S4.length,S4++[Cell.lst [x,y,z,w]]):=by
 have hz:4<=big:=by decide
 simp only[b9,aa,ai,aB,ha,hb,hc,hd];simp[hz]
theorem zo:∃S',iJ [] S=some (tab 8 ic,S')/\Ex S S':=by
 have e0:=x9 (G:= [none,none,none,none,none,none,none]) (S:=S) (jC (x:=0) (y:=0) (z:=0) (w:=0)) (jC (x:=0) (y:=1) (z:=0) (w:=1)) (jC (x:=0) (y:=1) (z:=1) (w:=0)) (jC (x:=0) (y:=0) (z:=1) (w:=1));have e1:=x9 (G:= [some (.ref (S.length+4)),none,none,none,none,none,none]) (S:=S++(ten S.length).take 5) (jC (x:=0) (y:=1) (z:=2) (w:=3)) (jC (x:=1) (y:=0) (z:=3) (w:=2)) (jC (x:=2) (y:=3) (z:=0) (w:=1)) (jC (x:=3) (y:=2) (z:=1) (w:=0));have QK:=e0.trans (by simp;rfl);have VH:=e1.trans (by simp;rfl);obtain⟨Y5,S1,f1,q1,q2,q3⟩:=build (fs:=2) (rs:=4) (is:=3) (js:=5) (L:= [3,4,5,6]) (G':= [some _,some _,some _,none,none,none,none]) (m:=8)
  (by decide) (by decide) (by decide) (by decide) (by decide) (by decide) (by decide) (by decide) (by simp) (by simp) (by simp) rfl
  (λG S' g s=>rfl)
  (λi j r G S' row hi hj g gi gj gr s hr he hl=>by
   have hlen:G.length=7:=g.1;have hs:∀a,a<4->S'[S.length+a]?=some _:=λa ha=>look s (by match a,ha with | 0,_=>rfl | 1,_=>rfl | 2,_=>rfl | 3,_=>rfl) rfl;have Ql:∀a,a<4->S'[S.length+5+a]?=some _:=λa ha=>look (k:=5+a) s (by match a,ha with | 0,_=>rfl | 1,_=>rfl | 2,_=>rfl | 3,_=>rfl) (by omega);have t1:=xX (S:=S) (v:=0) (g.of (by decide) rfl) (look (k:=4) s rfl rfl) hs gi gj hi hj;have e6:=
    Ag (y:=2) (add_n (add_n (var_eq gi) (var_eq gj)) t1) c_i (by decide)
   have g':Agr _ _ (G.set 6 (some (.int ((i+j+tS (i/2) (j/2))%2)))):=g.set (by decide);have n3:(G.set 6 (some (.int ((i+j+tS (i/2) (j/2))%2))))[3]?=some (some (.int i)):=by rw[aC (by decide)];exact gi
   have n4:(G.set 6 (some (.int ((i+j+tS (i/2) (j/2))%2))))[4]?=some (some (.ref r)):=by rw[aC (by decide)];exact gr
   have n5:(G.set 6 (some (.int ((i+j+tS (i/2) (j/2))%2))))[5]?=some (some (.int j)):=by rw[aC (by decide)];exact gj
   have t2:=xX (S:=S) (v:=1) (g'.of (by decide) rfl) (look (k:=9) s rfl rfl) Ql n3 n5 hi hj;have ev:m2 dc (m2 ig (mC (.int 2)) (m2 oIx (m2 oIx (ae 1) (m2 oDiv (ae 3) (mC (.int 2)))) (m2 oDiv (ae 5) (mC (.int 2))))) (ae 6) (G.set 6 (some (.int ((i+j+tS (i/2) (j/2))%2)))) S'=some (.int (ic i j),S'):=by
    rw[<-Bh hi hj];exact add_n (Fb c_i t2 (by decide)) (var_eq (oS (by omega)))
   exact⟨_,_,(aY (bB e6)).trans (append_eq (var_eq n4) ev he he hl),g',n3,n4,Wr.set _ _ _,aM (ah.mp he).1⟩)
 have f2:mFn _ (aa (ae 2) _) Y5 S1=some _:=lI (var_eq (q1.of (by decide) rfl)) q3;refine⟨S1,dv (G:=Y5) rfl ?_,Ex.trans ⟨_,rfl⟩ q2.toEx⟩;exact(aY (bB QK)).trans ((aY (bB VH)).trans ((aY (bB mG)).trans ((aY f1).trans (du f2))))
theorem ur{e:ME}{G:Rho}(P:List U->Sto->Prop):∀(us acc:List U) (S:Sto),P acc S ->
  (∀(k:Nat) (Ze:List U) (u:U) (S:Sto),us[k]?=some u->Ze.length=acc.length+k->P Ze S->∃v S',e (G++[some u]) S=some (v,S')/\P (Ze++[v]) S') ->
  ∃ys S',fR cTT e G us acc S=some (ys,S')/\P ys S'/\ys.length=acc.length+us.length
 |[],acc,S,h,_=>⟨_,S,rfl,h,by simp⟩
 | u::us,acc,S,h,st=>by
   obtain⟨v,S1,e1,h1⟩:=st 0 _ u S rfl (by simp) h;obtain⟨ys,S2,e2,h2,h3⟩:=ur P us _ S1 h1 λk Ze w S hk hl hp=>st (k+1) _ w S (by simpa using hk) (by simp at hl;omega) hp;refine⟨ys,S2,?_,h2,by grind⟩;show bnd _ _=_;simp[cTT,aB];rw[e1];exact e2
theorem Bj{S:Sto}(ha:a G S=some (.int n,S0))(hn:n<big)(P:List U->Sto->Prop)(h0:P [] S0)
  (hs:∀(k:Nat) (acc:List U) (S:Sto),k<n->acc.length=k->P acc S->∃v S',e (G++[some (.int k)]) S=some (v,S')/\P (acc++[v]) S'):
  ∃ys S',mFn cu (aa (cy (iR1 (aa a ai)) cTT e) ai) G S=some (.tup ys,S'++[.lst ys])/\P ys S'/\ys.length=n:=by
 obtain⟨ys,S1,e1,h1,h2⟩:=ur P (bx 0 n) [] S0 h0 λk acc u S hk hl hp=>by
  have ZU:=by have:=(ah.mp hk).1;simpa [bx]using this
  have hu:(bx 0 n)[k]?=some (.int k):=by simp[bx,ZU]
  rw[hu]at hk;cases hk;exact hs k _ S ZU (by simpa using hl) hp
 have hlen:(bx 0 n).length=n:=by simp[bx]
 rw[hlen]at h2;simp at h2;exact⟨ys,S1,gQ (mz (oE ha hn) e1 (by rw[h2];omega)),h1,h2⟩
theorem Stp.set(h:Stp n S S')(hr:S.length<=r)(hn:r≠n):Stp n S (S'.set r c):=by
 refine⟨by rw[ip];exact h.len,λm h1 h2=>by rw[aC (by omega)];exact h.same m h1 h2,?_⟩;obtain⟨s,b,e⟩:=h.st;exact⟨s,b,by simp_all⟩
theorem Stp.step(a:Stp n S S1)(e:Ex S1 S2):Stp n S S2:=a.trans (Stp.ex a.st e)
theorem dC{f:MF}{x y:U}{r:Res U}(ha:a G S=some (x,S1))(hb:b G S1=some (y,S2))(h:f [x,y] S2=r):mFn f (aa a (aa b ai)) G S=r:=by
 simp[mFn,aa,ai,ha,hb,aB,h]
theorem gd{f:MF}{x:U}{r:Res U}(ha:a G S=some (x,S1))(h:f [x] S1=r):mFn f (aa a ai) G S=r:=by
 simp[mFn,lr ha,aB,h]
theorem AM(ha:a G S=some (.ref r,S))(hr:S[r]?=some (Cell.lst us)):mFn cR (aa a ai) G S=some (.int us.length,S):=
 gd ha (by simp[cR,fJ,eh,getL,hr])
theorem uB{α β:Type}(f:α->β):∀(l:List α) (j:Nat),(l.map f).eraseIdx j=(l.eraseIdx j).map f
 |[],_=>rfl
 |_::_,0=>rfl
 |x::l,j+1=>by simp[uB f l j]
def aA(l:List Nat):List U:=l.map λ(x:Nat)=>U.int x
variable{l:List Nat}
theorem xb(ho:o G S=some (.ref r,S))(ha:a G S=some (.int j,S1))(hr:S[r]?=some (Cell.lst (aA l)))(ZZ:S1[r]?=some (Cell.lst (aA l)))(hj:j<l.length)(hl:l.length<big):
  mML lh o (aa a ai) G S=some (.int l[j],S1.set r (Cell.lst (aA (l.eraseIdx j)))):=by
 have hok:okR j:=qE (by exact bg (by omega) (by omega));have hx:ixN (aA l).length j=some j:=by
  have:(aA l).length=l.length:=by simp[aA]
  rw[this];simp[ixN,hj]
 have hg:(aA l)[j]?=some (.int l[j]):=by simp[aA,hj]
 have he:(aA l).eraseIdx j=aA _:=uB _ _ _;simp[mML,ho,aB,getL,hr,lr ha,lh,ZZ,hok,hx,hg,he]
theorem ux{i j:Int}(ha:a G S=some (.int i,S))(hb:b G S=some (.int j,S))(h1:okR i)(h2:okR j)(hz:(bx i (j-i).toNat).length<=big):kI (iR2 (aa a (aa b ai))) G S=some (.ref S.length,S++[Cell.lst (bx i (j-i).toNat)]):=by
 have e:iR2 (aa a (aa b ai)) G S=some (.imm (bx i (j-i).toNat),S):=by
  unfold iR2;simp only[aa,ai,ha,hb,aB]
  simp_all
 simp[kI,e,aB,hz]
variable{xs:List U}
theorem cat_t(ha:a G S=some (.tup xs,S1))(hb:b G S1=some (.tup ys,S2))(hz:xs.length+ys.length<=big):m2 dc a b G S=some (.tup (xs++ys),S2):=op2 ha hb (by simp[dc,hz])
theorem kM(m:Nat)(hm:0<m):bx 1 ((m:Int)-1).toNat=aA (aQ 1 (m-1)):=by
 unfold bx aA;rw[List.range'_eq_map_range]
 simp_all
theorem EO(h:nN n S)(hm:0<m)(Ys:m<1000):∃l S',jN [.ref n,.int m] S=some (.tup (aA l),S')/\Stp n S S'/\o7 m l:=by
 have hn:=h.lt;have ZF:m<big:=by exact ak (by assumption) (by decide)
 have e0:kI (iR2 (aa (mC (.int 1)) (aa (ae 1) ai))) [some (.ref n),some (.int m),none] S=some (.ref S.length,S++[Cell.lst (aA (aQ 1 (m-1)))]):=by
  rw[ux rfl (var_eq rfl) ⟨by decide,by decide⟩ (qE ZF) (by rw[kM m hm,aA,ar,List.length_range'];exact aH (nS m 1) (aE ZF)),kM m hm]
 have RP:Stp n S (S++[Cell.lst (aA (aQ 1 (m-1)))]):=Stp.ex h (Ex.push _ _);obtain⟨ys,S1,e1,⟨tk,rem,rfl,q1,q2,q3⟩,e2⟩:=Bj (G:= [some _,some _,some _])
  (a:=m2 _ (ae 1) _)
  (by rw[Ai (var_eq rfl) c_i];congr 3;exact(Int.natCast_sub hm).symm) (aK (nS m 1) ZF)
  (λacc S'=>∃tk rem:List Nat,acc=aA tk/\S'[S.length]?=some (Cell.lst (aA rem))/\(tk++rem).Perm (aQ 1 (m-1))/\Stp n S S')
  ⟨[],aQ 1 (m-1),rfl,by simp,by simp,RP⟩
  (by
   rintro k acc S' hk hl ⟨tk,rem,rfl,q1,q2,q3⟩;have Vq:=by simpa [aA]using hl
   have XO:rem.length=m-1-k:=by
    have:=q2.length_eq;rw[bo,List.length_range',Vq]at this;rw[<-this,dB]
   have RQ:0<rem.length:=by rw[XO];exact Nat.sub_pos_of_lt hk
   have ZZ:rem.length<1000:=by rw[XO];exact aK (aH (nS _ _) (nS _ _)) Ys
   obtain⟨r,S2,t1,t2,t3,t4,t5⟩:=Aw q3.st (fX.mpr RQ) (by omega);obtain⟨j,rfl⟩:=Cz t2;have hj:=fX.mp t3;have ho:∀S',ae 2 ([some (U.ref n),some (.int m),some (.ref S.length)]++[some (.int k)]) S'=some _:=λS'=>var_eq rfl;have hv:∀S',ae 0 ([some (U.ref n),some (.int m),some (.ref S.length)]++[some (.int k)]) S'=some _:=λS'=>var_eq rfl;have hlen:mFn cR (aa (ae 2) ai) ([some (U.ref n),some (.int m),some (.ref S.length)]++[some (.int k)]) S'=some (.int rem.length,S'):=by
    rw[AM (ho _) q1];simp[aA]
   have TY:=t4.some (by exact cJ (by assumption)) q1;refine⟨_,_,xb (ho _) (dC (hv _) hlen t1) q1 TY hj (by exact ak ZZ (by decide)),tk++[rem[j]],rem.eraseIdx j,by simp[aA],?_,?_,?_⟩
   .exact aM (ah.mp TY).1
   .refine FK ?_ q2
    rw[aU];exact(qW rem j hj).append_left tk
   ·exact(q3.trans t4).set (ao _) (by exact cJ (by assumption)))
 have XO:rem=[]:=by
  have:=q2.length_eq;simp[aA]at this e2;exact fK (by omega)
 subst XO;rw[bP]at q2;refine⟨_,S1++[Cell.lst (aA tk)],dv (G:= [some (.ref n),some (.int m),some (.ref S.length)]) rfl ?_,q3.step (Ex.push _ _),BC hm q2⟩;refine(aY (bB e0)).trans (du ?_);have ez:gc (aa (mC (.int 0)) ai) [some (.ref n),some (.int m),some (.ref S.length)] (S++[Cell.lst (aA (aQ 1 (m-1)))])=some (.tup [.int 0],S++[Cell.lst (aA (aQ 1 (m-1)))]):=by
  have Yq:1<=big:=by decide
  simp[gc,lr (show mC _ _ _=some _ from rfl),aB,Yq]
 exact cat_t ez e1 (by simp[aA]at e2 ⊢;omega)
theorem Pi{i:Int}:toD S (f+1) (.int i)=some (.int i):=rfl
theorem qO{S:Sto}{f:Nat}:∀(l:List Nat),cZ (toD S (f+1)) (aA l)=some (l.map λ(x:Nat)=>iz x)
 |[]=>rfl
 | x::l=>by
   show(toD S _ _).bind _=_;rw[show tP _ l=aA l from rfl,qO l];rfl
theorem xH(x:Nat):∀(l:List Nat),x∈l->(l.map λ(x:Nat)=>iz x).findIdx? (λy=>iA y (.int x))=some (l.idxOf x)
 |[],h=>by simp at h
 | y::l,h=>by
   have e:iA (.int y) (.int x)=decide (y=x):=by
    simp[iA]<;>grind
   rw[dH,List.findIdx?_cons,e,List.idxOf_cons];by_cases XW:y=x
   .subst XW;simp
   .have hm:x∈l:=by
     grind
    have hb:(y==x)=false:=by simpa using XW
    rw[xH x l hm];simp[XW,hb]
theorem HK(h:x∈l):DF S (.int x) (aA l)=some (l.idxOf x):=by
 unfold DF;rw[qO l];exact xH x l h
theorem xf(ho:o G S=some (.tup (aA l),S))(ha:a G S=some (.int x,S1))(h:x∈l):mMT jK o (aa a ai) G S=some (.int (l.idxOf x:Nat),S1):=by
 simp only[mMT,ho,aB,lr ha,jK,HK h];rfl
theorem rM(h:(aA l)[j]?=some u):j<l.length/\u=.int (oF l j):=by
 have hl:=by have:=(ah.mp h).1;simpa [aA]using this
 have:(aA l)[j]?=some (.int l[j]):=by simp[aA,hl]
 rw[this]at h;cases h;exact⟨hl,by simp[oF,hl]⟩
theorem de(l:List Nat):(aA l).length=l.length:=by simp[aA]
theorem E4(hm:m<big)(g:∀i j,i<m->j<m->T i j<m)(ho:o7 m l):∃S',jH [tab m T,.tup (aA l)] S=some (tab m (pz T (oF l) (pF l)),S')/\Ex S S':=by
 have hlen:=ho.len;obtain⟨S1,e1,h1⟩:=Ny (G:= [some _,some _]) (a:=ae 1)
  (var_eq rfl) (by rw[de,hlen];exact hm) _ (λ_ S'=>Ex S S') (Ex.refl _) (by
   intro i u S' hu hx;obtain⟨hi,rfl⟩:=rM hu;rw[hlen]at hi;obtain⟨S2,e2,h2⟩:=Ny (G:= [some _,some _,some _]) (a:=ae 1) (e:=mMT _ (ae 1) (aa (m2 _ (m2 _ (ae 0) (ae 2)) (ae 3)) _))
    (var_eq rfl) (by rw[de,hlen];exact hm) _ (λ_ YO=>YO=S') rfl (by
     intro j u YO hu hx;obtain⟨hj,rfl⟩:=rM hu;rw[hlen]at hj;refine⟨_,?_,hx⟩
     exact xf (var_eq rfl) (jQ (ho.ord.ol j hj) (jw (ho.ord.ol i hi) (var_eq rfl) (var_eq rfl)) (var_eq rfl)) (ho.mem.mpr (g _ _ (ho.ord.ol i hi) (ho.ord.ol j hj))))
   subst h2
   exact⟨_,e2,hx.trans (Ex.push _ _)⟩)
 rw[de,hlen]at e1;exact⟨_,dv rfl (du e1),h1.trans (Ex.push _ _)⟩
theorem CL{x:Int}(ha:a G S=some (.int x,S1))(hb:b G S1=some (.int y,S2)):m2 oEq a b G S=some (.bl (x==y),S2):=op2 ha hb rfl
theorem y9{x:Int}(ha:a G S=some (.int x,S1))(hb:b G S1=some (.int y,S2)):m2 oGt a b G S=some (.bl (decide (y<x)),S2):=op2 ha hb rfl
theorem of_eq{b:Bool}(h:a G S=some (.bl b,S1)):cOf a G S=some (b,S1):=by simp[cOf,h,aB]
theorem or_eq{a b:MT}{x y:Bool}(ha:a G S=some (x,S1))(hb:b G S1=some (y,S2))(e:x=true->S2=S1):cOr a b G S=some (x||y,S2):=by
 cases x
 .simp[cOr,ha,hb,aB]
 .simp[cOr,ha,aB,e _]
theorem and_eq{a b:MT}{x y:Bool}(ha:a G S=some (x,S1))(hb:b G S1=some (y,S2))(e:x=false->S2=S1):wV a b G S=some (x&&y,S2):=by
 cases x
 .simp[wV,ha,aB,e _]
 .simp[wV,ha,hb,aB]
theorem pk{c:MT}{a b:MS}(h:c G S=some (true,S1)):sIf c a b G S=a G S1:=by simp[sIf,h,aB]
theorem nO{c:MT}{a b:MS}(h:c G S=some (false,S1)):sIf c a b G S=b G S1:=by simp[sIf,h,aB]
theorem iB(h:nN n S)(hm:0<m)(Ys:m<1000):∃r S',a8 [.ref n,.int m] S=some (.int (r:Nat),S')/\r<m/\Stp n S S':=by
 obtain⟨r,S',e,h1,h2,h3,_⟩:=Aw (many:=m) h (by omega) (by omega);obtain⟨r,rfl⟩:=Cz h1;exact⟨r,S',e,by omega,h3⟩
def gA:MS:=sIf (cOr (cOf (m2 oEq (ae 2) (mC (.int 1)))) (cOf (m2 oEq (ae 2) (mC (.int 2))))) (bD 3 (mFn fO (aa (m2 dc (mC (.int 1)) (mFn a8 (aa (ae 0) (aa (m2 oDiv (ae 1) (mC (.int 2))) ai)))) ai))) dF
def gB:MS:=sIf (wV (cOf (m2 oEq (ae 2) (mC (.int 3)))) (cOf (m2 oGt (ae 1) (mC (.int 7))))) (bD 3 (mFn iJ ai)) dF
def gC:MS:=sIf (cOf (m2 oGt (ae 2) (mC (.int 3)))) (bh (bD 4 (m2 dc (mC (.int 2)) (mFn a8 (aa (ae 0) (aa (mC (.int 3)) ai))))) (bh (bD 5 (m2 oIx (b9 (aa (mFn cf (aa (ae 4) ai)) (aa (mFn fO (aa (ae 4) ai)) ai))) (mFn a8 (aa (ae 0) (aa (mC (.int 2)) ai))))) (bh (sIf (cOf (m2 oGt (mFn cR (aa (ae 5) ai)) (ae 1))) (bD 5 (mFn cf (aa (ae 4) ai))) dF) (bD 3 (mFn kz (aa (ae 5) (aa (mFn cf (aa (m2 dc (mC (.int 1)) (mFn a8 (aa (ae 0) (aa (m2 oDiv (ae 1) (mFn cR (aa (ae 5) ai))) ai)))) ai)) ai))))))) dF
def gD:MS:=sIf (cOf (m2 oEq (mFn a8 (aa (ae 0) (aa (mC (.int 3)) ai))) (mC (.int 0)))) (bD 3 (mFn jH (aa (ae 3) (aa (mFn jN (aa (ae 0) (aa (mFn cR (aa (ae 3) ai)) ai))) ai)))) dF
structure Gs(n most way:Nat)(S0:Sto)(G:Rho)(S:Sto):Prop where
 ex:∃m T x y,G=[some (.ref n),some (.int most),some (.int way),some (tab m T),x,y]/\Grp m T/\m<=most
 st:Stp n S0 S
section
variable {n most way:Nat}{S0 S:Sto}{G:Rho}
theorem NH(h6:4<=most)(hm:most<1000)(g:Gs n most way S0 G S):∃Y4 S',gA G S=some (.nx,Y4,S')/\Gs n most way S0 Y4 S':=by
 obtain⟨⟨m,T,x,y,rfl,gr,hle⟩,st⟩:=g;have hc:=or_eq (of_eq (CL (G:= [some (.ref n),some (.int most),some (.int way),some (tab m T),x,y]) (S:=S) (a:=ae 2) (b:=mC (.int 1)) (var_eq rfl) c_i)) (of_eq (CL (a:=ae 2) (b:=mC (.int 2)) (var_eq rfl) c_i)) λ_=>rfl;cases hb:(((way:Int)==1)||((way:Int)==2)) with
 | false=>
   rw[hb]at hc;exact⟨_,S,nO hc,⟨m,T,x,y,rfl,gr,hle⟩,st⟩
 | true=>
   rw[hb]at hc;obtain⟨r,S1,e1,w1,s1⟩:=iB (m:=most/2) st.st (by omega) (by omega);obtain⟨S2,e2,s2⟩:=ye (n:=1+r) (S:=S1) (by exact bJ (by decide) _) (by omega);refine⟨_,S2,(pk hc).trans (bB (gd (x:= .int (1+r:Nat)) (add_n (x:=1) c_i (dC (var_eq rfl) (pW (y:=2) (var_eq rfl) c_i (by decide) (by decide)) e1)) e2)),⟨_,_,x,y,rfl,w9 (by exact bJ (by decide) _),by omega⟩,(st.trans s1).step s2⟩
theorem Nl(g:Gs n most way S0 G S):∃Y4 S',gB G S=some (.nx,Y4,S')/\Gs n most way S0 Y4 S':=by
 obtain⟨⟨m,T,x,y,rfl,gr,hle⟩,st⟩:=g;have hc:=and_eq (of_eq (CL (G:= [some (.ref n),some (.int most),some (.int way),some (tab m T),x,y]) (S:=S) (a:=ae 2) (b:=mC (.int 3)) (var_eq rfl) c_i)) (of_eq (y9 (a:=ae 1) (b:=mC (.int 7)) (var_eq rfl) c_i)) λ_=>rfl;cases hb:(((way:Int)==3)&&decide ((7:Int)<most)) with
 | false=>
   rw[hb]at hc;exact⟨_,S,nO hc,⟨m,T,x,y,rfl,gr,hle⟩,st⟩
 | true=>
   rw[hb]at hc;obtain⟨S2,e2,s2⟩:=zo;have h7:=by simp at hb;exact hb.2
   refine⟨_,S2,(pk hc).trans (bB (e2)),⟨_,_,x,y,rfl,Ba,by omega⟩,st.step s2⟩
theorem uK{G:Rho}{S:Sto}{x y:U}(ha:a G S=some (x,S1))(hb:b G S1=some (y,S2)):b9 (aa a (aa b ai)) G S=some (.ref S2.length,S2++[Cell.lst [x,y]]):=by
 have hz:2<=big:=by decide
 simp[b9,aa,ai,aB,ha,hb,hz]
theorem Mj(h6:4<=most)(hm:most<1000)(g:Gs n most way S0 G S):∃Y4 S',gC G S=some (.nx,Y4,S')/\Gs n most way S0 Y4 S':=by
 obtain⟨⟨m,T,x,y,rfl,gr,hle⟩,st⟩:=g;have ZF:∀x,x<=most->x<big:=λx hx=>by unfold big;exact aK (by assumption) (ak (by assumption) (by decide))
 have hc:=of_eq (y9 (G:= [some (.ref n),some (.int most),some (.int way),some (tab m T),x,y]) (S:=S) (a:=ae 2) (b:=mC (.int 3)) (var_eq rfl) c_i);cases hb:decide ((3:Int)<way) with
 | false=>
   rw[hb]at hc;exact⟨_,S,nO hc,⟨m,T,x,y,rfl,gr,hle⟩,st⟩
 | true=>
   rw[hb]at hc;obtain⟨r,S1,e1,w1,s1⟩:=iB (m:=3) st.st (by decide) (by decide);have f1:m2 dc (mC (.int 2)) (mFn a8 (aa (ae 0) (aa (mC (.int 3)) ai))) [some (.ref n),some (.int most),some (.int way),some (tab m T),x,y] S=some (.int (2+r:Nat),S1):=
    add_n (x:=2) c_i (dC (var_eq rfl) c_i e1)
   have W8:2+r<=4:=Nat.add_le_add_left (eF w1) 2;have U2:2+r<=most:=aH W8 (aH (by decide) h6);obtain⟨S2,e2,s2⟩:=j0 (n:=2+r) (S:=S1) (by exact bJ (by decide) _) (ZF _ U2);obtain⟨S3,e3,s3⟩:=ye (n:=2+r) (S:=S2) (by exact bJ (by decide) _) (aK W8 (by decide));have ZL:Stp n S0 (S3++[Cell.lst [tab (2+r) (fq (2+r)),tab (2*(2+r)) (iw (2+r))]]):=(((st.trans s1).step s2).step s3).step (Ex.push _ _);obtain⟨q,S4,e4,w4,s4⟩:=iB (m:=2) ZL.st (by decide) (by decide);have Zc:S4[S3.length]?=some (Cell.lst [tab (2+r) (fq (2+r)),tab (2*(2+r)) (iw (2+r))]):=by
    refine s4.some ?_ (by rw[br (ao _)];simp);have:=(((st.trans s1).step s2).step s3).st.lt;exact cJ (by assumption)
   have one:∃k K,atI [tab (2+r) (fq (2+r)),tab (2*(2+r)) (iw (2+r))] (q:Int)=some (tab k K)/\Grp k K/\k<=8:=by
    rcases q with _|_|q
    .exact⟨_,_,rfl,ji (by exact bJ (by decide) _),aH W8 (by decide)⟩
    .exact⟨_,_,rfl,w9 (by exact bJ (by decide) _),qr 2 W8⟩
    .exact absurd (i7 (i7 w4)) (Nat.not_lt_zero _)
   obtain⟨k,K,Ry,gk,RE⟩:=one;have f5:m2 oIx (b9 (aa (mFn cf (aa (ae 4) ai)) (aa (mFn fO (aa (ae 4) ai)) ai))) (mFn a8 (aa (ae 0) (aa (mC (.int 2)) ai))) [some (.ref n),some (.int most),some (.int way),some (tab m T),some (.int (2+r:Nat)),y] S1=some (tab k K,S4):=
    r9 (uK (gd (x:= .int (2+r:Nat)) (var_eq rfl) e2) (gd (x:= .int (2+r:Nat)) (var_eq rfl) e3)) (dC (var_eq rfl) c_i e4) Zc Ry
   have YE:=ZL.trans s4;have cut:∃k' K' S5,sIf (cOf (m2 oGt (mFn cR (aa (ae 5) ai)) (ae 1))) (bD 5 (mFn cf (aa (ae 4) ai))) dF [some (.ref n),some (.int most),some (.int way),some (tab m T),some (.int (2+r:Nat)),some (tab k K)] S4 =
     some (.nx,[some (.ref n),some (.int most),some (.int way),some (tab m T),some (.int (2+r:Nat)),some (tab k' K')],S5)/\Grp k' K'/\k'<=most/\k'<=8/\Stp n S0 S5:=by
    have Yj:=of_eq (y9 (G:= [some (.ref n),some (.int most),some (.int way),some (tab m T),some (.int (2+r:Nat)),some (tab k K)]) (S:=S4) (a:=mFn cR (aa (ae 5) ai)) (b:=ae 1) (len_tab (var_eq rfl)) (var_eq rfl));cases Xh:decide ((most:Int)<k) with
    | false=>
      rw[Xh]at Yj;have: ¬((most:Int)<k):=by simpa using Xh
      exact⟨k,K,S4,nO Yj,gk,dA λz=>this (fX.mpr z),RE,YE⟩
    | true=>
      rw[Xh]at Yj;obtain⟨S5,e5,s5⟩:=j0 (n:=2+r) (S:=S4) (by exact bJ (by decide) _) (ZF _ U2);exact⟨_,_,S5,(pk Yj).trans (bB (gd (x:= .int (2+r:Nat)) (var_eq rfl) e5)),ji (by exact bJ (by decide) _),U2,aH W8 (by decide),YE.step s5⟩
   obtain⟨k',K',S5,f6,V4,Sa,hk8',YN⟩:=cut;have kp:=V4.pos;have hdiv:0<most/k':=Nat.div_pos Sa kp;have Yr:most/k'<=most:=Nat.div_le_self _ _;obtain⟨t,S6,e6,w6,s6⟩:=iB (m:=most/k') YN.st hdiv (by exact aK (by assumption) (by assumption));have U0:1+t<=most/k':=by rw[FH];exact w6
   obtain⟨S7,e7,s7⟩:=j0 (n:=1+t) (S:=S6) (by exact bJ (by decide) _) (ZF _ (aH U0 Yr));obtain⟨S8,e8,s8⟩:=HP (k:=k') (m:=1+t) (A:=K') (B:=fq (1+t)) (S:=S7) kp (by exact aK (by assumption) (by decide)) (by exact bJ (by decide) _) (aK (aH U0 Yr) hm) V4.cl;have ZG:k'*(1+t)<=most:=aH (qr k' U0) (Nat.mul_div_le most k');refine⟨_,S8,(pk hc).trans ((aY (bB f1)).trans ((aY (bB f5)).trans ((aY f6).trans (bB (dC (var_eq rfl) (gd (x:= .int (1+t:Nat)) ?_ e7) e8))))),⟨_,_,_,_,rfl,ED V4 (ji (by exact bJ (by decide) _)),ZG⟩,((YN.trans s6).step s7).step s8⟩;exact add_n (x:=1) c_i (dC (var_eq rfl) (pW (var_eq rfl) (len_tab (var_eq rfl)) kp (by exact aK (by assumption) (by decide))) e6)
theorem MC(hm:most<1000)(g:Gs n most way S0 G S):∃Y4 S',gD G S=some (.nx,Y4,S')/\Gs n most way S0 Y4 S':=by
 obtain⟨⟨m,T,x,y,rfl,gr,hle⟩,st⟩:=g;obtain⟨r,S1,e1,w1,s1⟩:=iB (m:=3) st.st (by decide) (by decide);have hc:=of_eq (CL (G:= [some _,some (.int most),some (.int way),some (tab m T),x,y]) (a:=mFn _ (aa (ae 0) _)) (b:=mC (.int 0)) (dC (var_eq rfl) c_i e1) c_i);cases hb:((r:Int)==0) with
 | false=>
   rw[hb]at hc;exact⟨_,S1,nO hc,⟨m,T,x,y,rfl,gr,hle⟩,st.trans s1⟩
 | true=>
   rw[hb]at hc;obtain⟨l,S2,e2,s2,ol⟩:=EO s1.st gr.pos (by exact aK (by omega) (by omega));obtain⟨S3,e3,s3⟩:=E4 (by exact aK (by omega) (ak (by omega) (by decide))) gr.cl ol;refine⟨_,S3,(pk hc).trans (bB (dC (var_eq rfl) (dC (var_eq rfl) (len_tab (var_eq rfl)) e2) e3)),⟨_,_,x,y,rfl,BG gr ol.ord,hle⟩,((st.trans s1).trans s2).step s3⟩
end
theorem Et{most:Nat}(h:nN n S)(h6:4<=most)(hm:most<1000):∃m T S',lE [.ref n,.int most] S=some (tab m T,S')/\Grp m T/\m<=most/\Stp n S S':=by
 have ZF:∀x,x<=most->x<big:=λx hx=>by unfold big;exact aK (by assumption) (ak (by assumption) (by decide))
 obtain⟨way,S1,e1,w1,s1⟩:=iB (m:=8) h (by decide) (by decide);obtain⟨r2,S2,e2,w2,s2⟩:=iB (m:=most) s1.st (by exact uh (by assumption)) hm;obtain⟨S3,e3,s3⟩:=j0 (n:=1+r2) (S:=S2) (by exact bJ (by decide) _) (ZF _ (by omega));have f1:m2 dc (mC (.int 1)) (mFn a8 (aa (ae 0) (aa (ae 1) ai))) [some (.ref n),some (.int most),some (.int way),none,none,none] S1=some (.int (1+r2:Nat),S2):=add_n (x:=1) (y:=r2) c_i (dC (var_eq rfl) (var_eq rfl) e2);have g0:Gs n most way S [some (.ref n),some (.int most),some (.int way),some (tab (1+r2) (fq (1+r2))),none,none] S3:=⟨⟨_,_,none,none,rfl,ji (by exact bJ (by decide) _),by omega⟩,(s1.trans s2).step s3⟩;obtain⟨Z3,S4,e4,g4⟩:=NH h6 hm g0;obtain⟨Z7,S5,e5,g5⟩:=Nl g4;obtain⟨Z8,S6,e6,g6⟩:=Mj h6 hm g5;obtain⟨Z5,S7,e7,g7⟩:=MC hm g6;obtain⟨⟨m,T,x,y,rfl,gr,hle⟩,st⟩:=g7;refine⟨m,T,S7,dv (G:= [some (.ref n),some (.int most),some (.int way),some (tab m T),x,y]) rfl ?_,gr,hle,st⟩;show lT [some (.ref n),some (.int most),none,none,none,none] S=_;exact(aY (bB (dC (var_eq rfl) c_i e1))).trans ((aY (bB (gd f1 e3))).trans ((aY e4).trans ((aY e5).trans ((aY e6).trans ((aY e7).trans (du (var_eq rfl)))))))
def Scr(ns:List Int)(S:Sto):Prop:=getL S 0=some (ns.map U.int)
variable{ns:List Int}
theorem Scr.ex(h:Scr ns S)(e:∀c,S[0]?=some c->S'[0]?=some c):Scr ns S':=by
 unfold Scr getL at h ⊢
 split at h<;>simp_all
theorem Scr.lt(h:Scr ns S):0<S.length:=by
 unfold Scr getL at h
 split at h
 .rename_i q;exact(ah.mp q).1
 .rename_i q;exact(ah.mp q).1
 all_goals cases h
theorem cj{α:Type}(S:List α)(c:α):(S++[c])[S.length]?=some c:=by
 simp
theorem L3{x:Int}(ha:a G S=some (.int x,S1))(hb:b G S1=some (.int y,S2)):m2 oLt a b G S=some (.bl (decide (x<y)),S2):=op2 ha hb rfl
theorem PD{x:Int}(ha:a G S=some (.int x,S1))(hb:b G S1=some (.int y,S2)):m2 oGe a b G S=some (.bl (decide (y<=x)),S2):=op2 ha hb rfl
theorem Jd(h:getL S r=some us):fJ S (.ref r)=none:=by
 unfold getL at h
 show(match S[r]? with
  |some (.dic _)=>some _
  | _=>none)=none
 split at h<;>rename_i q<;>first | (cases h;done) | (rw[q])
theorem Jb(ha:a G S=some (.ref r,S))(hr:getL S r=some us):mFn cR (aa a ai) G S=some (.int us.length,S):=
 gd ha (by simp[cR,Jd hr,eh,hr])
theorem PM(ha:a G S=some (.ref n,S1))(hb:b G S1=some (.int z,S2))(hn:getL S2 n=some us)(h:atI us z=some u):m2 oIx a b G S=some (u,S2):=op2 ha hb (by simp[oIx,Jd hn,eh,hn,h])
theorem jE{α:Type}{us:List α}{k:Nat}{u:α}(h:us[k]?=some u):atI us (k:Int)=some u:=by
 have hk:=(ah.mp h).1;simp[atI,ixN,hk]
 simp_all
theorem F8{k:Nat}(h:Scr ns S):∃z,jV [.ref 0,.int k] S=some (.int z,S):=by
 have hc:=of_eq (L3 (G:= [some _,some (.int k)]) (a:=ae 1) (b:=mFn _ (aa (ae 0) _)) (var_eq rfl) (Jb (var_eq rfl) h));rw[ar]at hc;cases hb:decide ((k:Int)<ns.length) with
 | true=>
   rw[hb]at hc;have hk:=by simpa using hb
   have e:=PM (G:= [some _,some (.int k)]) (a:=ae 0) (b:=ae 1) (var_eq rfl) (var_eq rfl) h (jE (u:= .int ns[k]) (by simp[hk]));refine⟨ns[k],dv (G:= [some (.ref 0),some (.int k)]) rfl ?_⟩;show iL [some _,some _] S=_;unfold iL bh;rw[pk hc,du e]
 | false=>
   rw[hb]at hc;refine⟨0,dv (G:= [some (.ref 0),some (.int k)]) rfl ?_⟩;exact(aY ((nO hc).trans rfl)).trans (du c_i)
theorem Jr:m2 yX (mC (.int 10)) (mC (.int 18)) G S=some (.int (10^(18:Int).toNat),S):=op2 rfl rfl (if_pos ⟨by decide,by decide,by decide⟩)
theorem DL{k:Nat}(h:Scr ns S):∃S',jD [.ref 0,.int k] S=some (.ref S.length,S')/\Ex S S'/\nN S.length S':=by
 obtain⟨z,e1⟩:=F8 h;have e2:bD 2 (mFn _ (aa (ae 0) (aa (ae 1) _))) [some _,some _,none] S=some (.nx,[some _,some _,some _],S):=bB (dC (var_eq rfl) (var_eq rfl) e1);have hc:=of_eq (PD (G:= [some (.ref 0),some (.int k),some (.int z)]) (S:=S) (a:=ae 2) (var_eq rfl) Jr);generalize hp:(10:Int)^(18:Int).toNat=p at hc;have QE:∀G (S:Sto),m2 _ _ _ G S=some _:=λG S=>by rw[Jr,hp]
 cases hb:decide (p<=z) with
 | true=>
   rw[hb]at hc;have e3:=uK (G:= [some (.ref 0),some (.int k),some (.int z)]) (S:=S) (a:=m2 _ (ae 2) _) (b:=mC (.bl true)) (Ai (var_eq rfl) (QE _ _)) rfl;refine⟨_,dv (G:= [some (.ref 0),some (.int k),some (.int z)]) rfl ?_,Ex.push _ _,⟨z-p,true,cj _ _⟩⟩;refine(aY e2).trans ?_;unfold bh;rw[pk hc,du e3]
 | false=>
   rw[hb]at hc;have e3:=uK (G:= [some (.ref 0),some (.int k),some (.int z)]) (S:=S) (a:=m2 _ (ae 2) (mC (.int 2147483647))) (b:=mC (.bl false)) (Jv (var_eq rfl) c_i (by decide)) rfl;refine⟨_,dv (G:= [some (.ref 0),some (.int k),some (.int z)]) rfl ?_,Ex.push _ _,⟨z%2147483647,false,cj _ _⟩⟩;exact(aY e2).trans ((aY ((nO hc).trans rfl)).trans (du e3))
theorem wL{i n:Nat}{b:MS}(us:List U)(P:Nat->Rho->Sto->Prop)(hl:∀k G S,P k G S->getL S n=some us)
  (st:∀(k:Nat) (u:U) (G:Rho) (S:Sto),us[k]?=some u->P k G S->∃Y4 S',b (G.set i (some u)) S=some (.nx,Y4,S')/\P (k+1) Y4 S'):
  ∀(f k:Nat) (G:Rho) (S:Sto),k<=us.length->us.length-k<f->P k G S->∃Y4 S',forL i b n f k G S=some (.nx,Y4,S')/\P us.length Y4 S'
 |0,k,G,S,h1,h2,_=>by omega
 | f+1,k,G,S,h1,h2,hp=>by
   unfold forL;rw[hl k G S hp];simp;by_cases hk:k<us.length
   .have hu:us[k]?=some us[k]:=by simp
    obtain⟨Y5,S1,e1,p1⟩:=st k _ G S hu hp;obtain⟨X0,S2,e2,p2⟩:=wL us P hl st f _ _ S1 (by assumption) (by omega) p1;refine⟨_,S2,?_,p2⟩;simp[hu,aft,e1,e2]
   grind
theorem Eu{b:MS}{G:Rho}{S:Sto}(he:e G S=some (.ref n,S1))(hu:us.length<100000)(P:Nat->Rho->Sto->Prop)(h0:P 0 G S1)(hl:∀k G S,P k G S->getL S n=some us)
  (st:∀(k:Nat) (u:U) (G:Rho) (S:Sto),us[k]?=some u->P k G S->∃Y4 S',b (G.set i (some u)) S=some (.nx,Y4,S')/\P (k+1) Y4 S'):
  ∃Y4 S',fB i (di e) b G S=some (.nx,Y4,S')/\P us.length Y4 S':=by
 obtain⟨Y4,S',e1,p1⟩:=wL us P hl st _ 0 G S1 (cU _) (by omega) h0;refine⟨_,S',?_,p1⟩;unfold fB di;rw[he];simp[aB,hl 0 G S1 h0];exact e1
theorem wj{b:MS}{G:Rho}{S:Sto}(he:e G S=some (.tup us,S1))(P:Nat->Rho->Sto->Prop)(h0:P 0 G S1)
  (st:∀(k:Nat) (u:U) (G:Rho) (S:Sto),us[k]?=some u->P k G S->∃Y4 S',b (G.set i (some u)) S=some (.nx,Y4,S')/\P (k+1) Y4 S'):
  ∃Y4 S',fB i (di e) b G S=some (.nx,Y4,S')/\P us.length Y4 S':=by
 obtain⟨Y4,S',e1,p1⟩:=tm (i:=i) (b:=b) P us 0 G S1 h0 λj u G S hj hp=>by simp_all
 rw[eA]at p1;refine⟨_,S',?_,p1⟩;unfold fB di;rw[he];exact e1
def HU(T:Nat->Nat->Nat)(w:List Nat):Nat:=w.foldl T 0
def plc(T:Nat->Nat->Nat)(w:List Nat):List Nat:=(ax (w.length+1)).map λk=>HU T (w.take k)
theorem CK{α:Type}{f:Nat->α}{k:Nat}:atI ((ax (k+1)).map f) (-1)=some (f k):=by
 have e:ixN ((ax (k+1)).map f).length (-1)=some k:=by
  rw[ar,be];unfold ixN
  grind
 unfold atI;rw[e];simp
theorem lH{k:Nat}(h:(aA l)[k]?=some u):∃x,l[k]?=some x/\u=.int x:=by
 obtain⟨hk,rfl⟩:=rM h;exact⟨_,by simp[oF,hk],rfl⟩
theorem PY:m1 ot (mC (.int 1)) G S=some (.int (-1),S):=rfl
theorem sU:∀(a b:List Nat),gm (a.map λ(x:Nat)=>iz x) (b.map λ(x:Nat)=>iz x)=decide (a=b)
 |[],[]=>by simp[gm]
 |[],_::_=>by simp[gm]
 |_::_,[]=>by simp[gm]
 | x::a,y::b=>by
   simp[gm,iA,sU a b]
   grind
theorem Dq{c:Nat}(h:Scr ns S)(hv:G[0]?=some (some (.ref 0)))(hl:ns.length<=63):∃q:Nat,q<1000/\mFn sy (aa (mC (.int 1)) (aa (mFn nE (aa (mFn cR (aa (ae 0) ai)) (aa (mC (.int c)) ai))) ai)) G S=some (.int q,S):=by
 have e1:mFn nE (aa _ (aa (mC (.int c)) _)) G S=some _:=dC (Jb (var_eq hv) h) c_i rfl;have e2:=dC (f:=sy) (a:=mC (.int 1)) c_i e1 rfl;rw[ar]at e2;refine⟨max 1 (min _ c),Nat.max_lt.mpr ⟨by decide,aK (aH (Nat.min_le_left _ _) hl) (by decide)⟩,?_⟩;rw[e2];show some _=_;have:(if (if (c:Int)<ns.length then(c:Int) else ns.length)>1 then(if (c:Int)<ns.length then(c:Int) else ns.length) else 1)=((max 1 (min ns.length c):Nat)):=by
  by_cases h:(c:Int)<ns.length
  .rw[Nat.min_eq_right (aE (fX.mp h)),if_pos h]
   split
   .rename_i h1;rw[wm (aE (fX.mp h1))]
   .rename_i h1;rw[yA (dA λz=>h1 (fX.mpr z))];rfl
  .rw[nU (dA λz=>h (fX.mpr z)),if_neg h]
   split
   .rename_i h1;rw[wm (aE (fX.mp h1))]
   .rename_i h1;rw[yA (dA λz=>h1 (fX.mpr z))];rfl
 rw[this]
theorem rE{t:MT}{e:ME}{G:Rho}(p:Nat->Bool)(g:Nat->U)(P:Nat->Sto->Prop):∀(us:List U) (k:Nat) (acc:List U) (S:Sto),P k S ->
  (∀(j:Nat) (u:U) (S:Sto),us[j]?=some u->P (k+j) S->∃S',t (G++[some u]) S=some (p (k+j),S')/\(p (k+j)=true->∃YO,e (G++[some u]) S'=some (g (k+j),YO)/\P (k+j+1) YO)/\(p (k+j)=false->P (k+j+1) S')) ->
  ∃S',fR t e G us acc S=some (acc++((aQ k us.length).filter p).map g,S')/\P (k+us.length) S'
 |[],k,acc,S,h,_=>⟨S,by simp[fR],h⟩
 | u::us,k,acc,S,h,st=>by
   have rest:∀(Ze:List U) (S1:Sto),P (k+1) S1->∃S',fR t e G us Ze S1=some (Ze++((aQ (k+1) us.length).filter p).map g,S')/\P (k+(u::us).length) S':=λZe S1 h1=>by
    obtain⟨S2,e2,h2⟩:=rE p g P us (k+1) Ze S1 h1 λj v S hj hp=>by
     have:=st (j+1) v S (by simpa using hj) (by rw[show k+(j+1)=k+1+j by omega];exact hp);rw[show k+(j+1)+1=k+1+j+1 by omega,show k+(j+1)=k+1+j by omega]at this;exact this
    exact⟨S2,e2,by rw[show k+(u::us).length=k+1+us.length by simp;omega];exact h2⟩
   obtain⟨S1,e1,ht,hf⟩:=st 0 u S rfl h;rw[Nat.add_zero]at e1 ht hf;show ∃S',bnd (t (G++[some u]) S) _=_/\_;rw[e1];simp only[aB,bI,mU,List.filter_cons];cases hp:p k with
   | true=>
     obtain⟨S2,e2,h2⟩:=ht hp;simp only[if_true];rw[e2];simp only[aB];obtain⟨S3,e3,h3⟩:=rest (acc++[g k]) S2 h2;exact⟨S3,by rw[e3];simp,h3⟩
   | false=>
     simp only[eR,if_false];exact rest acc S1 (hf hp)
theorem xI{S:Sto}{t:MT}(ha:a G S=some (.int n,S0))(hn:n<big)(p:Nat->Bool)(g:Nat->U)(P:Nat->Sto->Prop)(h0:P 0 S0)
  (hs:∀(j:Nat) (S:Sto),j<n->P j S->∃S',t (G++[some (.int j)]) S=some (p j,S')/\(p j=true->∃YO,e (G++[some (.int j)]) S'=some (g j,YO)/\P (j+1) YO)/\(p j=false->P (j+1) S')):
  ∃S',cy (iR1 (aa a ai)) t e G S=some (.ref S'.length,S'++[.lst (((ax n).filter p).map g)])/\P n S':=by
 obtain⟨S1,e1,h1⟩:=rE (t:=t) (e:=e) (G:=G) p g P (bx 0 n) 0 [] S0 h0 λj u S hj hp=>by
  have hl:j<n:=by have:=(ah.mp hj).1;simpa [bx]using this
  have hu:(bx 0 n)[j]?=some (.int j):=by simp[bx,hl]
  rw[hu]at hj;cases hj;simpa using hs j S hl (by simpa using hp)
 have hlen:(bx 0 n).length=n:=by simp[bx]
 simp only[hlen,eA,dR,<-jA]at e1 h1
 exact⟨S1,mz (oE ha hn) e1 (by
  rw[ar]
  exact aK (gn _ _) (by rw[be];exact hn)),h1⟩
theorem G9(ha:a G S=some (.ref S1.length,S1++[Cell.lst us]))(h:us[0]?=some u):m2 oIx a (mC (.int 0)) G S=some (u,S1++[Cell.lst us]):=
 r9 ha rfl (cj _ _) (jE (k:=0) h)
variable{y:Nat}
theorem K4(ha:a G S=some (.int x,S1))(hb:b G S1=some (.int y,S2)):m2 oEq a b G S=some (.bl (decide (x=y)),S2):=by
 rw[CL ha hb]
 congr 3
 grind
theorem Mr(ha:a G S=some (.int x,S1))(hb:b G S1=some (.int y,S2)):m2 oNe a b G S=some (.bl (!decide (x=y)),S2):=by
 rw[op2 ha hb _];show some (U.bl (!((x:Int)==y)),S2)=_
 congr 4
 grind
theorem EL:sk m T i=.tup (aA ((ax m).map (T i))):=by
 unfold sk BQ aA;rw[dM];rfl
def unT(m:Nat)(T:Nat->Nat->Nat)(i:Nat):Nat:=((ax m).map (T i)).idxOf 0
theorem jJ(g:Grp m T)(hi:i<m):unT m T i<m/\T i (unT m T i)=0/\T (unT m T i) i=0 /\ ∀k,k<m->T i k=0->k=unT m T i:=by
 obtain⟨j,hj,h1,h2,h3⟩:=g.inv1 hi;have e:unT m T i=j:=by
  unfold unT;rw[jA,idx_map (k:=j) m 0 (cU _) (by omega) h1 λk _ hk h0=>by have:=h3 k (by exact bg (by assumption) (by assumption)) h0;omega];omega
 rw[e];exact⟨hj,h1,h2,h3⟩
theorem Kr(g:Grp m T)(hi:i<m):0∈(ax m).map (T i):=by
 obtain⟨h1,h2,_⟩:=jJ g hi;exact aR.mpr ⟨unT m T i,aO.mpr h1,h2⟩
theorem KR(ha:a G S=some (u,S1)):gc (aa a ai) G S=some (.tup [u],S1):=by
 have Yq:1<=big:=by decide
 simp[gc,lr ha,aB,Yq]
theorem xq(h:S[n]?=some (Cell.lst (aA l))):toD S (f+2) (.ref n)=some (.list (l.map λ(x:Nat)=>iz x)):=by
 show(getL S n).bind _=_;have:getL S n=some (aA l):=by unfold getL;rw[h]
 rw[this];simp only[aG];rw[qO l];rfl
theorem Gb{k:Nat}{x y:List Nat}(ha:a G S=some (.ref n,S1))(hb:b G S1=some (.ref k,S2))(hn:S2[n]?=some (Cell.lst (aA x)))(hk:S2[k]?=some (Cell.lst (aA y))):m2 oNe a b G S=some (.bl (!decide (x=y)),S2):=by
 refine op2 ha hb ?_;unfold oNe _G.eqU;rw[xq hn,xq hk];simp[iA,sU]
theorem or_false{a b:MT}(ha:a G S=some (false,S1))(hb:b G S1=some (false,S2)):cOr a b G S=some (false,S2):=by
 rw[or_eq ha hb (by grind)];rfl
def fI(l:List Nat):List Int:=l.map λ(x:Nat)=>(x:Int)
def srt(l:List Nat):List Nat:=(rH (fI l)).map CA
theorem y3(l:List Nat):(rH (fI l)).map U.int=aA (srt l):=by
 unfold aA srt;rw[dM];apply fC;intro i hi;have hm:=(jm _).mem_iff.mp hi;obtain⟨x,_,rfl⟩:=aR.mp hm;rfl
theorem rh:∀l:List Nat,(fI l).map CA=l
 |[]=>rfl
 | x::l=>by
   show CA _::(fI l).map _=x::l;rw[rh l];rfl
theorem rC(l:List Nat):(srt l).Perm l:=by
 have h:=(jm (fI l)).map CA;rw[rh]at h;exact h
theorem Bu{a b:List Nat}(p:a.Perm b):srt a=srt b:=by
 unfold srt;rw[wX ((jm (fI a)).trans (p.map _)) (yn _)];rfl
theorem jF:x∈srt l↔x∈l:=(rC l).mem_iff
theorem qx(l:List Nat):(srt l).length=l.length:=(rC l).length_eq
theorem rO:∀(l:List Nat),cZ AO (aA l)=some (fI l)
 |[]=>rfl
 | x::l=>by
   show(AO _).bind _=_;rw[show tP _ l=aA l from rfl,rO l];rfl
theorem pG:∀(l:List Nat),cZ oi (aA l)=some (fI l)
 |[]=>rfl
 | x::l=>by
   show(oi (.int x)).bind _=_;simp only[oi,aG];rw[show tP (λ(x:Nat)=>U.int x) l=aA l from rfl,pG l];rfl
def gf(l:List Nat):List (_L.Key×U):=l.map λ(x:Nat)=>(i6 (x:Int),U.bl true)
theorem wD{x:U}(h:uR S x=some (fI l))(hl:l.length<64):fo [x] S=some (.ref S.length,S++[.lst (aA (srt l))]):=by
 have ok:zJ (fI l).length:=by unfold fI;rw[ar];exact hl
 simp[fo,h,ok,y3]
theorem wC(ha:a G S=some (.ref n,S1))(hn:S1[n]?=some (Cell.lst (aA l)))(hl:l.length<64):mFn fo (aa a ai) G S=some (.ref S1.length,S1++[.lst (aA (srt l))]):=
 gd ha (wD (by simp[uR,fJ,hn,eh,getL,rO]) hl)
def xJ(m:List (_L.Key×U))(k:_L.Key):Bool:=(iZ m k).isSome
theorem oH{m:List (_L.Key×U)}{k:_L.Key}:xJ m k=true ↔ ∃kv∈m,kv.1=k:=by
 unfold xJ iZ;simp
variable{kvs:List (_L.Key×U)}
theorem Av{x:Int}(ha:a G S=some (.int x,S1))(hb:b G S1=some (.ref r,S2))(hr:S2[r]?=some (Cell.dic kvs)):cOf (m2 kr a b) G S=some (!xJ kvs (.inl x),S2):=
 of_eq (op2 ha hb (by simp only[kr,fJ,hr,keyOf,cP,xJ]))
theorem P5{i:ME}{x:Int}(ho:o G S=some (.ref r,S))(hi:i G S=some (.int x,S))(hr:S[r]?=some (Cell.dic kvs))(hl:kvs.length<big):eU o i (mC (.bl true)) G S=some (.nx,G,S.set r (.dic (kW kvs (.inl x) (.bl true)))):=by
 simp[eU,mC,aB,ho,hi,hr,keyOf,hl]
section
variable {m:Nat}{T:Nat->Nat->Nat}{t n:Nat}
def orb(T:Nat->Nat->Nat)(t n x:Nat):List Nat:=(ax n).map λi=>T x (pw T t i)
theorem jd:y∈orb T t n x ↔ ∃i,i<n/\y=T x (pw T t i):=by
 unfold orb;rw[aR];constructor
 .rintro ⟨i,hi,rfl⟩;exact⟨i,aO.mp hi,rfl⟩
 .rintro ⟨i,hi,rfl⟩;exact⟨i,aO.mpr hi,rfl⟩
theorem vF:(orb T t n x).length=n:=by simp[orb]
theorem CF(g:Grp m T)(ht:t<m)(hx:x<m)(i:Nat):T (T x (pw T t i)) t=T x (pw T t (i+1)):=by
 rw[show pw T t (i+1)=T (pw T t i) t from rfl,g.as x _ t hx (ix g ht i) ht]
theorem An(g:Grp m T)(ht:t<m)(h0:pw T t n=0)(i:Nat):pw T t (n+i)=pw T t i:=by
 rw[qS g ht n i,h0,g.l0 _ (ix g ht i)]
theorem kf(g:Grp m T)(ht:t<m)(h0:pw T t n=0){z:Nat}(hx:x<m)(h1:y∈orb T t n x)(h2:z∈orb T t n y):z∈orb T t n x:=by
 obtain⟨i,hi,rfl⟩:=jd.mp h1;obtain⟨j,hj,rfl⟩:=jd.mp h2;have e:T (T x (pw T t i)) (pw T t j)=T x (pw T t (i+j)):=by rw[g.as _ _ _ hx (ix g ht i) (ix g ht j),qS g ht i j]
 rw[e];by_cases Yz:i+j<n
 .exact jd.mpr ⟨i+j,Yz,rfl⟩
 .refine jd.mpr ⟨i+j-n,by omega,?_⟩
  rw[<-An g ht h0 (i+j-n),show n+(i+j-n)=i+j by omega]
theorem yw(g:Grp m T)(hn:0<n)(hx:x<m):x∈orb T t n x:=jd.mpr ⟨0,hn,(g.r0 x hx).symm⟩
theorem j5(g:Grp m T)(ht:t<m)(hn:0<n)(h0:pw T t n=0)(hx:x<m)(h:y∈orb T t n x):x∈orb T t n y:=by
 obtain⟨i,hi,rfl⟩:=jd.mp h;have e:T (T x (pw T t i)) (pw T t (n-i))=x:=by
  rw[g.as _ _ _ hx (ix g ht i) (ix g ht (n-i)),<-qS g ht i (n-i),show i+(n-i)=n by omega,h0,g.r0 x hx]
 by_cases hi0:i=0
 .subst hi0
  refine jd.mpr ⟨0,hn,?_⟩;have e1:T x (pw T t 0)=x:=g.r0 x hx;rw[e1,e1]
 .exact jd.mpr ⟨n-i,by omega,e.symm⟩
theorem LF(g:Grp m T)(ht:t<m)(hx:x<m)(h:y∈orb T t n x):y<m:=by
 obtain⟨i,hi,rfl⟩:=jd.mp h;exact g.cl _ _ hx (ix g ht i)
theorem Kk(g:Grp m T)(ht:t<m)(h1:∀k,1<=k->k<n->pw T t k≠0)(hx:x<m)(hi:1<=i)(Zx:i<n):T x (pw T t i)≠x:=λe=>by
 have:=g.cancel hx (ix g ht i) g.pos (e.trans (g.r0 x hx).symm);exact h1 i hi Zx this
def jv(T:Nat->Nat->Nat)(t n x:Nat):Bool:=(orb T t n x).all λy=>decide (x<=y)
theorem jh{x:Nat}:jv T t n x=true ↔ ∀y∈orb T t n x,x<=y:=by
 unfold jv;rw[d8];simp
end
open PySem in
open PySem in
open PySem in
open PySem in
open PySem in
open PySem in
open PySem in
open PySem in
open PySem in
open PySem in
open PySem in
open PySem in
open PySem in
open PySem in
open PySem in
theorem xw{f:MF}{G:Rho}{S S1 S2 S3:Sto}{a b c:ME}{x y z:U}{r:Res U}(ha:a G S=some (x,S1))(hb:b G S1=some (y,S2))(hc:c G S2=some (z,S3))(h:f [x,y,z] S3=r):mFn f (aa a (aa b (aa c ai))) G S=r:=by
 simp[mFn,aa,ai,ha,hb,hc,aB,h]
theorem qH{c:MT}{b:MS}(P:Nat->Rho->Sto->Prop)(Q:Rho->Sto->Prop)
  (hc:∀μ G S,P μ G S->∃k S1,c G S=some (k,S1)/\(k=false->Q G S1)/\(k=true->∃Y4 S' Y6,Y6<μ/\b G S1=some (.nx,Y4,S')/\P Y6 Y4 S')):
  ∀(f μ:Nat) (G:Rho) (S:Sto),μ<f->P μ G S->∃Y4 S',whl c b f G S=some (.nx,Y4,S')/\Q Y4 S'
 |0,μ,G,S,h,_=>by omega
 | f+1,μ,G,S,h,hp=>by
   obtain⟨k,S1,e,q1,q2⟩:=hc μ G S hp;unfold whl;rw[e];simp[aB];cases k with
   |false=>exact⟨G,S1,by simp,q1 rfl⟩
   | true=>
     obtain⟨Y5,S2,Y0,hl,e1,p1⟩:=q2 rfl;obtain⟨X0,S3,e2,q⟩:=qH P Q hc f _ _ S2 (by omega) p1;exact⟨_,S3,by simp[if_true,aft,e1,e2],q⟩
section
variable {S x:Sto}{c e c' e':Cell}
theorem h0:(S++[c,e]++x)[S.length]?=some c:=by simp
theorem h1:(S++[c,e]++x)[S.length+1]?=some e:=by simp
theorem t0:(S++[c,e]++x).set S.length c'=S++[c',e]++x:=by
 grind
theorem t1:(S++[c,e]++x).set (S.length+1) e'=S++[c,e']++x:=by
 grind
end
theorem wQ:xJ (gf l) (.inl (x:Int))=decide (x∈l):=by
 have:xJ (gf l) (.inl x)=true↔x∈l:=by
  rw[oH];unfold gf;constructor
  .grind
  .intro h
   exact⟨_,aR.mpr ⟨x,h,rfl⟩,rfl⟩
 grind
theorem G7(h:x∉l):kW (gf l) (.inl (x:Int)) (.bl true)=gf (l++[x]):=by
 unfold kW;rw[if_neg]
 .simp[gf]
 .intro z
  obtain⟨kv,hm,e⟩:=jk.mp z;have:=oH.mpr ⟨kv,hm,of_decide_eq_true e⟩;rw[wQ]at this
  grind
theorem De(l:List Nat):(gf l).length=l.length:=by simp[gf]
variable{h:Nat}
theorem Ha(ho:o G S=some (.ref r,S))(hr:S[r]?=some (Cell.lst (aA (l++[h])))):mML vN o ai G S=some (.int h,S.set r (Cell.lst (aA l))):=by
 simp only[mML,ho,aB,getL,hr,ai,vN];simp[aA]
inductive Rch(T:Nat->Nat->Nat)(ths:List Nat):Nat->Prop where
 |zero:Rch T ths 0
 |step {x y:Nat}:Rch T ths x->y∈ths->Rch T ths (T x y)
structure Dfs(m:Nat)(T:Nat->Nat->Nat)(ths:List Nat)(ks:List Nat)(C:Nat->Prop):Prop where
 nd:ks.Nodup
 lt:∀x∈ks,x<m
 z:0∈ks
 rc:∀x∈ks,Rch T ths x
 cl:∀x∈ks,C x \/ ∀y∈ths,T x y∈ks
section
variable {m:Nat}{T:Nat->Nat->Nat}{ths ks st:List Nat}
theorem Dfs.all(d:Dfs m T ths ks λ_=>False):x∈ks↔Rch T ths x:=by
 refine⟨d.rc x,λh=>?_⟩
 induction h with
 |zero=>exact d.z
 |step _ hy ih=>exact((d.cl _ ih).resolve_left id) _ hy
theorem Dfs.len(d:Dfs m T ths ks C):ks.length<=m:=sf m ks d.nd d.lt
theorem GX{a b:List Nat}(ha:a.Nodup)(hb:b.Nodup)(h:∀x,x∈a↔x∈b):a.Perm b:=(List.perm_ext_iff_of_nodup ha hb).mpr λx=>h x
def tryD(T:Nat->Nat->Nat)(h y:Nat)(p:List Nat×List Nat):List Nat×List Nat:=if T h y∈p.1 then p else(p.1++[T h y],p.2++[T h y])
structure Inn(m:Nat)(T:Nat->Nat->Nat)(ths:List Nat)(h k:Nat)(p:List Nat×List Nat)(μ:Nat):Prop where
 d:Dfs m T ths p.1 λx=>x∈p.2\/x=h
 sub:∀x∈p.2,x∈p.1
 hk:h∈p.1
 hh:∀y∈ths.take k,T h y∈p.1
 ms:2*(m-p.1.length)+p.2.length<=μ
variable{μ:Nat}{p:List Nat×List Nat}
theorem Inn.try{k:Nat}(g:Grp m T)(ht:∀x∈ths,x<m)(n:Inn m T ths h k p μ)(hy:ths[k]?=some y):Inn m T ths h (k+1) (tryD T h y p) μ:=by
 have XU:=bG hy;have Vq:ths.take (k+1)=ths.take k++[y]:=by rw[kZ,hy];rfl
 unfold tryD
 split
 .rename_i Zx
  refine⟨n.d,n.sub,n.hk,λz hz=>?_,n.ms⟩;rw[Vq]at hz;rcases aV.mp hz with hz |hz
  .exact n.hh z hz
  .simp at hz;rw[hz];exact Zx
 .rename_i Zx
  have nd:(p.1++[T h y]).Nodup:=by
   rw[iU];exact⟨n.d.nd,by simp,λa ha b hb=>by simp at hb;rintro rfl;exact Zx (hb▸ha)⟩
  have ZU:=g.cl _ _ (n.d.lt h n.hk) (ht y XU);have lt:∀x∈p.1++[T h y],x<m:=λx hx=>by
   rcases aV.mp hx with hx|hx
   .exact n.d.lt x hx
   .simp at hx;omega
  refine⟨⟨nd,lt,aZ _ n.d.z,λx hx=>?_,λx hx=>?_⟩,λx hx=>?_,aZ _ n.hk,λz hz=>?_,?_⟩
  .rcases aV.mp hx with hx|hx
   .exact n.d.rc x hx
   .simp at hx;rw[hx];exact .step (n.d.rc h n.hk) XU
  .rcases aV.mp hx with hx|hx
   .rcases n.d.cl x hx with (c|c)|c<;>simp_all
   .exact .inl (.inl (aJ _ hx))
  .rcases aV.mp hx with hx|hx
   .exact aZ _ (n.sub x hx)
   .exact aJ _ hx
  .rw[Vq]at hz
   rcases aV.mp hz with hz|hz
   .exact aZ _ (n.hh z hz)
   simp_all
  .have:=sf m _ nd lt
   have:=n.ms;simp at *;omega
structure zh(m:Nat)(T:Nat->Nat->Nat)(ths ks st:List Nat)(μ:Nat):Prop where
 d:Dfs m T ths ks λx=>x∈st
 sub:∀x∈st,x∈ks
 ms:2*(m-ks.length)+st.length<=μ
theorem zh.start(hm:0<m):zh m T ths [0] [0] (2*m):=
 ⟨⟨by simp,by simpa using hm,by simp,λx hx=>by simp at hx;rw[hx];exact .zero,λx hx=>.inl hx⟩,λx hx=>hx,by simp;omega⟩
theorem zh.pop(s:zh m T ths ks (st++[h]) (μ+1)):Inn m T ths h 0 (ks,st) μ:=
 ⟨⟨s.d.nd,s.d.lt,s.d.z,s.d.rc,λx hx=>(s.d.cl x hx).imp (λc=>by simpa using c) id⟩,λx hx=>s.sub x (aZ _ hx),s.sub h (by simp),by simp,by have:=s.ms;simp at this;exact eF (by assumption)⟩
theorem Inn.done(n:Inn m T ths h ths.length p μ):zh m T ths p.1 p.2 μ:=
 ⟨⟨n.d.nd,n.d.lt,n.d.z,n.d.rc,λx hx=>by
  rcases n.d.cl x hx with (c|c)|c
  .exact .inl c
  .subst c;exact .inr λy hy=>n.hh y (by grind)
  ·exact .inr c⟩,n.sub,n.ms⟩
end
section
variable {m:Nat}{T:Nat->Nat->Nat}{ths:List Nat}{S x:Sto}{v:U}
def spR(m:Nat)(T:Nat->Nat->Nat)(v:U)(S:Sto)(r:List (Option U)):Rho:= [some (tab m T),some v,some (.ref S.length),some (.ref (S.length+1))]++r
def Wk(S:Sto)(v:U)(ths:List Nat):Prop:=v=.tup (aA ths) \/ ∃r,v=.ref r/\S[r]?=some (.lst (aA ths))/\ths.length<1000
def Ja:MT:=cOf (m2 oGt (mFn cR (aa (ae 3) ai)) (mC (.int 0)))
theorem Inn.st_le{k μ:Nat}{p:List Nat×List Nat}(n:Inn m T ths h k p μ)(X8:μ<1000)(hm:m<64):p.1.length<big/\p.2.length<big:=by
 have:=n.ms;have:=n.d.len;unfold big;omega
theorem Ak{α:Type}:∀{l:List α},l≠[]->∃a b,l=a++[b]
 |l,h=>⟨_,_,(wy h).symm⟩
theorem Ar{S:Sto}{x:U}(ha:a G S=some (x,S1)):b9 (aa a ai) G S=some (.ref S1.length,S1++[Cell.lst [x]]):=by
 have hq:1<=big:=by decide
 simp[b9,aa,ai,aB,ha,hq]
end
def tups(ls:List (List Nat)):List U:=ls.map λl=>U.tup (aA l)
open PySem in
open PySem in
open PySem in
open PySem in
theorem F4{l:List Nat}{x:Nat}:inV (.int x) (l.map λ(y:Nat)=>V.int y)=decide (x∈l):=by
 unfold inV;rw[List.any_map];by_cases h:x∈l
 .rw[decide_eq_true h,jk]
  exact⟨x,h,beq_self_eq_true _⟩
 .rw[decide_eq_false h,List.any_eq_false]
  intro y hy;have q:y≠x:=λe=>h (e▸hy);exact λz=>q (Int.ofNat.inj (eq_of_beq z))
theorem uJ:∀(l:List Nat),cZ gR (aA l)=some (l.map λ(y:Nat)=>V.int y)
 |[]=>rfl
 | x::l=>by
   show(gR _).bind _=_;have:=uJ l;unfold aA at this;rw[this];rfl
theorem E8(h:S[r]?=some (Cell.lst us)):fJ S (.ref r)=none:=by
 simp[fJ,h]
def sdF(r:Nat->List Nat):Nat->List (List Nat)×List Nat
 |0=>([],[])
 |k+1=>if k∈(sdF r k).2 then sdF r k else((sdF r k).1++[srt (r k)],(sdF r k).2++r k)
def putN(l:List Nat)(x:Nat):List Nat:=if x∈l then l else l++[x]
theorem CZ:y∈putN l x↔y∈l\/y=x:=by
 unfold putN
 split<;>simp_all
theorem EI:kW (gf l) (.inl (x:Int)) (.bl true)=gf (putN l x):=by
 unfold putN
 split
 .rename_i h
  unfold kW;have:((gf l).any λkv=>decide (kv.1=i6 (x:Int)))=true:=by
   rw[jk];exact⟨_,aR.mpr ⟨x,h,rfl⟩,by simp⟩
  rw[if_pos this];unfold gf
  simp_all
 .rename_i h
  exact G7 h
theorem ym:∀{xs l:List Nat}{y:Nat},y∈xs.foldl putN l↔y∈l\/y∈xs
 |[],l,y=>by simp
 | x::xs,l,y=>by
   rw[List.foldl_cons,ym,CZ];simp[or_assoc]
theorem Dy:(putN l x).length<=l.length+1:=by
 unfold putN;split<;>simp
theorem sx:∀{xs l:List Nat},(xs.foldl putN l).length<=l.length+xs.length
 |[],l=>by simp
 | x::xs,l=>by
   have:=sx (xs:=xs) (l:=putN l x);have:=Dy (l:=l) (x:=x)
   grind
def pcF(r:Nat->List Nat)(ext:Nat->Sto):Nat->List (List Nat)×List Nat×Sto
 |0=>([],[],[])
 |k+1=>if k∈(pcF r ext k).2.1 then pcF r ext k else((pcF r ext k).1++[srt (r k)],(srt (r k)).foldl putN (pcF r ext k).2.1,(pcF r ext k).2.2++ext k)
theorem yR{r:Nat->List Nat}{ext:Nat->Sto}:∀k,(pcF r ext k).1=(sdF r k).1 /\ ∀y,y∈(pcF r ext k).2.1↔y∈(sdF r k).2
 |0=>⟨rfl,λy=>Iff.rfl⟩
 | k+1=>by
   obtain⟨h1,h2⟩:=yR (r:=r) (ext:=ext) k;unfold pcF sdF;by_cases h:k∈(sdF r k).2
   .simp_all
   .rw[if_neg h,if_neg λz=>h ((h2 k).mp z)]
    refine⟨by rw[h1],λy=>?_⟩;rw[ym,h2,jF,aV]
theorem Ey{r:Nat->List Nat}{ext:Nat->Sto}{B:Nat}(hr:∀k,(r k).length<=B):∀k,(pcF r ext k).1.length<=k/\(pcF r ext k).2.1.length<=k*B
 |0=>by simp[pcF]
 | k+1=>by
   have:=Ey (ext:=ext) hr k;have:=hr k;unfold pcF;rw[FI]
   split
   .omega
   .have h:=sx (xs:=srt (r k)) (l:=(pcF r ext k).2.1)
    rw[qx]at h<;>grind
def fv(S:Sto)(p:List (List Nat)×List Nat×Sto):Sto:=S++[.lst (tups p.1),.dic (gf p.2.1)]++p.2.2
def xD(g:qu)(φ:MF):MS:=sIf (cOf (m2 kr (ae 4) (ae 3))) (bh (bD 5 (A8 1 g φ (aa (ae 4) ai))) (bh (d7 (mML bZ (ae 2) (aa (ae 5) ai))) (fB 6 (di (ae 5)) (eU (ae 3) (ae 6) (mC (.bl true)))))) dF
def z7(g:qu)(φ:MF):MS:=bh (bD 2 (b9 ai)) (bh (bD 3 oN) (bh (fB 4 (di (ae 0)) (xD g φ)) (dS (ae 2))))
theorem BL{x:Sto}{xs:List Nat}(h5:G[5]?=some (some (.tup (aA xs))))(h3:G[3]?=some (some (.ref (S.length+1))))(h7:G.length=7)(hb:l.length+xs.length<big):
  ∃v,fB 6 (di (ae 5)) (eU (ae 3) (ae 6) (mC (.bl true))) G (S++[c,.dic (gf l)]++x)=some (.nx,G.set 6 v,S++[c,.dic (gf (xs.foldl putN l))]++x):=by
 obtain⟨Y4,S',e,⟨v,rfl⟩,rfl⟩:=wj (S:=S++[c,.dic (gf l)]++x) (var_eq h5)
  (λk Y4 S'=>(∃v,Y4=G.set 6 v)/\S'=S++[c,.dic (gf ((xs.take k).foldl putN l))]++x) ⟨⟨G[6]'(by omega),by simp⟩,by simp⟩ (by
  rintro k u Y4 S' hu ⟨⟨v,rfl⟩,rfl⟩;obtain⟨y,hy,rfl⟩:=lH hu;rw[List.set_set];have g3:(G.set 6 (some (.int y)))[3]?=some (some (.ref (S.length+1))):=by rw[aC (by decide)];exact h3
  have g6:(G.set 6 _)[6]?=some (some (.int y)):=aM (by omega)
  have e:=P5 (var_eq g3) (var_eq g6) (h1 (x:=x) (c:=c) (e:= .dic (gf ((xs.take k).foldl putN l)))) (by
   rw[De];have:=sx (xs:=xs.take k) (l:=l);have:(xs.take k).length<=xs.length:=by rw[fF];omega
   omega)
  rw[t1,EI]at e;refine⟨_,_,e,⟨_,rfl⟩,?_⟩;rw[kZ,hy,List.foldl_append]
  rfl)
 rw[de,List.take_length]at e;exact⟨v,e⟩
variable{ext:Nat->Sto}
theorem Bl{r:Nat->List Nat}{S:Sto}{φ:MF}(hm:m<64)(hr:∀k,(r k).length<=64)(Wj:∀i (S:Sto),i<m->φ [.int (i:Nat)] S=some (.tup (aA (srt (r i))),S++ext i))(g:qu):
  _G.run 2 7 (z7 g φ) [.tup (aA (ax m)),.obj g] S=some (.ref S.length,fv S (pcF r ext m)):=by
 obtain⟨Y5,S1,e1,⟨a,b,c,rfl⟩,VH⟩:=wj (i:=4) (e:=ae 0) (b:=xD g φ) (var_eq rfl)
  (λk G S'=>(∃a b c,G = [some (.tup (aA (ax m))),some (.obj g),some (.ref S.length),some (.ref (S.length+1)),a,b,c])/\S'=fv S (pcF r ext k)) ⟨⟨_,_,_,rfl⟩,rfl⟩ (by
   rintro k u G S' hu ⟨⟨a,b,c,rfl⟩,rfl⟩;obtain⟨k',Yd,rfl⟩:=lH hu;have hk:=by have:=(ah.mp Yd).1;simpa using this
   rw[List.getElem?_range hk]at Yd;cases Yd;have bd:=Ey (ext:=ext) hr k;have ec:=Av (G:= [some (.tup (aA (ax m))),some (.obj g),some (.ref S.length),some _,some (.int k),b,c]) (a:=ae 4) (b:=ae 3) (var_eq rfl) (var_eq rfl) (show(fv S (pcF r ext k))[S.length+1]?=_ from h1);rw[wQ]at ec;by_cases Zx:k∈(pcF r ext k).2.1
   .rw[decide_eq_true Zx]at ec
    refine⟨_,_,(nO ec).trans rfl,⟨_,_,_,rfl⟩,?_⟩;rw[pcF,if_pos Zx]
   .rw[decide_eq_false Zx]at ec
    have e5:A8 1 g φ (aa (ae 4) ai) [some (.tup (aA (ax m))),some (.obj g),some (.ref S.length),some (.ref (S.length+1)),some (.int k),b,c] (fv S (pcF r ext k))=some (.tup (aA (srt (r k))),fv S (pcF r ext k)++ext k):=by
     show(if g=g then mFn φ _ _ _ else none)=_;rw[if_pos rfl];exact gd (var_eq rfl) (Wj k _ hk)
    have hx:fv S (pcF r ext k)++ext k=S++[.lst (tups (pcF r ext k).1),.dic (gf (pcF r ext k).2.1)]++((pcF r ext k).2.2++ext k):=by simp[fv]
    rw[hx]at e5;have e6:=append_eq (G:= [some (.tup (aA (ax m))),some (.obj g),some _,some (.ref (S.length+1)),some (.int k),some (.tup (aA (srt (r k)))),c]) (o:=ae 2) (a:=ae 5) (var_eq rfl) (var_eq rfl) (h0 (S:=S) (x:=(pcF r ext k).2.2++ext k) (c:= .lst (tups (pcF r ext k).1)) (e:= .dic (gf (pcF r ext k).2.1))) h0 (by simp[tups,ar];unfold big;omega);rw[t0]at e6
    obtain⟨v,e7⟩:=BL (G:= [some _,some _,some _,some _,some _,some _,c]) (xs:=srt (r k)) (l:=(pcF r ext k).2.1) rfl rfl rfl (by
     rw[qx];have:=hr k
     unfold big;omega)
    refine⟨_,_,(pk ec).trans ((aY (bB e5)).trans ((aY e6).trans e7)),⟨_,_,_,rfl⟩,?_⟩;rw[pcF,if_neg Zx]
    simp[fv,tups])
 rw[de,be]at VH;subst VH;refine dv (G:= [some (.tup (aA (ax m))),some (.obj g),some (.ref S.length),some (.ref (S.length+1)),a,b,c]) rfl ?_;have e2:oN [some (.tup (aA (ax m))),some (.obj g),some (.ref S.length),none,none,none,none] (S++[Cell.lst []])=some (.ref (S.length+1),fv S (pcF r ext 0)):=by
  simp[oN,fv,pcF,tups,gf]
 exact(aY (bB mG)).trans ((aY (bB e2)).trans ((aY e1).trans (du (var_eq rfl))))
variable{f:Nat->Nat}{part:List Nat}
theorem KL{S:Sto}(hi:G[i]?=some (some (.tup (aA part))))(hl:part.length<64)(he:∀(x:Nat) (S:Sto),x∈part->e (G++[some (.int x)]) S=some (.int (f x:Nat),S)):
  mFn cu (aa (mFn fo (aa (cy (di (ae i)) cTT e) ai)) ai) G S=some (.tup (aA (srt (part.map f))),S++[.lst (aA (part.map f)),.lst (aA (srt (part.map f)))]):=by
 have hz:(part.map f).length<64:=by rw[ar];exact hl
 obtain⟨S1,e1,rfl⟩:=mw (λj => .int (f (oF part j))) (λ_ S'=>S'=S) _ 0 [] S rfl (by
  rintro j u S' hu rfl;obtain⟨x,hx,rfl⟩:=lH hu;refine⟨S',?_,rfl⟩;have:oF part (0+j)=x:=by rw[eA];unfold oF;rw[aP,hx];rfl
  rw[this]
  exact he x S' (bG hx))
 have hm:(ax (aA part).length).map (λj=>U.int (f (oF part (0+j))))=aA (part.map f):=by
  unfold aA;apply kY;intro j;rw[ba,ba,ba];by_cases h:j<part.length
  .simp[oF,h]
  .rw[nZ (by simpa using h),nZ (by exact dA (by assumption))];rfl
 rw[hm,dR]at e1;have e2:=mz (it:=di (ae i)) (by unfold di;rw[var_eq hi];rfl) e1 (by rw[de];exact ak (by assumption) (by decide));have e3:=gQ (wC e2 (cj _ _) hz);rw[e3];simp
theorem map_len(h:part.length<64):(part.map f).length<=64:=by rw[ar];exact aE (by omega)
def yg(T:Nat->Nat->Nat)(part:List Nat)(left:Bool)(x:Nat):List Nat:=part.map λo=>if left then T x o else T o x
def atM:MS:=dS (uz (iR1 (aa (mFn cR (aa (ae 0) ai)) ai)))
theorem Pb(hm:m<1000):_G.run 1 1 atM [tab m T] S=some (.tup (aA (ax m)),S):=by
 refine dv rfl (du ?_);have e1:=oE (G:= [some (tab m T)]) (S:=S) (a:=mFn _ (aa (ae 0) _)) (len_tab (var_eq rfl)) (by exact ak (by omega) (by decide));have e2:bx 0 m=aA (ax m):=by
  apply fC;simp
 rw[e2]at e1;have hz:(aA (ax m)).length<=big:=by rw[de,be];unfold big;omega
 simp[uz,e1,aB,hz]
def lsM:MS:=dS (oZ (λg φ=>_G.run 2 7 (z7 g φ)) 1 [0,1] (mFn cu (aa (mFn fo (aa (cy (di (ae 2)) cTT (m2 oIx (m2 oIx (ae 1) (ae 0)) (ae 3))) ai)) ai)) (mFn (_G.run 1 1 atM) (aa (ae 0) ai)))
def Fh(m:Nat)(T:Nat->Nat->Nat)(part:List Nat)(left:Bool):List (List Nat):=(sdF (yg T part left) m).1
section
variable {m:Nat}{T:Nat->Nat->Nat}{part:List Nat}{S:Sto}
theorem um{left:Bool}:Ex S (fv S (pcF (yg T part left) ext m))/\(fv S (pcF (yg T part left) ext m))[S.length]?=some (Cell.lst (tups (Fh m T part left))):=by
 refine⟨⟨_,by unfold fv;rw[aU]⟩,?_⟩;have:=h0 (S:=S) (x:=(pcF (yg T part left) ext m).2.2) (c:= .lst (tups (pcF (yg T part left) ext m).1)) (e:= .dic (gf (pcF (yg T part left) ext m).2.1));rw[(yR m).1]at this;unfold fv;rw[(yR m).1];exact this
theorem GP(g:Grp m T)(hm:m<64)(hl:part.length<64)(hp:∀x∈part,x<m):∃S',_G.run 2 2 lsM [tab m T,.tup (aA part)] S=some (.ref S.length,S')/\Ex S S'/\S'[S.length]?=some (Cell.lst (tups (Fh m T part true))):=by
 refine⟨fv S (pcF _ (λi=>[.lst (aA (yg T part true i)),.lst (aA (srt (yg T part true i)))]) m),dv rfl (du ?_),um.1,um.2⟩;refine DT (gd (var_eq rfl) (Pb (by exact ak (by omega) (by decide)))) rfl λf=>Bl hm (λk=>map_len hl) (λi S' hi=>?_) f;exact KL rfl hl λx S hx=>jQ (j:=x) (hp x hx) (jw hi (var_eq rfl) (var_eq rfl)) (var_eq rfl)
end
theorem nB{t:MT}{e:ME}{G:Rho}{n:Nat}{S:Sto}{us:List U}{p:U->Bool}{f:U->U}(hu:getL S n=some us)(ht:∀u∈us,t (G++[some u]) S=some (p u,S))(he:∀u∈us,p u=true->e (G++[some u]) S=some (f u,S)):
  ∀(k i:Nat) (acc:List U),i<=us.length->us.length-i<k->jG t e G n k i acc S=some (acc++((us.drop i).filter p).map f,S)
 |0,i,acc,h1,h2=>by omega
 | k+1,i,acc,h1,h2=>by
   unfold jG;rw[hu];simp;by_cases hi:i<us.length
   .have hd:=dW hi
    have hm:=bR hi;rw[aI hi];simp;rw[ht _ hm];simp[aB];rw[hd];cases hp:p _ with
    | true=>
      rw[if_pos rfl,he _ hm hp];simp only[aB];rw[nB hu ht he k _ _ (by assumption) (by omega),Cs hp];simp
    | false=>
      rw[if_neg cQ,nB hu ht he k _ _ (by assumption) (by omega),Ct (by rw[hp];decide)]
   .rw[nZ (by simp_all),cY (by simp_all)]
    simp
theorem nz{t:MT}{e:ME}{G:Rho}{S:Sto}{p:U->Bool}{f:U->U}:∀(us acc:List U),(∀u∈us,t (G++[some u]) S=some (p u,S))->(∀u∈us,p u=true->e (G++[some u]) S=some (f u,S)) ->
  fR t e G us acc S=some (acc++(us.filter p).map f,S)
 |[],acc,_,_=>by simp[fR]
 | u::us,acc,ht,he=>by
   unfold fR;rw[ht u (by simp)];simp[aB];cases hp:p u with
   | true=>
     rw[he u (by simp) hp];simp[aB];rw[nz us _ (λv hv=>ht v (av _ hv)) (λv hv=>he v (av _ hv)),Cs hp];simp
   | false=>
     rw[if_neg cQ,nz us _ (λv hv=>ht v (av _ hv)) (λv hv=>he v (av _ hv)),Ct (by grind)]
theorem A6{t:MT}{us:List U}{p:U->Bool}{f:U->U}(ha:a G S=some (.tup us,S1))(hl:us.length<big)(ht:∀u∈us,t (G++[some u]) S1=some (p u,S1))(he:∀u∈us,p u=true->e (G++[some u]) S1=some (f u,S1)):
  cy (di a) t e G S=some (.ref S1.length,S1++[.lst ((us.filter p).map f)]):=by
 have hi:di a G S=some (.imm us,S1):=by simp[di,ha,aB]
 have e1:=nz us [] ht he;refine mz hi e1 ?_;have:=gn p us;rw[ar];exact aK (by omega) (by omega)
variable{f:Nat->U}{p:Nat->Bool}
theorem sJ{t:MT}{l:List Nat}(ha:a G S=some (.tup (aA l),S1))(hl:l.length<big)(ht:∀x∈l,t (G++[some (.int x)]) S1=some (p x,S1))(he:∀x∈l,p x=true->e (G++[some (.int x)]) S1=some (f x,S1)):
  cy (di a) t e G S=some (.ref S1.length,S1++[.lst ((l.filter p).map f)]):=by
 have nat:∀u∈aA l,∃x∈l,u=.int x:=λu hu=>by
  obtain⟨x,hx,rfl⟩:=aR.mp hu;exact⟨x,hx,rfl⟩
 let g:U->Nat:=λu=>match u with | .int i=>i.toNat |_=>0
 have gx:∀x:Nat,g (.int x)=x:=λx=>by simp[g]
 have h:=A6 (p:=λu=>p (g u)) (f:=λu=>f (g u)) ha (by rw[de];exact hl) (λu hu=>by
  obtain⟨x,hx,rfl⟩:=nat u hu
  exact ht x hx) (λu hu hp=>by
  obtain⟨x,hx,rfl⟩:=nat u hu
  exact he x hx hp)
 rw[h];have:((aA l).filter λu=>p (g u)).map (λu=>f (g u))=(l.filter p).map f:=by
  unfold aA;rw[List.filter_map,dM];have e1:(λu=>p (g u))∘(λ(x:Nat)=>U.int x)=p:=by funext x;simp[gx]
  have e2:(λu=>f (g u))∘(λ(x:Nat)=>U.int x)=f:=by funext x;simp[gx]
  rw[e1,e2]
 rw[this]
theorem B7{t:MT}{l:List Nat}(ha:a G S=some (.tup (aA l),S1))(hl:l.length<1000)(ht:∀x∈l,t (G++[some (.int x)]) S1=some (p x,S1))(he:∀x∈l,p x=true->e (G++[some (.int x)]) S1=some (f x,S1)):
  cy (di a) t e G S=some (.ref S1.length,S1++[.lst ((l.filter p).map f)]):=
 sJ ha (by exact ak (by omega) (by decide)) ht he
theorem Po(ha:a G S=some (.int x,S1))(hb:b G S1=some (.tup (aA l),S2)):cOf (m2 oIn a b) G S=some (decide (x∈l),S2):=by
 refine of_eq (op2 ha hb ?_);simp[oIn,fJ,gR,eh,uJ,F4]
section
variable {m:Nat}{T:Nat->Nat->Nat}{st left:List Nat}{S:Sto}
theorem JZ{S:Sto}{x y:List Nat}(ha:a G S=some (.tup (aA x),S1))(hb:b G S1=some (.tup (aA y),S2))(hl:x.length+y.length<=big):m2 dc a b G S=some (.tup (aA (x++y)),S2):=by
 refine op2 ha hb ?_;simp only[dc];rw[if_pos (by rw[de,de];omega)];simp[aA]
theorem IB{S:Sto}{x y:List Nat}(ha:a G S=some (.tup (aA x),S1))(hb:b G S1=some (.tup (aA y),S2))(hl:x.length+y.length<1000):m2 dc a b G S=some (.tup (aA (x++y)),S2):=
 JZ ha hb (by unfold big;omega)
end
abbrev Nod:=List Nat×List Nat
def Io(th:List Nat):Nat:=(th.getLast?).getD 0
def kids(T:Nat->Nat->Nat)(st:List Nat)(p:Nod):List Nod:=(st.filter λs=>!decide (T (Io p.2) s∈p.2)).map λs=>(p.1++[s],p.2++[T (Io p.2) s])
def NT(T:Nat->Nat->Nat)(st:List Nat)(L:Nod->List (List Nat)):Nat->Nod->List (List Nat)
 |0,p=>L p
 |k+1,p=>(kids T st p).flatMap (NT T st L k)
section
variable {m:Nat}{T:Nat->Nat->Nat}{st:List Nat}{S x:Sto}{F:List (List Nat)}{ln:List Nod}{G:Rho}
end
def Js(b:Nat):Nat->Nat
 |0=>1
 |k+1=>1+b*Js b k
def msr(b m:Nat)(ln:List Nod):Nat:=(ln.map λp=>Js b (m-1-p.1.length)).sum
def rest(T:Nat->Nat->Nat)(st:List Nat)(L:Nod->List (List Nat))(m:Nat)(ln:List Nod):List (List Nat):=ln.reverse.flatMap λp=>NT T st L (m-1-p.1.length) p
section
variable {m:Nat}{T:Nat->Nat->Nat}{st:List Nat}{L:Nod->List (List Nat)}{ln:List Nod}{p:Nod}
end
theorem IX(ha:a G S=some (.int x,S1))(hb:b G S1=some (.int y,S2)):mFn nE (aa a (aa b ai)) G S=some (.int (min x y:Nat),S2):=by
 refine dC ha hb ?_;show some _=_
 grind
section
variable {m:Nat}{T:Nat->Nat->Nat}{st:List Nat}{S:Sto}
theorem BK{S:Sto}{k:Nat}{ws:List U}(ho:o G S=some (.ref r,S))(ha:a G S=some (.ref k,S1))(hr:S[r]?=some (Cell.lst us))(ZZ:S1[r]?=some (Cell.lst us))(hk:S1[k]?=some (Cell.lst ws))(hl:us.length+ws.length<=big):
  d7 (mML ja o (aa a ai)) G S=some (.nx,G,S1.set r (.lst (us++ws))):=by
 simp[d7,mML,ho,aB,getL,hr,aa,ai,ha,ja,ZZ,hk];rw[if_pos hl];simp[aB]
end
theorem uO{g:MG}{n:Nat}{b:MS}(us:List U)(P:Nat->Rho->Sto->Prop)(hl:∀k G S,P k G S->getL S n=some us)
  (st:∀(k:Nat) (u:U) (G:Rho) (S:Sto),us[k]?=some u->P k G S->∃Y5 S1 Y4 S',g u G S=some (Y5,S1)/\b Y5 S1=some (.nx,Y4,S')/\P (k+1) Y4 S'):
  ∀(f k:Nat) (G:Rho) (S:Sto),k<=us.length->us.length-k<f->P k G S->∃Y4 S',sN g b n f k G S=some (.nx,Y4,S')/\P us.length Y4 S'
 |0,k,G,S,h1,h2,_=>by omega
 | f+1,k,G,S,h1,h2,hp=>by
   unfold sN;rw[hl k G S hp];simp only[aG];by_cases hk:k<us.length
   .have hu:us[k]?=some us[k]:=by simp[hk]
    obtain⟨G',S0,Y5,S1,e0,e1,p1⟩:=st k us[k] G S hu hp;obtain⟨X0,S2,e2,p2⟩:=uO us P hl st f (k+1) Y5 S1 (by assumption) (by omega) p1;refine⟨X0,S2,?_,p2⟩;simp only[hu,e0,aG,aft,e1,e2]
   .have:k=us.length:=by omega
    subst this;exact⟨G,S,by simp,hp⟩
theorem HE{g:MG}{b:MS}{G:Rho}{S S1:Sto}(he:e G S=some (.ref n,S1))(hu:us.length<100000)(P:Nat->Rho->Sto->Prop)(h0:P 0 G S1)(hl:∀k G S,P k G S->getL S n=some us)
  (st:∀(k:Nat) (u:U) (G:Rho) (S:Sto),us[k]?=some u->P k G S->∃Y5 S1 Y4 S',g u G S=some (Y5,S1)/\b Y5 S1=some (.nx,Y4,S')/\P (k+1) Y4 S'):
  ∃Y4 S',j4 g (di e) b G S=some (.nx,Y4,S')/\P us.length Y4 S':=by
 obtain⟨Y4,S',e1,p1⟩:=uO us P hl st fuel 0 G S1 (cU _) (by unfold fuel;assumption) h0;refine⟨Y4,S',?_,p1⟩;unfold j4 di;rw[he];simp only[aB,hl 0 G S1 h0,cP];exact e1
theorem Ex.set{S S':Sto}{r:Nat}{c:Cell}(h:Ex S S')(hr:S.length<=r):Ex S (S'.set r c):=by
 obtain⟨t,rfl⟩:=h;exact⟨t.set (r-S.length) c,by rw[eZ _ _ hr]⟩
theorem zw{t:MT}{us:List U}{p:U->Bool}{f:U->U}(ha:a G S=some (.ref n,S1))(hu:S1[n]?=some (Cell.lst us))(hl:us.length<100000)(ht:∀u∈us,t (G++[some u]) S1=some (p u,S1))(he:∀u∈us,p u=true->e (G++[some u]) S1=some (f u,S1)):
  cy (di a) t e G S=some (.ref S1.length,S1++[.lst ((us.filter p).map f)]):=by
 have hg:getL S1 n=some us:=by unfold getL;rw[hu]
 have hi:di a G S=some (.mut n,S1):=by simp only[di,ha,aB,hg,cP]
 have e1:=nB hg ht he fuel 0 [] (cU _) (by unfold fuel;assumption);rw[yM,dR]at e1;simp only[cy,hi,aB,uH,e1];refine if_pos ?_;have:=gn p us;rw[ar];unfold big;exact aK (by assumption) (ak (by assumption) (by decide))
section
variable {m:Nat}{T:Nat->Nat->Nat}{st:List Nat}
theorem wM{α β:Type}{f:α->List β}{B:Nat}:∀(l:List α),(∀x∈l,(f x).length<=B)->(l.flatMap f).length<=l.length*B
 |[],_=>by simp
 | x::l,h=>by
   have h1:=h x (by simp);have h2:=wM l λy hy=>h y (av _ hy);rw[List.flatMap_cons,bo,bI,FI];omega
end
open PySem in
open PySem in
section
variable {m:Nat}{T:Nat->Nat->Nat}{st:List Nat}{S:Sto}
end
abbrev Rds:=List (Nat×List Nat)
def kF(ks:Rds):List Nat:=ks.map Prod.fst
def gq(ks:Rds):List (_L.Key×U):=ks.map λp=>(i6 (p.1:Int),U.tup (aA p.2))
variable{ks:Rds}
theorem DY:xJ (gq ks) (.inl (x:Int))=decide (x∈kF ks):=by
 have:xJ (gq ks) (.inl x)=true↔x∈kF ks:=by
  rw[oH];unfold gq kF;constructor
  .grind
  .intro h
   obtain⟨y,hy,rfl⟩:=aR.mp h;exact⟨_,aR.mpr ⟨y,hy,rfl⟩,rfl⟩
 grind
theorem OY{w:List Nat}(h:x∉kF ks):kW (gq ks) (.inl (x:Int)) (.tup (aA w))=gq (ks++[(x,w)]):=by
 unfold kW;rw[if_neg]
 .simp[gq]
 .intro z
  obtain⟨kv,hm,e⟩:=jk.mp z;have:=oH.mpr ⟨kv,hm,of_decide_eq_true e⟩;rw[DY]at this
  grind
theorem Ca(ks:Rds):(gq ks).length=ks.length:=by simp[gq]
theorem rm:∀(ks:Rds),cZ vR (gq ks)=some (fI (kF ks))
 |[]=>rfl
 | x::l=>by
   show(vR _).bind _=_;rw[show tP _ l=gq l from rfl,rm l];rfl
def nH(ks:Rds)(x:Nat):List Nat:=((ks.find? λp=>decide (p.1=x)).map Prod.snd).getD []
theorem IV{x:Nat}:∀{ks:Rds},x∈kF ks->iZ (gq ks) (.inl (x:Int))=some (.tup (aA (nH ks x)))
 |[],h=>by simp[kF]at h
 | p::ks,h=>by
   unfold iZ nH gq;rw[dH,iq,iq];by_cases e:p.1=x
   .simp[e]
   .have e1: ¬((i6 p.1:_L.Key)=.inl x):=λz=>e (by grind)
    simp only[decide_eq_false e,decide_eq_false e1];have h':x∈kF ks:=by
     rcases aD.mp (h) with z|z
     .simp_all
     .exact z
    exact IV h'
theorem nC{x:Nat}:∀{ks:Rds},x∈kF ks->(x,nH ks x)∈ks
 |[],h=>by simp[kF]at h
 | p::ks,h=>by
   unfold nH;rw[iq];by_cases e:p.1=x
   .rw[decide_eq_true e]<;>grind
   .have h':x∈kF ks:=by
     rcases aD.mp (show x∈p.1::kF ks from h) with z|z<;>grind
    rw[decide_eq_false e];exact av _ (nC h')
structure Rd(T:Nat->Nat->Nat)(ths:List Nat)(ks:Rds):Prop where
 go:∀p∈ks,HU T p.2=p.1
 by':∀p∈ks,∀y∈p.2,y∈ths
 len:∀p∈ks,p.2.length<ks.length
section
variable {m:Nat}{T:Nat->Nat->Nat}{ths:List Nat}{S x:Sto}{v:U}
def i4(S:Sto)(p:Rds×List Nat)(x:Sto):Sto:=S++[.dic (gq p.1),.lst (aA p.2)]++x
def yW(T:Nat->Nat->Nat)(h y:Nat)(p:Rds×List Nat):Rds×List Nat:=if T h y∈kF p.1 then p else(p.1++[(T h y,nH p.1 h++[y])],p.2++[T h y])
def cvR(p:Rds×List Nat):List Nat×List Nat:=(kF p.1,p.2)
theorem GC{p:Rds×List Nat}:cvR (yW T h y p)=tryD T h y (cvR p):=by
 by_cases e:T h y∈kF p.1
 .rw[yW,if_pos e,tryD,if_pos (show T h y∈(cvR p).1 from e)]
 .rw[yW,if_neg e,tryD,if_neg (show ¬T h y∈(cvR p).1 from e)]
  simp[cvR,kF]
theorem F3{p:Rds×List Nat}(hr:Rd T ths p.1)(hh:h∈kF p.1)(hy:y∈ths):Rd T ths (yW T h y p).1:=by
 unfold yW
 split
 .omega
 .have hm:=nC hh
  refine⟨λq hq=>?_,λq hq=>?_,λq hq=>?_⟩
  .rcases aV.mp hq with hq|hq
   .exact hr.go q hq
   .have:=hr.go _ hm
    unfold HU at this ⊢<;>simp_all
  .rcases aV.mp hq with hq|hq
   .exact hr.by' q hq
   .simp at hq;subst hq
    intro z hz;rcases aV.mp hz with hz|hz
    .exact hr.by' _ hm z hz
    simp_all
  .rcases aV.mp hq with hq|hq
   .have:=hr.len q hq;simp;exact eG (by assumption)
   .have:=hr.len _ hm<;>simp_all
theorem J7{S:Sto}(ha:a G S=some (.ref r,S1))(hb:b G S1=some (.int (y:Nat),S2))(hr:S2[r]?=some (Cell.dic kvs))(h:iZ kvs (.inl (y:Int))=some u):m2 oIx a b G S=some (u,S2):=
 op2 ha hb (by simp[oIx,fJ,hr,keyOf,h])
theorem IH{S:Sto}{i:ME}(he:e G S=some (u,S))(ho:o G S=some (.ref r,S))(hi:i G S=some (.int z,S))(hr:S[r]?=some (Cell.dic kvs))(hl:kvs.length<big):eU o i e G S=some (.nx,G,S.set r (.dic (kW kvs (.inl z) u))):=by
 simp[eU,he,aB,ho,hi,hr,keyOf,hl]
def vp:MS:=bh (bD 6 (m2 oIx (m2 oIx (ae 0) (ae 4)) (ae 5))) (sIf (cOf (m2 kr (ae 6) (ae 2))) (bh (eU (ae 2) (ae 6) (m2 dc (m2 oIx (ae 2) (ae 4)) (gc (aa (ae 5) ai)))) (d7 (mML bZ (ae 3) (aa (ae 6) ai)))) dF)
def IJ:MS:=bh (bD 4 (mML vN (ae 3) ai)) (fB 5 (di (ae 1)) vp)
def IW:MS:=bh (bD 2 (qR (mC (.int 0)) (gc ai))) (bh (bD 3 (b9 (aa (mC (.int 0)) ai))) (bh (jR Ja IJ) (dS (ae 2))))
def spM:MS:=dS (mFn cu (aa (mFn fo (aa (mFn (_G.run 2 7 IW) (aa (ae 0) (aa (ae 1) ai))) ai)) ai))
theorem BW{c:Option U}{p:Rds×List Nat}(hh:h<m)(hy:y<m)(hk:h∈kF p.1)(hr:Rd T ths p.1)(l1:p.1.length<1000)(l2:p.2.length<big):
  vp (spR m T v S [some (.int h),some (.int y),c]) (i4 S p x)=some (.nx,spR m T v S [some (.int h),some (.int y),some (.int (T h y:Nat))],i4 S (yW T h y p) x):=by
 have e6:m2 _ (m2 _ (ae 0) (ae 4)) (ae 5) (spR m T v S [some _,some _,c]) (i4 S p x)=some _:=jQ hy (jw hh (var_eq rfl) (var_eq rfl)) (var_eq rfl);refine(aY (bB e6)).trans ?_;have ec:=Av (G:=spR m T v S [some (.int h),some (.int y),some _]) (a:=ae 6) (b:=ae 2) (x:=T h y) (var_eq rfl) (var_eq rfl) (show(i4 S p x)[S.length]?=_ from h0);rw[DY]at ec;unfold yW;by_cases Zx:T h y∈kF p.1
 .rw[if_pos Zx]
  rw[decide_eq_true Zx]at ec;exact nO ec
 .rw[if_neg Zx]
  rw[decide_eq_false Zx]at ec;refine(pk ec).trans ?_;have Uk:=hr.len _ (nC hk);have ea:m2 _ (m2 _ (ae 2) (ae 4)) (gc (aa (ae 5) _)) (spR m T v S [some _,some _,some (.int (T h y))]) (i4 S p x)=some _:=IB (y:= [y]) (J7 (var_eq rfl) (var_eq rfl) (h0) (IV hk)) (KR (var_eq rfl)) (by exact aK (by assumption) (by omega));have e1:=IH (o:=ae 2) (i:=ae 6) ea (var_eq rfl) (var_eq rfl) (h0) (by rw[Ca];exact ak (by omega) (by decide));rw[OY Zx,show(i4 S p x).set _ _=i4 S (p.1++[(T h y,nH _ h++[y])],p.2) x from t0]at e1;refine(aY e1).trans ?_;have e2:=append_eq (G:=spR m T v S [some (.int h),some (.int y),some (.int (T h y))]) (o:=ae 3) (a:=ae 6) (var_eq rfl) (var_eq rfl) (show(i4 S (p.1++[(T h y,nH p.1 h++[y])],p.2) x)[S.length+1]?=_ from h1) h1 (by rw[de];omega);rw[e2];simp[i4,aA]
theorem Hx{a b c:Option U}{μ:Nat}{p:Rds×List Nat}(g:Grp m T)(hm:m<64)(X8:μ<1000)(ht:∀z∈ths,z<m)(hv:Wk S v ths)(n:Inn m T ths h 0 (cvR p) μ)(hr:Rd T ths p.1):
  ∃b' c' q,fB 5 (di (ae 1)) vp (spR m T v S [some (.int h),b,c]) (i4 S p x)=some (.nx,spR m T v S [some (.int h),b',c'],i4 S q x)/\Inn m T ths h ths.length (cvR q) μ/\Rd T ths q.1:=by
 have hh:=n.d.lt h n.hk;have stp:∀(k:Nat) (u:U) (G:Rho) (S':Sto),(aA ths)[k]?=some u->(∃b c q,S'=i4 S q x/\G=spR m T v S [some (.int h),b,c]/\Inn m T ths h k (cvR q) μ/\Rd T ths q.1)->∃Y4 YO,vp (G.set 5 (some u)) S'=some (.nx,Y4,YO) /\ ∃b c q,YO=i4 S q x/\Y4=spR m T v S [some (.int h),b,c]/\Inn m T ths h (k+1) (cvR q) μ/\Rd T ths q.1:=by
  rintro k u G S' hu ⟨b,c,q,rfl,rfl,q3,q4⟩;obtain⟨y,hy,rfl⟩:=lH hu;have l:=q3.st_le X8 hm;have XU:=bG hy;have l1:q.1.length<1000:=by have:=q3.d.len;simp[cvR,kF]at this;exact aK (by omega) (ak (by omega) (by decide))
  refine⟨_,_,BW hh (ht y XU) q3.hk q4 l1 l.2,_,_,_,rfl,rfl,?_,F3 q4 q3.hk XU⟩;rw[GC];exact q3.try g ht hy
 rcases hv with rfl|⟨r,rfl,ZZ,hl⟩
 .obtain⟨Y4,S',e,b',c',q,rfl,rfl,q3,q4⟩:=wj (e:=ae 1) (var_eq rfl) _ ⟨b,c,p,rfl,rfl,n,hr⟩ stp
  rw[de]at q3;exact⟨b',c',q,e,q3,q4⟩
 .have Uk:=(ah.mp ZZ).1
  obtain⟨Y4,S',e,b',c',q,rfl,rfl,q3,q4⟩:=Eu (e:=ae 1) (var_eq rfl) (by rw[de];exact ak (by omega) (by decide)) _ ⟨b,c,p,rfl,rfl,n,hr⟩
   (by
    rintro k G S' ⟨b,c,q,rfl,_⟩;unfold getL i4
    rw[aU,aS Uk,ZZ]) stp
  rw[de]at q3;exact⟨b',c',q,e,q3,q4⟩
theorem DW(g:Grp m T)(hm:m<64)(ht:∀z∈ths,z<m)(hv:Wk S v ths):∃ks S',_G.run 2 7 IW [tab m T,v] S=some (.ref S.length,S')/\Ex S S'/\S'[S.length]?=some (.dic (gq ks))/\Dfs m T ths (kF ks) (λ_=>False)/\Rd T ths ks:=by
 have hp:=g.pos;obtain⟨Y4,S1,e1,⟨r,ks,x,rfl,rfl,d,hr⟩⟩:=qH (b:=IJ) (λμ G S'=>∃a b c p x,G=spR m T v S [a,b,c]/\S'=i4 S p x/\zh m T ths (kF p.1) p.2 μ/\μ<1000/\Rd T ths p.1)
  (λG S' =>∃r ks x,G=spR m T v S r/\S'=i4 S (ks,[]) x/\Dfs m T _ (kF ks) _/\Rd T _ ks) (by
  rintro μ G S' ⟨a,b,c,p,x,rfl,rfl,s,X8,hr⟩;have ec:Ja (spR m T v S [a,b,c]) (i4 S p x)=some _:=of_eq (y9 (AM (var_eq rfl) h1) c_i);refine⟨_,_,ec,λhf=>?_,λhf=>?_⟩
  .have h2:p.2=[]:=by
    have:=of_decide_eq_false hf;rw[de]at this<;>simp_all
   refine⟨_,_,x,rfl,by rw[<-h2],?_,hr⟩;have:=s.d;rw[h2]at this;exact⟨this.nd,this.lt,this.z,this.rc,λx hx=>(this.cl x hx).imp (by simp) id⟩
  .have h2:p.2≠[]:=λe=>by rw[e]at hf;simp[aA]at hf
   obtain⟨st,h,e⟩:=Ak h2;obtain⟨ks,s2⟩:=p;subst e;cases μ with
   |zero=>have:=s.ms;simp at this
   |succ μ=>
   have e4:bD 4 (mML vN (ae 3) ai) (spR m T v S [a,b,c]) (i4 S (ks,st++[h]) x)=some (.nx,spR m T v S [some (.int h),b,c],i4 S (ks,st) x):=by
    rw[bB (Ha (S:=i4 S _ x) (var_eq rfl) h1)];rw[show(i4 S (ks,st++[h]) x).set _ _=i4 S (ks,st) x from t1];rfl
   obtain⟨b',c',q,e5,i,hq⟩:=Hx (a:=a) (p:=(ks,st)) g hm (by exact aE (by assumption)) ht hv s.pop hr
   exact⟨_,_,μ,cw _,(aY e4).trans e5,_,_,_,q,x,rfl,rfl,i.done,by exact aE (by assumption),hq⟩) fuel _ (spR m T v S [none,none,none]) _ (by unfold fuel;omega) ⟨_,_,_,([(0,[])],[0]),[],rfl,rfl,zh.start hp,by omega,⟨λp hp=>by simp at hp;subst hp;rfl,λp hp=>by simp_all,λp hp=>by simp_all⟩⟩
 refine⟨ks,_,dv (G:=spR m T v S r) rfl ?_,?_,(show(i4 S (ks,[]) x)[S.length]?=_ from h0),d,hr⟩
 .have ed:qR (mC (.int 0)) (gc ai) [some (tab m T),some v,none,none,none,none,none] S=some (.ref S.length,S++[.dic (gq [(0,[])])]):=by
   simp[qR,mC,gc,ai,aB,keyOf,gq,aA]
  refine(aY (bB ed)).trans ((aY (bB (Ar c_i))).trans ?_);refine(aY ?_).trans (du (var_eq rfl));rw[<-e1];simp[jR,i4,spR,aA]
 .unfold i4;rw[aU];exact⟨_,rfl⟩
theorem L7(g:Grp m T)(hm:m<64)(ht:∀z∈ths,z<m)(hv:Wk S v ths):∃ks S',_G.run 2 2 spM [tab m T,v] S=some (.tup (aA (srt ks)),S')/\Ex S S'/\Dfs m T ths ks λ_=>False:=by
 obtain⟨ks,S1,e1,x1,q1,d,_⟩:=DW g hm ht hv;have hl:=aK d.len hm;have e2:mFn _ (aa (mFn _ (aa (ae 0) (aa (ae 1) _))) _) [some _,some v] S=some _:=gd (dC (var_eq rfl) (var_eq rfl) e1) (wD (by simp[uR,fJ,q1,rm]) hl);exact⟨_,_,dv rfl (du (gQ e2)),x1.trans (Ex.push _ _),d⟩
theorem OU(g:Grp m T)(hm:m<64)(ht:∀z∈ths,z<m):∃ks S',_G.run 2 2 spM [tab m T,.tup (aA ths)] S=some (.tup (aA (srt ks)),S')/\Ex S S'/\Dfs m T ths ks λ_=>False:=L7 g hm ht (.inl rfl)
end
section
variable {m:Nat}{T:Nat->Nat->Nat}
abbrev Lt(m:Nat)(w:List Nat):Prop:= ∀x∈w,x<m
theorem zX(g:Grp m T)(hx:x<m):unT m T x<m:=(jJ g hx).1
theorem Pm(g:Grp m T)(hx:x<m):T x (unT m T x)=0:=(jJ g hx).2.1
def pre(T:Nat->Nat->Nat)(w:List Nat):List Nat:=(ax w.length).map λk=>HU T (w.take k)
structure All(m:Nat)(l:List Nat):Prop where
 nd:l.Nodup
 lt:Lt m l
 len:l.length=m
theorem All.mem(h:All m l)(hx:x<m):x∈l:=by
 apply gG;intro z;have:=sf m (x::l) (fi.mpr ⟨z,h.nd⟩) (λy hy=>(aD.mp hy).elim (λe=>e▸hx) (h.lt y));have:=h.len;simp at *;omega
theorem All.map{f:Nat->Nat}(h:All m l)(lt:∀x,x<m->f x<m)(inj:∀x y,x<m->y<m->f x=f y->x=y):All m (l.map f):=by
 refine⟨?_,λx hx=>?_,by simp[h.len]⟩
 .rw[bf,dN]
  exact dO (λha hb YC e=>YC (inj _ _ (h.lt _ ha) (h.lt _ hb) e)) (bf.mp h.nd)
 .obtain⟨y,hy,rfl⟩:=aR.mp hx
  exact lt y (h.lt y hy)
end
section
variable {m:Nat}{T:Nat->Nat->Nat}{st w:List Nat}{S:Sto}
theorem Fq{S:Sto}{l:List Nat}(ha:a G S=some (.tup (aA l),S))(hl:l.length<10000000)(he:∀x∈l,e (G++[some (.int x)]) S=some (f x,S)):cy (di a) cTT e G S=some (.ref S.length,S++[.lst (l.map f)]):=by
 have h:=sJ (t:=cTT) ha (by exact ak (by omega) (by decide)) (λ_ _=>rfl) (λx hx _=>he x hx);rwa[List.filter_eq_self.mpr (λ_ _=>rfl)]at h
end
section
variable {m:Nat}{T:Nat->Nat->Nat}
structure Sn(m:Nat)(T:Nat->Nat->Nat)(p:List Nat):Prop where
 lt:Lt m p
 nd:(plc T p).Nodup
 cl:∀x∈plc T p,∀y∈plc T p,T x y∈plc T p
end
section
variable {m:Nat}{T:Nat->Nat->Nat}{S:Sto}
abbrev Pln(m:Nat)(T:Nat->Nat->Nat):Prop:= ∀i j,i<m->j<m->T i j=T j i
end
section
variable {m:Nat}{T:Nat->Nat->Nat}{S:Sto}
end
theorem sD{e:ME}{G:Rho}{n:Nat}{us:List U}{f:U->U}(P:Sto->Prop)(hP:∀S,P S->getL S n=some us)(he:∀u∈us,∀S,P S->∃S',e (G++[some u]) S=some (f u,S')/\P S'):
  ∀(k i:Nat) (acc:List U) (S:Sto),i<=us.length->us.length-i<k->P S->∃S',jG cTT e G n k i acc S=some (acc++(us.drop i).map f,S')/\P S'
 |0,i,acc,S,h1,h2,_=>by omega
 | k+1,i,acc,S,h1,h2,h=>by
   unfold jG;rw[hP S h];simp only[aG];by_cases hi:i<us.length
   .have hd:=dW hi
    obtain⟨S1,e1,p1⟩:=he _ (bR hi) S h;obtain⟨S2,e2,p2⟩:=sD P hP he k _ _ S1 (by assumption) (by omega) p1;refine⟨S2,?_,p2⟩;rw[aI hi];simp only[cTT,aB];rw[e1];simp only[aB];rw[e2,hd,aU];rfl
   simp_all
section
variable {m:Nat}{T:Nat->Nat->Nat}{S:Sto}{u:U}{st:List Nat}
theorem mc{r:MA}{x:U}(ha:a G S=some (x,S1))(hr:r G S1=some (xs,S2)):aa a r G S=some (x::xs,S2):=by simp[aa,ha,hr,aB]
theorem ml{r:MA}(h:r G S=some (xs,S1))(hl:xs.length<1000):b9 r G S=some (.ref S1.length,S1++[.lst xs]):=by
 have:xs.length<=big:=by unfold big;omega
 simp[b9,h,aB,this]
theorem xu:∀(a b:List Nat),a.Nodup->(∀x∈a,x∈b)->b.length<=a.length->a.Perm b
 | [],b,_,_,h=>by
   have e:b=[]:=fK (by simpa using h);rw[e]
 | x::a,b,h,hs,hl=>by
   have hx:=hs x (by simp);have h2:=List.length_erase_of_mem hx;have h1:=xu a (b.erase x) (fi.mp h).2 (λy hy=>(List.mem_erase_of_ne (λe:y=x=>(fi.mp h).1 (by rw[<-e];exact hy))).mpr (hs y (av _ hy))) (by simp only[bI]at hl;omega);exact(h1.cons x).trans (FL hx).symm
end
def itF(f:Nat->Nat):Nat->Nat->Nat
 |0,x=>x
 |k+1,x=>f (itF f k x)
structure Inj(m:Nat)(f:Nat->Nat):Prop where
 lt:∀x,x<m->f x<m
 inj:∀x y,x<m->y<m->f x=f y->x=y
section
variable {m:Nat}{f:Nat->Nat}
theorem l4(h:Inj m f){x:Nat}(hx:x<m):∀k,itF f k x<m
 |0=>hx
 |k+1=>h.lt _ (l4 h hx k)
theorem vh{x:Nat}(j:Nat):∀k,itF f (k+j) x=itF f k (itF f j x)
 |0=>by rw[eA];rfl
 |k+1=>by rw[Nat.add_right_comm];show f (itF f (k+j) x)=f _;rw[vh j k]
theorem v8(h:Inj m f){x y:Nat}(hx:x<m)(hy:y<m):∀k,itF f k x=itF f k y->x=y
 |0,e=>e
 |k+1,e=>v8 h hx hy k (h.inj _ _ (l4 h hx k) (l4 h hy k) e)
def jT(m:Nat)(f:Nat->Nat)(x:Nat):Nat:=((ax m).find? λk=>decide (itF f (k+1) x=x)).getD 0+1
theorem n9(h:Inj m f)(hx:x<m):1<=jT m f x/\jT m f x<=m/\itF f (jT m f x) x=x /\ ∀k,1<=k->k<jT m f x->itF f k x≠x:=by
 obtain⟨i,j,Yz,hj,e⟩:=Ee (m:=m) (f:=λk=>itF f k x) λi _=>l4 h hx i;have e1:itF f (j-i) x=x:=by
  have e:itF f i x=itF f j x:=e;rw[show j=i+(j-i) by omega,vh]at e;exact(v8 h hx (l4 h hx _) i e).symm
 unfold jT;cases q:(ax m).find? λk=>decide (itF f (k+1) x=x) with
 | none=>
   have:=List.find?_eq_none.mp q (j-i-1) (aO.mpr (by omega));rw[show j-i-1+1=j-i by omega]at this;simp[e1]at this
 | some i=>
   obtain⟨i1,i2,i3⟩:=List.find?_range_eq_some.mp q;have i2:=aO.mp i2;refine⟨by simp,by simp;assumption,by simpa using i1,λk k1 k2 z=>?_⟩;simp at k2;have:=i3 (k-1) (by omega);rw[show k-1+1=k by omega]at this;simp[z]at this
def rgK(f:Nat->Nat)(x k:Nat):List Nat:=(ax k).map λi=>itF f i x
def rg(m:Nat)(f:Nat->Nat)(x:Nat):List Nat:=rgK f x (jT m f x)
theorem CB{k:Nat}:rgK f x (k+1)=rgK f x k++[itF f k x]:=by simp[rgK,ir]
theorem Ah{k:Nat}:(rgK f x k).length=k:=by simp[rgK]
theorem o5:(rg m f x).length=jT m f x:=Ah
theorem IP(h:Inj m f)(hx:x<m):Lt m (rg m f x):=λy hy=>by
 obtain⟨i,_,rfl⟩:=aR.mp hy;exact l4 h hx i
theorem Nf(h:Inj m f)(hx:x<m):(rg m f x).Nodup:=by
 obtain⟨p1,p2,p3,p4⟩:=n9 h hx;unfold rg rgK;rw[bf,dN];refine dO (R:=λa b=>a<b) ?_ iV;intro a b ha hb YC e;have hb:=aO.mp hb;rw[show b=a+(b-a) by omega,vh]at e;have:=v8 h hx (l4 h hx _) a e;exact p4 (b-a) (by omega) (by omega) this.symm
theorem CV(h:Inj m f)(hx:x<m):jT m f x<=m:=(n9 h hx).2.1
theorem Gm(h:Inj m f)(hx:x<m):jT m f x=m ↔ ∀y,y<m->y∈rg m f x:=by
 constructor
 .intro e y hy
  exact(All.mk (Nf h hx) (IP h hx) (by rw[o5,e])).mem hy
 .intro hy
  have:=(xu (ax m) (rg m f x) List.nodup_range (λy q=>hy y (aO.mp q)) (by rw[o5,be];exact CV h hx)).length_eq;rw[be,o5]at this;exact this.symm
end
variable{rl:MX}{cs:List U}
theorem DM{rz is:List Nat}{ml:ME}(hc:jt is G=some cs)(h:ml (cs.map some) S=some (u,S1)):kB (qM rz) is ml rl G S=some (.non,S1++iS λ_=>false):=by
 have e:nu 0 ml cs [] S=some _:=h;simp[kB,hc,qM,e]
theorem Fo{rz is:List Nat}{ml:ME}(hc:jt is G=some cs)(h:ml (cs.map some) S=none)(hx:rl (cs.map some) S=some (q,S1))(hq:q∈rz):kB (qM rz) is ml rl G S=some (.ref (S1.length+3),S1++(iS (bQ q)++[.lst (aA [q])])):=by
 have e:nu 0 ml cs [] S=none:=h;have e2:vj 0 rl cs [] S=some _:=hx;simp only[kB,hc,aG,qM,e,e2];rw[if_pos hq];rfl
theorem Ep(S:Sto)(b:Nat->Bool)(l:List Cell):Ex S (S++(iS b++l)):=⟨_,rfl⟩
theorem Hf(S:Sto)(b:Nat->Bool):Ex S (S++iS b):=⟨_,rfl⟩
theorem FU{b:Nat->Bool}:(S++(iS b++[c]))[S.length+3]?=some c:=by
 simp[iS]
theorem L9(ha:a G S=some (.non,S1))(hb:b G S1=some (.non,S2)):m2 oNe a b G S=some (.bl false,S2):=op2 ha hb rfl
theorem LV{k:Nat}{b:MS}(h:b (us.map some++cp (n-k) none) S=none):_G.run k n b us S=none:=by
 unfold _G.run
 simp_all
theorem FZ{k:Nat}{r:MX}(hl:us.length=k)(h:r (us.map some++cp (n-k) none) S=some (q,S1)):yi k n r us S=some (q,S1):=by
 unfold yi<;>simp_all
theorem M4{a b:MX}{s:MS}(h:a G S=some (q,S1)):rV a s b G S=some (q,S1):=by simp[rV,h]
theorem Of{a b:MX}{s:MS}{Y5:Rho}(h:a G S=none)(h1:s G S=some (.nx,Y5,S1)):rV a s b G S=b Y5 S1:=by simp[rV,h,h1]
theorem NR{c:MT}{a b:MX}(h:c G S=some (true,S1)):xIf c a b G S=a G S1:=by simp[xIf,h,aB]
theorem JF{a b:MS}(h:a G S=none):bh a b G S=none:=by simp[bh,h]
theorem PH{r:RF}{x y:U}{v:Option (Nat×Sto)}(ha:a G S=some (x,S1))(hb:b G S1=some (y,S2))(h:r [x,y] S2=v):xFn r (aa a (aa b ai)) G S=v:=by simp[xFn,aa,ai,ha,hb,aB,h]
section
variable {m:Nat}{T:Nat->Nat->Nat}{S:Sto}
end
section
variable {S:Sto}
end
open PySem in
open PySem in
section
variable {S:Sto}
section
variable {n m r:Nat} (hn:0<n) (YD:n<100) (hm:0<m) (Ys:m<100) (hr:r<100)
include hn YD hm Ys hr
end
end
section
variable {m:Nat}{T:Nat->Nat->Nat}
open Classical in
end
variable{D:List (_L.Key×U)}
theorem GL{k j:_L.Key}:iZ (kW D k u) j=if k=j then some u else iZ D j:=by
 unfold iZ kW;by_cases h:(D.any λkv=>decide (kv.1=k))=true
 .rw[if_pos h]
  induction D with
  |nil=>simp at h
  | cons p D ih=>
    rw[dH,iq];by_cases hp:p.1=k
    .rw[if_pos hp]
     by_cases hk:k=j
     .simp_all
     .have h1:decide (p.1=j)=false:=decide_eq_false (by rw[hp];omega)
      simp only[h1,if_neg hk];rw[iq,h1];by_cases h2:(D.any λkv=>decide (kv.1=k))=true
      .simp_all
      .have:D.map (λkv=>if kv.1=k then(kv.1,u) else kv)=D:=by
        conv=>rhs;rw[<-List.map_id D]
        apply fC<;>grind
       rw[this]
    .rw[if_neg hp]<;>grind
 .rw[if_neg h,List.find?_append]
  by_cases hk:k=j
  .subst hk
   have:D.find? (λkv=>decide (kv.1=k))=none:=by
    rw[List.find?_eq_none];intro kv Ra hd;exact h (jk.mpr ⟨kv,Ra,hd⟩)
   rw[this];simp
  grind
theorem Dg{k:_L.Key}:(kW D k u).length<=D.length+1:=by
 unfold kW
 split
 .simp
 .simp
def t9(D:List (_L.Key×U))(xs:List Nat)(v:Nat):List (_L.Key×U):=xs.foldl (λD (x:Nat)=>kW D (.inl (x:Int)) (.int (v:Nat))) D
theorem rW{v:Nat}:∀{xs:List Nat}{D:List (_L.Key×U)},(t9 D xs v).length<=D.length+xs.length
 |[],D=>by simp[t9]
 | x::xs,D=>by
   have h1:=rW (v:=v) (xs:=xs) (D:=kW D (.inl x) (.int v));have h2:=Dg (D:=D) (k:= .inl x) (u:= .int v);show(t9 _ xs v).length<=_
   grind
theorem wO{v x:Nat}:∀{xs:List Nat}{D:List (_L.Key×U)},iZ (t9 D xs v) (.inl (x:Int))=if x∈xs then some (.int (v:Nat)) else iZ D (.inl (x:Int))
 |[],D=>by simp[t9]
 | y::xs,D=>by
   show iZ (t9 _ xs v) _=_;rw[wO,GL]
   grind
section
variable {m:Nat}{T:Nat->Nat->Nat}{P:List Nat}
end
section
variable {m:Nat}{T:Nat->Nat->Nat}{P:List Nat}
end
end _W
namespace _W
open PySem PySem.Spec _L _G
def nF:MS:=bh (bD 2 (mFn lE (aa (ae 0) (aa (ae 1) ai)))) (bh (sIf (cOf (m2 oLt (mFn cR (aa (ae 2) ai)) (mC (.int 3)))) (bD 2 (mFn cf (aa (m2 dc (mC (.int 3)) (mFn a8 (aa (ae 0) (aa (m2 rG (ae 1) (mC (.int 2))) ai)))) ai))) dF) (bh (bD 3 (kI (iR2 (aa (mC (.int 1)) (aa (mFn cR (aa (ae 2) ai)) ai))))) (bh (bD 4 (mML lh (ae 3) (aa (mFn a8 (aa (ae 0) (aa (mFn cR (aa (ae 3) ai)) ai))) ai))) (bh (bD 5 (m2 oIx (ae 3) (mFn a8 (aa (ae 0) (aa (mFn cR (aa (ae 3) ai)) ai))))) (dS (gc (aa (ae 2) (aa (gc (aa (mFn nE (aa (ae 4) (aa (ae 5) ai))) (aa (mFn sy (aa (ae 4) (aa (ae 5) ai))) ai))) ai))))))))
def jn:MF:=run 2 6 nF
def pJ:MS:=bh (bD 1 (m2 oIx (b9 (aa (mC (.int 16)) (aa (mC (.int 18)) (aa (mC (.int 20)) (aa (mC (.int 22)) (aa (mC (.int 24)) ai)))))) (mFn a8 (aa (ae 0) (aa (mC (.int 5)) ai))))) (bh (bD 2 (m2 dc (mC (.int 1)) (mFn a8 (aa (ae 0) (aa (m2 rG (ae 1) (mC (.int 1))) ai))))) (bh (bD 3 (m2 oMod (m2 dc (ae 2) (m2 oDiv (ae 1) (mC (.int 2)))) (ae 1))) (bh (sIf (cOf (m2 oIn (mC (.int 0)) (gc (aa (ae 2) (aa (ae 3) ai))))) (Bo 2 3 (aa (mC (.int 1)) (aa (m2 dc (mC (.int 1)) (m2 oDiv (ae 1) (mC (.int 2)))) ai))) dF) (dS (gc (aa (mFn cf (aa (ae 1) ai)) (aa (gc (aa (mFn nE (aa (ae 2) (aa (ae 3) ai))) (aa (mFn sy (aa (ae 2) (aa (ae 3) ai))) ai))) ai)))))))
def j8:MF:=run 1 4 pJ
def wR(g:qu)(φ:MF):MS:=bh (bD 2 (b9 ai)) (bh (bD 3 oN) (bh (fB 4 (di (ae 0)) (sIf (cOf (m2 kr (ae 4) (ae 3))) (bh (bD 5 (A8 1 g φ (aa (ae 4) ai))) (bh (d7 (mML bZ (ae 2) (aa (ae 5) ai))) (fB 6 (di (ae 5)) (eU (ae 3) (ae 6) (mC (.bl true)))))) dF)) (dS (ae 2))))
def xh(g:qu)(φ:MF):MF:=run 2 7 (wR g φ)
def ox:MS:=dS (uz (iR1 (aa (mFn cR (aa (ae 0) ai)) ai)))
def oA:MF:=run 1 1 ox
def oO:MS:=dS (oZ xh 1 [0,1] (mFn cu (aa (mFn fo (aa (cy (di (ae 2)) cTT (m2 oIx (m2 oIx (ae 1) (ae 0)) (ae 3))) ai)) ai)) (mFn oA (aa (ae 0) ai)))
def kq:MF:=run 2 2 oO
def z8:MS:=bh (bD 2 (qR (mC (.int 0)) (gc ai))) (bh (bD 3 (b9 (aa (mC (.int 0)) ai))) (bh (jR (cOf (m2 oGt (mFn cR (aa (ae 3) ai)) (mC (.int 0)))) (bh (bD 4 (mML vN (ae 3) ai)) (fB 5 (di (ae 1)) (bh (bD 6 (m2 oIx (m2 oIx (ae 0) (ae 4)) (ae 5))) (sIf (cOf (m2 kr (ae 6) (ae 2))) (bh (eU (ae 2) (ae 6) (m2 dc (m2 oIx (ae 2) (ae 4)) (gc (aa (ae 5) ai)))) (d7 (mML bZ (ae 3) (aa (ae 6) ai)))) dF))))) (dS (ae 2))))
def Ay:MF:=run 2 7 z8
def E1:MS:=dS (mFn cu (aa (mFn fo (aa (mFn Ay (aa (ae 0) (aa (ae 1) ai))) ai)) ai))
def zr:MF:=run 2 2 E1
def rA:MS:=dS (mMT jK (m2 oIx (ae 0) (ae 1)) (aa (mC (.int 0)) ai))
def rX:MF:=run 2 2 rA
def pe:MS:=dS (m2 oIx (m2 oIx (ae 0) (m2 oIx (ae 1) (mC (.int 0)))) (mFn rX (aa (ae 0) (aa (m2 oIx (ae 1) (mC (.int 1))) ai))))
def ke:MF:=run 2 2 pe
def vg:MS:=dS (mFn kq (aa (ae 0) (aa (mFn zr (aa (ae 0) (aa (gc (aa (mFn ke (aa (ae 0) (aa (ae 1) ai))) ai)) ai))) ai)))
def iH:MF:=run 2 2 vg
def l7:MS:=bh (bD 3 oN) (bh (j4 (gTp 2 (fG (gN 4) (fG (gN 5) oh))) (xF (aa (mFn iH (aa (ae 0) (aa (ae 1) ai))) (aa (ae 2) ai))) (fB 6 (di (ae 4)) (eU (ae 3) (ae 6) (m2 oIx (ae 1) (ae 5))))) (dS (ae 3)))
def fM:MF:=run 3 7 l7
def qc:MS:=bh (bD 3 (b9 (aa (ae 2) ai))) (bh (bD 4 (m2 oIx (m2 oIx (ae 0) (ae 2)) (m2 oIx (ae 1) (ae 2)))) (bh (jR (cOf (m2 oNe (ae 4) (ae 2))) (bh (d7 (mML bZ (ae 3) (aa (ae 4) ai))) (bD 4 (m2 oIx (m2 oIx (ae 0) (ae 4)) (m2 oIx (ae 1) (ae 4)))))) (dS (mFn cu (aa (ae 3) ai)))))
def iR:MF:=run 3 5 qc
def uq:MS:=bh (bD 3 (mFn fM (aa (ae 0) (aa (ae 1) (aa (ae 2) ai))))) (bh (bD 4 (mFn iR (aa (ae 0) (aa (ae 3) (aa (mC (.int 0)) ai))))) (dS (wN (cOf (m2 oEq (mFn cR (aa (ae 4) ai)) (mFn cR (aa (ae 0) ai)))) (mFn cu (aa (cy (di (ae 4)) cTT (m2 oIx (ae 3) (ae 5))) ai)) (mC .non))))
def jj:MF:=run 3 5 uq
def lF:MS:=bh (bD 2 (b9 (aa (gc ai) ai))) (bh (jR (cOf (m2 oLt (mFn cR (aa (m2 oIx (ae 2) (mC (.int 0))) ai)) (ae 1))) (bh (bD 3 (b9 ai)) (bh (fB 4 (di (ae 2)) (d7 (mML ja (ae 3) (aa (cy (di (ae 0)) cTT (m2 dc (ae 4) (gc (aa (ae 5) ai)))) ai)))) (bD 2 (ae 3))))) (dS (ae 2)))
def fN:MF:=run 2 5 lF
def fg:MS:=bh (bD 2 (mFn cR (aa (mFn iH (aa (ae 0) (aa (ae 1) ai))) ai))) (bh (sIf (cOf (m2 oGt (ae 2) (mC (.int 10)))) sNo dF) (bh (bD 3 (cy (di (mFn fN (aa (gc (aa (mC (.int 0)) (aa (mC (.int 1)) ai))) (aa (ae 2) ai)))) cTT (mFn jj (aa (ae 0) (aa (ae 1) (aa (ae 4) ai)))))) (dS (mFn pv (aa (cy (di (ae 3)) (cOf (m2 nG (ae 4) (mC .non))) (ae 4)) ai)))))
def bz:MF:=run 2 4 fg
def gv:MX:=rV xNo (bD 2 (mFn cR (aa (mFn iH (aa (ae 0) (aa (ae 1) ai))) ai))) (rV (xIf (cOf (m2 oGt (ae 2) (mC (.int 10)))) (rV (vK 0) sNo xNo) xNo) (sIf (cOf (m2 oGt (ae 2) (mC (.int 10)))) sNo dF) xNo)
def dw:RF:=yi 2 4 gv
def kE:MS:=dS (m2 oIx (cy (iR1 (aa (mFn cR (aa (ae 0) ai)) ai)) (cOf (m2 oEq (m2 oIx (m2 oIx (ae 0) (ae 1)) (ae 2)) (mC (.int 0)))) (ae 2)) (mC (.int 0)))
def jc:MF:=run 2 2 kE
def lZ:MS:=bh (bD 2 (m2 oIx (m2 oIx (ae 0) (m2 oIx (ae 1) (mC (.int 0)))) (mFn jc (aa (ae 0) (aa (m2 oIx (ae 1) (mC (.int 1))) ai))))) (bh (bD 3 (b9 ai)) (bh (fB 4 (iR1 (aa (mFn cR (aa (ae 0) ai)) ai)) (bh (bD 5 (b9 (aa (ae 4) ai))) (bh (jR (cOf (m2 oNe (m2 oIx (m2 oIx (ae 0) (m2 oIx (ae 5) (m1 ot (mC (.int 1))))) (ae 2)) (ae 4))) (d7 (mML bZ (ae 5) (aa (m2 oIx (m2 oIx (ae 0) (m2 oIx (ae 5) (m1 ot (mC (.int 1))))) (ae 2)) ai)))) (sIf (cOf (m2 oEq (mFn nE (aa (ae 5) ai)) (ae 4))) (d7 (mML bZ (ae 3) (aa (mFn cu (aa (mFn fo (aa (ae 5) ai)) ai)) ai))) dF)))) (dS (ae 3))))
def gS:MF:=run 2 6 lZ
def Iy:MS:=bh (fB 1 (iR1 (aa (mFn sy (aa (mC (.int 1)) (aa (mFn nE (aa (mFn cR (aa (ae 0) ai)) (aa (mC (.int 3)) ai))) ai))) ai)) (bh (bD 2 (mFn jD (aa (ae 0) (aa (ae 1) ai)))) (j4 (gTp 2 (fG (gN 3) (fG (gN 4) oh))) (di (b9 (aa (mFn jn (aa (ae 2) (aa (m2 oIx (b9 (aa (mC (.int 24)) (aa (mC (.int 12)) ai))) (mFn a8 (aa (ae 2) (aa (mC (.int 2)) ai)))) ai))) (aa (mFn j8 (aa (ae 2) ai)) ai)))) (bh (bD 5 (m2 oIx (b9 (aa (mC .non) (aa (b9 (aa (mC (.int 0)) ai)) ai))) (mFn t7 (aa (m2 oGt (mFn cR (aa (mFn gS (aa (ae 3) (aa (ae 4) ai))) ai)) (mC (.int 10))) ai)))) (sIf (cOf (m2 oNe (kB (qM [0]) [3,4] (mFn bz (aa (ae 0) (aa (ae 1) ai))) (xFn dw (aa (ae 0) (aa (ae 1) ai)))) (ae 5))) (dS (mC (.bl false))) dF))))) (dS (mC (.bl true)))
def NL:MF:=run 1 6 Iy
section
open _L _G
variable{m:Nat}{T:Nat->Nat->Nat}{S:Sto}
theorem BZ(g:Grp m T){i:Nat}(hi:i<m):rX [tab m T,.int i] S=some (.int (unT m T i),S):=by
 have h0:=Kr g hi;have e:=jw (G:= [some (tab m T),some (.int i)]) (S:=S) (a:=ae 0) (b:=ae 1) hi (var_eq rfl) (var_eq rfl);rw[EL]at e;exact dv (G:= [some (tab m T),some (.int i)]) rfl (show rA [some (tab m T),some (.int i)] S=_ from du (xf (x:=0) e c_i h0))
variable{G:Rho}{S1:Sto}{a:ME}{x:Nat}
theorem Jh{S2:Sto}{b:ME}{y:Nat}(ha:a G S=some (.int x,S1))(hb:b G S1=some (.int y,S2)):mFn sy (aa a (aa b ai)) G S=some (.int (max x y:Nat),S2):=by
 refine dC ha hb ?_;show some (U.int (if (y:Int)>x then(y:Int) else x),S2)=_
 congr 3
 split<;>omega
variable{y:U}
theorem BB{S2:Sto}{b:ME}{x:U}(ha:a G S=some (x,S1))(hb:b G S1=some (y,S2)):gc (aa a (aa b ai)) G S=some (.tup [x,y],S2):=by
 have Xh:2<=big:=by decide
 simp[gc,aa,ai,ha,hb,aB,Xh]
variable{n:Nat}
theorem Ho{most:Nat}(h:nN n S)(h6:6<=most)(h10:most<=24):∃m T a b S',jn [.ref n,.int (most:Nat)] S=some (.tup [tab m T,.tup [.int (a:Nat),.int (b:Nat)]],S')/\Grp m T/\3<=m/\m<=most/\a<m/\b<m/\a<b/\Stp n S S':=by
 obtain⟨m0,T0,S1,e1,g0,VC,ZK⟩:=Et (most:=most) h (by omega) (by omega);have key:∃m T S2,sIf (cOf (m2 oLt (mFn cR (aa (ae 2) ai)) (mC (.int 3)))) (bD 2 (mFn cf (aa (m2 dc (mC (.int 3)) (mFn a8 (aa (ae 0) (aa (m2 rG (ae 1) (mC (.int 2))) ai)))) ai))) dF [some (.ref n),some (.int (most:Nat)),some (tab m0 T0),none,none,none] S1=some (.nx,[some (.ref n),some (.int (most:Nat)),some (tab m T),none,none,none],S2)/\Grp m T/\3<=m/\m<=most/\Stp n S S2:=by
  have ec:cOf (m2 oLt (mFn cR (aa (ae 2) ai)) (mC (.int 3))) [some (.ref n),some (.int (most:Nat)),some (tab m0 T0),none,none,none] S1=some (decide ((m0:Int)<3),S1):=of_eq (L3 (len_tab (var_eq rfl)) c_i);by_cases ZU:m0<3
  .obtain⟨r,S2,e2,hr,Zy⟩:=iB (m:=most-2) ZK.st (by omega) (by omega)
   obtain⟨S3,e3,x3⟩:=j0 (n:=3+r) (S:=S2) (by exact bJ (by decide) _) (by unfold big;omega);refine⟨3+r,fq (3+r),S3,?_,ji (by exact bJ (by decide) _),by omega,by omega,(ZK.trans Zy).step x3⟩;rw[show decide ((m0:Int)<3)=true by simp;omega]at ec;refine(pk ec).trans (bB (gd (add_n (x:=3) c_i (dC (var_eq rfl) (Ai (var_eq rfl) c_i) ?_)) e3));rw[show((most-2:Nat):Int)=(most:Int)-2 by omega]at e2;exact e2
  .rw[show decide ((m0:Int)<3)=false by simp;omega]at ec
   exact⟨m0,T0,S1,(nO ec).trans rfl,g0,by exact dA (by assumption),VC,ZK⟩
 obtain⟨m,T,S2,e2,g,Sw,hm,Zy⟩:=key;have hn:=h.lt;have hm24:m<=24:=by omega
 have ZF:m<big:=by unfold big;exact aK (by assumption) (by decide)
 have e3:kI (iR2 (aa (mC (.int 1)) (aa (mFn cR (aa (ae 2) ai)) ai))) [some (.ref n),some (.int (most:Nat)),some (tab m T),none,none,none] S2=some (.ref S2.length,S2++[Cell.lst (aA (aQ 1 (m-1)))]):=by
  rw[ux (i:=1) (j:=m) rfl (len_tab (var_eq rfl)) ⟨by decide,by decide⟩ (qE ZF) (by rw[kM m (by exact uh (by assumption))];simp[aA];exact aH (by assumption) (by decide)),kM m (by exact uh (by assumption))]
 have ZL:Stp n S (S2++[Cell.lst (aA (aQ 1 (m-1)))]):=Zy.step (Ex.push _ _);have g3:(S2++[Cell.lst (aA (aQ 1 (m-1)))])[S2.length]?=some (Cell.lst (aA (aQ 1 (m-1)))):=cj _ _;obtain⟨r,S4,e4,hr,YE⟩:=iB (m:=m-1) ZL.st (by omega) (by omega);have ZI:S2.length≠n:=by have:=Zy.len;omega
 have g4:S4[S2.length]?=some (Cell.lst (aA (aQ 1 (m-1)))):=YE.some ZI g3;have hlen:(aQ 1 (m-1)).length=m-1:=by simp
 have l1:mFn cR (aa (ae 3) ai) [some (.ref n),some (.int (most:Nat)),some (tab m T),some (.ref S2.length),none,none] (S2++[Cell.lst (aA (aQ 1 (m-1)))])=some (.int (m-1:Nat),S2++[Cell.lst (aA (aQ 1 (m-1)))]):=by
  rw[AM (var_eq rfl) g3];simp[aA]
 have p1:=xb (G:= [some (.ref n),some (.int (most:Nat)),some (tab m T),some (.ref S2.length),none,none]) (o:=ae 3) (a:=mFn a8 (aa (ae 0) (aa (mFn cR (aa (ae 3) ai)) ai))) (r:=S2.length) (j:=r) (l:=aQ 1 (m-1)) (var_eq rfl) (dC (var_eq rfl) l1 e4) g3 g4 (by rw[hlen];exact hr) (by rw[hlen];omega);have YN:Stp n S (S4.set S2.length (Cell.lst (aA ((aQ 1 (m-1)).eraseIdx r)))):=(ZL.trans YE).set Zy.len ZI;have g5:(S4.set S2.length (Cell.lst (aA ((aQ 1 (m-1)).eraseIdx r))))[S2.length]?=some (Cell.lst (aA ((aQ 1 (m-1)).eraseIdx r))):=aM (ah.mp g4).1;have hle:((aQ 1 (m-1)).eraseIdx r).length=m-2:=by rw[List.length_eraseIdx,if_pos (by rw[hlen];exact hr),hlen];omega
 obtain⟨q,S6,e6,hq,Sz⟩:=iB (m:=m-2) YN.st (by omega) (by omega);have g6:S6[S2.length]?=some (Cell.lst (aA ((aQ 1 (m-1)).eraseIdx r))):=Sz.some ZI g5;have va:(aQ 1 (m-1))[r]'(by rw[hlen];exact hr)<m:=by simp;omega
 have WE:q<((aQ 1 (m-1)).eraseIdx r).length:=by rw[hle];exact hq
 have vb:((aQ 1 (m-1)).eraseIdx r)[q]'(WE)<m:=by
  have Zx:=List.mem_of_mem_eraseIdx (bR WE);have:=(List.mem_range'_1.mp Zx);omega
 have Tg:(aQ 1 (m-1))[r]'(by rw[hlen];exact hr)≠((aQ 1 (m-1)).eraseIdx r)[q]'(WE):=by
  obtain⟨i,hi,hir,e⟩:=List.mem_eraseIdx_iff_getElem.mp (bR WE);rw[<-e];simp;omega
 generalize hA:(aQ 1 (m-1))[r]'(by rw[hlen];exact hr)=A at va p1 Tg;generalize hB:((aQ 1 (m-1)).eraseIdx r)[q]'(WE)=B at vb Tg;have l2:mFn cR (aa (ae 3) ai) [some (.ref n),some (.int (most:Nat)),some (tab m T),some (.ref S2.length),some (.int A),none] (S4.set S2.length (Cell.lst (aA ((aQ 1 (m-1)).eraseIdx r))))=some (.int (m-2:Nat),S4.set S2.length (Cell.lst (aA ((aQ 1 (m-1)).eraseIdx r)))):=by
  rw[AM (var_eq rfl) g5];simp only[aA,ar,hle]
 have i1:m2 oIx (ae 3) (mFn a8 (aa (ae 0) (aa (mFn cR (aa (ae 3) ai)) ai))) [some (.ref n),some (.int (most:Nat)),some (tab m T),some (.ref S2.length),some (.int A),none] (S4.set S2.length (Cell.lst (aA ((aQ 1 (m-1)).eraseIdx r))))=some (.int B,S6):=by
  refine r9 (var_eq rfl) (dC (var_eq rfl) l2 e6) g6 (jE ?_);unfold aA;rw[ba,aI WE,hB];rfl
 refine⟨m,T,min A B,max A B,S6,dv (G:= [some (.ref n),some (.int (most:Nat)),some (tab m T),some (.ref S2.length),some (.int A),some (.int B)]) rfl ?_,g,Sw,hm,by omega,by omega,by omega,YN.trans Sz⟩;show nF [some (.ref n),some (.int (most:Nat)),none,none,none,none] S=_;exact(aY (bB (dC (var_eq rfl) (var_eq rfl) e1))).trans ((aY e2).trans ((aY (bB e3)).trans ((aY (bB p1)).trans ((aY (bB i1)).trans (du (BB (var_eq rfl) (BB (IX (var_eq rfl) (var_eq rfl)) (Jh (var_eq rfl) (var_eq rfl)))))))))
theorem IC{x:U}(ha:a G S=some (.tup [x,y],S1)):m2 oIx a (mC (.int 0)) G S=some (x,S1):=EU ha rfl rfl
theorem Jk{x:U}(ha:a G S=some (.tup [x,y],S1)):m2 oIx a (mC (.int 1)) G S=some (y,S1):=EU ha rfl rfl
theorem GZ(g:Grp m T){a b:Nat}(ha:a<m)(hb:b<m):ke [tab m T,.tup [.int (a:Nat),.int (b:Nat)]] S=some (.int (T a (unT m T b)),S):=
 dv (G:= [some (tab m T),some (.tup [.int (a:Nat),.int (b:Nat)])]) rfl (show pe [some (tab m T),some (.tup [.int (a:Nat),.int (b:Nat)])] S=_ from du (jQ (jJ g hb).1 (jw ha (var_eq rfl) (IC (var_eq rfl))) (dC (var_eq rfl) (Jk (var_eq rfl)) (BZ g hb))))
def eE(m:Nat)(T:Nat->Nat->Nat)(t n:Nat):List (List Nat):=((ax m).filter (jv T t n)).map λx=>srt (orb T t n x)
abbrev eP(ls:List (List Nat)):List U:=tups ls
theorem xo{t:Nat}:(eE m T t n).length<=m:=by
 unfold eE;rw[ar];exact aH (gn _ _) (by simp)
theorem mB{t k:Nat}:eE (k+1) T t n=eE k T t n++(if jv T t n k then [srt (orb T t n k)] else []):=by
 unfold eE;rw[ir,List.filter_append,bS]
 congr 1
 cases h:jv T t n k<;>simp[h]
theorem DC{t k:Nat}(g:Grp m T)(ht:t<m)(hn:0<n)(h0:pw T t n=0)(hk:k<m):jv T t n k=true ↔ ¬∃x,x<k/\k∈orb T t n x:=by
 rw[jh];constructor
 .rintro h ⟨x,hx,hm⟩
  have:=h x (j5 g ht hn h0 (by exact bg (by assumption) (by assumption)) hm);omega
 .intro h y hy
  refine dA λZU=>h ⟨y,ZU,j5 g ht hn h0 hk hy⟩
theorem Ae{T:Nat->Nat->Nat}{m t n:Nat}(g:Grp m T)(ht:t<m)(hn:0<n)(h0:pw T t n=0){r:Nat->List Nat}(hr:∀x,(r x).Perm (orb T t n x)):∀k,k<=m ->
  (∀y:Nat,y∈(sdF r k).2 ↔ ∃x,x<k/\y∈orb T t n x)/\(sdF r k).1=eE k T t n
 | 0,_=>⟨λy=>by
   constructor
   .intro h;simp[sdF]at h
   ·rintro ⟨x,hx,_⟩;omega,rfl⟩
 | k+1,hk=>by
   obtain⟨i1,i2⟩:=Ae g ht hn h0 hr k (by exact aE (by assumption));have XR:=DC g ht hn h0 (show k<m by assumption);by_cases q:k∈(sdF r k).2
   .have e:sdF r (k+1)=sdF r k:=by rw[sdF,if_pos q]
    obtain⟨x0,Tt,VC⟩:=(i1 k).mp q;have hf:jv T t n k=false:=by
     cases w:jv T t n k with
     |false=>rfl
     |true=>exact absurd ⟨x0,Tt,VC⟩ (XR.mp w)
    rw[e];refine⟨λy=>(i1 y).trans ⟨?_,?_⟩,?_⟩
    .rintro ⟨x,hx,hm⟩;exact⟨x,by exact eG (by assumption),hm⟩
    .rintro ⟨x,hx,hm⟩
     by_cases hxk:x=k
     .subst hxk;exact⟨x0,Tt,kf g ht h0 (by exact bg (by assumption) (by assumption)) VC hm⟩
     .exact⟨x,by omega,hm⟩
    .rw[i2,mB,hf];simp
   .have e:sdF r (k+1)=((sdF r k).1++[srt (r k)],(sdF r k).2++r k):=by rw[sdF,if_neg q]
    have hf:jv T t n k=true:=XR.mpr λh=>q ((i1 k).mpr h);rw[e];refine⟨λy=>?_,?_⟩
    .show y∈(sdF r k).2++r k↔_
     rw[aV,i1 y,(hr k).mem_iff];constructor
     .rintro (⟨x,hx,hm⟩|hm)
      .exact⟨x,by exact eG (by assumption),hm⟩
      .exact⟨k,by exact ao _,hm⟩
     .rintro ⟨x,hx,hm⟩
      by_cases hxk:x=k
      .subst hxk;exact .inr hm
      .exact .inl ⟨x,by omega,hm⟩
    .show(sdF r k).1++[srt (r k)]=_
     rw[i2,mB,hf,Bu (hr k)];simp
theorem Kt{t:Nat}(h:Rch T [t] x):∃i,x=pw T t i:=by
 induction h with
 |zero=>exact⟨0,rfl⟩
 | step _ hy ih=>
   obtain⟨i,rfl⟩:=ih;simp at hy;subst hy;exact⟨i+1,rfl⟩
theorem EJ{T:Nat->Nat->Nat}{t:Nat}:∀i,Rch T [t] (pw T t i)
 |0=>.zero
 |i+1=>.step (EJ i) (by simp)
def pws(T:Nat->Nat->Nat)(t n:Nat):List Nat:=(ax n).map (pw T t)
theorem Dh{t:Nat}{ks:List Nat}(g:Grp m T)(ht:t<m)(UP:1<=n)(h1:∀k,1<=k->k<n->pw T t k≠0)(h0:pw T t n=0)(d:Dfs m T [t] ks λ_=>False):ks.Perm (pws T t n):=by
 refine GX d.nd ?_ λx=>?_
 .unfold pws
  rw[bf,dN];refine dO ?_ (iV (n:=n));intro a b ha hb YC e;have hb:=aO.mp hb;exact h1 (b-a) (by omega) (by omega) (Al g ht (by exact aE (by assumption)) e)
 .rw[d.all]
  constructor
  .intro h
   obtain⟨i,rfl⟩:=Kt h;refine aR.mpr ⟨i%n,aO.mpr (kQ _ (by assumption)),?_⟩;have:∀q r,pw T t (n*q+r)=pw T t r:=λq=>by
    induction q with
    |zero=>intro r;rw[Nat.mul_zero,eA]
    |succ q ih=>intro r;rw[Nat.mul_succ,eu,ih,An g ht h0]
   have e:=this (i/n) (i%n);rw[yI]at e;exact e.symm
  .intro h
   obtain⟨i,_,rfl⟩:=aR.mp h;exact EJ i
section
variable {m:Nat}{T:Nat->Nat->Nat}{t n:Nat}
theorem qP{S:Sto}(g:Grp m T)(hm:m<64){a b:Nat}(ha:a<m)(hb:b<m)(he:t=T a (unT m T b))(UP:1<=n)(hn:n<64)(h1:∀k,1<=k->k<n->pw T t k≠0)(h0:pw T t n=0):
  ∃r S',iH [tab m T,.tup [.int (a:Nat),.int (b:Nat)]] S=some (.ref r,S')/\Ex S S'/\S.length<=r/\S'[r]?=some (.lst (eP (eE m T t n))):=by
 have ht:t<m:=by rw[he];exact g.cl _ _ ha (jJ g hb).1
 obtain⟨ks,S1,e1,x1,d⟩:=OU (S:=S) (ths:= [t]) g hm (by simpa using ht);have hp:=Dh g ht UP h1 h0 d;obtain⟨S2,e2,x2,q2⟩:=GP (S:=S1) (part:=srt ks) g hm (by rw[qx,hp.length_eq];simpa [pws]using hn) (λx hx=>d.lt x (jF.mp hx));have hs:Fh m T (srt ks) true=eE m T t n:=by
  refine(Ae g ht (by assumption) h0 (λx=>?_) m (ao _)).2;show(tP (λo=>if true=true then T x o else T o x) (srt ks)).Perm (orb T t n x);have:(tP (λo=>if true=true then T x o else T o x) (srt ks))=(srt ks).map (T x):=by simp
  rw[this];refine(((rC ks).trans hp).map (T x)).trans ?_;rw[show(pws T t n).map (T x)=orb T t n x by simp[pws,orb,dM,FJ]]
 rw[hs]at q2;have et:=GZ (S:=S) g ha hb;rw[<-he]at et;have e3:gc (aa (mFn ke (aa (ae 0) (aa (ae 1) ai))) ai) [some (tab m T),some (.tup [.int (a:Nat),.int (b:Nat)])] S=some (.tup (aA [t]),S):=KR (dC (f:=ke) (a:=ae 0) (b:=ae 1) (G:= [some (tab m T),some (.tup [.int (a:Nat),.int (b:Nat)])]) (var_eq rfl) (var_eq rfl) et);exact⟨_,_,dv (G:= [some (tab m T),some (.tup [.int (a:Nat),.int (b:Nat)])]) rfl (show vg [some (tab m T),some (.tup [.int (a:Nat),.int (b:Nat)])] S=_ from du (dC (f:=kq) (a:=ae 0) (var_eq rfl) (dC (f:=zr) (a:=ae 0) (var_eq rfl) e3 e1) e2)),x1.trans x2,x1.len,q2⟩
end
section
variable {m:Nat}{T:Nat->Nat->Nat}{t n:Nat}
end
theorem zi(g:Grp m T)(hm:m<100)(hx:x<m):∃S',jc [tab m T,.int x] S=some (.int (unT m T x),S')/\Ex S S':=by
 obtain⟨u1,u2,u3,u4⟩:=jJ g hx;obtain⟨S1,e1,h1⟩:=xI (G:= [some (tab m T),some (.int x)]) (S:=S) (S0:=S) (a:=mFn cR (aa (ae 0) ai)) (t:=cOf (m2 oEq (m2 oIx (m2 oIx (ae 0) (ae 1)) (ae 2)) (mC (.int 0)))) (e:=ae 2) (n:=m) (len_tab (var_eq rfl)) (by unfold big;omega)
  (λj=>decide (T x j=0)) (λj => .int j) (λ_ S'=>S'=S) rfl (by
   rintro j S' hj rfl
   exact⟨S',of_eq (K4 (y:=0) (jQ hj (jw hx (var_eq rfl) (var_eq rfl)) (var_eq rfl)) c_i),λ_=>⟨S',var_eq rfl,rfl⟩,λ_=>rfl⟩)
 subst h1;have d1:((((ax m).filter λj=>decide (T x j=0)).map λ(j:Nat)=>U.int j)[0]?)=some (.int (unT m T x)):=by
  rw[ba,jA,oz (k:=unT m T x) m 0 (cU _) (by omega) (by simpa using u2) λj _ hj=>by
   have:T x j≠0:=λh0=>by have:=u4 j (by omega) h0;omega
   simpa using this]
  rfl
 exact⟨_,dv (G:= [some (tab m T),some (.int x)]) rfl (show kE [some (tab m T),some (.int x)] S1=_ from du (G9 e1 d1)),Ex.push _ _⟩
section
variable {m:Nat}{T:Nat->Nat->Nat}{t n:Nat}
variable{x:Nat}
theorem CI{k:Nat}:orb T t k x++[T x (pw T t k)]=orb T t (k+1) x:=by simp[orb,ir]
theorem Pq{k:Nat}:aA (orb T t k x)=(ax k).map λi=>U.int (T x (pw T t i):Nat):=by simp[aA,orb,dM,FJ]
variable{G:Rho}{S:Sto}
theorem Pf{a:ME}{r:Nat}{l:List Nat}(ha:a G S=some (.ref r,S))(hr:S[r]?=some (Cell.lst (aA l))){y:Int}(hy:ql (fI l)=some y):mFn nE (aa a ai) G S=some (.int y,S):=
 gd ha (by simp only[nE,getL,hr,aG,pG,hy,cP];try rfl)
theorem Bc:∀(l:List Int),l≠[]->∃y,ql l=some y
 |[],h=>absurd rfl h
 | x::xs,_=>by
   unfold ql;cases ql xs with
   |none=>exact⟨_,rfl⟩
   |some k=>exact⟨_,rfl⟩
theorem CC(g:Grp m T)(hn:0<n)(hx:x<m):∃y:Nat,ql (fI (orb T t n x))=some (y:Int)/\decide (y=x)=jv T t n x:=by
 have hs:=yw (t:=t) g hn hx;obtain⟨z,hz⟩:=Bc (fI (orb T t n x)) λh=>by
  have:(fI (orb T t n x)).length=0:=by rw[h];rfl
  unfold fI at this;rw[ar,vF]at this;omega
 obtain⟨z1,z2⟩:=pb hz;obtain⟨y,hy,rfl⟩:=aR.mp z1;refine⟨y,hz,?_⟩;have hle:∀w∈orb T t n x,y<=w:=λw hw=>by
  have:=z2 (w:Int) (aR.mpr ⟨w,hw,rfl⟩);omega
 by_cases h:y=x
 .subst h
  rw[decide_eq_true rfl,jh.mpr hle]
 .rw[decide_eq_false h]
  cases w:jv T t n x with
  |false=>rfl
  | true=>
    have q1:=jh.mp w y hy;have q2:=hle x hs;omega
theorem Pw{S1:Sto}{a:ME}{u:U}(ha:a G S=some (u,S1)):b9 (aa a ai) G S=some (.ref S1.length,S1++[.lst [u]]):=by
 have Yq:1<=big:=by decide
 simp[b9,lr ha,aB,Yq]
def JR:MT:=cOf (m2 oNe (m2 oIx (m2 oIx (ae 0) (m2 oIx (ae 5) (m1 ot (mC (.int 1))))) (ae 2)) (ae 4))
def Ln:MS:=d7 (mML bZ (ae 5) (aa (m2 oIx (m2 oIx (ae 0) (m2 oIx (ae 5) (m1 ot (mC (.int 1))))) (ae 2)) ai))
theorem DH(g:Grp m T)(ht:t<m)(hn:n<1000)(h1:∀k,1<=k->k<n->pw T t k≠0)(h0:pw T t n=0){B:Sto}{p f3:Option U}{x:Nat}(hx:x<m):∀(d f i:Nat),i+d+1=n->d+1<=f ->
  whl JR Ln f [some (tab m T),p,some (.int (t:Nat)),f3,some (.int (x:Nat)),some (.ref B.length)] (B++[.lst (aA (orb T t (i+1) x))]) =
   some (.nx,[some (tab m T),p,some (.int (t:Nat)),f3,some (.int (x:Nat)),some (.ref B.length)],B++[.lst (aA (orb T t n x))])
 |d,0,i,_,hf=>by omega
 | d,f+1,i,hd,hf=>by
   have e5:m2 oIx (ae 5) (m1 ot (mC (.int 1))) [some (tab m T),p,some (.int (t:Nat)),f3,some (.int (x:Nat)),some (.ref B.length)] (B++[.lst (aA (orb T t (i+1) x))])=some (.int (T x (pw T t i):Nat),B++[.lst (aA (orb T t (i+1) x))]):=r9 (var_eq rfl) PY (cj _ _) (by rw[Pq];exact CK);have e6:m2 oIx (m2 oIx (ae 0) (m2 oIx (ae 5) (m1 ot (mC (.int 1))))) (ae 2) [some (tab m T),p,some (.int (t:Nat)),f3,some (.int (x:Nat)),some (.ref B.length)] (B++[.lst (aA (orb T t (i+1) x))])=some (.int (T x (pw T t (i+1)):Nat),B++[.lst (aA (orb T t (i+1) x))]):=by
    rw[<-CF g ht hx i];exact jQ ht (jw (g.cl _ _ hx (ix g ht i)) (var_eq rfl) e5) (var_eq rfl)
   have ec:JR _ _=_:=of_eq (Mr e6 (b:=ae 4) (y:=x) (var_eq rfl));unfold whl;rw[ec];simp only[aB];by_cases ZU:i+1<n
   .have ZI:=Kk g ht h1 hx (i:=i+1) (by omega) ZU
    rw[decide_eq_false ZI];simp only[Bool.not_false,if_true];have ea:=append_eq (G:= [some (tab m T),p,some (.int (t:Nat)),f3,some (.int (x:Nat)),some (.ref B.length)]) (o:=ae 5) (var_eq rfl) e6 (cj _ _) (cj _ _) (by rw[de,vF];unfold big;omega);rw[eZ _ _ (ao _),kh,show aA (orb T t (i+1) x)++[U.int (T x (pw T t (i+1)):Nat)]=aA (orb T t (i+1+1) x) by rw[<-CI (k:=i+1)];simp[aA]]at ea;rw[show Ln _ _=_ from ea];cases d with
    |zero=>omega
    |succ d=>exact DH g ht hn h1 h0 hx d f (i+1) (by omega) (by omega)
   .have Zx:i+1=n:=by omega
    have he:T x (pw T t (i+1))=x:=by rw[Zx,h0];exact g.r0 x hx
    rw[decide_eq_true he,Zx];rfl
theorem cap{x:Sto}{c c':Cell}:(S++[c]++x).set S.length c'=S++[c']++x:=by
 rw[aU,eZ _ _ (ao _),kh,aU];rfl
theorem cag{x:Sto}{c:Cell}:(S++[c]++x)[S.length]?=some c:=by rw[aU,br (ao _)];simp
def lsB:MS:=bh (bD 5 (b9 (aa (ae 4) ai))) (bh (jR JR Ln) (sIf (cOf (m2 oEq (mFn nE (aa (ae 5) ai)) (ae 4))) (d7 (mML bZ (ae 3) (aa (mFn cu (aa (mFn fo (aa (ae 5) ai)) ai)) ai))) dF))
theorem Cj(g:Grp m T)(hm:m<64){a b:Nat}(ha:a<m)(hb:b<m)(he:t=T a (unT m T b))(UP:1<=n)(hn:n<64)(h1:∀k,1<=k->k<n->pw T t k≠0)(h0:pw T t n=0):
  ∃r S',gS [tab m T,.tup [.int (a:Nat),.int (b:Nat)]] S=some (.ref r,S')/\Ex S S'/\S'[r]?=some (.lst (eP (eE m T t n))):=by
 have ht:t<m:=by rw[he];exact g.cl _ _ ha (jJ g hb).1
 obtain⟨S1,e1,x1⟩:=zi (S:=S) g (by omega) hb;have e2:m2 oIx (m2 oIx (ae 0) (m2 oIx (ae 1) (mC (.int 0)))) (mFn jc (aa (ae 0) (aa (m2 oIx (ae 1) (mC (.int 1))) ai))) [some (tab m T),some (.tup [.int (a:Nat),.int (b:Nat)]),none,none,none,none] S=some (.int (t:Nat),S1):=by
  rw[he];exact jQ (jJ g hb).1 (jw ha (var_eq rfl) (IC (var_eq rfl))) (dC (var_eq rfl) (Jk (var_eq rfl)) e1)
 have e3:bD 3 (b9 ai) [some (tab m T),some (.tup [.int (a:Nat),.int (b:Nat)]),some (.int (t:Nat)),none,none,none] S1=some (.nx,[some (tab m T),some (.tup [.int (a:Nat),.int (b:Nat)]),some (.int (t:Nat)),some (.ref S1.length),none,none],S1++[.lst []]):=bB mG;obtain⟨Z3,S4,e4,⟨p4,q4,rfl⟩,x4,rfl⟩:=mP (i:=4) (a:=mFn cR (aa (ae 0) ai)) (n:=m) (b:=lsB) (G:= [some (tab m T),some (.tup [.int (a:Nat),.int (b:Nat)]),some (.int (t:Nat)),some (.ref S1.length),none,none]) (S:=S1++[.lst []]) (len_tab (var_eq rfl)) (by unfold big;omega)
  (λk G S'=>(∃p q,G = [some (tab m T),some (.tup [.int (a:Nat),.int (b:Nat)]),some (.int (t:Nat)),some (.ref S1.length),p,q]) /\ ∃x,S'=S1++[.lst (eP (eE k T t n))]++x) ⟨⟨none,none,rfl⟩,[],by simp[eE,tups]⟩ (by
   rintro k G S' hk ⟨⟨p,q,rfl⟩,x,rfl⟩;have f5:b9 (aa (ae 4) ai) [some (tab m T),some (.tup [.int (a:Nat),.int (b:Nat)]),some (.int (t:Nat)),some (.ref S1.length),some (.int (k:Nat)),q] (S1++[.lst (eP (eE k T t n))]++x)=some (.ref (S1++[Cell.lst (eP (eE k T t n))]++x:Sto).length,S1++[.lst (eP (eE k T t n))]++x++[.lst (aA (orb T t (0+1) k))]):=by
    rw[show aA (orb T t (0+1) k)=[U.int (k:Nat)] by simp[aA,orb,pw,g.r0 k hk]];exact Pw (var_eq rfl)
   have f6:=DH (B:=S1++[.lst (eP (eE k T t n))]++x) (p:=some (.tup [.int (a:Nat),.int (b:Nat)])) (f3:=some (.ref S1.length)) g ht (by omega) h1 h0 hk (n-1) fuel 0 (by omega) (by unfold fuel;omega);obtain⟨y,hy,Rv⟩:=CC (t:=t) g (by omega:0<n) hk;have c7:=of_eq (K4 (G:= [some (tab m T),some (.tup [.int (a:Nat),.int (b:Nat)]),some (.int (t:Nat)),some (.ref S1.length),some (.int (k:Nat)),some (.ref (S1++[Cell.lst (eP (eE k T t n))]++x:Sto).length)]) (S:=S1++[.lst (eP (eE k T t n))]++x++[.lst (aA (orb T t n k))]) (y:=k) (b:=ae 4) (Pf (a:=ae 5) (var_eq rfl) (cj _ _) hy) (var_eq rfl));rw[Rv]at c7;have f8:=gQ (wC (G:= [some (tab m T),some (.tup [.int (a:Nat),.int (b:Nat)]),some (.int (t:Nat)),some (.ref S1.length),some (.int (k:Nat)),some (.ref (S1++[Cell.lst (eP (eE k T t n))]++x:Sto).length)]) (S:=S1++[.lst (eP (eE k T t n))]++x++[.lst (aA (orb T t n k))]) (a:=ae 5) (var_eq rfl) (cj _ _) (by rw[vF];exact hn));have hlen:=xo (m:=k) (T:=T) (t:=t) (n:=n);cases hi:jv T t n k with
   | false=>
     rw[hi]at c7;refine⟨_,_,(aY (bB f5)).trans ((aY f6).trans ((nO c7).trans rfl)),⟨_,_,rfl⟩,x++[.lst (aA (orb T t n k))],?_⟩;rw[mB,hi];simp
   | true=>
     rw[hi]at c7;have f9:=append_eq (o:=ae 3) (r:=S1.length) (row:=eP (eE k T t n)) (var_eq rfl) f8 (by rw[aU];exact cag) (by rw[aU,aU];exact cag) (by unfold eP tups;rw[ar];unfold big;omega);refine⟨_,_,(aY (bB f5)).trans ((aY f6).trans ((pk c7).trans f9)),⟨_,_,rfl⟩,x++[.lst (aA (orb T t n k))]++[.lst (aA (srt (orb T t n k)))],?_⟩;rw[aU (S1++[Cell.lst (eP (eE k T t n))]),aU (S1++[Cell.lst (eP (eE k T t n))]),cap,mB,hi]
     simp[tups])
 refine⟨S1.length,_,dv (G:= [some (tab m T),some (.tup [.int (a:Nat),.int (b:Nat)]),some (.int (t:Nat)),some (.ref S1.length),p4,q4]) rfl (show lZ [some (tab m T),some (.tup [.int (a:Nat),.int (b:Nat)]),none,none,none,none] S=_ from(aY (bB e2)).trans ((aY e3).trans ((aY e4).trans (du (var_eq rfl))))),x1.trans ⟨_,aU _ _ _⟩,cag⟩
end
section
variable {m:Nat}{T:Nat->Nat->Nat}{S:Sto}
def stp(a b c:Nat):Nat:=if c=0 then a else b
def dK(a b:Nat)(L:List (List Nat))(c:List Nat):Nat->List (_L.Key×U)
 |0=>[]
 |k+1=>t9 (dK a b L c k) (L.getD k []) (stp a b (c.getD k 0))
def sK(a b:Nat)(L:List (List Nat))(c:List Nat):Nat->Nat->Option Nat
 |0,_=>none
 |k+1,x=>if x∈L.getD k [] then some (stp a b (c.getD k 0)) else sK a b L c k x
theorem E3{a b x:Nat}{L:List (List Nat)}{c:List Nat}:∀k,iZ (dK a b L c k) (.inl (x:Int))=(sK a b L c k x).map λ(v:Nat)=>U.int (v:Nat)
 |0=>rfl
 | k+1=>by
   rw[dK,wO,sK]
   split
   .rfl
   .exact E3 k
theorem Dt{a b:Nat}{L:List (List Nat)}{c:List Nat}(h:∀s∈L,s.length<=64):∀k,(dK a b L c k).length<=k*64
 |0=>cU _
 | k+1=>by
   have h1:=Dt (a:=a) (b:=b) (c:=c) h k;have h2:=rW (v:=stp a b (c.getD k 0)) (xs:=L.getD k []) (D:=dK a b L c k);have h3:(L.getD k []).length<=64:=by
    rw[aP];cases q:L[k]? with
    |none=>simp
    |some s=>simpa using h s (bG q)
   rw[dK,FI];omega
theorem y7{a b x y:Nat}{L:List (List Nat)}{c:List Nat}:∀k,sK a b L c k x=some y->y=a\/y=b
 |0,h=>by cases h
 | k+1,h=>by
   rw[sK]at h
   split at h
   .injection h with h
    rw[<-h];unfold stp;split
    .exact .inl rfl
    .exact .inr rfl
   .exact y7 k h
theorem zT{a b x:Nat}{L:List (List Nat)}{c:List Nat}:∀k,(∃i,i<k/\x∈L.getD i [])->∃y,sK a b L c k x=some y
 |0,⟨i,h,_⟩=>by omega
 | k+1,⟨i,h,hx⟩=>by
   rw[sK];by_cases z:x∈L.getD k []
   .exact⟨_,if_pos z⟩
   .rw[if_neg z]
    refine zT k ⟨i,?_,hx⟩;rcases il.mp h with q|q
    .exact q
    .subst q;exact absurd hx z
theorem yj{a b x y:Nat}{L:List (List Nat)}{c:List Nat}(h:∀s∈L,x∈s↔y∈s):∀k,sK a b L c k x=sK a b L c k y
 |0=>rfl
 | k+1=>by
   have:x∈L.getD k []↔y∈L.getD k []:=by
    rw[aP];cases q:L[k]? with
    |none=>simp
    |some s=>simpa using h s (bG q)
   rw[sK,sK,yj h k];by_cases z:x∈L.getD k []
   .rw[if_pos z,if_pos (this.mp z)]
   .rw[if_neg z,if_neg (λw=>z (this.mpr w))]
def chF(a b:Nat)(L:List (List Nat))(c:List Nat)(x:Nat):Nat:=(sK a b L c L.length x).getD 0
def goF(T:Nat->Nat->Nat)(ch:Nat->Nat)(x:Nat):Nat:=T x (ch x)
theorem G0{t n x:Nat}(g:Grp m T)(ht:t<m)(hn:0<n)(h0:pw T t n=0)(hx:x<m):∃i,i<(eE m T t n).length/\x∈(eE m T t n).getD i []:=by
 have W7:x∈orb T t n x:=aR.mpr ⟨0,aO.mpr hn,g.r0 x hx⟩;obtain⟨y,hy,XR⟩ :∃y∈orb T t n x,∀z∈orb T t n x,y<=z:=by
  have:∀(l:List Nat),l≠[]->∃y∈l,∀z∈l,y<=z:=by
   intro l hl
   induction l with
   |nil=>exact absurd rfl hl
   | cons w l ih=>
     by_cases YV:l=[]
     .subst YV;exact⟨w,by simp,by simp⟩
     .obtain⟨y,hy,hm⟩:=ih YV
      by_cases Q9:w<=y
      .exact⟨w,by simp,λz hz=>by rcases aD.mp hz with rfl |hz;exact ao _;exact aH Q9 (hm z hz)⟩
      .exact⟨y,av _ hy,λz hz=>by rcases aD.mp hz with rfl |hz;omega;exact hm z hz⟩
  exact this _ (List.ne_nil_of_mem W7)
 have XU:y<m:=by
  obtain⟨i,_,rfl⟩:=aR.mp hy;exact g.cl _ _ hx (ix g ht i)
 have XW:=j5 g ht hn h0 hx hy;have hmy:jv T t n y=true:=jh.mpr λz hz=>XR z (kf g ht h0 hx hy hz);have WM:srt (orb T t n y)∈eE m T t n:=aR.mpr ⟨y,dQ.mpr ⟨aO.mpr XU,hmy⟩,rfl⟩;obtain⟨i,hi,e⟩:=oW.mp WM;refine⟨i,hi,?_⟩;rw[aP,aI hi];show x∈(eE m T t n)[i];rw[e];exact jF.mpr XW
theorem Dw{t n x:Nat}(g:Grp m T)(ht:t<m)(hn:0<n)(h0:pw T t n=0)(hx:x<m):∀s∈eE m T t n,T x t∈s↔x∈s:=by
 intro s hs;obtain⟨y,hy,rfl⟩:=aR.mp hs;have XU:=aO.mp (dQ.mp hy).1;have TU:T x t∈orb T t n x:=by
  by_cases h1:n=1
  .subst h1
   have:t=0:=by have:T 0 t=0:=h0;rwa[g.l0 t ht]at this
   subst this;exact aR.mpr ⟨0,by simp,rfl⟩
  .refine aR.mpr ⟨1,aO.mpr (by omega),?_⟩
   show T x (T 0 t)=T x t;rw[g.l0 t ht]
 rw[jF,jF];constructor
 .intro h
  exact kf g ht h0 XU h (j5 g ht hn h0 hx TU)
 .intro h
  exact kf g ht h0 XU h TU
theorem GA{t n:Nat}(hn:n<=64):∀s∈eE m T t n,s.length<=64:=λs hs=>by
 obtain⟨y,_,rfl⟩:=aR.mp hs;rw[qx];simpa [orb]using hn
variable{c:List Nat}
theorem yV{a b t n x:Nat}(g:Grp m T)(ht:t<m)(hn:0<n)(h0:pw T t n=0)(hx:x<m):sK a b (eE m T t n) c (eE m T t n).length x=some (chF a b (eE m T t n) c x):=by
 obtain⟨y,hy⟩:=zT (a:=a) (b:=b) (c:=c) _ (G0 g ht hn h0 hx);unfold chF;rw[hy];rfl
theorem go_inj{a b n:Nat}(g:Grp m T)(ha:a<m)(hb:b<m)(hn:0<n)(h0:pw T (T a (unT m T b)) n=0):Inj m (goF T (chF a b (eE m T (T a (unT m T b)) n) c)):=by
 have hu:=zX g hb;have ht:T a (unT m T b)<m:=g.cl _ _ ha hu;generalize hL:eE m T (T a (unT m T b)) n=L;have val:∀x,x<m->chF a b L c x=a\/chF a b L c x=b:=λx hx=>by
  have:=yV (a:=a) (b:=b) (c:=c) g ht hn h0 hx;rw[hL]at this;exact y7 _ this
 have same:∀x,x<m->chF a b L c (T x (T a (unT m T b)))=chF a b L c x:=λx hx=>by
  unfold chF;rw[yj (λs hs=>Dw g ht hn h0 hx s (hL▸hs))]
 have lt:∀x,x<m->chF a b L c x<m:=λx hx=>by rcases val x hx with e |e<;>rw[e]<;>assumption
 have key:∀x y,x<m->y<m->T x a=T y b->y=T x (T a (unT m T b)):=λx y hx hy e=>by
  rw[<-g.as x a _ hx ha hu,e,g.as y b _ hy hb hu,Pm g hb,g.r0 y hy]
 refine⟨λx hx=>g.cl _ _ hx (lt x hx),λx y hx hy e=>?_⟩;unfold goF at e;by_cases hc:chF a b L c x=chF a b L c y
 .rw[hc]at e
  exact g.cancelR (lt y hy) hx hy e
 .rcases val x hx with e1|e1<;>rcases val y hy with e2|e2
  .exact absurd (e1.trans e2.symm) hc
  .rw[e1,e2]at e
   have h:=same x hx;rw[<-key x y hx hy e]at h;exact absurd h.symm hc
  .rw[e1,e2]at e
   have h:=same y hy;rw[<-key y x hy hx e.symm]at h;exact absurd h hc
  .exact absurd (e1.trans e2.symm) hc
theorem uU{g:MG}{b:MS}{n:Nat}{us:List U}(xs:List U)(hlen:us.length=xs.length)(P:Nat->Rho->Sto->Prop)(hl:∀k G S,P k G S->getL S n=some xs)
  (st:∀(k:Nat) (x y:U) (G:Rho) (S:Sto),xs[k]?=some x->us[k]?=some y->P k G S->∃Y5 S1 Y4 S',g (.tup [x,y]) G S=some (Y5,S1)/\b Y5 S1=some (.nx,Y4,S')/\P (k+1) Y4 S'):
  ∀(f k:Nat) (G:Rho) (S:Sto),k<=xs.length->xs.length-k<f->P k G S->∃Y4 S',pZ g b n us f k G S=some (.nx,Y4,S')/\P xs.length Y4 S'
 |0,k,G,S,h1,h2,_=>by omega
 | f+1,k,G,S,h1,h2,hp=>by
   unfold pZ;rw[hl k G S hp];simp only[aG];by_cases hk:k<xs.length
   .have hu:xs[k]?=some xs[k]:=by simp[hk]
    have Vv:k<us.length:=by omega
    have hv:us[k]?=some us[k]:=by simp[Vv]
    obtain⟨G',S0,Y5,S1,e0,e1,p1⟩:=st k xs[k] us[k] G S hu hv hp;obtain⟨X0,S2,e2,p2⟩:=uU xs hlen P hl st f (k+1) Y5 S1 (by assumption) (by omega) p1;refine⟨X0,S2,?_,p2⟩;simp only[hu,hv,e0,aG,aft,e1,e2]
   .have:k=xs.length:=by omega
    subst this;exact⟨G,S,by simp,hp⟩
def zgM(F:MF):MS:=bh (bD 3 oN) (bh (j4 (gTp 2 (fG (gN 4) (fG (gN 5) oh))) (xF (aa (mFn F (aa (ae 0) (aa (ae 1) ai))) (aa (ae 2) ai))) (fB 6 (di (ae 4)) (eU (ae 3) (ae 6) (m2 oIx (ae 1) (ae 5))))) (dS (ae 3)))
theorem LR{F:MF}{a b:Nat}{L:List (List Nat)}{c:List Nat}{tb:U}(hF:∀S,∃r S',F [tb,.tup [.int (a:Nat),.int (b:Nat)]] S=some (.ref r,S')/\Ex S S'/\S'[r]?=some (.lst (eP L)))(hL:∀s∈L,s.length<=64)(hl:L.length<64)(hc:c.length=L.length)(Yj:∀x∈c,x<2):
  ∃d S',_G.run 3 7 (zgM F) [tb,.tup [.int (a:Nat),.int (b:Nat)],.tup (aA c)] S=some (.ref d,S')/\Ex S S'/\S'[d]?=some (.dic (dK a b L c L.length)):=by
 obtain⟨r,S1,e1,x1,g1⟩:=hF (S++[Cell.dic []]);have d1:S1[S.length]?=some (Cell.dic []):=x1.some (cj _ _);have TX:r≠S.length:=λz=>by rw[z,d1]at g1;cases g1
 have hz:(eP L).length=L.length:=by simp[eP,tups]
 obtain⟨X0,S2,e2,⟨u4,u5,u6,rfl⟩,x2,q2,r2⟩:=uU (g:=gTp 2 (fG (gN 4) (fG (gN 5) oh))) (b:=fB 6 (di (ae 4)) (eU (ae 3) (ae 6) (m2 oIx (ae 1) (ae 5)))) (n:=r) (us:=aA c) (eP L) (by rw[de,hz,hc])
  (λk G S'=>(∃u4 u5 u6,G = [some tb,some (.tup [.int (a:Nat),.int (b:Nat)]),some (.tup (aA c)),some (.ref S.length),u4,u5,u6])/\Ex S S'/\S'[S.length]? = some (.dic (dK a b L c k))/\S'[r]? = some (.lst (eP L))) (λk G S' hp=>by unfold getL;rw[hp.2.2.2]) (by
   rintro k x y G S' hx hy ⟨⟨u4,u5,u6,rfl⟩,xs,qs,rs⟩;have hk:k<L.length:=by have:=(ah.mp hx).1;rwa[hz]at this
   have UA:x=.tup (aA (L.getD k [])):=by
    unfold eP tups at hx;rw[ba,aI hk]at hx;rw[aP,aI hk];simpa using hx.symm
   subst UA;have Vw:k<c.length:=by omega
   have XN:y=.int (c.getD k 0:Nat):=by
    unfold aA at hy;rw[ba,aI Vw]at hy;rw[aP,aI Vw];simpa using hy.symm
   subst XN;have Yu:c.getD k 0<2:=by rw[aP,aI Vw];exact Yj _ (bR Vw)
   have hsl:(L.getD k []).length<=64:=by rw[aP,aI hk];exact hL _ (bR hk)
   have Yr:=Dt (a:=a) (b:=b) (c:=c) hL k;generalize hsd:L.getD k []=sd at *;have hv:∀(z:Option U) (S':Sto),m2 oIx (ae 1) (ae 5) [some tb,some (.tup [.int (a:Nat),.int (b:Nat)]),some (.tup (aA c)),some (.ref S.length),some (.tup (aA sd)),some (.int (c.getD k 0:Nat)),z] S'=some (.int (stp a b (c.getD k 0):Nat),S'):=λz S'=>by
    refine EU (us:= [.int (a:Nat),.int (b:Nat)]) (var_eq rfl) (var_eq rfl) ?_;generalize c.getD k 0=cc at Yu;rcases il.mp Yu with q|q
    .have:cc=0:=by omega
     subst this;rfl
    .subst q;rfl
   obtain⟨Z1,S3,e3,⟨u6',rfl⟩,x3,q3,r3⟩:=wj (i:=6) (e:=ae 4) (us:=aA sd) (b:=eU (ae 3) (ae 6) (m2 oIx (ae 1) (ae 5))) (G:= [some tb,some (.tup [.int (a:Nat),.int (b:Nat)]),some (.tup (aA c)),some (.ref S.length),some (.tup (aA sd)),some (.int (c.getD k 0:Nat)),u6]) (S:=S') (S1:=S') (var_eq rfl)
    (λj G S3=>(∃z,G=[some tb,some (.tup [.int (a:Nat),.int (b:Nat)]),some (.tup (aA c)),some (.ref S.length),some (.tup (aA sd)),some (.int (c.getD k 0:Nat)),z])/\Ex S S3/\S3[S.length]?=some (.dic (t9 (dK a b L c k) (sd.take j) (stp a b (c.getD k 0))))/\S3[r]?=some (.lst (eP L)))
    ⟨⟨_,rfl⟩,xs,by simpa [t9]using qs,rs⟩ (by
     rintro j u G S3 hu ⟨⟨z,rfl⟩,x3,q3,r3⟩;obtain⟨w,hw,rfl⟩:=lH hu;have hj:j<sd.length:=(ah.mp hw).1;have ZO:=rW (v:=stp a b (c.getD k 0)) (xs:=sd.take j) (D:=dK a b L c k);have QH:(sd.take j).length<=64:=by rw[fF];omega
     have:=IH (G:= [some tb,some (.tup [.int (a:Nat),.int (b:Nat)]),some (.tup (aA c)),some (.ref S.length),some (.tup (aA sd)),some (.int (c.getD k 0:Nat)),some (.int (w:Nat))]) (S:=S3) (o:=ae 3) (i:=ae 6) (hv _ S3) (var_eq rfl) (var_eq rfl) q3 (by
      have h3:k*64<=64*64:=pN _ (by omega)
      unfold big;omega)
     refine⟨_,_,this,⟨_,rfl⟩,x3.set (ao _),?_,?_⟩
     .rw[aM (ah.mp q3).1,kZ,hw]
      simp[t9]
     ·rw[aC (λz=>TX z.symm)];exact r3)
   rw[de,dI (ao _)]at q3;refine⟨_,_,_,S3,rfl,e3,⟨_,_,_,rfl⟩,x3,?_,r3⟩
   rw[dK,hsd];exact q3) fuel 0 [some tb,some (.tup [.int (a:Nat),.int (b:Nat)]),some (.tup (aA c)),some (.ref S.length),none,none,none] S1 (cU _) (by rw[hz];unfold fuel;exact ak (by assumption) (by decide)) ⟨⟨_,_,_,rfl⟩,(Ex.push _ _).trans x1,d1,g1⟩
 rw[hz]at q2;have hi:xF (aa (mFn F (aa (ae 0) (aa (ae 1) ai))) (aa (ae 2) ai)) [some tb,some (.tup [.int (a:Nat),.int (b:Nat)]),some (.tup (aA c)),some (.ref S.length),none,none,none] (S++[Cell.dic []])=some (.zlt r (aA c),S1):=by
  have h1:=mc (dC (f:=F) (a:=ae 0) (b:=ae 1) (G:= [some tb,some (.tup [.int (a:Nat),.int (b:Nat)]),some (.tup (aA c)),some (.ref S.length),none,none,none]) (var_eq rfl) (var_eq rfl) e1) (mc (a:=ae 2) (x:= .tup (aA c)) (var_eq rfl) (show ai _ _=_ from rfl));have h2:getL S1 r=some (eP L):=by unfold getL;rw[g1]
  simp only[xF,h1,aB,h2,cP]
 have ef:j4 (gTp 2 (fG (gN 4) (fG (gN 5) oh))) (xF (aa (mFn F (aa (ae 0) (aa (ae 1) ai))) (aa (ae 2) ai))) (fB 6 (di (ae 4)) (eU (ae 3) (ae 6) (m2 oIx (ae 1) (ae 5)))) [some tb,some (.tup [.int (a:Nat),.int (b:Nat)]),some (.tup (aA c)),some (.ref S.length),none,none,none] (S++[Cell.dic []])=some (.nx,[some tb,some (.tup [.int (a:Nat),.int (b:Nat)]),some (.tup (aA c)),some (.ref S.length),u4,u5,u6],S2):=by
  unfold j4;rw[hi];exact e2
 exact⟨S.length,S2,dv (G:= [some tb,some (.tup [.int (a:Nat),.int (b:Nat)]),some (.tup (aA c)),some (.ref S.length),u4,u5,u6]) rfl ((aY (bB rfl)).trans ((aY ef).trans (du (var_eq rfl)))),x2,q2⟩
end
section
variable {m:Nat}{T:Nat->Nat->Nat}{S:Sto}{D:List (_L.Key×U)}{ch:Nat->Nat}
structure Cho(m:Nat)(T:Nat->Nat->Nat)(D:List (_L.Key×U))(ch:Nat->Nat):Prop where
 val:∀x,x<m->iZ D (.inl ((x:Nat):Int))=some (.int (ch x:Nat))
 lt:∀x,x<m->ch x<m
 inj:Inj m (goF T ch)
theorem Gd{c c':Cell}:(S++[c]).set S.length c'=S++[c']:=by
 rw[eZ _ _ (ao _),kh];rfl
theorem Jj{G:Rho}{e:ME}{d y:Nat}(C:Cho m T D ch)(h0:ae 0 G S=some (tab m T,S))(h1:ae 1 G S=some (.ref d,S))(hd:S[d]?=some (.dic D))(hy:y<m)(he:e G S=some (.int (y:Nat),S)):m2 oIx (m2 oIx (ae 0) e) (m2 oIx (ae 1) e) G S=some (.int (goF T ch y:Nat),S):=
 jQ (T:=T) (i:=y) (j:=ch y) (C.lt y hy) (jw hy h0 he) (J7 h1 he hd (C.val y hy))
def rfB:MS:=bh (d7 (mML bZ (ae 3) (aa (ae 4) ai))) (bD 4 (m2 oIx (m2 oIx (ae 0) (ae 4)) (m2 oIx (ae 1) (ae 4))))
theorem OZ{d x:Nat}(C:Cho m T D ch)(hm:m<64)(hd:S[d]?=some (.dic D))(hx:x<m):iR [tab m T,.ref d,.int (x:Nat)] S=some (.tup (aA (rg m (goF T ch) x)),S++[.lst (aA (rg m (goF T ch) x))]):=by
 obtain⟨p1,p2,p3,p4⟩:=n9 C.inj hx;unfold rg;generalize hn:jT m (goF T ch) x=n at p1 p2 p3 p4;obtain⟨Y5,S1,e1,rfl,rfl⟩:=qH (c:=cOf (m2 oNe (ae 4) (ae 2))) (b:=rfB) (λμ G S'=>∃j,1<=j/\j<=n/\μ=n-j/\G=[some (tab m T),some (.ref d),some (.int (x:Nat)),some (.ref S.length),some (.int (itF (goF T ch) j x:Nat))]/\S'=S++[.lst (aA (rgK (goF T ch) x j))])
  (λG S'=>G = [some (tab m T),some (.ref d),some (.int (x:Nat)),some (.ref S.length),some (.int (itF (goF T ch) n x:Nat))]/\S'=S++[.lst (aA (rgK (goF T ch) x n))]) (by
  rintro μ G S' ⟨j,j1,j2,rfl,rfl,rfl⟩;have ec:=of_eq (Mr (G:= [some (tab m T),some (.ref d),some (.int (x:Nat)),some (.ref S.length),some (.int (itF (goF T ch) j x:Nat))]) (S:=S++[.lst (aA (rgK (goF T ch) x j))]) (a:=ae 4) (b:=ae 2) (x:=itF (goF T ch) j x) (y:=x) (var_eq rfl) (var_eq rfl));refine⟨_,_,ec,λhf=>?_,λhf=>?_⟩
  .have Zx:itF (goF T ch) j x=x:=by simpa using hf
   have:j=n:=by
    apply gG;intro z;exact p4 j j1 (by exact bp (by assumption) (by assumption)) Zx
   subst this;exact⟨rfl,rfl⟩
  .have Zx:itF (goF T ch) j x≠x:=by simpa using hf
   have hj:j<n:=by
    apply gG;intro z;have:j=n:=by omega
    subst this;exact Zx p3
   have ea:=append_eq (G:= [some (tab m T),some (.ref d),some (.int (x:Nat)),some (.ref S.length),some (.int (itF (goF T ch) j x:Nat))]) (S:=S++[.lst (aA (rgK (goF T ch) x j))]) (o:=ae 3) (a:=ae 4) (u:= .int (itF (goF T ch) j x:Nat)) (var_eq rfl) (var_eq rfl) (cj _ _) (cj _ _) (by rw[de,Ah];unfold big;omega);have hs:(S++[Cell.lst (aA (rgK (goF T ch) x j))]).set S.length (.lst (aA (rgK (goF T ch) x j)++[.int (itF (goF T ch) j x:Nat)]))=S++[.lst (aA (rgK (goF T ch) x (j+1)))]:=by
    rw[Gd,CB];simp[aA]
   rw[hs]at ea;have Yp:(S++[Cell.lst (aA (rgK (goF T ch) x (j+1)))])[d]?=some (.dic D):=(Ex.push _ _).some hd
   refine⟨_,_,n - (j+1),by omega,(aY ea).trans (bB (Jj C rfl rfl Yp (l4 C.inj hx j) (var_eq rfl))),j+1,by exact eG (by assumption),by assumption,rfl,rfl,rfl⟩) fuel (n - 1) [some (tab m T),some (.ref d),some (.int (x:Nat)),some (.ref S.length),some (.int (goF T ch x:Nat))] (S++[.lst (aA [x])]) (by unfold fuel;omega) ⟨1,ao _,p1,rfl,rfl,rfl⟩
 refine dv (G:= [some (tab m T),some (.ref d),some (.int (x:Nat)),some (.ref S.length),some (.int (itF (goF T ch) n x:Nat))]) rfl ?_;have Yp:(S++[Cell.lst [U.int (x:Nat)]])[d]?=some (.dic D):=(Ex.push _ _).some hd;exact(aY (bB (Ar (var_eq rfl)))).trans ((aY (bB (Jj C rfl rfl Yp hx (var_eq rfl)))).trans ((aY e1).trans (du (lI (var_eq rfl) (cj _ _)))))
end
section
variable {m:Nat}{T:Nat->Nat->Nat}{S:Sto}{a b p:Nat}{c:List Nat}
abbrev tOf(m:Nat)(T:Nat->Nat->Nat)(a b:Nat):Nat:=T a (unT m T b)
abbrev lOf(m:Nat)(T:Nat->Nat->Nat)(a b p:Nat):List (List Nat):=eE m T (tOf m T a b) p
abbrev fb(m:Nat)(T:Nat->Nat->Nat)(a b p:Nat)(c:List Nat):Nat->Nat:=chF a b (lOf m T a b p) c
abbrev rOf(m:Nat)(T:Nat->Nat->Nat)(a b p:Nat)(c:List Nat):Nat->List Nat:=rg m (goF T (fb m T a b p c))
abbrev dOf(m:Nat)(T:Nat->Nat->Nat)(a b p:Nat)(c:List Nat):List (_L.Key×U):=dK a b (lOf m T a b p) c (lOf m T a b p).length
structure Two(m:Nat)(T:Nat->Nat->Nat)(a b p:Nat)(c:List Nat):Prop where
 g:Grp m T
 hm:m<60
 ha:a<m
 hb:b<m
 n0:1<=p
 n:p<60
 h1:∀k,1<=k->k<p->pw T (tOf m T a b) k≠0
 h0:pw T (tOf m T a b) p=0
 cl:c.length=(lOf m T a b p).length
 c2:∀x∈c,x<2
theorem Two.cho(w:Two m T a b p c):Cho m T (dOf m T a b p c) (fb m T a b p c):=by
 have ht:tOf m T a b<m:=w.g.cl _ _ w.ha (zX w.g w.hb);have hv:∀x,x<m->sK a b (lOf m T a b p) c (lOf m T a b p).length x=some (fb m T a b p c x):=λx hx=>yV w.g ht w.n0 w.h0 hx;refine⟨λx hx=>?_,λx hx=>?_,go_inj w.g w.ha w.hb w.n0 w.h0⟩
 .show iZ (dK a b (lOf m T a b p) c (lOf m T a b p).length) _=_
  rw[E3,hv x hx];rfl
 .rcases y7 _ (hv x hx) with e|e
  .rw[e];exact w.ha
  .rw[e];exact w.hb
theorem Two.len(w:Two m T a b p c):(lOf m T a b p).length<60:=aK xo w.hm
theorem B4(w:Two m T a b p c):∃d S',fM [tab m T,.tup [.int (a:Nat),.int (b:Nat)],.tup (aA c)] S=some (.ref d,S')/\Ex S S'/\S'[d]?=some (.dic (dOf m T a b p c)):=
 LR (F:=iH) (λS=>by
  obtain⟨r,S',e,x,_,q⟩:=qP (S:=S) w.g (by have:=w.hm;exact ak (by assumption) (by decide)) w.ha w.hb rfl w.n0 (by have:=w.n;exact ak (by assumption) (by decide)) w.h1 w.h0
  exact⟨r,S',e,x,q⟩) (GA (by have:=w.n;omega)) (by have:=w.len;exact ak (by assumption) (by decide)) w.cl w.c2
theorem Ft{G:Rho}{e:ME}{d i j:Nat}{l:List Nat}(w:Two m T a b p c)(he:e G S=some (.tup (aA l),S))(hl:Lt m l)(V7:l.length<1000)(hd:S[d]?=some (.dic (dOf m T a b p c)))(hi:∀z,(G++[z])[i]?=some (some (.ref d)))(hj:∀z,(G++[z])[j]?=some z):mFn cu (aa (cy (di e) cTT (m2 oIx (ae i) (ae j))) ai) G S=some (.tup (aA (l.map (fb m T a b p c))),S++[.lst (aA (l.map (fb m T a b p c)))]):=by
 have h:=Fq (e:=m2 oIx (ae i) (ae j)) (G:=G) (S:=S) (a:=e) (l:=l) (f:=λx=>.int (fb m T a b p c x:Nat)) he (by exact ak (by assumption) (by decide)) (λx hx=>J7 (var_eq (hi _)) (var_eq (hj _)) hd (w.cho.val x (hl x hx)));rw[show(l.map λx=>U.int (fb m T a b p c x:Nat))=aA (l.map (fb m T a b p c)) by simp[aA]]at h;exact gQ h
theorem Hz(w:Two m T a b p c):∃S',jj [tab m T,.tup [.int (a:Nat),.int (b:Nat)],.tup (aA c)] S=some (if jT m (goF T (fb m T a b p c)) 0=m then .tup (aA ((rOf m T a b p c 0).map (fb m T a b p c))) else .non,S')/\Ex S S':=by
 obtain⟨d,S1,e1,x1,g1⟩:=B4 (S:=S) w;have C:=w.cho;have hm:=w.hm;have hp:=w.g.pos;have e2:=OZ (S:=S1) C (by exact ak (by assumption) (by decide)) g1 hp;have g2:(S1++[Cell.lst (aA (rOf m T a b p c 0))])[d]?=some (.dic (dOf m T a b p c)):=(Ex.push _ _).some g1;have x2:Ex S (S1++[Cell.lst (aA (rOf m T a b p c 0))]):=x1.trans (Ex.push _ _);generalize hS2:S1++[Cell.lst (aA (rOf m T a b p c 0))]=S2 at e2 g2 x2;have hl:mFn cR (aa (ae 4) ai) [some (tab m T),some (.tup [.int (a:Nat),.int (b:Nat)]),some (.tup (aA c)),some (.ref d),some (.tup (aA (rOf m T a b p c 0)))] S2=some (.int (jT m (goF T (fb m T a b p c)) 0:Nat),S2):=by
  have:=EW (G:= [some (tab m T),some (.tup [.int (a:Nat),.int (b:Nat)]),some (.tup (aA c)),some (.ref d),some (.tup (aA (rOf m T a b p c 0)))]) (S:=S2) (a:=ae 4) (us:=aA (rOf m T a b p c 0)) (var_eq rfl);rwa[de,o5]at this
 have ec:=of_eq (K4 (b:=mFn cR (aa (ae 0) ai)) (y:=m) hl (len_tab (var_eq rfl)));have et:=Ft (G:= [some (tab m T),some (.tup [.int (a:Nat),.int (b:Nat)]),some (.tup (aA c)),some (.ref d),some (.tup (aA (rOf m T a b p c 0)))]) (S:=S2) (e:=ae 4) (i:=3) (j:=5) w (var_eq rfl) (IP C.inj hp) (by rw[o5];have:=CV C.inj hp;exact aK (by assumption) (ak (by assumption) (by decide))) g2 (λ_=>rfl) (λ_=>rfl);by_cases z:jT m (goF T (fb m T a b p c)) 0=m
 .rw[decide_eq_true z]at ec
  have ei:wN (cOf (m2 oEq (mFn cR (aa (ae 4) ai)) (mFn cR (aa (ae 0) ai)))) (mFn cu (aa (cy (di (ae 4)) cTT (m2 oIx (ae 3) (ae 5))) ai)) (mC .non) [some (tab m T),some (.tup [.int (a:Nat),.int (b:Nat)]),some (.tup (aA c)),some (.ref d),some (.tup (aA (rOf m T a b p c 0)))] S2=some (.tup (aA ((rOf m T a b p c 0).map (fb m T a b p c))),S2++[.lst (aA ((rOf m T a b p c 0).map (fb m T a b p c)))]):=by
   simp only[wN,ec,aB,if_true];exact et
  rw[if_pos z];exact⟨_,dv (G:= [some (tab m T),some (.tup [.int (a:Nat),.int (b:Nat)]),some (.tup (aA c)),some (.ref d),some (.tup (aA (rOf m T a b p c 0)))]) rfl ((aY (bB (xw (f:=fM) (var_eq rfl) (var_eq rfl) (var_eq rfl) e1))).trans ((aY (bB (xw (f:=iR) (var_eq rfl) (var_eq rfl) (c_i (z:=((0:Nat):Int))) e2))).trans (du ei))),x2.trans (Ex.push _ _)⟩
 .rw[decide_eq_false z]at ec
  have ei:wN (cOf (m2 oEq (mFn cR (aa (ae 4) ai)) (mFn cR (aa (ae 0) ai)))) (mFn cu (aa (cy (di (ae 4)) cTT (m2 oIx (ae 3) (ae 5))) ai)) (mC .non) [some (tab m T),some (.tup [.int (a:Nat),.int (b:Nat)]),some (.tup (aA c)),some (.ref d),some (.tup (aA (rOf m T a b p c 0)))] S2=some (.non,S2):=by
   simp only[wN,ec,aB];rfl
  rw[if_neg z];exact⟨_,dv (G:= [some (tab m T),some (.tup [.int (a:Nat),.int (b:Nat)]),some (.tup (aA c)),some (.ref d),some (.tup (aA (rOf m T a b p c 0)))]) rfl ((aY (bB (xw (f:=fM) (var_eq rfl) (var_eq rfl) (var_eq rfl) e1))).trans ((aY (bB (xw (f:=iR) (var_eq rfl) (var_eq rfl) (c_i (z:=((0:Nat):Int))) e2))).trans (du ei))),x2⟩
end
theorem KF{l:List Nat}(nd:l.Nodup){i j:Nat}(hi:i<l.length)(hj:j<l.length)(e:l[i]=l[j]):i=j:=by
 have h:=dg.mp (bf.mp nd);rcases Nat.lt_trichotomy i j with q|q|q
 .exact absurd e (h i j hi hj q)
 .exact q
 .exact absurd e.symm (h j i hj hi q)
section
variable {m:Nat}{T:Nat->Nat->Nat}{st:List Nat}
structure Rdw(m:Nat)(T:Nat->Nat->Nat)(st w:List Nat)(x:Nat->Nat):Prop where
 len:w.length=m
 st:∀i,i<m->w.getD i 0∈st
 z:x 0=0
 e:x m=0
 step:∀i,i<m->x (i+1)=T (x i) (w.getD i 0)
 inj:∀i j,i<m->j<m->x i=x j->i=j
 sur:∀y,y<m->∃i,i<m/\x i=y
 lt:∀i,i<m->x i<m
theorem Rdw.same{w:List Nat}{x:Nat->Nat}(r:Rdw m T st w x)(hp:0<m){ch:Nat->Nat}(hc:∀i,i<m->ch (x i)=w.getD i 0):Inj m (goF T ch)/\jT m (goF T ch) 0=m/\(rg m (goF T ch) 0).map ch=w:=by
 have ZK:∀i,i<m->goF T ch (x i)=x (i+1):=λi hi=>by unfold goF;rw[hc i hi,<-r.step i hi]
 have Qi:∀i,i<=m->x i<m:=λi hi=>by
  rcases iF hi with q|q
  .exact r.lt i q
  .rw[q,r.e];exact hp
 have I:Inj m (goF T ch):=by
  refine⟨λy hy=>?_,λy z hy hz e=>?_⟩
  .obtain⟨i,hi,rfl⟩:=r.sur y hy
   rw[ZK i hi];exact Qi _ hi
  .obtain⟨i,hi,rfl⟩:=r.sur y hy
   obtain⟨j,hj,rfl⟩:=r.sur z hz;rw[ZK i hi,ZK j hj]at e;rcases iF (show i+1<=m from hi) with q1|q1
   .rcases iF (show j+1<=m from hj) with q2|q2
    .rw[show i=j by have:=r.inj _ _ q1 q2 e;omega]
    .rw[q2,r.e,<-r.z]at e
     have:=r.inj _ _ q1 hp e;omega
   .rcases iF (show j+1<=m from hj) with q2|q2
    .rw[q1,r.e,<-r.z]at e
     have:=r.inj _ _ hp q2 e;omega
    .rw[show i=j by omega]
 have it:∀i,i<=m->itF (goF T ch) i 0=x i:=by
  intro i
  induction i with
  |zero=>intro _;exact r.z.symm
  | succ i ih=>
    intro hi;show goF T ch (itF (goF T ch) i 0)=_;rw[ih (by omega),ZK i hi]
 obtain⟨p1,p2,p3,p4⟩:=n9 I hp;have VM:jT m (goF T ch) 0=m:=by
  rcases iF p2 with q|q
  .rw[it _ p2]at p3
   have:=r.inj _ _ q hp (p3.trans r.z.symm);omega
  .exact q
 refine⟨I,VM,?_⟩;unfold rg rgK;rw[VM,dM];refine mR (by simp[r.len]) λi h1 h2=>?_;have hi:i<m:=by simpa using h1
 rw[gU,List.getElem_range];show ch (itF (goF T ch) i 0)=_;rw[it i (aE hi),hc i hi,aP,aI h2];rfl
end
section
variable {m:Nat}{T:Nat->Nat->Nat}{a b n:Nat}
theorem zS{x y:Nat}{L:List (List Nat)}{c:List Nat}:∀k,sK a b L c k x=some y->∃i,i<k/\x∈L.getD i []/\y=stp a b (c.getD i 0)
 |0,h=>by cases h
 | k+1,h=>by
   rw[sK]at h;by_cases z:x∈L.getD k []
   .rw[if_pos z]at h
    injection h with h
    exact⟨k,cw _,z,h.symm⟩
   .rw[if_neg z]at h
    obtain⟨i,h1,h2,h3⟩:=zS k h;exact⟨i,by omega,h2,h3⟩
abbrev mnL(m:Nat)(T:Nat->Nat->Nat)(t n:Nat):List Nat:=(ax m).filter (jv T t n)
theorem ON{t:Nat}:(mnL m T t n).Nodup:=List.nodup_range.filter _
theorem zO{t:Nat}:(eE m T t n).length=(mnL m T t n).length:=by unfold eE;rw[ar]
variable{i:Nat}
theorem zm{t:Nat}(hi:i<(eE m T t n).length):(eE m T t n).getD i []=srt (orb T t n ((mnL m T t n)[i]'(by rw[<-zO];exact hi))):=by
 rw[aP,aI hi];exact gU (λx=>srt (orb T t n x))
theorem zg{t:Nat}(hi:i<(mnL m T t n).length):(mnL m T t n)[i]<m/\jv T t n (mnL m T t n)[i]=true:=by
 obtain⟨h1,h2⟩:=dQ.mp (bR hi);exact⟨aO.mp h1,h2⟩
theorem HI{t:Nat}(g:Grp m T)(ht:t<m)(hn:0<n)(h0:pw T t n=0){j x:Nat}(hi:i<(eE m T t n).length)(hj:j<(eE m T t n).length)(h1:x∈(eE m T t n).getD i [])(h2:x∈(eE m T t n).getD j []):i=j:=by
 have ZH:=hi;have ZC:=hj;rw[zO]at ZH ZC;rw[zm hi,jF]at h1;rw[zm hj,jF]at h2;obtain⟨a1,a2⟩:=zg ZH;obtain⟨b1,b2⟩:=zg ZC;have hxm:=LF g ht a1 h1;have c1:=kf g ht h0 a1 h1 (j5 g ht hn h0 b1 h2);have c2:=j5 g ht hn h0 a1 c1;have d1:=jh.mp a2 _ c1;have d2:=jh.mp b2 _ c2;exact KF ON _ _ (Nat.le_antisymm d1 d2)
theorem Ij{c:List Nat}(g:Grp m T){t:Nat}(ht:t<m)(hn:0<n)(h0:pw T t n=0){x:Nat}(hx:x<m)(hi:i<(eE m T t n).length)(h1:x∈(eE m T t n).getD i []):chF a b (eE m T t n) c x=stp a b (c.getD i 0):=by
 obtain⟨j,hj,h2,h3⟩:=zS _ (yV (a:=a) (b:=b) (c:=c) g ht hn h0 hx);rw[h3,HI g ht hn h0 hi hj h1 h2]
theorem zj(g:Grp m T)(ha:a<m)(hb:b<m)(YC:a≠b)(hn:0<n)(h0:pw T (tOf m T a b) n=0){c d:List Nat}(hc:c.length=(lOf m T a b n).length)(hd:d.length=(lOf m T a b n).length)(c2:∀x∈c,x<2)(d2:∀x∈d,x<2)
  (pc:jT m (goF T (fb m T a b n c)) 0=m) (pd:jT m (goF T (fb m T a b n d)) 0=m) (e:(rOf m T a b n c 0).map (fb m T a b n c)=(rOf m T a b n d 0).map (fb m T a b n d)):c=d:=by
 have ht:tOf m T a b<m:=g.cl _ _ ha (zX g hb);have I:=go_inj (c:=c) g ha hb hn h0;have hp:=g.pos;unfold rOf rg rgK at e;rw[pc,pd,dM,dM]at e;have e1:∀i,i<m->fb m T a b n c (itF (goF T (fb m T a b n c)) i 0)=fb m T a b n d (itF (goF T (fb m T a b n d)) i 0):=λi hi=>by
  have:=congrArg (λl=>l[i]?) e;simpa [hi]using this
 have e2:∀i,i<=m->itF (goF T (fb m T a b n c)) i 0=itF (goF T (fb m T a b n d)) i 0:=by
  intro i
  induction i with
  |zero=>intro _;rfl
  | succ i ih=>
    intro hi;show T (itF (goF T (fb m T a b n c)) i 0) (fb m T a b n c (itF (goF T (fb m T a b n c)) i 0))=T (itF (goF T (fb m T a b n d)) i 0) (fb m T a b n d (itF (goF T (fb m T a b n d)) i 0));rw[e1 i hi,ih (by omega)]
 have e3:∀y,y<m->fb m T a b n c y=fb m T a b n d y:=λy hy=>by
  obtain⟨i,hi,rfl⟩:=aR.mp ((Gm I hp).mp pc y hy);rw[pc]at hi;have hi:=aO.mp hi;show fb m T a b n c (itF (goF T (fb m T a b n c)) i 0)=fb m T a b n d (itF (goF T (fb m T a b n c)) i 0);rw[e1 i hi,e2 i (aE hi)]
 refine mR (hc.trans hd.symm) λi h1 h2=>?_;have hi:i<(lOf m T a b n).length:=by rw[<-hc];exact h1
 have ZH:=hi;rw[zO]at ZH;obtain⟨a1,_⟩:=zg ZH;have hz:(mnL m T (tOf m T a b) n)[i]∈(lOf m T a b n).getD i []:=by
  rw[zm hi,jF];exact yw g hn a1
 have e4:=e3 _ a1;unfold fb lOf at e4;rw[Ij g ht hn h0 a1 hi hz,Ij g ht hn h0 a1 hi hz]at e4;have g1:c.getD i 0=c[i]:=by rw[aP,aI h1];rfl
 have g2:d.getD i 0=d[i]:=by rw[aP,aI h2];rfl
 rw[g1,g2]at e4;have l1:=c2 _ (bR h1);have l2:=d2 _ (bR h2);generalize c[i]=u at e4 l1;generalize d[i]=v at e4 l2;unfold stp at e4;by_cases z1:u=0
 .by_cases z2:v=0
  .rw[z1,z2]
  .rw[if_pos z1,if_neg z2]at e4;exact absurd e4 YC
 .by_cases z2:v=0
  .rw[if_neg z1,if_pos z2]at e4;exact absurd e4.symm YC
  .omega
end
def fL:Nat->List (List Nat)
 |0=>[[]]
 |k+1=>(fL k).flatMap λw=>[w++[0],w++[1]]
theorem oI:∀k,(fL k).length=2^k
 |0=>rfl
 | k+1=>by
   have:∀l:List (List Nat),(l.flatMap λw=>[w++[0],w++[1]]).length=l.length*2:=by
    intro l
    induction l with
    |nil=>rfl
    |cons x l ih=>rw[List.flatMap_cons,bo,ih];simp;omega
   rw[fL,this,oI k,Nat.pow_succ]
theorem jq:∀k (w:List Nat),w∈fL k↔w.length=k /\ ∀x∈w,x<2
 | 0,w=>by
   simp only[fL,bL];constructor
   .rintro rfl;exact⟨rfl,by simp⟩
   .rintro ⟨h,_⟩;exact bY.mp h
 | k+1,w=>by
   rw[fL,List.mem_flatMap];constructor
   .rintro ⟨v,hv,hw⟩
    obtain⟨h1,h2⟩:=(jq k v).mp hv;simp at hw;rcases hw with rfl|rfl
    .refine⟨by simp[h1],λx hx=>?_⟩
     rcases aV.mp hx with hx|hx
     .exact h2 x hx
     .rw[bL.mp hx];decide
    .refine⟨by simp[h1],λx hx=>?_⟩
     rcases aV.mp hx with hx|hx
     .exact h2 x hx
     .rw[bL.mp hx];decide
   .rintro ⟨h1,h2⟩
    have ZI:w≠[]:=λz=>by rw[z]at h1;cases h1
    obtain⟨v,s,rfl⟩:=Ak ZI;refine⟨v,(jq k v).mpr ⟨by simpa using h1,λx hx=>h2 x (aZ _ hx)⟩,?_⟩;have:=h2 s (by simp);rcases il.mp this with q |q
    .rw[show s=0 by omega];simp
    .rw[q];simp
theorem Au:∀k,(fL k).Nodup
 |0=>by simp[fL]
 | k+1=>by
   rw[fL,bf,List.pairwise_flatMap];refine⟨λw _=>by simp,List.Pairwise.imp (R:=λa b=>a≠b) ?_ (bf.mp (Au k))⟩;intro u v ZI x hx y hy e;simp only[aD,eO,_root_.or_false]at hx hy;rcases hx with rfl |rfl<;>rcases hy with rfl |rfl<;>exact ZI (List.append_inj_left' e rfl)
section
variable {m:Nat}{T:Nat->Nat->Nat}{st:List Nat}
end
theorem uN{u v:List Nat}(h:fI u=fI v):u=v:=by
 unfold fI at h;exact List.map_inj_right (λa b e=>by omega) |>.mp h
section
variable {m:Nat}{T:Nat->Nat->Nat}{a b n:Nat}
abbrev wOf(m:Nat)(T:Nat->Nat->Nat)(a b n:Nat)(c:List Nat):List Nat:=(rOf m T a b n c 0).map (fb m T a b n c)
def gdC(m:Nat)(T:Nat->Nat->Nat)(a b n:Nat)(c:List Nat):Bool:=decide (jT m (goF T (fb m T a b n c)) 0=m)
def walks(m:Nat)(T:Nat->Nat->Nat)(a b n:Nat):List (List Nat):=((fL (lOf m T a b n).length).filter (gdC m T a b n)).map (wOf m T a b n)
theorem EY(g:Grp m T)(ha:a<m)(hb:b<m)(YC:a≠b)(hn:0<n)(h0:pw T (tOf m T a b) n=0):(walks m T a b n).Nodup:=by
 unfold walks;rw[bf,dN];refine dO (R:=λa b=>a≠b) ?_ (bf.mp ((Au _).filter _));intro c d hc hd ZI e;obtain⟨c1,c2⟩:=dQ.mp hc;obtain⟨d1,d2⟩:=dQ.mp hd;obtain⟨c3,c4⟩:=(jq _ _).mp c1;obtain⟨d3,d4⟩:=(jq _ _).mp d1;exact ZI (zj g ha hb YC hn h0 c3 d3 c4 d4 (of_decide_eq_true c2) (of_decide_eq_true d2) e)
theorem CY{w:List Nat}(hp:0<m)(h:w∈walks m T a b n):w≠[]:=λz=>by
 obtain⟨c,hc,e⟩:=aR.mp h;have h2:=of_decide_eq_true (dQ.mp hc).2;have:=congrArg gK e;rw[z]at this;unfold wOf rOf at this;rw[ar,o5,h2]at this;simp at this;omega
end
def awB:MS:=bh (bD 3 (b9 ai)) (bh (fB 4 (di (ae 2)) (d7 (mML ja (ae 3) (aa (cy (di (ae 0)) cTT (m2 dc (ae 4) (gc (aa (ae 5) ai)))) ai)))) (bD 2 (ae 3)))
def awC:MT:=cOf (m2 oLt (mFn cR (aa (m2 oIx (ae 2) (mC (.int 0))) ai)) (ae 1))
theorem OO{N:Nat}(hN:N<=10):∃r S',fN [.tup [.int 0,.int 1],.int (N:Nat)] S=some (.ref r,S')/\Ex S S'/\S'[r]?=some (.lst (tups (fL N))):=by
 have Qm:∀k,k<=10->(fL k).length<=1024:=λk hk=>by
  rw[oI];exact Nat.pow_le_pow_right (n:=2) (j:=10) (by decide) hk
 obtain⟨Y5,S1,e1,r,u3,u4,rfl,x1,g1⟩:=qH (c:=awC) (b:=awB)
  (λμ G S'=>∃k r u3 u4,k<=N/\μ=N-k/\G=[some (.tup (aA [0,1])),some (.int (N:Nat)),some (.ref r),u3,u4]/\Ex S S'/\S'[r]?=some (.lst (tups (fL k))))
  (λG S' =>∃r u3 u4,G = [some (.tup (aA [0,1])),some (.int (N:Nat)),some (.ref r),u3,u4]/\Ex S S'/\S'[r]? = some (.lst (tups (fL N)))) (by
  rintro μ G S' ⟨k,r,u3,u4,hk,rfl,rfl,x,gr⟩;obtain⟨w0,l0,SJ⟩ :∃w0 l0,fL k=w0::l0:=by
   cases q:fL k with
   | nil=>
     have:=oI k;rw[q]at this;have:=Nat.two_pow_pos k;simp at *;omega
   |cons w0 l0=>exact⟨w0,l0,rfl⟩
  have VW:w0.length=k:=((jq k w0).mp (by rw[SJ];simp)).1;have e5:m2 oIx (ae 2) (mC (.int 0)) [some (.tup (aA [0,1])),some (.int (N:Nat)),some (.ref r),u3,u4] S'=some (.tup (aA w0),S'):=r9 (var_eq rfl) c_i gr (jE (k:=0) (by rw[SJ];rfl));have ec:=of_eq (L3 (EW e5) (b:=ae 1) (y:=(N:Nat)) (var_eq rfl));rw[de,VW]at ec;refine⟨_,_,ec,λhf=>?_,λht=>?_⟩
  .have:k=N:=by
    have:=of_decide_eq_false hf;omega
   subst this;exact⟨r,u3,u4,rfl,x,gr⟩
  .have Rw:k<N:=by
    have:=of_decide_eq_true ht;omega
   have Uk:r<S'.length:=(ah.mp gr).1;have h32:=Qm k (by omega);obtain⟨Z1,S3,e3,⟨z,rfl⟩,x3,r3,q3⟩:=Eu (i:=4) (n:=r) (e:=ae 2) (us:=tups (fL k)) (b:=d7 (mML ja (ae 3) (aa (cy (di (ae 0)) cTT (m2 dc (ae 4) (gc (aa (ae 5) ai)))) ai))) (G:= [some (.tup (aA [0,1])),some (.int (N:Nat)),some (.ref r),some (.ref S'.length),u4]) (S:=S'++[.lst []]) (var_eq rfl) (by unfold tups;rw[ar];omega)
    (λi G S3=>(∃z,G=[some (.tup (aA [0,1])),some (.int (N:Nat)),some (.ref r),some (.ref S'.length),z])/\Ex S S3/\S3[r]?=some (.lst (tups (fL k)))/\S3[S'.length]?=some (.lst (tups (((fL k).take i).flatMap λw=>[w++[0],w++[1]]))))
    ⟨⟨_,rfl⟩,x.trans (Ex.push _ _),(Ex.push _ _).some gr,cj _ _⟩ (λi G S3 hp=>by unfold getL;rw[hp.2.2.1]) (by
     rintro i u G S3 hu ⟨⟨z,rfl⟩,x3,r3,q3⟩;obtain⟨w,hw,rfl⟩ :∃w,(fL k)[i]?=some w/\U.tup (aA w)=u:=by
      unfold tups at hu;rw[ba]at hu;exact iN.mp hu
     have wl:w.length=k:=((jq k w).mp (bG hw)).1;have ei:=B7 (t:=cTT) (e:=m2 dc (ae 4) (gc (aa (ae 5) ai))) (G:= [some (.tup (aA [0,1])),some (.int (N:Nat)),some (.ref r),some (.ref S'.length),some (.tup (aA w))]) (S:=S3) (a:=ae 0) (l:= [0,1]) (p:=λ_=>true) (f:=λs=>.tup (aA (w++[s]))) (var_eq rfl) (by decide) (λ_ _=>rfl) (λs _ _=>IB (x:=w) (y:= [s]) (var_eq rfl) (KR (var_eq rfl)) (by simp;omega));have hfl:=wM (f:=λw:List Nat=>[w++[0],w++[1]]) (B:=2) ((fL k).take i) λ_ _=>ao _;have QH:((fL k).take i).length<=1024:=by rw[fF];omega
     have ee:=BK (G:= [some (.tup (aA [0,1])),some (.int (N:Nat)),some (.ref r),some (.ref S'.length),some (.tup (aA w))]) (S:=S3) (o:=ae 3) (r:=S'.length) (var_eq rfl) ei q3 ((Ex.push _ _).some q3) (cj _ _) (by
      unfold tups;rw[ar];have:((([0,1]:List Nat).filter λ_=>true).map λs=>U.tup (aA (w++[s]))).length=2:=rfl;rw[this]
      unfold big;omega)
     have hq:S'.length<(S3++[Cell.lst ((([0,1]:List Nat).filter λ_=>true).map λs=>U.tup (aA (w++[s])))]).length:=by
      have:=(ah.mp q3).1;simp;omega
     refine⟨_,_,ee,⟨_,rfl⟩,(x3.trans (Ex.push _ _)).set x.len,?_,?_⟩
     .rw[aC (by omega)];exact(Ex.push _ _).some r3
     .rw[aM hq,kZ,hw]
      simp[tups])
   rw[show(tups (fL k)).length=(fL k).length by simp[tups],dI (ao _)]at q3
   exact⟨_,_,N - (k+1),by omega,(aY (bB mG)).trans ((aY e3).trans (bB (var_eq rfl))),k+1,S'.length,_,_,Rw,rfl,rfl,x3,q3⟩) fuel N [some (.tup (aA [0,1])),some (.int (N:Nat)),some (.ref S.length),none,none] (S++[.lst (tups (fL 0))]) (by unfold fuel;omega) ⟨0,S.length,none,none,cU _,rfl,rfl,Ex.push _ _,cj _ _⟩
 refine⟨r,S1,dv (G:= [some (.tup (aA [0,1])),some (.int (N:Nat)),some (.ref r),u3,u4]) rfl ?_,x1,g1⟩;show lF [some (.tup (aA [0,1])),some (.int (N:Nat)),none,none,none] S=_;refine(aY (bB (Ar (x:= .tup []) rfl))).trans ((aY ?_).trans (du (var_eq rfl)));exact e1
def dU:U->List Nat
 | .tup us=>us.map λu=>match u with
   |.int i=>i.toNat
   |_=>0
 |_=>[]
theorem Ek{c:List Nat}:dU (.tup (aA c))=c:=by
 show(aA c).map _=c;unfold aA;rw[dM];exact List.map_id' c
def nnU:U->Bool
 |.non=>false
 |_=>true
section
variable {m:Nat}{T:Nat->Nat->Nat}{a b p:Nat}{S:Sto}
def vC(m:Nat)(T:Nat->Nat->Nat)(a b p:Nat)(c:List Nat):U:=if jT m (goF T (fb m T a b p c)) 0=m then .tup (aA (wOf m T a b p c)) else .non
variable{c:List Nat}
theorem O3:nnU (vC m T a b p c)=gdC m T a b p c:=by
 unfold vC gdC;by_cases z:jT m (goF T (fb m T a b p c)) 0=m
 .rw[if_pos z,decide_eq_true z];rfl
 .rw[if_neg z,decide_eq_false z];rfl
theorem Pg{G:Rho}{e:ME}{S:Sto}(h:e G S=some (vC m T a b p c,S)):cOf (m2 nG e (mC .non)) G S=some (nnU (vC m T a b p c),S):=by
 unfold vC at h ⊢;by_cases z:jT m (goF T (fb m T a b p c)) 0=m
 .rw[if_pos z]at h ⊢
  exact of_eq (op2 h rfl rfl)
 .rw[if_neg z]at h ⊢
  exact of_eq (op2 h rfl rfl)
theorem LO:(((fL (lOf m T a b p).length).map (vC m T a b p)).filter nnU).map (λu=>u)=tups (walks m T a b p):=by
 rw[List.map_id',List.filter_map];unfold tups walks;rw[dM];have e:(nnU∘vC m T a b p)=gdC m T a b p:=funext λc=>O3;rw[e];apply fC;intro c hc;have:=of_decide_eq_true (dQ.mp hc).2;show vC m T a b p c=_;unfold vC;rw[if_pos this];rfl
theorem tj:∀(ls:List (List Nat)),cZ nc (tups ls)=some (ls.map fI)
 |[]=>rfl
 | l::ls=>by
   show(nc (.tup (aA l))).bind _=_;rw[show nc (.tup (aA l))=cZ oi (aA l) from rfl,pG];show(cZ nc (tups ls)).map _=_;rw[tj ls];rfl
theorem Lx(g:Grp m T)(hm:m<60)(VS:(lOf m T a b p).length<=10)(ha:a<m)(hb:b<m)(ZI:a≠b)(p1:1<=p)(p2:p<=m)(h1:∀k,1<=k->k<p->pw T (tOf m T a b) k≠0)(h0:pw T (tOf m T a b) p=0):
  ∃r S',bz [tab m T,.tup [.int (a:Nat),.int (b:Nat)]] S=some (.ref r,S')/\Ex S S':=by
 obtain⟨r1,S1,e1,x1,l1,q1⟩:=qP (S:=S) g (by omega) ha hb rfl p1 (by omega) h1 h0;have two:∀c:List Nat,c.length=(lOf m T a b p).length->(∀x∈c,x<2)->Two m T a b p c:=λc h3 h4=>⟨g,by omega,ha,hb,p1,by omega,h1,h0,h3,h4⟩;have e2:mFn cR (aa (mFn iH (aa (ae 0) (aa (ae 1) ai))) ai) [some (tab m T),some (.tup [.int (a:Nat),.int (b:Nat)]),none,none] S=some (.int ((lOf m T a b p).length:Nat),S1):=by
  refine gd (dC (f:=iH) (a:=ae 0) (b:=ae 1) (var_eq rfl) (var_eq rfl) e1) ?_;simp only[cR,E8 q1,eh,getL,q1,cP];rw[show(eP (eE m T (T a (unT m T b)) p)).length=(lOf m T a b p).length by simp[eP,tups]]
 have c2:cOf (m2 oGt (ae 2) (mC (.int 10))) [some (tab m T),some (.tup [.int (a:Nat),.int (b:Nat)]),some (.int ((lOf m T a b p).length:Nat)),none] S1=some (false,S1):=by
  rw[of_eq (y9 (x:=((lOf m T a b p).length:Nat)) (var_eq rfl) c_i),decide_eq_false (by omega)]
 obtain⟨r3,S3,e3,x3,q3⟩:=OO (S:=S1) VS;have hl32:(fL (lOf m T a b p).length).length<=1024:=by
  rw[oI];exact Nat.pow_le_pow_right (n:=2) (j:=10) (by decide) VS
 obtain⟨S4,e4,x4⟩:=sD (e:=mFn jj (aa (ae 0) (aa (ae 1) (aa (ae 4) ai)))) (G:= [some (tab m T),some (.tup [.int (a:Nat),.int (b:Nat)]),some (.int ((lOf m T a b p).length:Nat)),none]) (n:=r3) (us:=tups (fL (lOf m T a b p).length)) (f:=λu=>vC m T a b p (dU u)) (λS'=>Ex S3 S') (λS' x=>by unfold getL;rw[x.some q3]) (λu hu S' x=>by
  obtain⟨c,hc,rfl⟩:=aR.mp hu;obtain⟨c1,c2⟩:=(jq _ _).mp hc;obtain⟨S5,e5,x5⟩:=Hz (S:=S') (two c c1 c2);refine⟨S5,?_,x.trans x5⟩;rw[Ek]
  exact xw (f:=jj) (a:=ae 0) (b:=ae 1) (c:=ae 4) (var_eq rfl) (var_eq rfl) (var_eq rfl) e5) fuel 0 [] S3 (cU _) (by unfold fuel tups;rw[ar];omega) (Ex.refl _)
 rw[yM,dR,show(tups (fL (lOf m T a b p).length)).map (λu=>vC m T a b p (dU u))=(fL (lOf m T a b p).length).map (vC m T a b p) by
  unfold tups;rw[dM];apply fC;intro c _;show vC m T a b p (dU (.tup (aA c)))=_
  rw[Ek]]at e4
 have e5:cy (di (mFn fN (aa (gc (aa (mC (.int 0)) (aa (mC (.int 1)) ai))) (aa (ae 2) ai)))) cTT (mFn jj (aa (ae 0) (aa (ae 1) (aa (ae 4) ai)))) [some (tab m T),some (.tup [.int (a:Nat),.int (b:Nat)]),some (.int ((lOf m T a b p).length:Nat)),none] S1=some (.ref S4.length,S4++[.lst ((fL (lOf m T a b p).length).map (vC m T a b p))]):=by
  have h3:mFn fN (aa (gc (aa (mC (.int 0)) (aa (mC (.int 1)) ai))) (aa (ae 2) ai)) [some (tab m T),some (.tup [.int (a:Nat),.int (b:Nat)]),some (.int ((lOf m T a b p).length:Nat)),none] S1=some (.ref r3,S3):=dC (f:=fN) (BB c_i c_i) (var_eq rfl) e3;have hg:getL S3 r3=some (tups (fL (lOf m T a b p).length)):=by unfold getL;rw[q3]
  have hi:di (mFn fN (aa (gc (aa (mC (.int 0)) (aa (mC (.int 1)) ai))) (aa (ae 2) ai))) [some (tab m T),some (.tup [.int (a:Nat),.int (b:Nat)]),some (.int ((lOf m T a b p).length:Nat)),none] S1=some (.mut r3,S3):=by
   simp only[di,h3,aB,hg,cP]
  simp only[cy,hi,aB,uH,e4];exact if_pos (by rw[ar];unfold big;omega)
 have e6:=zw (t:=cOf (m2 nG (ae 4) (mC .non))) (e:=ae 4) (a:=ae 3) (G:= [some (tab m T),some (.tup [.int (a:Nat),.int (b:Nat)]),some (.int ((lOf m T a b p).length:Nat)),some (.ref S4.length)]) (n:=S4.length) (S:=S4++[.lst ((fL (lOf m T a b p).length).map (vC m T a b p))]) (p:=nnU) (f:=λu=>u) (var_eq rfl) (cj _ _) (by rw[ar];omega) (λu hu=>by
  obtain⟨c,_,rfl⟩:=aR.mp hu
  exact Pg (var_eq rfl)) (λu _ _=>var_eq rfl)
 rw[LO]at e6;have x5:Ex S (S4++[Cell.lst ((fL (lOf m T a b p).length).map (vC m T a b p))]):=((x1.trans x3).trans x4).trans (Ex.push _ _);generalize S4++[Cell.lst ((fL (lOf m T a b p).length).map (vC m T a b p))]=S5 at e5 e6 x5;have e7:mFn pv (aa (cy (di (ae 3)) (cOf (m2 nG (ae 4) (mC .non))) (ae 4)) ai) [some (tab m T),some (.tup [.int (a:Nat),.int (b:Nat)]),some (.int ((lOf m T a b p).length:Nat)),some (.ref S4.length)] S5=some (.ref (S5++[Cell.lst (tups (walks m T a b p))]).length,S5++[Cell.lst (tups (walks m T a b p))]++[.lst ((ng ((walks m T a b p).map fI)).map _G.tupI)]):=by
  refine gd e6 ?_;have hg:getL (S5++[Cell.lst (tups (walks m T a b p))]) S5.length=some (tups (walks m T a b p)):=by unfold getL;rw[cj]
  simp only[pv,Gq,hg,aG,tj];have ok:okT ((walks m T a b p).map fI):=by
   refine⟨by
    rw[ar];unfold walks;rw[ar]
    exact aK (gn _ _) (by omega),?_,?_⟩
   .rw[bf,dN]
    exact(bf.mp (EY g ha hb ZI p1 h0)).imp λYC e=>YC (uN e)
   .intro l hl z
    obtain⟨w,hw,rfl⟩:=aR.mp hl;exact CY g.pos hw (uN z)
  rw[if_pos ok];rfl
 refine⟨(S5++[Cell.lst (tups (walks m T a b p))]).length,S5++[Cell.lst (tups (walks m T a b p))]++[.lst ((ng ((walks m T a b p).map fI)).map _G.tupI)],dv (G:= [some (tab m T),some (.tup [.int (a:Nat),.int (b:Nat)]),some (.int ((lOf m T a b p).length:Nat)),some (.ref S4.length)]) rfl ?_,(x5.trans (Ex.push _ _)).trans (Ex.push _ _)⟩;show fg [some (tab m T),some (.tup [.int (a:Nat),.int (b:Nat)]),none,none] S=_;exact(aY (bB e2)).trans ((aY ((nO c2).trans rfl)).trans ((aY (bB e5)).trans (du e7)))
theorem Ky(g:Grp m T)(hm:m<60)(VS:10<(lOf m T a b p).length)(ha:a<m)(hb:b<m)(p1:1<=p)(p2:p<=m)(h1:∀k,1<=k->k<p->pw T (tOf m T a b) k≠0)(h0:pw T (tOf m T a b) p=0):
  bz [tab m T,.tup [.int (a:Nat),.int (b:Nat)]] S=none /\ ∃S',dw [tab m T,.tup [.int (a:Nat),.int (b:Nat)]] S=some (0,S')/\Ex S S':=by
 obtain⟨r1,S1,e1,x1,l1,q1⟩:=qP (S:=S) g (by omega) ha hb rfl p1 (by omega) h1 h0;have e2:mFn cR (aa (mFn iH (aa (ae 0) (aa (ae 1) ai))) ai) [some (tab m T),some (.tup [.int (a:Nat),.int (b:Nat)]),none,none] S=some (.int ((lOf m T a b p).length:Nat),S1):=by
  refine gd (dC (f:=iH) (a:=ae 0) (b:=ae 1) (var_eq rfl) (var_eq rfl) e1) ?_;simp only[cR,E8 q1,eh,getL,q1,cP];rw[show(eP (eE m T (T a (unT m T b)) p)).length=(lOf m T a b p).length by simp[eP,tups]]
 have c2:cOf (m2 oGt (ae 2) (mC (.int 10))) [some (tab m T),some (.tup [.int (a:Nat),.int (b:Nat)]),some (.int ((lOf m T a b p).length:Nat)),none] S1=some (true,S1):=by
  rw[of_eq (y9 (x:=((lOf m T a b p).length:Nat)) (var_eq rfl) c_i),decide_eq_true (by omega)]
 refine⟨LV (show fg [some (tab m T),some (.tup [.int (a:Nat),.int (b:Nat)]),none,none] S=none from ?_),S1,FZ rfl (show gv [some (tab m T),some (.tup [.int (a:Nat),.int (b:Nat)]),none,none] S=_ from ?_),x1⟩
 .exact(aY (bB e2)).trans (JF ((pk c2).trans rfl))
 .exact(Of rfl (bB e2)).trans (M4 ((NR c2).trans rfl))
end
def OC:ME:=m2 oIx (b9 (aa (mC .non) (aa (b9 (aa (mC (.int 0)) ai)) ai))) (mFn t7 (aa (m2 oGt (mFn cR (aa (mFn gS (aa (ae 3) (aa (ae 4) ai))) ai)) (mC (.int 10))) ai))
def Dr:MS:=bh (bD 5 OC) (sIf (cOf (m2 oNe (kB (qM [0]) [3,4] (mFn bz (aa (ae 0) (aa (ae 1) ai))) (xFn dw (aa (ae 0) (aa (ae 1) ai)))) (ae 5))) (dS (mC (.bl false))) dF)
theorem E9{a b:Nat}{v0 v1 v2 v5:Option U}(g:Grp m T)(hm:m<=24)(ha:a<m)(hb:b<m)(YC:a≠b):∃w S',Dr [v0,v1,v2,some (tab m T),some (.tup [.int (a:Nat),.int (b:Nat)]),v5] S=some (.nx,[v0,v1,v2,some (tab m T),some (.tup [.int (a:Nat),.int (b:Nat)]),w],S')/\Ex S S':=by
 have ht:T a (unT m T b)<m:=g.cl a _ ha (zX g hb);obtain⟨p,p1,p2,p3,p4⟩:=g.ord ht;have f0:b9 (aa (mC (.int 0)) ai) [v0,v1,v2,some (tab m T),some (.tup [.int (a:Nat),.int (b:Nat)]),v5] S=some (.ref S.length,S++[.lst (aA [0])]):=Ar (x:= .int 0) rfl;have f1:=uK (G:= [v0,v1,v2,some (tab m T),some (.tup [.int (a:Nat),.int (b:Nat)]),v5]) (S:=S) (a:=mC .non) (b:=b9 (aa (mC (.int 0)) ai)) rfl f0;obtain⟨r2,S2,e2,x2,q2⟩:=Cj (S:=S++[.lst (aA [0])]++[.lst [.non,.ref S.length]]) g (by omega) ha hb rfl p1 (by omega) p4 p3;have e3:mFn cR (aa (mFn gS (aa (ae 3) (aa (ae 4) ai))) ai) [v0,v1,v2,some (tab m T),some (.tup [.int (a:Nat),.int (b:Nat)]),v5] (S++[.lst (aA [0])]++[.lst [.non,.ref S.length]])=some (.int ((lOf m T a b p).length:Nat),S2):=by
  refine gd (dC (f:=gS) (a:=ae 3) (b:=ae 4) (var_eq rfl) (var_eq rfl) e2) ?_;simp only[cR,E8 q2,eh,getL,q2,cP];rw[show(eP (eE m T (T a (unT m T b)) p)).length=(lOf m T a b p).length by simp[eP,tups]]
 have e4:=y9 (G:= [v0,v1,v2,some (tab m T),some (.tup [.int (a:Nat),.int (b:Nat)]),v5]) (x:=((lOf m T a b p).length:Nat)) (y:=10) (b:=mC (.int 10)) e3 c_i;have x1:Ex S (S++[.lst (aA [0])]++[.lst [.non,.ref S.length]]):=(Ex.push _ _).trans (Ex.push _ _);have q0:S2[S.length]?=some (.lst (aA [0])):=x2.some ((Ex.push _ _).some (cj _ _));have q1:S2[(S++[Cell.lst (aA [0])]).length]?=some (.lst [.non,.ref S.length]):=x2.some (cj _ _);have mF:∀{S},(mFn bz (aa (ae 0) (aa (ae 1) ai))) ([tab m T,.tup [.int (a:Nat),.int (b:Nat)]].map some) S=bz [tab m T,.tup [.int (a:Nat),.int (b:Nat)]] S:=λ{S}=>by
  cases h:bz [tab m T,.tup [.int (a:Nat),.int (b:Nat)]] S with
  |none=>exact dC (f:=bz) (var_eq rfl) (var_eq rfl) h
  |some v=>exact dC (f:=bz) (var_eq rfl) (var_eq rfl) h
 by_cases VS:(lOf m T a b p).length<=10
 .rw[decide_eq_false (by omega)]at e4
  have e5:=r9 (us:= [.non,.ref S.length]) f1 (gd (f:=t7) e4 (show t7 [.bl false] S2=some (.int ((0:Nat):Int),S2) from rfl)) q1 (u:= .non) (jE rfl);obtain⟨r6,S6,e6,x6⟩:=Lx (S:=S2) g (by omega) VS ha hb YC p1 p2 p4 p3;have c6:=DM (rz:= [0]) (is:= [3,4]) (ml:=mFn bz (aa (ae 0) (aa (ae 1) ai))) (rl:=xFn dw (aa (ae 0) (aa (ae 1) ai))) (G:= [v0,v1,v2,some (tab m T),some (.tup [.int (a:Nat),.int (b:Nat)]),some .non]) (S:=S2) (cs:= [tab m T,.tup [.int (a:Nat),.int (b:Nat)]]) rfl (mF.trans e6);exact⟨_,_,(aY (bB e5)).trans ((nO (of_eq (L9 c6 (var_eq rfl)))).trans rfl),((x1.trans x2).trans x6).trans (Hf _ _)⟩
 .rw[decide_eq_true (by omega)]at e4
  have e5:=r9 (us:= [.non,.ref S.length]) f1 (gd (f:=t7) e4 (show t7 [.bl true] S2=some (.int ((1:Nat):Int),S2) from rfl)) q1 (u:= .ref S.length) (jE rfl);obtain⟨k6,S6,e6,x6⟩:=Ky (S:=S2) g (by omega) (by omega) ha hb p1 p2 p4 p3;have c6:=Fo (rz:= [0]) (is:= [3,4]) (ml:=mFn bz (aa (ae 0) (aa (ae 1) ai))) (rl:=xFn dw (aa (ae 0) (aa (ae 1) ai))) (G:= [v0,v1,v2,some (tab m T),some (.tup [.int (a:Nat),.int (b:Nat)]),some (.ref S.length)]) (S:=S2) (cs:= [tab m T,.tup [.int (a:Nat),.int (b:Nat)]]) rfl (mF.trans k6) (PH (var_eq rfl) (var_eq rfl) e6) (by simp);have n6:=Gb c6 (b:=ae 5) (k:=S.length) (x:= [0]) (y:= [0]) (var_eq rfl) FU ((x6.trans (Ep _ _ _)).some q0);rw[decide_eq_true rfl]at n6;exact⟨_,_,(aY (bB e5)).trans ((nO (of_eq n6)).trans rfl),((x1.trans x2).trans x6).trans (Ep _ _ _)⟩
theorem J8:b9 (aa (mC (.int 16)) (aa (mC (.int 18)) (aa (mC (.int 20)) (aa (mC (.int 22)) (aa (mC (.int 24)) ai))))) G S=some (.ref S.length,S++[.lst (aA [16,18,20,22,24])]):=by
 simp only[b9,aa,ai,mC,aB];rw[if_pos (by simp[big])];rfl
theorem Ll{S2:Sto}{b:ME}{x:U}(ha:a G S=some (x,S1))(hb:b G S1=some (y,S2)):aa a (aa b ai) G S=some ([x,y],S2):=by simp only[aa,ai,ha,hb,aB]
theorem Oo(h:nN n S):∃m T a b S',j8 [.ref n] S=some (.tup [tab m T,.tup [.int (a:Nat),.int (b:Nat)]],S')/\Grp m T/\m<=24/\a<m/\b<m/\a≠b/\Stp n S S':=by
 have ZK:Stp n S (S++[Cell.lst (aA [16,18,20,22,24])]):=Stp.ex h (Ex.push _ _);obtain⟨r,S2,e2,hr,Zy⟩:=iB (m:=5) ZK.st (by decide) (by decide);have ZI:S.length≠n:=by have:=h.lt;omega
 have g2:S2[S.length]?=some (Cell.lst (aA [16,18,20,22,24])):=Zy.some ZI (cj _ _);obtain⟨m,hm,m16,Uq,mev⟩ :∃m:Nat,(aA [16,18,20,22,24])[r]?=some (.int m)/\16<=m/\m<=24/\m%2=0:=by
  rcases r with _|_|_|_|_|r
  .exact⟨16,rfl,by decide,by decide,rfl⟩
  .exact⟨18,rfl,by decide,by decide,rfl⟩
  .exact⟨20,rfl,by decide,by decide,rfl⟩
  .exact⟨22,rfl,by decide,by decide,rfl⟩
  .exact⟨24,rfl,by decide,by decide,rfl⟩
  .omega
 have f1:m2 oIx (b9 (aa (mC (.int 16)) (aa (mC (.int 18)) (aa (mC (.int 20)) (aa (mC (.int 22)) (aa (mC (.int 24)) ai)))))) (mFn a8 (aa (ae 0) (aa (mC (.int 5)) ai))) [some (.ref n),none,none,none] S=some (.int (m:Nat),S2):=r9 J8 (dC (f:=a8) (a:=ae 0) (var_eq rfl) c_i e2) g2 (jE hm);obtain⟨q,S3,e3,hq,ZL⟩:=iB (m:=m-1) Zy.st (by omega) (by omega);have f2:m2 dc (mC (.int 1)) (mFn a8 (aa (ae 0) (aa (m2 rG (ae 1) (mC (.int 1))) ai))) [some (.ref n),some (.int (m:Nat)),none,none] S2=some (.int ((1+q:Nat):Int),S3):=by
  refine add_n (x:=1) c_i (dC (f:=a8) (a:=ae 0) (var_eq rfl) (Ai (var_eq rfl) c_i) ?_);rw[show((m-1:Nat):Int)=(m:Int)-1 by omega]at e3;exact e3
 have f3:m2 oMod (m2 dc (ae 2) (m2 oDiv (ae 1) (mC (.int 2)))) (ae 1) [some (.ref n),some (.int (m:Nat)),some (.int ((1+q:Nat):Int)),none] S3=some (.int (((1+q+m/2)%m:Nat):Int),S3):=
  Ag (add_n (var_eq rfl) (pW (y:=2) (var_eq rfl) c_i (by decide) (by decide))) (var_eq rfl) (by omega)
 have key:∃a b:Nat,sIf (cOf (m2 oIn (mC (.int 0)) (gc (aa (ae 2) (aa (ae 3) ai))))) (Bo 2 3 (aa (mC (.int 1)) (aa (m2 dc (mC (.int 1)) (m2 oDiv (ae 1) (mC (.int 2)))) ai))) dF [some (.ref n),some (.int (m:Nat)),some (.int ((1+q:Nat):Int)),some (.int (((1+q+m/2)%m:Nat):Int))] S3=some (.nx,[some (.ref n),some (.int (m:Nat)),some (.int (a:Nat)),some (.int (b:Nat))],S3)/\a<m/\b<m/\a≠b:=by
  have c:=Po (G:= [some (.ref n),some (.int (m:Nat)),some (.int ((1+q:Nat):Int)),some (.int (((1+q+m/2)%m:Nat):Int))]) (S:=S3) (a:=mC (.int 0)) (x:=0) (l:= [1+q,(1+q+m/2)%m]) rfl (BB (a:=ae 2) (b:=ae 3) (var_eq rfl) (var_eq rfl));by_cases z:0∈[1+q,(1+q+m/2)%m]
  .rw[decide_eq_true z]at c
   refine⟨1,1+m/2,(pk c).trans ?_,by omega,by omega,by omega⟩;have:aa (mC (.int 1)) (aa (m2 dc (mC (.int 1)) (m2 oDiv (ae 1) (mC (.int 2)))) ai) [some (.ref n),some (.int (m:Nat)),some (.int ((1+q:Nat):Int)),some (.int (((1+q+m/2)%m:Nat):Int))] S3=some ([.int ((1:Nat):Int),.int ((1+m/2:Nat):Int)],S3):=Ll rfl (add_n (x:=1) c_i (pW (y:=2) (var_eq rfl) c_i (by decide) (by decide)));simp only[Bo,this,aB];rfl
  .rw[decide_eq_false z]at c
   refine⟨_,_,(nO c).trans rfl,by omega,kQ _ (by omega),λe=>?_⟩;rcases Fy (1+q+m/2) m with w |w
   .rw[bC w]at e;omega
   .rw[tD w,bC (by omega)]at e;omega
 obtain⟨a,b,f4,ha,hb,YC⟩:=key;obtain⟨S5,e5,x5⟩:=j0 (n:=m) (S:=S3) (by omega) (by unfold big;omega);refine⟨m,fq m,min a b,max a b,S5,dv (G:= [some (.ref n),some (.int (m:Nat)),some (.int (a:Nat)),some (.int (b:Nat))]) rfl ?_,ji (by omega),Uq,by omega,by omega,by omega,((ZK.trans Zy).trans ZL).step x5⟩;show pJ [some (.ref n),none,none,none] S=_;exact(aY (bB f1)).trans ((aY (bB f2)).trans ((aY (bB f3)).trans ((aY f4).trans (du (BB (gd (f:=cf) (var_eq rfl) e5) (BB (IX (var_eq rfl) (var_eq rfl)) (Jh (var_eq rfl) (var_eq rfl))))))))
def CG:ME:=b9 (aa (mFn jn (aa (ae 2) (aa (m2 oIx (b9 (aa (mC (.int 24)) (aa (mC (.int 12)) ai))) (mFn a8 (aa (ae 2) (aa (mC (.int 2)) ai)))) ai))) (aa (mFn j8 (aa (ae 2) ai)) ai))
theorem EK(h:nN n S)(h2:G[2]?=some (some (.ref n))):∃gs S',CG G S=some (.ref S'.length,S'++[.lst gs])/\gs.length=2/\(∀u∈gs,∃m T a b,u=.tup [tab m T,.tup [.int (a:Nat),.int (b:Nat)]]/\Grp m T/\m<=24/\a<m/\b<m/\a≠b)/\Stp n S S':=by
 have f1:=uK (G:=G) (S:=S) (a:=mC (.int 24)) (b:=mC (.int 12)) rfl rfl;have ZK:Stp n S (S++[Cell.lst (aA [24,12])]):=Stp.ex h (Ex.push _ _);obtain⟨r,S2,e2,hr,Zy⟩:=iB (m:=2) ZK.st (by decide) (by decide);have ZI:S.length≠n:=by have:=h.lt;omega
 have g2:S2[S.length]?=some (Cell.lst (aA [24,12])):=Zy.some ZI (cj _ _);obtain⟨most,hm,m6,Uq⟩ :∃most:Nat,(aA [24,12])[r]?=some (.int most)/\6<=most/\most<=24:=by
  rcases r with _|_|r
  .exact⟨24,rfl,by decide,by decide⟩
  .exact⟨12,rfl,by decide,by decide⟩
  .omega
 obtain⟨m,T,a,b,S3,e3,g,Sw,hm4,ha,hb,YC,ZL⟩:=Ho (most:=most) Zy.st m6 Uq;obtain⟨m',T',a',b',S4,e4,g',hm',Zk,Rh,V9,YE⟩:=Oo ZL.st;have f5:=uK (G:=G) (S:=S) (dC (f:=jn) (a:=ae 2) (var_eq h2) (r9 f1 (dC (f:=a8) (a:=ae 2) (var_eq h2) c_i e2) g2 (jE hm)) e3) (gd (f:=j8) (a:=ae 2) (var_eq h2) e4);refine⟨_,S4,f5,rfl,λu hu=>?_,((ZK.trans Zy).trans ZL).trans YE⟩;simp only[aD,eO,_root_.or_false]at hu;rcases hu with rfl |rfl
 .exact⟨m,T,a,b,rfl,g,by omega,ha,hb,by omega⟩
 .exact⟨m',T',a',b',rfl,g',hm',Zk,Rh,V9⟩
theorem CT(ns:List Int)(hl:ns.length<=63)(S:Sto)(h1:S.length=1)(h2:getL S 0=some (ns.map U.int)):∃S',NL [.ref 0] S=some (.bl true,S'):=by
 obtain⟨q,hq,eq⟩:=Dq (G:= [some (.ref 0),none,none,none,none,none]) (c:=3) h2 rfl hl;obtain⟨Y5,S1,e1,_,_⟩:=mP (i:=1) (a:=mFn sy (aa (mC (.int 1)) (aa (mFn nE (aa (mFn cR (aa (ae 0) ai)) (aa (mC (.int 3)) ai))) ai))) (n:=q)
  (b:=bh (bD 2 (mFn jD (aa (ae 0) (aa (ae 1) ai)))) (j4 (gTp 2 (fG (gN 3) (fG (gN 4) oh))) (di CG) Dr))
  (G:= [some (.ref 0),none,none,none,none,none]) (S:=S) eq (by unfold big;omega)
  (λk G S'=>(∃a b c d e,G=[some (.ref 0),a,b,c,d,e])/\Scr ns S') ⟨⟨_,_,_,_,_,rfl⟩,h2⟩
  (by
   rintro k G S' hk ⟨⟨u1,u2,u3,u4,u5,rfl⟩,hs⟩;have h0:=hs.lt;obtain⟨S2,f2,x2,Zy⟩:=DL (k:=k) hs;obtain⟨gs,S3,f3,hg,QD,ZL⟩:=EK (G:= [some (.ref 0),some (.int k),some (.ref S'.length),u3,u4,u5]) Zy rfl;have ZI:S3.length≠S'.length:=by have:=ZL.st.lt;omega
   obtain⟨Z5,S7,f7,⟨v3,v4,v5,rfl⟩,x7⟩:=HE (g:=gTp 2 (fG (gN 3) (fG (gN 4) oh))) (b:=Dr) (e:=CG) (G:= [some (.ref 0),some (.int k),some (.ref S'.length),u3,u4,u5]) (S:=S2) (us:=gs)
    f3 (by omega)
    (λj G S7=>(∃a b c,G = [some (.ref 0),some (.int k),some (.ref S'.length),a,b,c])/\Ex (S3++[.lst gs]) S7) ⟨⟨_,_,_,rfl⟩,Ex.refl _⟩ (λj G S7 hp=>by unfold getL;rw[hp.2.some (cj _ _)]) (by
     rintro j u G S7 hu ⟨⟨a,b,c,rfl⟩,x7⟩;obtain⟨m,T,x,y,rfl,g,hm,hx,hy,XW⟩:=QD u (bG hu);obtain⟨w,S8,f8,x8⟩:=E9 (S:=S7) (v0:=some (.ref 0)) (v1:=some (.int k)) (v2:=some (.ref S'.length)) (v5:=c) g hm hx hy XW
     exact⟨_,S7,_,S8,rfl,f8,⟨_,_,_,rfl⟩,x7.trans x8⟩)
   refine⟨_,S7,(aY (bB (dC (var_eq rfl) (var_eq rfl) f2))).trans f7,⟨_,_,_,_,_,rfl⟩,?_⟩
   exact(hs.ex λc h=>x2.some h).ex λc h=>x7.some ((ZL.step (Ex.push _ _)).some (by omega) h))
 exact⟨S1,dv (G:=Y5) rfl ((aY e1).trans (du rfl))⟩
end
def top(i:Nat):Stmt:=PySem.Challenge.pw_groupwalks_k54_too_many_sides.main.body.getD i (.Pass ⟨0,0,0,0⟩)
abbrev jU:Stmt:=top 28
abbrev lV:Stmt:=top 29
abbrev nL:Stmt:=top 30
abbrev lC:Stmt:=top 31
abbrev lN:Stmt:=top 32
abbrev jS:Stmt:=top 34
abbrev nJ:Stmt:=top 33
abbrev l5:Stmt:=top 36
abbrev lG:Stmt:=top 35
abbrev lW:Stmt:=top 37
abbrev nM:Stmt:=top 42
abbrev pC:Stmt:=top 43
abbrev oC:Stmt:=top 15
abbrev kn:Stmt:=top 10
abbrev jf:Stmt:=top 16
abbrev vG:Stmt:=top 13
abbrev zI:Stmt:=top 14
abbrev qZ:Stmt:=top 11
abbrev pI:Stmt:=top 21
abbrev wb:Stmt:=top 22
abbrev jl:Stmt:=top 23
abbrev lS:Stmt:=top 24
abbrev o8:Stmt:=top 25
abbrev l6:Stmt:=top 18
abbrev d9:Stmt:=top 26
abbrev kC:Stmt:=top 40
abbrev lA:Stmt:=top 41
abbrev fE:Stmt:=top 39
abbrev Fe:Stmt:=top 44
abbrev N0:List Str := ["script","k"]
abbrev N1:List Str := ["script","k","cell"]
abbrev N2:List Str := ["state","many","found","mixed"]
abbrev N3:List Str := ["n"]
abbrev N4:List Str := ["n","found","i","row","j","turn"]
abbrev N5:List Str := ["signs","kinds","found","one","row","other","sign"]
abbrev N6:List Str := ["one","other","size","found","i","row","j","ahead"]
abbrev N7:List Str := ["group","order"]
abbrev N8:List Str := ["state","many","left"]
abbrev N9:List Str := ["state","most","way","found","first","one"]
abbrev N10:List Str := ["state","most","group","left","one","other"]
abbrev N11:List Str := ["state","n","one","other"]
abbrev N12:List Str := ["rising","piece_at","found","met","least","piece","one"]
abbrev N13:List Str := ["group"]
abbrev N14:List Str := ["group","part"]
abbrev N15:List Str := ["group","things","found","waiting","place","thing","onward"]
abbrev N16:List Str := ["group","things"]
abbrev N17:List Str := ["group","thing"]
abbrev N18:List Str := ["group","steps"]
abbrev N19:List Str := ["group","steps"]
abbrev N20:List Str := ["group","steps","choice","chosen","side","which","thing"]
abbrev N21:List Str := ["group","chosen","first","ring","onward"]
abbrev N22:List Str := ["group","steps","choice","chosen","ring"]
abbrev N23:List Str := ["steps","many","found","longer","walk"]
abbrev N24:List Str := ["group","steps","many","walks"]
abbrev N25:List Str := ["group","thing"]
abbrev N26:List Str := ["group","steps","turn","found","thing","some"]
abbrev N27:List Str := ["call","error","e","kinds"]
abbrev N28:List Str := ["script","k","state","group","steps","due"]
def T0(cl:Nat->Addr):Tb:=⟨[],[("MOST_SIDES",.int 10)],[],[],false,⟨[],[],cl,"<lambda>"⟩⟩
def T1(cl:Nat->Addr):Tb:=(T0 cl).dd "_law_cell_at" jV
def T2(cl:Nat->Addr):Tb:=(T1 cl).dd "_law_state" jD
def T3(cl:Nat->Addr):Tb:=(T2 cl).dd "_law_take" a8
def T4(cl:Nat->Addr):Tb:=(T3 cl).dd "_law_clock" cf
def T5(cl:Nat->Addr):Tb:=(T4 cl).dd "_law_flips" fO
def T6(cl:Nat->Addr):Tb:=(T5 cl).dd "_law_quarter" iJ
def T7(cl:Nat->Addr):Tb:=(T6 cl).dd "_law_both" kz
def T8(cl:Nat->Addr):Tb:=(T7 cl).dd "_law_named" jH
def T9(cl:Nat->Addr):Tb:=(T8 cl).dd "_law_order" jN
def T10(cl:Nat->Addr):Tb:=(T9 cl).dd "_law_group" lE
def T11(cl:Nat->Addr):Tb:=(T10 cl).dd "_law_pair" jn
def T12(cl:Nat->Addr):Tb:=(T11 cl).dd "_law_two" j8
def T13(cl:Nat->Addr):Tb:=(T12 cl).hh "pieces" xh
def T14(cl:Nat->Addr):Tb:=(T13 cl).dd "all_things" oA
def T15(cl:Nat->Addr):Tb:=(T14 cl).dd "left_sides" kq
def T16(cl:Nat->Addr):Tb:=(T15 cl).dd "roads" Ay
def T17(cl:Nat->Addr):Tb:=(T16 cl).dd "span" zr
def T18(cl:Nat->Addr):Tb:=(T17 cl).dd "undone" rX
def T19(cl:Nat->Addr):Tb:=(T18 cl).dd "turn_of" ke
def T20(cl:Nat->Addr):Tb:=(T19 cl).dd "sides" iH
def T21(cl:Nat->Addr):Tb:=(T20 cl).dd "chosen_steps" fM
def T22(cl:Nat->Addr):Tb:=(T21 cl).dd "ring_from" iR
def T23(cl:Nat->Addr):Tb:=(T22 cl).dd "walk_of" jj
def T24(cl:Nat->Addr):Tb:=(T23 cl).dd "all_walks" fN
def T25(cl:Nat->Addr):Tb:=(T24 cl).xx "all_rounds_of_two" bz dw
def T26(cl:Nat->Addr):Tb:=(T25 cl).dd "_law_undone" jc
def T27(cl:Nat->Addr):Tb:=(T26 cl).dd "_law_sides" gS
def T28(cl:Nat->Addr):Tb:=(T27 cl).qq "_law_refused" (qM [0])
theorem ua:∀(cl:Nat->Addr),cD (T0 cl) N0 jU=some iL:=by intro cl;kernel_rfl
theorem qX:bw N0 (N0.take 2) (az jU):=eQ (by decide +kernel)
theorem xW:∀(cl:Nat->Addr),cD (T1 cl) N1 lV=some pP:=by intro cl;kernel_rfl
theorem vM:bw N1 (N1.take 2) (az lV):=eQ (by decide +kernel)
theorem yY:∀(cl:Nat->Addr),cD (T2 cl) N2 nL=some kD:=by intro cl;kernel_rfl
theorem yu:bw N2 (N2.take 2) (az nL):=eQ (by decide +kernel)
theorem xk:∀(cl:Nat->Addr),cD (T3 cl) N3 lC=some l8:=by intro cl;kernel_rfl
theorem vn:bw N3 (N3.take 1) (az lC):=eQ (by decide +kernel)
theorem yt:∀(cl:Nat->Addr),cD (T4 cl) N4 lN=some pV:=by intro cl;kernel_rfl
theorem vk:bw N4 (N4.take 1) (az lN):=eQ (by decide +kernel)
theorem t8:∀(cl:Nat->Addr),cD (T5 cl) N5 jS=some nj:=by intro cl;kernel_rfl
theorem se:bw N5 (N5.take 0) (az jS):=eQ (by decide +kernel)
theorem zG:∀(cl:Nat->Addr),cD (T6 cl) N6 nJ=some sQ:=by intro cl;kernel_rfl
theorem xg:bw N6 (N6.take 2) (az nJ):=eQ (by decide +kernel)
theorem xU:∀(cl:Nat->Addr),cD (T7 cl) N7 l5=some qf:=by intro cl;kernel_rfl
theorem vU:bw N7 (N7.take 2) (az l5):=eQ (by decide +kernel)
theorem wY:∀(cl:Nat->Addr),cD (T8 cl) N8 lG=some pR:=by intro cl;kernel_rfl
theorem vl:bw N8 (N8.take 2) (az lG):=eQ (by decide +kernel)
theorem wG:∀(cl:Nat->Addr),cD (T9 cl) N9 lW=some lT:=by intro cl;kernel_rfl
theorem vW:bw N9 (N9.take 2) (az lW):=eQ (by decide +kernel)
theorem ze:∀(cl:Nat->Addr),cD (T10 cl) N10 nM=some nF:=by intro cl;kernel_rfl
theorem yp:bw N10 (N10.take 2) (az nM):=eQ (by decide +kernel)
theorem Bw:∀(cl:Nat->Addr),cD (T11 cl) N11 pC=some pJ:=by intro cl;kernel_rfl
theorem zu:bw N11 (N11.take 1) (az pC):=eQ (by decide +kernel)
theorem DE :∀ (cl:Nat->Addr),∀ g φ,cB ⟨(T12 cl).D,(T12 cl).C,[("piece_at",g,φ)],(T12 cl).H,(T12 cl).mkr,(T12 cl).Z⟩ 80 (["rising","piece_at","found","met","least","piece","one"]:List Str) (az oC).names (bV oC)=some (wR g φ):=by intro cl;intro g φ;kernel_rfl
theorem BO:bw N12 (N12.take 2) (az oC):=eQ (by decide +kernel)
theorem vw:∀(cl:Nat->Addr),cD (T13 cl) N13 kn=some ox:=by intro cl;kernel_rfl
theorem tU:bw N13 (N13.take 1) (az kn):=eQ (by decide +kernel)
theorem vX :∀ (cl:Nat->Addr),cD ⟨(T14 cl).D,(T14 cl).C,(T14 cl).L,(T14 cl).H,true,(T14 cl).Z.to "<lambda>"⟩ N14 jf=some oO:=by intro cl;kernel_rfl
theorem tW:bw N14 (N14.take 2) (az jf):=eQ (by decide +kernel)
theorem HJ:∀(cl:Nat->Addr),cD (T15 cl) N15 vG=some z8:=by intro cl;kernel_rfl
theorem Eh:bw N15 (N15.take 2) (az vG):=eQ (by decide +kernel)
theorem LB:∀(cl:Nat->Addr),cD (T16 cl) N16 zI=some E1:=by intro cl;kernel_rfl
theorem Hj:bw N16 (N16.take 2) (az zI):=eQ (by decide +kernel)
theorem DP:∀(cl:Nat->Addr),cD (T17 cl) N17 qZ=some rA:=by intro cl;kernel_rfl
theorem Be:bw N17 (N17.take 2) (az qZ):=eQ (by decide +kernel)
theorem Br:∀(cl:Nat->Addr),cD (T18 cl) N18 pI=some pe:=by intro cl;kernel_rfl
theorem zt:bw N18 (N18.take 2) (az pI):=eQ (by decide +kernel)
theorem Gz:∀(cl:Nat->Addr),cD (T19 cl) N19 wb=some vg:=by intro cl;kernel_rfl
theorem CQ:bw N19 (N19.take 2) (az wb):=eQ (by decide +kernel)
theorem su:∀(cl:Nat->Addr),cD (T20 cl) N20 jl=some l7:=by intro cl;kernel_rfl
theorem qj:bw N20 (N20.take 3) (az jl):=eQ (by decide +kernel)
theorem xj:∀(cl:Nat->Addr),cD (T21 cl) N21 lS=some qc:=by intro cl;kernel_rfl
theorem v9:bw N21 (N21.take 3) (az lS):=eQ (by decide +kernel)
theorem Bv:∀(cl:Nat->Addr),cD (T22 cl) N22 o8=some uq:=by intro cl;kernel_rfl
theorem zF:bw N22 (N22.take 3) (az o8):=eQ (by decide +kernel)
theorem xn:∀(cl:Nat->Addr),cD (T23 cl) N23 l6=some lF:=by intro cl;kernel_rfl
theorem vS:bw N23 (N23.take 2) (az l6):=eQ (by decide +kernel)
theorem mV :∀ (cl:Nat->Addr),cD ⟨(T24 cl).D,(T24 cl).C,[],(T24 cl).H,false,(T24 cl).Z.to "sorted"⟩ N24 d9=some fg:=by intro cl;kernel_rfl
theorem lP :∀ (cl:Nat->Addr),(xc 80 80).b ⟨("all_rounds_of_two",bz)::(T24 cl).D,(T24 cl).C,(T24 cl).L,(T24 cl).H,(T24 cl).mkr,(T24 cl).Z⟩ ⟨(T24 cl).Z.R,clR [0]⟩ N24 (az d9).names (bV d9)=some gv:=by intro cl;kernel_rfl
theorem iP:bw N24 (N24.take 2) (az d9):=eQ (by decide +kernel)
theorem vY:∀(cl:Nat->Addr),cD (T25 cl) N25 kC=some kE:=by intro cl;kernel_rfl
theorem tR:bw N25 (N25.take 2) (az kC):=eQ (by decide +kernel)
theorem xZ:∀(cl:Nat->Addr),cD (T26 cl) N26 lA=some lZ:=by intro cl;kernel_rfl
theorem wd:bw N26 (N26.take 2) (az lA):=eQ (by decide +kernel)
def m9:Stmt:=(bV fE).getD 6 (.Pass ⟨0,0,0,0⟩)
theorem tY:bV fE=mJ 165 m9:=by kernel_rfl
theorem Qd:∀(cl:Nat->Addr),cS (T27 cl) 80 qh (az fE).names m9=some mzR:=by intro cl;kernel_rfl
theorem sH:uu (az fE).names=true:=by decide +kernel
theorem rq:bw N27 (N27.take 1) (az fE):=eQ (by decide +kernel)
theorem On :∀ (cl:Nat->Addr),cD ⟨(T28 cl).D,(T28 cl).C,(T28 cl).L,(T28 cl).H,true,(T28 cl).Z.to "<lambda>"⟩ N28 Fe=some Iy:=by intro cl;kernel_rfl
theorem K2:bw N28 (N28.take 1) (az Fe):=eQ (by decide +kernel)
abbrev dL:List (Str×Stmt):=("_law_cell_at",jU)::("_law_state",lV)::("_law_take",nL)::("_law_clock",lC)::("_law_flips",lN)::("_law_quarter",jS)::("_law_both",nJ)::("_law_named",l5)::("_law_order",lG)::("_law_group",lW)::("_law_pair",nM)::("_law_two",pC)::("pieces",oC)::("all_things",kn)::("roads",vG)::("span",zI)::("undone",qZ)::("turn_of",pI)::("sides",wb)::("chosen_steps",jl)::("ring_from",lS)::("walk_of",o8)::("all_walks",l6)::("all_rounds_of_two",d9)::("_law_undone",kC)::("_law_sides",lA)::("_law_refused",fE) :: []
variable{w:World}{mg:Str->Option Value}{h:Heap}{Yc:Addr}
theorem chain{P:Program}{K:aj}{Wa Yt:Addr}{cl:Nat->Addr}(X:K.In h)(Gn:h.Ns mainGlobals mg)(B :∀ x∈jr,bj K mainGlobals x=some none)(kc0 :∃ t,bj K mainGlobals "MOST_SIDES"=some (some (.int 10 t))){wA:Addr}(Rk:xQ K mg cl wA [0])(hC :∀ y i,(clR [0]).lookup y=some i->mg y=some (.ref (cl i))/\exB K (cl i)=true)(Wm:mainGlobals≠Yt)(W2:mainGlobals≠Yc)(nd:([Yt,Yc]:List Addr).Nodup)
  (DA:K7 K dL) (VI:oU K "left_sides" jf Wa Yt):Ch P w K mg [(Yt,("left_sides":Str)++".<locals>."++"<lambda>"),(Yc,("law":Str)++".<locals>."++"<lambda>")] (T28 cl) 31:=by
 obtain⟨D0,D1,D2,D3,D4,D5,D6,D7,D8,D9,Sg,SK,TK,TF,SX,Tn,Te,SV,SA,SE,TQ,Tz,SN,Va,RS,Sd,SU,_⟩:=DA;have C0:Ch P w K mg [(Yt,("left_sides":Str)++".<locals>."++"<lambda>"),(Yc,("law":Str)++".<locals>."++"<lambda>")] (T0 cl) 0:=⟨fun _ _ _ _ _=>TOk.con (TOk.nil X Gn B) X Gn kc0,(fun _ _ _ _ _ _ _ z=>by cases z),(fun _ _ _ _ _ _ _ z=>by cases z)⟩;have nd:(([(Yt,("left_sides":Str)++".<locals>."++"<lambda>"),(Yc,("law":Str)++".<locals>."++"<lambda>")]:List (Addr×Str)).map (·.1)).Nodup:=by simpa using nd
 have C1:Ch P w K mg _ (T1 cl) 1:=C0.dfn C0.o rfl X Gn D0 qX (λ_ _ _ _ _ _=>us2 λ_ _=>rfl) (ua cl);have C2:Ch P w K mg _ (T2 cl) 2:=C1.dfn C1.o rfl X Gn D1 vM (λ_ _ _ _ _ _=>us2 λ_ _=>rfl) (xW cl);have C3:Ch P w K mg _ (T3 cl) 3:=C2.dfn C2.o rfl X Gn D2 yu (λ_ _ _ _ _ _=>us2 λ_ _=>rfl) (yY cl);have C4:Ch P w K mg _ (T4 cl) 4:=C3.dfn C3.o rfl X Gn D3 vn (λ_ _ _ _ _ _=>us1 λ_=>rfl) (xk cl);have C5:Ch P w K mg _ (T5 cl) 5:=C4.dfn C4.o rfl X Gn D4 vk (λ_ _ _ _ _ _=>us1 λ_=>rfl) (yt cl);have C6:Ch P w K mg _ (T6 cl) 6:=C5.dfn C5.o rfl X Gn D5 se (λ_ _ _ _ _ _=>us0 rfl) (t8 cl);have C7:Ch P w K mg _ (T7 cl) 7:=C6.dfn C6.o rfl X Gn D6 xg (λ_ _ _ _ _ _=>us2 λ_ _=>rfl) (zG cl);have C8:Ch P w K mg _ (T8 cl) 8:=C7.dfn C7.o rfl X Gn D7 vU (λ_ _ _ _ _ _=>us2 λ_ _=>rfl) (xU cl);have C9:Ch P w K mg _ (T9 cl) 9:=C8.dfn C8.o rfl X Gn D8 vl (λ_ _ _ _ _ _=>us2 λ_ _=>rfl) (wY cl);have Si:Ch P w K mg _ (T10 cl) 10:=C9.dfn C9.o rfl X Gn D9 vW (λ_ _ _ _ _ _=>us2 λ_ _=>rfl) (wG cl);have SM:Ch P w K mg _ (T11 cl) 11:=Si.dfn Si.o rfl X Gn Sg yp (λ_ _ _ _ _ _=>us2 λ_ _=>rfl) (ze cl);have Q7:Ch P w K mg _ (T12 cl) 12:=SM.dfn SM.o rfl X Gn SK zu (λ_ _ _ _ _ _=>us1 λ_=>rfl) (Bw cl);have Sy:Ch P w K mg _ (T13 cl) 12:=Q7.cls rfl rfl X Gn TK BO (λ_ _ _ _ _ _=>us2 λ_ _=>rfl) (DE cl);have Qu:Ch P w K mg _ (T14 cl) 13:=Sy.dfn Sy.o rfl X Gn TF tU (λ_ _ _ _ _ _=>us1 λ_=>rfl) (vw cl);have SO:Ch P w K mg _ (T15 cl) 18:=Qu.lam_ rfl rfl (by simp) nd Wm X Gn VI tW (λ_ _ _ _ _ _=>us2 λ_ _=>rfl) (vX cl);have Su:Ch P w K mg _ (T16 cl) 19:=SO.dfn SO.o rfl X Gn SX Eh (λ_ _ _ _ _ _=>us2 λ_ _=>rfl) (HJ cl);have So:Ch P w K mg _ (T17 cl) 20:=Su.dfn Su.o rfl X Gn Tn Hj (λ_ _ _ _ _ _=>us2 λ_ _=>rfl) (LB cl);have Td:Ch P w K mg _ (T18 cl) 21:=So.dfn So.o rfl X Gn Te Be (λ_ _ _ _ _ _=>us2 λ_ _=>rfl) (DP cl);have SH:Ch P w K mg _ (T19 cl) 22:=Td.dfn Td.o rfl X Gn SV zt (λ_ _ _ _ _ _=>us2 λ_ _=>rfl) (Br cl);have To:Ch P w K mg _ (T20 cl) 23:=SH.dfn SH.o rfl X Gn SA CQ (λ_ _ _ _ _ _=>us2 λ_ _=>rfl) (Gz cl);have Sv:Ch P w K mg _ (T21 cl) 24:=To.dfn To.o rfl X Gn SE qj (λ_ _ _ _ _ _=>us3 λ_ _ _=>rfl) (su cl);have RW:Ch P w K mg _ (T22 cl) 25:=Sv.dfn Sv.o rfl X Gn TQ v9 (λ_ _ _ _ _ _=>us3 λ_ _ _=>rfl) (xj cl);have RV:Ch P w K mg _ (T23 cl) 26:=RW.dfn RW.o rfl X Gn Tz zF (λ_ _ _ _ _ _=>us3 λ_ _ _=>rfl) (Bv cl);have SY:Ch P w K mg _ (T24 cl) 27:=RV.dfn RV.o rfl X Gn SN vS (λ_ _ _ _ _ _=>us2 λ_ _=>rfl) (xn cl);have s9:=SY.dfn (T':=⟨(T24 cl).D,(T24 cl).C,[],(T24 cl).H,false,(T24 cl).Z.to "sorted"⟩) (fun caps capv cds base Zj=>((SY.o caps capv cds base Zj).nm "sorted")) rfl X Gn Va iP (fun _ _ _ _ _ _=>us2 fun _ _=>rfl) (mV cl);have SW:Ch P w K mg _ (T25 cl) 29:=s9.raise (clR [0]) rfl hC X Gn Va iP (λ_ _ _ _ _ _=>us2 λ_ _=>rfl) (lP cl);have Tp:Ch P w K mg _ (T26 cl) 30:=SW.dfn SW.o rfl X Gn RS tR (λ_ _ _ _ _ _=>us2 λ_ _=>rfl) (vY cl);have P':Ch P w K mg _ (T27 cl) 31:=Tp.dfn Tp.o rfl X Gn Sd wd (λ_ _ _ _ _ _=>us2 λ_ _=>rfl) (xZ cl);have RD:Ch P w K mg _ (T28 cl) 31:=P'.refd rfl X Gn SU rq (λ_ _ _ _ _ _=>us1 λ_=>rfl) sH tY (Qd cl) Rk;exact RD
variable{q:Program}
theorem all_mk{l:mT}{K:aj}{fa:Addr}{Wa Yt:Addr}{UH:Addr}(X:K.In h)(Gn:h.Ns mainGlobals mg)(Ul:mg "law"=some (.ref fa))(B :∀ x∈jr,bj K mainGlobals x=some none)(kc0 :∃ t,bj K mainGlobals "MOST_SIDES"=some (some (.int 10 t))){c0 c1 c2 c3 c4 c5 c6 wA:Addr}(Uo:bj K mainGlobals "TooMany"=some (some (.ref c0)))(UM:bj K mainGlobals "NotLevel"=some (some (.ref c1)))(Ud:bj K mainGlobals "NoLift"=some (some (.ref c2)))(Uv:bj K mainGlobals "NotPlain"=some (some (.ref c3)))(Vc:bj K mainGlobals "NoName"=some (some (.ref c4)))(Vh:bj K mainGlobals "BadNote"=some (some (.ref c5)))(Vf:bj K mainGlobals "NoTwist"=some (some (.ref c6)))(V1:bj K mainGlobals "WalkError"=some (some (.ref wA)))(rb:LH K [c0,c1,c2,c3,c4,c5,c6] wA [0]=true)(Wm:mainGlobals≠Yt)(W2:mainGlobals≠Yc)(nd:([Yt,Yc]:List Addr).Nodup)
  (DA:K7 K dL) (VI:oU K "left_sides" jf Wa Yt) (Tj:oU K "law" Fe UH Yc) {QG:DefRec} (Uc:K.lookup Yt=none) (Vg:(i8 q).find? (fun e=>e.name==("left_sides":Str))=some QG) {Qo:DefRec} (UU:K.lookup Yc=none) (Ua:(i8 q).find? (fun e=>e.name==("law":Str))=some Qo) :
  ∃ (tabs:List (Addr×Str)) (fd:FuncData) (sp:Sp),(∀ r∈tabs,K.lookup r.1=none /\ ∃ x d c,(i8 q).find? (fun e=>e.name==x)=some d/\PySem.W.tabIn K x=some (c,r.1))/\(∀ (s:Shared) (v:Value),BindsTo s fd ⟨[v],[]⟩ [("script",v)]) /\
   (∀ base:Heap,K.In base->base.Ns mainGlobals mg->fQ mg base->iY l.prog w K mg base CX0 36 fa fd ["script"] sp) /\ ∀ (H:Hp) (a:Addr) (ns:List Int),ns.length<=63->(∀ r∈tabs,zq H r.1 r.2)->SqL K H a (ns.map V.int)->sp [.ref a] H (fun v _=>v=.bl true) fun _ _ _=>False:=by
 have DB:=DA;obtain⟨D0,D1,D2,D3,D4,D5,D6,D7,D8,D9,Sg,SK,TK,TF,SX,Tn,Te,SV,SA,SE,TQ,Tz,SN,Va,RS,Sd,SU,_⟩:=DA;have DA:=DB;obtain⟨Rk,hC⟩:=Kq (rz:= [0]) X Gn Uo UM Ud Uv Vc Vh Vf V1 rb;have CH:=chain (P:=l.prog) (w:=w) X Gn B  kc0 Rk hC Wm W2 nd DA VI;obtain⟨fd,h1,h2⟩:=G8 (l:=l) (w:=w) (tabs := [(Yt,("left_sides":Str)++".<locals>."++"<lambda>"),(Yc,("law":Str)++".<locals>."++"<lambda>")]) X Gn Ul Tj K2 (fun _ _ _ _ _ _=>us1 fun _=>rfl) rfl rfl (by simp) (by simpa using nd) W2 CH (On _);refine⟨[(Yt,("left_sides":Str)++".<locals>."++"<lambda>"),(Yc,("law":Str)++".<locals>."++"<lambda>")],fd,_,?_,h1,h2,fun H a ns hl hT hS=>M5 hT hS fun S h1 h2=>CT ns hl S h1 h2⟩;intro r hr;simp only[aD,eO,_root_.or_false]at hr;rcases hr with rfl |rfl
 .exact⟨Uc,_,_,_,Vg,VI.tab⟩
 .exact⟨UU,_,_,_,Ua,Tj.tab⟩
theorem walk{l:mT}{loose:List Str}{XP:(Str->Option Value)->Heap->Prop}{YP:World->Heap->Prop}{d:DefRec}{K:Params->aj}(hn:l.most=some 63)(W4:d.params.defaults=[])
  (hY:∀(w:World) (h:Heap),YP w h->(K w.params).In h)
  (F: ∀(w:World) (mg:Str->Option Value) (fa:Addr) (h:Heap),(K w.params).In h->h.Ns mainGlobals mg->mg d.name=some (.ref fa) -> ∃(tabs:List (Addr×Str)) (fd:FuncData) (sp:Sp),
   (∀ r∈tabs,(K w.params).lookup r.1=none /\ ∃ x d c,(i8 q).find? (fun e=>e.name==x)=some d/\PySem.W.tabIn (K w.params) x=some (c,r.1))/\(∀ (s:Shared) (v:Value),BindsTo s fd ⟨[v],[]⟩ [("script",v)]) /\
   (∀ base:Heap,(K w.params).In base->base.Ns mainGlobals mg->fQ mg base->iY l.prog w (K w.params) mg base CX0 36 fa fd ["script"] sp) /\ ∀ (H:Hp) (a:Addr) (ns:List Int),ns.length<=63->(∀ r∈tabs,zq H r.1 r.2)->SqL (K w.params) H a (ns.map V.int)->sp [.ref a] H (fun v _=>v = .bl true) fun _ _ _=>False) :
  PySem.W.WalkO q loose XP YP l.row.toRowW d [] (λf vs=>PySem.call f vs):=
 Ff (n:=63) (k:=36) (x:="script") hn (by decide) W4 ⟨rfl,by decide,by decide,rfl⟩ hY F
end _W
open PySem PySem.W PyProof.Rows
namespace PySem.W.Fast
theorem tw16411652743060872413:True:=trivial
theorem tw7246017241926738843:True:=trivial
theorem tw10870042354272567582:True:=trivial
theorem tw8062032435711766099:True:=trivial
theorem tw1014927857024363446:True:=trivial
theorem tw2099741993557344036:True:=trivial
theorem tw15720080957180900409:True:=trivial
theorem tw5703811425345818636:True:=trivial
theorem tw9951768972058120162:True:=trivial
theorem tw2775083321080324732:True:=trivial
theorem tw756648347733237821:True:=trivial
theorem tw11274862153877131671:True:=trivial
theorem tw12399668764001827826:True:=trivial
theorem tw199163631594411661:True:=trivial
theorem tw3407848222388141400:True:=trivial
theorem tw3134397816270678223:True:=trivial
theorem tw1157599048394596916:True:=trivial
theorem tw5294220048123244487:True:=trivial
theorem tw6306760441263800399:True:=trivial
theorem tw9510690465859443431:True:=trivial
theorem tw3102933250393254333:True:=trivial
theorem tw5854676568193001842:True:=trivial
theorem tw2920649564473291971:True:=trivial
theorem tw14949552141250903176:True:=trivial
theorem tw9260466547263733604:True:=trivial
theorem tw8754870663518569813:True:=trivial
theorem tw4473722523316031846:True:=trivial
theorem tw7047568033183323485:True:=trivial
theorem tw8047507018781124375:True:=trivial
theorem tw8614574030552283662:True:=trivial
theorem tw9370940041803698079:True:=trivial
theorem tw8116392661954294201:True:=trivial
theorem tw6538801673082229175:True:=trivial
theorem tw10254509717727877461:True:=trivial
theorem tw10723858848836680073:True:=trivial
theorem tw6623339005204854061:True:=trivial
theorem tw17820732587940318812:True:=trivial
theorem tw7484697171953309112:True:=trivial
theorem tw9919472653962657931:True:=trivial
theorem tw10675791180862853413:True:=trivial
theorem tw4372683193003664646:True:=trivial
theorem tw14694194157152878157:True:=trivial
theorem tw10200611340803301509:True:=trivial
theorem tw16116887775412178024:True:=trivial
theorem tw10182416053742961414:True:=trivial
theorem tw14697281456481145807:True:=trivial
theorem tw3573318188444427744:True:=trivial
theorem tw12169854555387541831:True:=trivial
theorem tw14606658548412919514:True:=trivial
theorem tw17336989230115226994:True:=trivial
theorem tw14613641919909434463:True:=trivial
theorem tw821023327110086297:True:=trivial
theorem tw17970859193097874409:True:=trivial
theorem tw16503080724504607102:True:=trivial
theorem tw2154632655776261158:True:=trivial
theorem tw2007665113819560070:True:=trivial
theorem tw3540184616648087982:True:=trivial
theorem tw9244428049989171196:True:=trivial
theorem tw3250794471668847467:True:=trivial
theorem tw825640428181823984:True:=trivial
theorem tw12918206469455907759:True:=trivial
theorem tw11384552734180032132:True:=trivial
theorem tw5235287108295951188:True:=trivial
theorem tw15357025334195571741:True:=trivial
theorem tw4559810326770838642:True:=trivial
theorem tw192093914590123355:True:=trivial
theorem tw4645032324789719262:True:=trivial
theorem tw14586588827306318510:True:=trivial
theorem tw5290938507796251896:True:=trivial
theorem tw9353739569882716596:True:=trivial
theorem tw1086028197322274456:True:=trivial
theorem tw17479123199444909780:True:=trivial
theorem tw17556806272861883332:True:=trivial
theorem tw3832719692017744920:True:=trivial
theorem tw17388254288991334935:True:=trivial
theorem tw7534715983714927663:True:=trivial
theorem tw9632301471201101629:True:=trivial
theorem tw4935657296387255272:True:=trivial
theorem tw18381658117462178724:True:=trivial
theorem tw9030231536747029931:True:=trivial
theorem tw18253844705655861733:True:=trivial
theorem tw13127592609937277816:True:=trivial
theorem tw11889475480891113959:True:=trivial
theorem tw13862354563342305275:True:=trivial
theorem tw6729251465111309340:True:=trivial
theorem tw8523097266303290841:True:=trivial
theorem tw16838250189942165808:True:=trivial
theorem tw13002319553943396094:True:=trivial
theorem tw8854832750943968989:True:=trivial
theorem tw10335760676651321651:True:=trivial
theorem tw12474975848032990622:True:=trivial
theorem tw8266121040281336519:True:=trivial
theorem tw3505078493867901573:True:=trivial
theorem tw13773261695417349981:True:=trivial
theorem tw17682838126659314167:True:=trivial
theorem tw15086575227899167310:True:=trivial
theorem tw15266514850254729739:True:=trivial
theorem tw7361700828653743524:True:=trivial
theorem tw11395186974087843257:True:=trivial
theorem tw2133089479085014687:True:=trivial
theorem tw10434949984983431503:True:=trivial
theorem tw9767443419746370968:True:=trivial
theorem tw9518695925914480927:True:=trivial
theorem tw10427440408090146648:True:=trivial
theorem tw12535958909320045023:True:=trivial
theorem tw15673090272754061131:True:=trivial
theorem tw308000911832184097:True:=trivial
theorem tw9047797996230289446:True:=trivial
theorem tw14597906799576982035:True:=trivial
theorem tw13558444904401571989:True:=trivial
theorem tw17835705568631479649:True:=trivial
theorem tw11863295883695410190:True:=trivial
theorem tw9735021928224979756:True:=trivial
theorem tw10876996509677422744:True:=trivial
theorem tw7784446016574157821:True:=trivial
theorem tw9150741300228339082:True:=trivial
theorem tw17861147145734814234:True:=trivial
theorem tw1535241157217028390:True:=trivial
theorem tw16678087373455464415:True:=trivial
theorem tw14191769251339412310:True:=trivial
theorem tw8971003947011109222:True:=trivial
theorem tw309554042338676214:True:=trivial
theorem tw4946060488710408194:True:=trivial
theorem tw12863109584496207979:True:=trivial
theorem tw5739969819485816392:True:=trivial
theorem tw16198132444250869686:True:=trivial
theorem tw3163691664974987855:True:=trivial
theorem tw13161454033622625880:True:=trivial
theorem tw11493280275554824260:True:=trivial
theorem tw15893370487453976795:True:=trivial
theorem tw5555981752357774132:True:=trivial
theorem tw5702258819929446863:True:=trivial
theorem tw13553082698282822834:True:=trivial
theorem tw3149086999062003283:True:=trivial
theorem tw18168834379773326082:True:=trivial
theorem tw18250271243175560920:True:=trivial
theorem tw12416290516669056820:True:=trivial
theorem tw16241721739569029159:True:=trivial
theorem tw11675162866893696251:True:=trivial
theorem tw11874870284557192818:True:=trivial
theorem tw12647760253611769452:True:=trivial
theorem tw1338928293955934736:True:=trivial
theorem tw7941559535998393921:True:=trivial
theorem tw12284338680105650662:True:=trivial
theorem tw17084273053712525883:True:=trivial
theorem tw903073226650817210:True:=trivial
theorem tw12148756864350211367:True:=trivial
theorem tw14822366618835070913:True:=trivial
theorem tw11838653783525140863:True:=trivial
theorem tw3665535231765253918:True:=trivial
theorem tw6549235360061076760:True:=trivial
theorem tw3046140146906599801:True:=trivial
theorem tw4979376570533083568:True:=trivial
theorem tw10897480296842809318:True:=trivial
theorem tw3660235844637078837:True:=trivial
theorem tw9079747133319859199:True:=trivial
theorem tw9185373487792252447:True:=trivial
theorem tw17899583381152834481:True:=trivial
theorem tw4678474431200304331:True:=trivial
theorem tw6649969071051983954:True:=trivial
theorem tw4130861312747735089:True:=trivial
theorem tw15661994209961413900:True:=trivial
theorem tw18000239377571523681:True:=trivial
theorem tw7554542909126128278:True:=trivial
theorem tw9487110881784171364:True:=trivial
theorem tw13710766289345762702:True:=trivial
theorem tw7310377357828853604:True:=trivial
theorem tw15034295110319357205:True:=trivial
theorem tw6877836728163514003:True:=trivial
theorem tw9474094060492280040:True:=trivial
theorem tw7092557481830917099:True:=trivial
theorem tw5204175696085799636:True:=trivial
theorem tw459512996998842495:True:=trivial
theorem tw18040541281274208803:True:=trivial
theorem tw429560111753919070:True:=trivial
end PySem.W.Fast
set_option maxRecDepth 100000 in
set_option maxHeartbeats 0 in
theorem PySem.Challenge.cw_groupwalks_k54_too_many_sides_holds : PySem.Challenge.rw_groupwalks_k54_too_many_sides.Holds := by
 w_on;o_law;k_head;(case hw=>w_witness2)
 k_fill
 refine _W.walk (l:=PySem.Challenge.rw_groupwalks_k54_too_many_sides) rfl rfl (λw h Y=>PySem.W.km_in_of Y) ?F
 case F=>
  intro w mg fa h KX Gh VN;refine' _W.all_mk KX Gh VN ?B ?con0 ?Uo ?UM ?Ud ?Uv ?Vc ?Vh ?Vf ?V1 ?rb ?Wm ?W2 ?nd ?DA (_G.Aj ?a14 ?l14 ?c14 ?Wa ?e14 ?u14 ?v14 ?w14 ?x14 ?y14 ?z14 ?t14) (_G.Aj ?a28 ?l28 ?c28 ?UH ?e28 ?u28 ?v28 ?w28 ?x28 ?y28 ?z28 ?t28) ?Uc ?Vg ?UU ?Ua
  (case con0=>exact⟨_,by k_is⟩)
  (case Uo=>k_is)
  (case UM=>k_is)
  (case Ud=>k_is)
  (case Uv=>k_is)
  (case Vc=>k_is)
  (case Vh=>k_is)
  (case Vf=>k_is)
  (case V1=>k_is)
  (case rb=>kernel_rfl)
  case B=>
   intro x hx;simp only[_G.jr,aD,eO,or_false]at hx;rcases hx with rfl|rfl|rfl|rfl|rfl|rfl|rfl|rfl|rfl|rfl|rfl|rfl|rfl|rfl|rfl|rfl|rfl|rfl|rfl|rfl
   all_goals k_is
  case DA=>
   iterate 27 (refine' And.intro (_G.J5 ?a ?l ?c ?k) ?_;(case a=>k_is);(case l=>k_is);(case c=>k_is);(case k=>k_is))
   trivial
  (case a14=>k_is);(case l14=>k_is);(case c14=>k_is);(case Wa=>k_is)
  (case e14=>k_is);(case u14=>rfl);(case v14=>rfl);(case w14=>rfl);(case x14=>rfl);(case y14=>rfl);(case z14=>rfl);(case t14=>decide)
  (case a28=>k_is);(case l28=>k_is);(case c28=>k_is);(case UH=>k_is)
  (case e28=>k_is);(case u28=>rfl);(case v28=>rfl);(case w28=>rfl);(case x28=>rfl);(case y28=>rfl);(case z28=>rfl);(case t28=>decide)
  (case Wm=>decide)
  (case W2=>decide)
  (case nd=>decide)
  (case Uc=>kernel_rfl);(case Vg=>rfl)
  (case UU=>kernel_rfl);(case Ua=>rfl)
