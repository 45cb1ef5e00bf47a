import PyProof.Rows.All
import Wide.All
import OpenK.AllK
import Wide.FinOn
import Lean
import PyProof.EqAt
import PyProof.EqKinds
import PyProof.TupleCall
import PyProof.EnumStmt
import PyProof.EnumMake
import PyProof.EnumFor
import PyProof.ZipIter
import PyProof.StrWalks
import PyProof.Rows.StrJoin2
import PyProof.Rows.StrNews
import KE.KIntText
import PyProof.CompFree
import PyProof.CompMap
import PyProof.Cells
import PyProof.ListMulRoad
import PyProof.ConsumeWalk
import PyProof.TupleOfGen
import PyProof.ListRange
import PyProof.ReprStr
import PyProof.StrLawsRepr
import PySem.Challenge.RW_groupwalks_k92_texts_that_write_none
set_option bootstrap.genMatcherCode false
set_option Elab.async false
set_option linter.all false
set_option maxRecDepth 100000
set_option maxHeartbeats 0
set_option compiler.postponeCompile true
set_option bootstrap.genMatcherCode false
set_option genSizeOfSpec false
set_option relaxedAutoImplicit false
set_option compiler.extract_closed false
open Option renaming some → a_,none → b_
open Bool renaming true → c_,false → d_
open PySem renaming Addr → e_,Value → f_,Shared → g_
open scoped BitVec
set_option hygiene false
theorem au1(h:0=0:=by rfl):0=0:=h
theorem au2(h:0=0:=by decide):0=0:=h
theorem au3(h:Nat->0=0:=by intro _;rfl):0=0:=h 0
theorem au4(h:0=0\/0=1:=by first |exact .inl rfl |exact .inr rfl |assumption):0=0:=rfl
noncomputable section
open Array renaming getElem?_eq_some_iff→gg,toList_append→gJ,length_toList→jL,mem_toList_iff→Eu
open Bool renaming and_eq_true→ah,and_eq_true_iff→aQ,true_and→dU,false_ne_true→d9,and_true→eM,eq_iff_iff→fI,false_and→ya
open Classical renaming propDecidable→aY,byContradiction→fY
open False renaming elim→cp
open ForInStep renaming yield→ed
open Int renaming ofNat_lt→fD,natCast_emod→mP,eq_ofNat_of_zero_le→mQ,natCast_add→nJ,emod_lt_of_pos→sd,natCast_ediv→vC,emod_nonneg→xU
open List renaming getElem?_eq_some_iff→ag,length_map→aj,range→av,mem_cons_of_mem→az,all_eq_true→aC,getElem?_set_ne→aD,getElem?_eq_getElem→aG,mem_map→aL,mem_append_right→aM,getElem?_set_self→aN,getElem?_append_left→aS,all_cons→a8,getElem?_map→ba,mem_cons→bf,mem_of_getElem?→bo,getElem?_append_right→bp,mem_cons_self→bq,lookup_cons→bD,replicate→bI,size_toArray→bU,map_cons→bY,mem_range→cj,map_append→cN,getElem_mem→cQ,mem_append_left→c7,length_cons→c8,map_map→dj,length_append→dv,length_range→dH,length_set→dI,filterMap_cons→dN,range'→dR,mem_singleton→ee,findIdx?_eq_some_iff_getElem→eu,drop_eq_getElem_cons→eB,mem_append→fE,append_nil→fF,length_nil→fH,nil_append→fK,any_cons→fN,append_assoc→fX,lookup_append→hX,getElem?_replicate→iw,all_nil→iO,not_mem_nil→jc,sum_cons→jt,eq_nil_of_length_eq_zero→ju,nodup_cons→jJ,of_mem_zip→jK,map_congr_left→j0,filter_eq_self→j1,reverse_cons→kU,length_take→mD,length_drop→mE,drop_length→mG,drop_of_length_le→m6,take_append_drop→nH,getElem?_eq_none→nK,getElem_of_mem→pW,mem_filterMap→qI,all_map→sh,any_eq_true→ud,isEmpty_iff→ue,mem_filter→vD,range_succ→vF,getD_eq_getElem?_getD→xY,nodup_iff_pairwise_ne→xZ,idxOf_lt_length_iff→As,take_of_length_le→BB,any_map→BD,map_set→BE,length_replicate→Ez,set_append_right→EB,length_filter_le→EE,length→EI,lookup→EK,getElem_toArray→EL,range_eq_range'→EM
open List.Pairwise renaming nil→gI
open Nat renaming le_refl→ao,lt_of_lt_of_le→ax,le_trans→aA,lt_of_le_of_lt→a9,le_of_lt→br,ne_of_lt→bx,mod_eq_of_lt→bH,lt_irrefl→bT,add_pos_left→cm,lt_trans→dQ,zero_add→dS,le_add_right→d6,lt_succ_self→d7,le_of_not_lt→d8,le_succ→fk,add_assoc→fT,zero_le→gy,ne_of_gt→gH,div_eq_of_lt→gK,lt_succ_of_lt→iW,mul_comm→ki,add_mod_right→kX,sub_sub_right→kY,reduceAdd→lY,sub_add_comm→mO,mod_self→nF,sub_le→nG,mod_add_mod→nI,mul_le_mul_left→qp,mod_lt→r9,le_succ_of_le→sX,le_of_lt_succ→sZ,add_comm→EC,lt_of_succ_lt_succ→ED
open Nat.succ renaming inj→xX
open Ne renaming symm→cY
open Option renaming bind_some→ay,map_some→aT,isSome_iff_exists→cu,or_eq_some_iff→fJ,map_eq_some_iff→iF,filter_eq_some_iff→kj,getD_some→sf,bind_eq_some_iff→zj
open Option.some renaming inj→dW,injEq→oR
open PyProof.Rows renaming slot_tuple_getitem→cw,callWith_type1→fe,recsOf→mI,boot_tuple→sY
open PyProof.Rows.IsTup renaming new→Ar
open PySem renaming Str→aq,wpAny_bind→aB,wpAny→aR,wpAny_pure→bj,mem_of_lookup→bN,wpAny_mono→bV,wpAny_truthy_bool→cX,wpAny_Call_Name_kw→di,intText?→d5,wpAny_field→fR,wpAny_passesOwn→gf,Addr→hE,wpAny_execs_nil→iN,wpAny_loadPart_at→jr,wpAny_holding→j2,size_glued→lX,wpAny_comprehension_free→nE,wpAny_callSpecial?_slot→oP,codeAny_mono→pI,codeAny→se,wpAny_assign_Name→xJ,wpAny_pyIter_list→xK,wpAny_sequenceKey→xM,wpAny_typeOf→xN,wpAny_newObj_type→xO,wpAny_execs_cons→zh,wpAny_call_entry→zi,strLen_append→EN
open PySem.Around renaming frames_deeper→By
open PySem.Builtin.Slice renaming slicePlaces→dg,sliceAdjust→fG,sliceApplied→qo
open PySem.Builtin.Str renaming occurrences→cU,partsBetween→jY,occurrences→m7,strKind→xW
open PySem.Builtin.Tuple renaming tupleItemsOf→ja
open PySem.Calls renaming Constant_str→fh,spliced_cons→fi,spliced_nil→iM,evalArgs_plain→jq,Name_function_global→xI,callWith_builtin→Bt
open PySem.F renaming typeOf_object_class→jv,args_tuple_add_2→kN,entry_tuple_add→kS,plainAttrs_list→kT,slot_tuple_add→lW,args_str_split_2→sW,entry_str_split→vv,excBase_ValueError→vA,slot_str_split→xP,slot_tuple_index→xQ,slot_list_insert→xT,plainAttrs_str→zk
open PySem.Heap renaming get?_push_of_some→aw,lt_size→aF,get?_push_size→aI,size_push→dy,get?_update_other→dP,FlyingW→j3,SameBut→Bw,get?_update_self→Ew
open PySem.Heap.IsSliceOf renaming new→mF
open PySem.IsL renaming update→Ey
open PySem.NameKind renaming free→aX,cell→dr
open PySem.Obj renaming mapSeq→nD,mapFields→qK
open PySem.Paired renaming length→xV
open PySem.PassesOwn renaming never→kW
open PySem.PyData renaming int→bz,eqvAll→bC,eqv→bL,strOk→ck,eqv→eJ,canLay0→iG,tuple→jb,canLayAll0→kO,depthAll→mM,depth→qJ
open PySem.SeqAt renaming shaped→jZ,notIn_tupleAt→EJ
open PySem.SeqAt.EqAt renaming int_str→Ap,str_int→Aq
open PySem.Str renaming ofString→cH,empty→fQ,join→mR
open PySem.StrLaws renaming glued_eq_join→iX
open PySem.Txt renaming split→aO,slice→bB,join→de,split→Bz
open PySem.Value renaming ref→eA,builtin→pX,none→ql
open PySem.W renaming Frag→ai,nsIn→aJ,mg_of→bK,kitOne→b9,keepIn→cb,kia_one→cq,fnOf→cM,hideAll_get→dG,hideAll→ek,hideAll_none→eo,codeIn→fW,of_hideAll→gX,cellsFrom_some→iu,callWith_K→jX,OpenLaw→mH,hideAll_size→nC,instObj→sU,lookIn→vt,exmOne→vB,kla_callFunE→Bu,kla_codeExpr→Bv,callWith_K0→Bx,callWith_of→BC,mg_none_of→EA,kitx_none→EF,kitx_list→EG,kitx_dict→EH
open PySem.W.Looks renaming ld→oQ
open Sum renaming inl→Es,inr→Et
open True renaming intro→fj
namespace _L
open PySem PySem.Spec PyProof.Rows
abbrev Key:=Sum Int Str
def tL:Key->f_->Bool
 |.inl k,v=>Value.isInt k v
 |.inr x,v=>Value.isStrOf x v
def OU(w:World):Key->Int
 |.inl k=>hashInt k
 |.inr x=>hashStr w x
theorem d4:∀{k:Key}{v:f_},tL k v=c_->(∃i t,k=Es i/\v=Value.int i t)\/(∃x t,k=Et x/\v=Value.str x t)
 | .inl i,v,h=>by
   obtain⟨t,e⟩:=Value.isInt_shape h;exact .inl ⟨i,t,rfl,e⟩
 | .inr x,v,h=>by
   obtain⟨t,e⟩:=Value.isStrOf_shape h;exact .inr ⟨x,t,rfl,e⟩
theorem Bp(i:Int)(t:Tok):tL (.inl i) (.int i t)=c_:=by simp[tL,Value.isInt]
theorem AQ(x:Str)(t:Tok):tL (.inr x) (.str x t)=c_:=by simp[tL,Value.isStrOf]
theorem Kd(a b:Int):decide ((Es a:Key)=Es b)=(a==b):=by
 grind
theorem Jm(a b:Str):decide ((Et a:Key)=Et b)=decide (a=b):=by
 grind
theorem Jv(a:Int)(b:Str):decide ((Es a:Key)=Et b)=d_:=decide_eq_false (λq=>nomatch q)
theorem JA(a:Str)(b:Int):decide ((Et a:Key)=Es b)=d_:=decide_eq_false (λq=>nomatch q)
def eV(prog:Program)(w:World):PySem.KeyKind prog w Key where
 is:=tL
 hash:=OU w
 inj:=λv a b ha hb=>by
  rcases d4 ha with⟨i,t,rfl,rfl⟩|⟨x,t,rfl,rfl⟩
  .rcases d4 hb with⟨j,u,rfl,e⟩|⟨y,u,rfl,e⟩
   .injection e with e1 _;rw[e1]
   .exact nomatch e
  .rcases d4 hb with⟨j,u,rfl,e⟩|⟨y,u,rfl,e⟩
   .exact nomatch e
   .injection e with e1 _;rw[e1]
 byValue:=λk v h=>by
  rcases d4 h with⟨i,t,rfl,rfl⟩|⟨x,t,rfl,rfl⟩<;>rfl
 pyHash:=λhv h=>by
  rcases d4 hv with⟨i,t,rfl,rfl⟩|⟨x,t,rfl,rfl⟩
  .exact wpAny_pyHash_int h
  .exact wpAny_pyHash_str h
 eqBool:=λhu hv h=>by
  rcases d4 hu with⟨i,t,rfl,rfl⟩|⟨x,t,rfl,rfl⟩
  .rcases d4 hv with⟨j,u,rfl,rfl⟩|⟨y,u,rfl,rfl⟩
   .rw[Kd]at h;exact wpAny_eqBool_int h
   .rw[Jv]at h;exact Ap i t y u _ _ _ _ h
  .rcases d4 hv with⟨j,u,rfl,rfl⟩|⟨y,u,rfl,rfl⟩
   .rw[JA]at h;exact Aq x t j u _ _ _ _ h
   .rw[Jm]at h;exact wpAny_eqBool_str h
 «strs»:=λk x t v h=>by
  rcases d4 h with⟨i,u,rfl,e⟩|⟨y,u,rfl,e⟩
  .exact nomatch e
  .injection e with e1 _
   subst e1;cases v<;>rfl
theorem w9(prog:Program)(w:World)(i:Int)(t:Tok):(eV prog w).is (.inl i) (.int i t)=c_:=Bp i t
theorem xj(prog:Program)(w:World)(x:Str)(t:Tok):(eV prog w).is (.inr x) (.str x t)=c_:=AQ x t
inductive V where
 |non |bl (b:Bool) |int (i:Int) |str (x:Str) |byt (b:Array UInt8) |flt (b:UInt64) |ref (a:e_) |ty (n:String)
def RelV:V->f_->Prop
 |.non,u=>u=ql
 |.bl b,u=>u=Value.bool b
 |.int i,u=>∃t,u=Value.int i t
 |.str x,u=>∃t,u=Value.str x t
 |.byt b,u=>∃t,u=Value.bytes b t
 |.flt b,u=>∃t,u=Value.float b t
 |.ref a,u=>u=eA a
 |.ty n,u=>u=Value.type n
abbrev cf:List V->List f_->Prop:=Paired RelV
variable{xs:List V}{us:List f_}
theorem cf.length(r:cf xs us):xs.length=us.length:=xV r
theorem cf.get:∀{xs:List V}{us:List f_}{i:Nat}{x:V},cf xs us->xs[i]?=a_ x->∃u,us[i]?=a_ u/\RelV x u
 |_,_,_,_,.nil,e=>by simp at e
 |_,_,0,_,.cons r _,e=>by simp_all
 | _,_,i+1,x,.cons _ t,e=>by
   obtain⟨u,h1,h2⟩:=cf.get t (by simpa using e)
   simp_all
theorem cf.set{x:V}{u:f_}(r:RelV x u):∀{xs:List V}{us:List f_} (i:Nat),cf xs us->cf (xs.set i x) (us.set i u)
 |_,_,_,.nil=>.nil
 |_,_,0,.cons _ t=>.cons r t
 |_,_,i+1,.cons q t=>.cons q (cf.set r i t)
theorem cf.append:∀{xs ys:List V}{us ws:List f_},cf xs us->cf ys ws->cf (xs++ys) (us++ws)
 |_,_,_,_,.nil,s=>s
 |_,_,_,_,.cons r t,s=>.cons r (cf.append t s)
theorem cf.take:∀{xs:List V}{us:List f_} (n:Nat),cf xs us->cf (xs.take n) (us.take n)
 |_,_,0,_=>.nil
 |_,_,_+1,.nil=>.nil
 |_,_,n+1,.cons r t=>.cons r (cf.take n t)
theorem cf.drop:∀{xs:List V}{us:List f_} (n:Nat),cf xs us->cf (xs.drop n) (us.drop n)
 |_,_,0,r=>r
 |_,_,_+1,.nil=>.nil
 |_,_,n+1,.cons _ t=>cf.drop n t
def qU:Option V->Option f_->Prop
 |some v,a_ u=>RelV v u
 |none,b_=>True
 |_,_=>False
def KV{κ:Type}:List (κ×V)->List (κ×f_)->Prop:=Paired λ(p:κ×V) (q:κ×f_)=>p.1=q.1/\RelV p.2 q.2
def kV:Key->V
 |.inl i=>.int i
 |.inr x=>.str x
inductive HO where
 |lst (xs:List V)
 |tup (xs:List V)
 |dK (kvs:List (Key×V)) |dT (kvs:List (List Key×V))
 |set (S:Int->Bool) (n:Nat)
 |ins (C dx:e_) (fs:List (Str×V))
 |own (x:e_)
 |xd (fs:List (Str×V))
 |met (f x:e_)
 |rng (lo hi:Int)
 |frz (o:Obj) (u:HO)
 |tbl (ps:Array f_)
 |ext (φ:Heap->Prop)
abbrev Hp:=e_->Option HO
def upd(H:Hp)(a:e_)(o:HO):Hp:=λb=>if b=a then a_ o else H b
variable{H:Hp}{a:e_}{o:HO}
theorem cx:upd H a o a=a_ o:=by unfold upd;rw[if_pos rfl]
variable{b:e_}
theorem bc(h:b≠a):upd H a o b=H b:=by unfold upd;rw[if_neg h]
theorem pO{u:HO}(h:H a=a_ o)(h':H b=a_ u)(d:o≠u):a≠b:=by
 grind
theorem bg(h:H a=a_ o)(h':H b=b_):a≠b:=by
 grind
section
variable (P:Program) (w:World)
def fO(H:Hp)(h:Heap)(a:e_):HO->Prop
 |.lst xs=>xs.length<=sizeLine /\ ∃ (ZX:List f_) (n:Nat),cf xs ZX/\h.get? a=a_ { cls := .type "list",data := .seq ZX.toArray n }
 |.tup xs=>xs.length<=sizeLine /\ ∃ZX:List f_,cf xs ZX/\IsTup h a ZX.toArray /\ ∃o,h.get? a=a_ o/\o.dict=b_
 |.dK kvs=>kvs.length<=sizeLine/\(a==sysModules)=d_ /\ ∃vs,KV kvs vs/\h.DictOf (eV P w) a vs
 | .dT kvs=>kvs.length<=sizeLine/\(a==sysModules)=d_ /\ ∃xs:List (List Key×e_×f_),
   Paired (λ(p:List Key×V) (q:List Key×e_×f_)=>p.1=q.1/\H q.2.1=a_ (.tup (p.1.map kV))/\RelV p.2 q.2.2) kvs xs /\
   ∃o es ep,h.get? a=a_ o/\o.ExactDict/\o.data=.dict es ep/\es.toList=xs.map (entryOfKey (tupleKind (eV P w)))/\(xs.map (·.1)).Nodup
 |.set S n=>h.SetOf (intKind P w) a S n
 | .ins C dx fs=>H dx=a_ (.own a)/\fs.length<=1000/\dx≠a/\h.get? a=a_ (sU C dx) /\
   ∃mA,h.Ns1 dx mA/\(∀f,qU (fs.lookup f) (mA f))/\PySem.Within mA (fs.map (·.1))
 |.own _=>∃o,h.get? a=a_ o
 |.xd fs=>∃mA,h.Ns1 a mA /\ ∀f,qU (fs.lookup f) (mA f)
 |.rng lo hi=>∃ t u v,h.get? a=a_ { cls := .type "range",data := .fields #[.int lo t,.int hi u,.int 1 v] }
 |.frz o u=>h.get? a=a_ o/\fO H h a u
 |.tbl ps=>h.get? a=a_ { cls:= .none,data:= .fields ps }
 |.met f x=>h.get? a=a_ (PySem.W.methodObj (.ref f) (.ref x))
 |.ext φ=>φ h/\(∃o,h.get? a=a_ o) /\ ∀h1 h2:Heap,φ h1->(∀o,h1.get? a=a_ o->h2.get? a=a_ o)->φ h2
def HOk(H:Hp)(h:Heap):Prop:= ∀a o,H a=a_ o->fO P w H h a o
end
section
variable {P:Program}{w:World}{H H':Hp}{h h':Heap}{a:e_}{o:HO}
theorem fO.lt(x:fO P w H h a o):a<h.objs.size:=by
 cases o with
 |lst xs=>obtain⟨_,_,_,_,e⟩:=x;exact aF e
 |tup xs=>obtain⟨_,_,_,p⟩:=x;exact p.1.lt
 |dK kvs=>obtain⟨_,_,_,_,o,_,_,e,_⟩:=x;exact aF e
 |dT kvs=>obtain⟨_,_,_,_,o,_,_,e,_⟩:=x;exact aF e
 |set S n=>obtain⟨o,_,_,_,e,_⟩:=x;exact aF e
 |ins C dx fs=>obtain⟨_,_,_,e,_⟩:=x;exact aF e
 |own y=>obtain⟨_,e⟩:=x;exact aF e
 |xd fs=>obtain⟨_,⟨_,_,_,e,_⟩,_⟩:=x;exact aF e
 |rng lo hi=>obtain⟨_,_,_,e⟩:=x;exact aF e
 |frz ob u=>obtain⟨e,_⟩:=x;exact aF e
 |tbl ps=>exact aF (x)
 |met f y=>exact aF (x)
 |ext φ=>obtain⟨_,⟨_,e⟩,_⟩:=x;exact aF e
theorem Paired.mapP{α β:Type}{F t0:α->β->Prop}:∀{Xh:List α}{Xf:List β},Paired F Xh Xf->(∀a b,F a b->t0 a b)->Paired t0 Xh Xf:=by
 intro l m h f
 induction h with
 |nil=>exact .nil
 |cons r t ih=>exact .cons (f _ _ r) ih
theorem fO.stay(x:fO P w H h a o)(k:∀b u,(b=a\/H b=a_ (.own a))->h.get? b=a_ u->h'.get? b=a_ u)
  (ho:∀b,H b=a_ (.own a)->H' b=a_ (.own a)) (ht:∀b xs,H b=a_ (.tup xs)->H' b=a_ (.tup xs)):fO P w H' h' a o:=by
 induction o with
 |lst xs=>obtain⟨z,ZX,n,r,e⟩:=x;exact⟨z,_,n,r,k _ _ (.inl rfl) e⟩
 |tup xs=>obtain⟨z,ZX,r,⟨ob,e,c⟩,o2,e2,c2⟩:=x;exact⟨z,_,r,⟨ob,k _ _ (.inl rfl) e,c⟩,o2,k _ _ (.inl rfl) e2,c2⟩
 |dK kvs=>obtain⟨z,y,vs,r,ob,es,ep,e,c⟩:=x;exact⟨z,y,vs,r,ob,es,ep,k _ _ (.inl rfl) e,c⟩
 | dT kvs=>
   obtain⟨z,y,xs,r,ob,es,ep,e,c⟩:=x;exact⟨z,y,xs,Paired.mapP r λp q z=>⟨z.1,ht _ _ z.2.1,z.2.2⟩,ob,es,ep,k _ _ (.inl rfl) e,c⟩
 |set S n=>obtain⟨ob,es,ep,t,e,c⟩:=x;exact⟨ob,es,ep,t,k _ _ (.inl rfl) e,c⟩
 | ins C dx fs=>
   obtain⟨d,z,ne,e,mA,⟨od,es,ep,e2,c⟩,r⟩:=x;exact⟨ho _ d,z,ne,k _ _ (.inl rfl) e,mA,⟨od,es,ep,k _ _ (.inr d) e2,c⟩,r⟩
 |own y=>obtain⟨ob,e⟩:=x;exact⟨ob,k _ _ (.inl rfl) e⟩
 |xd fs=>obtain⟨mA,⟨od,es,ep,e,c⟩,r⟩:=x;exact⟨mA,⟨od,es,ep,k _ _ (.inl rfl) e,c⟩,r⟩
 |rng lo hi=>obtain⟨t,u,v,e⟩:=x;exact⟨t,u,v,k _ _ (.inl rfl) e⟩
 |frz ob u ih=>obtain⟨e,q⟩:=x;exact⟨k _ _ (.inl rfl) e,ih q⟩
 | tbl ps=>
   have e:=x;exact k a _ (.inl rfl) e
 | met f y=>
   have e:=x;exact k a _ (.inl rfl) e
 |ext φ=>obtain⟨p,⟨o,e⟩,st⟩:=x;exact⟨st _ _ p λo q=>k _ _ (.inl rfl) q,⟨o,k _ _ (.inl rfl) e⟩,st⟩
theorem HOk.lt(x:HOk P w H h)(e:H a=a_ o):a<h.objs.size:=(x a o e).lt
theorem HOk.fresh(x:HOk P w H h)(e:h.objs.size<=a):H a=b_:=by
 cases q:H a with
 |none=>rfl
 |some u=>exact absurd (ax (x.lt q) e) (bT _)
theorem HOk.kept(x:HOk P w H h)(k:∀b u,h.get? b=a_ u->h'.get? b=a_ u):HOk P w H h':=λa o e=>
 (x a o e).stay (λb u _ q=>k b u q) (λ_ q=>q) λ_ _ q=>q
theorem HOk.laid(x:HOk P w H h)(k:∀b u,h.get? b=a_ u->h'.get? b=a_ u)(hp:h.objs.size<=a)(new:fO P w (upd H a o) h' a o):HOk P w (upd H a o) h':=λb u e=>by
 have hn:=x.fresh hp;by_cases hb:b=a
 .subst hb;rw[cx]at e;grind
 .rw[bc hb]at e
  exact(x b u e).stay (λc v _ q=>k c v q) (λc q=>by rw[bc (bg q hn)];omega) λc xs q=>by rw[bc (bg q hn)];omega
end
def Rd(H:Hp)(a:e_)(u:HO):Prop:=H a=a_ u \/ ∃o,H a=a_ (.frz o u)
variable{P:Program}{w:World}{h:Heap}
theorem Rd.ok{u:HO}(r:Rd H a u)(x:HOk P w H h):fO P w H h a u:=by
 rcases r with r|⟨o,r⟩
 .exact x a u r
 .obtain⟨_,q⟩:=x a _ r
  omega
def Mut:Option HO->Prop
 |some (.lst _)=>True
 |some (.dK _)=>True
 |some (.dT _)=>True
 |some (.set _ _)=>True
 |some (.ins _ _ _)=>True
 |some (.ext _)=>True
 |_=>False
section
variable {P:Program}{w:World}{H:Hp}{h h':Heap}{x e:e_}{o':HO}
theorem HOk.write(ok:HOk P w H h)(mu:Mut (H x))(he:e=x\/H e=a_ (.own x))(k:∀b u,b≠e->h.get? b=a_ u->h'.get? b=a_ u)(W':∃u,h'.get? e=a_ u)
  (new:fO P w (upd H x o') h' x o'):HOk P w (upd H x o') h':=λb u q=>by
 have nown:∀c y,H c=a_ (.own y)->c≠x:=λc y r z=>by subst z;rw[r]at mu;exact mu
 by_cases hb:b=x
 .subst hb;rw[cx]at q;grind
 .rw[bc hb]at q
  by_cases RE:b=e
  .have q':H b=a_ (.own x):=by
    grind
   rw[q]at q';cases q';obtain⟨v,hv⟩:=W';exact⟨v,by rw[RE];omega⟩
  .refine(ok b u q).stay (λc v hc r=>k c v ?_ r) (λc r=>by rw[bc (nown c b r)];omega) λc xs r=>by rw[bc ((λc xs r z=>by subst z;rw[r]at mu;exact mu) c xs r)];omega
   grind
end
structure Un(fs ex:List e_)(H H':Hp)(h h':Heap):Prop where
 keep:∀b o,h.get? b=a_ o->H b=b_->b∉fs->b∉ex->h'.get? b=a_ o
 slot:∀b o,h.get? b=a_ o->H b=b_->b∈fs->b∉ex->∃sl,h'.get? b=a_ { o with slots:=sl }
 free:∀b o,h.get? b=a_ o->H b=b_->b∉ex->H' b=b_
 there:∀b o,h.get? b=a_ o->b∉ex->∃o',h'.get? b=a_ o'
 tups:∀b xs,H b=a_ (.tup xs)->H' b=a_ (.tup xs)
 frzs:∀b o u,H b=a_ (.frz o u)->H' b=a_ (.frz o u)
 tbls:∀b ps,H b=a_ (.tbl ps)->∃more,H' b=a_ (.tbl (ps++more))
section
variable {fs RL ex ex':List e_}{H H1 H2:Hp}{h h1 h2 h':Heap}{a x e:e_}{o:HO}
theorem Un.any(u:Un fs ex H H1 h h1){ob:Obj}(q:h.get? b=a_ ob)(n:H b=b_)(hx:b∉ex):∃sl,h1.get? b=a_ { ob with slots:=sl }:=by
 by_cases hb:b∈fs
 .exact u.slot b ob q n hb hx
 .exact⟨_,u.keep b ob q n hb hx⟩
theorem Un.kept(k:∀b u,h.get? b=a_ u->h'.get? b=a_ u):Un fs ex H H h h':=
 ⟨λb ob q _ _ _=>k b ob q,λb ob q _ _ _=>⟨_,k b ob q⟩,λ_ _ _ n _=>n,λb ob q _=>⟨ob,k b ob q⟩,λ_ _ q=>q,λ_ _ _ q=>q,λ_ ps q=>⟨#[],by rw[q];simp⟩⟩
theorem Un.refl:Un fs ex H H h h:=Un.kept λ_ _ q=>q
theorem Un.laid(k:∀b u,h.get? b=a_ u->h'.get? b=a_ u)(hp:h.objs.size<=a)(hn:H a=b_):Un fs ex H (upd H a o) h h' where
 keep:=λb u q _ _ _=>k b u q
 slot:=λb u q _ _ _=>⟨_,k b u q⟩
 free:=λb u q n _=>by rw[bc (bx (ax (aF q) hp))];omega
 there:=λb u q _=>⟨u,k b u q⟩
 tups:=λb xs q=>by rw[bc (bg q hn)];omega
 frzs:=λb u xs q=>by rw[bc (bg q hn)];omega
 tbls:=λb ps q=>⟨#[],by rw[bc (bg q hn),q];simp⟩
theorem Un.write(mu:Mut (H x))(he:e=x\/H e=a_ (.own x))(k:∀b u,b≠e->h.get? b=a_ u->h'.get? b=a_ u)(W':∃u,h'.get? e=a_ u):Un fs ex H (upd H x o) h h':=by
 have hx:∀b,H b=b_->b≠x:=λb n z=>by subst z;rw[n]at mu;exact mu
 have hb:∀b,H b=b_->b≠e:=λb n z=>by
  grind
 have hm:∀b u,H b=a_ u->¬Mut (a_ u)->b≠x:=λb u q nm z=>by grind
 refine⟨λb u q n _ _=>k b u (hb b n) q,λb u q n _ _=>⟨_,k b u (hb b n) q⟩,λb u q n _=>by rw[bc (hx b n)];omega,λb u q _ =>?_,
  λb xs q=>by rw[bc (hm b _ q λz=>z)];omega,λb u xs q=>by rw[bc (hm b _ q λz=>z)];omega,λb ps q=>⟨#[],by rw[bc (hm b _ q λz=>z),q];simp⟩⟩
 grind
end
def trk(h:Heap)(H:Hp):List e_:=(av h.objs.size).filter λa=>(H a).isSome
def wt(h:Heap)(H:Hp):Heap:=ek h (trk h H)
theorem pE(h:Heap)(H:Hp):(wt h H).objs.size=h.objs.size:=nC _ _
variable{o:Obj}
theorem oh(e:h.get? b=a_ o)(n:H b=b_):(wt h H).get? b=a_ o:=
 dG _ e λhm=>by
  have q:=(vD.mp hm).2
  grind
theorem Al(e:(wt h H).get? b=a_ o):h.get? b=a_ o/\H b=b_:=by
 have e':=gX _ e;refine⟨e',?_⟩;cases q:H b with
 |none=>rfl
 | some x=>
   have z:(wt h H).get? b=b_:=eo _ (vD.mpr ⟨cj.mpr (aF e'),by simp[q]⟩)
   grind
def GC(g h:Heap)(L:e_):List (e_×Obj):=(av h.objs.size).filterMap λa=>if a=L\/(g.get? a).isSome=c_ then b_ else(h.get? a).map λo=>(a,o)
def rest(g h:Heap)(L d:e_):List (e_×Obj):=(GC g h L).filter λp=>decide (p.1≠d)
structure Mod(K:ai)(mg:Str->Option f_)(base:Heap):Prop where
 kin:K.In base
 glob:base.Ns mainGlobals mg
 blt :∃ mb,base.Ns builtinsNs mb /\ ∀ x:Str,x≠"__name__"->mb x=bootBuiltins x
 nolimit:base.NoLimit
set_option genInjectivity false in
structure Cx where
 prog:Program
 w:World
 K:ai
 mg:Str->Option f_
 base:Heap
 A:Around
 N:List Str
 s₀:g_
 H₀:Hp
 env:Env
 outer:List Env
 stack:List Env
 ex:List e_
 fn:Str->Bool
 calm:Bool
 pn:List (e_×Obj)
 xe:f_->g_->Prop
def frs(l:List Env):List e_:=l.filterMap (·.frame)
abbrev Cx.fs(X:Cx):List e_:=frs X.outer
def Vis(sc:Scope)(x:Str):Prop:=sc.names.lookup x=a_ .local\/sc.names.lookup x=a_ .cell\/sc.names.lookup x=a_ .free
def Loc(sc:Scope)(x:Str):Prop:=sc.names.lookup x=a_ .local\/sc.names.lookup x=a_ .cell
def Look(env:Env)(h:Heap)(m:Str->Option f_)(x:Str)(u:f_):Prop:=
 (env.kindOf x=a_ .local/\m x=a_ u)\/((env.kindOf x=a_ .cell\/env.kindOf x=a_ .free) /\ ∃c,env.cells.lookup x=a_ c/\h.IsCell c (a_ u))
structure Cx.Ok(X:Cx):Prop where
 mod:Mod X.K X.mg X.base
 kind:X.env.scope.kind=.function
 glob:X.env.globals=mainGlobals
 blt:X.env.builtins=builtinsNs
 above:X.s₀.heap.objs.size<=X.env.locals
 inj:∀x y c,X.env.cells.lookup x=a_ c->X.env.cells.lookup y=a_ c->x=y
 has:∀x,(X.env.kindOf x=a_ .cell\/X.env.kindOf x=a_ .free)->∃c,X.env.cells.lookup x=a_ c
 cab:∀x c,X.fn x=c_->X.env.cells.lookup x=a_ c->X.s₀.heap.objs.size<=c
 hd:X.calm=c_->X.A.handled=b_
 frames:X.A.frames=a_ X.stack
 stk:X.stack=X.outer\/(X.stack=X.env::X.outer/\X.env.frame=a_ X.env.locals)
 exf:∀b∈X.ex,b≠X.env.locals /\ ∀x c,X.env.cells.lookup x=a_ c->c≠b
 bs:∀b o,X.base.get? b=a_ o->X.s₀.heap.get? b=a_ o/\X.H₀ b=b_
 bsz:X.base.objs.size<=X.s₀.heap.objs.size
 noex:∀b o,X.base.get? b=a_ o->b∉X.ex
 exfs:∀b∈X.ex,b∉X.fs
 funs:X.s₀.heap.FunFrames X.base X.outer
 frf:∀b∈X.fs,X.H₀ b=b_
structure Inv(X:Cx)(pins:List (e_×Obj))(G:List (Option V))(H:Hp)(s:g_):Prop where
 ok:X.Ok
 os:s.os=X.s₀.os
 bare:AllBare s.gens
 base:Un X.fs X.ex X.H₀ H X.s₀.heap s.heap
 loc:∃m,s.heap.Ns X.env.locals m /\ ∀(i:Nat) (x:Str) (v:V),X.N[i]?=a_ x->G[i]?=a_ (a_ v)->Vis X.env.scope x->∃u,RelV v u/\Look X.env s.heap m x u
 cell:∀x c,X.env.cells.lookup x=a_ c->∃v,s.heap.IsCell c v
 free:H X.env.locals=b_
 freeC:∀x c,X.env.cells.lookup x=a_ c->H c=b_
 pin:∀p∈X.pn++pins,s.heap.get? p.1=a_ p.2/\H p.1=b_/\p.1≠X.env.locals/\p.1∉X.fs /\ ∀v,p.2.data≠.cell v
 hok:HOk X.prog X.w H s.heap
 len:G.length=X.N.length
section
variable {X:Cx}{pins:List (e_×Obj)}{G:List (Option V)}{H H':Hp}{s:g_}{h':Heap}
theorem Cx.Ok.nofr(ok:X.Ok)(e:X.base.get? b=a_ o):b∉X.fs:=λhb=>by
 have:=(ok.funs.mem hb).1
 grind
theorem Inv.bs(I:Inv X pins G H s):∀b o,X.base.get? b=a_ o->s.heap.get? b=a_ o/\H b=b_:=λb o e=>
 ⟨I.base.keep b o (I.ok.bs b o e).1 (I.ok.bs b o e).2 (I.ok.nofr e) (I.ok.noex b o e),I.base.free b o (I.ok.bs b o e).1 (I.ok.bs b o e).2 (I.ok.noex b o e)⟩
theorem Inv.bk(I:Inv X pins G H s):∀b o,X.base.get? b=a_ o->s.heap.get? b=a_ o:=λb o e=>(I.bs b o e).1
theorem Inv.mod(I:Inv X pins G H s):Mod X.K X.mg X.base:=I.ok.mod
theorem Inv.kIn(I:Inv X pins G H s):X.K.In s.heap:=I.ok.mod.kin.keeps I.bk
theorem Inv.lt(I:Inv X pins G H s):X.env.locals<s.heap.objs.size:=let ⟨_,hn,_⟩:=I.loc;hn.lt
theorem Inv.sz(I:Inv X pins G H s):X.s₀.heap.objs.size<=s.heap.objs.size:=aA I.ok.above (br I.lt)
theorem Inv.nofs(I:Inv X pins G H s)(h:s.heap.objs.size<=a):a∉X.fs:=λhb=>by
 obtain⟨_,o,ho,_⟩:=I.ok.funs.mem hb;exact absurd (ax (aF ho) (aA I.sz h)) (bT _)
theorem Inv.cne(I:Inv X pins G H s):∀x c,X.env.cells.lookup x=a_ c->c≠X.env.locals:=λx c e z=>by
 obtain⟨v,o,ho,hd⟩:=I.cell x c e;obtain⟨m,⟨o',es,ep,Zr,Zc,_⟩,_⟩:=I.loc
 grind
theorem Inv.funs(I:Inv X pins G H s):s.heap.FunFrames X.base X.outer:=by
 have all:∀(l:List _),(∀b∈frs l,b∈X.fs)->X.s₀.heap.FunFrames X.base l->s.heap.FunFrames X.base l:=by
  intro l
  induction l with
  |nil=>intro _ _;trivial
  | cons env r ih=>
    intro hs hl;obtain⟨hk,⟨L,o,hf,hn,ho,hd⟩,hr⟩:=hl;have hL:=hs L (by unfold frs;simp_all);obtain⟨sl,e⟩:=I.base.slot L o ho (I.ok.frf L hL) hL λz=>I.ok.exfs L z hL;exact⟨hk,⟨L,_,hf,hn,e,hd⟩,ih (λb hb=>hs b (by unfold frs;rw[dN,hf];exact az _ hb)) hr⟩
 exact all _ (λ_ hb=>hb) I.ok.funs
theorem Inv.stack(I:Inv X pins G H s):s.heap.FunFrames X.base X.stack:=by
 rcases I.ok.stk with e|⟨e,hf⟩
 .rw[e];exact I.funs
 .rw[e]
  obtain⟨m,hn,_⟩:=I.loc;exact .cons (by rw[I.ok.kind];decide) hf hn (Heap.get?_none_of_le (aA I.ok.bsz I.ok.above)) I.funs
theorem Inv.stkSub(I:Inv X pins G H s):∀b∈frs X.stack,b∈X.env.locals::X.fs:=λb hb=>by
 rcases I.ok.stk with e|⟨e,hf⟩
 .grind
 .rw[e]at hb
  unfold frs at hb;rw[dN,hf]at hb;exact hb
theorem Inv.stkFree(I:Inv X pins G H s):∀b∈frs X.stack,H b=b_:=λb hb=>by
 rcases bf.mp (I.stkSub b hb) with e|hb
 .rw[e];exact I.free
 .obtain⟨_,o,ho,_⟩:=I.ok.funs.mem hb
  exact I.base.free b o ho (I.ok.frf b hb) λz=>I.ok.exfs b z hb
variable{g':Array GenState}{t':Nat}{d':Drawn}
theorem Inv.step{ch:List e_}(I:Inv X pins G H s)
  (Yz:∀b∈ch,(b∈X.ex\/X.s₀.heap.objs.size<=b)/\b≠X.env.locals/\(∀x c,X.env.cells.lookup x=a_ c->c≠b) /\ ∀p∈X.pn++pins,p.1≠b)
  (keep:∀b o,b≠X.env.locals->b∉X.fs->b∉ch->s.heap.get? b=a_ o->H b=b_->h'.get? b=a_ o)
  (slot:∀b o,b≠X.env.locals->b∈X.fs->b∉ch->s.heap.get? b=a_ o->H b=b_->∃sl,h'.get? b=a_ { o with slots:=sl }) (free:∀b o,b∉ch->s.heap.get? b=a_ o->H b=b_->H' b=b_)
  (there:∀b o,b∉ch->s.heap.get? b=a_ o->∃o',h'.get? b=a_ o')
  (tups:∀b xs,H b=a_ (.tup xs)->H' b=a_ (.tup xs)) (frzs:∀b o u,H b=a_ (.frz o u)->H' b=a_ (.frz o u)) (tbls:∀b ps,H b=a_ (.tbl ps)->∃more,H' b=a_ (.tbl (ps++more)))
  (ns:∀m,s.heap.Ns X.env.locals m->h'.Ns X.env.locals m) (hok:HOk X.prog X.w H' h') (hg:AllBare g'):
  Inv X pins G H' { s with heap:=h',gens:=g',drawn:=d',toks:=t' }:=by
 have neL:∀b o,X.s₀.heap.get? b=a_ o->b≠X.env.locals:=λb o e=>bx (ax (aF e) I.ok.above);have neC:∀b o,X.s₀.heap.get? b=a_ o->b∉X.ex->b∉ch:=λb o e hx hb=>by
  rcases (Yz b hb).1 with z|z
  .exact hx z
  .exact absurd (ax (aF e) z) (bT _)
 have cellK:∀x c,X.env.cells.lookup x=a_ c->∀v,s.heap.IsCell c v->h'.IsCell c v:=λx c e v ⟨o,ho,hd⟩=>by
  have Xd:=λz=>(Yz c z).2.2.1 x c e rfl;by_cases hc:c∈X.fs
  .obtain⟨sl,q⟩:=slot c o (I.cne x c e) hc Xd ho (I.freeC x c e)
   exact⟨_,q,hd⟩
  .exact⟨o,keep c o (I.cne x c e) hc Xd ho (I.freeC x c e),hd⟩
 refine⟨I.ok,I.os,hg,⟨λb o e n hb hx=>?_,λb o e n hb hx=>?_,λb o e n hx=>?_,λb o e hx=>?_,λb xs e=>tups b xs (I.base.tups b xs e),λb o xs e=>frzs b o xs (I.base.frzs b o xs e),λb ps e=>?_⟩,?_,λx c e=>?_,?_,λx c e=>?_,λp hp=>?_,hok,I.len⟩
 .exact keep b o (neL b o e) hb (neC b o e hx) (I.base.keep b o e n hb hx) (I.base.free b o e n hx)
 .obtain⟨sl,e1⟩:=I.base.slot b o e n hb hx
  obtain⟨Yw,e2⟩:=slot b _ (neL b o e) hb (neC b o e hx) e1 (I.base.free b o e n hx);exact⟨_,e2⟩
 .obtain⟨o',e1⟩:=I.base.there b o e hx
  exact free b o' (neC b o e hx) e1 (I.base.free b o e n hx)
 .obtain⟨o',e1⟩:=I.base.there b o e hx
  exact there b o' (neC b o e hx) e1
 .obtain⟨m1,e1⟩:=I.base.tbls b ps e
  grind
 .obtain⟨m,hn,hl⟩:=I.loc
  refine⟨m,ns m hn,λi x v e1 e2 e3=>?_⟩;obtain⟨u,r,l⟩:=hl i x v e1 e2 e3;refine⟨u,r,?_⟩;rcases l with l | ⟨k,c,e,z⟩
  .exact .inl l
  .exact .inr ⟨k,c,e,cellK x c e _ z⟩
 .obtain⟨v,z⟩:=I.cell x c e
  exact⟨v,cellK x c e v z⟩
 .obtain⟨m,⟨o,_,_,ho,_⟩,_⟩:=I.loc
  exact free _ o (λz=>(Yz _ z).2.1 rfl) ho I.free
 .obtain⟨v,o,ho,hd⟩:=I.cell x c e
  exact free c o (λz=>(Yz c z).2.2.1 x c e rfl) ho (I.freeC x c e)
 .obtain⟨e,n,ne,nf,d⟩:=I.pin p hp
  have Xd:=λz=>(Yz _ z).2.2.2 p hp rfl;exact⟨keep _ _ ne nf Xd e n,free _ _ Xd e n,ne,nf,d⟩
theorem Inv.un(I:Inv X pins G H s)(u:Un X.fs [] H H' s.heap h')(hok:HOk X.prog X.w H' h'):Inv X pins G H' { s with heap:=h',toks:=t' }:=by
 obtain⟨m,⟨o,es,ep,ho,r⟩,_⟩:=id I.loc;obtain⟨sl,hL⟩:=u.any ho I.free (by simp)
 exact I.step (ch:= []) (λ_ z=>nomatch z) (λb o _ hb _ e n=>u.keep b o e n hb (by simp)) (λb o _ hb _ e n=>u.slot b o e n hb (by simp)) (λb o _ e n=>u.free b o e n (by simp)) (λb o _ e=>u.there b o e (by simp)) u.tups u.frzs u.tbls (λm' hm=>by
  obtain⟨o',Ss,R9,Zr,r'⟩:=hm;rw[ho]at Zr;cases Zr
  exact⟨_,_,_,hL,r'⟩) hok I.bare
theorem Inv.call{ch:List e_}(I:Inv X pins G H s)(u:Un (frs X.stack) ch H H' s.heap h')(hok:HOk X.prog X.w H' h')(hg:AllBare g')
  (Yz:∀b∈ch,(b∈X.ex\/X.s₀.heap.objs.size<=b)/\b≠X.env.locals/\(∀x c,X.env.cells.lookup x=a_ c->c≠b) /\ ∀p∈X.pn++pins,p.1≠b):
  Inv X pins G H' { s with heap:=h',gens:=g',drawn:=d',toks:=t' }:=by
 obtain⟨m,⟨o,es,ep,ho,r⟩,_⟩:=id I.loc;obtain⟨sl,hL⟩:=u.any ho I.free λz=>(Yz _ z).2.1 rfl
 exact I.step Yz (λb o hL hb hc e n=>u.keep b o e n (λz=>(bf.mp (I.stkSub b z)).elim hL hb) hc) (λb o _ _ hc e n=>u.any e n hc) (λb o hc e n=>u.free b o e n hc) (λb o hc e=>u.there b o e hc) u.tups u.frzs u.tbls (λm' hm=>by
  obtain⟨o',Ss,R9,Zr,r'⟩:=hm;rw[ho]at Zr;cases Zr
  exact⟨_,_,_,hL,r'⟩) hok hg
theorem Inv.turned{it:e_}(I:Inv X pins G H s)(k:∀b o,b≠it->s.heap.get? b=a_ o->h'.get? b=a_ o)(hn:H it=b_)(hL:it≠X.env.locals)
  (h1:it∈X.ex\/X.s₀.heap.objs.size<=it) (h2:∀x c,X.env.cells.lookup x=a_ c->c≠it) (h3:∀p∈X.pn++pins,p.1≠it):Inv X pins G H { s with heap:=h',toks:=t' }:=by
 refine I.step (ch:= [it]) (λb hb=>?_) (λb o _ _ hc e _=>k b o (λz=>hc (by simp[z])) e) (λb o _ _ hc e _=>⟨_,k b o (λz=>hc (by simp[z])) e⟩) (λ_ _ _ _ n=>n)
  (λb o hc e=>⟨o,k b o (λz=>hc (by simp[z])) e⟩) (λ_ _ e=>e) (λ_ _ _ e=>e) (λb ps e=>⟨#[],by rw[e];simp⟩) (λm hm=>?_) (λb u e=>?_) I.bare
 .have e:=by simpa using hb
  subst e;exact⟨h1,hL,h2,h3⟩
 .obtain⟨o,es,ep,ho,r⟩:=hm
  exact⟨o,es,ep,k _ o (cY hL) ho,r⟩
 .refine(I.hok b u e).stay (λc v hc q=>k c v ?_ q) (λ_ q=>q) λ_ _ q=>q
  grind
theorem Inv.tok(I:Inv X pins G H s)(t:Nat):Inv X pins G H { s with toks:=t }:=I.un Un.refl I.hok
theorem Inv.kept{t':Nat}(I:Inv X pins G H s)(k:∀b u,s.heap.get? b=a_ u->h'.get? b=a_ u):Inv X pins G H { s with heap:=h',toks:=t' }:=I.un (Un.kept k) (I.hok.kept k)
theorem Inv.laid{a:e_}{o:HO}{t':Nat}(I:Inv X pins G H s)(k:∀b u,s.heap.get? b=a_ u->h'.get? b=a_ u)(hp:s.heap.objs.size<=a)(new:fO X.prog X.w (upd H a o) h' a o):
  Inv X pins G (upd H a o) { s with heap:=h',toks:=t' }:=I.un (Un.laid k hp (I.hok.fresh hp)) (I.hok.laid k hp new)
theorem Inv.write{x e:e_}{o:HO}{t':Nat}(I:Inv X pins G H s)(mu:Mut (H x))(he:e=x\/H e=a_ (.own x))(k:∀b u,b≠e->s.heap.get? b=a_ u->h'.get? b=a_ u)(W':∃u,h'.get? e=a_ u)
  (new:fO X.prog X.w (upd H x o) h' x o):Inv X pins G (upd H x o) { s with heap:=h',toks:=t' }:=I.un (Un.write mu he k W') (I.hok.write mu he k W' new)
theorem Inv.weak{Y1:List (Option V)}(I:Inv X pins G H s)(hl:Y1.length=G.length)(w:∀(i:Nat) v,Y1[i]?=a_ (a_ v)->G[i]?=a_ (a_ v)):Inv X pins Y1 H s:=
 ⟨I.ok,I.os,I.bare,I.base,let ⟨m,hn,Wo⟩:=I.loc;⟨m,hn,λi x v e1 e2 e3=>Wo i x v e1 (w i v e2) e3⟩,I.cell,I.free,I.freeC,I.pin,I.hok,hl.trans I.len⟩
theorem Inv.pins_of{pins':List (e_×Obj)}(I:Inv X pins G H s)(h:∀p∈pins',s.heap.get? p.1=a_ p.2/\H p.1=b_/\p.1≠X.env.locals/\p.1∉X.fs /\ ∀v,p.2.data≠.cell v):Inv X pins' G H s:=
 ⟨I.ok,I.os,I.bare,I.base,I.loc,I.cell,I.free,I.freeC,λp hp=>(fE.mp hp).elim (λz=>I.pin p (c7 _ z)) (h p),I.hok,I.len⟩
variable{i:Nat}{x:Str}
theorem rD{N:List Str}(hN:N.Nodup){j:Nat}(a:N[i]?=a_ x)(b:N[j]?=a_ x):i=j:=by
 obtain⟨h1,e1⟩:=ag.mp a;obtain⟨h2,e2⟩:=ag.mp b;exact(List.getElem_inj hN).mp (e1.trans e2.symm)
variable{M:Model}{A:Around}{E:f_->g_->Prop}{u:f_}{Q:Unit->g_->Prop}
theorem tZ{v:V}(I:Inv X pins G H s)(hN:X.N.Nodup)(hi:X.N[i]?=a_ x)(hx:Loc X.env.scope x)(r:RelV v u)
  (h:∀s',Inv X pins (G.set i (a_ v)) H s'->(∃a,Bw a s.heap s'.heap/\(a=X.env.locals\/X.env.cells.lookup x=a_ a))->Q () s') (hf:autoParam (X.fn x=c_\/X.env.scope.names.lookup x=a_ .local) au4._auto_1):aR M A (storeName X.env x u) Q E s:=by
 obtain⟨m,hn,hl⟩:=id I.loc;have X5:i<G.length:=by rw[I.len];exact(ag.mp hi).1
 have cne:=I.cne;have tracked:∀{a:e_}{h':Heap},(∃o,s.heap.get? a=a_ o/\H a=b_)->Bw a _ h'->HOk _ _ H h':=λ{a h'} ha hs b ob e=>by
  obtain⟨_,_,hfree⟩:=ha;refine(I.hok b ob e).stay (λc w' hc q=>(hs.2 c ?_).trans q) (λ_ q=>q) λ_ _ q=>q
  grind
 rcases hx with hk|hk
 .refine wpAny_storeName_local hk hn (λh' WK hs=>?_) (by rw[I.ok.kind];rfl)
  obtain⟨oL,_,_,R5,_⟩:=id hn;refine h _ ⟨I.ok,I.os,I.bare,⟨λb o e n hb hx=>?_,λb o e n hb hx=>?_,I.base.free,λb o e hx=>?_,I.base.tups,I.base.frzs,I.base.tbls⟩,⟨_,WK,λj y v' e1 e2 e3=>?_⟩,λy c e=>?_,I.free,I.freeC,λp hp=>?_,tracked ⟨oL,R5,I.free⟩ hs,by simpa using I.len⟩ ⟨_,hs,.inl rfl⟩
  .exact(hs.2 b (bx (ax (aF e) I.ok.above))).trans (I.base.keep b o e n hb hx)
  .obtain⟨sl,e1⟩:=I.base.slot b o e n hb hx
   exact⟨sl,(hs.2 b (bx (ax (aF e) I.ok.above))).trans e1⟩
  .obtain⟨o',e1⟩:=I.base.there b o e hx
   exact⟨o',(hs.2 b (bx (ax (aF e) I.ok.above))).trans e1⟩
  .by_cases hj:j=i
   .subst hj
    rw[hi]at e1;cases e1;rw[aN X5]at e2;cases e2;exact⟨u,r,.inl ⟨hk,by simp⟩⟩
   .rw[aD (cY hj)]at e2
    obtain⟨u',r',q⟩:=hl j y v' e1 e2 e3;refine⟨u',r',?_⟩;rcases q with⟨k,e⟩|⟨k,c,e,z⟩
    .refine .inl ⟨k,?_⟩
     have:y≠x:=λe=>hj (rD hN e1 (e▸hi))<;>simp_all
    .exact .inr ⟨k,c,e,z.sameBut hs (cne y c e)⟩
  .obtain⟨w',z⟩:=I.cell y c e
   exact⟨w',z.sameBut hs (cne y c e)⟩
  .obtain⟨e,n,ne,nf,d⟩:=I.pin p hp
   exact⟨(hs.2 _ ne).trans e,n,ne,nf,d⟩
 .have YN:X.fn x=c_:=by
   grind
  obtain⟨c,hc⟩:=I.ok.has x (.inl hk);obtain⟨w',z⟩:=I.cell x c hc;refine wpAny_storeName_cell I.ok.kind hk hc z (λh' YK hs=>?_);obtain⟨oc,Za,hocd⟩:=id z;refine h _ ⟨I.ok,I.os,I.bare,⟨λb o e n hb hx=>?_,λb o e n hb hx=>?_,I.base.free,λb o e hx=>?_,I.base.tups,I.base.frzs,I.base.tbls⟩,⟨m,hn.sameBut hs (cY (cne x c hc)),λj y v' e1 e2 e3=>?_⟩,λy c' e=>?_,I.free,I.freeC,λp hp=>?_,tracked ⟨oc,Za,I.freeC x c hc⟩ hs,by simpa using I.len⟩ ⟨c,hs,.inr hc⟩
  .exact(hs.2 b (bx (ax (aF e) (I.ok.cab x c YN hc)))).trans (I.base.keep b o e n hb hx)
  .obtain⟨sl,e1⟩:=I.base.slot b o e n hb hx
   exact⟨sl,(hs.2 b (bx (ax (aF e) (I.ok.cab x c YN hc)))).trans e1⟩
  .obtain⟨o',e1⟩:=I.base.there b o e hx
   exact⟨o',(hs.2 b (bx (ax (aF e) (I.ok.cab x c YN hc)))).trans e1⟩
  .by_cases hj:j=i
   .subst hj
    rw[hi]at e1;cases e1;rw[aN X5]at e2;cases e2;exact⟨u,r,.inr ⟨.inl hk,c,hc,YK⟩⟩
   .rw[aD (cY hj)]at e2
    obtain⟨u',r',q⟩:=hl j y v' e1 e2 e3;refine⟨u',r',?_⟩;rcases q with q|⟨k,c',e,z'⟩
    .exact .inl q
    .refine .inr ⟨k,c',e,z'.sameBut hs ?_⟩
     rintro rfl;exact hj (rD hN e1 (I.ok.inj _ _ _ e hc▸hi))
  .by_cases Wy:c'=c
   .subst Wy;exact⟨_,YK⟩
   .obtain⟨w2,z2⟩:=I.cell y c' e
    exact⟨w2,z2.sameBut hs Wy⟩
  .obtain⟨e,n,ne,nf,d⟩:=I.pin p hp
   refine⟨(hs.2 _ ?_).trans e,n,ne,nf,d⟩;intro q<;>simp_all
theorem nL{v:V}(I:Inv X pins G H s)(hN:X.N.Nodup)(hi:X.N[i]?=a_ x)(hx:Loc X.env.scope x)(r:RelV v u)
  (h:∀s',Inv X pins (G.set i (a_ v)) H s'->Q () s') (hf:autoParam (X.fn x=c_\/X.env.scope.names.lookup x=a_ .local) au4._auto_1):aR M A (storeName X.env x u) Q E s:=
 tZ I hN hi hx r (λs' I' _=>h s' I') hf
theorem Inv.call'{s':g_}{ch:List e_}(I:Inv X pins G H s)(ho:s'.os=s.os)(u:Un (frs X.stack) ch H H' s.heap s'.heap)(hok:HOk X.prog X.w H' s'.heap)(hg:AllBare s'.gens)
  (Yz:∀b∈ch,(b∈X.ex\/X.s₀.heap.objs.size<=b)/\b≠X.env.locals/\(∀x c,X.env.cells.lookup x=a_ c->c≠b) /\ ∀p∈X.pn++pins,p.1≠b):Inv X pins G H' s':=by
 obtain⟨h',g',d',t',o'⟩:=s';subst ho;exact I.call u hok hg Yz
end
abbrev XK:=f_->Option e_->Hp->Prop
abbrev St:=List (Option V)
abbrev VK:=V->Hp->Prop
abbrev TE:=St->Hp->VK->Prop
abbrev TT:=St->Hp->(Bool->Hp->Prop)->Prop
abbrev TA:=St->Hp->(List V->Hp->Prop)->Prop
structure Ends where
 nx:St->Hp->Prop
 rt:VK
 bk:St->Hp->Prop:=λ_ _=>False
 ct:St->Hp->Prop:=λ_ _=>False
abbrev TS:=Ends->St->Hp->Prop
def EP(X:Cx)(pins:List (e_×Obj))(G:St)(Q:VK)(u:f_)(s':g_):Prop:= ∃v H',Inv X pins G H' s'/\RelV v u/\Q v H'
def TP(X:Cx)(pins:List (e_×Obj))(G:St)(Q:Bool->Hp->Prop)(b:Bool)(s':g_):Prop:= ∃H',Inv X pins G H' s'/\Q b H'
def AP(X:Cx)(pins:List (e_×Obj))(G:St)(Q:List V->Hp->Prop)(us:List f_)(s':g_):Prop:= ∃vs H',Inv X pins G H' s'/\cf vs us/\Q vs H'
def SP(X:Cx)(pins:List (e_×Obj))(D:Ends)(f:Flow)(s':g_):Prop:=
 match f with
 |.next=>∃Y1 H',Inv X pins Y1 H' s'/\D.nx Y1 H'
 |.brk=>∃Y1 H',Inv X pins Y1 H' s'/\D.bk Y1 H'
 |.cont=>∃Y1 H',Inv X pins Y1 H' s'/\D.ct Y1 H'
 |.ret u=>∃v Y1 H',Inv X pins Y1 H' s'/\RelV v u/\D.rt v H'
def PE(X:Cx)(e:Expr)(t:TE):Prop:=
 ∀(pins:List (e_×Obj)) (s:g_) (G:St) (H:Hp) (Q:VK),Inv X pins G H s->t G H Q->aR (model X.prog X.w) X.A (eval e X.env) (EP X pins G Q) X.xe s
def PT(X:Cx)(e:Expr)(t:TT):Prop:=
 ∀(pins:List (e_×Obj)) (s:g_) (G:St) (H:Hp) (Q:Bool->Hp->Prop),Inv X pins G H s->t G H Q->aR (model X.prog X.w) X.A (isTrue e X.env (eval e X.env)) (TP X pins G Q) X.xe s
def PW(X:Cx)(e:Expr)(t:TT):Prop:=
 ∀(whole:Sem f_) (pins:List (e_×Obj)) (s:g_) (G:St) (H:Hp) (Q:Bool->Hp->Prop),Inv X pins G H s->t G H Q->aR (model X.prog X.w) X.A (isTrue e X.env whole) (TP X pins G Q) X.xe s
variable{X:Cx}{e:Expr}
theorem PW.pt{t:TT}(h:PW X e t):PT X e t:=h _
def PA(X:Cx)(es:List Expr)(t:TA):Prop:=
 ∀(pos:Pos) (pins:List (e_×Obj)) (s:g_) (G:St) (H:Hp) (Q:List V->Hp->Prop),Inv X pins G H s->t G H Q->aR (model X.prog X.w) X.A (spliced (backTo pos (starEach es X.env))) (AP X pins G Q) X.xe s
def PS(X:Cx)(st:Stmt)(t:TS):Prop:=
 ∀(pins:List (e_×Obj)) (s:g_) (G:St) (H:Hp) (D:Ends),Inv X pins G H s->t D G H->aR (model X.prog X.w) X.A (exec st X.env) (SP X pins D) X.xe s
def PSs(X:Cx)(st:List Stmt)(t:TS):Prop:=
 ∀(pins:List (e_×Obj)) (s:g_) (G:St) (H:Hp) (D:Ends),Inv X pins G H s->t D G H->aR (model X.prog X.w) X.A (execs st X.env) (SP X pins D) X.xe s
variable{M:Model}{A:Around}{E:f_->g_->Prop}
theorem thn{α:Type}{t:Sem α}{Q Q':α->g_->Prop}{s:g_}(h:aR M A t Q E s)(hQ:∀a s,Q a s->Q' a s):aR M A t Q' E s:=bV h hQ λ_ _ x=>x
section
variable {X:Cx}
def Eb(i:Nat):TE:=λG H Q=>∃v,G[i]?=a_ (a_ v)/\Q v H
def tC(v:V):TE:=λ_ H Q=>Q v H
variable{x:Str}
theorem lJ{i:Nat}{pos:Pos}(hN:X.N[i]?=a_ x)(hv:Vis X.env.scope x)(hd:autoParam ((x==("__debug__":Str))=d_) au2._auto_1)(ZH:autoParam ((x==("__classdict__":Str))=d_) au2._auto_1):PE X (.Name x pos) (Eb i):=by
 intro pins s G H Q I h;obtain⟨v,e,h⟩:=h;obtain⟨m,hn,hl⟩:=I.loc;obtain⟨u,r,l⟩:=hl i x v hN e hv;have fin:EP X _ G Q u s:=⟨v,H,I,r,h⟩;rcases l with⟨hk,hm⟩|⟨hk,c,hc,Zz⟩
 .exact wpAny_Name (wpAny_loadName_local I.ok.kind hk hn hm fin) hd
 .rcases hk with hk|hk
  .exact wpAny_Name (wpAny_loadName_cell I.ok.kind hk hc Zz fin) hd
  .exact wpAny_Name (wpAny_loadName_free I.ok.kind hk hc Zz fin ZH) hd
theorem B9{i j pos}:PE X (.Constant (.int i) j pos) (tC (.int i)):=λ_ _ _ H _ I h=>wpAny_Constant_int ⟨.int i,H,I.tok _,⟨_,rfl⟩,h⟩
theorem Nw{b j pos}:PE X (.Constant (.bool b) j pos) (tC (.bl b)):=λ_ _ _ H _ I h=>Constant_bool ⟨.bl b,H,I,rfl,h⟩
theorem JC{j pos}:PE X (.Constant .none j pos) (tC .non):=λ_ _ _ H _ I h=>Constant_none ⟨.non,H,I,rfl,h⟩
theorem Cy{x j pos}:PE X (.Constant (.str x) j pos) (tC (.str x)):=λ_ _ _ H _ I h=>fh ⟨.str x,H,I.tok _,⟨_,rfl⟩,h⟩
def Gl(X:Cx)(x:Str):Prop:=X.env.kindOf x=a_ .globalImplicit
variable{pins:List (e_×Obj)}{s:g_}{G:St}{u:f_}{Q:f_->g_->Prop}
theorem jC{pos:Pos}(I:Inv X pins G H s)(hg:Gl X x)(hm:X.mg x=a_ u)(h:Q u s)
  (hd:autoParam ((x==("__debug__":Str))=d_) au2._auto_1):aR (model X.prog X.w) X.A (eval (.Name x pos) X.env) Q E s:=
 xI I.ok.kind hg (Calls.loadGlobal_global (by rw[I.ok.glob];exact I.mod.glob.keeps I.bk) hm h) hd
theorem lK{pos:Pos}(I:Inv X pins G H s)(hg:Gl X x)(hm:X.mg x=b_)(hv:bootBuiltins x=a_ u)(h:Q u s)
  (hn:autoParam (x≠"__name__") au2._auto_1) (hd:autoParam ((x==("__debug__":Str))=d_) au2._auto_1):aR (model X.prog X.w) X.A (eval (.Name x pos) X.env) Q E s:=by
 obtain⟨mb,h1,h2⟩:=I.mod.blt;exact xI I.ok.kind hg (Calls.loadGlobal_builtin (by rw[I.ok.glob];exact I.mod.glob.keeps I.bk) hm (by rw[I.ok.blt];exact h1.keeps I.bk) ((h2 x hn).trans hv) h) hd
theorem EY{v:V}{pos:Pos}(hg:Gl X x)(hm:X.mg x=a_ u)(r:RelV v u)(hd:autoParam ((x==("__debug__":Str))=d_) au2._auto_1):PE X (.Name x pos) (tC v):=
 λ_ _ _ H _ I h=>jC I hg hm ⟨v,H,I,r,h⟩ hd
theorem EZ{v:V}{pos:Pos}(hg:Gl X x)(hm:X.mg x=b_)(hv:bootBuiltins x=a_ u)(r:RelV v u)(hn:autoParam (x≠"__name__") au2._auto_1)(hd:autoParam ((x==("__debug__":Str))=d_) au2._auto_1):PE X (.Name x pos) (tC v):=
 λ_ _ _ H _ I h=>lK I hg hm hv ⟨v,H,I,r,h⟩ hn hd
variable {a b:Expr}{ta tb:TE}{pos:Pos}
def tB(t:TE):TT:=λG H Q=>t G H λx H1=>∃c,x=.bl c/\Q c H1
theorem Il{t:TE}(h:PE X e t)(he:autoParam (∀whole,isTrue e X.env whole=(do let v <- whole;standAt e.pos;holding [v] (truthy v))) au3._auto_1):PT X e (tB t):=by
 intro pins s G H Q I hw;refine isTrue_plain (thn (h _ s G H _ I hw) λv s1 ⟨x,H1,I1,r1,q1⟩=>?_) (he _);obtain⟨d,rfl,q⟩:=q1;cases r1;exact cX ⟨H1,I1,q⟩
variable {tA WI:TT}{rest:List Expr}
def L6(t u:TT):TT:=λG H Q=>t G H λc H1=>if c=c_ then u G H1 Q else Q d_ H1
def tOr(t u:TT):TT:=λG H Q=>t G H λc H1=>if c=c_ then Q c_ H1 else u G H1 Q
def Lj(t:TT):TT:=λG H Q=>t G H λc H1=>Q (!c) H1
theorem Gd(ha:PT X a tA):PW X (.BoolOp .And [a] pos) tA:=by
 intro wh pins s G H Q I h;refine isTrue_and (thn (ha _ s G H Q I h) λc s1 e=>?_);cases c with
 |true=>exact isTrue_and_nil e
 |false=>exact e
theorem IK(ha:PT X a tA):PW X (.BoolOp .Or [a] pos) tA:=by
 intro wh pins s G H Q I h;refine isTrue_or (thn (ha _ s G H Q I h) λc s1 e=>?_);cases c with
 |false=>exact isTrue_or_nil e
 |true=>exact e
theorem Ij(ha:PT X a tA)(hb:PW X (.BoolOp .And (b::rest) pos) WI):PW X (.BoolOp .And (a::b::rest) pos) (L6 tA WI):=by
 intro wh pins s G H Q I h;refine isTrue_and (thn (ha _ s G H _ I h) λc s1 ⟨H1,I1,q1⟩=>?_);cases c with
 |true=>exact hb wh _ s1 G H1 Q I1 q1
 |false=>exact⟨H1,I1,q1⟩
theorem ML(ha:PT X a tA)(hb:PW X (.BoolOp .Or (b::rest) pos) WI):PW X (.BoolOp .Or (a::b::rest) pos) (tOr tA WI):=by
 intro wh pins s G H Q I h;refine isTrue_or (thn (ha _ s G H _ I h) λc s1 ⟨H1,I1,q1⟩=>?_);cases c with
 |true=>exact⟨H1,I1,q1⟩
 |false=>exact hb wh _ s1 G H1 Q I1 q1
theorem J5(ha:PT X a tA):PT X (.UnaryOp .Not a pos) (Lj tA):=λpins s G H Q I h=>isTrue_not (ha _ s G H _ I h)
def HI(ta tb:TE):TE:=λG H Q=>ta G H λx H1=>∃c,x=.bl c/\if c=c_ then tb G H1 Q else Q (.bl d_) H1
def Ln(ta tb:TE):TE:=λG H Q=>ta G H λx H1=>∃c,x=.bl c/\if c=c_ then Q (.bl c_) H1 else tb G H1 Q
def G5(ta:TE):TE:=λG H Q=>ta G H λx H1=>∃c,x=.bl c/\Q (.bl (!c)) H1
theorem HN{op}{t:TE}(h:PE X a t):PE X (.BoolOp op [a] pos) t:=λpins s G H Q I hw=>BoolOp_one (h _ s G H Q I hw)
theorem JR(ha:PE X a ta)(hb:PE X (.BoolOp .And (b::rest) pos) tb):PE X (.BoolOp .And (a::b::rest) pos) (HI ta tb):=by
 intro pins s G H Q I h;refine BoolOp_and (thn (ha _ s G H _ I h) λv s1 ⟨x,H1,I1,r1,q1⟩=>?_);obtain⟨c,rfl,q1⟩:=q1;cases r1;refine cX ?_;cases c with
 |true=>exact hb _ s1 G H1 Q I1 q1
 |false=>exact⟨.bl _,H1,I1,rfl,q1⟩
theorem MO(ha:PE X a ta)(hb:PE X (.BoolOp .Or (b::rest) pos) tb):PE X (.BoolOp .Or (a::b::rest) pos) (Ln ta tb):=by
 intro pins s G H Q I h;refine BoolOp_or (thn (ha _ s G H _ I h) λv s1 ⟨x,H1,I1,r1,q1⟩=>?_);obtain⟨c,rfl,q1⟩:=q1;cases r1;refine cX ?_;cases c with
 |false=>exact hb _ s1 G H1 Q I1 q1
 |true=>exact⟨.bl _,H1,I1,rfl,q1⟩
theorem Iy(ha:PE X a ta):PE X (.UnaryOp .Not a pos) (G5 ta):=by
 intro pins s G H Q I h;refine UnaryOp_ (thn (ha _ s G H _ I h) λv s1 ⟨x,H1,I1,r1,q1⟩=>?_);obtain⟨c,rfl,q1⟩:=q1;cases r1;exact not_of (cX ⟨.bl _,H1,I1,rfl,q1⟩)
def tIf(t:TT)(ta tb:TE):TE:=λG H Q=>t G H λc H1=>if c=c_ then ta G H1 Q else tb G H1 Q
theorem Eo{c:Expr}(hc:PT X c tA)(ha:PE X a ta)(hb:PE X b tb):PE X (.IfExp c a b pos) (tIf tA ta tb):=by
 intro pins s G H Q I h;refine wpAny_IfExp (thn (hc _ s G H _ I h) λd s1 ⟨H1,I1,q1⟩=>?_);cases d with
 |true=>exact ha _ s1 G H1 Q I1 q1
 |false=>exact hb _ s1 G H1 Q I1 q1
end
def SqL(K:ai)(H:Hp)(a:e_)(xs:List V):Prop:=
 Rd H a (.lst xs) \/
  ∃ (o:Obj) (ZX:Array f_) (n:Nat),K.lookup a=a_ o/\o.cls=.type "list"/\o.dict=b_/\o.data=.seq ZX n/\ZX.size<=sizeLine/\cf xs ZX.toList
def SqT(K:ai)(H:Hp)(a:e_)(xs:List V):Prop:=
 Rd H a (.tup xs) \/
  ∃ (o:Obj) (ZX:Array f_) (n:Nat),K.lookup a=a_ o/\o.cls=.type "tuple"/\o.data=.seq ZX n/\ZX.size<=sizeLine/\cf xs ZX.toList
def O8:f_->Option V
 |.none=>a_ .non
 |.bool b=>a_ (.bl b)
 |.int i _=>a_ (.int i)
 |.str x _=>a_ (.str x)
 |.bytes b _=>a_ (.byt b)
 |.float b _=>a_ (.flt b)
 |.ref a=>a_ (.ref a)
 |.type n=>a_ (.ty n)
 |_=>b_
variable{u:f_}{x:V}
theorem RelV.abs(r:RelV x u):O8 u=a_ x:=by
 cases x with
 |non=>cases r;rfl
 |bl _=>cases r;rfl
 |int _=>obtain⟨t,rfl⟩:=r;rfl
 |str _=>obtain⟨t,rfl⟩:=r;rfl
 |byt _=>obtain⟨t,rfl⟩:=r;rfl
 |flt _=>obtain⟨t,rfl⟩:=r;rfl
 |ref _=>cases r;rfl
 |ty _=>cases r;rfl
theorem RelV.inj{y:V}(r:RelV x u)(q:RelV y u):x=y:=dW (r.abs.symm.trans q.abs)
theorem cf.inj:∀{xs ys:List V}{us:List f_},cf xs us->cf ys us->xs=ys:=by
 intro xs ys us h
 induction h generalizing ys with
 |nil=>intro q;cases q;rfl
 |cons r t ih=>intro q;cases q with |cons r' t'=>rw[r.inj r',ih t']
section
variable {X:Cx}{pins:List (e_×Obj)}{G:St}{H:Hp}{s:g_}{a:e_}{xs ys:List V}
theorem SqL.of{K:ai}(h:H a=a_ (.lst xs)):SqL K H a xs:= .inl (.inl h)
theorem Inv.list(I:Inv X pins G H s)(h:SqL X.K H a xs):∃ZX:List f_,cf xs ZX/\PlainL s.heap a ZX.toArray/\xs.length<=sizeLine:=by
 rcases h with h|⟨o,ZX,n,hk,hc,hd,hs,hz,r⟩
 .obtain⟨z,ZX,n,r,e⟩:=h.ok I.hok
  exact⟨_,r,⟨_,n,e,rfl,rfl,rfl⟩,z⟩
 .refine⟨_,r,⟨o,n,I.kIn a o hk,hc,hd,by omega⟩,?_⟩
  have e:=r.length
  grind
theorem Inv.tuple(I:Inv X pins G H s)(h:SqT X.K H a xs):∃ZX:List f_,cf xs ZX/\IsTup s.heap a ZX.toArray/\xs.length<=sizeLine:=by
 rcases h with h|⟨o,ZX,n,hk,hc,hs,hz,r⟩
 .obtain⟨z,ZX,r,p⟩:=h.ok I.hok
  exact⟨_,r,p.1,z⟩
 .refine⟨_,r,⟨o,I.kIn a o hk,hc,n,by omega⟩,?_⟩
  have e:=r.length
  simp_all
theorem Inv.list_inj(I:Inv X pins G H s)(h:SqL X.K H a xs)(h':SqL X.K H a ys):xs=ys:=by
 obtain⟨ZX,r,⟨o,n,e,_,_,d⟩,_⟩:=I.list h;obtain⟨its',r',⟨o',n',e',_,_,d'⟩,_⟩:=I.list h';have:ZX=its':=by grind
 subst this;exact r.inj r'
theorem Inv.tuple_inj(I:Inv X pins G H s)(h:SqT X.K H a xs)(h':SqT X.K H a ys):xs=ys:=by
 obtain⟨ZX,r,⟨o,e,_,n,d⟩,_⟩:=I.tuple h;obtain⟨its',r',⟨o',e',_,n',d'⟩,_⟩:=I.tuple h';have:ZX=its':=by grind
 subst this;exact r.inj r'
end
abbrev Cx.wish(X:Cx)(E:f_->g_->Prop):Cx:={ X with xe:=E }
abbrev Cx.nox(X:Cx):Cx:=X.wish λ_ _=>False
theorem Cx.Ok.wish(ok:X.Ok)(E:f_->g_->Prop):(X.wish E).Ok:=
 ⟨ok.mod,ok.kind,ok.glob,ok.blt,ok.above,ok.inj,ok.has,ok.cab,ok.hd,ok.frames,ok.stk,ok.exf,ok.bs,ok.bsz,ok.noex,ok.exfs,ok.funs,ok.frf⟩
theorem Cx.Ok.unwish(ok:(X.wish E).Ok):X.Ok:=
 ⟨ok.mod,ok.kind,ok.glob,ok.blt,ok.above,ok.inj,ok.has,ok.cab,ok.hd,ok.frames,ok.stk,ok.exf,ok.bs,ok.bsz,ok.noex,ok.exfs,ok.funs,ok.frf⟩
section
variable {X:Cx}{pins:List (e_×Obj)}{G:St}{H:Hp}{s:g_}{E:f_->g_->Prop}
theorem Inv.wish(I:Inv X pins G H s)(E:f_->g_->Prop):Inv (X.wish E) pins G H s:=⟨I.ok.wish E,I.os,I.bare,I.base,I.loc,I.cell,I.free,I.freeC,I.pin,I.hok,I.len⟩
theorem Inv.unwish(I:Inv (X.wish E) pins G H s):Inv X pins G H s:=⟨I.ok.unwish,I.os,I.bare,I.base,I.loc,I.cell,I.free,I.freeC,I.pin,I.hok,I.len⟩
theorem SP.unwish{D:Ends}{f:Flow}{s':g_}(h:SP (X.wish E) pins D f s'):SP X pins D f s':=by
 cases f with
 |next=>obtain⟨Y1,H',I,q⟩:=h;exact⟨_,H',I.unwish,q⟩
 |brk=>obtain⟨Y1,H',I,q⟩:=h;exact⟨_,H',I.unwish,q⟩
 |cont=>obtain⟨Y1,H',I,q⟩:=h;exact⟨_,H',I.unwish,q⟩
 |ret u=>obtain⟨v,Y1,H',I,r,q⟩:=h;exact⟨v,_,H',I.unwish,r,q⟩
theorem PE.nox{t:TE}(h:PE X.nox e t):PE X e t:=λpins s G H Q I hw=>
 bV (h _ s G H Q (I.wish _) hw) (λ_ _ ⟨v,H',I',r,q⟩=>⟨v,H',I'.unwish,r,q⟩) λ_ _ z=>cp z
theorem PT.nox{t:TT}(h:PT X.nox e t):PT X e t:=λpins s G H Q I hw=>
 bV (h _ s G H Q (I.wish _) hw) (λ_ _ ⟨H',I',q⟩=>⟨H',I'.unwish,q⟩) λ_ _ z=>cp z
theorem PSs.nox{st:List Stmt}{t:TS}(h:PSs X.nox st t):PSs X st t:=λpins s G H D I hw=>
 bV (h _ s G H D (I.wish _) hw) (λ_ _ q=>q.unwish) λ_ _ z=>cp z
end
section
variable {X:Cx}{st:Stmt}{rest:List Stmt}{t u:TS}{e:Expr}{te:TE}{pos:Pos}
def Dw:TS:=λD G H=>D.nx G H
def LJ(t u:TS):TS:=λD G H=>t { D with nx:=u D } G H
theorem GW:PSs X [] Dw:=λ_ _ G H _ I h=>iN ⟨G,H,I,h⟩
theorem lF(h1:PS X st t)(h2:PSs X rest u):PSs X (st::rest) (LJ t u):=by
 intro pins s G H D I h;refine zh (thn (h1 _ s G H _ I h) λf s1 q=>?_);cases f with
 | next=>
   obtain⟨Y1,H',I',q⟩:=q;exact h2 _ s1 _ H' D I' q
 |ret v=>exact q
 |brk=>exact q
 |cont=>exact q
theorem qC(h1:PS X st t):PSs X [st] t:=by
 intro pins s G H D I h;refine zh (thn (h1 _ s G H D I h) λf s1 q=>?_);cases f with
 |next=>exact iN q
 |ret v=>omega
 |brk=>omega
 |cont=>omega
def J3:TS:=λD G H=>D.bk G H
def Lq:TS:=λD G H=>D.ct G H
theorem E6:PS X (.Pass pos) Dw:=λ_ _ G H _ I h=>wpAny_Pass ⟨G,H,I,h⟩
theorem Cb:PS X (.Break pos) J3:=λ_ _ G H _ I h=>wpAny_Break ⟨G,H,I,h⟩
theorem xh:PS X (.Continue pos) Lq:=λ_ _ G H _ I h=>wpAny_Continue ⟨G,H,I,h⟩
theorem Inv.quiet{pins:List (e_×Obj)}{G:St}{s:g_}(I:Inv X pins G H s):interactive X.env=d_:=by simp[interactive,I.ok.kind]
def HF(te:TE):TS:=λD G H=>te G H λ_ H1=>D.nx G H1
theorem zq(he:PE X e te)(hs:autoParam (swapsWith e b_ pos.line X.env=pure d_) au1._auto_1):PS X (.Expr e pos) (HF te):=λpins s G H D I h=>wpAny_Expr_any (thn (he _ s G H _ I h) λv s1 ⟨x,H1,I1,r1,q1⟩=>⟨G,H1,I1,q1⟩) I.quiet hs
def L7(te:TE):TS:=λD G H=>te G H D.rt
theorem Do(he:PE X e te):PS X (.Return (a_ e) pos) (L7 te):=λpins s G H D I h=>wpAny_Return_some (thn (he _ s G H _ I h) λv s1 ⟨x,H1,I1,r1,q1⟩=>⟨x,G,H1,I1,r1,q1⟩)
def Nd:TS:=λD _ H=>D.rt .non H
theorem Fk:PS X (.Return b_ pos) Nd:=λ_ _ G H _ I h=>wpAny_Return_none ⟨.non,G,H,I,rfl,h⟩
def Lx(c:TT)(t u:TS):TS:=λD G H=>c G H λb H1=>if b=c_ then t D G H1 else u D G H1
theorem G3{c:Expr}{a b:List Stmt}{tc:TT}(hc:PT X c tc)(ha:PSs X a t)(hb:PSs X b u):PS X (.If c a b pos) (Lx tc t u):=by
 intro pins s G H D I h;refine wpAny_If (thn (hc _ s G H _ I h) λd s1 ⟨H1,I1,q1⟩=>?_);cases d with
 |true=>exact ha _ s1 G H1 D I1 q1
 |false=>exact hb _ s1 G H1 D I1 q1
end
abbrev TG:=V->St->Hp->(St->Hp->Prop)->Prop
abbrev TGs:=List V->St->Hp->(St->Hp->Prop)->Prop
def PG(X:Cx)(target:Expr)(t:TG):Prop:=
 ∀(pins:List (e_×Obj)) (s:g_) (G:St) (H:Hp) (v:V) (u:f_) (Q:St->Hp->Prop),Inv X pins G H s->RelV v u->t v G H Q ->
  aR (model X.prog X.w) X.A (assign target X.env u) (λ_ s'=>∃Y1 H',Inv X pins Y1 H' s'/\Q Y1 H') X.xe s
def PGs(X:Cx)(ts:List Expr)(t:TGs):Prop:=
 ∀(pins:List (e_×Obj)) (s:g_) (G:St) (H:Hp) (vs:List V) (us:List f_) (Q:St->Hp->Prop),Inv X pins G H s->cf vs us->t vs G H Q ->
  aR (model X.prog X.w) X.A (assignInOrder ((assignEach ts X.env).map (·.2)) us) (λ_ s'=>∃Y1 H',Inv X pins Y1 H' s'/\Q Y1 H') X.xe s
abbrev DW:=V->V->V->Hp->(Hp->Prop)->Prop
def KJ(X:Cx)(t:DW):Prop:=
 ∀(pins:List (e_×Obj)) (s:g_) (G:St) (H:Hp) (o i v:V) (ov iv u:f_) (Q:Hp->Prop),Inv X pins G H s->RelV o ov->RelV i iv->RelV v u->t o i v H Q ->
  aR (model X.prog X.w) X.A (setItem ov iv u) (λ_ s'=>∃H',Inv X pins G H' s'/\Q H') X.xe s
section
variable {X:Cx}{pos:Pos}
def i2(i:Nat):TG:=λv G H Q=>Q (G.set i (a_ v)) H
variable{i:Nat}
theorem zS{x:Str}(hN:X.N.Nodup)(hi:X.N[i]?=a_ x)(hx:Loc X.env.scope x)(hf:autoParam (X.fn x=c_\/X.env.scope.names.lookup x=a_ .local) au4._auto_1):PG X (.Name x pos) (i2 i):=λpins s G H v u Q I r h=>xJ (nL I hN hi hx r (λs' I'=>⟨_,H,I',h⟩) hf)
def Ob:TGs:=λvs G H Q=>vs=[]/\Q G H
def Hq(t:TG)(u:TGs):TGs:=λvs G H Q=>∃v r,vs=v::r/\t v G H λY1 H'=>u r Y1 H' Q
theorem FX:PGs X [] Ob:=by
 intro pins s G H vs us Q I r h;obtain⟨e,h⟩:=h;exact assignInOrder_nil ⟨G,H,I,h⟩
variable{es:List Expr}
theorem DS{t:TG}{u:TGs}(h1:PG X e t)(h2:PGs X es u)
  (hs:autoParam ((assignEach (e::es) X.env).map (·.2)=assign e X.env::(assignEach es X.env).map (·.2)) au1._auto_1):PGs X (e::es) (Hq t u):=by
 intro pins s G H vs us Q I r h;obtain⟨v,vr,e1,h⟩:=h;subst e1;cases r with
 | cons r rr=>
   rw[hs];exact assignInOrder_cons (thn (h1 _ s G H _ _ _ I r h) λ_ s1 ⟨_,H1,I1,q1⟩=>(h2 _ s1 _ H1 _ _ Q I1 rr q1))
def LF(K:ai)(n:Nat)(t:TGs):TG:=λv G H Q=>∃a xs,v=.ref a/\SqT K H a xs/\xs.length=n/\t xs G H Q
theorem KD{k:Nat}{t:TGs}{n:Nat}(hc:X.calm=c_)(h:PGs X es t)
  (hn:autoParam ((assignEach es X.env).length=n) au1._auto_1) (ZL:autoParam ((assignEach es X.env).findIdx? (·.1)=b_) au1._auto_1):PG X (.Tuple es k pos) (LF X.K n t):=by
 intro pins s G H v u Q I r hw;obtain⟨a,xs,e1,hq,hl,hw⟩:=hw;subst e1;cases r;obtain⟨ZX,rv,ht,hz⟩:=I.tuple hq;exact assign_Tuple_tuple (I.ok.hd hc) ht (by simp[hn,<-hl,rv.length]) ZL λh' hx=>(h _ _ G H xs _ Q (I.kept (t':=s.toks) λb o e=>hx b o (bx (aF e)) e) (by omega) hw)
def Kl(to ti:TE)(t:DW):TG:=λv G H Q=>to G H λo H1=>ti G H1 λi H2=>t o i v H2 λH3=>Q G H3
theorem Dz{o i:Expr}{to ti:TE}{t:DW}(ho:PE X o to)(hi:PE X i ti)(hs:KJ X t)
  (ha:autoParam (∀v,assign (.Subscript o i pos) X.env v=(do
   let ov <- holding [v] (eval o X.env)
   let iv <- holding [v,ov] (eval i X.env)
   standAt pos
   holding [v,ov,iv] (setItem ov iv v)
   release [v,ov,iv] [])) au3._auto_1):PG X (.Subscript o i pos) (Kl to ti t):=by
 intro pins s G H v u Q I r h;rw[ha];exact aB (j2 (thn (ho _ s G H _ I h) λov s1 ⟨x,H1,I1,r1,q1⟩=>(aB (j2 (thn (hi _ s1 G H1 _ I1 q1) λiv s2 ⟨y,H2,I2,r2,q2⟩=>(aB (wpAny_standAt (aB (j2 (thn (hs _ s2 G H2 x y v ov iv u _ I2 r1 r2 r q2) λ_ s3 ⟨H3,I3,q3⟩=>(wpAny_release ⟨G,H3,I3,q3⟩)))))))))))
def AW(te:TE)(g:TG):TS:=λD G H=>te G H λx H1=>g x G H1 D.nx
variable{te:TE}
theorem CZ{tg:Expr}{g:TG}(he:PE X e te)(hg:PG X tg g)(hs:autoParam (swapsWithSole [tg] e pos.line X.env=pure d_) au1._auto_1)(hw:autoParam (swappedStores [tg] e X.env=pure b_) au1._auto_1)
  (h1:autoParam ((assignEach [tg] X.env).map (·.2)=[assign tg X.env]) au1._auto_1):PS X (.Assign [tg] e pos) (AW te g):=by
 intro pins s G H D I h;refine wpAny_Assign_stores (thn (he _ s G H _ I h) λv s1 ⟨x,H1,I1,r1,q1⟩=>?_) hs hw;rw[h1];exact thn (hg _ s1 G H1 x v _ I1 r1 q1) λ_ s2 q=>q
theorem zc{x:Str}{pos':Pos}(hN:X.N.Nodup)(hi:X.N[i]?=a_ x)(hx:Loc X.env.scope x)(he:PE X e te)(hs:autoParam (swapsWith e (a_ (.Name x pos')) pos.line X.env=pure d_) au1._auto_1)(hf:autoParam (X.fn x=c_\/X.env.scope.names.lookup x=a_ .local) au4._auto_1):
  PS X (.Assign [.Name x pos'] e pos) (AW te (i2 i)):=λpins s G H D I h=>wpAny_Assign_Name (thn (he _ s G H _ I h) λv s1 ⟨y,H1,I1,r1,q1⟩=>(nL I1 hN hi hx r1 (λs2 I2=>⟨_,H1,I2,q1⟩) hf)) hs
end
section
variable {X:Cx}{pos:Pos}
def Ek(c:TT)(tb:TS):TS:=λD G H=>∃W:Nat->St->Hp->Prop,(∃m,W m G H) /\ ∀m G H,W m G H ->
 c G H λb H1=>if b=c_ then ∃N:St->Hp->Prop,(∀Y1 H',N Y1 H'->∃m',m'<m/\W m' Y1 H')/\tb { D with nx:=N,ct:=N,bk:=D.nx } G H1 else D.nx G H1
theorem CM{c:Expr}{body:List Stmt}{tc:TT}{tb:TS}(hp:PassesOwn (model X.prog X.w) X.A X.env X.xe)(hc:PT X c tc)(hb:PSs X body tb):PS X (.While c body [] pos) (Ek tc tb):=by
 intro pins s G H D I h;obtain⟨W,⟨m0,w0⟩,turn⟩:=h;refine wpAny_While (codeAny_whileLoop (λn s'=>∃Y1 H',Inv X _ Y1 H' s'/\W n Y1 H') ?_ m0 ⟨G,H,I,w0⟩);rintro n s1 ⟨Y6,H1,I1,w1⟩;refine gf hp (thn (hc _ s1 _ H1 _ I1 (turn n _ H1 w1)) λb s2 ⟨H2,I2,q2⟩=>?_);cases b with
 | true=>
   obtain⟨N,hN,q2⟩:=q2;refine gf hp (thn (hb _ s2 _ H2 _ I2 q2) λf s3 q3=>?_);cases f with
   | next=>
     obtain⟨X3,H3,I3,n3⟩:=q3;obtain⟨m',hm,w3⟩:=hN _ H3 n3;exact⟨m',hm,_,H3,I3,w3⟩
   | cont=>
     obtain⟨X3,H3,I3,n3⟩:=q3;obtain⟨m',hm,w3⟩:=hN _ H3 n3;exact⟨m',hm,_,H3,I3,w3⟩
   |brk=>exact q3
   |ret v=>exact q3
 | false=>
   exact iN ⟨_,H2,I2,q2⟩
end
structure It where
 go:Nat->Hp->Prop
 yld:Nat->Hp->V->Hp->Prop
 stop:Nat->Hp->Prop
def rZ(X:Cx)(pins:List (e_×Obj))(H:Hp)(b:e_):Prop:=
 H b=b_/\b≠X.env.locals/\b∉X.fs/\(b∈X.ex\/X.s₀.heap.objs.size<=b)/\(∀x c,X.env.cells.lookup x=a_ c->c≠b) /\ ∀p∈X.pn++pins,p.1≠b
variable{pins:List (e_×Obj)}{s:g_}{G:St}
theorem Inv.fpOk{H':Hp}(I:Inv X pins G H s)(hb:s.heap.objs.size<=b)(hn:H' b=b_):rZ X pins H' b:=by
 refine⟨hn,gH (ax I.lt hb),I.nofs hb,.inr (aA I.sz hb),λx c e z=>?_,λp hp z=>?_⟩
 .obtain⟨v,q⟩:=I.cell x c e
  exact absurd (ax q.lt (by rw[z];omega)) (bT _)
 .exact absurd (ax (aF (I.pin p hp).1) (by rw[z];omega)) (bT _)
structure Turn(P:Program)(w:World)(K:ai)(tg:Expr)(J:It)(fp:List e_)(it:e_)(tn:Nat->Heap->Prop):Prop where
 mem:it∈fp
 obj:∀i h,tn i h->∀b∈fp,∃o,h.get? b=a_ o /\ ∀v,o.data≠.cell v
 keep:∀i h h',tn i h->(∀b∈fp,∀o,h.get? b=a_ o->h'.get? b=a_ o)->tn i h'
 item:∀(X:Cx),X.prog=P->X.w=w->X.K=K->X.calm=c_->∀(i:Nat) (pins:List (e_×Obj)) (s:g_) (G:St) (H:Hp) (E:f_->g_->Prop),Inv X pins G H s->(∀b∈fp,rZ X pins H b)->tn i s.heap->J.go i H ->
  aR (model P w) X.A (pyNext (.ref it)) (λr s1 =>∃u,r=a_ u /\
   aR (model P w) X.A (letOwnedTupleGo tg (.ref it) u) (λ_ s2 =>∃x H',Inv X pins G H' s2/\RelV x u/\J.yld i H x H'/\tn (i+1) s2.heap /\ ∀b∈fp,H' b=b_) E s1) E s
 done:∀(X:Cx),X.prog=P->X.w=w->X.K=K->X.calm=c_->∀(i:Nat) (pins:List (e_×Obj)) (s:g_) (G:St) (H:Hp) (E:f_->g_->Prop),Inv X pins G H s->(∀b∈fp,rZ X pins H b)->tn i s.heap->J.stop i H ->
  aR (model P w) X.A (pyNext (.ref it)) (λr s1=>r=b_/\Inv X pins G H s1) E s
 self:∀(A:Around) (i:Nat) (s:g_) (Q:f_->g_->Prop) (E:f_->g_->Prop),tn i s.heap->Q (.ref it) s->aR (model P w) A (pyIter (.ref it)) Q E s
abbrev TI:=St->Hp->(It->Hp->Prop)->Prop
def PIE(X:Cx)(pins:List (e_×Obj))(G:St)(tg:Expr)(R:It->Hp->Prop)(Rg:f_)(s2:g_):Prop:=
 ∃(it:e_) (fp:List e_) (tn:Nat->Heap->Prop) (J:It) (H':Hp),Rg=.ref it/\Inv X pins G H' s2/\Turn X.prog X.w X.K tg J fp it tn/\tn 0 s2.heap/\(∀b∈fp,rZ X pins H' b)/\R J H'
def PI(X:Cx)(tg iter:Expr)(wi:TI):Prop:=
 ∀(pins:List (e_×Obj)) (s:g_) (G:St) (H:Hp) (R:It->Hp->Prop),Inv X pins G H s->wi G H R ->
  aR (model X.prog X.w) X.A (eval iter X.env) (λv s1=>aR (model X.prog X.w) X.A (pyIter v) (PIE X pins G tg R) X.xe s1) X.xe s
variable{tg:Expr}
theorem zK{it:e_}{n:String}{vs:Array f_}{Q:Unit->g_->Prop}(ho:s.heap.get? it=a_ o)(hc:o.cls=.type n)(hd:o.data=.fields vs)
  (hn : ["enumerate","zip","dict_itemiterator","dict_reverseitemiterator","odict_iterator","itertools.zip_longest","itertools.pairwise"].contains n=d_) (hQ:Q () s):aR M A (letOwnedTupleGo tg (.ref it) u) Q E s:=by
 cases tg<;>first
  |exact bj hQ
  | (cases u <;> first
    |exact bj hQ
    | (refine aB (wpAny_load ho ?_)
       rw[hc,hd];show aR M A (if (["enumerate","zip","dict_itemiterator","dict_reverseitemiterator","odict_iterator","itertools.zip_longest","itertools.pairwise"].contains n&&vs[0]? == a_ _)=c_ then _ else _) Q E s;rw[if_neg (by grind)]
       exact bj hQ))
def Itl(K:ai)(a:e_):It:=
 ⟨λi H=>∃xs x,SqL K H a xs/\xs[i]?=a_ x,λi H x H'=>H'=H /\ ∀xs,SqL K H a xs->xs[i]?=a_ x,λi H=>∃xs,SqL K H a xs/\xs.length<=i⟩
def Itt(K:ai)(a:e_):It:=
 ⟨λi H=>∃xs x,SqT K H a xs/\xs[i]?=a_ x,λi H x H'=>H'=H /\ ∀xs,SqT K H a xs->xs[i]?=a_ x,λi H=>∃xs,SqT K H a xs/\xs.length<=i⟩
def Itr(lo:Int)(n:Nat):It:=⟨λi _=>i<n,λi H x H'=>H'=H/\x=.int (lo+i),λi _=>n<=i⟩
variable{K:ai}
theorem AG(a it:e_):Turn P w K tg (Itl K a) [it] it (λi h=>h.IsListIter it a i) where
 mem:=by simp
 obj:=λi h st b hb=>by
  have e:=by simpa using hb
  obtain⟨o,e,c,d⟩:=st
  simp_all
 keep:=λi h h' st k=>st.at λo e=>k it (by simp) o e
 item:=by
  intro X hP hw hK hc i pins s G H E I hf st hg;subst hP hw hK;obtain⟨xs,x,hq,hx⟩:=hg;obtain⟨ZX,rv,p,hz⟩:=I.list hq;obtain⟨u,hu,ru⟩:=rv.get hx;obtain⟨f0,f1,f2,f3,f4,f5⟩:=hf it (by simp);refine wpAny_pyNext_list_item st p.isList (by simpa using hu) λh' Zh sb=>?_;obtain⟨o,e,c,d⟩:=id Zh;exact⟨u,rfl,zK e c d (by decide) ⟨x,H,(I.turned (t':=s.toks) (λb o hb e=>(sb.2 b hb).trans e) f0 f1 f3 f4 f5),ru,⟨rfl,λys hy=>by rw[I.list_inj hy hq];omega⟩,Zh,λb hb=>(hf b hb).1⟩⟩
 done:=by
  intro X hP hw hK hc i pins s G H E I hf st hg;subst hP hw hK;obtain⟨xs,hq,hx⟩:=hg;obtain⟨ZX,rv,p,hz⟩:=I.list hq;obtain⟨f0,f1,f2,f3,f4,f5⟩:=hf it (by simp);have hl:=rv.length;exact wpAny_pyNext_list_end (I.ok.hd hc) st p.isList (by simp;omega) λh' eb=>⟨rfl,I.turned (λb o hb e=>eb b o hb e) f0 f1 f3 f4 f5⟩
 self:=λ_ _ _ _ _ st h=>wpAny_pyIter_listiter st h
theorem yH(a it:e_):Turn P w K tg (Itt K a) [it] it (λi h=>h.IsTupleIter it a i) where
 mem:=by simp
 obj:=λi h st b hb=>by
  have e:=by simpa using hb
  obtain⟨o,e,c,d⟩:=st
  simp_all
 keep:=λi h h' st k=>st.at λo e=>k it (by simp) o e
 item:=by
  intro X hP hw hK hc i pins s G H E I hf st hg;subst hP hw hK;obtain⟨xs,x,hq,hx⟩:=hg;obtain⟨ZX,rv,p,hz⟩:=I.tuple hq;obtain⟨u,hu,ru⟩:=rv.get hx;obtain⟨f0,f1,f2,f3,f4,f5⟩:=hf it (by simp);refine wpAny_pyNext_tuple_item st (p) (by simpa using hu) λh' Zh sb=>?_;obtain⟨o,e,c,d⟩:=id Zh;exact⟨u,rfl,zK e c d (by decide) ⟨x,H,(I.turned (t':=s.toks) (λb o hb e=>(sb.2 b hb).trans e) f0 f1 f3 f4 f5),ru,⟨rfl,λys hy=>by rw[I.tuple_inj hy hq];omega⟩,Zh,λb hb=>(hf b hb).1⟩⟩
 done:=by
  intro X hP hw hK hc i pins s G H E I hf st hg;subst hP hw hK;obtain⟨xs,hq,hx⟩:=hg;obtain⟨ZX,rv,p,hz⟩:=I.tuple hq;obtain⟨f0,f1,f2,f3,f4,f5⟩:=hf it (by simp);have hl:=rv.length;exact wpAny_pyNext_tuple_end (I.ok.hd hc) st (p) (by simp;omega) λh' eb=>⟨rfl,I.turned (λb o hb e=>eb b o hb e) f0 f1 f3 f4 f5⟩
 self:=λ_ _ _ _ _ st h=>wpAny_pyIter_tupleiter st h
theorem yN(it:e_)(lo:Int)(n:Nat):Turn P w K tg (Itr lo n) [it] it (λi h=>IsRangeIter h it (lo+(i:Nat)*1) ((n:Int)-(i:Nat)) 1) where
 mem:=by simp
 obj:=λi h st b hb=>by
  simp_all
 keep:=λi h h' st k=>k it (by simp) _ st
 item:=by
  intro X hP hw hK hc i pins s G H E I hf st hg;subst hP hw hK;obtain⟨f0,f1,f2,f3,f4,f5⟩:=hf it (by simp);refine(Walks.range (prog:=X.prog) (w:=X.w) (I.ok.hd hc) it lo 1 n).item i s _ _ hg st λv h' tk hv Zh kk=>?_;obtain⟨t,rfl⟩:=hv;refine⟨_,rfl,zK Zh rfl rfl (by decide) ⟨.int _,H,(I.turned (λb o hb e=>kk b o (by simpa using hb) e) f0 f1 f3 f4 f5),⟨t,?_⟩,⟨rfl,rfl⟩,Zh,λb hb=>(hf b hb).1⟩⟩<;>simp_all
 done:=by
  intro X hP hw hK hc i pins s G H E I hf st hg;obtain⟨f0,f1,f2,f3,f4,f5⟩:=hf it (by simp);exact wpAny_pyNext_range_end (I.ok.hd hc) st (by have:n<=i:=hg;omega) λh' eb=>⟨rfl,I.turned (λb o hb e=>eb b o hb e) f0 f1 f3 f4 f5⟩
 self:=λ_ _ _ _ _ st h=>wpAny_pyIter_rangeiter st h
section
variable {X:Cx}{tg:Expr}
def qX(K:ai)(tl:TE):TI:=λG H R=>tl G H λx H1=>∃a,x=.ref a/\(∃xs,SqL K H1 a xs)/\R (Itl K a) H1
def yZ(K:ai)(tl:TE):TI:=λG H R=>tl G H λx H1=>∃a,x=.ref a/\(∃xs,SqT K H1 a xs)/\R (Itt K a) H1
variable{l:Expr}{tl:TE}
theorem Ae(hl:PE X l tl):PI X tg l (qX X.K tl):=by
 intro pins s G H R I h;refine thn (hl _ s G H _ I h) λv s1 ⟨x,H1,I1,r1,q1⟩=>?_;obtain⟨a,e,⟨xs,hq⟩,q⟩:=q1;subst e;cases r1;obtain⟨ZX,rv,p,hz⟩:=I1.list hq;refine xK p.isList ?_;refine⟨_,_,_,_,H1,rfl,I1.kept λb o e=>aw _ e,AG a _,⟨_,aI _ rfl,rfl,rfl⟩,λb hb=>?_,q⟩;have e:=by simpa using hb
 subst e;exact I1.fpOk (ao _) (I1.hok.fresh (ao _))
theorem Cw(hl:PE X l tl):PI X tg l (yZ X.K tl):=by
 intro pins s G H R I h;refine thn (hl _ s G H _ I h) λv s1 ⟨x,H1,I1,r1,q1⟩=>?_;obtain⟨a,e,⟨xs,hq⟩,q⟩:=q1;subst e;cases r1;obtain⟨ZX,rv,p,hz⟩:=I1.tuple hq;refine wpAny_pyIter_tuple (p) ?_;refine⟨_,_,_,_,H1,rfl,I1.kept λb o e=>aw _ e,yH a _,⟨_,aI _ rfl,rfl,rfl⟩,λb hb=>?_,q⟩;have e:=by simpa using hb
 subst e;exact I1.fpOk (ao _) (I1.hok.fresh (ao _))
theorem vQ{R:It->Hp->Prop}{lo hi:Int}{t u v:Tok}{tk:Nat}(I:Inv X pins G H s)(h1: -(2^62)<=lo)(h2:lo<2^62)(h3: -(2^62)<=hi)(h4:hi<2^62)
  (q:R (Itr lo (hi-lo).toNat) H):aR (model X.prog X.w) X.A (pyIter (.ref s.heap.objs.size)) (PIE X pins G tg R) E { s with heap:=s.heap.push { cls := .type "range",data := .fields #[.int lo t,.int hi u,.int 1 v] },toks:=tk }:=by
 refine wpAny_pyIter_range (IsRange.new ..) (small_one h1 h2 h3 h4) ?_;have I1:Inv X _ G H { s with heap:=s.heap.push { cls := .type "range",data := .fields #[.int lo t,.int hi u,.int 1 v] },toks:=tk }:=I.kept fun b o e=>aw _ e
 refine⟨_,_,_,_,H,rfl,
  I1.kept λb o e=>aw _ e,yN _ lo _,?_,λb hb =>?_,q⟩
 .have e1:lo+((0:Nat))*1=lo:=by simp
  have e2:(((hi-lo).toNat))-((0:Nat))=Builtin.Range.rangeSize lo hi 1:=by rw[rangeSize_one];grind
  rw[e1,e2];exact aI _ rfl
 .have e:b=(s.heap.push { cls := .type "range",data := .fields #[.int lo t,.int hi u,.int 1 v] }).objs.size:=by simpa using hb
  subst e;exact I1.fpOk (ao _) (I1.hok.fresh (ao _))
def xG(ta:TA):TI:=λG H R=>ta G H λvs H1=>∃j:Int,vs=[.int j] /\ -(2^62)<=j/\j<2^62/\R (Itr 0 j.toNat) H1
def wz(ta:TA):TI:=λG H R=>ta G H λvs H1=>∃i j:Int,vs=[.int i,.int j]/\(-(2^62)<=i/\i<2^62 /\ -(2^62)<=j/\j<2^62)/\R (Itr i (j-i).toNat) H1
variable{ta:TA}{pos:Pos}
theorem A6{a:Expr}{p:Pos}(hg:Gl X "range")(hm:X.mg "range"=b_)(ha:PA X [a] ta)(hs:autoParam (starEach [a] X.env=[(d_,eval a X.env)]) au1._auto_1):PI X tg (.Call (.Name "range" p) [a] [] pos) (xG ta):=by
 intro pins s G H R I h;refine Call_ (lK I hg hm boot_range (fe (thn (ha _ _ s G H _ I h) λus s1 ⟨vs,H1,I1,r1,q1⟩=>?_) hs rfl));obtain⟨j,e,q1,q2,q⟩:=q1;subst e;cases r1 with
 | cons r rr=>
   cases rr;obtain⟨t,rfl⟩:=r;exact call_range_1 (vQ I1 (by decide) (by decide) q1 q2 (by simpa using q))
theorem AH{a b:Expr}{p:Pos}(hg:Gl X "range")(hm:X.mg "range"=b_)(ha:PA X [a,b] ta)(hs:autoParam (starEach [a,b] X.env=[(d_,eval a X.env),(d_,eval b X.env)]) au1._auto_1)(YW:autoParam (starEach [b] X.env=[(d_,eval b X.env)]) au1._auto_1) :
  PI X tg (.Call (.Name "range" p) [a,b] [] pos) (wz ta):=by
 intro pins s G H R I h;refine Call_ (lK I hg hm boot_range (fe (thn (ha _ _ s G H _ I h) λus s1 ⟨vs,H1,I1,r1,q1⟩=>?_) (by rw[hs,YW]) (by rw[YW];rfl)));obtain⟨i,j,e,⟨q1,q2,q3,q4⟩,q⟩:=q1;subst e;cases r1 with
 | cons r rr=>
   cases rr with
   | cons r' rr=>
     cases rr;obtain⟨t,rfl⟩:=r;obtain⟨t',rfl⟩:=r';exact call_range_2 (vQ I1 q1 q2 q3 q4 q)
def yC(wi:TI)(g:TG)(tb:TS):TS:=λD G H=>wi G H λJ H1=>∃W:Nat->Nat->St->Hp->Prop,(∃m,W 0 m G H1) /\ ∀i m G H,W i m G H ->
 (J.stop i H/\D.nx G H)\/(J.go i H /\ ∃N:St->Hp->Prop,(∀Y1 H',N Y1 H'->∃m',m'<m/\W (i+1) m' Y1 H') /\ ∀x H',J.yld i H x H'->g x G H' λY7 H2=>tb { D with nx:=N,ct:=N,bk:=D.nx } Y7 H2)
def vm(fp:List e_)(h:Heap):List (e_×Obj):=fp.filterMap λb=>(h.get? b).map λo=>(b,o)
variable{fp:List e_}
theorem kI(hb:b∈fp)(e:h.get? b=a_ o):(b,o)∈vm fp h:=qI.mpr ⟨b,hb,by rw[e];rfl⟩
theorem Bg{p:e_×Obj}(hp:p∈vm fp h):p.1∈fp/\h.get? p.1=a_ p.2:=by
 obtain⟨b,hb,e⟩:=qI.mp hp;cases q:h.get? b<;>grind
theorem Inv.pinned{fp:List e_}(I:Inv X pins G H s)(hf:∀b∈fp,rZ X pins H b)(ho:∀b∈fp,∃o,s.heap.get? b=a_ o /\ ∀v,o.data≠.cell v):Inv X (pins++vm fp s.heap) G H s:=
 I.pins_of λp hp=>(fE.mp hp).elim (λz=>I.pin p (aM _ z)) λz=>by
  obtain⟨hb,e⟩:=Bg z;obtain⟨f0,f1,f2,_⟩:=hf _ hb
  grind
theorem Inv.unpinned{pl:List (e_×Obj)}(I:Inv X (pins++pl) G H s):Inv X pins G H s:=I.pins_of λp hp=>I.pin p (aM _ (c7 _ hp))
theorem JE{iter:Expr}{body:List Stmt}{wi:TI}{g:TG}{tb:TS}(hp:PassesOwn (model X.prog X.w) X.A X.env X.xe)(hc:X.calm=c_)(hi:PI X tg iter wi)(hg:PG X tg g)(hb:PSs X body tb)
  (hs:autoParam (∀x,foldedSetIterable iter X.env x=pure x) au3._auto_1):PS X (.For tg iter body [] pos) (yC wi g tb):=by
 intro pins s G H D I h;refine wpAny_For (thn (hi _ s G H _ I h) λv s1 h1=>thn h1 λRg s2 h2=>?_) hs;obtain⟨it,fp,tn,J,H2,e,I2,T,Zf,f2,W,⟨m0,w0⟩,turn⟩:=h2;subst e;have stat:∀{H':Hp},(∀b∈fp,H' b=b_)->∀b∈fp,rZ X _ H' b:=λhn b hb=>⟨hn b hb,(f2 b hb).2⟩;refine codeAny_forLoop_any (λn s'=>∃i Y1 H',Inv X _ Y1 H' s'/\tn i s'.heap/\(∀b∈fp,H' b=b_)/\W i n Y1 H') ?_ m0 ⟨0,G,H2,I2,Zf,λb hb=>(f2 b hb).1,w0⟩;rintro n s3 ⟨i,X3,H3,I3,ZF,XW,w3⟩;rcases turn i n _ H3 w3 with⟨stop,qn⟩ | ⟨go,N,hN,step⟩
 .refine gf hp (thn (T.done X rfl rfl rfl hc i _ s3 _ H3 _ I3 (stat XW) ZF stop) λr s4 ⟨hr,I4⟩=>?_)
  subst hr;exact iN ⟨_,H3,I4,qn⟩
 .refine gf hp (thn (T.item X rfl rfl rfl hc i _ s3 _ H3 _ I3 (stat XW) ZF go) λr s4 ⟨u,hr,h4⟩=>?_)
  subst hr;refine gf hp (thn h4 λ_ s5 ⟨x,H5,I5,r5,y5,Zx,Ve⟩=>?_);refine gf hp (thn (hg _ s5 _ H5 x u _ (I5.pinned (stat Ve) (T.obj _ _ Zx)) r5 (step x H5 y5)) λ_ s6 ⟨Z4,H6,I6,q6⟩=>?_);refine gf hp (thn (hb _ s6 _ H6 _ I6 q6) λf s7 q7=>?_);have again:∀{X2:St}{H7:Hp},Inv X _ _ H7 s7->N _ H7->∃m,m<n /\ ∃i Y1 H',Inv X pins Y1 H' s7/\tn i _/\(∀b∈fp,H' b=b_)/\W i m Y1 H':=λ{X2 H7} I7 n7=>by
   obtain⟨m',hm,w7⟩:=hN _ H7 n7;refine⟨m',hm,_,X2,H7,I7.unpinned,T.keep _ _ _ Zx λb hb o e=>(I7.pin _ (aM _ (aM _ (kI hb e)))).1,λb hb=>?_,w7⟩;obtain⟨o,e,d⟩:=T.obj _ _ Zx b hb;exact(I7.pin _ (aM _ (aM _ (kI hb e)))).2.1
  cases f with
  |next=>obtain⟨X2,H7,I7,n7⟩:=q7;exact again I7 n7
  |cont=>obtain⟨X2,H7,I7,n7⟩:=q7;exact again I7 n7
  |brk=>obtain⟨X2,H7,I7,q7⟩:=q7;exact⟨_,H7,I7.unpinned,q7⟩
  |ret v=>obtain⟨x7,X2,H7,I7,r7,q7⟩:=q7;exact⟨x7,_,H7,I7.unpinned,r7,q7⟩
end
variable{tb:TS}{D:Ends}
theorem FZ{g:TG}{G:St}{H:Hp}(Pv:Nat->St->Hp->Prop)(h0:Pv 0 G H)(hl:∀i G H,i<=xs.length->Pv i G H->SqT K H a xs)
  (hs:∀i x G H,xs[i]?=a_ x->Pv i G H->g x G H λY7 H2=>tb { D with nx:=Pv (i+1),ct:=Pv (i+1),bk:=D.nx } Y7 H2) (hd:∀G H,Pv xs.length G H->D.nx G H):
  ∃W:Nat->Nat->St->Hp->Prop,(∃m,W 0 m G H) /\ ∀i m G H,W i m G H ->
   ((Itt K a).stop i H/\D.nx G H)\/((Itt K a).go i H /\ ∃N:St->Hp->Prop,(∀Y1 H',N Y1 H'->∃m',m'<m/\W (i+1) m' Y1 H') /\ ∀x H',(Itt K a).yld i H x H'->g x G H' λY7 H2=>tb { D with nx:=N,ct:=N,bk:=D.nx } Y7 H2):=by
 refine⟨λi m G H=>m=xs.length-i/\i<=xs.length/\Pv i G H,⟨xs.length,by simp,gy _,h0⟩,?_⟩;rintro i m G H ⟨rfl,hi,p⟩;have q:=hl i G H hi p;by_cases ZN:i<xs.length
 .refine .inr ⟨⟨xs,xs[i],q,by simp⟩,_,λY1 H' p'=>⟨_,by omega,rfl,ZN,p'⟩,λx H' y=>?_⟩
  obtain⟨e,y⟩:=y;subst e;exact hs i x G _ (y xs q) p
 .have e:i=xs.length:=by omega
  subst e;exact .inl ⟨⟨xs,q,ao _⟩,hd G H p⟩
variable{n:Nat}
theorem AJ{lo:Int}{g:TG}{G:St}{H:Hp}(Pv:Nat->St->Hp->Prop)(h0:Pv 0 G H)
  (hs:∀i G H,i<n->Pv i G H->g (.int (lo+i)) G H λY7 H2=>tb { D with nx:=Pv (i+1),ct:=Pv (i+1),bk:=D.nx } Y7 H2) (hd:∀G H,Pv n G H->D.nx G H):
  ∃W:Nat->Nat->St->Hp->Prop,(∃m,W 0 m G H) /\ ∀i m G H,W i m G H ->
   ((Itr lo n).stop i H/\D.nx G H)\/((Itr lo n).go i H /\ ∃N:St->Hp->Prop,(∀Y1 H',N Y1 H'->∃m',m'<m/\W (i+1) m' Y1 H') /\ ∀x H',(Itr lo n).yld i H x H'->g x G H' λY7 H2=>tb { D with nx:=N,ct:=N,bk:=D.nx } Y7 H2):=by
 refine⟨λi m G H=>m=n-i/\i<=n/\Pv i G H,⟨n,by simp,gy _,h0⟩,?_⟩;rintro i m G H ⟨rfl,hi,p⟩;by_cases ZN:i<n
 .refine .inr ⟨ZN,_,λY1 H' p'=>⟨_,by omega,rfl,ZN,p'⟩,λx H' y=>?_⟩
  obtain⟨e,y⟩:=y
  simp_all
 .have e:i=n:=by omega
  subst e;exact .inl ⟨ao _,hd G H p⟩
abbrev R2:=V->V->Hp->VK->Prop
def OpR(X:Cx)(f:f_->f_->Sem f_)(r:R2):Prop:=
 ∀(pins:List (e_×Obj)) (s:g_) (G:St) (H:Hp) (x y:V) (v u:f_) (Q:VK),Inv X pins G H s->RelV x v->RelV y u->r x y H Q ->
  aR (model X.prog X.w) X.A (f v u) (EP X pins G Q) X.xe s
def UnR(X:Cx)(f:f_->Sem f_)(r:V->Hp->VK->Prop):Prop:=
 ∀(pins:List (e_×Obj)) (s:g_) (G:St) (H:Hp) (x:V) (v:f_) (Q:VK),Inv X pins G H s->RelV x v->r x H Q ->
  aR (model X.prog X.w) X.A (f v) (EP X pins G Q) X.xe s
def gE(X:Cx)(f:f_)(r:List V->Hp->VK->Prop):Prop:=
 ∀(pins:List (e_×Obj)) (s:g_) (G:St) (H:Hp) (xs:List V) (us:List f_) (Q:VK),Inv X pins G H s->cf xs us->r xs H Q ->
  aR (model X.prog X.w) X.A (call f us) (EP X pins G Q) X.xe s
def tOp(r:R2)(ta tb:TE):TE:=λG H Q=>ta G H λx H1=>tb G H1 λy H2=>r x y H2 Q
def tUn(r:V->Hp->VK->Prop)(ta:TE):TE:=λG H Q=>ta G H λx H1=>r x H1 Q
def rI(C:Int->Int->Prop)(g:Int->Int->V):R2:=λx y H Q=>∃i j,x=.int i/\y=.int j/\C i j/\Q (g i j) H
def rI0(g:Int->Int->V):R2:=λx y H Q=>∃i j,x=.int i/\y=.int j/\Q (g i j) H
def rU(g:Int->V):V->Hp->VK->Prop:=λx H Q=>∃i,x=.int i/\Q (g i) H
section
variable {X:Cx}{a b c:Expr}{ta tb tc:TE}{pos:Pos}
variable{f:f_->f_->Sem f_}
theorem Kn(ha:PE X a ta)(hb:PE X b tb){R:V->V->Hp->Prop}(I:Inv X pins G H s)
  (h:ta G H λx H1=>tb G H1 λy H2=>R x y H2) {Q:f_->g_->Prop}
  (hf:∀v u s2 x y H2,Inv X pins G H2 s2->RelV x v->RelV y u->R x y H2->aR (model X.prog X.w) X.A (f v u) Q X.xe s2):
  aR (model X.prog X.w) X.A (eval a X.env) (λv ZT=>aR (model X.prog X.w) X.A (eval b X.env) (λu ZZ=>aR (model X.prog X.w) X.A (f v u) Q X.xe ZZ) X.xe ZT) X.xe s:=thn (ha _ s G H _ I h) λv s1 ⟨x,H1,I1,r1,q1⟩=>(thn (hb _ s1 G H1 _ I1 q1) λu s2 ⟨y,H2,I2,r2,q2⟩=>(hf v u s2 x y H2 I2 r1 r2 q2))
theorem rE{op:Operator}{r:R2}(ho:OpR X (binaryOp op) r)(ha:PE X a ta)(hb:PE X b tb):PE X (.BinOp a op b pos) (tOp r ta tb):=λpins s G H Q I h=>wpAny_BinOp (Kn ha hb I h λv u s2 x y H2 I2 rx ry q=>ho _ s2 G H2 x y v u Q I2 rx ry q)
theorem G4{op:UnaryOp}{r:V->Hp->VK->Prop}(ho:UnR X (unaryOp op) r)(ha:PE X a ta):PE X (.UnaryOp op a pos) (tUn r ta):=λpins s G H Q I h=>UnaryOp_ (thn (ha _ s G H _ I h) λv s1 ⟨x,H1,I1,r1,q1⟩=>ho _ s1 G H1 x v Q I1 r1 q1)
variable{g:Int->Int->Int}
theorem opI{C:Int->Int->Prop}
  (rule:∀(i j:Int) (t u:Tok) (s:g_) (Q:f_->g_->Prop) (E:f_->g_->Prop),C i j->Q (.int (g i j) s.toks) { s with toks:=s.toks+1 }->aR (model X.prog X.w) X.A (f (.int i t) (.int j u)) Q E s):
  OpR X f (rI C λi j=>.int (g i j)):=by
 intro pins s G H x y v u Q I rx ry h;obtain⟨i,j,rfl,rfl,hc,q⟩:=h;obtain⟨t,rfl⟩:=rx;obtain⟨t',rfl⟩:=ry;exact rule i j t t' s _ _ hc ⟨.int _,H,I.tok _,⟨_,rfl⟩,q⟩
theorem M7
  (rule:∀(i j:Int) (t u:Tok) (s:g_) (Q:f_->g_->Prop) (E:f_->g_->Prop),Q (.int (g i j) s.toks) { s with toks:=s.toks+1 }->aR (model X.prog X.w) X.A (f (.int i t) (.int j u)) Q E s):
  OpR X f (rI0 λi j=>.int (g i j)):=by
 intro pins s G H x y v u Q I rx ry h;obtain⟨i,j,rfl,rfl,q⟩:=h;obtain⟨t,rfl⟩:=rx;obtain⟨t',rfl⟩:=ry;exact rule i j t t' s _ _ ⟨.int _,H,I.tok _,⟨_,rfl⟩,q⟩
theorem Gx{g:Int->Int->Bool}
  (rule:∀(i j:Int) (t u:Tok) (s:g_) (Q:f_->g_->Prop) (E:f_->g_->Prop),Q (.bool (g i j)) s->aR (model X.prog X.w) X.A (f (.int i t) (.int j u)) Q E s):
  OpR X f (rI0 λi j=>.bl (g i j)):=by
 intro pins s G H x y v u Q I rx ry h;obtain⟨i,j,rfl,rfl,q⟩:=h;obtain⟨t,rfl⟩:=rx;obtain⟨t',rfl⟩:=ry;exact rule i j t t' s _ _ ⟨.bl _,H,I,rfl,q⟩
def K8(i j:Int):Prop:=0<j/\j<1073741824
def NZ(i j:Int):Prop:=0<=j/\j<=1000000/\i.natAbs<2^64
def F3(i j:Int):Prop:=(-(2^64)<i/\i<2^64)\/(-(2^64)<j/\j<2^64)
theorem F3.ok{i j:Int}(h:F3 i j):IntMulOk i j:=by
 rcases h with⟨h1,h2⟩|⟨h1,h2⟩
 .exact .of_left (intBits_le_64 h1 h2)
 .exact .of_right (intBits_le_64 h1 h2)
theorem IA:OpR X (binaryOp .Add) (rI0 λi j=>.int (i+j)):=M7 λ_ _ _ _ _ _ _ q=>add_int q
theorem JD:OpR X (binaryOp .Sub) (rI0 λi j=>.int (i-j)):=M7 λ_ _ _ _ _ _ _ q=>sub_int q
theorem IG:OpR X (binaryOp .Mult) (rI F3 λi j=>.int (i*j)):=opI λ_ _ _ _ _ _ _ hc q=>mul_int q hc.ok
theorem Gm:OpR X (binaryOp .FloorDiv) (rI K8 λi j=>.int (i/j)):=opI λi j _ _ _ _ _ hc q=>by
 have h1:=hc.1;have h2:=hc.2;exact floordiv_int (by omega) (by rw[Int.fdiv_eq_ediv_of_nonneg i (by omega)];omega) (.inl (PyProof.noPylong_small (by omega)))
theorem Ik:OpR X (binaryOp .Mod) (rI (λ_ j=>0<j) λi j=>.int (i%j)):=opI λi j _ _ _ _ _ hc q=>mod_int' (by omega) (by rw[Int.fmod_eq_emod_of_nonneg i (by omega)];omega)
theorem KQ:OpR X (binaryOp .Pow) (rI NZ λi j=>.int (i^j.toNat)):=opI λ_ _ _ _ _ _ _ hc q=>pow_int_small hc.1 hc.2.1 hc.2.2 q
theorem unI{f:f_->Sem f_}{g:Int->Int}
  (rule:∀(i:Int) (t:Tok) (s:g_) (Q:f_->g_->Prop) (E:f_->g_->Prop),Q (.int (g i) s.toks) { s with toks:=s.toks+1 }->aR (model X.prog X.w) X.A (f (.int i t)) Q E s):
  UnR X f (rU λi=>.int (g i)):=by
 intro pins s G H x v Q I rx h;obtain⟨i,rfl,q⟩:=h;obtain⟨t,rfl⟩:=rx;exact rule i t s _ _ ⟨.int _,H,I.tok _,⟨_,rfl⟩,q⟩
theorem B8:UnR X (unaryOp .USub) (rU λi=>.int (-i)):=unI λ_ _ _ _ _ q=>neg_int q
end
section
variable {X:Cx}{a b c:Expr}{ta tb tc:TE}{pos:Pos}
theorem Ii{Q:VK}{k k':Bool}(I:Inv X pins G H s)(q:Q (.bl k) H)(e:k=k'):EP X pins G Q (.bool k') s:=by
 subst e;exact⟨.bl k,H,I,rfl,q⟩
theorem MW:OpR X (compareOp .Lt) (rI0 λi j=>.bl (decide (i<j))):=Gx λ_ _ _ _ _ _ _ q=>lt_int q
theorem Nj:OpR X (compareOp .LtE) (rI0 λi j=>.bl (decide (i<=j))):=Gx λ_ _ _ _ _ _ _ q=>le_int q
theorem K5:OpR X (compareOp .Gt) (rI0 λi j=>.bl (decide (j<i))):=Gx λ_ _ _ _ _ _ _ q=>gt_int q
theorem NC:OpR X (compareOp .GtE) (rI0 λi j=>.bl (decide (j<=i))):=Gx λ_ _ _ _ _ _ _ q=>ge_int q
theorem Bs:OpR X (compareOp .In) (λx y H Q=>∃i j,x=.str i/\y=.str j/\Q (.bl (!(cU j i 0 j.length 1).isEmpty)) H):=by
 intro pins s G H x y v u Q I rx ry h;obtain⟨i,j,rfl,rfl,q⟩:=h;obtain⟨t,rfl⟩:=rx;obtain⟨t',rfl⟩:=ry;exact in_str (Ii I q rfl)
variable{r r':R2}
theorem OpR.or{f:f_->f_->Sem f_}(h:OpR X f r)(h':OpR X f r'):OpR X f (λx y H Q=>r x y H Q\/r' x y H Q):=by
 intro pins s G H x y v u Q I rx ry q;rcases q with q|q
 .exact h _ s G H x y v u Q I rx ry q
 .exact h' _ s G H x y v u Q I rx ry q
variable{op:CmpOp}
theorem zQ(ho:OpR X (compareOp op) r)(ha:PE X a ta)(hb:PE X b tb)(hm:behindInMarks op b=d_):PE X (.Compare a [op] [b] pos) (tOp r ta tb):=λpins s G H Q I h=>wpAny_Compare1 (Kn ha hb I h λv u s2 x y H2 I2 rx ry q=>ho _ s2 G H2 x y v u Q I2 rx ry q) hm
def Ec(t:TE):TT:=λG H Q=>t G H λx H'=>∃k,x=.bl k/\Q k H'
theorem EV(ho:OpR X (compareOp op) r)(ha:PE X a ta)(hb:PE X b tb)(hm:behindInMarks op b=d_):PT X (.Compare a [op] [b] pos) (Ec (tOp r ta tb)):=by
 intro pins s G H Q I h
 refine wpAny_isTrue_Compare1 (thn (ha _ s G H _ I h) λv s1 ⟨x,H1,I1,r1,q1⟩=>thn (hb _ s1 G H1 _ I1 q1) λu s2 ⟨y,H2,I2,r2,q2⟩=>
  thn (ho _ s2 G H2 x y v u _ I2 r1 r2 q2) λc s3 ⟨z,H3,I3,r3,k,e,q3⟩ =>?_) hm
 subst e;cases r3;exact cX ⟨H3,I3,q3⟩
def yU(r r':R2)(ta tb tc:TE):TE:=λG H Q=>ta G H λx H1=>tb G H1 λy H2=>r x y H2 λz H3=>∃k,z=.bl k /\
 (if k=c_ then tc G H3 λw' H4=>r' y w' H4 Q else Q (.bl d_) H3)
theorem BX{Z8:CmpOp}(ho:OpR X (compareOp op) r)(Zr:OpR X (compareOp Z8) r')(ha:PE X a ta)(hb:PE X b tb)(hc:PE X c tc)
  (hm:lastMarks [op,Z8] [b,c]=d_:=by with_unfolding_all rfl):PE X (.Compare a [op,Z8] [b,c] pos) (yU r r' ta tb tc):=by
 intro pins s G H Q I h
 refine Compare_chain (thn (ha _ s G H _ I h) λv s1 ⟨x,H1,I1,r1,q1⟩=>chain_link (thn (hb _ s1 G H1 _ I1 q1) λu s2 ⟨y,H2,I2,r2,q2⟩=>
  thn (ho _ s2 G H2 x y v u _ I2 r1 r2 q2) λd s3 ⟨z,H3,I3,r3,k,e,q3⟩ =>?_)) hm
 subst e;cases r3;refine cX ?_;cases k with
 |false=>exact ite_ff ⟨.bl _,H3,I3,rfl,q3⟩
 |true=>exact ite_tt (chain_last (thn (hc _ s3 G H3 _ I3 q3) λw' s4 ⟨z',H4,I4,r4,q4⟩=>Zr _ s4 G H4 y z' u w' Q I4 r2 r4 q4))
theorem Ci{Z8:CmpOp}(ho:OpR X (compareOp op) r)(Zr:OpR X (compareOp Z8) r')(ha:PE X a ta)(hb:PE X b tb)(hc:PE X c tc)
  (hm:lastMarks [op,Z8] [b,c]=d_:=by with_unfolding_all rfl):PT X (.Compare a [op,Z8] [b,c] pos) (Ec (yU r r' ta tb tc)):=by
 intro pins s G H Q I h
 refine isTrue_chain (thn (ha _ s G H _ I h) λv s1 ⟨x,H1,I1,r1,q1⟩=>test_link (thn (hb _ s1 G H1 _ I1 q1) λu s2 ⟨y,H2,I2,r2,q2⟩=>
  thn (ho _ s2 G H2 x y v u _ I2 r1 r2 q2) λd s3 ⟨z,H3,I3,r3,k,e,q3⟩ =>?_)) hm
 subst e;cases r3;refine cX ?_;cases k with
 | false=>
   obtain⟨k',e',q'⟩:=q3;cases e';exact ite_ff ⟨H3,I3,q'⟩
 | true=>
   refine ite_tt (test_last (thn (hc _ s3 G H3 _ I3 q3) λw' s4 ⟨z',H4,I4,r4,q4⟩=>thn (Zr _ s4 G H4 y z' u w' _ I4 r2 r4 q4) λd' s5 ⟨z2,H5,I5,r5,k2,e2,q5⟩=>?_));subst e2;cases r5;exact cX ⟨H5,I5,q5⟩
theorem o8:(sizeLine:Nat)<2^63:=by decide
theorem yJ:OpR X (binaryOp .Add) (λx y H Q=>∃i j,x=.str i/\y=.str j/\i.length+j.length<=sizeLine/\Q (.str (i++j)) H):=by
 intro pins s G H x y v u Q I rx ry h;obtain⟨i,j,rfl,rfl,hz,q⟩:=h;obtain⟨t,rfl⟩:=rx;obtain⟨t',rfl⟩:=ry;exact add_str (λt' tk=>⟨.str (i++j),H,I.tok _,⟨_,rfl⟩,q⟩) hz
theorem vals1(r:cf [x] us):∃u,us=[u]/\RelV x u:=by
 cases r with
 |cons r1 r2=>cases r2;exact⟨_,rfl,r1⟩
theorem vals2{y:V}(r:cf [x,y] us):∃u w',us=[u,w']/\RelV x u/\RelV y w':=by
 cases r with
 | cons r1 r2=>
   cases r2 with
   |cons r3 r4=>cases r4;exact⟨_,_,rfl,r1,r3⟩
theorem AR(hc:X.calm=c_):gE X (.builtin "max") (fun xs H Q=>∃ i j,xs=[.int i,.int j]/\Q (.int (if j>i then j else i)) H):=by
 intro pins s G H xs us Q I r h;obtain⟨i,j,rfl,q⟩:=h;obtain⟨u,w',rfl,⟨t,rfl⟩,⟨t',rfl⟩⟩:=vals2 r;refine max_two_ints (I.ok.hd hc) λh' tk k=>⟨_,H,I.kept k,?_,q⟩;by_cases hj:j>i
 .rw[if_pos hj,if_pos hj];exact⟨_,rfl⟩
 .rw[if_neg hj,if_neg hj];exact⟨_,rfl⟩
theorem AN(hc:X.calm=c_):gE X (.builtin "min") (fun xs H Q=>∃ i j,xs=[.int i,.int j]/\Q (.int (if j<i then j else i)) H):=by
 intro pins s G H xs us Q I r h;obtain⟨i,j,rfl,q⟩:=h;obtain⟨u,w',rfl,⟨t,rfl⟩,⟨t',rfl⟩⟩:=vals2 r;refine min_two_ints (I.ok.hd hc) λh' tk k=>⟨_,H,I.kept k,?_,q⟩;by_cases hj:j<i
 .rw[if_pos hj,if_pos hj];exact⟨_,rfl⟩
 .rw[if_neg hj,if_neg hj];exact⟨_,rfl⟩
theorem uS:gE X (.type "str") (fun xs H Q=>∃ i,xs=[.int i]/\i.natAbs.log2<1920/\Q (.str (toString i)) H):=by
 intro pins s G H xs us Q I r h;obtain⟨i,rfl,hz,q⟩:=h;obtain⟨u,rfl,t,rfl⟩:=vals1 r;exact PySem.P.str_of_int hz ⟨.str _,H,I.tok _,⟨_,rfl⟩,q⟩
end
structure JH(h:Heap)(x dx C:e_)(mA:Str->Option f_):Prop where
 obj:h.get? x=a_ (sU C dx)
 ns:h.Ns1 dx mA
 ne:dx≠x
variable{mA:Str->Option f_}
theorem AL{dx:e_}(n:h.Ns1 dx mA):∃od,h.get? dx=a_ od /\ ∀name,vt name od=a_ (mA name):=by
 obtain⟨o,es,ep,ho,hd,hk,_,hm⟩:=n;refine⟨o,ho,λname=>?_⟩;have e:=hm name;unfold nsFind findBy at e;rw[<-Array.find?_toList]at e;unfold vt;rw[hd];dsimp only
 split
 .grind
 .have a:es.toList.any (·.refKey)=d_:=by
   rw[List.any_eq_false];intro y hy;obtain⟨z,t,VH⟩:=hk y (Eu.mp hy);simp[DictEntry.refKey,VH]
  grind
theorem JH.look{x dx C:e_}(I:JH h x dx C mA):∃od,PySem.W.InstAt h x (sU C dx) C (a_ od) /\ ∀name,vt name od=a_ (mA name):=
 let ⟨od,ho,hl⟩:=AL I.ns
 ⟨od,⟨I.obj,rfl,rfl,ho⟩,hl⟩
section
variable {prog:Program}{w:World}{A:Around}{E:f_->g_->Prop}{s:g_}{K:ai}{x dx C f:e_}{mA:Str->Option f_}{name:Str}{v:f_}
end
theorem qU.some_of{v:V}{o:Option f_}(r:qU (a_ v) o):∃u,o=a_ u/\RelV v u:=by
 cases o with
 |none=>exact(r).elim
 |some u=>exact⟨u,rfl,r⟩
section
variable {P:Program}{w:World}{H H':Hp}{h h':Heap}{a C dx:e_}{fs RL:List (Str×V)}
theorem E8(hok:HOk P w H h)(e:H a=a_ (.ins C dx fs)):∃mA,JH h a dx C mA/\(∀f,qU (fs.lookup f) (mA f))/\PySem.Within mA (fs.map (·.1))/\fs.length<=1000/\H dx=a_ (.own a):=by
 obtain⟨d,z,ne,ob,mA,n,r,q⟩:=(hok a _ e);exact⟨mA,⟨ob,n,ne⟩,r,q,z,d⟩
end
structure Cls(K:ai)(C:e_):Prop where
 pg:PySem.W.plainGet K C fQ=c_
 hd:PySem.W.hasDictIn K C=c_
 po:PySem.W.plainOver K C=c_
 sa:PySem.W.findIn K (.ref C) "__setattr__"=a_ (a_ (.builtin "object.__setattr__"))
theorem Cls.get{C:e_}(c:Cls K C)(f:Str):PySem.W.plainGet K C f=c_:=c.pg
section
variable {X:Cx}{pins:List (e_×Obj)}{G:St}{H:Hp}{s:g_}{a C dx:e_}{fs:List (Str×V)}{f:Str}{v:V}{A:Around}{E:f_->g_->Prop}
end
section
variable {X:Cx}{o e value:Expr}{f:Str}{pos pos' W5:Pos}{ta tv:TE}
end
section
variable {X:Cx}{pins:List (e_×Obj)}{G:St}{H:Hp}{s:g_}{A:Around}{E:f_->g_->Prop}{Q:f_->g_->Prop}{c:f_}{b:Bool}
inductive nj(K:ai)(H:Hp):V->f_->Prop where
 |non:nj K H .non (.type "NoneType")
 |bl (x:Bool):nj K H (.bl x) (.type "bool")
 |int (i:Int):nj K H (.int i) (.type "int")
 |str (x:Str):nj K H (.str x) (.type "str")
 |flt (x:UInt64):nj K H (.flt x) (.type "float")
 |lst {a:e_}{xs:List V} (e:H a=a_ (.lst xs)):nj K H (.ref a) (.type "list")
 |frz {a:e_}{o:Obj}{xs:List V} (e:H a=a_ (.frz o (.lst xs))):nj K H (.ref a) (.type "list")
 |tup {a:e_}{xs:List V} (e:H a=a_ (.tup xs)):nj K H (.ref a) (.type "tuple")
 |dK {a:e_}{kvs:List (Key×V)} (e:H a=a_ (.dK kvs)):nj K H (.ref a) (.type "dict")
 |dT {a:e_}{kvs:List (List Key×V)} (e:H a=a_ (.dT kvs)):nj K H (.ref a) (.type "dict")
 | ins {a C dx:e_}{fs:List (Str×V)} (e:H a=a_ (.ins C dx fs)) (cl:Cls K C) (ha:PySem.W.findIn K (.ref C) "__class__"=a_ (a_ (.builtin "object.__class__")))
   (hn:PySem.W.specialIn K (.builtin "object.__class__") "__get__"=a_ (a_ (.builtin "getset_descriptor.__get__"))) (htk:PySem.W.takesIn K (.builtin "object.__class__")=a_ c_)
   (hm:PySem.W.mroIn K C (.type "object")=a_ c_):nj K H (.ref a) (.ref C)
theorem AB{t:f_}(I:Inv X pins G H s)(rx:RelV x u)(ty:nj X.K H x t)(e:b9 X.K t c=a_ b)(h:∀tk,Q (.bool b) { s with toks:=tk }):
  aR (model X.prog X.w) A (call (.builtin "isinstance") [u,c]) Q E s:=by
 cases ty with
 |non=>cases (rx);exact cq EF I.kIn fj e (λz=>nomatch z) h
 |bl y=>cases (rx);exact cq PySem.W.kitx_bool I.kIn fj e (λz=>nomatch z) h
 |int i=>obtain⟨t,q⟩:=(rx);cases q;exact cq PySem.W.kitx_int I.kIn fj e (λz=>nomatch z) h
 |str y=>obtain⟨t,q⟩:=(rx);cases q;exact cq PySem.W.kitx_str I.kIn fj e (λz=>nomatch z) h
 |flt y=>obtain⟨t,q⟩:=(rx);cases q;exact cq PySem.W.kitx_float I.kIn fj e (λz=>nomatch z) h
 | @lst a xs ea=>
   cases (rx);obtain⟨_,_,n,_,h1⟩:=(I.hok a _ ea);exact cq EG I.kIn ⟨_,h1,rfl⟩ e (λz=>nomatch z) h
 | @frz a ob xs ea=>
   cases (rx);obtain⟨_,_,_,n,_,h1⟩:=(I.hok a _ ea);exact cq EG I.kIn ⟨_,h1,rfl⟩ e (λz=>nomatch z) h
 | @tup a xs ea=>
   cases (rx);obtain⟨_,_,_,p⟩:=(I.hok a _ ea);obtain⟨o,h1,h2,_⟩:=p.1;exact cq PySem.W.kitx_tuple I.kIn ⟨o,h1,h2⟩ e (λz=>nomatch z) h
 | @dK a kvs ea=>
   cases (rx);obtain⟨_,_,vs,_,p⟩:=(I.hok a _ ea);obtain⟨o,es,ep,h1,h2,_⟩:=p;exact cq EH I.kIn ⟨o,h1,h2.1⟩ e (λz=>nomatch z) h
 | @dT a kvs ea=>
   cases (rx);obtain⟨_,_,xs,_,o,es,ep,h1,h2,_⟩:=(I.hok a _ ea);exact cq EH I.kIn ⟨o,h1,h2.1⟩ e (λz=>nomatch z) h
 | @ins a C dx fs ea cl ha hn htk hm=>
   cases (rx);obtain⟨mA,O,_⟩:=E8 I.hok ea;obtain⟨od,J,_⟩:=O.look;exact cq (PySem.W.kitx_own (cl.get _) cl.hd ha hn htk hm) I.kIn J e (λz=>nomatch z) h
end
structure j7(k:Nat)(A:Around):Prop where
 hd:A.handled=b_
 dp:A.depth+3*k+5<recursionLimit
 un:A.units+16*k+200<cLine
 gu:A.guards=a_ []
theorem j7.mono{j k:Nat}(r:j7 k A)(h:j<=k):j7 j A:=⟨r.hd,by have:=r.dp;omega,by have:=r.un;omega,r.gu⟩
theorem j7.deeper{k:Nat}(r:j7 (k+1) A)(env:Env):j7 k (A.deeper env):=
 ⟨r.hd,by have:=r.dp;show A.depth+1+3*k+5<_;omega,by have:=r.un;show A.units+3+16*k+200<_;omega,r.gu⟩
theorem j7.depth{k:Nat}(r:j7 k A):A.depth<recursionLimit:=by have:=r.dp;omega
theorem j7.units{k:Nat}(r:j7 k A):A.units+64<cLine:=by have:=r.un;omega
def Dv:TA:=λ_ H Q=>Q [] H
def vK(ta:TE)(tr:TA):TA:=λG H Q=>ta G H λx H1=>tr G H1 λxs H2=>Q (x::xs) H2
section
variable {X:Cx}{e:Expr}{es:List Expr}{te:TE}{t:TA}{pos:Pos}
theorem yL:PA X [] Dv:=λ_ _ _ _ H Q I h=>iM ⟨[],H,I,.nil,h⟩
theorem l6(ha:PE X e te)(hr:PA X es t)(hs:autoParam (starEach (e::es) X.env=(d_,eval e X.env)::starEach es X.env) au1._auto_1):PA X (e::es) (vK te t):=by
 intro pos pins s G H Q I h;rw[hs];exact fi (thn (ha _ s G H _ I h) λu s1 ⟨x,H1,I1,r1,q1⟩=>(thn (hr _ _ s1 G H1 _ I1 q1) λus s2 ⟨xs,H2,I2,r2,q2⟩=>⟨_,H2,I2,.cons r1 r2,q2⟩))
def MM(t:TA):TE:=λG H Q=>t G H λxs H1=>xs.length<=sizeLine /\ ∀p,H1 p=b_->Q (.ref p) (upd H1 p (.tup xs))
def Mg(t:TA):TE:=λG H Q=>t G H λxs H1=>xs.length<=sizeLine /\ ∀p,H1 p=b_->Q (.ref p) (upd H1 p (.lst xs))
theorem IH{x1}(h:PA X es t):PE X (.Tuple es x1 pos) (MM t):=by
 intro pins s G H Q I hq;refine wpAny_Tuple_spliced (thn (h _ _ s G H _ I hq) λus s1 ⟨xs,H1,I1,r,z,q⟩=>⟨by rw[<-r.length];omega,?_⟩);refine⟨.ref _,_,I1.laid (λb u e=>aw _ e) (ao _) ?_,rfl,q _ (I1.hok.fresh (ao _))⟩;exact⟨z,us,r,⟨_,aI _ rfl,rfl,_,rfl⟩,_,aI _ rfl,rfl⟩
theorem IC(h:PA X es t):PE X (.List es pos) (Mg t):=by
 intro pins s G H Q I hq;refine wpAny_List_spliced (thn (h _ _ s G H _ I hq) λus s1 ⟨xs,H1,I1,r,z,q⟩=>⟨by rw[<-r.length];omega,?_⟩);refine⟨.ref _,_,I1.laid (λb u e=>aw _ e) (ao _) ?_,rfl,q _ (I1.hok.fresh (ao _))⟩;exact⟨z,us,0,r,aI _ rfl⟩
end
abbrev Sp:=List V->Hp->VK->XK->Prop
abbrev CXT:=List Env->Hp->g_->XK->f_->g_->Prop
structure Ay(P:Program)(w:World)(K:ai)(mg:Str->Option f_)(base:Heap)(A:Around)(outer:List Env)(s:g_)(H:Hp):Prop where
 frames:A.frames=a_ outer
 mod:Mod K mg base
 bs:∀b o,base.get? b=a_ o->s.heap.get? b=a_ o/\H b=b_
 bsz:base.objs.size<=s.heap.objs.size
 funs:s.heap.FunFrames base outer
 frf:∀b∈frs outer,H b=b_
 hok:HOk P w H s.heap
 bare:AllBare s.gens
def CE(outer:List Env)(P:Program)(w:World)(H:Hp)(s:g_)(Q:VK)(u:f_)(s':g_):Prop:=
 ∃v H',s'.os=s.os/\AllBare s'.gens/\Un (frs outer) [] H H' s.heap s'.heap/\HOk P w H' s'.heap/\RelV v u/\Q v H'
def CR(CX:CXT)(outer:List Env)(P:Program)(w:World)(H:Hp)(s:g_)(Q:VK)(E:XK)(r:Result)(s':g_):Prop:=
 match r with
 |.ok (.ret u)=>CE outer P w H s Q u s'
 |.ok _=>False
 |.error e=>CX outer H s E e s'
structure g9(P:Program)(w:World)(K:ai)(mg:Str->Option f_)(base:Heap)(CX:CXT)(k:Nat)(f:e_)(fd:FuncData)(ps:List Str)(sp:Sp):Prop where
 len:∀vs H Q E,sp vs H Q E->vs.length=ps.length
 run:∀(A:Around) (outer:List Env) (s:g_) (H:Hp) (args:Args) (us:List f_) (vs:List V) (Q:VK) (E:XK),j7 k A->Ay P w K mg base A outer s H->BindsTo s fd args (ps.zip us)->cf vs us->sp vs H Q E ->
  se (model P w) A (.call (.ref f) args) (CR CX outer P w H s Q E) s
variable{f:e_}{mg:Str->Option f_}{base:Heap}{CX:CXT}{fd:FuncData}{ps:List Str}
theorem g9.imp{k:Nat}{sp UW:Sp}(F:g9 P w K mg base CX k f fd ps sp)
  (h:∀vs H Q E,UW vs H Q E->sp vs H Q E):g9 P w K mg base CX k f fd ps UW:=
 ⟨λvs H Q E q=>F.len vs H Q E (h _ _ _ _ q),λA outer s H args us vs Q E hr he hb hv hs=>F.run A _ s H _ us vs Q E hr he hb hv (h _ _ _ _ hs)⟩
section
variable {X:Cx}{pins:List (e_×Obj)}{G:St}{H:Hp}{s s':g_}
theorem Inv.env0(I:Inv X pins G H s):Ay X.prog X.w X.K X.mg X.base X.A X.stack s H:=
 ⟨I.ok.frames,I.ok.mod,I.bs,aA I.ok.bsz I.sz,I.stack,I.stkFree,I.hok,I.bare⟩
theorem Inv.after{Q:VK}(I:Inv X pins G H s)(h:CE X.stack X.prog X.w H s Q u s'):EP X pins G Q u s':=by
 obtain⟨v,H',os,bare,un,hok,r,q⟩:=h;obtain⟨hh,g,d,t,Wu⟩:=s';obtain rfl:Wu=s.os:=os;exact⟨v,H',I.call un hok bare (λb z=>absurd z (by simp)),r,q⟩
end
def zx(sp:Sp)(Yk:List V)(E:XK)(t:TA):TE:=λG H Q=>t G H λvs H1=>sp (vs++Yk) H1 Q E
def Binds(K:ai)(fd:FuncData)(ps:List Str)(ds:List f_):Prop:=
 ∀(s:g_) (us:List f_),K.In s.heap->(us++ds).length=ps.length->BindsTo s fd ⟨us,[]⟩ (ps.zip (us++ds))
theorem Binds.all(h:∀us:List f_,us.length=ps.length->bindArgs fd ⟨us,[]⟩=pure (ps.zip us)):Binds K fd ps []:=λs us _ hl=>by
 rw[fF]at hl ⊢;exact .of_eq (h us hl)
def nc(CX:CXT)(X:Cx)(E:XK):Prop:= ∀(pins:List (e_×Obj)) (G:St) (H:Hp) (s:g_) (e:f_) (s':g_),Inv X pins G H s->CX X.stack H s E e s'->X.xe e s'
section
variable {X:Cx}{CX:CXT}{k:Nat}{f C:e_}{fd:FuncData}{ps:List Str}{sp:Sp}{Yk:List V}{ds:List f_}{E:XK}{x m:Str}{p pos apos:Pos}{e o:Expr}{es:List Expr}{ta:TE}{t:TA}
theorem pj{Q:VK}{vs:List V}(F:g9 X.prog X.w X.K X.mg X.base CX k f fd ps sp)(hr:j7 k X.A)(hb:Binds X.K fd ps ds)(hd:cf Yk ds)(hx:nc CX X E)
  (I:Inv X pins G H s) (r:cf vs us) (h:sp (vs++Yk) H Q E):aR (model X.prog X.w) X.A (call (.ref f) us) (EP X pins G Q) X.xe s:=by
 have r2:=r.append hd;refine wpAny_call (pI (F.run _ _ s H _ _ _ Q E hr I.env0 (hb s us I.kIn (by rw[<-r2.length];exact F.len _ _ _ _ h)) r2 h) λr s' hq=>?_);cases r with
 |error e=>exact hx _ G H s e s' I hq
 | ok fl=>
   cases fl with
   |ret u=>exact I.after hq
   |next=>exact cp hq
   |brk=>exact cp hq
   |cont=>exact cp hq
theorem uj(F:g9 X.prog X.w X.K X.mg X.base CX k f fd ps sp)(hr:j7 k X.A)(hg:Gl X x)(hm:X.mg x=a_ (.ref f))(hk:cb X.K (.ref f)=c_)(hb:Binds X.K fd ps ds)(hd:cf Yk ds)(hx:nc CX X E)
  (ha:PA X (e::es) t) (XS:autoParam ((x==("__debug__":Str))=d_) au2._auto_1) (he:autoParam (starEach (e::es) X.env=(d_,eval e X.env)::starEach es X.env) au1._auto_1) (ZQ:autoParam ((backTo pos (starEach es X.env)).any (·.1)=d_) au1._auto_1) :
  PE X (.Call (.Name x p) (e::es) [] pos) (zx sp Yk E t):=λpins s G H Q I h=>di (jC I hg hm (jX I.ok.mod.kin hk (thn (ha _ _ s G H _ I h) λus s1 ⟨vs,H1,I1,r,q⟩=>⟨I1.kIn,(pj F hr hb hd hx I1 r q)⟩) he ZQ) XS)
theorem BN(F:g9 X.prog X.w X.K X.mg X.base CX k f fd ps sp)(hr:j7 k X.A)(hg:Gl X x)(hm:X.mg x=a_ (.ref f))(hk:cb X.K (.ref f)=c_)(hb:Binds X.K fd ps ds)(hd:cf Yk ds)(hx:nc CX X E)
  (XS:autoParam ((x==("__debug__":Str))=d_) au2._auto_1):PE X (.Call (.Name x p) [] [] pos) (zx sp Yk E Dv):=fun pins s G H Q I h=>di (jC I hg hm (Bx I.kIn hk (pj F hr hb hd hx I .nil h)) XS)
end
section
variable {X:Cx}{CX:CXT}{k:Nat}{f C:e_}{fd:FuncData}{ps ks:List Str}{sp:Sp}{E:XK}{x m:Str}{p pos apos kpos:Pos}{e o:Expr}{es:List Expr}{Wp:List Keyword}{te ta:TE}{t tk:TA}{nm:Option Str}
variable {g:List f_->List f_->List f_}{gV:List V->List V->List V}
end
structure aZ(N P:List Str)(sc:Scope):Prop where
 kind:sc.kind=.function
 co:sc.isCoroutine=d_
 gen:sc.isGenerator=d_
 nd:N.Nodup
 pre:N.take P.length=P
 par:∀x∈P,sc.names.lookup x=a_ .local\/sc.names.lookup x=a_ .cell
 nofree:∀y∈sc.names,y.2≠.free
theorem ub{kindOf:Str->Option NameKind}{x:Str}:∀{binds:List (Str×f_)}{m:Str->Option f_},(∀v,(x,v)∉binds)->bindL kindOf binds m x=m x
 |[],_,_=>rfl
 | (n,v)::r,m,h=>by
   unfold bindL;rw[ub λw hw=>h w (az _ hw)]
   split<;>grind
theorem tq{kindOf:Str->Option NameKind}{x:Str}:∀{binds:List (Str×f_)}{m:Str->Option f_},(∀v,(x,v)∉binds)->bindC kindOf binds m x=m x
 |[],_,_=>rfl
 | (n,v)::r,m,h=>by
   unfold bindC;rw[tq λw hw=>h w (az _ hw)]
   split<;>grind
theorem pd{kindOf:Str->Option NameKind}{x:Str}{v:f_}:∀{P:List Str}{vs:List f_}{i:Nat}{m:Str->Option f_},P.Nodup->P[i]?=a_ x->vs[i]?=a_ v->kindOf x=a_ .local ->
  bindL kindOf (P.zip vs) m x=a_ v
 |[],_,_,_,_,h,_,_=>by simp at h
 |_::_,[],_,_,_,_,h,_=>by simp at h
 | p::P,w::vs,0,m,nd,h1,h2,hk=>by
   simp at h1 h2;subst h1;subst h2;show bindL _ ((p,w)::P.zip vs) m p=_;unfold bindL;rw[ub λv hv=>(jJ.mp nd).1 (jK hv).1,if_pos hk];simp
 | p::P,w::vs,i+1,m,nd,h1,h2,hk=>by
   unfold bindL;exact pd (jJ.mp nd).2 (by simpa using h1) (by simpa using h2) hk
theorem pe{kindOf:Str->Option NameKind}{x:Str}{v:f_}:∀{P:List Str}{vs:List f_}{i:Nat}{m:Str->Option f_},P.Nodup->P[i]?=a_ x->vs[i]?=a_ v->kindOf x≠a_ .local ->
  bindC kindOf (P.zip vs) m x=a_ v
 |[],_,_,_,_,h,_,_=>by simp at h
 |_::_,[],_,_,_,_,h,_=>by simp at h
 | p::P,w::vs,0,m,nd,h1,h2,hk=>by
   simp at h1 h2;subst h1;subst h2;show bindC _ ((p,w)::P.zip vs) m p=_;unfold bindC;rw[tq λv hv=>(jJ.mp nd).1 (jK hv).1,if_neg hk];simp
 | p::P,w::vs,i+1,m,nd,h1,h2,hk=>by
   unfold bindC;exact pe (jJ.mp nd).2 (by simpa using h1) (by simpa using h2) hk
def start(N:List Str)(vs:List V):St:=vs.map a_++bI (N.length-vs.length) b_
def qi(CX:CXT)(P:Program)(w:World)(K:ai)(mg:Str->Option f_)(base:Heap)(N:List Str)(qual:Str)(scope:Scope)(f:e_)(cd:f_)(A:Around)(outer:List Env)(s:g_)(H:Hp)(E:XK):Cx where
 prog:=P
 w:=w
 K:=K
 mg:=mg
 base:=base
 A:=A.deeper (envOfC qual scope s.heap.objs.size f cd)
 N:=N
 s₀:=s
 H₀:=H
 env:=envOfC qual scope s.heap.objs.size f cd
 outer:=outer
 stack:=envOfC qual scope s.heap.objs.size f cd::outer
 ex:= []
 calm:=c_
 fn:=λ_=>c_
 pn:= []
 xe:=λe s'=>aR (model P w) (A.deeper (envOfC qual scope s.heap.objs.size f cd)) (leaving (envOfC qual scope s.heap.objs.size f cd) e) (λ_ s''=>CX outer H s E e s'') (λe' s''=>CX outer H s E e' s'') s'
theorem jm{sc:Scope}{x:Str}(h:sc.names.lookup x=a_ .cell):∃c,(cellsFrom n sc.names []).lookup x=a_ c:=cu.mp (iu _ n [] (.inl h))
variable{qual:Str}{scope:Scope}
theorem Bi{N:List Str}{cd:f_}{outer:List Env}{s1:g_}{E:XK}{vs:List V}
  (S:aZ N ps scope) (hd:A.handled=b_) (e0:Ay P w K mg base A outer s H) (hl:vs.length=ps.length) (r:cf vs us)
  (x:InCallC s s.heap.objs.size (bindL (envOfC qual scope s.heap.objs.size f cd).kindOf (ps.zip us) λ_=>b_) (cellsFrom (s.heap.objs.size+1) scope.names []) (bindC (envOfC qual scope s.heap.objs.size f cd).kindOf (ps.zip us) λ_=>b_) s1):
  Inv (qi CX P w K mg base N qual scope f cd A outer s H E) [] (start N vs) H s1:=by
 have ZQ:ps.length<=N.length:=by have:=congrArg EI S.pre;grind
 obtain⟨h1,tk,rfl,hk⟩:=x.done;have noA:∀b,b∉(qi CX P w K mg base N qual scope f cd A outer s H E).ex:=λb z=>absurd (show b∈[] from z) (by simp)
 refine⟨⟨e0.mod,S.kind,rfl,rfl,ao _,λy z c h1 h2 =>?_,λy hy =>?_,λy c _ h =>?_,λ_=>hd,By e0.frames,.inr ⟨rfl,rfl⟩,λb z=>absurd z (noA b),e0.bs,e0.bsz,λb _ _=>noA b,λb z=>absurd z (noA b),e0.funs,e0.frf⟩,
  rfl,e0.bare,Un.kept hk,⟨_,x.toInCall.ns,λi y v h1 h2 h3 =>?_⟩,λy c h=>⟨_,x.cell y c h⟩,e0.hok.fresh (ao _),λy c h =>?_,λp hp=>absurd (show p∈[] from hp) (by simp),e0.hok.kept hk,?_⟩
 .exact name_of_addr x.apart (bN h1) (bN h2)
 .rcases hy with hy|hy
  .exact jm hy
  .exact absurd rfl (S.nofree _ (bN hy))
 .exact br (x.above y c (bN h))
 .have hi:i<vs.length:=by
   unfold start at h2;by_cases hi:i<vs.length
   .omega
   .rw[bp (by simpa using hi)]at h2
    rw[iw]at h2<;>simp_all
  have ha:vs[i]?=a_ v:=by
   unfold start at h2;rw[aS _]at h2<;>simp_all
  obtain⟨u,hu,rv⟩:=r.get ha;have hp:ps[i]?=a_ y:=by
   rw[<-S.pre,List.getElem?_take_of_lt (by omega)];exact h1
  have WO:ps.Nodup:=by rw[<-S.pre];exact S.nd.sublist (List.take_sublist _ _)
  refine⟨u,rv,?_⟩;rcases S.par y (bo hp) with k|k
  .exact .inl ⟨k,pd WO hp hu k⟩
  .obtain⟨c,e⟩:=jm k
   refine .inr ⟨.inl k,c,e,?_⟩;have q:=x.cell y c e;rw[pe WO hp hu (by show scope.names.lookup y≠_;rw[k];decide)]at q;omega
 .exact e0.hok.fresh (br (x.above y c (bN h)))
 .unfold start
  show _=N.length
  grind
theorem wb{k:Nat}{name:Str}{params:Arguments}{body:List Stmt}{dV kV doc pm cdv ct oc:f_}{an od:Option e_}
  {osl:Array (Option f_)}{N:List Str}{sp:Sp} (lk:K.lookup f=a_ ⟨oc,od,.func (cM name qual params body scope dV kV doc pm an cdv ct),osl⟩) (ZH:fW K cdv qual=c_) (S:aZ N ps scope)
  (len:∀vs H Q E,sp vs H Q E->vs.length=ps.length)
  (ZS: ∀(A:Around) (outer:List Env) (s:g_) (H:Hp) (vs:List V) (Q:VK) (E:XK),j7 k (A.deeper (envOfC qual scope s.heap.objs.size f cdv))->sp vs H Q E ->
   ∃t,PSs (qi CX P w K mg base N qual scope f cdv A outer s H E) body t/\t { nx:=λ_ H'=>Q .non H',rt:=Q } (start N vs) H):
  g9 P w K mg base CX (k+1) f (cM name qual params body scope dV kV doc pm an cdv ct) ps sp:=by
 refine⟨len,λA outer s H args us vs Q E hr e0 hb r Zk=>?_⟩;have KX:=e0.mod.kin.keeps λb o e=>(e0.bs b o e).1;have Xv:∀y∈ps.zip us,scope.names.lookup y.1=a_ _\/(scope.names.lookup y.1=a_ _/\((cellsFrom (s.heap.objs.size+1) _ []).lookup y.1).isSome=c_):=fun⟨n,v⟩ hy=>by
  rcases S.par n (jK hy).1 with q|q
  .exact .inl q
  .exact .inr ⟨q,iu _ _ _ (.inl q)⟩
 refine codeAny_call_function hr.depth (KX _ _ lk) rfl S.co S.gen rfl (PySem.W.codeRec_of KX ZH) (hb _ _ _ _ ?_);refine wpAny_newFunctionEnv_cells S.kind Xv λenv he s1 x=>?_;subst he;refine⟨(e0.mod.nolimit.keeps λb o e=>(e0.bs b o e).1).keeps x.toInCall.keep,codeAny_func ?_⟩;obtain⟨t,ht,hq⟩:=ZS A _ s H vs Q E (hr.deeper _) Zk;refine bV (ht [] s1 _ H _ (Bi S hr.hd e0 (len _ _ _ _ Zk) r x) hq) (λfl s' hs=>?_) λe s' hs=>hs;have fin:∀{Y1:St}{H':Hp}{v:V}{u:f_},Inv (qi CX P w K mg base N qual scope f cdv A _ s H E) [] Y1 H' s'->RelV v u->Q v H'->CE outer P w H s Q u s':=
  λ{Y1 H' v u} J rv q=>⟨v,H',J.os,J.bare,J.base,J.hok,rv,q⟩
 cases fl with
 | ret u=>
   obtain⟨v,Y1,H',J,rv,q⟩:=hs;exact fin J rv q
 | next=>
   obtain⟨Y1,H',J,q⟩:=hs;exact fin (v:=V.non) J rfl q
 | brk=>
   obtain⟨_,_,_,q⟩:=hs<;>simp_all
 | cont=>
   obtain⟨_,_,_,q⟩:=hs<;>simp_all
section
variable {X:Cx}{x:Str}{p pos:Pos}{e:Expr}{es:List Expr}{t:TA}{id T:String}{r:List V->Hp->VK->Prop}
def tCB(r:List V->Hp->VK->Prop)(t:TA):TE:=λG H Q=>t G H λvs H1=>r vs H1 Q
theorem je(hc:gE X (.builtin id) r)(hg:Gl X x)(hm:X.mg x=b_)(hv:bootBuiltins x=a_ (.builtin id))(ha:PA X (e::es) t)(hn:autoParam (x≠"__name__") au2._auto_1)(XS:autoParam ((x==("__debug__":Str))=d_) au2._auto_1)
  (he:autoParam (starEach (e::es) X.env=(d_,eval e X.env)::starEach es X.env) au1._auto_1) (ZQ:autoParam ((backTo pos (starEach es X.env)).any (·.1)=d_) au1._auto_1):PE X (.Call (.Name x p) (e::es) [] pos) (tCB r t):=λpins s G H Q I h=>di (lK I hg hm hv (PyProof.Rows.callWith_builtin1 (thn (ha _ _ s G H _ I h) λus s1 ⟨vs,H1,I1,r1,q1⟩=>hc _ s1 G H1 vs us Q I1 r1 q1) he ZQ) hn XS)
theorem j6(hc:gE X (.type T) r)(hg:Gl X x)(hm:X.mg x=b_)(hv:bootBuiltins x=a_ (.type T))(ha:PA X (e::es) t)(hn:autoParam (x≠"__name__") au2._auto_1)(XS:autoParam ((x==("__debug__":Str))=d_) au2._auto_1)
  (he:autoParam (starEach (e::es) X.env=(d_,eval e X.env)::starEach es X.env) au1._auto_1) (ZQ:autoParam ((backTo pos (starEach es X.env)).any (·.1)=d_) au1._auto_1):PE X (.Call (.Name x p) (e::es) [] pos) (tCB r t):=λpins s G H Q I h=>di (lK I hg hm hv (fe (thn (ha _ _ s G H _ I h) λus s1 ⟨vs,H1,I1,r1,q1⟩=>hc _ s1 G H1 vs us Q I1 r1 q1) he ZQ) hn XS)
end
end _L
namespace HT
open PySem PyProof.Rows
section
open PySem.SeqAt
open PySem.AutoSeq1 (wpAny_loadPart')
open PySem.MeetsSeq PySem.MeetsSeq2 PySem.MeetsSeq3
end
section
variable {prog:Program}{w:World}{A:Around}{E:f_->g_->Prop}{s:g_}
variable{Q:f_->g_->Prop}
theorem cat_tup{t b:e_}{vs ws:List f_}(ht:IsTup s.heap t vs.toArray)(hb:IsTup s.heap b ws.toArray)(hv:vs≠[])
  (h1:ws=[]->Q (.ref t) s) (h2:ws ≠ []->Q (.ref s.heap.objs.size) { s with heap:=s.heap.push { cls := .type "tuple",data := .seq (vs++ws).toArray } })
  (YT:vs.length+ws.length<=sizeLine):aR (model prog w) A (binaryOp .Add (.ref t) (.ref b)) Q E s:=by
 obtain⟨⟨cls,dd,data,sl⟩,ho,hc,n,hd⟩:=id ht;obtain⟨⟨W0,RX,data2,QT⟩,XF,YO,n2,hd2⟩:=id hb;subst hc hd YO hd2;have e:vs.toArray++ws.toArray=(vs++ws).toArray:=by simp
 by_cases hw:ws=[]
 .exact concat_meets ⟨_,ho,rfl⟩ ⟨_,XF,rfl⟩ noFill_tuple_add seq_tuple_add lW kS (kN _ _)
   (tuple_addW1 t b _ _ n n2 dd _ sl _ (by simpa using hv) (by simp[hw])) ⟨ho,XF,h1 hw⟩
 .refine concat_meets ⟨_,ho,rfl⟩ ⟨_,XF,rfl⟩ noFill_tuple_add seq_tuple_add lW kS (kN _ _)
   (tuple_addW2 t b _ _ n n2 dd _ sl _ (by simpa using hv) (by simpa using hw) (by omega)) ⟨ho,XF,?_⟩
  rw[e];exact h2 hw
def sIx(n d:Nat):Option Int->Nat
 |none=>d
 |some v=>if v<0 then(v+(n:Int)).toNat else min v.toNat n
theorem OZ(n d:Nat)(hd:d<=n)(o:Option Int):sIx n d o<=n:=by
 cases o with
 |none=>exact hd
 | some v=>
   show(if v<0 then(v+n).toNat else min _ n)<=n
   grind
theorem Ad(v:Int)(n d:Nat):(if v<0 then max (v+(n:Int)) 0 else min v (n:Int))=((sIx n d (a_ v):Nat):Int):=by
 show(if v<0 then max _ 0 else min v _)=(((if v<0 then(v+n).toNat else min _ n)))
 grind
theorem yf(lo hi:Option Int)(n:Nat):fG lo hi 1 (n:Int)=(((sIx n 0 lo:Nat):Int),((sIx n n hi:Nat):Int)):=by
 refine Prod.ext ?_ ?_
 .cases lo with
  |none=>rfl
  |some v=>exact Ad v n 0
 .cases hi with
  |none=>rfl
  |some v=>exact Ad v n n
theorem yb(i j:Nat):dg (i:Int) (j:Int) 1=j-i:=by
 unfold dg
 grind
theorem rj{v:f_}{o:Option Int}{Q:Option Int->g_->Prop}(p:IsPart v o)(h:Q o s):aR (model prog w) A (Builtin.Slice.slicePartIndex v) Q E s:=by
 cases p with
 |none=>exact slicePart_none h
 |int i t=>exact slicePart_int h
theorem kg{sl:e_}{vl vu:f_}{lo hi:Option Int}{n:Nat}{Q:Int×Int×Nat->g_->Prop}(hs:s.heap.IsSliceOf sl vl vu .none)(pl:IsPart vl lo)(pu:IsPart vu hi)
  (h:Q (((sIx n 0 lo:Nat):Int),1,sIx n n hi-sIx n 0 lo) s):aR (model prog w) A (qo (.ref sl) (pure (n:Int))) Q E s:=by
 obtain⟨os,YU,YV,YB⟩:=id hs;refine aB (aB (fR YU YB (x:=vl) rfl (aB (fR YU YB (x:=vu) rfl (aB (fR YU YB rfl (bj ?_)))))));refine aB (slicePart_none ?_);refine aB (rj pl (aB (rj pu (aB (bj ?_)))));show aR _ _ (match fG lo hi 1 _ with | (lo,hi)=>pure (lo,(1:Int),dg lo hi 1)) _ _ s;rw[yf lo hi n];show aR _ _ (pure _) _ _ s;rw[yb];exact bj h
theorem BK(xs:Array f_)(i k:Nat):((av k).filterMap λ(m:Nat)=>xs[((i:Int)+(m:Int)*1).toNat]?).toArray=((xs.toList.drop i).take k).toArray:=by
 have e:(λ(m:Nat)=>xs[(i+(m:Int)*1).toNat]?)=λm=>xs[i+m]? := by
  grind
 have:=pick_run xs i k;have e2:((λx=>xs[x]?)∘λx=>i+x)=λm=>xs[i+m]? := rfl
 simp_all
theorem getItem_tuple_cut{t sl:e_}{items:Array f_}{vl vu:f_}{lo hi:Option Int}(ht:IsTup s.heap t items)(hs:s.heap.IsSliceOf sl vl vu .none)(pl:IsPart vl lo)(pu:IsPart vu hi)
  (hw: ¬(sIx items.size 0 lo=0/\sIx items.size items.size hi=items.size))
  (h:Q (.ref s.heap.objs.size) { s with heap:=s.heap.push { cls := .type "tuple",data := .seq ((items.toList.drop (sIx items.size 0 lo)).take (sIx items.size items.size hi-sIx items.size 0 lo)).toArray } })
  (YT:items.size<=sizeLine):aR (model prog w) A (getItem (.ref t) (.ref sl)) Q E s:=by
 have YM:=by
  show((items.toList.drop (sIx items.size 0 lo)).take (sIx items.size items.size hi-sIx items.size 0 lo)).toArray.size<=sizeLine;rw[bU,mD,mE,jL];omega
 obtain⟨os,YU,YV,YB⟩:=id hs;unfold getItem
 try with_reducible refine j2 ?_
 refine aB (xM ht.typeIs (by decide) ?_)
 refine aB (oP ht.typeIs cw
  (zi cw ht.typeIs entry_tuple_getitem ?_ (args_tuple_getitem _ _)))
 show aR _ _ (ja _ >>= _) _ _ s;refine aB (tupleItemsOf_ ht ?_);refine aB (xN ⟨os,YU,YV⟩ ?_);refine aB (kg hs pl pu ?_);have Vs: ¬((((sIx items.size 0 lo):Int)==0&&(1:Int)==1&&(sIx items.size items.size hi-sIx items.size 0 lo)==items.size)=c_):=by
  grind
 show aR _ _ (if (((sIx _ 0 lo):Int)==0&&1==1&&(sIx _ _ hi-sIx _ 0 lo)==items.size)=c_ then _ else _) _ _ s;rw[if_neg Vs,BK]
 first
  |exact aB (xO (bj ⟨_,rfl,bj h⟩) YM)
  |grind
  |grind
  |grind
end
end HT
namespace _L
open PySem PySem.Spec PyProof.Rows
abbrev TO:=St->Hp->(Option Int->Hp->Prop)->Prop
def PO(X:Cx)(e:Option Expr)(t:TO):Prop:=
 ∀(pins:List (e_×Obj)) (s:g_) (G:St) (H:Hp) (Q:Option Int->Hp->Prop),Inv X pins G H s->t G H Q ->
  aR (model X.prog X.w) X.A (evalPart e X.env) (λu s'=>∃o H',Inv X pins G H' s'/\IsPart u o/\Q o H') X.xe s
def zN:TO:=λ_ H Q=>Q b_ H
def Hf(t:TE):TO:=λG H Q=>t G H λx H1=>∃i,x=.int i/\Q (a_ i) H1
section
variable {X:Cx}{e:Expr}{te:TE}{lo hi:Option Expr}{tl th:TO}{pos p2:Pos}
theorem Fe:PO X b_ zN:=λpins s G H Q I h=>bj ⟨_,H,I,.none,h⟩
theorem Fw(h:PE X e te):PO X (a_ e) (Hf te):=by
 intro pins s G H Q I hw;refine thn (h _ s G H _ I hw) λu s1 ⟨x,H1,I1,r1,q1⟩=>?_;obtain⟨i,rfl,q⟩:=q1;obtain⟨t,rfl⟩:=r1;exact⟨_,H1,I1,.int i t,q⟩
def SlR(X:Cx)(r:V->Option Int->Option Int->Hp->VK->Prop):Prop:=
 ∀(pins:List (e_×Obj)) (s:g_) (G:St) (H:Hp) (x:V) (v vl vu:f_) (lo hi:Option Int) (sl:e_) (Q:VK),Inv X pins G H s->RelV x v->s.heap.IsSliceOf sl vl vu .none->IsPart vl lo->IsPart vu hi->r x lo hi H Q ->
  ∃ T id,typeLookup (.type T) "__getitem__"=pure (a_ (.builtin id))/\s.TypeIs v T/\aR (model X.prog X.w) X.A (getItem v (.ref sl)) (EP X pins G Q) X.xe s
variable{r:V->Option Int->Option Int->Hp->VK->Prop}
theorem SlR.or{r':V->Option Int->Option Int->Hp->VK->Prop}(h:SlR X r)(h':SlR X r'):SlR X (λx lo hi H Q=>r x lo hi H Q\/r' x lo hi H Q):=by
 intro pins s G H x v vl vu lo hi sl Q I rx hs pl pu q;rcases q with q|q
 .exact h _ s G H x v vl vu lo hi sl Q I rx hs pl pu q
 .exact h' _ s G H x v vl vu lo hi sl Q I rx hs pl pu q
def tSl(r:V->Option Int->Option Int->Hp->VK->Prop)(te:TE)(tl th:TO):TE:=λG H Q=>te G H λx H1=>tl G H1 λl H2=>th G H2 λu H3=>r x l u H3 Q
theorem wc(hr:SlR X r)(he:PE X e te)(hl:PO X lo tl)(hu:PO X hi th):PE X (.Subscript e (.Slice lo hi b_ p2) pos) (tSl r te tl th):=by
 intro pins s G H Q I h;refine Subscript_ (thn (he _ s G H _ I h) λv s1 ⟨x,H1,I1,r1,q1⟩=>?_);refine wpAny_Slice (thn (hl _ s1 G H1 _ I1 q1) λvl s2 ⟨l,H2,I2,pl,q2⟩=>thn (hu _ s2 G H2 _ I2 q2) λvu s3 ⟨u,H3,I3,pu,q3⟩=>?_);refine bj ?_;obtain⟨T,id,hT,ht,hg⟩:=hr _ _ G H3 x v vl vu l u _ Q (I3.kept λb ob q=>aw _ q) r1 (mF ..) pl pu q3;exact tail_any ht hT hg (by with_unfolding_all rfl)
def AD(xs:List V)(lo hi:Option Int):List V:=(xs.drop (HT.sIx xs.length 0 lo)).take (HT.sIx xs.length xs.length hi-HT.sIx xs.length 0 lo)
theorem pP(xs:List V)(lo hi:Option Int):(AD xs lo hi).length<=xs.length:=by
 unfold AD;rw[mD,mE];omega
def Ld(K:ai):V->Option Int->Option Int->Hp->VK->Prop:=λx lo hi H Q=>∃a xs,x=.ref a/\SqT K H a xs /\
 ¬(HT.sIx xs.length 0 lo=0/\HT.sIx xs.length xs.length hi=xs.length) /\ ∀p,H p=b_->Q (.ref p) (upd H p (.tup (AD xs lo hi)))
theorem KE:SlR X (Ld X.K):=by
 intro pins s G H x v vl vu lo hi sl Q I rx hs pl pu h;obtain⟨a,xs,rfl,hx,hw,q⟩:=h;cases rx;obtain⟨ZX,r,ht,hz⟩:=I.tuple hx;have hlen:ZX.toArray.size=xs.length:=r.length.symm;refine⟨_,_,PyProof.Rows.slot_tuple_getitem.lookup,ht.typeIs,?_⟩;refine HT.getItem_tuple_cut ht hs pl pu (by rw[hlen];omega) ?_ (by rw[hlen];omega);rw[hlen];refine⟨.ref _,_,I.laid (λb ob q=>aw _ q) (ao _) ?_,rfl,q _ (I.hok.fresh (ao _))⟩;exact⟨aA (pP xs lo hi) hz,_,(r.drop _).take _,Ar _ _,_,aI _ rfl,rfl⟩
def HD(K:ai):R2:=λx y H Q=>∃a b xs ys,x=.ref a/\y=.ref b/\SqT K H a xs/\SqT K H b ys/\xs≠[]/\xs.length+ys.length<=sizeLine /\
 (ys=[]->Q (.ref a) H)/\(ys≠[]->∀p,H p=b_->Q (.ref p) (upd H p (.tup (xs++ys))))
theorem cf.nil_iff{xs:List V}{us:List f_}(r:cf xs us):us=[]↔xs=[]:=by
 cases r<;>simp_all
theorem Fu:OpR X (binaryOp .Add) (HD X.K):=by
 intro pins s G H x y v u Q I rx ry h;obtain⟨a,b,xs,ys,rfl,rfl,ha,hb,hx,hz,q1,q2⟩:=h;cases rx;cases ry;obtain⟨ZX,r1,p1,_⟩:=I.tuple ha;obtain⟨Zi,r2,p2,_⟩:=I.tuple hb;refine HT.cat_tup p1 p2 (λz=>hx (r1.nil_iff.mp z)) (λz=>⟨.ref a,H,I,rfl,q1 (r2.nil_iff.mp z)⟩) (λz=>?_) (by rw[<-r1.length,<-r2.length];omega);refine⟨.ref _,_,I.laid (λb ob q=>aw _ q) (ao _) ?_,rfl,q2 (λw=>z (r2.nil_iff.mpr w)) _ (I.hok.fresh (ao _))⟩;exact⟨by simp_all,_,r1.append r2,Ar _ _,_,aI _ rfl,rfl⟩
end
def ixN(n:Nat)(i:Int):Option Nat:=if 0<=i then(if i<n then a_ i.toNat else b_) else if -(n:Int)<=i then a_ (i+n).toNat else b_
def atI{α:Type}(xs:List α)(i:Int):Option α:=(ixN xs.length i).bind λj=>xs[j]?
variable{n:Nat}{i:Int}
theorem zu{j:Nat}(h:ixN n i=a_ j):seqIndex? i n=a_ j/\j<n /\ -(n:Int)<=i/\i<n:=by
 unfold ixN at h;by_cases h0:0<=i
 .rw[if_pos h0]at h
  by_cases h1:i<n
  .rw[if_pos h1]at h
   have e:=dW h;exact⟨by rw[seqIndex_of h0 h1,e],by omega,by omega,h1⟩
  simp_all
 .rw[if_neg h0]at h
  by_cases h1: -n<=i
  .rw[if_pos h1]at h
   have e:=dW h;exact⟨by rw[seqIndex_neg (by omega) h1,e],by omega,h1,by omega⟩
  simp_all
theorem uB{α:Type}{xs:List α}{v:α}(h:atI xs i=a_ v):∃j,seqIndex? i xs.length=a_ j/\xs[j]?=a_ v/\j<xs.length /\ -(xs.length:Int)<=i/\i<xs.length:=by
 unfold atI at h;cases e:ixN _ i with
 |none=>rw[e]at h;cases h
 | some j=>
   rw[e]at h;obtain⟨h1,h2,h3,h4⟩:=zu e;exact⟨j,h1,h,h2,h3,h4⟩
def qr(b:Expr):Prop:= ∀o i,subscripted b d_ o i=operate [o,i] (getItem o i)
def IxR(X:Cx)(r:R2):Prop:=
 ∀(value slice:Expr) (pins:List (e_×Obj)) (s:g_) (G:St) (H:Hp) (x y:V) (v u:f_) (Q:VK),Inv X pins G H s->RelV x v->RelV y u->r x y H Q ->
  subscripted slice d_ v u=operate [v,u] (getItem v u)->aR (model X.prog X.w) X.A (subscriptTail value slice v u) (EP X pins G Q) X.xe s
def MtR(X:Cx)(id:String)(r:V->List V->Hp->VK->Prop):Prop:=
 ∀(pins:List (e_×Obj)) (s:g_) (G:St) (H:Hp) (x:V) (xs:List V) (v:f_) (us:List f_) (Q:VK),Inv X pins G H s->RelV x v->cf xs us->r x xs H Q ->
  aR (model X.prog X.w) X.A (call (.builtin id) (v::us)) (EP X pins G Q) X.xe s
section
variable {X:Cx}{a b:Expr}{ta tb:TE}{pos:Pos}
theorem IxR.or{r r':R2}(h:IxR X r)(h':IxR X r'):IxR X (λx y H Q=>r x y H Q\/r' x y H Q):=by
 intro value slice pins s G H x y v u Q I rx ry q hs;rcases q with q|q
 .exact h _ _ _ s G H x y v u Q I rx ry q hs
 .exact h' _ _ _ s G H x y v u Q I rx ry q hs
theorem Ce{r:R2}(hr:IxR X r)(ha:PE X a ta)(hb:PE X b tb)(hs:qr b):PE X (.Subscript a b pos) (tOp r ta tb):=λpins s G H Q I h=>Subscript_ (Kn ha hb I h λv u s2 x y H2 I2 rx ry q=>hr a b _ s2 G H2 x y v u Q I2 rx ry q (hs _ _))
def K4(K:ai):R2:=λx y H Q=>∃p xs i v,x=.ref p/\y=.int i/\SqL K H p xs/\atI xs i=a_ v/\Q v H
def K9(K:ai):R2:=λx y H Q=>∃p xs i v,x=.ref p/\y=.int i/\SqT K H p xs/\atI xs i=a_ v/\Q v H
def JM:R2:=λx y H Q=>∃z i c,x=.str z/\y=.int i/\z.length<=sizeLine/\atI z.cps.toList i=a_ c/\Q (.str ⟨#[c]⟩) H
theorem Fi:IxR X (K4 X.K):=by
 intro value slice pins s G H x y v u Q I rx ry h hs;obtain⟨p,xs,i,z,rfl,rfl,hq,he,q⟩:=h;cases rx;obtain⟨t,rfl⟩:=ry;obtain⟨ZX,r,pl,hz⟩:=I.list hq;obtain⟨j,h1,h2,h3,h4,h5⟩:=uB he;obtain⟨w,ew,ZA⟩:=r.get h2;have hl:=r.length;have hn:=o8;have fin:EP X _ G Q w s:=⟨z,H,I,ZA,q⟩;by_cases h0:0<=i
 .have hj:=by
   rw[seqIndex_of h0 h5]at h1;exact dW h1
  exact item_listR pl.isList h0 (by omega) (by rw[hj];simpa using ew) fin hs
 .have hj:(i+ZX.toArray.size).toNat=j:=by
   rw[seqIndex_neg (by omega) h4]at h1<;>simp_all
  exact subscriptTail_builtinR pl.isList.typeIs slot_list_getitem.lookup
   (wpAny_getItem_list_neg pl.isList (by omega) (by simp_all) (by omega) (by rw[hj];simpa using ew) ⟨rfl,fin⟩) hs
theorem KC:IxR X (K9 X.K):=by
 intro value slice pins s G H x y v u Q I rx ry h hs;obtain⟨p,xs,i,z,rfl,rfl,hq,he,q⟩:=h;cases rx;obtain⟨t,rfl⟩:=ry;obtain⟨ZX,r,pl,hz⟩:=I.tuple hq;obtain⟨j,h1,h2,h3,h4,h5⟩:=uB he;obtain⟨w,ew,ZA⟩:=r.get h2;have hl:=r.length;have hn:=o8;exact subscriptTail_builtinR pl.typeIs slot_tuple_getitem.lookup
  (getItem_tuple (j:=j) pl (by omega) (by omega) (by simp_all) (by simpa using ew) ⟨rfl,⟨z,H,I,ZA,q⟩⟩) hs
theorem Dm:IxR X JM:=by
 intro value slice pins s G H x y v u Q I rx ry h hs;obtain⟨z,i,c,rfl,rfl,hz,he,q⟩:=h;obtain⟨t,rfl⟩:=rx;obtain⟨t',rfl⟩:=ry;obtain⟨j,h1,h2,h3,h4,h5⟩:=uB he;have hl:z.cps.toList.length=z.length:=by simp[Str.length]
 rw[hl]at h1 h4 h5;have hn:=o8
 exact tail_any (typeIs_str s z t) slot_str_getitem.lookup (getItem_str (by
  grind) (by rw[h1];simpa using h2) ⟨.str _,H,I.tok _,⟨_,rfl⟩,q⟩) hs
def rIx(K:ai):R2:=λx y H Q=>K4 K x y H Q\/K9 K x y H Q\/JM x y H Q
theorem II:IxR X (rIx X.K):=Fi.or (KC.or Dm)
theorem zd(ZX:List f_)(n j:Nat)(u:f_):nD (·.setIfInBounds j u) { cls := .type "list",data := .seq ZX.toArray n }={ cls := .type "list",data := .seq (ZX.set j u).toArray n }:=by
 simp[nD]
theorem Inv.lst{pins:List (e_×Obj)}{G:St}{H:Hp}{s:g_}{p:e_}{xs:List V}(I:Inv X pins G H s)(h:H p=a_ (.lst xs)):
  ∃ (ZX:List f_) (n:Nat),cf xs ZX/\s.heap.get? p=a_ { cls := .type "list",data := .seq ZX.toArray n }/\xs.length<=sizeLine:=by
 obtain⟨z,ZX,n,r,e⟩:=I.hok p _ h;exact⟨_,n,r,e,z⟩
variable{pins:List (e_×Obj)}{G:St}{s:g_}
theorem Inv.lstUpd{H:Hp}{p:e_}{xs ys:List V}{ZX its':List f_}{n':Nat}{f:Obj->Obj}(I:Inv X pins G H s)(h:H p=a_ (.lst xs))
  (ho:s.heap.get? p=a_ { cls := .type "list",data := .seq ZX.toArray n }) (hf:f { cls := .type "list",data := .seq ZX.toArray n }={ cls := .type "list",data := .seq its'.toArray n' }) (r:cf ys its') (hz:ys.length<=sizeLine) (t:Nat) :
  Inv X pins G (upd H p (.lst ys)) { s with heap:=s.heap.update p f,toks:=t }:=by
 have e:(s.heap.update p f).get? p=a_ { cls := .type "list",data := .seq its'.toArray n' }:=by
  rw[Ew f ho (by rw[hf]<;>rfl),hf]
 refine I.write (by rw[h];trivial) (.inl rfl) (λb u hb q=>(dP _ _ (cY hb)).trans q) ⟨_,e⟩ ?_;exact⟨hz,_,n',r,e⟩
def Hh:V->V->V->Hp->(Hp->Prop)->Prop:=λo i v H Q=>∃p xs k j,o=.ref p/\i=.int k/\H p=a_ (.lst xs)/\ixN xs.length k=a_ j/\Q (upd H p (.lst (xs.set j v)))
theorem set_list:KJ X Hh:=by
 intro pins s G H o i v ov iv u Q I ro ri rv h;obtain⟨p,xs,k,j,rfl,rfl,hp,hj,q⟩:=h;cases ro;obtain⟨t,rfl⟩:=ri;obtain⟨ZX,n,r,ho,hz⟩:=I.lst hp;obtain⟨h1,h2,h3,h4⟩:=zu hj;have hl:=r.length;have hn:=o8;have I':=
  I.lstUpd hp ho (zd _ n j u) (r.set rv j) (by simp_all) s.toks
 by_cases h0:0<=k
 .have hk:=by
   rw[seqIndex_of h0 h4]at h1;exact dW h1
  exact PySem.W.ki_setAt ho h0 (by omega) (by simp_all) (by rw[hk];exact⟨_,I',q⟩)
 .have hk:(k+ZX.toArray.size).toNat=j:=by
   rw[seqIndex_neg _ h3]at h1<;>simp_all
  exact PySem.W.ki_setBack ho (by omega) (by simp_all) (by omega) (by rw[hk];exact⟨_,I',q⟩)
theorem vd(lo hi:Option Int)(n:Nat):(sliceBounds lo hi b_ n).1=((HT.sIx n 0 lo:Nat):Int)/\(sliceBounds lo hi b_ n).2.1=((HT.sIx n n hi:Nat):Int)/\(sliceBounds lo hi b_ n).2.2=1:=by
 refine⟨?_,?_,rfl⟩
 .cases lo with
  |none=>simp[sliceBounds,HT.sIx]
  | some i=>
    simp[sliceBounds,HT.sIx,Option.getD_none,show(1:Int)>0 by decide,if_true];by_cases h:i<0
    .simp only[h,if_true]<;>omega
    .simp[h,if_false]<;>omega
 .cases hi with
  |none=>simp[sliceBounds,HT.sIx]
  | some i=>
    simp[sliceBounds,HT.sIx,Option.getD_none,show(1:Int)>0 by decide,if_true];by_cases h:i<0
    .simp only[h,if_true]<;>omega
    .simp[h,if_false]<;>omega
theorem sJ(ZX:List f_)(lo hi:Option Int):slicePick ZX.toArray lo hi b_=((ZX.drop (HT.sIx ZX.length 0 lo)).take (HT.sIx ZX.length ZX.length hi-HT.sIx ZX.length 0 lo)).toArray:=by
 obtain⟨h1,h2,h3⟩:=vd lo hi _;unfold slicePick;rw[h1,h2,h3];simp only[sliceRange_one,pick_run]<;>rfl
def Oc(K:ai):V->Option Int->Option Int->Hp->VK->Prop:=λx lo hi H Q=>∃a xs,x=.ref a/\SqL K H a xs /\ ∀p,H p=b_->Q (.ref p) (upd H p (.lst (AD xs lo hi)))
theorem GN:SlR X (Oc X.K):=by
 intro pins s G H x v vl vu lo hi sl Q I rx hs pl pu h;obtain⟨a,xs,rfl,hx,q⟩:=h;cases rx;obtain⟨ZX,r,ht,hz⟩:=I.list hx;have hlen:=r.length;refine⟨_,_,slot_list_getitem.lookup,ht.isList.typeIs,?_⟩;refine wpAny_getItem_list_slice ht.isList hs pl pu .none (by simp) ?_ (by grind);rw[sJ,<-hlen];refine⟨.ref _,_,I.laid (λb ob q=>aw _ q) (ao _) ?_,rfl,q _ (I.hok.fresh (ao _))⟩;exact⟨aA (pP xs lo hi) hz,_,0,(r.drop _).take _,aI _ rfl⟩
def mS:V->Bool
 |.non=>c_
 |.bl _=>c_
 |.int _=>c_
 |.str _=>c_
 |_=>d_
def eqV:V->V->Bool
 |.non,.non=>c_
 |.bl a,.bl b=>a==b
 |.bl a,.int b=>(if a then 1 else 0)==b
 |.int a,.bl b=>a==(if b then 1 else 0)
 |.int a,.int b=>a==b
 |.str a,.str b=>a==b
 |_,_=>d_
variable{x:V}
theorem JT{A:Around}{y:V}{u v:f_}(ry:RelV y u)(rx:RelV x v)(fy:mS y=c_)(fx:mS x=c_):SeqAt.EqAt A s u v (eqV y x):=by
 cases y with
 | non=>
   cases ry;cases x with
   |non=>cases rx;exact SeqAt.EqAt.same _
   |bl b=>cases rx;exact SeqAt.EqAt.none_bool b
   |int b=>obtain⟨t,rfl⟩:=rx;exact SeqAt.EqAt.none_int b t
   |str b=>obtain⟨t,rfl⟩:=rx;exact SeqAt.EqAt.none_str b t
   |_=>exact absurd (fx) d9
 | bl a=>
   cases ry;cases x with
   |non=>cases rx;exact SeqAt.EqAt.bool_none a
   |bl b=>cases rx;exact SeqAt.EqAt.bool_bool a b
   |int b=>obtain⟨t,rfl⟩:=rx;exact SeqAt.EqAt.bool_int a b t
   |str b=>obtain⟨t,rfl⟩:=rx;exact SeqAt.EqAt.bool_str a b t
   |_=>exact absurd (fx) d9
 | int a=>
   obtain⟨t',rfl⟩:=ry;cases x with
   |non=>cases rx;exact SeqAt.EqAt.int_none a t'
   |bl b=>cases rx;exact SeqAt.EqAt.int_bool a t' b
   |int b=>obtain⟨t,rfl⟩:=rx;exact SeqAt.EqAt.int_int a t' b t
   |str b=>obtain⟨t,rfl⟩:=rx;exact Ap a t' b t
   |_=>exact absurd (fx) d9
 | str a=>
   obtain⟨t',rfl⟩:=ry;cases x with
   |non=>cases rx;exact SeqAt.EqAt.str_none a t'
   |bl b=>cases rx;exact SeqAt.EqAt.str_bool a t' b
   |int b=>obtain⟨t,rfl⟩:=rx;exact Aq a t' b t
   |str b=>obtain⟨t,rfl⟩:=rx;exact SeqAt.EqAt.str_str a t' b t
   |_=>exact absurd (fx) d9
 |_=>exact absurd (fy) d9
def eqU(x:V)(u:f_):Bool:=match u with
 |.none=>eqV .non x
 |.bool b=>eqV (.bl b) x
 |.int i _=>eqV (.int i) x
 |.str z _=>eqV (.str z) x
 |_=>d_
theorem Dg{y:V}{u:f_}(r:RelV y u)(f:mS y=c_):eqU x u=eqV y x:=by
 cases y with
 |non=>cases r;rfl
 |bl b=>cases r;rfl
 |int i=>obtain⟨t,rfl⟩:=r;rfl
 |str z=>obtain⟨t,rfl⟩:=r;rfl
 |_=>exact absurd (f) d9
theorem uM{x:V}:∀{xs:List V}{us:List f_},cf xs us->xs.all mS=c_->us.any (eqU x)=xs.any λy=>eqV y x
 |_,_,.nil,_=>rfl
 | y::xs,u::us,.cons r t,f=>by
   rw[a8,ah]at f;rw[fN,fN,Dg r f.1,uM t f.2]
theorem rM{A:Around}{s:g_}{x:V}{v:f_}(rx:RelV x v)(fx:mS x=c_):∀{xs:List V}{us:List f_},cf xs us->xs.all mS=c_->∀u∈us,SeqAt.EqAt A s u v (eqU x u)
 |_,_,.nil,_=>λu hu=>by cases hu
 | y::xs,u::us,.cons r t,f=>λu' hu=>by
   rw[a8,ah]at f;rcases bf.mp hu with rfl|hu
   .rw[Dg r f.1];exact JT r rx f.1 fx
   .exact rM rx fx t f.2 u' hu
def inV(x:V)(xs:List V):Bool:=xs.any λy=>eqV y x
def rIn(K:ai)(neg:Bool):R2:=λx y H Q=>∃p xs,y=.ref p/\(SqL K H p xs\/SqT K H p xs)/\mS x=c_/\xs.all mS=c_/\Q (.bl (if neg then !inV x xs else inV x xs)) H
theorem ur:OpR X (compareOp .NotIn) (rIn X.K c_):=by
 intro pins s G H x y v u Q I rx ry h;obtain⟨p,xs,rfl,hq,fx,fs,q⟩:=h;cases ry;rcases hq with hq|hq
 .obtain⟨ZX,r,pl,hz⟩:=I.list hq
  refine SeqAt.notIn_listAt _ pl.isList (λw hw=>rM rx fx r fs w (by simpa using hw)) ⟨.bl _,H,I,rfl,?_⟩;rw[show ZX.toArray.any _=ZX.any (eqU x) by simp,uM r fs];exact q
 .obtain⟨ZX,r,pl,hz⟩:=I.tuple hq
  refine EJ _ pl (λw hw=>rM rx fx r fs w (by simpa using hw)) ⟨.bl _,H,I,rfl,?_⟩;rw[show ZX.toArray.any _=ZX.any (eqU x) by simp,uM r fs];exact q
theorem vq:gE X (.builtin "len") (fun xs H Q=>∃ p ys,xs=[.ref p]/\(SqL X.K H p ys\/SqT X.K H p ys)/\Q (.int ys.length) H):=by
 intro pins s G H xs us Q I r h;obtain⟨p,ys,rfl,hq,q⟩:=h;obtain⟨u,rfl,rx⟩:=vals1 r;cases rx;have hn:=o8;rcases hq with hq|hq
 .obtain⟨ZX,r',pl,hz⟩:=I.list hq
  have hlen:=r'.length;exact Calls.call_len_list pl.isList (by simp only[bU]<;>omega) ⟨.int _,H,I.tok _,⟨_,by rw[bU,hlen]⟩,q⟩
 .obtain⟨ZX,r',pl,hz⟩:=I.tuple hq
  have hlen:=r'.length;exact len_tuple pl (by simp only[bU]<;>omega) ⟨.int _,H,I.tok _,⟨_,by rw[bU,hlen]⟩,q⟩
theorem uC:gE X (.builtin "len") (fun xs H Q=>∃ z,xs=[.str z]/\z.length<=sizeLine/\Q (.int z.length) H):=by
 intro pins s G H xs us Q I r h;obtain⟨z,rfl,hz,q⟩:=h;obtain⟨u,rfl,t,rfl⟩:=vals1 r;have hn:=o8;exact len_str (by omega) ⟨.int z.length,H,I.tok _,⟨_,rfl⟩,q⟩
theorem gE.or{f:f_}{r r':List V->Hp->VK->Prop}(h:gE X f r)(h':gE X f r'):gE X f (λxs H Q=>r xs H Q\/r' xs H Q):=by
 intro pins s G H xs us Q I rs q;rcases q with q|q
 .exact h _ s G H xs us Q I rs q
 .exact h' _ s G H xs us Q I rs q
theorem sy:gE X (.type "tuple") (fun xs H Q=>∃ p ys,xs=[.ref p]/\((SqL X.K H p ys /\ ∀ l,H l=b_->Q (.ref l) (upd H l (.tup ys)))\/(SqT X.K H p ys/\Q (.ref p) H))):=by
 intro pins s G H xs us Q I r h;obtain⟨p,ys,rfl,h⟩:=h;obtain⟨u,rfl,rx⟩:=vals1 r;cases rx;rcases h with⟨hq,q⟩|⟨hq,q⟩
 .obtain⟨ZX,r',pl,hz⟩:=I.list hq
  have hlen:=r'.length;refine call_tuple_list pl.isList (λh' kp=>?_) (by simp<;>omega);have I1:=I.kept (t':=s.toks) kp;have I2:=
   I1.laid (t':=s.toks) (λb o e=>aw _ e) (ao _) (show fO _ _ _ _ _ (.tup ys) from⟨hz,_,r',Ar _ _,_,aI _ rfl,rfl⟩)
  exact⟨.ref _,_,I2,rfl,q _ (I1.hok.fresh (ao _))⟩
 .obtain⟨ZX,r',pl,hz⟩:=I.tuple hq
  exact call_tuple_same pl ⟨.ref p,H,I,rfl,q⟩
def tyV(K:ai)(T:String)(x:V)(H:Hp):Prop:=match x with
 |.str _=>T="str"
 |.int _=>T="int"
 | .ref p=>(T="list" /\ ∃ xs,SqL K H p xs)\/(T="tuple" /\ ∃ o,K.lookup p=a_ o/\o.cls=.type "tuple"/\o.dict=b_) \/
   (T="dict"/\((∃ kvs,H p=a_ (.dK kvs)) \/ ∃ kvs,H p=a_ (.dT kvs)))\/(T="set" /\ ∃ S n,H p=a_ (.set S n))
 |_=>False
theorem Ku{H:Hp}{T:String}{v:f_}(I:Inv X pins G H s)(r:RelV x v)(ty:tyV X.K T x H):
  s.TypeIs v T /\ ∀a,v=.ref a->∃ob,s.heap.get? a=a_ ob/\ob.dict=b_:=by
 cases x with
 | str z=>
   obtain⟨t,rfl⟩:=r;cases (ty);exact⟨typeIs_str s z t,λ_ e=>nomatch e⟩
 | int i=>
   obtain⟨t,rfl⟩:=r;cases (ty);exact⟨typeIs_int s i t,λ_ e=>nomatch e⟩
 | ref p=>
   cases r;rcases ty with⟨rfl,xs,hq⟩|⟨rfl,o,hk,hc,hd⟩|⟨rfl,hk⟩|⟨rfl,S,n,hk⟩
   .obtain⟨ZX,_,pl,_⟩:=I.list hq
    refine⟨pl.isList.typeIs,λa e=>?_⟩;obtain⟨o,n,e,c,hd,_⟩:=pl<;>simp_all
   .refine⟨⟨o,I.kIn p o hk,hc⟩,λa e=>?_⟩
    cases e;exact⟨o,I.kIn _ o hk,hd⟩
   .have z:∃o,s.heap.get? p=a_ o/\o.ExactDict:=by
     rcases hk with⟨kvs,hk⟩|⟨kvs,hk⟩
     .obtain⟨_,_,_,_,o,_,_,e,ex,_⟩:=I.hok p _ hk<;>simp_all
     .obtain⟨_,_,_,_,o,_,_,e,ex,_⟩:=I.hok p _ hk<;>simp_all
    obtain⟨o,e,ex⟩:=z;refine⟨⟨o,e,ex.1⟩,λa e2=>?_⟩;cases e2;exact⟨o,e,ex.2.1⟩
   .obtain⟨o,_,_,_,e,ex,_⟩:=I.hok p _ hk
    refine⟨⟨o,e,ex.1⟩,λa e2=>?_⟩;cases e2;exact⟨o,e,ex.2.1⟩
 |_=>exact cp ty
def tBM(K:ai)(T:String)(r:V->List V->Hp->VK->Prop)(to:TE)(t:TA):TE:=λG H Q=>to G H λx H1=>tyV K T x H1/\t G H1 λxs H2=>r x xs H2 Q
variable {o e:Expr}{es:List Expr}{to:TE}{t:TA}{name:Str}{apos cpos:Pos}{T id:String}{r:V->List V->Hp->VK->Prop}
theorem vT(pa:PlainAttrs T)(slot:Slot T name id)(SY:typeOf (.builtin id)=pure (.type "method_descriptor"))(hm:MtR X id r)(ho:PE X o to)(ha:PA X (e::es) t)
  (ZC:autoParam (attributeBase o name X.env (eval o X.env)=eval o X.env) au1._auto_1)
  (Zg:autoParam (((backTo cpos (starEach (e::es) X.env)).all (λx => !x.1)&&(backToKw cpos (keywordEach [] X.env)).all (λx=>x.1.isSome)
   && decide ((e::es).length+([]:List Keyword).length+(if ([]:List Keyword).isEmpty then 0 else 1)<30))=c_) au1._auto_1)
  (ZD:autoParam ((apos.endLine==cpos.line)=c_) au1._auto_1) (hs:autoParam (starEach (e::es) X.env=(d_,eval e X.env)::starEach es X.env) au1._auto_1) (Ze:autoParam ((backTo cpos (starEach es X.env)).any (·.1)=d_) au1._auto_1):
  PE X (.Call (.Attribute o name apos) (e::es) [] cpos) (tBM X.K T r to t):=by
 intro pins s G H Q I h;refine wpAny_Call_method_late ZC Zg ZD rfl (thn (ho _ s G H _ I h) λv s1 ⟨x,H1,I1,r1,ty,q1⟩=>?_);obtain⟨h1,h2⟩:=Ku I1 r1 ty;refine⟨T,id,pa,slot,SY,h1,h2,?_⟩;have hA:=ha cpos _ s1 G H1 _ I1 q1;rw[hs]at hA ⊢;exact Bt (by show(d_||(backTo _ _).any _)=d_;rw[Ze]<;>rfl) (jq (thn hA λus s2 ⟨vs,H2,I2,r2,q2⟩=>hm _ s2 G H2 x vs v us Q I2 r1 r2 q2))
end
def MtM(X:Cx)(id:String)(r:V->List V->Hp->VK->Prop):Prop:=
 ∀(pins:List (e_×Obj)) (s:g_) (G:St) (H:Hp) (x:V) (xs:List V) (v:f_) (us:List f_) (Q:VK),Inv X pins G H s->RelV x v->cf xs us->r x xs H Q ->
  aR (model X.prog X.w) X.A (call (.builtin id) (v::us)) (EP X pins G Q) X.xe s
theorem cf.one:∀{x:V}{us:List f_},cf [x] us->∃u,us=[u]/\RelV x u:=by
 intro x us h;cases h with |cons r t=>cases t;exact⟨_,rfl,r⟩
theorem cf.zero:∀{us:List f_},cf [] us->us=[]
 |_,.nil=>rfl
theorem cf.eraseIdx:∀{xs:List V}{us:List f_} (i:Nat),cf xs us->cf (xs.eraseIdx i) (us.eraseIdx i)
 |_,_,_,.nil=>.nil
 |_,_,0,.cons _ t=>t
 |_,_,i+1,.cons r t=>.cons r (cf.eraseIdx i t)
theorem t6{α:Type}:∀(l:List α) (i:Nat),(l.eraseIdx i).length<=l.length
 |[],_=>ao _
 |_::_,0=>fk _
 |_::r,i+1=>Nat.succ_le_succ (t6 r i)
section
variable {X:Cx}{pins:List (e_×Obj)}{G:St}{H:Hp}{s:g_}{l b:e_}{xs ys zs:List V}
variable{ZX:List f_}{t':Nat}
theorem Inv.lset{its':List f_}{f:Array f_->Array f_}(I:Inv X pins G H s)(hH:H l=a_ (.lst xs))
  (e:s.heap.get? l=a_ { cls := .type "list",data := .seq ZX.toArray n }) (hf:f ZX.toArray=its'.toArray) (hv:cf ys its') (hz:ys.length<=sizeLine) :
  Inv X pins G (upd H l (.lst ys)) { s with heap:=s.heap.update l (nD f),toks:=t' }:=by
 have q:=Ey e f;rw[hf]at q;refine I.write (by rw[hH];exact trivial) (.inl rfl) (λb' u hb hu=>(dP _ _ (cY hb)).trans hu) ⟨_,q⟩ ?_;exact⟨hz,_,_,hv,q⟩
theorem Inv.lnew(I:Inv X pins G H s)(hv:cf ys ZX)(hz:ys.length<=sizeLine):
  Inv X pins G (upd H s.heap.objs.size (.lst ys)) { s with heap:=s.heap.push { cls := .type "list",data := .seq ZX.toArray },toks:=t' }:=
 I.laid (λ_ _ q=>aw _ q) (ao _) ⟨hz,_,0,hv,aI _ rfl⟩
theorem Inv.fresh(I:Inv X pins G H s):H s.heap.objs.size=b_:=I.hok.fresh (ao _)
theorem Inv.lstM(I:Inv X pins G H s)(hH:H l=a_ (.lst xs)):xs.length<=sizeLine /\ ∃ (ZX:List f_) (n:Nat),cf xs ZX/\xs.length=ZX.length/\s.heap.get? l=a_ { cls := .type "list",data := .seq ZX.toArray n }:=by
 obtain⟨z,ZX,n,r,e⟩:=I.hok l _ hH;exact⟨z,_,n,r,r.length,e⟩
end
section
variable {X:Cx}
def zH:V->List V->Hp->VK->Prop:=λx vs H Q=>∃l xs y,x=.ref l/\vs=[y]/\H l=a_ (.lst xs)/\xs.length<sizeLine/\Q .non (upd H l (.lst (xs++[y])))
theorem A1:MtM X "list.append" zH:=by
 intro pins s G H x vs v us Q I rx rv h;obtain⟨l,xs,y,rfl,rfl,hH,hz,q⟩:=h;cases rx;obtain⟨u,rfl,ru⟩:=rv.one;obtain⟨z,ZX,n,r,hl,e⟩:=I.lstM hH;refine call_meets F.slot_list_append ⟨_,e,rfl⟩ F.entry_list_append (F.args_list_append_2 _ _) (PySem.list_append l _ n u (by grind)) ⟨e,?_⟩;refine⟨.non,_,I.lset hH e (by simp) (r.append (.cons ru .nil)) ?_,rfl,q⟩;rw[dv];assumption
def Dq:V->List V->Hp->VK->Prop:=λx vs H Q=>∃l xs i k y,x=.ref l/\vs=[.int i]/\H l=a_ (.lst xs) /\ -(2^63)<=i/\i<2^63/\seqIndex? i xs.length=a_ k/\xs[k]?=a_ y/\Q y (upd H l (.lst (xs.eraseIdx k)))
theorem Dd:MtM X "list.pop" Dq:=by
 intro pins s G H x vs v us Q I rx rv h;obtain⟨l,xs,i,k,y,rfl,rfl,hH,h1,h2,hk,hy,q⟩:=h;cases rx;obtain⟨u,rfl,ru⟩:=rv.one;obtain⟨t,rfl⟩:=ru;obtain⟨z,ZX,n,r,hl,e⟩:=I.lstM hH;obtain⟨w,hw,ZA⟩:=r.get hy;refine call_meets F.slot_list_pop ⟨_,e,rfl⟩ F.entry_list_pop (F.args_list_pop_2 _ _)
  (MeetsSeq.list_pop_at l _ n i t k w (fitsIndex_both h1 h2) (by simp_all) (by simp_all) (by simp_all)) ⟨e,?_⟩
 refine⟨y,_,I.lset hH e ?_ (r.eraseIdx k) ?_,ZA,q⟩
 .simp_all
 .have:=t6 xs k
  exact aA (by omega) (by omega)
def NA:R2:=λx y H Q=>∃l b xs zs,x=.ref l/\y=.ref b/\H l=a_ (.lst xs)/\H b=a_ (.lst zs)/\xs.length+zs.length<=sizeLine /\ ∀p,H p=b_->Q (.ref p) (upd H p (.lst (xs++zs)))
theorem JG:OpR X (binaryOp .Add) NA:=by
 intro pins s G H x y v u Q I rx ry h;obtain⟨l,b,xs,zs,rfl,rfl,hH,hB,hz,q⟩:=h;cases rx;cases ry;obtain⟨z,ZX,n,r,hl,e⟩:=I.lstM hH;obtain⟨z2,Zi,n2,r2,WL,e2⟩:=I.lstM hB;refine PySem.P.add_list e e2 ?_ (by simp_all);have ea:ZX.toArray++Zi.toArray=(ZX++Zi).toArray:=by simp
 rw[ea];exact⟨.ref _,_,I.lnew (r.append r2) (by simp_all),rfl,q _ I.fresh⟩
end
section
variable {prog:Program}{w:World}{A:Around}{E:f_->g_->Prop}{s:g_}
end
section
variable {X:Cx}
end
end _L
namespace Att
open PySem PySem.W PySem.Calls PyProof.Rows
variable{P:Params}{h:Heap}
theorem pY:∀(ns:List Int) (vs:List f_),WellAll P h vs (ns.map WData.int)->IntsAre vs ns:=by
 intro ns
 induction ns with
 | nil=>
   intro vs w;cases w;exact .nil
 | cons n ns ih=>
   intro vs w;cases w with
   | cons a b=>
     cases a;exact .cons _ _ (ih _ b)
variable{l:OpenLaw}{n:Nat}
theorem Bq(hn:l.most=a_ n){args:List WData}{vals:List f_}
  (Yp:l.row.toRowW.claim.pre args=c_) (WQ:WellAll P h vals args):
  ∃ a vs ns,vals=[eA a]/\args=[WData.list (ns.map WData.int)]/\h.get? a=a_ { cls := .type "list",data := .seq vs.toArray }/\IntsAre vs ns/\ns.length<=n:=by
 obtain⟨d,r,rfl,h1,h2⟩:=hasAllW_cons ((pre_splitW Yp).1);obtain rfl:=hasAllW_nil h2;obtain⟨xs,rfl,h3⟩:=hasW_list h1;obtain⟨ns,rfl⟩:=items_int h3;have hlen:=by
  have h4:=by
   have h4:=(holds_andW ((pre_splitW Yp).2)).1;rw[hn]at h4;omega
  have h5:=condW_of h4 (w_not (w_lt w_lit (w_len_list (w_arg rfl))))
  first
   |grind
   |(simp at h5;omega)
 cases WQ with
 | cons w1 w2=>
   cases w2;cases w1 with
   |list ho YH=>exact⟨_,_,ns,rfl,rfl,ho,pY ns _ YH,hlen⟩
theorem Av(l:OpenLaw)(args:List WData):l.row.toRowW.claim.post args (.bool c_) args=c_:=
 postW_of
  (by first |rfl |decide |simp)
  (w_eq_bool (w_res rfl) w_lit) rfl
theorem attach_call{q:Program}{loose:List Str}{XP:(Str->Option f_)->Heap->Prop}{YP:World->Heap->Prop}{d:DefRec}
  (hn:l.most=a_ n) (Xw:d.params.defaults=[])
  (call: ∀(w:World) (s₀ ZT:g_) (mg mb:Str->Option f_) (fa:e_) (o:Obj) (pm cd doc:f_) (a:e_) (vs:List f_) (ns:List Int),
   Ground q loose [] XP w s₀ mg mb ZT.heap->YP w ZT.heap ->
   ZT.heap.get? fa=a_ o->o.data=.func (docDef d.name d.params d.body d.scope pm cd doc)->ZT.heap.CodeRec cd d.name->mg d.name=a_ (.ref fa) ->
   ZT.heap.get? a=a_ { cls := .type "list",data := .seq vs.toArray }->IntsAre vs ns->ns.length<=n->ZT.gens = #[] ->
   se (model l.prog w) callerA (.call (.ref fa) ⟨[.ref a],[]⟩) (λr s'=>r = .ok (.ret (.bool c_))/\OldK ZT.heap s'.heap/\s'.os=ZT.os/\AllBare s'.gens) ZT):
  WalkO q loose XP YP l.row.toRowW d [] (λf vs=>PySem.call f vs):=by
 intro w s₀ ZT mg mb t0 u8 fa o pm cd doc dV kV ho hd ZH hD WV hg args vals as Yp hlay hrd WQ Rt;obtain rfl:dV=.none:=Dflts.none hD Xw;obtain rfl:kV=.none:=Dflts.noKw hD;obtain⟨a,vs,ns,rfl,rfl,XM,hints,hlen⟩:=Bq hn Yp WQ;refine enter_call (pI (call w _ _ mg mb fa o pm cd _ a vs ns t0 u8 ho (fd_plain hd) ZH WV XM hints hlen hg) λr s' hq=>?_);obtain⟨rfl,h2,h3,h4⟩:=hq;exact⟨.inl ⟨_,_,[],rfl,λ_=>rfl,.bool _,Av l _,λ_=>⟨gI,λ_ hm=>(nomatch hm)⟩⟩,h2,h3,h4⟩
section
variable {prog:Program}{w:World}{A:Around}{E:f_->g_->Prop}{s:g_}{K:Frag}
end
end Att
namespace _L
open PySem PySem.Spec PyProof.Rows
abbrev KOf{K:ai}{h:Heap}(_:K.In h):ai:=K
def fM(s:Stmt):Arguments:=match s with
 |.FunctionDef _ a _ _ _ _ _ _ _ _=>a
 |_=>{ posonlyargs:= [],args:= [],vararg:=b_,kwonlyargs:= [],kw_defaults:= [],kwarg:=b_,defaults:= [] }
def bG(s:Stmt):List Stmt:=match s with
 |.FunctionDef _ _ b _ _ _ _ _ _ _=>b
 |_=>[]
def ar(s:Stmt):Scope:=match s with
 |.FunctionDef _ _ _ _ _ _ sc _ _ _=>sc
 |_=>{ kind:= .function,names:= [],isGenerator:=d_,isCoroutine:=d_ }
abbrev CX0:CXT:=λ_ _ _ _ _ _=>False
abbrev E0:XK:=λ_ _ _=>False
theorem tV{X:Cx}:nc CX0 X E0:=λ_ _ _ _ _ _ _ h=>h.elim
structure Fun(K:ai)(x qual:Str)(st:Stmt)(f:e_)(fd:FuncData):Prop where
 ex:∃(oc:f_) (od:Option e_) (kV doc pm:f_) (an:Option e_) (cdv ct:f_) (osl:Array (Option f_)),
  fd=cM x qual (fM st) (bG st) (ar st) .none kV doc pm an cdv ct/\K.lookup f=a_ ⟨oc,od,.func fd,osl⟩/\fW K cdv qual=c_
 kp:cb K (.ref f)=c_
section
variable {P:Program}{w:World}{K:ai}{mg:Str->Option f_}{base:Heap}
variable{x qual:Str}{st:Stmt}{f:e_}{fd:FuncData}{ps:List Str}
theorem Fun.ok{N:List Str}{k:Nat}{sp:Sp}(F:Fun K x qual st f fd)(S:aZ N ps (ar st))(len:∀vs H Q E,sp vs H Q E->vs.length=ps.length)
  (ZS: ∀(cdv:f_) (A:Around) (outer:List Env) (s:g_) (H:Hp) (vs:List V) (Q:VK) (E:XK),j7 k (A.deeper (envOfC qual (ar st) s.heap.objs.size f cdv))->sp vs H Q E ->
   ∃t,PSs (qi CX0 P w K mg base N qual (ar st) f cdv A outer s H E).nox (bG st) t/\t { nx:=λ_ H'=>Q .non H',rt:=Q } (start N vs) H):g9 P w K mg base CX0 (k+1) f fd ps sp:=by
 obtain⟨oc,od,kV,doc,pm,an,cdv,ct,osl,rfl,lk,ZH⟩:=F.ex;refine wb lk ZH S len λA outer s H vs Q E hr Zk=>?_;obtain⟨t,h,q⟩:=ZS _ A _ s H vs Q E hr Zk;exact⟨t,h.nox,q⟩
theorem Fun.binds(F:Fun K x qual st f fd)
  (h:∀(kV doc pm:f_) (an:Option e_) (cdv ct:f_) (us:List f_),us.length=ps.length->bindArgs (cM x qual (fM st) (bG st) (ar st) .none kV doc pm an cdv ct) ⟨us,[]⟩=pure (ps.zip us)):Binds K fd ps []:=by
 obtain⟨oc,od,kV,doc,pm,an,cdv,ct,osl,rfl,lk,ZH⟩:=F.ex;exact .all (h kV _ pm an _ ct)
theorem JN{oc:f_}{od an:Option e_}{osl:Array (Option f_)}{kV doc pm cdv ct:f_}(l:K.lookup f=a_ ⟨oc,od,.func (cM x qual (fM st) (bG st) (ar st) .none kV doc pm an cdv ct),osl⟩)
  (c:fW K cdv qual=c_) (k:cb K (.ref f)=c_):Fun K x qual st f (cM x qual (fM st) (bG st) (ar st) .none kV doc pm an cdv ct):=⟨⟨oc,od,kV,_,pm,an,_,ct,_,rfl,l,c⟩,k⟩
end
section
variable {X:Cx}
end
theorem Ou{A B:Prop}(h:B):if d_=c_ then A else B:=by
 grind
theorem OQ{A B:Prop}(h:A):if c_=c_ then A else B:=by
 grind
end _L
namespace HT
open PySem PyProof.Rows
section
open PySem.SeqAt
open PySem.AutoSeq1 (wpAny_loadPart')
open PySem.MeetsSeq PySem.MeetsSeq2 PySem.MeetsSeq3
end
section
variable {prog:Program}{w:World}{A:Around}{E:f_->g_->Prop}{s:g_}
end
end HT
namespace _L
open PySem PyProof.Rows
section
variable {X:Cx}
end
end _L
namespace PySem
namespace GE
end GE
end PySem
namespace _L
open PySem PySem.Spec PyProof.Rows
section
variable {X:Cx}
end
end _L
namespace PySem
namespace GR
def Oz(h:Heap)(a t:e_)(i:Int):Prop := ∃ o,h.get? a=a_ o/\o.cls=.type "reversed"/\o.data=.fields #[.ref t,rawInt i]
open PyProof.Rows in
section
variable {prog:Program}{w:World}{A:Around}{E:f_->g_->Prop}{s:g_}
open PyProof.Rows
end
end GR
end PySem
namespace _L
open PySem PySem.Spec PyProof.Rows
section
variable {X:Cx}{tg:Expr}
end
end _L
namespace PySem
namespace GE
open AutoSeq1 (wpAny_loadPart')
section
variable {prog:Program}{w:World}{A:Around}{E:f_->g_->Prop}{s:g_}
end
end GE
end PySem
namespace _L
open PySem PySem.Spec PyProof.Rows
section
variable {X:Cx}
end
end _L
namespace PySem
namespace GE
section
variable {prog:Program}{w:World}{A:Around}{E:f_->g_->Prop}{s:g_}
end
section
variable {prog:Program}{w:World}{A:Around}{E:f_->g_->Prop}{s:g_}
end
end GE
end PySem
namespace _L
open PySem PySem.Spec PyProof.Rows
section
variable {X:Cx}
end
section
variable {κ:Type} [DecidableEq κ]
def lS(kvs:List (κ×V))(k:κ):Option V:=(kvs.find? λkv=>decide (kv.1=k)).map (·.2)
def putK(kvs:List (κ×V))(k:κ)(v:V):List (κ×V):=
 if (kvs.any λkv=>decide (kv.1=k))=c_ then kvs.map (λkv=>if kv.1=k then(kv.1,v) else kv) else kvs++[(k,v)]
theorem lG{p:κ×V}{r:List (κ×V)}{k:κ}(e:p.1=k):lS (p::r) k=a_ p.2:=by simp[lS,e]
theorem lN{p:κ×V}{r:List (κ×V)}{k:κ}(e: ¬p.1=k):lS (p::r) k=lS r k:=by simp[lS,e]
theorem vS(k:κ):∀kvs:List (κ×V),(kvs.any λkv=>decide (kv.1=k))=(lS kvs k).isSome
 |[]=>rfl
 | p::r=>by
   rw[fN];by_cases e:p.1=k
   .simp[lG e,decide_eq_true e]
   .rw[lN e,decide_eq_false e];exact vS k r
theorem k6(kvs:List (κ×V))(k:κ)(v:V):(putK kvs k v).length<=kvs.length+1:=by
 unfold putK
 split<;>simp_all
theorem qU.isSome_eq{o:Option V}{u:Option f_}(r:qU o u):o.isSome=u.isSome:=by
 cases o with
 | none=>cases u with
   |none=>rfl
   |some _=>exact(r).elim
 | some _=>cases u with
   |none=>exact(r).elim
   |some _=>rfl
theorem KV.val{kvs:List (κ×V)}{vs:List (κ×f_)}(r:KV kvs vs)(k:κ):qU (lS kvs k) (valueAt vs k):=by
 induction r with
 |nil=>exact fj
 | @cons p q ps qs h t ih=>
   obtain⟨h1,h2⟩:=h;by_cases e:p.1=k
   .have e':=h1.symm.trans e
    have b:valueAt (q::qs) k=a_ q.2:=by simp[valueAt,e']
    rw[lG e,b];exact h2
   .have e': ¬q.1=k:=λz=>e (h1.trans z)
    have b:valueAt (q::qs) k=valueAt qs k:=by simp[valueAt,e']
    rw[lN e,b];omega
theorem KV.any{kvs:List (κ×V)}{vs:List (κ×f_)}(r:KV kvs vs)(k:κ):(kvs.any λkv=>decide (kv.1=k))=vs.any λkv=>decide (kv.1=k):=by
 induction r<;>simp_all
variable{u:f_}
theorem KV.repl{kvs:List (κ×V)}{vs:List (κ×f_)}(r:KV kvs vs)(k:κ){y:V}(ry:RelV y u):
  KV (kvs.map λkv=>if kv.1=k then(kv.1,y) else kv) (vs.map λkv=>if kv.1=k then(kv.1,u) else kv):=by
 induction r with
 |nil=>exact .nil
 | @cons p q ps qs h t ih=>
   refine .cons ?_ ih
   grind
theorem KV.put{kvs:List (κ×V)}{vs:List (κ×f_)}(r:KV kvs vs)(k:κ){y:V}(ry:RelV y u):KV (putK kvs k y) (stored vs k u):=by
 unfold putK stored;rw[r.any k];by_cases e:(vs.any λkv=>decide (kv.1=k))=c_
 .rw[if_pos e,if_pos e];exact r.repl k ry
 .rw[if_neg e,if_neg e];exact Paired.snoc r ⟨rfl,ry⟩
theorem KV.length{kvs:List (κ×V)}{vs:List (κ×f_)}(r:KV kvs vs):kvs.length=vs.length:=xV r
end
variable{u:f_}{P:Program}{w:World}
theorem vO{k:Key}(r:RelV (kV k) u):(eV P w).is k u=c_:=by
 cases k with
 |inl i=>obtain⟨t,e⟩:=(r);subst e;exact w9 P w i t
 |inr x=>obtain⟨t,e⟩:=(r);subst e;exact xj P w x t
theorem tR{P:Program}{w:World}:∀{ks:List Key}{us:List f_},cf (ks.map kV) us->ItemsAre (eV P w) ks us
 |[],_,r=>by cases r;exact .nil
 | k::ks,_,r=>by
   cases r with
   |cons h t=>exact .cons (vO h) (tR t)
abbrev KT(H:Hp):List (List Key×V)->List (List Key×e_×f_)->Prop:=Paired λp q=>p.1=q.1/\H q.2.1=a_ (.tup (p.1.map kV))/\RelV p.2 q.2.2
variable{H:Hp}{kvs:List (List Key×V)}{xs:List (List Key×e_×f_)}
theorem KT.val(r:KT H kvs xs)(k:List Key):qU (lS kvs k) ((atKey xs k).map (·.2)):=by
 induction r with
 |nil=>exact fj
 | @cons p q ps qs h t ih=>
   obtain⟨h1,_,h2⟩:=h;by_cases e:p.1=k
   .have e':=h1.symm.trans e
    have b:atKey (q::qs) k=a_ q.2:=by simp[atKey,e']
    rw[lG e,b];exact h2
   .have e': ¬q.1=k:=λz=>e (h1.trans z)
    have b:atKey (q::qs) k=atKey qs k:=by simp[atKey,e']
    rw[lN e,b];omega
variable{y:V}
theorem KT.repl(r:KT H kvs xs)(k:List Key)(ry:RelV y u):
  KT H (kvs.map λkv=>if kv.1=k then(kv.1,y) else kv) (xs.map (putAt k u)):=by
 induction r with
 |nil=>exact .nil
 | @cons p q ps qs h t ih=>
   refine .cons ?_ ih;unfold putAt;by_cases e:p.1=k<;>simp_all
variable{b:e_}
theorem KT.put(r:KT H kvs xs)(k:List Key)(hb:H b=a_ (.tup (k.map kV)))(ry:RelV y u):
  KT H (putK kvs k y) (storedH xs k b u):=by
 have e:(kvs.any λkv=>decide (kv.1=k))=(atKey xs k).isSome:=by
  rw[vS,(r.val k).isSome_eq,Option.isSome_map]
 unfold putK storedH;rw[e];by_cases q:(atKey xs k).isSome=c_
 .rw[if_pos q,if_pos q];exact r.repl k ry
 .rw[if_neg q,if_neg q];exact Paired.snoc r ⟨rfl,hb,ry⟩
variable{H':Hp}
theorem KT.keeps(r:KT H kvs xs)(ht:∀b ys,H b=a_ (.tup ys)->H' b=a_ (.tup ys)):KT H' kvs xs:=
 Paired.mapP r λ_ _ z=>⟨z.1,ht _ _ z.2.1,z.2.2⟩
section
variable {P:Program}{w:World}{H:Hp}{h:Heap}{a:e_}
theorem Hx{u:HO}(ok:HOk P w H h)(e:Rd H a u):fO P w H h a u:=e.ok ok
theorem wY{kvs:List (Key×V)}(ok:HOk P w H h)(e:Rd H a (.dK kvs)):kvs.length<=sizeLine/\(a==sysModules)=d_ /\ ∃vs,KV kvs vs/\h.DictOf (eV P w) a vs:=
 Hx ok e
theorem GZ{kvs:List (Key×V)}(ok:HOk P w H h)(e:H a=a_ (.dK kvs)):kvs.length<=sizeLine/\(a==sysModules)=d_ /\ ∃vs,KV kvs vs/\h.DictOf (eV P w) a vs:=wY ok (.inl e)
theorem uV{ks:List Key}(ok:HOk P w H h)(e:H a=a_ (.tup (ks.map kV))):(tupleKind (eV P w)).is h ks a:=by
 obtain⟨_,ZX,r,⟨o,h1,h2,n,h3⟩,_⟩:=(ok a _ e);exact⟨o,_,n,h1,h2,h3,by simpa using tR r⟩
theorem zE(ok:HOk P w H h)(e:Rd H a (.dT kvs)):kvs.length<=sizeLine/\(a==sysModules)=d_ /\
  ∃xs,KT H kvs xs/\h.DictOfH (tupleKind (eV P w)) a xs:=by
 obtain⟨z,y,xs,r,o,es,ep,h1,h2,h3,h4,h5⟩:=(Hx ok e);refine⟨z,y,xs,r,o,es,ep,h1,h2,h3,h4,λx hx=>?_,h5⟩;have all:∀{l:List _}{m:List _},KT H l m->∀x∈m,(tupleKind (eV P w)).is h x.1 x.2.1:=by
  intro l m q
  induction q with
  |nil=>grind
  | @cons p q ps qs hq t ih=>
    intro x hx;rcases bf.mp hx with e|hx
    .exact uV ok (by simp_all)
    .exact ih x hx
 exact all r x hx
theorem Ll(ok:HOk P w H h)(e:H a=a_ (.dT kvs)):kvs.length<=sizeLine/\(a==sysModules)=d_ /\
  ∃xs,KT H kvs xs/\h.DictOfH (tupleKind (eV P w)) a xs:=zE ok (.inl e)
end
def uh(H:Hp)(a:e_)(y:V)(r:Option V):Prop:=
 (∃kvs k,Rd H a (.dK kvs)/\y=kV k/\r=lS kvs k) \/ ∃kvs k b,Rd H a (.dT kvs)/\y=.ref b/\H b=a_ (.tup (k.map kV))/\r=lS kvs k
def Bf(H:Hp)(a:e_)(y v:V)(H':Hp):Prop:=
 (∃kvs k,H a=a_ (.dK kvs)/\y=kV k/\kvs.length<sizeLine/\H'=upd H a (.dK (putK kvs k v))) \/
 ∃kvs k b,H a=a_ (.dT kvs)/\y=.ref b/\H b=a_ (.tup (k.map kV))/\kvs.length<sizeLine/\H'=upd H a (.dT (putK kvs k v))
theorem uh.k{H:Hp}{a:e_}{kvs:List (Key×V)}{k:Key}(e:H a=a_ (.dK kvs)):uh H a (kV k) (lS kvs k):= .inl ⟨kvs,k,.inl e,rfl,rfl⟩
variable{a:e_}
theorem uh.t{k:List Key}(e:H a=a_ (.dT kvs))(eb:H b=a_ (.tup (k.map kV))):uh H a (.ref b) (lS kvs k):= .inr ⟨kvs,k,b,.inl e,rfl,eb,rfl⟩
theorem Bf.k{H:Hp}{a:e_}{kvs:List (Key×V)}{k:Key}{v:V}(e:H a=a_ (.dK kvs))(hl:kvs.length<sizeLine):Bf H a (kV k) v (upd H a (.dK (putK kvs k v))):= .inl ⟨kvs,k,e,rfl,hl,rfl⟩
theorem Bf.t{k:List Key}{v:V}(e:H a=a_ (.dT kvs))(eb:H b=a_ (.tup (k.map kV)))(hl:kvs.length<sizeLine):
  Bf H a (.ref b) v (upd H a (.dT (putK kvs k v))):= .inr ⟨kvs,k,b,e,rfl,eb,hl,rfl⟩
section
variable {X:Cx}{pins:List (e_×Obj)}{G:St}{H:Hp}{s:g_}{a:e_}{y v:V}{u r:f_}{o:Option V}{A:Around}{E:f_->g_->Prop}
theorem Inv.big(I:Inv X pins G H s):sysModules<s.heap.objs.size:=dQ (by decide) ((I.mod.glob.keeps I.bk).lt)
variable{Q:f_->g_->Prop}
theorem A3(hu:A.units+1<cLine)(I:Inv X pins G H s)(g:uh H a y (a_ v))(ry:RelV y u)(h:∀w' s',Inv X pins G H s'->RelV v w'->Q w' s'):
  aR (model X.prog X.w) A (getItem (.ref a) u) Q E s:=by
 rcases g with⟨kvs,k,e,ey,l⟩|⟨kvs,k,b,e,ey,eb,l⟩
 .subst ey
  obtain⟨z,hd,vs,rel,dd⟩:=wY I.hok e;obtain⟨w',hw,ZA⟩:=qU.some_of (by rw[l];exact rel.val k);exact wpAny_getItem_of (vO ry) dd.mapOf hw (h w' _ (I.tok _) ZA)
 .subst ey
  cases (ry);obtain⟨z,hd,xs,rel,dd⟩:=zE I.hok e;obtain⟨w',hw,ZA⟩:=qU.some_of (by rw[l];exact rel.val k);obtain⟨p,hp,Sk⟩:=iF.mp hw;refine wpAny_getItem_heap (tupleKind_room_in1 hu) (uV I.hok eb) dd hp ?_;rw[Sk];exact h w' _ (I.tok _) ZA
theorem FT(hu:A.units+1<cLine)(I:Inv X pins G H s)(g:uh H a y o)(ry:RelV y u)(h:∀s',Inv X pins G H s'->Q (.bool (!o.isSome)) s'):
  aR (model X.prog X.w) A (compareOp .NotIn u (.ref a)) Q E s:=by
 rcases g with⟨kvs,k,e,ey,l⟩|⟨kvs,k,b,e,ey,eb,l⟩
 .subst ey
  obtain⟨z,hd,vs,rel,dd⟩:=wY I.hok e;refine wpAny_notIn_of (vO ry) hd dd.mapOf ?_;rw[<-(rel.val k).isSome_eq,<-l];exact h _ (I.tok _)
 .subst ey
  cases (ry);obtain⟨z,hd,xs,rel,dd⟩:=zE I.hok e;refine wpAny_notIn_heap (tupleKind_room_in1 hu) (uV I.hok eb) hd dd ?_;have q:=(rel.val k).isSome_eq;rw[Option.isSome_map]at q;rw[<-q,<-l];exact h _ (I.tok _)
variable{h':Heap}
theorem uY{t':Nat}{ob:HO}(I:Inv X pins G H s)(mu:Mut (H a))(hs:Bw a s.heap h')(he:∃q,h'.get? a=a_ q)(new:fO X.prog X.w (upd H a ob) h' a ob):
  Inv X pins G (upd H a ob) { s with heap:=h',toks:=t' }:=
 I.write mu (.inl rfl) (λb q hb z=>(hs.2 b hb).trans z) he new
theorem Ef{kvs:List (Key×V)}{vs:List (Key×f_)}(z:kvs.length<=sizeLine)(hd:(a==sysModules)=d_)(rel:KV kvs vs)(dd:h'.DictOf (eV P w) a vs):
  fO P w H' h' a (.dK kvs):=⟨z,hd,vs,rel,dd⟩
theorem AV{Q:Unit->g_->Prop}(hu:A.units+1<cLine)(I:Inv X pins G H s)(g:Bf H a y v H')(ry:RelV y u)(rv:RelV v r)(h:∀s',Inv X pins G H' s'->Q () s'):
  aR (model X.prog X.w) A (setItem (.ref a) u r) Q E s:=by
 rcases g with⟨kvs,k,e,ey,l,eH⟩|⟨kvs,k,b,e,ey,eb,l,eH⟩
 .subst ey eH
  obtain⟨z,hd,vs,rel,dd⟩:=GZ I.hok e;have hz:vs.length<=sizeLine:=by rw[<-rel.length];omega
  exact wpAny_setItem_pairs (vO ry) dd λh' Yb hs=>h _ (uY I (by rw[e];exact fj) hs (let ⟨q,_,_,hq,_⟩:=Yb;⟨q,hq⟩) (Ef (by have:=k6 kvs k v;exact aA (by omega) (by assumption)) hd (rel.put k rv) Yb))
 .subst ey eH
  cases (ry);obtain⟨z,hd,xs,rel,dd⟩:=Ll I.hok e;have hz:xs.length<=sizeLine:=by rw[<-xV rel];omega
  refine wpAny_setItem_heap (tupleKind_room_in1 hu) (uV I.hok eb) dd λh' Yb hs=>h _ ?_;obtain⟨q,es,ep,hq,h2,h3,h4,_,h5⟩:=Yb;refine uY I (by rw[e];exact fj) hs ⟨q,hq⟩ ⟨(by have:=k6 kvs k v;exact aA (by omega) (by assumption)),hd,_,(rel.put k eb rv).keeps λc ys ec=>?_,q,es,ep,hq,h2,h3,h4,h5⟩;rw[bc (pO ec e (λz=>nomatch z))];omega
end
section
variable {X:Cx}{pins:List (e_×Obj)}{G:St}{H:Hp}{s:g_}{a:e_}{kvs:List (Key×V)}{k:Key}{u:f_}{A:Around}{E:f_->g_->Prop}
theorem zp{Q:f_->g_->Prop}(I:Inv X pins G H s)(e:Rd H a (.dK kvs))(h :∀ t s',Inv X pins G H s'->Q (.int kvs.length t) s'):aR (model X.prog X.w) A (call (.builtin "len") [.ref a]) Q E s:=by
 obtain⟨z,hd,vs,rel,dd⟩:=wY I.hok e;refine call_len_dict hd dd (by rw[<-rel.length];rw[sizeLine_eq]at z;omega) ?_;rw[<-rel.length];exact h _ _ (I.tok _)
end
variable{X:Cx}
theorem wM{pins:List (e_×Obj)}{G:St}{s:g_}{o:Option V}(I:Inv X pins G H s)(g:uh H a y o):s.TypeIs (.ref a) "dict":=by
 rcases g with⟨kvs,k,e,_,_⟩|⟨kvs,k,b,e,_,_,_⟩
 .obtain⟨_,_,vs,_,dd⟩:=wY I.hok e
  exact dd.typeIs
 .obtain⟨_,_,xs,_,dd⟩:=zE I.hok e
  exact dd.typeIs
section
variable {X:Cx}{o i e value:Expr}{pos pos' W5:Pos}{td ty tv:TE}
end
theorem vU (h:Heap)(hb:sysModules<h.objs.size):fO P w H (h.push { cls := .type "dict",data := .dict #[] }) h.objs.size (.dK []):=
 ⟨gy _,beq_eq_false_iff_ne.mpr (cY (bx hb)),[],.nil,Heap.DictOf.new h⟩
def Dj:TE:=λ_ H Q=>∀p,H p=b_->Q (.ref p) (upd H p (.dK []))
section
variable {X:Cx}{pos:Pos}
theorem Cu:PE X (.Dict [] [] pos) Dj:=λpins s G H Q I h=>
 wpAny_Dict_empty ⟨.ref _,_,I.laid (λ_ _ q=>aw _ q) (ao _) (vU _ I.big),rfl,h _ (I.hok.fresh (ao _))⟩
end
def yY:List (TE×TE)->St->Hp->(List (V×V)->Hp->Prop)->Prop
 |[],_,H,Q=>Q [] H
 |(tk,tv)::r,G,H,Q=>tk G H λx H1=>tv G H1 λy H2=>yY r G H2 λps H3=>Q ((x,y)::ps) H3
abbrev VV:List (V×V)->List (f_×f_)->Prop:=Paired λp q=>RelV p.1 q.1/\RelV p.2 q.2
def PPs(X:Cx)(pos:Pos)(keys:List (Option Expr))(values:List Expr)(Yo:List (TE×TE)):Prop:=
 ∀(pins:List (e_×Obj)) (s:g_) (G:St) (H:Hp) (Q:List (V×V)->Hp->Prop),Inv X pins G H s->yY Yo G H Q ->
  aR (model X.prog X.w) X.A (evalPairs (pairTrees keys values X.env pos)) (λvs s'=>∃ps H',Inv X pins G H' s'/\VV ps vs/\Q ps H') X.xe s
variable{pos:Pos}
theorem FW:PPs X pos [] [] []:=λpins s G H Q I h=>pairTrees_nil_walk ⟨[],H,I,.nil,h⟩
variable{Yo:List (TE×TE)}
theorem Co{k v:Expr}{ks:List (Option Expr)}{vs:List Expr}{tk tv:TE}(hk:PE X k tk)(hv:PE X v tv)(hr:PPs X pos ks vs Yo):
  PPs X pos (a_ k::ks) (v::vs) ((tk,tv)::Yo):=λpins s G H Q I h=>
 pairTrees_cons_walk (thn (hk _ s G H _ I h) λu s1 ⟨x,H1,I1,rx,q1⟩=>thn (hv _ s1 G H1 _ I1 q1) λw2 s2 ⟨y,H2,I2,ry,q2⟩=>
  thn (hr _ s2 G H2 _ I2 q2) λws s3 ⟨ps,H3,I3,rel,q3⟩=>⟨_,H3,I3,.cons ⟨rx,ry⟩ rel,q3⟩)
def pz(kvs more:List (Key×V)):List (Key×V):=more.foldl (λacc kv=>putK acc kv.1 kv.2) kvs
theorem KV.merge:∀{more:List (Key×V)}{rs:List (Key×f_)}{kvs:List (Key×V)}{vs:List (Key×f_)},KV more rs->KV kvs vs->KV (pz kvs more) (merged vs rs):=by
 intro more rs kvs vs r
 induction r generalizing kvs vs with
 |nil=>intro q;exact q
 | @cons p q ps qs h t ih=>
   intro r0;have e:KV (putK kvs p.1 p.2) (stored vs q.1 q.2):=by
    have:=r0.put p.1 h.2<;>simp_all
   exact ih e
theorem mY:∀(more kvs:List (Key×V)),(pz kvs more).length<=kvs.length+more.length
 |[],kvs=>ao _
 | p::r,kvs=>by
   have h1:=mY r (putK kvs p.1 p.2);have h2:=k6 kvs p.1 p.2;show(pz _ r).length<=_
   grind
theorem rC{P:Program}{w:World}:∀{kvs:List (Key×V)}{ws:List (f_×f_)},VV (kvs.map λkv=>(kV kv.1,kv.2)) ws->∃rs,Carries (eV P w) ws rs/\KV kvs rs
 |[],_,r=>by cases r;exact⟨[],fj,.nil⟩
 | p::kvs,_,r=>by
   cases r with
   | @cons a b as bs h t=>
     obtain⟨rs,c,q⟩:=rC t;obtain⟨b1,b2⟩:=b;exact⟨(p.1,b2)::rs,⟨vO h.1,rfl,c⟩,.cons ⟨rfl,h.2⟩ q⟩
def G6(Yo:List (TE×TE)):TE:=λG H Q=>∀p,H p=b_->yY Yo G (upd H p (.dK [])) λps H2=>H2 p=a_ (.dK []) /\ ∃kvs:List (Key×V),ps=kvs.map (λkv=>(kV kv.1,kv.2))/\kvs.length<=15/\Q (.ref p) (upd H2 p (.dK (pz [] kvs)))
theorem Ff{keys:List (Option Expr)}{values:List Expr}(h:PPs X pos keys values Yo)(YH:keys.all (·.isSome)=c_)(hl:keys.length=values.length)(h0:keys≠[])
  (Sz:keys.length<=15):PE X (.Dict keys values pos) (G6 Yo):=by
 intro pins s G H Q I q;refine wpAny_Dict_walk (knd:=eV _ _) YH hl h0 Sz (thn (h _ _ G _ _ (I.laid (t':=s.toks) (λ_ _ q=>aw _ q) (ao _) (vU _ I.big)) (q _ (I.hok.fresh (ao _)))) λws s2 ⟨ps,H2,I2,rel,e,kvs,ep,lk,q2⟩=>?_);subst ep;obtain⟨rs,c,rk⟩:=rC rel;obtain⟨z,hd,Tt,r0,dd⟩:=GZ I2.hok e;cases r0;refine⟨rs,c,dd,λh' Yb hs=>⟨.ref _,_,?_,rfl,q2⟩⟩;have hz:(pz [] kvs).length<=sizeLine:=by
  have h1:=mY kvs [];rw[fH]at h1;rw[sizeLine_eq];omega
 exact uY I2 (by rw[e];exact fj) hs (let ⟨q,_,_,hq,_⟩:=Yb;⟨q,hq⟩) (Ef hz hd (rk.merge .nil) Yb)
structure M1(X:Cx)(o:Expr)(m:Str)(apos:Pos)(e:Expr)(cpos:Pos):Prop where
 base:attributeBase o m X.env (eval o X.env)=eval o X.env
 few:((backTo cpos (starEach [e] X.env)).all (λx => !x.1)&&(backToKw cpos (keywordEach [] X.env)).all (λx=>x.1.isSome)
  && decide (([e]:List Expr).length+([]:List Keyword).length+(if ([]:List Keyword).isEmpty then 0 else 1)<30))=c_
 line:(apos.endLine==cpos.line)=c_
 trees:backTo cpos (starEach [e] X.env)=[(d_,eval e X.env)]
section
variable {X:Cx}{pins:List (e_×Obj)}{G:St}{H:Hp}{s:g_}{a:e_}{y d:V}{u r:f_}{o:Option V}{A:Around}{E:f_->g_->Prop}
end
section
variable {X:Cx}{o e f:Expr}{apos cpos:Pos}{td ty tx:TE}
end
section
variable {X:Cx}{pins:List (e_×Obj)}{G:St}{H:Hp}{s:g_}{a:e_}{kvs:List (Key×V)}{A:Around}{E:f_->g_->Prop}
end
section
variable {X:Cx}{pins:List (e_×Obj)}{G:St}{H:Hp}{s:g_}{a:e_}{y:V}{u:f_}{A:Around}{E:f_->g_->Prop}
end
section
variable {X:Cx}
theorem AI:gE X (.builtin "len") (fun xs H Q=>∃ a kvs,xs=[V.ref a]/\H a=a_ (.dK kvs)/\Q (.int kvs.length) H):=by
 intro pins s G H xs us Q I r h;obtain⟨a,kvs,rfl,ha,q⟩:=h;obtain⟨u,rfl,ru⟩:=vals1 r;cases ru;exact zp I (.inl ha) λt s' I'=>⟨.int _,H,I',⟨t,rfl⟩,q⟩
end
section
variable {κ:Type} [DecidableEq κ]
end
def Itc(x:Str):It:=⟨λi _=>i<x.cps.size,λi H v H'=>H'=H /\ ∃c,x.cps[i]?=a_ c/\v=.str ⟨#[c]⟩,λi _=>x.cps.size<=i⟩
theorem DD{K:ai}{tg:Expr}(it:e_)(x:Str)(t:Tok):Turn P w K tg (Itc x) [it] it (fun i h=>h.IsStrIter it "str_ascii_iterator" x t i) where
 mem:=by simp
 obj:=λi h st b hb=>by
  have e:b=it:=by simpa using hb
  subst e;obtain⟨o,ho,hc,hd⟩:=st;exact⟨o,ho,λv z=>by rw[hd]at z;cases z⟩
 keep:=λi h h' st k=>let ⟨o,ho,r⟩:=st;⟨o,k it (by simp) o ho,r⟩
 item:=by
  intro X hP hw hK hc i pins s G H E I hf st hg;subst hP hw hK;obtain⟨f0,f1,f2,f3,f4,f5⟩:=hf it (by simp);have hi:i<x.cps.size:=hg;refine wpAny_pyNext_ascii_item st (c:=x.cps[i]) (by simp[hi]) λh' Zh Su=>?_;obtain⟨o,ho,YK,Zc⟩:=id Zh;exact⟨_,rfl,zK (s:={ s with heap:=h',toks:=s.toks+1 }) (n:="str_ascii_iterator") ho YK Zc (by decide) ⟨.str ⟨#[x.cps[i]]⟩,H,(I.turned (fun b o hb e=>Su.extBut b o hb e) f0 f1 f3 f4 f5),⟨_,rfl⟩,⟨rfl,_,by simp [hi],rfl⟩,Zh,fun b hb=>(hf b hb).1⟩⟩
 done:=by
  intro X hP hw hK hc i pins s G H E I hf st hg;subst hP hw hK;obtain⟨f0,f1,f2,f3,f4,f5⟩:=hf it (by simp);have hi:x.cps.size<=i:=hg;exact wpAny_pyNext_ascii_end (I.ok.hd hc) st (by simp[hi]) λh' eb=>⟨rfl,I.turned (t':=s.toks) (λb o hb e=>eb b o hb e) f0 f1 f3 f4 f5⟩
 self:=λ_ _ _ _ _ st h=>wpAny_pyIter_striter_ascii st h
section
variable {X:Cx}{tg:Expr}
def Gw(tl:TE):TI:=λG H R=>tl G H λv H1=>∃x,v=.str x/\x.cps.all (· < 128)=c_/\R (Itc x) H1
theorem KF{l:Expr}{tl:TE}(hl:PE X l tl):PI X tg l (Gw tl):=by
 intro pins s G H R I h;refine thn (hl pins s G H _ I h) λv s1 ⟨x0,H1,I1,r1,q1⟩=>?_;obtain⟨x,rfl,ha,q⟩:=q1;obtain⟨t,rfl⟩:=r1;refine wpAny_pyIter_ascii ha ?_;refine⟨s1.heap.objs.size,[s1.heap.objs.size],_,_,H1,rfl,I1.kept (t':=s1.toks) λb o e=>aw _ e,DD _ x t,⟨_,aI _ rfl,rfl,rfl⟩,λb hb=>?_,q⟩;have e:b=s1.heap.objs.size:=by simpa using hb
 subst e;exact I1.fpOk (ao _) (I1.hok.fresh (ao _))
theorem zV:∀{ys:List Str}{ZX:List f_},cf (ys.map V.str) ZX->StrsAre ZX ys
 |[],ZX,h=>by rw[cf.zero h];exact .nil
 | y::ys,ZX,h=>by
   cases h with
   | cons r t=>
     obtain⟨u,rfl⟩:=r;exact .cons _ _ (zV t)
def rJoin(K:ai):V->List V->Hp->VK->Prop:=λx vs H Q=>∃z p ys,x=.str z/\vs=[.ref p]/\SqL K H p (ys.map V.str)/\(ys.map (·.length)).sum+ys.length*z.length<=16777216/\Q (.str (Txt.join z ys)) H
theorem Gz:MtR X "str.join" (rJoin X.K):=by
 intro pins s G H x vs v us Q I rx rv h;obtain⟨z,p,ys,rfl,rfl,hH,hok,q⟩:=h;obtain⟨t,rfl⟩:=rx;obtain⟨u,rfl,r1⟩:=rv.one;cases r1;obtain⟨ZX,r',pl,hz⟩:=I.list hH;exact join_list pl.isList (zV r') hok λt' k=>⟨.str _,H,I.tok _,⟨_,rfl⟩,q⟩
def Er:V->List V->Hp->VK->Prop:=λx vs H Q=>∃z y,x=.str z/\vs=[.str y]/\(y.length==0)=d_/\z.length+2<=sizeLine /\ ∀l,H l=b_->Q (.ref l) (upd H l (.lst ((Bz z y).map V.str)))
theorem tK:∀l:List (Str×Tok),cf ((l.map (·.1)).map V.str) (strValues l)
 |[]=>.nil
 |p::r=>.cons ⟨p.2,rfl⟩ (tK r)
theorem De:MtR X "str.split" Er:=by
 intro pins s G H x vs v us Q I rx rv h;obtain⟨z,y,rfl,rfl,hy,YT,q⟩:=h;obtain⟨t,rfl⟩:=rx;obtain⟨u,rfl,r1⟩:=rv.one;obtain⟨u,rfl⟩:=r1;have ZQ:(jY z (cU z y 0 z.length (z.length+1)) y.length).length<=sizeLine:=by
  have e1:=StrLaws.occ_length_le z y 0 z.length (z.length+1);rw[length_partsBetween];omega
 have fin :∀ (l:List (Str×Tok)) (k:Nat),l.map (·.1)=Bz z y->l.length<=sizeLine->EP X pins G Q (.ref s.heap.objs.size) { s with heap:=s.heap.push { cls := .type "list",data := .seq (strValues l).toArray },toks:=k }:=fun l k e hz=>
  ⟨.ref s.heap.objs.size,_,I.laid (t':=k) (λb o e=>aw _ e) (ao _) (show fO X.prog X.w _ _ _ (.lst ((Bz z y).map V.str)) from⟨by rw[<-e,aj,aj];exact hz,strValues l,_,by rw[<-e];exact tK l,aI _ rfl⟩),rfl,q _ (I.hok.fresh (ao _))⟩
 cases h1:(decide (z.length<y.length)||decide (xW z<xW y))
 .cases hf:(cU z y 0 z.length (z.length+1)).isEmpty
  .refine call_meets xP (typeIs_str _ _ _) vv (sW _ _) (meets_str_split_sep z y t u h1 hy hf (by omega) ZQ) ?_
   show wants _ X.xe _ { s with toks:=_,heap:=s.heap.push { cls := .type "list",data := .seq (strsFrom s.toks (jY z (cU z y 0 z.length (z.length+1)) y.length)).toArray } };rw[strsFrom_eq];exact fin (numbered s.toks _) _ ((numbered_texts _ _).trans ((if_neg (ne_true_of_eq_false h1)).trans (if_neg (ne_true_of_eq_false hf))).symm) (by have:=congrArg EI (numbered_texts s.toks (jY z (cU z y 0 z.length (z.length+1)) y.length));rw[aj]at this;omega)
  .exact call_meets xP (typeIs_str _ _ _) vv (sW _ _) (meets_str_split_not_found z y t u h1 hy hf)
    (fin [(z,t)] s.toks ((if_neg (ne_true_of_eq_false h1)).trans (if_pos hf)).symm (by show 1<=sizeLine;decide))
 .exact call_meets xP (typeIs_str _ _ _) vv (sW _ _) (meets_str_split_cannot_occur z y t u h1)
   (fin [(z,t)] s.toks (if_pos h1).symm (by show 1<=sizeLine;decide))
theorem AO:gE X (.type "int") (fun xs H Q=>∃ x n,xs=[.str x]/\d5 x=a_ n/\x.length<=640/\Q (.int n) H):=by
 intro pins s G H xs us Q I r h;obtain⟨x,n,rfl,hn,hl,q⟩:=h;obtain⟨u,rfl,t,rfl⟩:=vals1 r;exact PySem.W.KIN.call_text hn hl ⟨.int n,H,I.tok _,⟨_,rfl⟩,q⟩
end
end _L
namespace PySem
open Sem (wp)
def kf(env:Env):List (Str×NameKind)->List (Str×e_)->List (Str×e_)
 |[],acc=>acc
 |(n,k)::r,acc=>if k==.free then kf env r ((n,(env.cells.lookup n).getD 0)::acc) else kf env r acc
variable{env:Env}
theorem iR{scope:Scope}(h:∀y∈scope.names,y.2=.free->∃c,env.cells.lookup y.1=a_ c):closureFor scope env=pure (kf env scope.names []):=by
 have go:∀(names:List _) (acc:List _),(∀y∈names,y.2=.free->∃c,env.cells.lookup y.1=a_ c) ->
   (forIn names acc λx r=>if (x.2==aX)=c_ then cellOf env x.1 >>= λa=>pure (ed ((x.1,a)::r)) else pure (ed r))=pure (kf env names acc):=by
  intro names
  induction names with
  |nil=>intro acc _;rfl
  | cons y r ih=>
    intro acc hy;obtain⟨n,k⟩:=y;by_cases hk:k=.free
    .subst hk
     obtain⟨c,hc⟩:=hy _ bq rfl;have e1:cellOf env n=pure c:=by unfold cellOf;rw[hc]
     have e2:kf env ((n,aX)::r) acc=kf env r ((n,c)::acc):=by
      show(if (aX==aX)=c_ then _ else _)=_<;>simp_all
     simp_all
    .have e2:kf env ((n,k)::r) acc=kf env r acc:=by
      show(if (k==aX)=c_ then _ else _)=_<;>simp_all
     simp_all
 exact(congrArg (λz=>z >>= pure) (go _ [] h)).trans rfl
theorem oj{env:Env}:∀(names:List (Str×NameKind)) (acc:List (Str×e_)),(∀y∈names,y.2=.free->∃c,env.cells.lookup y.1=a_ c)->∀x c,(kf env names acc).lookup x=a_ c->env.cells.lookup x=a_ c\/acc.lookup x=a_ c
 |[],_,_,_,_,h=>.inr h
 | (n,k)::r,acc,hy,x,c,h=>by
   unfold kf at h
   split at h
   .rename_i hk
    have Xs:=by simpa using hk
    subst Xs;obtain⟨d,hd⟩:=hy _ bq rfl;rcases oj r _ (λz hz=>hy z (az _ hz)) x c h with e |e<;>grind
   .exact oj r _ (λz hz=>hy z (az _ hz)) x c h
theorem oO{env:Env}{x:Str}:∀(names:List (Str×NameKind)) (acc:List (Str×e_)),(names.lookup x=a_ .free\/(acc.lookup x).isSome=c_)->((kf env names acc).lookup x).isSome=c_
 |[],_,h=>h.elim (λe=>by cases e) id
 | (y,k)::r,acc,h=>by
   unfold kf;by_cases hk:(k==.free)=c_
   .rw[if_pos hk]
    refine oO r _ ?_<;>grind
   .rw[if_neg hk]
    refine oO r _ ?_<;>grind
theorem fb:∀(names:List (Str×NameKind)) (n:Nat) (acc:List (Str×e_)),cellsFrom n names acc=cellsFrom n names []++acc
 |[],_,_=>rfl
 | (y,k)::r,n,acc=>by
   unfold cellsFrom
   split
   .rw[fb r _ _,fb r _ [(y,n)],fX];rfl
   .exact fb r n _
theorem jQ{x:Str}:∀(names:List (Str×NameKind)) (n:Nat) (acc:List (Str×e_)) (c:e_),(cellsFrom n names acc).lookup x=a_ c->(∃k∈names,k.1=x/\k.2=.cell)\/acc.lookup x=a_ c
 |[],_,_,_,h=>.inr h
 | (y,k)::r,n,acc,c,h=>by
   unfold cellsFrom at h
   split at h
   .rcases jQ r _ _ c h with⟨z,hz,e⟩|e
    .exact .inl ⟨z,az _ hz,e⟩
    .rw[bD]at e
     cases hb:x==y<;>simp_all
   .rcases jQ r _ _ c h with⟨z,hz,e⟩|e
    .exact .inl ⟨z,az _ hz,e⟩
    .exact .inr e
section
variable {M:Model}{A:Around}{E:f_->g_->Prop}{s:g_}
theorem oJ{scope:Scope}{globals:e_}{cl:List (Str×e_)}{qual:Str}{Q:Env->g_->Prop}
  (hQ:Q { scope:=scope,locals:=s.heap.objs.size,globals:=globals,cells:=cellsFrom (s.heap.objs.size+1) scope.names cl,qual:=qual,func:=b_,code:=env.code,frame:=env.frame,builtins:=env.builtins }
   { s with heap:=pushCells (s.heap.push { cls := .type "dict",data := .dict #[] }) scope.names }) :
  aR M A (newFunctionEnv scope globals cl [] qual b_ .none (a_ env)) Q E s:=by
 refine aB (wpAny_alloc ?_);refine aB (wpAny_layCells _ (λname kind cells=>by grind) _ _ _ _ ?_);rw[dy ..];exact bj hQ
end
section
variable {prog:Program}{w:World}{A:Around}{R:Result->g_->Prop}{s:g_}
theorem lH{elt target iter:Expr}{ifs:List Expr}{scope:Scope}{pos:Pos}{it acc:f_}(I:Nat->g_->Prop)
  (turn: ∀n s,I n s->aR (model prog w) A (pyNext it) (λr ZT=>match r with
   |none=>R (.ok .next) ZT
   | some v=>aR (model prog w) A (letOwnedTupleGo target it v) (λ_ ZT=>aR (model prog w) A (assign target env v) (λ_ ZZ=>
     aR (model prog w) A (forIn ifs c_ λc r=>if r=c_ then do let ok <- isTrue c env (eval c env);pure (ed ok) else pure (ed r)) (λok YE=>
      if ok=c_ then aR (model prog w) A (eval elt env) (λx Yu=>
       aR (model prog w) A (call (.builtin "list.append") [acc,x]) (fun _ WW => ∃ m,m < n/\I m WW) (fun _ _=>False) Yu) (notedBy (model prog w) A env fun e s'=>R (.error e) s') YE
      else ∃m,m<n/\I m YE) (λ_ _=>False) ZZ) (λ_ _=>False) ZT) (λ_ _=>False) ZT) (λ_ _=>False) s)
  (n:Nat) (h:I n s):
  se (model prog w) A (.compLoop (.ListComp elt [⟨target,iter,ifs,0⟩] scope pos) 0 it acc env) R s:=by
 refine codeAny_loop rfl I (λn s hI=>?_) n h;show aR _ A ((compTurn (.ListComp elt [⟨target,iter,ifs,0⟩] scope pos) 0 it acc env).onRaise (λx=>do noteFrame x env;theTreesLotGoes x)) _ _ s;refine wpAny_noted ?_;rw[compTurn_list];refine aB (wpAny_standAt (aB (bV (turn n s hI) (λr ZT Yt=>?_) λ_ _ h'=>h'.elim)));cases r with
 |none=>exact bj Yt
 | some v=>
   refine aB (bV Yt (λ_ ZT Yt=>?_) λ_ _ h'=>h'.elim);refine aB (bV Yt (λ_ ZZ Vw=>aB (bV Vw (λok YE WZ=>?_) λ_ _ h'=>h'.elim)) λ_ _ h'=>h'.elim);cases ok with
   |false=>exact bj ⟨rfl,WZ⟩
   | true=>
     exact aB (aB (bV WZ (λx Yu VL=>aB (bV VL (λ_ WW VS=>bj (bj ⟨rfl,VS⟩)) λ_ _ h'=>h'.elim)) λ_ _ h'=>h'))
end
end PySem
namespace _G
open PySem
inductive U where
 |non |bl (b:Bool) |int (i:Int) |str (x:Str) |tup (us:List U) |ref (n:Nat) |obj (a:e_)
 deriving Inhabited
inductive Cell where
 |lst (us:List U)
 |frz (us:List U)
 |dic (kvs:List (_L.Key×U))
 |dit (f:Bool) (kvs:List (List _L.Key×U))
 deriving Inhabited
abbrev Sto:=List Cell
abbrev Rho:=List (Option U)
abbrev Res(α:Type):=Option (α×Sto)
abbrev ME:=Rho->Sto->Res U
abbrev MT:=Rho->Sto->Res Bool
abbrev MA:=Rho->Sto->Res (List U)
abbrev MF:=List U->Sto->Res U
def bnd{α β:Type}(r:Option (α×Sto))(k:α->Sto->Option β):Option β:=match r with
 |none=>b_
 |some p=>k p.1 p.2
theorem ak{α β:Type}{a:α}{S:Sto}{k:α->Sto->Option β}:bnd (a_ (a,S)) k=k a S:=rfl
theorem aK{α β:Type}{r:Option (α×Sto)}{k:α->Sto->Option β}{b:β}(h:bnd r k=a_ b):∃a S,r=a_ (a,S)/\k a S=a_ b:=by
 cases r with
 |none=>cases h
 |some p=>exact⟨_,_,rfl,h⟩
def big:Nat:=16777216
def getL(S:Sto)(n:Nat):Option (List U):=match S[n]? with
 |some (.lst us)=>a_ us
 |some (.frz us)=>a_ us
 |some (.dic _)=>b_
 |some (.dit _ _)=>b_
 |none=>b_
def cut{α:Type}(xs:List α)(lo hi:Option Int):List α:=(xs.drop (HT.sIx xs.length 0 lo)).take (HT.sIx xs.length xs.length hi-HT.sIx xs.length 0 lo)
abbrev F2:=U->U->Sto->Res U
def cK:F2:=λx y S=>match x,y with
 |.int i,.int j=>a_ (.int (i+j),S)
 |.tup xs,.tup ys=>if xs.length+ys.length<=big then a_ (.tup (xs++ys),S) else b_
 | .ref n,.ref m=>match S[n]?,S[m]? with
   |some (.lst xs),a_ (.lst ys)=>if xs.length+ys.length<=big then a_ (.ref S.length,S++[.lst (xs++ys)]) else b_
   |_,_=>b_
 |_,_=>b_
def yh:F2:=λx y S=>match x,y with
 |.int i,.int j=>a_ (.int (i-j),S)
 |_,_=>b_
def jw(i j:Int):Prop:=(-(2^64)<i/\i<2^64)\/(-(2^64)<j/\j<2^64)
instance(i j:Int):Decidable (jw i j):=aY _
def gY:F2:=λx y S=>match x,y with
 |.int i,.int j=>if jw i j then a_ (.int (i*j),S) else b_
 |_,_=>b_
def qM(j:Int):Prop:=0<j/\j<1073741824
instance(j:Int):Decidable (qM j):=aY _
def oDiv:F2:=λx y S=>match x,y with
 |.int i,.int j=>if qM j then a_ (.int (i/j),S) else b_
 |_,_=>b_
def oMod:F2:=λx y S=>match x,y with
 |.int i,.int j=>if 0<j then a_ (.int (i%j),S) else b_
 |_,_=>b_
def HE(i j:Int):Prop:=0<=j/\j<=1000000/\i.natAbs<2^64
instance(i j:Int):Decidable (HE i j):=aY _
def yO:F2:=λx y S=>match x,y with
 |.int i,.int j=>if HE i j then a_ (.int (i^j.toNat),S) else b_
 |_,_=>b_
def vN(p:Int->Int->Bool):F2:=λx y S=>match x,y with
 |.int i,.int j=>a_ (.bl (p i j),S)
 |_,_=>b_
abbrev oLt:F2:=vN λi j=>decide (i<j)
abbrev oLe:F2:=vN λi j=>decide (i<=j)
abbrev oGt:F2:=vN λi j=>decide (j<i)
abbrev oGe:F2:=vN λi j=>decide (j<=i)
def dJ(S:Sto):U->Option (List U)
 |.tup us=>a_ us
 |.ref n=>getL S n
 |_=>b_
def c9{α β:Type}(f:α->Option β):List α->Option (List β)
 |[]=>a_ []
 |x::xs=>(f x).bind λy=>(c9 f xs).map λys=>y::ys
def toD(S:Sto):Nat->U->Option PyData
 |0,_=>b_
 |_+1,.non=>a_ .none
 |_+1,.bl b=>a_ (.bool b)
 |_+1,.int i=>a_ (.int i)
 |_+1,.str x=>if iG (.str x)=c_ then a_ (.str x) else b_
 |f+1,.tup us=>(c9 (toD S f) us).map .tuple
 |f+1,.ref n=>(getL S n).bind λus=>(c9 (toD S f) us).map .list
 |_+1,.obj _=>b_
def eqU(S:Sto)(x y:U):Option Bool:=(toD S 40 x).bind λa=>(toD S 40 y).map λb=>eJ a b
def oEq:F2:=λx y S=>(eqU S x y).map λb=>(.bl b,S)
def oNe:F2:=λx y S=>(eqU S x y).map λb=>(.bl (!b),S)
def keyOf:U->Option _L.Key
 |.int i=>a_ (.inl i)
 |.str x=>a_ (.inr x)
 |_=>b_
def sr{κ:Type}[DecidableEq κ](kvs:List (κ×U))(k:κ):Option U:=(kvs.find? λkv=>decide (kv.1=k)).map (·.2)
def En{κ:Type}[DecidableEq κ](kvs:List (κ×U))(k:κ)(u:U):List (κ×U):=
 if (kvs.any λkv=>decide (kv.1=k))=c_ then kvs.map (λkv=>if kv.1=k then(kv.1,u) else kv) else kvs++[(k,u)]
def iJ(S:Sto):U->Option (List (_L.Key×U))
 | .ref n=>match S[n]? with
   |some (.dic kvs)=>a_ kvs
   |_=>b_
 |_=>b_
def oIx:F2:=λx y S=>match iJ S x with
 |some kvs=>(keyOf y).bind λk=>(sr kvs k).map λu=>(u,S)
 | none=>match y with
   |.int i=>((dJ S x).bind λus=>_L.atI us i).map λu=>(u,S)
   |_=>b_
def ae(i:Nat):ME:=λY S=>match Y[i]? with
 |some (a_ u)=>a_ (u,S)
 |_=>b_
def mC(u:U):ME:=λ_ S=>a_ (u,S)
def m1(f:U->Sto->Res U)(a:ME):ME:=λY S=>bnd (a Y S) λx S1=>f x S1
def m2(f:F2)(a b:ME):ME:=λY S=>bnd (a Y S) λx S1=>bnd (b Y S1) λy S2=>f x y S2
def af:MA:=λ_ S=>a_ ([],S)
def aa(a:ME)(r:MA):MA:=λY S=>bnd (a Y S) λx S1=>bnd (r Y S1) λxs S2=>a_ (x::xs,S2)
def gZ(a:MA):ME:=λY S=>bnd (a Y S) λxs S1=>if xs.length<=big then a_ (.tup xs,S1) else b_
def b0(a:MA):ME:=λY S=>bnd (a Y S) λxs S1=>if xs.length<=big then a_ (.ref S1.length,S1++[.lst xs]) else b_
def mFn(f:MF)(a:MA):ME:=λY S=>bnd (a Y S) λxs S1=>f xs S1
def ym:U->Sto->Res U:=λx S=>match x with
 |.int i=>a_ (.int (-i),S)
 |_=>b_
def F9(c:MT)(a b:ME):ME:=λY S=>bnd (c Y S) λk S1=>if k then a Y S1 else b Y S1
def tI:Option ME->Rho->Sto->Res (Option Int)
 |none=>λ_ S=>a_ (b_,S)
 | some a=>λY S=>bnd (a Y S) λx S1=>match x with
   |.int i=>a_ (a_ i,S1)
   |_=>b_
def mSl(a:ME)(lo hi:Option ME):ME:=λY S=>bnd (a Y S) λx S1=>bnd (tI lo Y S1) λl S2=>bnd (tI hi Y S2) λh S3=>match x with
 |.tup us=>a_ (.tup (cut us l h),S3)
 |.ref n=>(getL S3 n).map λus=>(.ref S3.length,S3++[.lst (cut us l h)])
 |_=>b_
def cOf(a:ME):MT:=λY S=>bnd (a Y S) λx S1=>match x with
 |.bl b=>a_ (b,S1)
 |_=>b_
def rR(a b:MT):MT:=λY S=>bnd (a Y S) λk S1=>if k then b Y S1 else a_ (d_,S1)
def cOr(a b:MT):MT:=λY S=>bnd (a Y S) λk S1=>if k then a_ (c_,S1) else b Y S1
def dk(a:MT):MT:=λY S=>bnd (a Y S) λk S1=>a_ (!k,S1)
def cTT:MT:=λ_ S=>a_ (c_,S)
inductive Src where
 |imm (us:List U)
 |mut (n:Nat)
 |enl (n:Nat)
 |zlt (n:Nat) (us:List U)
 |zpt (us vs:List U)
abbrev MI:=Rho->Sto->Option (Src×Sto)
def okR(i:Int):Prop:= -(2^62)<=i/\i<2^62
instance(i:Int):Decidable (okR i):=aY _
def aU(i:Int)(n:Nat):List U:=(av n).map λ(k:Nat)=>.int (i+k)
def iR1(a:MA):MI:=λY S=>bnd (a Y S) λxs S1=>match xs with
 |[.int j]=>if okR j then a_ (.imm (aU 0 j.toNat),S1) else b_
 |_=>b_
def iR2(a:MA):MI:=λY S=>bnd (a Y S) λxs S1=>match xs with
 |[.int i,.int j]=>if okR i/\okR j then a_ (.imm (aU i (j-i).toNat),S1) else b_
 |_=>b_
def dh(a:ME):MI:=λY S=>bnd (a Y S) λx S1=>match x with
 |.tup us=>a_ (.imm us,S1)
 |.ref n=>(getL S1 n).map λ_=>(.mut n,S1)
 |_=>b_
def dO(t:MT)(e:ME)(Y:Rho):List U->List U->Sto->Res (List U)
 |[],acc,S=>a_ (acc,S)
 |x::xs,acc,S=>bnd (t (Y++[a_ x]) S) λk S1=>if k then bnd (e (Y++[a_ x]) S1) λy S2=>dO t e Y xs (acc++[y]) S2 else dO t e Y xs acc S1
def iY(t:MT)(e:ME)(Y:Rho)(n:Nat):Nat->Nat->List U->Sto->Res (List U)
 |0,_,_,_=>b_
 | f+1,i,acc,S=>(getL S n).bind λus=>match us[i]? with
   |none=>a_ (acc,S)
   |some x=>bnd (t (Y++[a_ x]) S) λk S1=>if k then bnd (e (Y++[a_ x]) S1) λy S2=>iY t e Y n f (i+1) (acc++[y]) S2 else iY t e Y n f (i+1) acc S1
def fuel:Nat:=100000
def rA(t:MT)(e:ME)(Y:Rho):Src->Sto->Res (List U)
 |.imm us,S=>dO t e Y us [] S
 |.mut n,S=>iY t e Y n fuel 0 [] S
 |_,_=>b_
def bu(it:MI)(t:MT)(e:ME):ME:=λY S=>bnd (it Y S) λsrc S1=>bnd (rA t e Y src S1) λys S2=>if ys.length<big then a_ (.ref S2.length,S2++[.lst ys]) else b_
inductive Fl where
 |nx |rt (u:U) |bk |ct
abbrev MS:=Rho->Sto->Option (Fl×Rho×Sto)
def bE:MS:=λY S=>a_ (.nx,Y,S)
def aW(a b:MS):MS:=λY S=>match a Y S with
 |some (.nx,Y2,S1)=>b Y2 S1
 |r=>r
def bJ(i:Nat)(e:ME):MS:=λY S=>bnd (e Y S) λx S1=>a_ (.nx,Y.set i (a_ x),S1)
def jR(o i e:ME):MS:=λY S=>bnd (e Y S) λx S1=>bnd (o Y S1) λp S2=>bnd (i Y S2) λj S3=>match p with
 | .ref n=>match S3[n]? with
   | some (.lst us)=>(match j with
     |.int k=>(_L.ixN us.length k).map λm=>(.nx,Y,S3.set n (.lst (us.set m x)))
     | _=>b_)
   |some (.dic kvs)=>(keyOf j).bind λk=>if kvs.length<big then a_ (.nx,Y,S3.set n (.dic (En kvs k x))) else b_
   |_=>b_
 |_=>b_
def dm(e:ME):MS:=λY S=>bnd (e Y S) λ_ S1=>a_ (.nx,Y,S1)
def bO(e:ME):MS:=λY S=>bnd (e Y S) λx S1=>a_ (.rt x,Y,S1)
def sIf(c:MT)(a b:MS):MS:=λY S=>bnd (c Y S) λk S1=>if k then a Y S1 else b Y S1
def aft(r:Option (Fl×Rho×Sto))(k:MS):Option (Fl×Rho×Sto):=match r with
 |some (.nx,Y2,S1)=>k Y2 S1
 |some (.ct,Y2,S1)=>k Y2 S1
 |some (.bk,Y2,S1)=>a_ (.nx,Y2,S1)
 |r=>r
def pw(i:Nat)(b:MS):List U->MS
 |[],Y,S=>a_ (.nx,Y,S)
 |x::xs,Y,S=>aft (b (Y.set i (a_ x)) S) (pw i b xs)
def forL(i:Nat)(b:MS)(n:Nat):Nat->Nat->MS
 |0,_,_,_=>b_
 | f+1,k,Y,S=>(getL S n).bind λus=>match us[k]? with
   |none=>a_ (.nx,Y,S)
   |some x=>aft (b (Y.set i (a_ x)) S) (forL i b n f (k+1))
def LU(i:Nat)(b:MS):Src->MS
 |.imm us=>pw i b us
 |.mut n=>forL i b n fuel 0
 |_=>λ_ _=>b_
def fU(i:Nat)(it:MI)(b:MS):MS:=λY S=>bnd (it Y S) λsrc S1=>LU i b src Y S1
def whl(c:MT)(b:MS):Nat->MS
 |0,_,_=>b_
 |f+1,Y,S=>bnd (c Y S) λk S1=>if k then aft (b Y S1) (whl c b f) else a_ (.nx,Y,S1)
def yy(c:MT)(b:MS):MS:=whl c b fuel
def run(k n:Nat)(b:MS):MF:=λus S=>if us.length=k then match b (us.map a_++bI (n-k) b_) S with
  |some (.rt u,_,S1)=>a_ (u,S1)
  |some (.nx,_,S1)=>a_ (.non,S1)
  |_=>b_
 else b_
def cJ:MF:=λus S=>match us with
 | [x]=>(match iJ S x with
   |some kvs=>a_ (.int kvs.length,S)
   | none=>(dJ S x).map λxs=>(.int xs.length,S))
 |_=>b_
def bZ:MF:=λus S=>match us with
 |[x]=>(dJ S x).map λxs=>(.tup xs,S)
 |_=>b_
def wK:MF:=λus S=>match us with
 |[.int i,.int j]=>a_ (.int (if j>i then j else i),S)
 |_=>b_
def wL:MF:=λus S=>match us with
 |[.int i,.int j]=>a_ (.int (if j<i then j else i),S)
 |_=>b_
def nB(it:MI):ME:=λY S=>bnd (it Y S) λsrc S1=>match src with
 |.imm us=>if us.length<=big then a_ (.ref S1.length,S1++[.lst us]) else b_
 |_=>b_
def tyU(S:Sto):U->Option String
 |.non=>a_ "NoneType"
 |.bl _=>a_ "bool"
 |.int _=>a_ "int"
 |.str _=>a_ "str"
 |.tup _=>a_ "tuple"
 | .ref n=>match S[n]? with
   |some (.lst _)=>a_ "list"
   |some (.dic _)=>a_ "dict"
   |_=>b_
 |.obj _=>b_
def Jg(d:PyData):Prop:=d.showable=c_/\d.shown.length<=sizeLine
instance(d:PyData):Decidable (Jg d):=aY _
def DU(t T:String):Bool:=t==T||(t == "bool"&&T == "int")
def fg(T:String):U->Sto->Res U:=λx S=>(tyU S x).map λt=>(.bl (DU t T),S)
def mML(f:Nat->List U->Sto->Res U)(o:ME)(a:MA):ME:=λY S=>bnd (o Y S) λp S1=>match p with
 |.ref n=>(getL S1 n).bind λ_=>bnd (a Y S1) λxs S2=>f n xs S2
 |_=>b_
def cW:Nat->List U->Sto->Res U:=λn xs S=>match xs with
 | [x]=>match S[n]? with
   |some (.lst us)=>if us.length<big then a_ (.non,S.set n (.lst (us++[x]))) else b_
   |_=>b_
 |_=>b_
def jS:Nat->List U->Sto->Res U:=λn xs S=>match xs with
 | [.int i]=>match S[n]? with
   |some (.lst us)=>if okR i then(_L.ixN us.length i).bind λj=>us[j]?.map λy=>(y,S.set n (.lst (us.eraseIdx j))) else b_
   |_=>b_
 |_=>b_
def mMT(f:List U->List U->Sto->Res U)(o:ME)(a:MA):ME:=λY S=>bnd (o Y S) λp S1=>match p with
 |.tup us=>bnd (a Y S1) λxs S2=>f us xs S2
 |_=>b_
end _G
namespace _L
open PySem PySem.Spec PyProof.Rows
def blk(X:Cx)(N':List Str)(scope:Scope)(ZZ:g_)(ZW:Hp)(fp:List e_):Cx:=
 { X with
  N:=N'
  s₀:=ZZ
  H₀:=ZW
  env:={ scope:=relabel scope X.env,locals:=ZZ.heap.objs.size+1,globals:=X.env.globals,cells:=cellsFrom (ZZ.heap.objs.size+2) scope.names (kf X.env scope.names []),qual:=X.env.qual,func:=b_,code:=X.env.code,frame:=X.env.frame,builtins:=X.env.builtins }
  outer:=X.stack
  ex:=fp
  fn:=λx=>scope.names.lookup x==a_ .cell
  pn:= []
  xe:=λ_ _=>False }
structure gS(X:Cx)(N':List Str)(scope:Scope)(xs:List Str):Prop where
 kind:scope.kind=.function
 nd:(scope.names.map (·.1)).Nodup
 free:∀y∈scope.names,y.2=.free->X.env.kindOf y.1=a_ .cell\/X.env.kindOf y.1=a_ .free
 own:∀x∈xs,scope.names.lookup x=a_ .local\/scope.names.lookup x=a_ .cell
 ndN:N'.Nodup
 len:N'.length=X.N.length+xs.length
 last:∀(j:Nat) (x:Str),xs[j]?=a_ x->N'[X.N.length+j]?=a_ x
 vis:∀(i:Nat) (y:Str),i<X.N.length->N'[i]?=a_ y->(scope.names.lookup y=a_ .local\/scope.names.lookup y=a_ .cell\/scope.names.lookup y=a_ .free)->X.N[i]?=a_ y/\scope.names.lookup y=a_ .free
theorem gR{env:Env}:∀{names:List (Str×NameKind)}{x:Str}{k:NameKind},
  (names.map λ(n,k)=>if (k==aX&&env.scope.kind==.function&&env.kindOf n==a_ .cell) then(n,dr) else(n,k)).lookup x=a_ k ->
  names.lookup x=a_ k\/(names.lookup x=a_ .free/\k=.cell)
 |[],_,_,h=>by simp at h
 | (n,k')::r,x,k,h=>by
   have ih:= @gR env r x k;have h':EK x ((if (k'==aX&&env.scope.kind==.function&&env.kindOf n==a_ _)=c_ then(n,dr) else(n,k'))::(r.map _))=a_ k:=h;by_cases hc:(k'==aX&&env.scope.kind==.function&&env.kindOf n==a_ .cell)=c_
   .rw[if_pos hc]at h'
    rw[bD]at h' ⊢;cases hx:x==n<;>simp_all
   .rw[if_neg hc]at h'
    rw[bD]at h' ⊢;cases hx:x==n<;>simp_all
theorem kF{env:Env}:∀{names:List (Str×NameKind)}{x:Str},names.lookup x=a_ .cell ->
  (names.map λ(n,k)=>if (k==aX&&env.scope.kind==.function&&env.kindOf n==a_ .cell) then(n,dr) else(n,k)).lookup x=a_ .cell
 |[],_,h=>by simp at h
 | (n,k')::r,x,h=>by
   have ih:= @kF env r x
   grind
theorem km{env:Env}:∀{names:List (Str×NameKind)}{x:Str},names.lookup x=a_ .free ->
  (names.map λ(n,k)=>if (k==aX&&env.scope.kind==.function&&env.kindOf n==a_ .cell) then(n,dr) else(n,k)).lookup x=a_ .cell \/
  (names.map λ(n,k)=>if (k==aX&&env.scope.kind==.function&&env.kindOf n==a_ .cell) then(n,dr) else(n,k)).lookup x=a_ .free
 |[],_,h=>by simp at h
 | (n,k')::r,x,h=>by
   have ih:= @km env r x;show EK x ((if (k'==aX&&env.scope.kind==.function&&env.kindOf n==a_ _)=c_ then(n,dr) else(n,k'))::_)=_\/EK x ((if (k'==aX&&env.scope.kind==.function&&env.kindOf n==a_ _)=c_ then(n,dr) else(n,k'))::_)=_;rw[bD]at h;by_cases hc:(k'==aX&&env.scope.kind==.function&&env.kindOf n==a_ .cell)=c_
   .rw[if_pos hc]
    cases hx:x==n with
    |true=>exact .inl (by simp[bD,hx])
    | false=>
      rw[hx]at h;simp only[bD,hx];exact ih h
   .rw[if_neg hc]<;>grind
theorem oM{env:Env}:∀{names:List (Str×NameKind)}{x:Str},names.lookup x=a_ .globalImplicit ->
  (names.map λ(n,k)=>if (k==aX&&env.scope.kind==.function&&env.kindOf n==a_ .cell) then(n,dr) else(n,k)).lookup x=a_ .globalImplicit
 |[],_,h=>by simp at h
 | (n,k')::r,x,h=>by
   have ih:= @oM env r x
   grind
theorem kh:∀{names:List (Str×NameKind)}{x:Str}{k:NameKind},(names.map (·.1)).Nodup->(x,k)∈names->names.lookup x=a_ k
 |[],_,_,_,h=>by simp at h
 | (n,k')::r,x,k,nd,h=>by
   rw[bY,jJ]at nd;rw[bD];rcases bf.mp h with e|h2
   .cases e;simp
   .have YR:x≠n:=by
     grind
    rw[(beq_eq_false_iff_ne.mpr YR)];exact kh nd.2 h2
variable{X:Cx}{n:Nat}
theorem j9{scope:Scope}(hf:∀y∈scope.names,y.2=.free->∃c,X.env.cells.lookup y.1=a_ c){x:Str}{c:e_}
  (h:(cellsFrom n scope.names (kf X.env scope.names [])).lookup x=a_ c):(cellsFrom n scope.names []).lookup x=a_ c\/X.env.cells.lookup x=a_ c:=by
 rw[fb,hX]at h;cases q:(cellsFrom n _ []).lookup x with
 |some d=>simp_all
 | none=>
   rw[q]at h;rcases oj _ [] hf x c h with e|e<;>simp_all
section
variable {X:Cx}{pins:List (e_×Obj)}{G:St}{ZW:Hp}{ZZ:g_}{N':List Str}{scope:Scope}{xs:List Str}{fp:List e_}
theorem gS.frees(C:gS X N' scope xs)(ok:X.Ok):∀y∈scope.names,y.2=.free->∃c,X.env.cells.lookup y.1=a_ c:=λy hy e=>ok.has _ (C.free y hy e)
theorem Fv(C:gS X N' scope xs){y:Str}(h:scope.names.lookup y=a_ .cell\/scope.names.lookup y=a_ .free):∃c,(cellsFrom n scope.names (kf X.env scope.names [])).lookup y=a_ c:=by
 refine cu.mp (iu _ n _ ?_);rcases h with h|h
 .exact .inl h
 .exact .inr (oO _ [] (.inl h))
theorem Ih(I:Inv X pins G ZW ZZ)(C:gS X N' scope xs)(XB:∀b∈fp,rZ X pins ZW b)(ZN:∀b∈fp,b<ZZ.heap.objs.size):(blk X N' scope ZZ ZW fp).Ok:=by
 have own:=λy c h=>by
  have ok:=cellsFrom_ok scope.names ((ZZ.heap.push default).push default) _ [] ⟨λ_ _ hm=>(nomatch hm),gI⟩ (ao _);rw[dy,dy]at ok;exact(ok.empty y c (bN h)).2
 have apart:=by
  have ok:=cellsFrom_ok scope.names ((ZZ.heap.push default).push default) _ [] ⟨λ_ _ hm=>(nomatch hm),gI⟩ (ao _);rw[dy,dy]at ok;exact ok.apart
 have old:∀y c,X.env.cells.lookup y=a_ c->c<ZZ.heap.objs.size:=λy c h=>by obtain⟨v,z⟩:=I.cell y c h;exact z.lt
 refine⟨I.ok.mod,C.kind,I.ok.glob,I.ok.blt,fk _,λy z c h1 h2=>?_,λy hy=>?_,λy c hy h=>?_,I.ok.hd,I.ok.frames,.inl rfl,λb hb=>⟨?_,λy c h z=>?_⟩,I.bs,aA I.ok.bsz I.sz,λb o e hb=>?_,λb hb z=>?_,I.stack,I.stkFree⟩
 .rcases j9 (C.frees I.ok) h1 with a|a<;>rcases j9 (C.frees I.ok) h2 with b|b
  .exact name_of_addr apart (bN a) (bN b)
  .exact absurd (ax (old z c b) (aA (d6 _ 2) (own y c a))) (bT _)
  .exact absurd (ax (old y c a) (aA (d6 _ 2) (own z c b))) (bT _)
  .exact I.ok.inj y z c a b
 .refine Fv C ?_
  rcases hy with hy|hy
  .rcases gR hy with e|⟨e,_⟩<;>simp_all
  .rcases gR hy with e|⟨e,_⟩<;>simp_all
 .have h':(cellsFrom _ _ _).lookup y=a_ c:=h
  rw[fb,hX]at h';obtain⟨d,hd⟩:=(cu.mp (iu _ (ZZ.heap.objs.size+2) [] (.inl (by simpa [blk]using hy))));rw[hd]at h';have e:=dW h';subst e;have:=own y d hd;show ZZ.heap.objs.size<=d;omega
 .exact bx (iW (ZN b hb))
 .rcases j9 (C.frees I.ok) h with a|a
  .exact absurd (ax (ZN b hb) (aA (d6 _ 2) (z▸own y c a))) (bT _)
  .exact(XB b hb).2.2.2.2.1 y c a z
 .have z:=(XB b hb).2.2.2.1
  rcases z with z|z
  .exact I.ok.noex b o e z
  .exact absurd (ax (aF e) (aA I.ok.bsz z)) (bT _)
 .rcases bf.mp (I.stkSub b z) with e|e
  .exact(XB b hb).2.1 e
  .exact(XB b hb).2.2.1 e
theorem AC(I:Inv X pins G ZW ZZ)(C:gS X N' scope xs)(XB:∀b∈fp,rZ X pins ZW b)(ZN:∀b∈fp,b<ZZ.heap.objs.size){lo Xx:Obj}(RT:Xx.data=.dict #[])(Vm:Xx.isFreed=d_)(Rt:lo.isFreed=d_):
  Inv (blk X N' scope ZZ ZW fp) [] (G++bI xs.length b_) ZW { ZZ with heap:=pushCells ((ZZ.heap.push lo).push Xx) scope.names }:=by
 have sz:((ZZ.heap.push lo).push Xx).objs.size=ZZ.heap.objs.size+2:=by simp_all
 have VD:=cellsFrom_ok scope.names _ _ [] ⟨λ_ _ hm=>(nomatch hm),gI⟩ (by rw[sz];exact ao _);rw[sz]at VD;have kp:∀b o,ZZ.heap.get? b=a_ o->(pushCells ((ZZ.heap.push lo).push Xx) scope.names).get? b=a_ o:=λb o e=>pushCells_keeps _ _ b o (aw _ (aw _ e))
 have hL:(pushCells _ scope.names).get? (ZZ.heap.objs.size+1)=a_ _:=pushCells_keeps _ _ _ _ (by
  have e:ZZ.heap.objs.size+1=(ZZ.heap.push lo).objs.size:=by rw[dy]
  rw[e];exact aI _ Vm)
 refine⟨Ih I C XB ZN,rfl,I.bare,Un.kept kp,⟨_,⟨_,_,_,hL,RT,λe he=>by simp at he,λ_=>rfl⟩,λi y v h1 h2 h3=>?_⟩,λy c h=>?_,I.hok.fresh (fk _),λy c h=>?_,λp hp=>absurd (show p∈[] from hp) (by simp),I.hok.kept kp,?_⟩
 .have hi:i<X.N.length:=by
   by_cases hi:i<X.N.length
   .omega
   .rw[bp (by rw[I.len];simp_all),iw]at h2<;>simp_all
  rw[aS (by rw[I.len];omega)]at h2;have hv:scope.names.lookup y=a_ .local\/scope.names.lookup y=a_ .cell\/scope.names.lookup y=a_ .free:=by
   rcases h3 with h3|h3|h3<;>rcases gR h3 with e|⟨e,e'⟩<;>grind
  obtain⟨hN,Zw⟩:=C.vis i y hi h1 hv;have hk:=C.free _ (bN Zw) rfl;obtain⟨m,hn,hl⟩:=I.loc;obtain⟨u,r,l⟩:=hl i y v hN h2 (.inr hk);refine⟨u,r,.inr ⟨km Zw,?_⟩⟩;rcases l with⟨Xs,_⟩|⟨_,c,hc,Zz⟩
  .simp_all
  .have nown:(cellsFrom (ZZ.heap.objs.size+2) scope.names []).lookup y=b_:=by
    cases q:(cellsFrom _ _ []).lookup y with
    |none=>rfl
    | some d=>
      rcases jQ _ _ _ d q with⟨z,hz,e1,e2⟩|e
      .obtain⟨z1,z2⟩:=z
       simp at e1 e2;subst e1;subst e2;exact absurd (kh C.nd hz) (by rw[Zw];simp)
      .cases e
   obtain⟨d,hd⟩:=cu.mp (oO _ [] (.inl Zw));have Zc:X.env.cells.lookup y=a_ d:=by
    rcases oj _ [] (C.frees I.ok) y d hd with e|e<;>simp_all
   rw[hc]at Zc;cases Zc;refine⟨c,?_,Zz.keeps kp⟩;show(cellsFrom _ _ _).lookup y=a_ c;rw[fb,hX,nown];exact hd
 .rcases j9 (C.frees I.ok) h with a|a
  .exact⟨_,(VD.empty y c (bN a)).1⟩
  .obtain⟨v,z⟩:=I.cell y c a
   exact⟨v,z.keeps kp⟩
 .rcases j9 (C.frees I.ok) h with a|a
  .exact I.hok.fresh (aA (d6 _ 2) (VD.empty y c (bN a)).2)
  .exact I.freeC y c a
 .show(G++bI _ _).length=N'.length
  rw[dv,Ez,I.len,C.len]
end
def PTs(X:Cx)(ifs:List Expr)(t:TT):Prop:=
 ∀(pins:List (e_×Obj)) (s:g_) (G:St) (H:Hp) (Q:Bool->Hp->Prop),Inv X pins G H s->t G H Q ->
  aR (model X.prog X.w) X.A (forIn ifs c_ λc r=>if r=c_ then do let ok <- isTrue c X.env (eval c X.env);pure (ed ok) else pure (ed r)) (TP X pins G Q) X.xe s
theorem zZ:PTs X [] (λ_ H Q=>Q c_ H):=λpins s G H Q I h=>bj ⟨H,I,h⟩
theorem GK{c:Expr}{t:TT}(h:PT X c t):PTs X [c] t:=λpins s G H Q I q=>aB (aB (thn (h _ s G H Q I q) λb s1 e=>bj (bj e)))
def lT(wi:TI)(tt:TT)(te:TE):TE:=λG H Q=>wi G H λJ H1=>∃W:Nat->Nat->List V->Hp->Prop,(∃m,W 0 m [] H1) /\ ∀i m ys H,W i m ys H->ys.length<sizeLine /\
 ((J.stop i H /\ ∀D,H D=b_->Q (.ref D) (upd H D (.lst ys))) \/
  (J.go i H /\ ∀x H',J.yld i H x H'->tt (G++[a_ x]) H' λb H3=>if b=c_ then te (G++[a_ x]) H3 λy H4 =>∃m',m'<m/\W (i+1) m' (ys++[y]) H4 else ∃m',m'<m/\W (i+1) m' ys H3))
variable{P:Program}{w:World}{a:e_}
theorem HOk.track{H:Hp}{h:Heap}{o:HO}(x:HOk P w H h)(hn:H a=b_)(new:fO P w (upd H a o) h a o):HOk P w (upd H a o) h:=λb u e=>by
 by_cases hb:b=a
 .subst hb;rw[cx]at e;grind
 .rw[bc hb]at e
  exact(x b u e).stay (λc v _ q=>q) (λc q=>by rw[bc (bg q hn)];omega) λc xs q=>by rw[bc (bg q hn)];omega
theorem HOk.but{H:Hp}{h h':Heap}(x:HOk P w H h)(hn:H a=b_)(k:∀b o,b≠a->h.get? b=a_ o->h'.get? b=a_ o):HOk P w H h':=λb u e=>by
 refine(x b u e).stay (λc v hc q=>k c v ?_ q) (λ_ q=>q) λ_ _ q=>q
 grind
def HM(gT:V->Hp->(St->Hp->Prop)->Prop)(wi:TI)(tt:TT)(te:TE):TE:=λG H Q=>wi G H λJ H1=>∃W:Nat->Nat->List V->Hp->Prop,(∃m,W 0 m [] H1) /\ ∀i m ys H,W i m ys H->ys.length<sizeLine /\
 ((J.stop i H /\ ∀D,H D=b_->Q (.ref D) (upd H D (.lst ys))) \/
  (J.go i H /\ ∀x H',J.yld i H x H'->gT x H' λτ H2=>tt (G++τ) H2 λb H3=>if b=c_ then te (G++τ) H3 λy H4 =>∃m',m'<m/\W (i+1) m' (ys++[y]) H4 else ∃m',m'<m/\W (i+1) m' ys H3))
def gT1:V->Hp->(St->Hp->Prop)->Prop:=λv H Q=>Q [a_ v] H
section
variable {X:Cx}{N':List Str}{scope:Scope}{x:Str}{xs:List Str}{tg:Expr}{gT:V->Hp->(St->Hp->Prop)->Prop}{px pos:Pos}{elt iter:Expr}{ifs:List Expr}{wi:TI}{tt:TT}{te:TE}
variable{G:St}
theorem o4{use:Option (f_->Sem Unit)}{Qf:f_->g_->Prop}(hc:X.calm=c_)(C:gS X N' scope xs)(hi:PI X tg iter wi)
  (ht:∀ZZ ZW fp,PTs (blk X N' scope ZZ ZW fp) ifs tt) {ξ:g_->Hp->List e_->f_->g_->Prop} (he:∀ZZ ZW fp,PE ((blk X N' scope ZZ ZW fp).wish (ξ ZZ ZW fp)) elt te) {pins:List (e_×Obj)}{s:g_}{H:Hp}{Q:VK} (I:Inv X pins G H s) (h:HM gT wi tt te G H Q)
  (VG:∀(ZZ:g_) (ZW:Hp) (fp:List e_) (acc ev:f_) (s':g_),Inv X pins G ZW ZZ->(∀b∈fp,rZ X pins ZW b)->ξ ZZ ZW fp ev s'->notedBy (model X.prog X.w) X.A (blk X N' scope ZZ ZW fp).env (λe s''=>compPost (model X.prog X.w) X.A X.xe use Qf acc (blk X N' scope ZZ ZW fp).env.locals (.error e) s'') ev s')
  (RV: ∀(ZZ:g_) (ZW:Hp) (fp:List e_) (pl:List (e_×Obj)) (s:g_) (H:Hp) (v:V) (u:f_) (Q:St->Hp->Prop),Inv (blk X N' scope ZZ ZW fp) pl (G++bI xs.length b_) H s->RelV v u->gT v H Q ->
   aR (model X.prog X.w) X.A (assign tg (blk X N' scope ZZ ZW fp).env u) (λ_ s' =>∃τ H',τ.length=xs.length/\Inv (blk X N' scope ZZ ZW fp) pl (G++τ) H' s'/\Q τ H') (λ_ _=>False) s)
  (V2: ∀(s':g_) (L D:e_) (H':Hp) (ml:Str->Option f_),s'.heap.Ns L ml->Inv X pins G H' s'->H' L=b_->L≠X.env.locals->X.s₀.heap.objs.size<=L->(∀y c,X.env.cells.lookup y=a_ c->c≠L)->(∀p∈X.pn++pins,p.1≠L) ->
   Q (.ref D) H'->compPost (model X.prog X.w) X.A X.xe use Qf (.ref D) L (.ok .next) s'):
  aR (model X.prog X.w) X.A (eval iter X.env) (λxv ZT=>aR (model X.prog X.w) X.A (pyIter xv) (λit ZZ=>aR (model X.prog X.w) X.A (newList []) (λacc YE=>
   aR (model X.prog X.w) X.A (newFunctionEnv scope X.env.globals (kf X.env scope.names []) [] X.env.qual b_ .none (a_ X.env)) (λXQ Yu=>
    se (model X.prog X.w) X.A (.compStart (.ListComp elt [⟨tg,iter,ifs,0⟩] scope pos) 0 it acc { XQ with scope:=relabel scope X.env }) (compPost (model X.prog X.w) X.A X.xe use Qf acc XQ.locals) Yu) X.xe YE) X.xe ZZ) X.xe ZT) X.xe s:=by
 refine thn (hi pins s G H _ I h) λv s1 h1=>thn h1 λRg s2 h2=>?_;obtain⟨it,fp,tn,J,H2,e,I2,T,Zf,f2,W,⟨m0,w0⟩,turn⟩:=h2;subst e;have ZN:∀b∈fp,b<s2.heap.objs.size:=λb hb=>by obtain⟨o,ho,_⟩:=T.obj _ _ Zf b hb;exact aF ho
 refine xO (oJ ?_);dsimp only;have I4:Inv (blk X N' scope s2 H2 fp) [] (G++bI xs.length b_) H2 { s2 with heap:=pushCells ((s2.heap.push { cls := .type "list",dict:=b_,data := .seq ([]:List f_).toArray }).push { cls := .type "dict",data := .dict #[] }) scope.names }:=
  AC I2 C f2 ZN rfl rfl rfl
 generalize hXb:blk X N' scope s2 H2 fp=Xb at I4;have Rw:(pushCells ((s2.heap.push { cls := .type "list",dict:=b_,data := .seq ([]:List f_).toArray }).push { cls := .type "dict",data := .dict #[] }) scope.names).get? s2.heap.objs.size=a_ { cls := .type "list",data := .seq ([]:List f_).toArray }:=
  pushCells_keeps _ _ _ _ (aw _ (aI _ rfl))
 have YQ:tn 0 (pushCells ((s2.heap.push { cls := .type "list",dict:=b_,data := .seq ([]:List f_).toArray }).push { cls := .type "dict",data := .dict #[] }) scope.names):=
  T.keep _ _ _ Zf λb hb o e=>pushCells_keeps _ _ b o (aw _ (aw _ e))
 have Vb:({ scope:=relabel scope X.env,locals:=(s2.heap.push { cls := .type "list",dict:=b_,data := .seq ([]:List f_).toArray }).objs.size,globals:=X.env.globals,cells:=cellsFrom ((s2.heap.push { cls := .type "list",dict:=b_,data := .seq ([]:List f_).toArray }).objs.size+1) scope.names (kf X.env scope.names []),qual:=X.env.qual,func:=b_,code:=X.env.code,frame:=X.env.frame,builtins:=X.env.builtins }:Env)=Xb.env:=by
  rw[<-hXb,dy];rfl
 generalize hs4:({ s2 with heap:=pushCells ((s2.heap.push { cls := .type "list",dict:=b_,data := .seq ([]:List f_).toArray }).push { cls := .type "dict",data := .dict #[] }) scope.names }:g_)=s4 at I4;have Xy:s4.heap.get? s2.heap.objs.size=a_ { cls := .type "list",data := .seq ([]:List f_).toArray }:=by rw [<-hs4];exact Rw
 have Xu:tn 0 s4.heap:=by rw[<-hs4];exact YQ
 have hL:Xb.env.locals=s2.heap.objs.size+1:=by rw[<-hXb];rfl
 have hex:Xb.ex=fp:=by rw[<-hXb];rfl
 have W6:Xb.s₀=s2:=by rw[<-hXb];rfl
 have R6:Xb.H₀=H2:=by rw[<-hXb];rfl
 have YC:Xb.fs=frs X.stack:=by rw[<-hXb];rfl
 have TL:Xb.pn=[]:=by rw[<-hXb];rfl
 have hK:Xb.K=X.K:=by rw[<-hXb];rfl
 have hP:Xb.prog=X.prog:=by rw[<-hXb];rfl
 have hw:Xb.w=X.w:=by rw[<-hXb];rfl
 have hA:Xb.A=X.A:=by rw[<-hXb];rfl
 have Tf:Xb.xe=λ_ _=>False:=by rw[<-hXb];rfl
 have UG:Xb.calm=c_:=by rw[<-hXb];exact hc
 have hNb:Xb.N=N':=by rw[<-hXb];rfl
 have YN:∀y,scope.names.lookup y=a_ .cell->Xb.fn y=c_:=λy hy=>by rw[<-hXb];show(scope.names.lookup y==a_ .cell)=c_;rw[hy];rfl
 have XJ:PTs Xb ifs tt:=by rw[<-hXb];exact ht _ _ _
 have RS:PE (Xb.wish (ξ s2 H2 fp)) elt te:=by rw[<-hXb];exact he _ _ _
 have Sg:∀ev s',ξ s2 H2 fp ev s'->notedBy (model X.prog X.w) X.A Xb.env (λe s''=>compPost (model X.prog X.w) X.A X.xe use Qf (.ref s2.heap.objs.size) Xb.env.locals (.error e) s'') ev s':=λev s' z=>by rw[<-hXb];exact VG _ _ _ _ _ _ I2 f2 z
 have Si:∀(pl:List (e_×Obj)) (s:g_) (H:Hp) (v:V) (u:f_) (Q:St->Hp->Prop),Inv Xb pl (G++bI xs.length b_) H s->RelV v u->gT v H Q ->
   aR (model X.prog X.w) X.A (assign tg Xb.env u) (λ_ s'=>∃τ H',τ.length=xs.length/\Inv Xb pl (G++τ) H' s'/\Q τ H') (λ_ _=>False) s:=by
  rw[<-hXb];exact RV _ _ _
 have Yd:∀y c,Xb.env.cells.lookup y=a_ c->c≠s2.heap.objs.size:=λy c e z=>by
  obtain⟨v,o,ho,hd⟩:=I4.cell y c e;rw[z,Xy]at ho;cases ho;cases hd
 have stat:∀{H':Hp}{pl:List (e_×Obj)},(∀b∈fp,H' b=b_)->(∀p∈pl,p.1=s2.heap.objs.size)->∀b∈fp,rZ Xb pl H' b:=λ{H' pl} hn ZQ b hb=>by
  refine⟨hn b hb,?_,?_,.inl (by rw[hex];exact hb),λy c e z=>?_,λp hp z=>?_⟩
  .rw[hL];exact bx (iW (ZN b hb))
  .exact I4.ok.exfs b (by rw[hex];exact hb)
  .exact(I4.ok.exf b (by rw[hex];exact hb)).2 y c e z
  .rw[TL]at hp
   have h1:=ZQ p (by simpa using hp);have h2:=ZN b hb;exact absurd h2 (by rw[<-z,h1];exact bT _)
 have Dfs:s2.heap.objs.size∉Xb.fs:=by
  rw[YC];intro z;rcases bf.mp (I2.stkSub _ z) with e|e
  .exact absurd I2.lt (by rw[<-e];exact bT _)
  .exact I2.nofs (ao _) e
 have fin :∀ (s':g_) (i m:Nat) (ys:List V) (ZX:List f_) (n:Nat) (H':Hp) (Y1:St),Inv Xb [] Y1 H' s'->H' s2.heap.objs.size=b_->s'.heap.get? s2.heap.objs.size=a_ { cls := .type "list",data := .seq ZX.toArray n }->cf ys ZX->ys.length<sizeLine ->
   (∀D,H' D=b_->Q (.ref D) (upd H' D (.lst ys)))->compPost (model X.prog X.w) X.A X.xe use Qf (.ref s2.heap.objs.size) Xb.env.locals (.ok .next) s':=by
  intro s' i m ys ZX n H' Y1 I' Xk SU rv hz q;obtain⟨ml,Zd,_⟩:=I'.loc;have kb:∀b o,b≠Xb.env.locals->s'.heap.get? b=a_ o->s'.heap.get? b=a_ o:=λb o _ e=>e;have US:s2.heap.objs.size≠Xb.env.locals:=by rw[hL];exact bx (d7 _)
  have VT:HOk X.prog X.w H' s'.heap:=by
   have:=I'.hok.but I'.free kb;rw[hP,hw]at this;exact this
  have VJ:HOk X.prog X.w (upd H' s2.heap.objs.size (.lst ys)) s'.heap:=VT.track Xk ⟨br hz,ZX,n,rv,kb _ _ US SU⟩;have base:=I'.base;rw[W6,R6,hex,YC]at base;have un:Un (frs X.stack) fp H2 (upd H' s2.heap.objs.size (.lst ys)) s2.heap s'.heap:=by
   have ltL:∀b o,s2.heap.get? b=a_ o->b≠Xb.env.locals:=λb o e=>by rw[hL];exact bx (iW (aF e))
   have ltD:∀b o,s2.heap.get? b=a_ o->b≠s2.heap.objs.size:=λb o e=>bx (aF e);refine⟨λb o e n hb hx=>kb b o (ltL b o e) (base.keep b o e n hb hx),λb o e n hb hx=>?_,λb o e n hx=>?_,λb o e hx=>?_,λb xs e=>?_,λb o u e=>?_,λb ps e=>?_⟩
   .obtain⟨sl,q⟩:=base.slot b o e n hb hx
    exact⟨sl,kb b _ (ltL b o e) q⟩
   .rw[bc (ltD b o e)];exact base.free b o e n hx
   .obtain⟨o',q⟩:=base.there b o e hx
    exact⟨o',kb b _ (ltL b o e) q⟩
   .have q:=base.tups b xs e
    rw[bc (bg q Xk)];exact q
   .have q:=base.frzs b o u e
    rw[bc (bg q Xk)];exact q
   .obtain⟨more,q⟩:=base.tbls b ps e
    exact⟨more,by rw[bc (bg q Xk)];exact q⟩
  have os:s'.os=s2.os:=by rw[I'.os,W6]
  have If:=I2.call' (s':=s') os un VJ I'.bare λb hb=>⟨(f2 b hb).2.2.2.1,(f2 b hb).2.1,(f2 b hb).2.2.2.2.1,(f2 b hb).2.2.2.2.2⟩;refine V2 s' _ _ _ ml Zd If ?_ ?_ ?_ ?_ ?_ (q _ Xk)
  .rw[bc (cY US)];exact I'.free
  .rw[hL];exact gH (iW I2.lt)
  .rw[hL];exact sX I2.sz
  .intro y c e z
   obtain⟨v,o,ho,_⟩:=I2.cell y c e;have:=aF ho;rw[z,hL]at this;exact absurd (Nat.lt_of_succ_lt this) (bT _)
  .intro p hp z
   have:=aF (I2.pin p hp).1;rw[z,hL]at this;exact absurd (Nat.lt_of_succ_lt this) (bT _)
 have loop:∀We:e_,We=it->se (model X.prog X.w) X.A (.compLoop (.ListComp elt [⟨tg,iter,ifs,0⟩] scope pos) 0 (.ref We) (.ref s2.heap.objs.size) Xb.env) (compPost (model X.prog X.w) X.A X.xe use Qf (.ref s2.heap.objs.size) Xb.env.locals) s4:=by
  rintro We rfl
  refine lH (λn s' =>∃(i:Nat) (ys:List V) (ZX:List f_) (nn:Nat) (H':Hp),Inv Xb [] (G++bI xs.length b_) H' s'/\tn i s'.heap/\(∀b∈fp,H' b=b_)/\H' s2.heap.objs.size=b_ /\
   s'.heap.get? s2.heap.objs.size=a_ { cls := .type "list",data := .seq ZX.toArray nn }/\cf ys ZX/\W i n ys H') ?_ m0 ⟨0,[],[],_,H2,I4,Xu,fun b hb=>(f2 b hb).1,I2.hok.fresh (ao _),Xy,.nil,w0⟩
  rintro n s3 ⟨i,ys,ZX,nn,H3,I3,ZF,XW,UM,VQ,XE,w3⟩;obtain⟨hz,turn⟩:=turn i n ys H3 w3;have W2:∀{s':g_}{H':Hp}{Y1:St}{oD:Obj},Inv Xb [] Y1 H' s'->H' s2.heap.objs.size=b_->s'.heap.get? s2.heap.objs.size=a_ oD->(∀v,oD.data≠.cell v)->Inv Xb [(s2.heap.objs.size,oD)] Y1 H' s':=λ{s' H' Y1 oD} I' hn ho hd=>
   I'.pins_of λp hp=>by
    have e:p=(s2.heap.objs.size,oD):=by simpa using hp
    subst e;exact⟨ho,hn,by rw[hL];show s2.heap.objs.size≠_;exact bx (d7 _),Dfs,hd⟩
  have Ug:=W2 I3 UM VQ (λv z=>by cases z);have ZQ :∀ p ∈ [(s2.heap.objs.size,({ cls := .type "list",data := .seq ZX.toArray nn }:Obj))],p.1=s2.heap.objs.size:=fun p hp=>by
   have e:=ee.mp hp;rw[e]
  rcases turn with⟨stop,qn⟩|⟨go,step⟩
  .have q:=T.done Xb hP hw hK UG i _ s3 _ H3 (λ_ _=>False) Ug (stat XW ZQ) ZF stop
   rw[hA]at q;refine bV q (λr s5 ⟨hr,I5⟩=>?_) λ_ _ z=>cp z;subst hr;exact fin s5 i n ys ZX nn H3 _ (I5.pins_of λp hp=>absurd hp (by simp)) UM (I5.pin _ (aM _ (ee.mpr rfl))).1 XE hz qn
  .have q:=T.item Xb hP hw hK UG i _ s3 _ H3 (λ_ _=>False) Ug (stat XW ZQ) ZF go
   rw[hA]at q;refine bV q (λr s45 ⟨u,hr,h5⟩=>?_) λ_ _ z=>cp z;subst hr;refine bV h5 (λ_ s5 ⟨y5,H5,I5,r5,QS,Zx,Ve⟩=>?_) λ_ _ z=>cp z;have hD5:=(I5.pin _ (aM _ (ee.mpr rfl)));have Sx:=I5.pinned (stat Ve ZQ) (T.obj _ _ Zx);refine bV (Si _ s5 H5 y5 _ _ Sx r5 (step y5 H5 QS)) (λ_ s6 ⟨τ,H6,QV,I6,q6⟩=>?_) λ_ _ z=>cp z;have qt:=XJ _ s6 _ H6 _ I6 q6;rw[hP,hw,hA,Tf]at qt;refine bV qt (λb s7 ⟨H7,I7,q7⟩=>?_) λ_ _ z=>cp z;have again :∀ {s8:g_}{H8:Hp}{X6:St},Inv Xb ([(s2.heap.objs.size,({ cls := .type "list",data := .seq ZX.toArray nn }:Obj))]++vm fp s5.heap) X6 H8 s8->tn (i+1) s8.heap/\(∀ b∈fp,H8 b=b_)/\H8 s2.heap.objs.size=b_/\s8.heap.get? s2.heap.objs.size=a_ { cls := .type "list",data := .seq ZX.toArray nn }:=fun {s8 H8 X6} I8=>by
    refine⟨T.keep _ _ _ Zx λb hb o e=>(I8.pin (b,o) (aM _ (aM _ (kI hb e)))).1,λb hb=>?_,?_,?_⟩
    .obtain⟨o,e,d⟩:=T.obj _ _ Zx b hb
     exact(I8.pin (b,o) (aM _ (aM _ (kI hb e)))).2.1
    .exact(I8.pin _ (aM _ (c7 _ (ee.mpr rfl)))).2.1
    .exact(I8.pin _ (aM _ (c7 _ (ee.mpr rfl)))).1
   have forget:∀{s8:g_}{H8:Hp}{pl:List (e_×Obj)},Inv Xb pl (G++τ) H8 s8->Inv Xb [] (G++bI xs.length b_) H8 s8:=λ{s8 H8 pl} I8=>
    (I8.pins_of (pins':= []) λp hp=>absurd hp (by simp)).weak (by simp[QV]) λj v hj=>by
     by_cases hjs:j<G.length
     .rw[aS hjs]at hj ⊢;exact hj
     .rw[bp (by exact d8 (by assumption)),iw]at hj
      split at hj<;>simp at hj
   cases b with
   | false=>
     have Vv:∃m',m'<n/\W (i+1) m' ys H7:=q7;obtain⟨m',hm,w7⟩:=Vv;obtain⟨a1,a2,a3,a4⟩:=again I7;exact⟨m',hm,i+1,ys,ZX,nn,H7,forget I7,a1,a2,a3,a4,XE,w7⟩
   | true=>
     have Vv:te (G++τ) H7 λy H4=>∃m',m'<n/\W (i+1) m' (ys++[y]) H4:=q7;have qe:aR (model Xb.prog Xb.w) Xb.A (eval elt Xb.env) _ (ξ s2 H2 fp) s7:=RS _ s7 _ H7 _ (I7.wish _) Vv;rw[hP,hw,hA]at qe;refine bV qe (λuv s8 ⟨y8,H8,I8,r8,m',hm,w8⟩=>?_) λev s' z=>Sg ev s' z;replace I8:=I8.unwish;obtain⟨a1,a2,a3,a4⟩:=again I8;have I9:=forget I8;have hl3:=XE.length;refine call_meets F.slot_list_append ⟨_,a4,rfl⟩ F.entry_list_append (F.args_list_append_2 _ _) (PySem.list_append s2.heap.objs.size ZX.toArray nn uv (by rw[bU];omega)) ⟨a4,?_⟩;have XU:=Ey a4 (·.push uv);have e1:(ZX.toArray.push uv)=(ZX++[uv]).toArray:=by simp
     rw[e1]at XU;have QQ:Inv Xb [] (G++bI xs.length b_) H8 { s8 with heap:=s8.heap.update s2.heap.objs.size (nD (·.push uv)) }:=
      I9.turned (t':=s8.toks) (λb' u hb hu=>(dP s8.heap (nD (·.push uv)) (cY hb)).trans hu) a3 (by rw[hL];exact bx (d7 _)) (.inr (by rw[W6];exact ao _)) Yd (λp hp=>by rw[TL]at hp;exact absurd hp (by simp))
     refine⟨m',hm,i+1,ys++[y8],ZX++[uv],_,H8,QQ,T.keep _ _ _ a1 λb hb o e=>?_,a2,a3,XU,XE.append (.cons r8 .nil),w8⟩;exact(dP s8.heap (nD (·.push uv)) (by first |exact gH (ZN b hb) |exact bx (ZN b hb))).trans e
 have start:=codeAny_compStart_list (loop it rfl) (T.self X.A 0 s4 _ _ Xu (loop it rfl));rw[Vb];have eL:(s2.heap.push { cls := .type "list",dict:=b_,data := .seq ([]:List f_).toArray }).objs.size=Xb.env.locals:=by rw [dy,hL]
 rw[eL];exact start
theorem u9(C:gS X N' scope [x])(ZZ:g_)(ZW:Hp)(fp:List e_)(pl:List (e_×Obj))(s:g_)(H:Hp)(v:V)(u:f_)(Q:St->Hp->Prop)(I:Inv (blk X N' scope ZZ ZW fp) pl (G++bI [x].length b_) H s)(r:RelV v u)(q:gT1 v H Q):
  aR (model X.prog X.w) X.A (assign (.Name x px) (blk X N' scope ZZ ZW fp).env u) (λ_ s'=>∃τ H',τ.length=[x].length/\Inv (blk X N' scope ZZ ZW fp) pl (G++τ) H' s'/\Q τ H') (λ_ _=>False) s:=by
 have hl:G.length=X.N.length:=by
  have:=I.len;rw[show(blk X N' _ _ _ fp).N=N' from rfl,C.len,dv,Ez]at this;omega
 have Xe:Loc (blk X N' scope ZZ ZW fp).env.scope x:=by
  rcases C.own x (by simp) with e|e
  .exact .inl (lookup_relabel_local e)
  .exact .inr (kF e)
 have Sr:(blk X N' scope ZZ ZW fp).fn x=c_\/(blk X N' scope ZZ ZW fp).env.scope.names.lookup x=a_ .local:=by
  rcases C.own x (by simp) with e|e
  .right;exact lookup_relabel_local e
  .left;show(scope.names.lookup x==a_ _)=c_;rw[e];rfl
 refine xJ (nL I C.ndN (i:=X.N.length) (C.last 0 x rfl) Xe r (λs6 I6=>?_) Sr);have Vn:(G++bI [x].length b_).set X.N.length (a_ v)=G++[a_ v]:=by
  rw[<-hl];simp
 rw[Vn]at I6;exact⟨_,H,rfl,I6,q⟩
theorem z7(hc:X.calm=c_)(C:gS X N' scope [x])(hi:PI X (.Name x px) iter wi)
  (ht:∀ZZ ZW fp,PTs (blk X N' scope ZZ ZW fp) ifs tt) (he:∀ZZ ZW fp,PE (blk X N' scope ZZ ZW fp) elt te)
  (hs:autoParam (∀x,foldedSetIterable iter X.env x=pure x) au3._auto_1):
  PE X (.ListComp elt [⟨.Name x px,iter,ifs,0⟩] scope pos) (lT wi tt te):=by
 intro pins s G H Q I h;rw[eval_ListComp];refine nE (use:=b_) (cl:=kf X.env scope.names []) rfl hs (iR (C.frees I.ok)) C.kind (λy hy e=>kh C.nd (by rw[<-e];exact hy)) ?_;refine o4 (gT:=gT1) (ξ:=λ_ _ _ _ _=>False) hc C hi ht he I h (λ_ _ _ _ _ _ _ _ z=>z.elim) (u9 C) λs' L D H' ml Zd I' hn h1 h2 h3 h4 q=>?_;exact⟨ml,Zd,λh' XY=>⟨.ref D,H',I'.turned (t':=s'.toks) (λb o hb e=>(XY.2 b hb).trans e) hn h1 (.inr h2) h3 h4,rfl,q⟩⟩
theorem E5{i:Nat}{y:Str}{py YF:Pos}(hN:X.N.Nodup)(Xr:X.N[i]?=a_ y)(hy:Loc X.env.scope y)(hc:X.calm=c_)(C:gS X N' scope [x])(hi:PI X (.Name x px) iter wi)
  (ht:∀ZZ ZW fp,PTs (blk X N' scope ZZ ZW fp) ifs tt) (he:∀ZZ ZW fp,PE (blk X N' scope ZZ ZW fp) elt te)
  (Te:swapsWith (.ListComp elt [⟨.Name x px,iter,ifs,0⟩] scope pos) (a_ (.Name y py)) YF.line X.env=pure c_)
  (hs:autoParam (∀x,foldedSetIterable iter X.env x=pure x) au3._auto_1) (hf:autoParam (X.fn y=c_\/X.env.scope.names.lookup y=a_ .local) au4._auto_1):
  PS X (.Assign [.Name y py] (.ListComp elt [⟨.Name x px,iter,ifs,0⟩] scope pos) YF) (AW (lT wi tt te) (i2 i)):=by
 intro pins s G H D I h;rw[exec_Assign_Name_used _ _ _ _ Te];refine aB (wpAny_standAt (aB ?_));show aR _ X.A (do let _ <- comprehension (.ListComp elt [⟨.Name x px,iter,ifs,0⟩] scope pos) scope X.env _ (newList []) d_ (eval iter X.env) (a_ (assign (.Name y py) X.env))) _ _ s
 refine aB (bV (nE (use:=a_ (assign (.Name y py) X.env)) (Q:=λ_ s'=>SP X pins D .next s') (cl:=kf X.env scope.names []) rfl hs (iR (C.frees I.ok)) C.kind (λy hy e=>kh C.nd (by rw[<- e];exact hy))
  (o4 (gT:=gT1) (ξ:=λ_ _ _ _ _=>False) (Q:=λv H1=>i2 i v G H1 D.nx) hc C hi ht he I h (λ_ _ _ _ _ _ _ _ z=>z.elim) (u9 C) λs' L D' H' ml Zd I' hn h1 h2 h3 h4 q =>?_)) (λ_ s' hq=>bj (bj hq)) λ_ _ e=>e)
 show aR _ X.A (assign (.Name y py) X.env (.ref D')) _ _ _;refine xJ (tZ (v:= .ref D') I' hN Xr hy rfl (λs6 I6 XY=>?_) hf);obtain⟨a,XY,ha⟩:=XY;have SV:L≠a:=by
  rcases ha with e|e
  .rw[e];exact h1
  .exact cY (h3 _ _ e)
 refine⟨ml,Zd.sameBut XY SV,λh' VX=>?_⟩;exact⟨_,H',I6.turned (t':=s6.toks) (λb o hb e=>(VX.2 b hb).trans e) hn h1 (.inr h2) h3 h4,q⟩
end
end _L
namespace HT
open PySem PyProof.Rows
open PySem.SeqAt
open PySem.AutoSeq1 (wpAny_loadPart')
open PySem.MeetsSeq PySem.MeetsSeq2 PySem.MeetsSeq3
section
variable {prog:Program}{w:World}{A:Around}{E:f_->g_->Prop}{s:g_}
variable{Q:f_->g_->Prop}
theorem getItem_tuple_whole{t sl:e_}{items:Array f_}{vl vu:f_}{lo hi:Option Int}(ht:IsTup s.heap t items)(hs:s.heap.IsSliceOf sl vl vu .none)(pl:IsPart vl lo)(pu:IsPart vu hi)
  (hw:sIx items.size 0 lo=0/\sIx items.size items.size hi=items.size)
  (h:Q (.ref t) s):aR (model prog w) A (getItem (.ref t) (.ref sl)) Q E s:=by
 obtain⟨os,YU,YV,YB⟩:=id hs;unfold getItem
 try with_reducible refine j2 ?_
 refine aB (xM ht.typeIs (by decide) ?_)
 refine aB (oP ht.typeIs cw
  (zi cw ht.typeIs entry_tuple_getitem ?_ (args_tuple_getitem _ _)))
 show aR _ _ (ja _ >>= _) _ _ s;refine aB (tupleItemsOf_ ht ?_);refine aB (xN ⟨os,YU,YV⟩ ?_);refine aB (kg hs pl pu ?_);rw[hw.1,hw.2];show aR _ _ (if (0==0&&1==1&&(items.size-0)==items.size)=c_ then _ else _) _ _ s;rw[if_pos (by simp)];obtain⟨o,ho,hc,n,hd⟩:=id ht;refine aB ?_;refine aB (xN ⟨o,ho,hc⟩ (bj ?_));refine aB (wpAny_rule ?_)
 first
  |exact bj ⟨_,rfl,bj h⟩
  |grind
theorem cat_tup0{t b:e_}{ws:List f_}(ht:IsTup s.heap t ([]:List f_).toArray)(hb:IsTup s.heap b ws.toArray)(h:Q (.ref b) s):aR (model prog w) A (binaryOp .Add (.ref t) (.ref b)) Q E s:=by
 obtain⟨⟨cls,dd,data,sl⟩,ho,hc,n,hd⟩:=id ht;obtain⟨⟨W0,RX,data2,QT⟩,XF,YO,n2,hd2⟩:=id hb;subst hc hd YO hd2;exact concat_meets ⟨_,ho,rfl⟩ ⟨_,XF,rfl⟩ noFill_tuple_add seq_tuple_add lW kS (kN _ _)
   (tuple_addW0 t b _ _ n n2 dd _ sl _ (by simp)) ⟨ho,XF,h⟩
end
end HT
namespace _G
open PySem PySem.SeqAt
open PySem.AutoSeq1 (wpAny_loadPart')
open PySem.MeetsSeq PySem.MeetsSeq2 PySem.MeetsSeq3
theorem su(l:e_)(items:Array f_)(n:Nat)(dd:Option e_)(sl:Array (Option f_))(x:f_)(e:f_->Bool)(j:Nat)(hj:j<items.size)
  (hit:e items[j]=c_) (Vs:∀m (hm:m<items.size),m<j->e items[m]=d_):
  Meets (Builtin.«tuple.index» ⟨[.ref l,x],[]⟩)
   (fun A R s=>s.heap.get? l=a_ { cls := .type "tuple",dict:=dd,data := .seq items n,slots:=sl }/\(∀ y,y∈items->EqAt A.in1 s y x (e y))/\R (.ok (.ret (.int j s.toks))) { s with toks:=s.toks+1 }):=
 .of_wp λprog w A R s h=>by
  obtain⟨hp,g,d,tk,os⟩:=s;obtain⟨hl,he,h⟩:=h;simp only[Builtin.«tuple.index»,Std.Legacy.Range.forIn_eq_forIn_range']
  wp_walk using wpAny_loadPart' hl,wpAny_forIn_list _ (λrest b s'=>b.1=b_/\s'=⟨hp,g,d,tk,os⟩ /\ ∃i,i<=j/\rest=dR i (items.size-i)) _
  case turn=>
   rintro y rest b s' ⟨hb,rfl,i,R',Z2⟩;have ZN:i<items.size:=by
    rcases Nat.lt_or_ge i items.size with q|q
    .exact q
    .exact a9 (by assumption) (by assumption)
   obtain⟨k,hk⟩ :∃k,items.size-i=k+1:=⟨items.size-i-1,by omega⟩;rw[hk]at Z2;injection Z2 with h1 h2
   subst h1;have hg:items[y]?=a_ items[y]:=by simp[ZN]
   rw[hg];refine aB (he _ (Array.getElem_mem ZN) prog w _ _ ?_);by_cases hyj:y=j
   .subst hyj
    wp_walk
    exact⟨_,rfl,h⟩
   .rw[Vs y ZN (Nat.lt_of_le_of_ne (by assumption) (by assumption))]
    wp_walk
    exact⟨rfl,rfl,y+1,Nat.lt_of_le_of_ne (by assumption) (by assumption),by rw[h2];congr 1;omega⟩
  case fin=>
   rintro ⟨b1,b2⟩ s' ⟨hb,rfl,i,R',Z2⟩;exfalso;have h3:=congrArg EI Z2;simp at h3;omega
  case h=>
   exact⟨rfl,rfl,0,gy _,by simp⟩
end _G
namespace _G
open PySem PySem.Spec _L
open PyProof.Rows hiding St
mutual
def RU(H:Hp)(μ:List e_):U->V->Prop
 |.non,v=>v=.non
 |.bl b,v=>v=.bl b
 |.int i,v=>v=.int i
 |.str x,v=>v=.str x
 |.tup us,v=>∃a vs,v=.ref a/\H a=a_ (.tup vs)/\RUs H μ us vs
 |.ref n,v=>∃a,v=.ref a/\μ[n]?=a_ a
 |.obj a,v=>v=.ref a
def RUs(H:Hp)(μ:List e_):List U->List V->Prop
 |[],vs=>vs=[]
 |u::us,vs=>∃v r,vs=v::r/\RU H μ u v/\RUs H μ us r
end
structure bh(H H':Hp):Prop where
 t:∀a vs,H a=a_ (.tup vs)->H' a=a_ (.tup vs)
 f:∀a o u,H a=a_ (.frz o u)->H' a=a_ (.frz o u)
instance{H H':Hp}:CoeFun (bh H H') λ_=>∀a vs,H a=a_ (.tup vs)->H' a=a_ (.tup vs):=⟨bh.t⟩
def Pre(μ Y3:List e_):Prop:= ∃t,Y3=μ++t
theorem bh.refl(H:Hp):bh H H:=⟨λ_ _ h=>h,λ_ _ _ h=>h⟩
variable{H H1:Hp}
theorem bh.trans{H2:Hp}(a:bh H H1)(b:bh H1 H2):bh H H2:=⟨λc vs h=>b c vs (a c vs h),λc o u h=>b.f c o u (a.f c o u h)⟩
theorem Pre.refl(μ:List e_):Pre μ μ:=⟨[],by simp⟩
variable{μ Y0:List e_}
theorem Pre.trans{Y5:List e_}(a:Pre μ Y0)(b:Pre Y0 Y5):Pre μ Y5:=by
 obtain⟨t,rfl⟩:=a;obtain⟨u,rfl⟩:=b;exact⟨t++u,by simp⟩
variable{n:Nat}{a:e_}
theorem Pre.get{Y3:List e_}(p:Pre μ Y3)(h:μ[n]?=a_ a):Y3[n]?=a_ a:=by
 obtain⟨t,rfl⟩:=p;rw[aS ((ag.mp h).1)];omega
variable{p:e_}
theorem bh.new{o:HO}(h:H p=b_):bh H (upd H p o):=⟨λa vs e=>by rw[bc (bg e h)];omega,λa _ _ e=>by rw[bc (bg e h)];omega⟩
theorem bh.wr{xs ys:List V}(h:H p=a_ (.lst xs)):bh H (upd H p (.lst ys)):=⟨λa vs e=>by
 rw[bc (pO e h (by grind))];omega,λa _ _ e=>by
 rw[bc (pO e h (by grind))];omega⟩
mutual
theorem RU.mono{H H':Hp}{μ Y3:List e_}(k:bh H H')(p:Pre μ Y3):∀(u:U) (v:V),RU H μ u v->RU H' Y3 u v
 |.non,_,h=>by simpa [RU]using h
 |.bl _,_,h=>by simpa [RU]using h
 |.int _,_,h=>by simpa [RU]using h
 |.str _,_,h=>by simpa [RU]using h
 |.obj _,_,h=>by simpa [RU]using h
 | .ref n,v,h=>by
   simp only[RU]at h ⊢;obtain⟨a,e,q⟩:=h;exact⟨a,e,p.get q⟩
 | .tup us,v,h=>by
   simp only[RU]at h ⊢;obtain⟨a,vs,e,q,r⟩:=h;exact⟨a,vs,e,k a vs q,RUs.mono k p us vs r⟩
theorem RUs.mono{H H':Hp}{μ Y3:List e_}(k:bh H H')(p:Pre μ Y3):∀(us:List U) (vs:List V),RUs H μ us vs->RUs H' Y3 us vs
 |[],_,h=>by simpa [RUs]using h
 | u::us,vs,h=>by
   simp only[RUs]at h ⊢;obtain⟨v,r,e,a,b⟩:=h;exact⟨v,r,e,RU.mono k p u v a,RUs.mono k p us r b⟩
end
section
variable {H:Hp}{μ:List e_}
theorem RUs.nil:RUs H μ [] []:=by simp[RUs]
theorem RUs.cons{u:U}{us:List U}{v:V}{vs:List V}(a:RU H μ u v)(b:RUs H μ us vs):RUs H μ (u::us) (v::vs):=⟨v,vs,rfl,a,b⟩
variable{vs:List V}
theorem RUs.inv{u:U}{us:List U}(h:RUs H μ (u::us) vs):∃v r,vs=v::r/\RU H μ u v/\RUs H μ us r:=by simpa only [RUs]using h
theorem RUs.nil_inv(h:RUs H μ [] vs):vs=[]:=by simpa only [RUs]using h
theorem RUs.len:∀{us:List U}{vs:List V},RUs H μ us vs->us.length=vs.length
 |[],vs,h=>by rw[h.nil_inv];rfl
 | u::us,vs,h=>by
   obtain⟨v,r,rfl,_,b⟩:=h.inv;simp[b.len]
theorem RUs.get:∀{us:List U}{vs:List V}{i:Nat}{u:U},RUs H μ us vs->us[i]?=a_ u->∃v,vs[i]?=a_ v/\RU H μ u v
 |[],vs,i,u,h,e=>by simp at e
 | x::us,vs,0,u,h,e=>by
   obtain⟨v,r,rfl,a,b⟩:=h.inv
   simp_all
 | x::us,vs,i+1,u,h,e=>by
   obtain⟨v,r,rfl,a,b⟩:=h.inv;obtain⟨w,h1,h2⟩:=RUs.get b (by simpa using e)
   simp_all
theorem RUs.append:∀{us ws:List U}{vs xs:List V},RUs H μ us vs->RUs H μ ws xs->RUs H μ (us++ws) (vs++xs)
 |[],ws,vs,xs,h,g=>by rw[h.nil_inv];exact g
 | u::us,ws,vs,xs,h,g=>by
   obtain⟨v,r,rfl,a,b⟩:=h.inv;exact .cons a (b.append g)
theorem RUs.set{u:U}{v:V}(q:RU H μ u v):∀{us:List U}{vs:List V} (i:Nat),RUs H μ us vs->RUs H μ (us.set i u) (vs.set i v)
 |[],vs,i,h=>by rw[h.nil_inv];simpa using RUs.nil
 | x::us,vs,0,h=>by
   obtain⟨w,r,rfl,a,b⟩:=h.inv;exact .cons q b
 | x::us,vs,i+1,h=>by
   obtain⟨w,r,rfl,a,b⟩:=h.inv;exact .cons a (RUs.set q i b)
theorem RUs.eraseIdx:∀{us:List U}{vs:List V} (i:Nat),RUs H μ us vs->RUs H μ (us.eraseIdx i) (vs.eraseIdx i)
 |[],vs,i,h=>by rw[h.nil_inv];simpa using RUs.nil
 | x::us,vs,0,h=>by
   obtain⟨w,r,rfl,a,b⟩:=h.inv;exact b
 | x::us,vs,i+1,h=>by
   obtain⟨w,r,rfl,a,b⟩:=h.inv;exact .cons a (RUs.eraseIdx i b)
theorem RUs.drop:∀{us:List U}{vs:List V} (i:Nat),RUs H μ us vs->RUs H μ (us.drop i) (vs.drop i)
 |us,vs,0,h=>h
 |[],vs,i+1,h=>by rw[h.nil_inv];simpa using RUs.nil
 | x::us,vs,i+1,h=>by
   obtain⟨w,r,rfl,a,b⟩:=h.inv;exact RUs.drop i b
theorem RUs.take:∀{us:List U}{vs:List V} (i:Nat),RUs H μ us vs->RUs H μ (us.take i) (vs.take i)
 |us,vs,0,h=>by simpa using RUs.nil
 |[],vs,i+1,h=>by rw[h.nil_inv];simpa using RUs.nil
 | x::us,vs,i+1,h=>by
   obtain⟨w,r,rfl,a,b⟩:=h.inv;exact .cons a (RUs.take i b)
theorem RUs.ints:∀(ns:List Int),RUs H μ (ns.map U.int) (ns.map V.int)
 |[]=>.nil
 |n::ns=>.cons (by simp[RU]) (RUs.ints ns)
end
structure KX where
 K:ai
 caps:List U
 capv:List V
 cds:List (e_×Obj)
 tabs:List (e_×Str)
instance:Coe KX ai:=⟨KX.K⟩
def fz:HO:= .ext λ_=>True
def yD(H:Hp)(P:e_)(q:Str):Prop:= ∃ps:Array f_,H P=a_ (.tbl ps)/\TriplesOk ps.toList /\
 ∀pos cv,codeAmong pos ps.toList=a_ cv->∃c oc vs t,cv=.ref c/\H c=a_ (.frz oc fz)/\oc.data=.fields vs/\vs[1]?=a_ (.str q t)
structure HX(K:KX)(μ:List e_)(H:Hp):Prop where
 cap:RUs H μ K.caps K.capv
 cds:∀q∈K.cds,H q.1=a_ (.frz q.2 fz)
 tab:∀q∈K.tabs,yD H q.1 q.2
theorem HX.upd{K:KX}{μ Y3:List e_}{H:Hp}{p:e_}{o':HO}(h:HX K μ H)(kp:bh H (upd H p o'))(pre:Pre μ Y3)(nf:∀o,H p=a_ o->(∀o' u,o≠.frz o' u) /\ ∀ps,o≠.tbl ps):HX K Y3 (upd H p o'):=by
 have f:∀a o u,H a=a_ _->_L.upd H p o' a=a_ (.frz o u):=λa o u e=>by
  rw[bc]
  .omega
  .rintro rfl
   exact(nf _ e).1 o u rfl
 refine⟨RUs.mono kp pre _ _ h.cap,λq hq=>f _ _ _ (h.cds q hq),λq hq=>?_⟩;obtain⟨ps,e,tr,al⟩:=h.tab q hq;refine⟨ps,?_,tr,λpos cv hc=>?_⟩
 .rw[bc]
  .omega
  .intro z
   rw[z]at e;exact(nf _ e).2 ps rfl
 .obtain⟨c,oc,vs,t,e1,e2,e3,e4⟩:=al _ cv hc
  exact⟨c,oc,vs,t,e1,f _ _ _ e2,e3,e4⟩
def dV{κ:Type}(kvs:List (κ×U))(vs:List V):List (κ×V):=(kvs.map (·.1)).zip vs
def mW(K:KX)(H:Hp)(μ:List e_)(a:e_):Cell->Prop
 |.lst us=>∃vs,H a=a_ (.lst vs)/\RUs H μ us vs
 |.frz us=>∃vs,((∃o,H a=a_ (.frz o (.lst vs)))\/SqL K (λ_=>b_) a vs)/\RUs H μ us vs
 |.dic kvs=>∃vs,H a=a_ (.dK (dV kvs vs))/\RUs H μ (kvs.map (·.2)) vs
 |.dit d_ kvs=>∃vs,H a=a_ (.dT (dV kvs vs))/\RUs H μ (kvs.map (·.2)) vs
 |.dit c_ kvs=>∃vs,(∃o,H a=a_ (.frz o (.dT (dV kvs vs))))/\RUs H μ (kvs.map (·.2)) vs
def Cell.own:Cell->Bool
 |.frz _=>d_
 |.dit f _=>!f
 |_=>c_
structure HR(K:KX)(μ:List e_)(S:Sto)(H:Hp):Prop where
 len:μ.length=S.length
 inj:∀(n m:Nat) (c d:Cell),S[n]?=a_ c->S[m]?=a_ d->c.own=c_->d.own=c_->μ[n]?=μ[m]? -> n=m
 cell:∀(n:Nat) (c:Cell) (a:e_),S[n]?=a_ c->μ[n]?=a_ a->mW K H μ a c
 ext:HX K μ H
structure ER(H:Hp)(μ:List e_)(Y:Rho)(G:St):Prop where
 len:Y.length=G.length
 get:∀(i:Nat) (u:U),Y[i]?=a_ (a_ u)->∃v,G[i]?=a_ (a_ v)/\RU H μ u v
theorem ER.mono{H H':Hp}{μ Y3:List e_}{Y:Rho}{G:St}(e:ER H μ Y G)(k:bh H H')(p:Pre μ Y3):ER H' Y3 Y G:=
 ⟨e.len,λi u h=>let ⟨v,a,b⟩:=e.get i u h;⟨v,a,RU.mono k p u v b⟩⟩
variable{u:U}{Y:Rho}{G:St}{v:V}
theorem ER.set(e:ER H μ Y G)(r:RU H μ u v)(i:Nat):ER H μ (Y.set i (a_ u)) (G.set i (a_ v)):=by
 refine⟨by simpa using e.len,λj w h=>?_⟩;by_cases hj:i=j
 .subst hj
  rw[List.getElem?_set]at h;simp only[if_true]at h
  split at h
  .cases h
   refine⟨v,?_,r⟩;rw[aN (by rw[<-e.len];omega)]
  .cases h
 .rw[aD hj]at h
  obtain⟨x,a,b⟩:=e.get j w h
  simp_all
theorem ER.push(e:ER H μ Y G)(r:RU H μ u v):ER H μ (Y++[a_ u]) (G++[a_ v]):=by
 refine⟨by simp[e.len],λj w h=>?_⟩;by_cases hj:j<Y.length
 .rw[aS hj]at h
  obtain⟨x,a,b⟩:=e.get j w h;exact⟨x,by rw[aS (by rw[<-e.len];omega)];omega,b⟩
 .have VE:j=Y.length:=by
   have:=(ag.mp h).1;simp at this;omega
  subst VE;simp at h;subst h;refine⟨v,?_,r⟩;rw[e.len];simp
section
variable {K:KX}{H:Hp}{μ:List e_}{S:Sto}
theorem mW.mono{H':Hp}{Y3:List e_}{a:e_}{c:Cell}(h:mW K H μ a c)(k:bh H H')(p:Pre μ Y3)(l:c.own=c_->H' a=H a)(f:∀o u,H a=a_ (.frz o u)->H' a=a_ (.frz o u)):mW K H' Y3 a c:=by
 cases c with
 | lst us=>
   obtain⟨vs,e,r⟩:=h;exact⟨vs,(l rfl).trans e,RUs.mono k p us vs r⟩
 | dic kvs=>
   obtain⟨vs,e,r⟩:=h;exact⟨vs,(l rfl).trans e,RUs.mono k p _ vs r⟩
 | dit b kvs=>
   cases b with
   | false=>
     obtain⟨vs,e,r⟩:=h;exact⟨vs,(l rfl).trans e,RUs.mono k p _ vs r⟩
   | true=>
     obtain⟨vs,⟨o,e⟩,r⟩:=h;exact⟨vs,⟨o,f o _ e⟩,RUs.mono k p _ vs r⟩
 | frz us=>
   obtain⟨vs,e,r⟩:=h;refine⟨vs,?_,RUs.mono k p us vs r⟩
   grind
variable{c:Cell}
theorem mW.has(h:mW K H μ a c)(ho:c.own=c_):∃o,H a=a_ o/\(∀vs,o≠.tup vs)/\(∀o' u,o≠.frz o' u) /\ ∀ps,o≠.tbl ps:=by
 cases c with
 |lst us=>obtain⟨vs,e,r⟩:=h;simp_all
 |dic kvs=>obtain⟨vs,e,r⟩:=h;simp_all
 | dit b kvs=>
   cases b with
   |false=>obtain⟨vs,e,r⟩:=h;simp_all
   |true=>cases ho
 |frz us=>cases ho
variable{o':HO}
theorem bh.wrG{H:Hp}{o:HO}(h:H p=a_ o)(ht: ∀vs,o≠.tup vs)(hf: ∀ob u,o≠.frz ob u):bh H (upd H p o'):=⟨λa vs e=>by
 rw[bc (pO e h (cY (ht vs)))];omega,λa ob u e=>by
 rw[bc (pO e h (cY (hf ob u)))];omega⟩
theorem HR.get(h:HR K μ S H)(e:S[n]?=a_ c):∃a,μ[n]?=a_ a/\mW K H μ a c:=by
 have hn:n<μ.length:=by rw[h.len];exact(ag.mp e).1
 exact⟨μ[n],by simp,h.cell n c _ e (by simp)⟩
theorem HR.wrC(h:HR K μ S H){d:Cell}(e:S[n]?=a_ c)(ea:μ[n]?=a_ a)(hc:c.own=c_)(r:mW K (upd H a o') μ a d):HR K μ (S.set n d) (upd H a o'):=by
 obtain⟨o,e0,nt,nf,nb⟩:=(h.cell n _ a e ea).has hc;have kp:bh H (upd H a o'):=bh.wrG e0 nt nf;have hn:=(ag.mp e).1;have pick:∀(m:Nat) (c':Cell),(S.set n d)[m]?=a_ c'->c'.own=c_->∃Ud,S[m]?=a_ Ud/\Ud.own=c_:=λm c' q hq=>by
  by_cases hm:n=m<;>simp_all
 refine⟨by rw[dI];exact h.len,λi j u1 u2 q1 q2 o1 o2 q3=>?_,λm c' b q1 q2=>?_,h.ext.upd kp (Pre.refl _) λo1 q=>by simp_all⟩
 .obtain⟨w1,z1,y1⟩:=pick i u1 q1 o1
  obtain⟨w2,z2,y2⟩:=pick j u2 q2 o2;exact h.inj i j w1 w2 z1 z2 y1 y2 q3
 .by_cases hm:n=m
  .simp_all
  .rw[aD hm]at q1
   refine(h.cell m c' b q1 q2).mono kp (Pre.refl _) (λYK=>?_) λo u hf=>?_
   .refine bc ?_
    rintro rfl;exact hm (h.inj n m c c' e q1 hc YK (ea.trans q2.symm))
   .rw[bc (pO hf e0 (cY (nf o u)))];omega
theorem HR.wr(h:HR K μ S H){n:Nat}{us ws:List U}{vs:List V}{a:e_}(e:S[n]?=a_ (.lst us))(ea:μ[n]?=a_ a)(r:RUs H μ ws vs):HR K μ (S.set n (.lst ws)) (upd H a (.lst vs)):=by
 obtain⟨Tt,e0,r0⟩:=h.cell n _ a e ea;exact h.wrC e ea rfl ⟨vs,cx,RUs.mono (bh.wr e0) (Pre.refl _) ws vs r⟩
theorem HR.newC(h:HR K μ S H){d:Cell}(hp:H p=b_)(hd:d.own=c_)(r:mW K (upd H p o') (μ++[p]) p d):HR K (μ++[p]) (S++[d]) (upd H p o'):=by
 have kp:bh H (upd H p o'):=bh.new hp;have pre:Pre μ _:=⟨[p],rfl⟩;have old:∀(n:Nat) (c:Cell),n<S.length->(S++[d])[n]?=a_ c->S[n]?=a_ c:=λn c hn q=>by rwa[aS hn]at q
 have last:∀(n:Nat) (c:Cell),¬n<S.length->(S++[d])[n]?=a_ c->n=S.length:=λn c hn q=>by
  have:=(ag.mp q).1;simp at this;omega
 have fresh:∀(n:Nat) (c:Cell),S[n]?=a_ c->c.own=c_->∀a,μ[n]?=a_ a->a≠p:=λn c q hc a qa=>by
  obtain⟨o,e,_⟩:=(h.cell n _ a q qa).has hc;exact bg e hp
 have Zj:(μ++[p])[S.length]?=a_ p:=by rw[<-h.len];simp
 have Zn:∀(n:Nat),n<S.length->(μ++[p])[n]?=μ[n]? := λn hn=>aS (by rw[h.len];exact hn);refine⟨by simp[h.len],λi j u1 u2 q1 q2 o1 o2 q3=>?_,λm c b q1 q2=>?_,h.ext.upd kp pre λo1 q=>by rw[hp]at q;cases q⟩
 .by_cases hi:i<S.length
  .by_cases hj:j<S.length
   .rw[Zn i hi,Zn j hj]at q3
    exact h.inj i j u1 u2 (old i _ hi q1) (old j _ hj q2) o1 o2 q3
   .have e:=last j _ hj q2
    subst e;obtain⟨a,ha,_⟩:=h.get (old i _ hi q1);rw[Zn i hi,Zj,ha]at q3;exact absurd (dW q3) (fresh i u1 (old i _ hi q1) o1 a ha)
  .have e:=last i _ hi q1
   subst e;by_cases hj:j<S.length
   .obtain⟨a,ha,_⟩:=h.get (old j _ hj q2)
    rw[Zn j hj,Zj,ha]at q3;exact absurd (dW q3).symm (fresh j u2 (old j _ hj q2) o2 a ha)
   .exact(last j _ hj q2).symm
 .by_cases hm:m<S.length
  .rw[Zn m hm]at q2
   refine(h.cell m c b (old m c hm q1) q2).mono kp pre (λhc=>?_) λo u hf=>?_
   .exact bc (fresh m c (old m _ hm q1) hc b q2)
   .rw[bc (bg hf hp)];exact hf
  .have e:=last m c hm q1
   subst e;rw[Zj]at q2;cases q2;simp at q1;subst q1;exact r
theorem HR.new(h:HR K μ S H){us:List U}{vs:List V}{p:e_}(hp:H p=b_)(r:RUs H μ us vs):HR K (μ++[p]) (S++[.lst us]) (upd H p (.lst vs)):=
 h.newC hp rfl ⟨vs,cx,RUs.mono (bh.new hp) ⟨_,rfl⟩ us vs r⟩
theorem HR.tup(h:HR K μ S H){vs:List V}{p:e_}(hp:H p=b_):HR K μ S (upd H p (.tup vs)):=by
 have kp:bh H (upd H p (.tup vs)):=bh.new hp;refine⟨h.len,h.inj,λm c b q1 q2=>(h.cell m c b q1 q2).mono kp (Pre.refl _) (λhc=>?_) λo u hf=>?_,h.ext.upd kp (Pre.refl _) λo1 q=>by grind⟩
 .obtain⟨o,e,_⟩:=(h.cell m _ b q1 q2).has hc
  exact bc (bg e hp)
 .rw[bc (bg hf hp)];omega
theorem HR.sq(h:HR K μ S H){us:List U}(e:getL S n=a_ us):∃a vs,μ[n]?=a_ a/\SqL K H a vs/\RUs H μ us vs:=by
 unfold getL at e
 split at e
 .rename_i ws q
  cases e;obtain⟨a,ha,vs,e1,r⟩:=h.get q;exact⟨a,vs,ha,SqL.of e1,r⟩
 .rename_i ws q
  cases e;obtain⟨a,ha,vs,e1,r⟩:=h.get q;refine⟨a,vs,ha,?_,r⟩;rcases e1 with⟨o,e1⟩|e1
  .exact .inl (.inr ⟨o,e1⟩)
  .rcases e1 with (e1|⟨o,e1⟩)|e1
   .cases e1
   .cases e1
   .exact .inr e1
 .cases e
 .cases e
 .cases e
end
def Aft(K:KX)(μ:List e_)(H:Hp)(u:U)(S':Sto)(Q:VK):Prop:= ∀Y3 v H',Pre μ Y3->bh H H'->HR K Y3 S' H'->RU H' Y3 u v->Q v H'
def tM(K:KX)(m:ME):TE:=λG H Q=>∃μ S Y u S',HR K μ S H/\ER H μ Y G/\m Y S=a_ (u,S')/\Aft K μ H u S' Q
def tMT(K:KX)(m:MT):TT:=λG H Q=>∃μ S Y b S',HR K μ S H/\ER H μ Y G/\m Y S=a_ (b,S') /\ ∀Y3 H',Pre μ Y3->bh H H'->HR K Y3 S' H'->Q b H'
def tMA(K:KX)(m:MA):TA:=λG H Q=>∃μ S Y us S',HR K μ S H/\ER H μ Y G/\m Y S=a_ (us,S') /\ ∀Y3 vs H',Pre μ Y3->bh H H'->HR K Y3 S' H'->RUs H' Y3 us vs->Q vs H'
def FlP(K:KX)(μ:List e_)(H:Hp)(D:Ends):Fl×Rho×Sto->Prop
 |(.nx,Y4,S')=>∀Y3 Y1 H',Pre μ Y3->bh H H'->HR K Y3 S' H'->ER H' Y3 Y4 Y1->D.nx Y1 H'
 |(.bk,Y4,S')=>∀Y3 Y1 H',Pre μ Y3->bh H H'->HR K Y3 S' H'->ER H' Y3 Y4 Y1->D.bk Y1 H'
 |(.ct,Y4,S')=>∀Y3 Y1 H',Pre μ Y3->bh H H'->HR K Y3 S' H'->ER H' Y3 Y4 Y1->D.ct Y1 H'
 |(.rt u,_,S')=>Aft K μ H u S' D.rt
def tMS(K:KX)(m:MS):TS:=λD G H=>∃μ S Y r,HR K μ S H/\ER H μ Y G/\m Y S=a_ r/\FlP K μ H D r
variable{K:KX}{S':Sto}{Q:VK}
theorem Aft.mono(a:Aft K μ H u S' Q)(p:Pre μ Y0)(k:bh H H1):Aft K Y0 H1 u S' Q:=
 λY3 v H' p' k'=>a _ v H' (p.trans p') (k.trans k')
theorem FlP.mono{K:KX}{μ Y0:List e_}{H H1:Hp}{D:Ends}{r:Fl×Rho×Sto}(a:FlP K μ H D r)(p:Pre μ Y0)(k:bh H H1):FlP K Y0 H1 D r:=by
 obtain⟨f,Y4,S'⟩:=r;cases f with
 |nx=>exact λY3 Y1 H' p' k'=>a _ _ H' (p.trans p') (k.trans k')
 |bk=>exact λY3 Y1 H' p' k'=>a _ _ H' (p.trans p') (k.trans k')
 |ct=>exact λY3 Y1 H' p' k'=>a _ _ H' (p.trans p') (k.trans k')
 |rt u=>exact Aft.mono a p k
section
variable {K:KX}{G:St}{H:Hp}{Q:VK}
theorem pQ{A B:Prop}(h:A):if c_=c_ then A else B:=by grind
theorem qQ{A B:Prop}(h:B):if d_=c_ then A else B:=by grind
theorem Mz{i:Nat}(h:tM K (ae i) G H Q):Eb i G H Q:=by
 obtain⟨μ,S,Y,u,S',hr,er,e,k⟩:=h;unfold ae at e
 split at e
 .rename_i w q
  cases e;obtain⟨v,hv,ru⟩:=er.get i _ q;exact⟨v,hv,k μ v H (Pre.refl _) (bh.refl _) hr ru⟩
 .cases e
theorem r_c(hv:∀H μ,RU H μ u v)(h:tM K (mC u) G H Q):tC v G H Q:=by
 obtain⟨μ,S,Y,u',S',hr,er,e,k⟩:=h;cases e;exact k μ v H (Pre.refl _) (bh.refl _) hr (hv _ _)
def OpU(K:KX)(r:R2)(f:F2):Prop:= ∀(μ:List e_) (S:Sto) (H:Hp) (x y:U) (vx vy:V) (u:U) (S':Sto) (Q:VK),HR K μ S H->RU H μ x vx->RU H μ y vy->f x y S=a_ (u,S')->Aft K μ H u S' Q->r vx vy H Q
variable{f:F2}
theorem qc{r:R2}{a b:ME}(o:OpU K r f)(h:tM K (m2 f a b) G H Q):tOp r (tM K a) (tM K b) G H Q:=by
 obtain⟨μ,S,Y,u,S',hr,er,e,k⟩:=h;obtain⟨x,S1,e1,e⟩:=aK e;obtain⟨y,S2,e2,e⟩:=aK e;exact⟨μ,S,Y,x,S1,hr,er,e1,λY0 vx H1 p1 k1 ZY rx=>⟨_,S1,Y,y,S2,ZY,er.mono k1 p1,e2,λY5 vy H2 p2 k2 ZU ry=>(o _ S2 H2 x y vx vy u S' Q ZU (RU.mono k2 p2 x vx rx) ry e (k.mono (p1.trans p2) (k1.trans k2)))⟩⟩
def UnU(K:KX)(r:V->Hp->VK->Prop)(f:U->Sto->Res U):Prop:= ∀(μ:List e_) (S:Sto) (H:Hp) (x:U) (vx:V) (u:U) (S':Sto) (Q:VK),HR K μ S H->RU H μ x vx->f x S=a_ (u,S')->Aft K μ H u S' Q->r vx H Q
theorem O5{r:V->Hp->VK->Prop}{f:U->Sto->Res U}{a:ME}(o:UnU K r f)(h:tM K (m1 f a) G H Q):tUn r (tM K a) G H Q:=by
 obtain⟨μ,S,Y,u,S',hr,er,e,k⟩:=h;obtain⟨x,S1,e1,e⟩:=aK e;exact⟨μ,S,Y,x,S1,hr,er,e1,λY0 vx H1 p1 k1 ZY rx=>(o _ S1 H1 x vx u S' Q ZY rx e (k.mono p1 k1))⟩
variable{S:Sto}
theorem Aft.now(k:Aft K μ H u S Q)(hr:HR K μ S H)(r:RU H μ u v):Q v H:=k μ v H (Pre.refl _) (bh.refl _) hr r
variable{i:Int}
theorem eU:RU H μ (.int i) (.int i):=by simp[RU]
variable{b:Bool}
theorem hG:RU H μ (.bl b) (.bl b):=by simp[RU]
theorem o6:RU H μ .non .non:=by simp[RU]
variable{us:List U}{vs:List V}
theorem ly(e:H a=a_ (.tup vs))(r:RUs H μ us vs):RU H μ (.tup us) (.ref a):=⟨a,vs,rfl,e,r⟩
theorem qR(e:μ[n]?=a_ a):RU H μ (.ref n) (.ref a):=⟨a,rfl,e⟩
theorem cR(h:RU H μ (.int i) v):v=.int i:=by simpa only [RU]using h
theorem jf(h:RU H μ (.bl b) v):v=.bl b:=by simpa only [RU]using h
theorem iP(h:RU H μ (.tup us) v):∃a vs,v=.ref a/\H a=a_ (.tup vs)/\RUs H μ us vs:=by simpa only [RU]using h
theorem eQ(h:RU H μ (.ref n) v):∃a,v=.ref a/\μ[n]?=a_ a:=by simpa only [RU]using h
variable{g:Int->Int->V}
theorem zF{k:Int->Int->U}(hf:∀x y S u S',f x y S=a_ (u,S')->∃i j,x=.int i/\y=.int j/\u=k i j/\S'=S)(hg:∀H μ i j,RU H μ (k i j) (g i j)):OpU K (rI0 g) f:=by
 intro μ S H x y vx vy u S' Q hr rx ry e a;obtain⟨i,j,rfl,rfl,rfl,rfl⟩:=hf x y S u S' e;exact⟨i,j,cR rx,cR ry,a.now hr (hg _ _ _ _)⟩
theorem yS{C:Int->Int->Prop}{k:Int->Int->U}(hf:∀x y S u S',f x y S=a_ (u,S')->∃i j,x=.int i/\y=.int j/\C i j/\u=k i j/\S'=S)(hg:∀H μ i j,RU H μ (k i j) (g i j)):OpU K (rI C g) f:=by
 intro μ S H x y vx vy u S' Q hr rx ry e a;obtain⟨i,j,rfl,rfl,c,rfl,rfl⟩:=hf x y S u S' e;exact⟨i,j,cR rx,cR ry,c,a.now hr (hg _ _ _ _)⟩
theorem Kt:OpU K (rI0 λi j => .int (i - j)) yh:=zF (λx y S u S' h=>by
 unfold yh at h;split at h <;> simp at h;simp_all) λ_ _ _ _=>eU
theorem Ki:OpU K (rI F3 λi j=>.int (i*j)) gY:=by
 intro μ S H x y vx vy u S' Q hr rx ry e a;unfold gY at e
 split at e
 .split at e
  .rename_i hc
   simp at e;obtain⟨rfl,rfl⟩:=e;exact⟨_,_,cR rx,cR ry,hc,a.now hr eU⟩
  .cases e
 .cases e
theorem I0:OpU K (rI K8 λi j => .int (i / j)) oDiv:=yS (k:=λi j => .int (i / j)) (λx y S u S' h=>by
 unfold oDiv at h;split at h
 .split at h
  .rename_i hc;simp at h;obtain⟨rfl,rfl⟩:=h;exact⟨_,_,rfl,rfl,hc,rfl,rfl⟩
  .cases h
 ·cases h) λ_ _ _ _=>eU
theorem Jo:OpU K (rI (λ_ j=>0<j) λi j => .int (i % j)) oMod:=yS (λx y S u S' h=>by
 unfold oMod at h;split at h <;> simp_all) λ_ _ _ _=>eU
theorem Iw:OpU K (rI NZ λi j => .int (i ^ j.toNat)) yO:=yS (k:=λi j => .int (i ^ j.toNat)) (λx y S u S' h=>by
 unfold yO at h;split at h
 .split at h
  .rename_i hc;simp at h;obtain⟨rfl,rfl⟩:=h;exact⟨_,_,rfl,rfl,hc,rfl,rfl⟩
  .cases h
 ·cases h) λ_ _ _ _=>eU
theorem uT{p:Int->Int->Bool}:OpU K (rI0 λi j => .bl (p i j)) (vN p):=zF (λx y S u S' h=>by
 unfold vN at h;split at h <;> simp at h;simp_all) λ_ _ _ _=>hG
def G7(K:ai):R2:=λx y H Q=>∃a b ys,x=.ref a/\y=.ref b/\SqT K H a []/\SqT K H b ys/\Q (.ref b) H
variable{X:Cx}
theorem Gy:OpR X (binaryOp .Add) (G7 X.K):=by
 intro pins s G H x y v u Q I rx ry h;obtain⟨a,b,ys,rfl,rfl,h1,h2,q⟩:=h;cases (rx);cases (ry);obtain⟨ZX,r1,p1,_⟩:=I.tuple h1;obtain⟨Zi,r2,p2,_⟩:=I.tuple h2;cases r1;exact HT.cat_tup0 p1 p2 ⟨.ref b,H,I,rfl,q⟩
theorem JB:OpU K (λx y H Q=>rI0 (λi j=>.int (i+j)) x y H Q\/HD K x y H Q\/G7 K x y H Q\/NA x y H Q) cK:=by
 intro μ S H x y vx vy u S' Q hr rx ry e a;unfold cK at e
 split at e
 .simp at e;obtain⟨rfl,rfl⟩:=e
  exact .inl ⟨_,_,cR rx,cR ry,a.now hr eU⟩
 .rename_i xs ys
  split at e
  .rename_i hc
   simp at e;obtain⟨rfl,rfl⟩:=e;obtain⟨p,vs,rfl,hp,r1⟩:=iP rx;obtain⟨q,ws,rfl,hq,r2⟩:=iP ry;by_cases hx:xs=[]
   .subst hx
    subst (by omega);exact .inr (.inr (.inl ⟨p,q,ws,rfl,rfl,.inl (.inl hp),.inl (.inl hq),a.now hr (ly hq r2)⟩))
   refine .inr (.inl ⟨p,q,vs,ws,rfl,rfl,.inl (.inl hp),.inl (.inl hq),?_,?_,λz=>?_,λz t ht=>?_⟩)
   .intro z;have:=r1.len;grind
   .have h1:=r1.len;have h2:=r2.len;unfold big at hc;rw[sizeLine_eq];omega
   .subst z
    have:=by have:=r2.len;exact ju (by omega)
    subst this;rw[fF]at a;exact a.now hr (ly hp r1)
   .refine a μ _ _ (Pre.refl _) (bh.new ht) (hr.tup ht) ?_
    have kp:bh H (upd H t (.tup (vs++ws))):=bh.new ht;exact ly cx ((RUs.mono kp (Pre.refl _) _ _ r1).append (RUs.mono kp (Pre.refl _) _ _ r2))
  .cases e
 .rename_i n m
  split at e
  .rename_i xs ys q1 q2
   split at e
   .rename_i hc
    simp at e;obtain⟨rfl,rfl⟩:=e;obtain⟨p,rfl,hp⟩:=eQ rx;obtain⟨q,rfl,hq⟩:=eQ ry;obtain⟨vs,e1,r1⟩:=hr.cell n _ p q1 hp;obtain⟨ws,e2,r2⟩:=hr.cell m _ q q2 hq;refine .inr (.inr (.inr ⟨p,q,vs,ws,rfl,rfl,e1,e2,?_,λt ht=>?_⟩))
    .have h1:=r1.len;have h2:=r2.len;unfold big at hc;rw[sizeLine_eq];omega
    .refine a _ _ _ ⟨_,rfl⟩ (bh.new ht) (hr.new ht (r1.append r2)) (qR ?_)
     rw[<-hr.len];simp
   .cases e
  .cases e
 .cases e
theorem HR.seq{x:U}(hr:HR K μ S H)(r:RU H μ x v)(e:dJ S x=a_ us):∃a vs,v=.ref a/\(SqL K H a vs\/SqT K H a vs)/\RUs H μ us vs:=by
 unfold dJ at e
 split at e
 .cases e
  obtain⟨a,vs,rfl,h,q⟩:=iP r;exact⟨a,vs,rfl,.inr (.inl (.inl h)),q⟩
 .obtain⟨a,rfl,ha⟩:=eQ r
  obtain⟨a',vs,Z9,hs,q⟩:=hr.sq e;rw[ha]at Z9;cases Z9;exact⟨a,vs,rfl,.inl hs,q⟩
 .cases e
theorem FM(r:RUs H μ us vs)(e:atI us i=a_ u):∃v,atI vs i=a_ v/\RU H μ u v:=by
 unfold atI at e ⊢;rw[<-r.len];cases q:ixN _ i with
 |none=>rw[q]at e;cases e
 | some j=>
   rw[q]at e;exact r.get e
theorem nO{y:U}{k:Key}(r:RU H μ y v)(e:keyOf y=a_ k):v=kV k:=by
 cases y<;>simp[keyOf]at e<;>subst e<;>(exact r)
theorem An{κ:Type}[DecidableEq κ]{μ:List e_}{k:κ}{u:U}:∀{kvs:List (κ×U)}{vs:List V},RUs H μ (kvs.map (·.2)) vs->sr kvs k=a_ u->∃v,lS (dV kvs vs) k=a_ v/\RU H μ u v
 |[],vs,r,e=>by cases e
 | (j,x)::kvs,vs,r,e=>by
   obtain⟨v,r',rfl,a,b⟩:=r.inv;show ∃w,lS ((j,v)::dV _ r') k=a_ w/\_;by_cases h:j=k
   .rw[lG h]
    simp[sr,h]at e<;>simp_all
   .rw[lN h]
    refine An b ?_;simpa [sr,List.find?_cons,h]using e
theorem vW{κ:Type}[DecidableEq κ]{k:κ}:∀{kvs:List (κ×U)}{vs:List V},kvs.length=vs.length->(lS (dV kvs vs) k).isSome=(sr kvs k).isSome
 |[],vs,_=>by simp[dV,lS,sr]
 |(j,x)::kvs,[],h=>by simp at h
 | (j,x)::kvs,v::vs,h=>by
   show(lS ((j,v)::dV _ vs) k).isSome=_;by_cases hj:j=k
   .rw[lG hj];simp[sr,hj]
   .rw[lN hj,vW (by simpa using h)];simp[sr,hj]
theorem CJ{κ:Type}[DecidableEq κ]{k:κ}:∀{kvs:List (κ×U)}{vs:List V},kvs.length=vs.length->((dV kvs vs).any λkv=>decide (kv.1=k))=kvs.any λkv=>decide (kv.1=k)
 |[],vs,_=>by simp[dV]
 |(j,x)::kvs,[],h=>by simp at h
 | (j,x)::kvs,v::vs,h=>by
   show(((j,v)::dV _ vs).any _)=_;rw[fN,fN,CJ (by simpa using h)]
theorem yG{κ:Type}{kvs:List (κ×U)}(h:kvs.length=vs.length):(dV kvs vs).length=kvs.length:=by
 simp[dV,h]
theorem zr{κ:Type}[DecidableEq κ]{μ:List e_}{k:κ}{u:U}{v:V}(ru:RU H μ u v):∀{kvs:List (κ×U)}{vs:List V},RUs H μ (kvs.map (·.2)) vs ->
  ∃ws,dV (kvs.map λkv=>if kv.1=k then(kv.1,u) else kv) ws=(dV kvs vs).map (λkv=>if kv.1=k then(kv.1,v) else kv)/\RUs H μ ((kvs.map λkv=>if kv.1=k then(kv.1,u) else kv).map (·.2)) ws
 |[],vs,r=>⟨[],by simp[dV],.nil⟩
 | (j,x)::kvs,vs,r=>by
   obtain⟨w,r',rfl,a,b⟩:=r.inv;obtain⟨ws,e,q⟩:=zr ru b;show ∃YY,dV ((if j=k then(j,u) else(j,x))::kvs.map _) _=(if j=k then(j,v) else(j,w))::(dV _ r').map _/\RUs H μ (((if j=k then(j,u) else(j,x))::kvs.map _).map _) _;by_cases h:j=k
   .rw[if_pos h,if_pos h]
    exact⟨_,by rw[<-e];rfl,.cons ru q⟩
   .rw[if_neg h,if_neg h]
    exact⟨_,by rw[<-e];rfl,.cons a q⟩
theorem Am{κ:Type}[DecidableEq κ]{k:κ}{kvs:List (κ×U)}(ru:RU H μ u v)(r:RUs H μ (kvs.map (·.2)) vs):∃ws,dV (En kvs k u) ws=putK (dV kvs vs) k v/\RUs H μ ((En kvs k u).map (·.2)) ws:=by
 have hl:=by have:=r.len;rwa[aj]at this
 unfold En putK;rw[CJ hl]
 split
 .exact zr ru r
 .refine⟨_,?_,by rw[cN];exact r.append (.cons ru .nil)⟩
  unfold dV;rw[cN,List.zip_append (by simpa using hl)];rfl
theorem HR.dic{x:U}{kvs:List (Key×U)}(hr:HR K μ S H)(r:RU H μ x v)(e:iJ S x=a_ kvs):∃a vs,v=.ref a/\H a=a_ (.dK (dV kvs vs))/\RUs H μ (kvs.map (·.2)) vs:=by
 unfold iJ at e
 split at e
 .split at e
  .rename_i q
   cases e;obtain⟨a,rfl,ha⟩:=eQ r;obtain⟨vs,e1,r1⟩:=hr.cell _ _ a q ha;exact⟨a,vs,rfl,e1,r1⟩
  .cases e
 .cases e
def Lh:R2:=λx y H Q=>∃a v,x=.ref a/\uh H a y (a_ v)/\Q v H
def OR(K:ai):R2:=λx y H Q=>rIx K x y H Q\/Lh x y H Q
theorem HY(hu:X.A.units+1<cLine):IxR X Lh:=by
 intro value slice pins s G H x y v u Q I rx ry h hs;obtain⟨a,w,rfl,g,q⟩:=h;obtain rfl:v=eA a:=rx;exact tail_any (wM I g) PySem.F.slot_dict_getitem.lookup (A3 hu I g ry λw' s3 I3 ZA=>⟨w,H,I3,ZA,q⟩) hs
theorem K2:OpU K (OR K) oIx:=by
 intro μ S H x y vx vy u S' Q hr rx ry e a;unfold oIx at e
 split at e
 .rename_i kvs qd
  cases qk:keyOf y with
  |none=>simp_all
  | some kk=>
    rw[qk]at e;simp only[ay]at e;cases qv:sr _ kk with
    |none=>rw[qv]at e;cases e
    | some w=>
      rw[qv]at e;simp at e;obtain⟨rfl,rfl⟩:=e;obtain⟨p,vs,rfl,hp,r⟩:=hr.dic rx qd;obtain⟨v,hv,rv⟩:=An r qv;rw[nO ry qk];exact .inr ⟨p,v,rfl,.inl ⟨_,kk,.inl hp,rfl,hv.symm⟩,a.now hr rv⟩
 split at e
 .rename_i i
  refine .inl ?_;cases q:dJ S x with
  |none=>rw[q]at e;cases e
  | some us=>
    rw[q]at e;simp only[ay]at e;cases z:atI us i with
    |none=>rw[z]at e;cases e
    | some w=>
      rw[z]at e;simp at e;obtain⟨rfl,rfl⟩:=e;obtain⟨p,vs,rfl,hs,r⟩:=hr.seq rx q;obtain⟨v,hv,rv⟩:=FM r z;rcases hs with hs|hs
      .exact .inl ⟨p,vs,i,v,rfl,cR ry,hs,hv,a.now hr rv⟩
      .exact .inr (.inl ⟨p,vs,i,v,rfl,cR ry,hs,hv,a.now hr rv⟩)
 .cases e
theorem JF:UnU K (rU λi=>.int (-i)) ym:=by
 intro μ S H x vx u S' Q hr rx e a;unfold ym at e
 split at e
 .cases e
  exact⟨_,cR rx,a.now hr eU⟩
 .cases e
theorem NO{Q:List V->Hp->Prop}(h:tMA K af G H Q):Dv G H Q:=by
 obtain⟨μ,S,Y,us,S',hr,er,e,k⟩:=h;cases e;exact k μ [] H (Pre.refl _) (bh.refl _) hr .nil
theorem Ke{a:ME}{r:MA}{Q:List V->Hp->Prop}(h:tMA K (aa a r) G H Q):vK (tM K a) (tMA K r) G H Q:=by
 obtain⟨μ,S,Y,us,S',hr,er,e,k⟩:=h;obtain⟨x,S1,e1,e⟩:=aK e;obtain⟨xs,S2,e2,e⟩:=aK e;cases e;exact⟨μ,S,Y,x,S1,hr,er,e1,λY0 vx H1 p1 k1 ZY rx=>⟨_,S1,Y,xs,_,ZY,er.mono k1 p1,e2,λY5 vs H2 p2 k2 ZU rs=>(k _ _ H2 (p1.trans p2) (k1.trans k2) ZU (.cons (RU.mono k2 p2 x vx rx) rs))⟩⟩
theorem Ng{a:MA}(h:tM K (gZ a) G H Q):MM (tMA K a) G H Q:=by
 obtain⟨μ,S,Y,u,S',hr,er,e,k⟩:=h;obtain⟨xs,S1,e1,e⟩:=aK e
 split at e
 .rename_i hc
  cases e;refine⟨μ,S,Y,xs,_,hr,er,e1,λY0 vs H1 p1 k1 ZY rs=>⟨?_,λp hp=>?_⟩⟩
  .have:=rs.len;unfold big at hc;rw[sizeLine_eq];omega
  .exact k _ _ _ p1 (k1.trans (bh.new hp)) (ZY.tup hp) (ly cx (RUs.mono (bh.new hp) (Pre.refl _) _ _ rs))
 .cases e
theorem ky(k:Aft K μ H (.ref S.length) (S++[.lst us]) Q)(hr:HR K μ S H)(rs:RUs H μ us vs)(hp:H p=b_):Q (.ref p) (upd H p (.lst vs)):=by
 refine k _ _ _ ⟨_,rfl⟩ (bh.new hp) (hr.new hp rs) (qR ?_);rw[<-hr.len];simp
theorem Mj{a:MA}(h:tM K (b0 a) G H Q):Mg (tMA K a) G H Q:=by
 obtain⟨μ,S,Y,u,S',hr,er,e,k⟩:=h;obtain⟨xs,S1,e1,e⟩:=aK e
 split at e
 .rename_i hc
  cases e;refine⟨μ,S,Y,xs,S1,hr,er,e1,λY0 vs H1 p1 k1 ZY rs=>⟨?_,λp hp=>?_⟩⟩
  .have:=rs.len;unfold big at hc;rw[sizeLine_eq];omega
  .exact ky (k.mono p1 k1) ZY rs hp
 .cases e
def mU(K:KX)(r:List V->Hp->VK->Prop)(f:MF):Prop:= ∀(μ:List e_) (S:Sto) (H:Hp) (us:List U) (vs:List V) (u:U) (S':Sto) (Q:VK),HR K μ S H->RUs H μ us vs->f us S=a_ (u,S')->Aft K μ H u S' Q->r vs H Q
theorem vg{r:List V->Hp->VK->Prop}{f:MF}{a:MA}(o:mU K r f)(h:tM K (mFn f a) G H Q):tCB r (tMA K a) G H Q:=by
 obtain⟨μ,S,Y,u,S',hr,er,e,k⟩:=h;obtain⟨xs,S1,e1,e⟩:=aK e;exact⟨μ,S,Y,xs,S1,hr,er,e1,λY0 vs H1 p1 k1 ZY rs=>(o _ S1 H1 xs vs u S' Q ZY rs e (k.mono p1 k1))⟩
def spM(K:KX)(m:MF):Sp:=λvs H Q _=>∃μ S us u S',HR K μ S H/\RUs H μ us vs/\m us S=a_ (u,S')/\Aft K μ H u S' Q
theorem BQ{f:MF}{a:MA}{E:XK}(h:tM K (mFn f a) G H Q):zx (spM K f) [] E (tMA K a) G H Q:=by
 obtain⟨μ,S,Y,u,S',hr,er,e,k⟩:=h;obtain⟨xs,S1,e1,e⟩:=aK e;refine⟨μ,S,Y,xs,S1,hr,er,e1,λY0 vs H1 p1 k1 ZY rs=>?_⟩;show spM K f _ H1 Q E;rw[fF];exact⟨_,S1,xs,u,S',ZY,rs,e,k.mono p1 k1⟩
theorem JI:mU K (λxs H Q=>(∃p ys,xs=[.ref p]/\(SqL K H p ys\/SqT K H p ys)/\Q (.int ys.length) H) \/ ∃a kvs,xs=[V.ref a]/\H a=a_ (.dK kvs)/\Q (.int kvs.length) H) cJ:=by
 intro μ S H us vs u S' Q hr rs e a;unfold cJ at e
 split at e
 .rename_i x
  obtain⟨v,r,rfl,rx,rn⟩:=rs.inv;rw[rn.nil_inv]
  split at e
  .rename_i kvs qd
   cases e;obtain⟨p,ws,rfl,hp,r'⟩:=hr.dic rx qd;refine .inr ⟨p,_,rfl,hp,?_⟩;rw[yG (by have:=r'.len;rwa[aj]at this)];exact a.now hr eU
  cases q:dJ S x with
  |none=>rw[q]at e;cases e
  | some ws=>
    rw[q]at e;cases e;obtain⟨p,ys,rfl,hs,r'⟩:=hr.seq rx q;refine .inl ⟨p,ys,rfl,hs,?_⟩;rw[<-r'.len];exact a.now hr eU
 .cases e
theorem Cz:mU K (λxs H Q=>∃p ys,xs=[.ref p]/\((SqL K H p ys /\ ∀l,H l=b_->Q (.ref l) (upd H l (.tup ys)))\/(SqT K H p ys/\Q (.ref p) H))) bZ:=by
 intro μ S H us vs u S' Q hr rs e a;unfold bZ at e
 split at e
 .obtain⟨v,r,rfl,rx,rn⟩:=rs.inv
  rw[rn.nil_inv];unfold dJ at e
  split at e
  .cases e
   obtain⟨p,ys,rfl,hp,r'⟩:=iP rx;exact⟨p,ys,rfl,.inr ⟨.inl (.inl hp),a.now hr (ly hp r')⟩⟩
  .rename_i n
   cases q:getL S n with
   |none=>rw[q]at e;cases e
   | some ws=>
     rw[q]at e;cases e;obtain⟨p,rfl,hp⟩:=eQ rx;obtain⟨p',ys,ZG,hs,r'⟩:=hr.sq q;rw[hp]at ZG;cases ZG;exact⟨p,ys,rfl,.inl ⟨hs,λl hl=>(a μ _ _ (Pre.refl _) (bh.new hl) (hr.tup hl) (ly cx (RUs.mono (bh.new hl) (Pre.refl _) _ _ r')))⟩⟩
  .cases e
 .cases e
theorem HW:mU K (λxs H Q=>∃i j,xs=[.int i,.int j]/\Q (.int (if j>i then j else i)) H) wK:=by
 intro μ S H us vs u S' Q hr rs e a;unfold wK at e
 split at e
 .cases e
  obtain⟨v,r,rfl,rx,rs⟩:=rs.inv;obtain⟨w,r,rfl,ry,rn⟩:=rs.inv;rw[rn.nil_inv,cR rx,cR ry];exact⟨_,_,rfl,a.now hr eU⟩
 .cases e
def NL(K:ai):List V->Hp->VK->Prop:=λxs H Q=>((∃i j,xs=[.int i,.int j]/\Q (.int (if j<i then j else i)) H))
theorem Ax (hc:X.calm=c_)(hu:X.A.units+64<cLine):gE X (.builtin "min") (NL X.K):=by
 intro pins s G H xs us Q I rs h;exact AN hc pins s G H xs us Q I rs h
theorem Jz:mU K (NL K) wL:=by
 intro μ S H us vs u S' Q hr rs e a;unfold wL at e
 split at e
 .cases e
  obtain⟨v,r,rfl,rx,rs⟩:=rs.inv;obtain⟨w,r,rfl,ry,rn⟩:=rs.inv;rw[rn.nil_inv,cR rx,cR ry];exact⟨_,_,rfl,a.now hr eU⟩
 .cases e
def MtU(K:KX)(r:V->List V->Hp->VK->Prop)(f:Nat->List U->Sto->Res U):Prop:= ∀(μ:List e_) (S:Sto) (H:Hp) (n:Nat) (p:e_) (us:List U) (vs:List V) (u:U) (S':Sto) (Q:VK),HR K μ S H->μ[n]?=a_ p->RUs H μ us vs->f n us S=a_ (u,S')->Aft K μ H u S' Q->r (.ref p) vs H Q
theorem IZ{r:V->List V->Hp->VK->Prop}{f:Nat->List U->Sto->Res U}{o:ME}{a:MA}(m:MtU K r f)(h:tM K (mML f o a) G H Q):tBM K "list" r (tM K o) (tMA K a) G H Q:=by
 obtain⟨μ,S,Y,u,S',hr,er,e,k⟩:=h;obtain⟨x,S1,e1,e⟩:=aK e
 split at e
 .rename_i n
  cases q:getL S1 n with
  |none=>rw[q]at e;cases e
  | some ws=>
    rw[q]at e;obtain⟨xs,S2,e2,e⟩:=aK e;refine⟨μ,S,Y,_,S1,hr,er,e1,λY0 vx H1 p1 k1 ZY rx=>?_⟩;obtain⟨p,rfl,hp⟩:=eQ rx;obtain⟨p',ys,ZG,hs,r'⟩:=ZY.sq q;rw[hp]at ZG;cases ZG;exact⟨.inl ⟨rfl,ys,hs⟩,_,S1,Y,xs,S2,ZY,er.mono k1 p1,e2,λY5 vs H2 p2 k2 ZU rs=>(m _ S2 H2 n p xs vs u S' Q ZU (p2.get hp) rs e (k.mono (p1.trans p2) (k1.trans k2)))⟩
 .cases e
theorem yo{ws:List U}(k:Aft K μ H u (S.set n (.lst ws)) Q)(hr:HR K μ S H)(e:S[n]?=a_ (.lst us))(hp:μ[n]?=a_ p)(rs:RUs H μ ws vs)(ru:RU H μ u v):
  Q v (upd H p (.lst vs)):=by
 obtain⟨Tt,e0,_⟩:=hr.cell n _ p e hp;exact k μ _ _ (Pre.refl _) (bh.wr e0) (hr.wr e hp rs) (RU.mono (bh.wr e0) (Pre.refl _) _ _ ru)
theorem AX:MtU K zH cW:=by
 intro μ S H n p us vs u S' Q hr hp rs e a;unfold cW at e
 split at e
 .split at e
  .rename_i ws q
   split at e
   .rename_i hc
    cases e;obtain⟨v,r,rfl,rx,rn⟩:=rs.inv;rw[rn.nil_inv];obtain⟨xs,e0,r0⟩:=hr.cell n _ p q hp;refine⟨p,xs,v,rfl,rfl,e0,?_,yo a hr q hp (r0.append (.cons rx .nil)) o6⟩;have:=r0.len;unfold big at hc;rw[sizeLine_eq];omega
   .cases e
  .cases e
 .cases e
variable{j:Nat}
theorem OM(h:ixN n i=a_ j):j<n /\ -(n:Int)<=i/\i<n:=by
 unfold ixN at h
 grind
theorem FU(h:ixN n i=a_ j):seqIndex? i n=a_ j:=by
 unfold ixN at h;unfold seqIndex?
 grind
theorem Ei:MtU K Dq jS:=by
 intro μ S H n p us vs u S' Q hr hp rs e a;unfold jS at e
 split at e
 .rename_i i
  split at e
  .rename_i ws q
   split at e
   rotate_left
   .cases e
   rename_i hR
   cases z:ixN _ i with
   |none=>rw[z]at e;cases e
   | some j=>
     rw[z]at e;simp only[ay]at e;cases z2:ws[j]? with
     |none=>simp_all
     | some y=>
       rw[z2]at e;cases e;obtain⟨v,r,rfl,rx,rn⟩:=rs.inv;rw[rn.nil_inv,cR rx];obtain⟨xs,e0,r0⟩:=hr.cell n _ p q hp;obtain⟨w,hw,ZA⟩:=r0.get z2;refine⟨p,xs,i,j,w,rfl,rfl,e0,?_,?_,?_,hw,yo a hr q hp (r0.eraseIdx j) ZA⟩
       .have:=hR.1;omega
       .have:=hR.2;omega
       .rw[<-r0.len];exact FU z
  .cases e
 .cases e
theorem zf{t:TE}{m:ME}{Q:Bool->Hp->Prop}(ht:∀Q,tM K m G H Q->t G H Q)(h:tMT K (cOf m) G H Q):Ec t G H Q:=by
 obtain⟨μ,S,Y,b,S',hr,er,e,k⟩:=h;obtain⟨x,S1,e1,e⟩:=aK e
 split at e
 .cases e
  exact ht _ ⟨μ,S,Y,_,_,hr,er,e1,λY0 vx H1 p1 k1 ZY rx=>⟨_,jf rx,k _ H1 p1 k1 ZY⟩⟩
 .cases e
theorem OY{t:TE}{m:ME}{Q:Bool->Hp->Prop}(ht:∀Q,tM K m G H Q->t G H Q)(h:tMT K (cOf m) G H Q):tB t G H Q:=zf ht h
theorem K0{a b:MT}{Q:Bool->Hp->Prop}(h:tMT K (rR a b) G H Q):_L.L6 (tMT K a) (tMT K b) G H Q:=by
 obtain⟨μ,S,Y,c,S',hr,er,e,k⟩:=h;obtain⟨x,S1,e1,e⟩:=aK e;refine⟨μ,S,Y,x,S1,hr,er,e1,λY0 H1 p1 k1 ZY=>?_⟩;cases x with
 |true=>exact pQ ⟨_,S1,Y,c,S',ZY,er.mono k1 p1,e,λY5 H2 p2 k2=>k _ H2 (p1.trans p2) (k1.trans k2)⟩
 | false=>
   grind
theorem Ow{a b:MT}{Q:Bool->Hp->Prop}(h:tMT K (cOr a b) G H Q):_L.tOr (tMT K a) (tMT K b) G H Q:=by
 obtain⟨μ,S,Y,c,S',hr,er,e,k⟩:=h;obtain⟨x,S1,e1,e⟩:=aK e;refine⟨μ,S,Y,x,S1,hr,er,e1,λY0 H1 p1 k1 ZY=>?_⟩;cases x with
 | true=>
   grind
 |false=>exact qQ ⟨_,S1,Y,c,S',ZY,er.mono k1 p1,e,λY5 H2 p2 k2=>k _ H2 (p1.trans p2) (k1.trans k2)⟩
theorem Mp{a:MT}{Q:Bool->Hp->Prop}(h:tMT K (dk a) G H Q):_L.Lj (tMT K a) G H Q:=by
 obtain⟨μ,S,Y,c,S',hr,er,e,k⟩:=h;obtain⟨x,S1,e1,e⟩:=aK e;cases e;exact⟨μ,S,Y,x,_,hr,er,e1,λY0 H1 p1 k1 ZY=>k _ H1 p1 k1 ZY⟩
theorem Mr{c:MT}{a b:ME}(h:tM K (F9 c a b) G H Q):tIf (tMT K c) (tM K a) (tM K b) G H Q:=by
 obtain⟨μ,S,Y,u,S',hr,er,e,k⟩:=h;obtain⟨x,S1,e1,e⟩:=aK e;refine⟨μ,S,Y,x,S1,hr,er,e1,λY0 H1 p1 k1 ZY=>?_⟩;cases x with
 |true=>exact pQ ⟨_,S1,Y,u,S',ZY,er.mono k1 p1,e,k.mono p1 k1⟩
 |false=>exact qQ ⟨_,S1,Y,u,S',ZY,er.mono k1 p1,e,k.mono p1 k1⟩
section
variable {D:Ends}
theorem Eh(h:tMS K bE D G H):Dw D G H:=by
 obtain⟨μ,S,Y,r,hr,er,e,k⟩:=h;cases e;exact k μ G H (Pre.refl _) (bh.refl _) hr er
variable{b:MS}
theorem Np{a:MS}(h:tMS K (aW a b) D G H):LJ (tMS K a) (tMS K b) D G H:=by
 obtain⟨μ,S,Y,r,hr,er,e,k⟩:=h;unfold aW at e
 split at e
 .rename_i Y2 S1 q
  exact⟨μ,S,Y,_,hr,er,q,λY0 Y6 H1 p1 k1 ZY ZP=>⟨_,S1,_,r,ZY,ZP,e,k.mono p1 k1⟩⟩
 .rename_i q
  refine⟨μ,S,Y,r,hr,er,e,?_⟩;obtain⟨f,Y4,S'⟩:=r;cases f with
  |nx=>exact absurd e (q _ S')
  |bk=>exact k
  |ct=>exact k
  |rt u=>exact k
variable{i:Nat}{m:ME}
theorem G9(h:tMS K (bJ i m) D G H):AW (tM K m) (i2 i) D G H:=by
 obtain⟨μ,S,Y,r,hr,er,e,k⟩:=h;obtain⟨x,S1,e1,e⟩:=aK e;cases e;exact⟨μ,S,Y,x,S1,hr,er,e1,λY0 vx H1 p1 k1 ZY rx=>k _ _ H1 p1 k1 ZY ((er.mono k1 p1).set rx i)⟩
def Nv:DW:=λo i v H Q=>∃a H',o=.ref a/\Bf H a i v H'/\Q H'
def Cn:DW:=λo i v H Q=>Hh o i v H Q\/Nv o i v H Q
theorem z4{X:Cx}(hu:X.A.units+1<cLine):KJ X Cn:=by
 intro pins s G H o i v ov iv u Q I ro ri rv h;rcases h with h|⟨a,H',rfl,g,q⟩
 .exact set_list _ s G H o i v ov iv u Q I ro ri rv h
 .obtain rfl:ov=eA a:=ro
  exact AV hu I g ri rv λs4 I4=>⟨H',I4,q⟩
theorem Fc{o i:ME}(h:tMS K (jR o i m) D G H):AW (tM K m) (Kl (tM K o) (tM K i) Cn) D G H:=by
 obtain⟨μ,S,Y,r,hr,er,e,k⟩:=h;obtain⟨x,S1,e1,e⟩:=aK e;obtain⟨p,S2,e2,e⟩:=aK e;obtain⟨j,S3,e3,e⟩:=aK e;cases p with
 | ref n=>
   simp at e
   split at e
   .rename_i us q
    split at e
    rotate_left
    .cases e
    rename_i kk
    cases z:ixN _ kk with
    |none=>rw[z]at e;cases e
    | some m'=>
      rw[z]at e;cases e;refine⟨μ,S,Y,x,S1,hr,er,e1,λY0 vx H1 p1 k1 ZY rx=>?_⟩;refine⟨_,S1,Y,_,S2,ZY,er.mono k1 p1,e2,λY5 vo H2 p2 k2 ZU ro=>?_⟩;refine⟨_,S2,Y,_,S3,ZU,er.mono (k1.trans k2) (p1.trans p2),e3,λG' vi H3 p3 k3 ZM ri=>?_⟩;obtain⟨a,rfl,ha⟩:=eQ ro;have Yx:=p3.get ha;obtain⟨vs,e0,r0⟩:=ZM.cell n _ a q Yx;refine .inl ⟨a,vs,kk,m',rfl,cR ri,e0,by rw[<-r0.len];omega,?_⟩;have kw:bh H3 (upd H3 a (.lst (vs.set m' vx))):=bh.wr e0;exact k _ _ _ (p1.trans (p2.trans p3)) (k1.trans (k2.trans (k3.trans kw))) (ZM.wr q Yx (r0.set (RU.mono (k2.trans k3) (p2.trans p3) _ _ rx) m')) (er.mono (k1.trans (k2.trans (k3.trans kw))) (p1.trans (p2.trans p3)))
   .rename_i kvs q
    cases qk:keyOf j with
    |none=>simp_all
    | some kk=>
      rw[qk]at e
      split at e
      .rename_i hz
       cases e;refine⟨μ,S,Y,x,S1,hr,er,e1,λY0 vx H1 p1 k1 ZY rx=>?_⟩;refine⟨_,S1,Y,_,S2,ZY,er.mono k1 p1,e2,λY5 vo H2 p2 k2 ZU ro=>?_⟩;refine⟨_,S2,Y,_,S3,ZU,er.mono (k1.trans k2) (p1.trans p2),e3,λG' vi H3 p3 k3 ZM ri=>?_⟩;obtain⟨a,rfl,ha⟩:=eQ ro;have Yx:=p3.get ha;obtain⟨vs,e0,r0⟩:=ZM.cell n _ a q Yx;obtain⟨ws,ew,ZA⟩:=Am (RU.mono (k2.trans k3) (p2.trans p3) _ _ rx) r0;have kw:bh H3 (upd H3 a (.dK (putK (dV kvs vs) kk vx))):=bh.wrG e0 (λ_ z=>by cases z) λ_ _ z=>by cases z
       exact .inr ⟨a,_,rfl,.inl ⟨_,kk,e0,nO ri qk,by rw[yG (by have:=r0.len;rwa[aj]at this)];exact hz,rfl⟩,(k _ _ _ (p1.trans (p2.trans p3)) (k1.trans (k2.trans (k3.trans kw))) (ZM.wrC q Yx rfl ⟨ws,by rw[ew];exact cx,RUs.mono kw (Pre.refl _) _ _ ZA⟩) (er.mono (k1.trans (k2.trans (k3.trans kw))) (p1.trans (p2.trans p3))))⟩
      .cases e
   .cases e
 |_=>cases e
theorem Ka(h:tMS K (dm m) D G H):HF (tM K m) D G H:=by
 obtain⟨μ,S,Y,r,hr,er,e,k⟩:=h;obtain⟨x,S1,e1,e⟩:=aK e;cases e;exact⟨μ,S,Y,x,S1,hr,er,e1,λY0 vx H1 p1 k1 ZY rx=>k _ G H1 p1 k1 ZY (er.mono k1 p1)⟩
theorem ND(h:tMS K (bO m) D G H):L7 (tM K m) D G H:=by
 obtain⟨μ,S,Y,r,hr,er,e,k⟩:=h;obtain⟨x,S1,e1,e⟩:=aK e;cases e;exact⟨μ,S,Y,x,S1,hr,er,e1,k⟩
theorem Os{c:MT}{a:MS}(h:tMS K (sIf c a b) D G H):Lx (tMT K c) (tMS K a) (tMS K b) D G H:=by
 obtain⟨μ,S,Y,r,hr,er,e,k⟩:=h;obtain⟨x,S1,e1,e⟩:=aK e;refine⟨μ,S,Y,x,S1,hr,er,e1,λY0 H1 p1 k1 ZY=>?_⟩;cases x with
 |true=>exact pQ ⟨_,S1,Y,r,ZY,er.mono k1 p1,e,k.mono p1 k1⟩
 |false=>exact qQ ⟨_,S1,Y,r,ZY,er.mono k1 p1,e,k.mono p1 k1⟩
variable{S:Sto}{r:Fl×Rho×Sto}
theorem oa{X4:List e_}{H0:Hp}{k:MS}{N:St->Hp->Prop}(hr:HR K μ S H)(er:ER H μ Y G)(e:aft (b Y S) k=a_ r)(p:Pre X4 μ)(kp:bh H0 H)(fl:FlP K X4 H0 D r)
  (hN:∀Y0 Y6 H1 Y2 S1,Pre X4 Y0->bh H0 H1->HR K Y0 S1 H1->ER H1 Y0 Y2 Y6->k Y2 S1=a_ r->N Y6 H1):tMS K b { D with nx:=N,ct:=N,bk:=D.nx } G H:=by
 unfold aft at e
 split at e
 .rename_i Y2 S1 q
  exact⟨μ,S,Y,_,hr,er,q,λY0 Y6 H1 p1 k1 ZY ZP=>hN _ _ H1 _ S1 (p.trans p1) (kp.trans k1) ZY ZP e⟩
 .rename_i Y2 S1 q
  exact⟨μ,S,Y,_,hr,er,q,λY0 Y6 H1 p1 k1 ZY ZP=>hN _ _ H1 _ S1 (p.trans p1) (kp.trans k1) ZY ZP e⟩
 .rename_i Y2 S1 q
  cases e;exact⟨μ,S,Y,_,hr,er,q,λY0 Y6 H1 p1 k1 ZY ZP=>fl _ _ H1 (p.trans p1) (kp.trans k1) ZY ZP⟩
 .rename_i q1 q2 q3
  refine⟨μ,S,Y,r,hr,er,e,?_⟩;obtain⟨f,Y4,S'⟩:=r;cases f with
  |nx=>exact absurd e (q1 _ S')
  |ct=>exact absurd e (q2 _ S')
  |bk=>exact absurd e (q3 _ S')
  |rt u=>exact Aft.mono fl p kp
theorem drop_cons{α:Type}{l:List α}{x:α}(h:l[i]?=a_ x):l.drop i=x::l.drop (i+1):=by
 obtain⟨hi,e⟩:=ag.mp h;rw[eB hi,e]
theorem KZ{us:List U}{vs:List V}(hr:HR K μ S H)(er:ER H μ Y G)(e:pw i b us Y S=a_ r)(fl:FlP K μ H D r)(ha:H a=a_ (.tup vs))(ru:RUs H μ us vs):
  ∃W:Nat->Nat->St->Hp->Prop,(∃m,W 0 m G H) /\ ∀k m G H,W k m G H ->
   ((Itt K a).stop k H/\D.nx G H)\/((Itt K a).go k H /\ ∃N:St->Hp->Prop,(∀Y1 H',N Y1 H'->∃m',m'<m/\W (k+1) m' Y1 H') /\ ∀x H',(Itt K a).yld k H x H'->i2 i x G H' λY7 H2=>tMS K b { D with nx:=N,ct:=N,bk:=D.nx } Y7 H2):=by
 refine FZ (xs:=vs) (λk Y6 H1=>∃Y0 S1 Y2,Pre μ Y0/\bh H H1/\HR K Y0 S1 H1/\ER H1 Y0 Y2 Y6/\pw i b (us.drop k) Y2 S1=a_ r) ⟨μ,S,Y,Pre.refl _,bh.refl _,hr,er,e⟩ ?_ ?_ ?_
 .rintro k Y6 H1 _ ⟨Y0,S1,Y2,p1,k1,_⟩
  exact .inl (.inl (k1 a vs ha))
 .rintro k x Y6 H1 hx ⟨Y0,S1,Y2,p1,k1,ZY,ZP,e1⟩
  have hk:k<us.length:=by rw[ru.len];exact(ag.mp hx).1
  have hu:us[k]?=a_ us[k]:=by simp
  obtain⟨v,hv,rv⟩:=ru.get hu;rw[hx]at hv;cases hv;rw[drop_cons hu]at e1;exact oa ZY (ZP.set (RU.mono k1 p1 _ _ rv) i) e1 p1 k1 fl λY5 Y7 H2 Y' S2 p2 k2 ZU YZ e2=>⟨_,S2,_,p2,k2,ZU,YZ,e2⟩
 .rintro Y6 H1 ⟨Y0,S1,Y2,p1,k1,ZY,ZP,e1⟩
  rw[<-ru.len,mG]at e1;cases e1;exact fl _ _ H1 p1 k1 ZY ZP
theorem Cq{lo:Int}(hr:HR K μ S H)(er:ER H μ Y G)(e:pw i b (aU lo n) Y S=a_ r)(fl:FlP K μ H D r):
  ∃W:Nat->Nat->St->Hp->Prop,(∃m,W 0 m G H) /\ ∀k m G H,W k m G H ->
   ((Itr lo n).stop k H/\D.nx G H)\/((Itr lo n).go k H /\ ∃N:St->Hp->Prop,(∀Y1 H',N Y1 H'->∃m',m'<m/\W (k+1) m' Y1 H') /\ ∀x H',(Itr lo n).yld k H x H'->i2 i x G H' λY7 H2=>tMS K b { D with nx:=N,ct:=N,bk:=D.nx } Y7 H2):=by
 refine AJ (λk Y6 H1=>∃Y0 S1 Y2,Pre μ Y0/\bh H H1/\HR K Y0 S1 H1/\ER H1 Y0 Y2 Y6/\pw i b ((aU lo n).drop k) Y2 S1=a_ r) ⟨μ,S,Y,Pre.refl _,bh.refl _,hr,er,e⟩ ?_ ?_
 .rintro k Y6 H1 hk ⟨Y0,S1,Y2,p1,k1,ZY,ZP,e1⟩
  have hu:(aU lo n)[k]?=a_ (.int (lo+k)):=by simp[aU,hk]
  rw[drop_cons hu]at e1;exact oa ZY (ZP.set eU i) e1 p1 k1 fl λY5 Y7 H2 Y' S2 p2 k2 ZU YZ e2=>⟨_,S2,_,p2,k2,ZU,YZ,e2⟩
 .rintro Y6 H1 ⟨Y0,S1,Y2,p1,k1,ZY,ZP,e1⟩
  have hl:(aU lo n).length=n:=by simp[aU]
  rw[List.drop_eq_nil_of_le (by simp_all)]at e1;cases e1;exact fl _ _ H1 p1 k1 ZY ZP
theorem IB{f:Nat}(hr:HR K μ S H)(er:ER H μ Y G)(e:forL i b n f 0 Y S=a_ r)(fl:FlP K μ H D r)(ha:μ[n]?=a_ a):
  ∃W:Nat->Nat->St->Hp->Prop,(∃m,W 0 m G H) /\ ∀k m G H,W k m G H ->
   ((Itl K a).stop k H/\D.nx G H)\/((Itl K a).go k H /\ ∃N:St->Hp->Prop,(∀Y1 H',N Y1 H'->∃m',m'<m/\W (k+1) m' Y1 H') /\ ∀x H',(Itl K a).yld k H x H'->i2 i x G H' λY7 H2=>tMS K b { D with nx:=N,ct:=N,bk:=D.nx } Y7 H2):=by
 refine⟨λk m Y6 H1=>∃Y0 S1 Y2,Pre μ Y0/\bh H H1/\HR K Y0 S1 H1/\ER H1 Y0 Y2 Y6/\forL i b n m k Y2 S1=a_ r,⟨f,μ,S,Y,Pre.refl _,bh.refl _,hr,er,e⟩,?_⟩;rintro k m Y6 H1 ⟨Y0,S1,Y2,p1,k1,ZY,ZP,e1⟩;cases m with
 |zero=>cases e1
 | succ m=>
   unfold forL at e1;cases q:getL S1 n with
   |none=>simp_all
   | some us=>
     rw[q]at e1;simp at e1;obtain⟨a',vs,Z9,hs,rs⟩:=ZY.sq q;rw[p1.get ha]at Z9;cases Z9;cases z:us[k]? with
     | none=>
       rw[z]at e1;cases e1;refine .inl ⟨⟨vs,hs,?_⟩,fl _ _ H1 p1 k1 ZY ZP⟩;rw[<-rs.len];simp_all
     | some u=>
       rw[z]at e1;obtain⟨v,hv,rv⟩:=rs.get z;refine .inr ⟨⟨vs,v,hs,hv⟩,_,λY1 H' w=>⟨m,d7 _,w⟩,λx H' y=>?_⟩;obtain⟨e',y⟩:=y;subst e';have hx:=y vs hs;rw[hv]at hx;cases hx;exact oa ZY (ZP.set rv i) e1 p1 k1 fl λY5 Y7 H2 Y' S2 p2 k2 ZU YZ e2=>⟨_,S2,_,p2,k2,ZU,YZ,e2⟩
theorem Gu{c:MT}(h:tMS K (yy c b) D G H):Ek (tMT K c) (tMS K b) D G H:=by
 obtain⟨μ,S,Y,r,hr,er,e,fl⟩:=h;refine⟨λm Y6 H1=>∃Y0 S1 Y2,Pre μ Y0/\bh H H1/\HR K Y0 S1 H1/\ER H1 Y0 Y2 Y6/\whl c b m Y2 S1=a_ r,⟨_,μ,S,Y,Pre.refl _,bh.refl _,hr,er,e⟩,?_⟩;rintro m Y6 H1 ⟨Y0,S1,Y2,p1,k1,ZY,ZP,e1⟩;cases m with
 |zero=>cases e1
 | succ m=>
   obtain⟨x,S2,e2,e1⟩:=aK e1;refine⟨_,S1,_,x,S2,ZY,ZP,e2,λY5 H2 p2 k2 ZU=>?_⟩;cases x with
   | true=>
     exact pQ ⟨_,λY1 H' w=>⟨m,d7 _,w⟩,(oa ZU (ZP.mono k2 p2) e1 (p1.trans p2) (k1.trans k2) fl λG' X3 H3 Z0 S3 p3 k3 ZM SX e3=>⟨_,S3,_,p3,k3,ZM,SX,e3⟩)⟩
   | false=>
     cases e1;exact qQ (fl _ _ H2 (p1.trans p2) (k1.trans k2) ZU (ZP.mono k2 p2))
end
end
section
variable {K:KX}{G:St}{H:Hp}{Q:VK}{D:Ends}
variable{R:It->Hp->Prop}{S S1:Sto}{src:Src}
theorem Hy{a:MA}(hr:HR K μ S H)(er:ER H μ Y G)(e:iR1 a Y S=a_ (src,S1))
  (hR:∀Y0 H1 n,Pre μ Y0->bh H H1->HR K Y0 S1 H1->src=.imm (aU 0 n)->R (Itr 0 n) H1):xG (tMA K a) G H R:=by
 obtain⟨xs,S2,e1,e⟩:=aK e
 split at e
 .rename_i j
  split at e
  .rename_i hj
   cases e;refine⟨μ,S,Y,_,_,hr,er,e1,λY0 vs H1 p1 k1 ZY rs=>?_⟩;obtain⟨v,r,rfl,rx,rn⟩:=rs.inv;rw[rn.nil_inv,cR rx];exact⟨j,rfl,hj.1,hj.2,hR _ H1 _ p1 k1 ZY rfl⟩
  .cases e
 .cases e
theorem HJ{a:MA}(hr:HR K μ S H)(er:ER H μ Y G)(e:iR2 a Y S=a_ (src,S1))
  (hR:∀Y0 H1 lo n,Pre μ Y0->bh H H1->HR K Y0 S1 H1->src=.imm (aU lo n)->R (Itr lo n) H1):wz (tMA K a) G H R:=by
 obtain⟨xs,S2,e1,e⟩:=aK e
 split at e
 .rename_i i j
  split at e
  .rename_i hj
   cases e;refine⟨μ,S,Y,_,_,hr,er,e1,λY0 vs H1 p1 k1 ZY rs=>?_⟩;obtain⟨v,r,rfl,rx,rs⟩:=rs.inv;obtain⟨w,r,rfl,ry,rn⟩:=rs.inv;rw[rn.nil_inv,cR rx,cR ry];exact⟨i,j,rfl,⟨hj.1.1,hj.1.2,hj.2.1,hj.2.2⟩,hR _ H1 _ _ p1 k1 ZY rfl⟩
  .cases e
 .cases e
theorem yl{a:ME}(hr:HR K μ S H)(er:ER H μ Y G)(e:dh a Y S=a_ (src,S1))
  (hT:∀Y0 H1 us p vs,Pre μ Y0->bh H H1->HR K Y0 S1 H1->src=.imm us->H1 p=a_ (.tup vs)->RUs H1 Y0 us vs->R (Itt K p) H1)
  (hL:∀Y0 H1 n p,Pre μ Y0->bh H H1->HR K Y0 S1 H1->src=.mut n->Y0[n]?=a_ p->R (Itl K p) H1):qX K (tM K a) G H R\/yZ K (tM K a) G H R:=by
 obtain⟨x,S2,e1,e⟩:=aK e
 split at e
 .cases e
  refine .inr ⟨μ,S,Y,_,_,hr,er,e1,λY0 vx H1 p1 k1 ZY rx=>?_⟩;obtain⟨p,vs,rfl,hp,r⟩:=iP rx;exact⟨p,rfl,⟨vs,.inl (.inl hp)⟩,hT _ H1 _ p vs p1 k1 ZY rfl hp r⟩
 .rename_i n
  cases q:getL S2 n with
  |none=>rw[q]at e;cases e
  | some ws=>
    rw[q]at e;cases e;refine .inl ⟨μ,S,Y,_,_,hr,er,e1,λY0 vx H1 p1 k1 ZY rx=>?_⟩;obtain⟨p,rfl,hp⟩:=eQ rx;obtain⟨p',ys,ZG,hs,r'⟩:=ZY.sq q;rw[hp]at ZG;cases ZG;exact⟨p,rfl,⟨ys,hs⟩,hL _ H1 n p p1 k1 ZY rfl hp⟩
 .cases e
variable{i:Nat}{b:MS}
theorem Nu{a:MA}(h:tMS K (fU i (iR1 a) b) D G H):yC (xG (tMA K a)) (i2 i) (tMS K b) D G H:=by
 obtain⟨μ,S,Y,r,hr,er,e,fl⟩:=h;obtain⟨src,S1,e1,e⟩:=aK e;refine Hy hr er e1 λY0 H1 n p1 k1 ZY hs=>?_;subst hs;exact Cq ZY (er.mono k1 p1) e (fl.mono p1 k1)
theorem LM{a:MA}(h:tMS K (fU i (iR2 a) b) D G H):yC (wz (tMA K a)) (i2 i) (tMS K b) D G H:=by
 obtain⟨μ,S,Y,r,hr,er,e,fl⟩:=h;obtain⟨src,S1,e1,e⟩:=aK e;refine HJ hr er e1 λY0 H1 lo n p1 k1 ZY hs=>?_;subst hs;exact Cq ZY (er.mono k1 p1) e (fl.mono p1 k1)
theorem OE{a:ME}(h:tMS K (fU i (dh a) b) D G H):yC (λG H R=>qX K (tM K a) G H R\/yZ K (tM K a) G H R) (i2 i) (tMS K b) D G H:=by
 obtain⟨μ,S,Y,r,hr,er,e,fl⟩:=h;obtain⟨src,S1,e1,e⟩:=aK e;refine yl hr er e1 (λY0 H1 us p vs p1 k1 ZY hs hp rs=>?_) λY0 H1 n p p1 k1 ZY hs hp=>?_
 .subst hs
  exact KZ ZY (er.mono k1 p1) e (fl.mono p1 k1) hp rs
 .subst hs
  exact IB ZY (er.mono k1 p1) e (fl.mono p1 k1) hp
theorem oY{t:MT}{e:ME}{Y:Rho}:∀{us acc ys:List U}{S S':Sto},dO t e Y us acc S=a_ (ys,S')->acc.length<=ys.length
 |[],acc,ys,S,S',h=>by cases h<;>simp_all
 | x::us,acc,ys,S,S',h=>by
   obtain⟨k,S1,e1,h⟩:=aK h;cases k with
   | true=>
     obtain⟨y,S2,e2,h⟩:=aK (show bnd _ (λy S2=>dO t e Y us (acc++[y]) S2)=a_ _ from h);have:=oY h;simp at this;exact br (by assumption)
   |false=>exact oY (h)
theorem oV{t:MT}{e:ME}{Y:Rho}{n:Nat}:∀{f i:Nat}{acc ys:List U}{S S':Sto},iY t e Y n f i acc S=a_ (ys,S')->acc.length<=ys.length
 |0,i,acc,ys,S,S',h=>by cases h
 | f+1,i,acc,ys,S,S',h=>by
   unfold iY at h;cases q:getL S n with
   |none=>rw[q]at h;cases h
   | some us=>
     rw[q]at h;simp at h;cases z:us[i]? with
     |none=>simp_all
     | some x=>
       rw[z]at h;obtain⟨k,S1,e1,h⟩:=aK h;cases k with
       | true=>
         obtain⟨y,S2,e2,h⟩:=aK (show bnd _ (λy S2=>iY t e Y n f _ (acc++[y]) S2)=a_ _ from h);have:=oV h;simp at this;exact br (by assumption)
       |false=>exact oV (h)
def tH(J:It)(G:St)(tt:TT)(te:TE)(H1:Hp)(Q:VK):Prop:= ∃W:Nat->Nat->List V->Hp->Prop,(∃m,W 0 m [] H1) /\ ∀i m ys H,W i m ys H->ys.length<sizeLine /\
 ((J.stop i H /\ ∀D,H D=b_->Q (.ref D) (upd H D (.lst ys))) \/
  (J.go i H /\ ∀x H',J.yld i H x H'->tt (G++[a_ x]) H' λb H3=>if b=c_ then te (G++[a_ x]) H3 λy H4 =>∃m',m'<m/\W (i+1) m' (ys++[y]) H4 else ∃m',m'<m/\W (i+1) m' ys H3))
variable{e:ME}{ys:List U}
theorem tJ{t:MT}{Y4:Rho}{Y1:St}{au:List U}{acc:List V}{next:List U->Sto->Res (List U)}(W:List V->Hp->Prop)(ZY:HR K Y0 S1 H1)(ZP:ER H1 Y0 Y4 Y1)(ra:RUs H1 Y0 au acc)
  (e1:bnd (t Y4 S1) (λk S2=>if k then bnd (e Y4 S2) λy S3=>next (au++[y]) S3 else next au S2)=a_ (ys,S'))
  (hW:∀Y5 S2 au2 Yr H2,Pre Y0 Y5->bh H1 H2->HR K Y5 S2 H2->RUs H2 Y5 au2 Yr->next au2 S2=a_ (ys,S')->W Yr H2):
  tMT K t Y1 H1 λb H3=>if b=c_ then tM K e Y1 H3 λy H4=>W (acc++[y]) H4 else W acc H3:=by
 obtain⟨b,S2,e2,e1⟩:=aK e1;refine⟨_,S1,_,b,S2,ZY,ZP,e2,λY5 H2 p2 k2 ZU=>?_⟩;have XD:=RUs.mono k2 p2 _ _ ra;cases b with
 | true=>
   obtain⟨y',S3,e3,e1⟩:=aK (show bnd _ (λy S2=>next (au++[y]) S2)=a_ _ from e1);exact pQ ⟨_,S2,_,y',S3,ZU,ZP.mono k2 p2,e3,λG' v3 H3 p3 k3 ZM XE=>hW _ S3 _ _ H3 (p2.trans p3) (k2.trans k3) ZM ((RUs.mono k3 p3 _ _ XD).append (.cons XE .nil)) e1⟩
 |false=>exact qQ (hW _ S2 _ _ H2 p2 k2 ZU XD e1)
variable{us:List U}
theorem qV{J:It}{t:MT}(hr:HR K μ S H)(er:ER H μ Y G)(h:dO t e Y us [] S=a_ (ys,S'))(hz:ys.length<big)(k:Aft K μ H (.ref S'.length) (S'++[.lst ys]) Q)
  (Xn:∀H',bh H H'->J.stop us.length H') (Rf:∀(i:Nat) H',i<us.length->bh H H'->J.go i H')
  (hy:∀(i:Nat) H' x Yf (u:U),us[i]?=a_ u->bh H H'->J.yld i H' x Yf->Yf=H'/\RU H μ u x):tH J G (tMT K t) (tM K e) H Q:=by
 have Th:ys.length<sizeLine:=hz;refine⟨λi m acc H1=>m=us.length-i/\i<=us.length /\ ∃Y0 S1 au,Pre μ Y0/\bh H H1/\HR K Y0 S1 H1/\RUs H1 Y0 au acc/\dO t e Y (us.drop i) au S1=a_ _,⟨_,rfl,gy _,μ,S,[],Pre.refl _,bh.refl _,hr,.nil,h⟩,?_⟩;rintro i m acc H1 ⟨rfl,hi,Y0,S1,au,p1,k1,ZY,ra,e1⟩;have hl:=oY e1;have WL:=ra.len;refine⟨by omega,?_⟩;by_cases ZN:i<us.length
 .have hu:us[i]?=a_ us[i]:=by simp
  rw[drop_cons hu]at e1;refine .inr ⟨Rf i H1 ZN k1,λx H' y=>?_⟩;obtain⟨rfl,rx⟩:=hy i H1 x H' _ hu k1 y;exact tJ (λacc H1=>∃m',m'<us.length-i/\m'=us.length-(i+1)/\i+1<=us.length /\ ∃Y0 S1 au,Pre μ Y0/\bh H H1/\HR K Y0 S1 H1/\RUs H1 Y0 au _/\dO t e Y _ au S1=a_ _) ZY ((er.mono k1 p1).push (RU.mono k1 p1 _ _ rx)) ra e1 λY5 S2 au2 Yr H2 p2 k2 ZU XD q=>⟨_,by omega,rfl,ZN,_,S2,_,p1.trans p2,k1.trans k2,ZU,XD,q⟩
 .have e:i=us.length:=by omega
  subst e;rw[mG]at e1;cases e1;exact .inl ⟨Xn H1 k1,λD hD=>ky (k.mono p1 k1) ZY ra hD⟩
theorem DG{t:MT}{f:Nat}(hr:HR K μ S H)(er:ER H μ Y G)(h:iY t e Y n f 0 [] S=a_ (ys,S'))(hz:ys.length<big)(k:Aft K μ H (.ref S'.length) (S'++[.lst ys]) Q)
  (hp:μ[n]?=a_ p):tH (Itl K p) G (tMT K t) (tM K e) H Q:=by
 have Th:ys.length<sizeLine:=hz;refine⟨λi m acc H1=>∃Y0 S1 au,Pre μ Y0/\bh H H1/\HR K Y0 S1 H1/\RUs H1 Y0 au acc/\iY t e Y n m i au S1=a_ _,⟨f,μ,S,[],Pre.refl _,bh.refl _,hr,.nil,h⟩,?_⟩;rintro i m acc H1 ⟨Y0,S1,au,p1,k1,ZY,ra,e1⟩;have hl:=oV e1;have WL:=ra.len;refine⟨by omega,?_⟩;cases m with
 |zero=>cases e1
 | succ m=>
   unfold iY at e1;cases q:getL S1 n with
   |none=>simp_all
   | some us=>
     rw[q]at e1;simp at e1;obtain⟨a',vs,Z9,hs,rs⟩:=ZY.sq q;rw[p1.get hp]at Z9;cases Z9;cases z:us[i]? with
     | none=>
       rw[z]at e1;cases e1;exact .inl ⟨⟨vs,hs,by rw[<-rs.len];simp_all⟩,λD hD=>ky (k.mono p1 k1) ZY ra hD⟩
     | some u=>
       rw[z]at e1;obtain⟨v,hv,rv⟩:=rs.get z;refine .inr ⟨⟨vs,v,hs,hv⟩,λx H' y=>?_⟩;obtain⟨e',y⟩:=y;subst e';have hx:=y vs hs;rw[hv]at hx;cases hx;exact tJ (λacc H1=>∃m',m'<m+1 /\ ∃Y0 S1 au,Pre μ Y0/\bh H H1/\HR K Y0 S1 H1/\RUs H1 Y0 au _/\iY t e Y n m' _ au S1=a_ _) ZY ((er.mono k1 p1).push rv) ra e1 λY5 S2 au2 Yr H2 p2 k2 ZU XD q=>⟨m,d7 _,_,S2,_,p1.trans p2,k1.trans k2,ZU,XD,q⟩
theorem wu{lo:Int}{t:MT}(hr:HR K μ S H)(er:ER H μ Y G)(h:dO t e Y (aU lo n) [] S=a_ (ys,S'))(hz:ys.length<big)(k:Aft K μ H (.ref S'.length) (S'++[.lst ys]) Q):
  tH (Itr lo n) G (tMT K t) (tM K e) H Q:=by
 have hl:(aU lo n).length=n:=by simp[aU]
 refine qV hr er h hz k (λH' _=>by rw[hl];exact ao _) (λi H' hi _=>by rw[hl]at hi;exact hi) λi H' x Yf u hu _ y=>?_;obtain⟨rfl,rfl⟩:=y;have hi:i<n:=by rw[<-hl];exact(ag.mp hu).1
 have e2:(aU lo n)[i]?=a_ (.int (lo+i)):=by simp[aU,hi]
 rw[e2]at hu;cases hu;exact⟨rfl,eU⟩
theorem DR{vs:List V}{t:MT}(hr:HR K μ S H)(er:ER H μ Y G)(h:dO t e Y us [] S=a_ (ys,S'))(hz:ys.length<big)(k:Aft K μ H (.ref S'.length) (S'++[.lst ys]) Q)
  (hp:H p=a_ (.tup vs)) (rs:RUs H μ us vs):tH (Itt K p) G (tMT K t) (tM K e) H Q:=by
 refine qV hr er h hz k (λH' kp=>⟨vs,.inl (.inl (kp p vs hp)),by rw[rs.len]<;>simp_all⟩) (λi H' hi kp=>?_) λi H' x Yf u hu kp y=>?_
 .have Xr:i<vs.length:=by rw[<-rs.len];omega
  exact⟨vs,vs[i],.inl (.inl (kp p vs hp)),by simp⟩
 .obtain⟨rfl,y⟩:=y
  obtain⟨v,hv,rv⟩:=rs.get hu;have:=y vs (.inl (.inl (kp p vs hp)))
  grind
theorem NY{a:MA}{t:MT}(h:tM K (bu (iR1 a) t e) G H Q):lT (xG (tMA K a)) (tMT K t) (tM K e) G H Q:=by
 obtain⟨μ,S,Y,u,S',hr,er,e0,k⟩:=h;obtain⟨src,S1,e1,e0⟩:=aK e0;obtain⟨ys,S2,e2,e0⟩:=aK e0
 split at e0
 .rename_i hz
  cases e0;refine Hy hr er e1 λY0 H1 n p1 k1 ZY hs=>?_;subst hs;exact wu ZY (er.mono k1 p1) e2 hz (k.mono p1 k1)
 .cases e0
theorem NM{a:MA}{t:MT}(h:tM K (bu (iR2 a) t e) G H Q):lT (wz (tMA K a)) (tMT K t) (tM K e) G H Q:=by
 obtain⟨μ,S,Y,u,S',hr,er,e0,k⟩:=h;obtain⟨src,S1,e1,e0⟩:=aK e0;obtain⟨ys,S2,e2,e0⟩:=aK e0
 split at e0
 .rename_i hz
  cases e0;refine HJ hr er e1 λY0 H1 lo n p1 k1 ZY hs=>?_;subst hs;exact wu ZY (er.mono k1 p1) e2 hz (k.mono p1 k1)
 .cases e0
theorem OO{a:ME}{t:MT}(h:tM K (bu (dh a) t e) G H Q):lT (λG H R=>qX K (tM K a) G H R\/yZ K (tM K a) G H R) (tMT K t) (tM K e) G H Q:=by
 obtain⟨μ,S,Y,u,S',hr,er,e0,k⟩:=h;obtain⟨src,S1,e1,e0⟩:=aK e0;obtain⟨ys,S2,e2,e0⟩:=aK e0
 split at e0
 .rename_i hz
  cases e0;refine yl hr er e1 (λY0 H1 us p vs p1 k1 ZY hs hp rs=>?_) λY0 H1 n p p1 k1 ZY hs hp=>?_
  .subst hs
   exact DR ZY (er.mono k1 p1) e2 hz (k.mono p1 k1) hp rs
  .subst hs
   exact DG ZY (er.mono k1 p1) e2 hz (k.mono p1 k1) hp
 .cases e0
end
section
variable {K:KX}{G:St}{H:Hp}{Q:VK}{D:Ends}
end
variable{X:Cx}{e:Expr}
theorem PE.con{t t':TE}(h:PE X e t)(hm:∀G H Q,t' G H Q->t G H Q):PE X e t':=λpins s G H Q I q=>h _ s G H Q I (hm G H Q q)
variable{t':TT}
theorem PT.con{t:TT}(h:PT X e t)(hm:∀G H Q,t' G H Q->t G H Q):PT X e t':=λpins s G H Q I q=>h _ s G H Q I (hm G H Q q)
theorem PW.con{t:TT}(h:PW X e t)(hm:∀G H Q,t' G H Q->t G H Q):PW X e t':=λwh pins s G H Q I q=>h wh _ s G H Q I (hm G H Q q)
theorem PA.con{e:List Expr}{t t':TA}(h:PA X e t)(hm:∀G H Q,t' G H Q->t G H Q):PA X e t':=λpos pins s G H Q I q=>h _ _ s G H Q I (hm G H Q q)
theorem PS.con{e:Stmt}{t t':TS}(h:PS X e t)(hm:∀D G H,t' D G H->t D G H):PS X e t':=λpins s G H D I q=>h _ s G H D I (hm D G H q)
theorem PSs.con{e:List Stmt}{t t':TS}(h:PSs X e t)(hm:∀D G H,t' D G H->t D G H):PSs X e t':=λpins s G H D I q=>h _ s G H D I (hm D G H q)
theorem PTs.con{e:List Expr}{t:TT}(h:PTs X e t)(hm:∀G H Q,t' G H Q->t G H Q):PTs X e t':=λpins s G H Q I q=>h _ s G H Q I (hm G H Q q)
variable{tg:Expr}
theorem PI.or{it:Expr}{w1 w2:TI}(h1:PI X tg it w1)(h2:PI X tg it w2):PI X tg it (λG H R=>w1 G H R\/w2 G H R):=λpins s G H R I q=>by
 rcases q with q|q
 .exact h1 _ s G H R I q
 .exact h2 _ s G H R I q
structure Mo where
 P:Program
 w:World
 K:KX
 mg:Str->Option f_
 base:Heap
 mkr:Option (e_×Str)
def i7(ns:List (Str×NameKind))(x:Str):Bool:=match ns.lookup x with
 |some .local=>c_
 |some .cell=>c_
 |some .free=>c_
 |_=>d_
def lV(ns:List (Str×NameKind))(x:Str):Bool:=match ns.lookup x with
 |some .local=>c_
 |some .cell=>c_
 |_=>d_
def dc(ns:List (Str×NameKind))(x:Str):Bool:=match ns.lookup x with
 |some .globalImplicit=>c_
 |_=>d_
structure Sc(M:Mo)(X:Cx)(k:Nat)(N:List Str)(ns:List (Str×NameKind)):Prop where
 hP:X.prog=M.P
 hw:X.w=M.w
 hK:X.K=M.K
 hm:X.mg=M.mg
 hb:X.base=M.base
 hN:X.N=N
 nd:N.Nodup
 calm:X.calm=c_
 loc:∀y,ns.lookup y=a_ .local->X.env.scope.names.lookup y=a_ .local
 cel:∀y,ns.lookup y=a_ .cell->X.env.scope.names.lookup y=a_ .cell/\X.fn y=c_
 fre:∀y,ns.lookup y=a_ .free->X.env.scope.names.lookup y=a_ .cell\/X.env.scope.names.lookup y=a_ .free
 glo:∀y,ns.lookup y=a_ .globalImplicit->X.env.scope.names.lookup y=a_ .globalImplicit
 room:j7 k X.A
 own:PassesOwn (model X.prog X.w) X.A X.env X.xe
 cod:∀c q,M.mkr=a_ (c,q)->X.env.code=.ref c/\X.env.qual=q
section
variable {M:Mo}{X:Cx}{k:Nat}{N:List Str}{ns:List (Str×NameKind)}
theorem Sc.vis(S:Sc M X k N ns){x:Str}(h:i7 ns x=c_):Vis X.env.scope x:=by
 unfold i7 at h
 split at h
 .rename_i e;exact .inl (S.loc x e)
 .rename_i e;exact .inr (.inl (S.cel x e).1)
 .rename_i e;exact .inr (S.fre x e)
 grind
theorem Sc.lo(S:Sc M X k N ns){x:Str}(h:lV ns x=c_):Loc X.env.scope x/\(X.fn x=c_\/X.env.scope.names.lookup x=a_ .local):=by
 unfold lV at h
 split at h
 .rename_i e;exact⟨.inl (S.loc x e),.inr (S.loc x e)⟩
 .rename_i e;exact⟨.inr (S.cel x e).1,.inl (S.cel x e).2⟩
 grind
theorem Sc.gl(S:Sc M X k N ns){x:Str}(h:dc ns x=c_):Gl X x:=by
 unfold dc at h
 split at h
 .rename_i e;exact S.glo x e
 grind
variable {a b c e:Expr}{es:List Expr}{ma mb mc:ME}{mt:MT}{ZV:MA}{pos p1 p2:Pos}{x:Str}
theorem t7(S:Sc M X k N ns)(i:Nat)(hi:N[i]?=a_ x)(hv:i7 ns x=c_)(hd:(x==("__debug__":Str))=d_)(ZH:(x==("__classdict__":Str))=d_):PE X (.Name x pos) (tM M.K (ae i)):=
 PE.con (lJ (by rw[S.hN];omega) (S.vis hv) hd ZH) λ_ _ _ h=>Mz h
theorem Lp{i:Int}{j}:PE X (.Constant (.int i) j pos) (tM M.K (mC (.int i))):=PE.con B9 λ_ _ _ h=>r_c (λ_ _=>eU) h
theorem Ov{i:Bool}{j}:PE X (.Constant (.bool i) j pos) (tM M.K (mC (.bl i))):=PE.con Nw λ_ _ _ h=>r_c (λ_ _=>hG) h
theorem Du{j}:PE X (.Constant .none j pos) (tM M.K (mC .non)):=PE.con JC λ_ _ _ h=>r_c (λ_ _=>o6) h
theorem KL{g:f_}(S:Sc M X k N ns)(hg:dc ns x=c_)(hm:M.mg x=a_ g)(r:RelV v g)(hv :∀ H μ,RU H μ u v)(hd:(x==("__debug__":Str))=d_):PE X (.Name x pos) (tM M.K (mC u)):=
 PE.con (EY (S.gl hg) (by rw[S.hm];omega) r hd) λ_ _ _ h=>r_c hv h
theorem CS(S:Sc M X k N ns)(ha:PE X a (tM M.K ma))(hb:PE X b (tM M.K mb)):PE X (.BinOp a .Add b pos) (tM M.K (m2 cK ma mb)):=
 PE.con (rE (IA.or (OpR.or (S.hK▸Fu) (OpR.or (S.hK▸Gy) JG))) ha hb) λ_ _ _ h=>qc JB h
theorem MC(ha:PE X a (tM M.K ma))(hb:PE X b (tM M.K mb)):PE X (.BinOp a .Sub b pos) (tM M.K (m2 yh ma mb)):=PE.con (rE JD ha hb) λ_ _ _ h=>qc Kt h
theorem LQ(S:Sc M X k N ns)(ha:PE X a (tM M.K ma))(hb:PE X b (tM M.K mb)):PE X (.BinOp a .Mult b pos) (tM M.K (m2 gY ma mb)):=PE.con (rE IG ha hb) λ_ _ _ h=>qc Ki h
theorem NP(ha:PE X a (tM M.K ma))(hb:PE X b (tM M.K mb)):PE X (.BinOp a .FloorDiv b pos) (tM M.K (m2 oDiv ma mb)):=PE.con (rE Gm ha hb) λ_ _ _ h=>qc I0 h
theorem Na(ha:PE X a (tM M.K ma))(hb:PE X b (tM M.K mb)):PE X (.BinOp a .Mod b pos) (tM M.K (m2 oMod ma mb)):=PE.con (rE Ik ha hb) λ_ _ _ h=>qc Jo h
theorem M0(ha:PE X a (tM M.K ma))(hb:PE X b (tM M.K mb)):PE X (.BinOp a .Pow b pos) (tM M.K (m2 yO ma mb)):=PE.con (rE KQ ha hb) λ_ _ _ h=>qc Iw h
theorem NB(ha:PE X a (tM M.K ma)):PE X (.UnaryOp .USub a pos) (tM M.K (m1 ym ma)):=PE.con (G4 B8 ha) λ_ _ _ h=>O5 JF h
theorem MB(S:Sc M X k N ns)(ha:PE X a (tM M.K ma))(hb:PE X b (tM M.K mb))(hs:qr b):PE X (.Subscript a b pos) (tM M.K (m2 oIx ma mb)):=
 PE.con (Ce (IxR.or (S.hK▸II) (HY (by have:=S.room.units;omega))) ha hb hs) λ_ _ _ h=>qc K2 h
theorem Mq(hc:PT X c (tMT M.K mt))(ha:PE X a (tM M.K ma))(hb:PE X b (tM M.K mb)):PE X (.IfExp c a b pos) (tM M.K (F9 mt ma mb)):=PE.con (Eo hc ha hb) λ_ _ _ h=>Mr h
theorem rP:PA X [] (tMA M.K af):=PA.con yL λ_ _ _ h=>NO h
theorem jo(ha:PE X a (tM M.K ma))(hr:PA X es (tMA M.K ZV))(hs:autoParam (starEach (a::es) X.env=(d_,eval a X.env)::starEach es X.env) au1._auto_1):PA X (a::es) (tMA M.K (aa ma ZV)):=
 PA.con (l6 ha hr hs) λ_ _ _ h=>Ke h
theorem Ms{x1}(h:PA X es (tMA M.K ZV)):PE X (.Tuple es x1 pos) (tM M.K (gZ ZV)):=PE.con (IH h) λ_ _ _ h=>Ng h
theorem BW(h:PA X es (tMA M.K ZV)):PE X (.List es pos) (tM M.K (b0 ZV)):=PE.con (IC h) λ_ _ _ h=>Mj h
variable{WG:MT}
theorem Nr(ha:PT X a (tMT M.K mt))(hb:PW X (.BoolOp .And (b::es) pos) (tMT M.K WG)):PW X (.BoolOp .And (a::b::es) pos) (tMT M.K (rR mt WG)):=PW.con (Ij ha hb) λ_ _ _ h=>K0 h
theorem OT(ha:PT X a (tMT M.K mt))(hb:PW X (.BoolOp .Or (b::es) pos) (tMT M.K WG)):PW X (.BoolOp .Or (a::b::es) pos) (tMT M.K (cOr mt WG)):=PW.con (ML ha hb) λ_ _ _ h=>Ow h
theorem HQ(ha:PT X a (tMT M.K mt)):PW X (.BoolOp .And [a] pos) (tMT M.K mt):=Gd ha
theorem Ls(ha:PT X a (tMT M.K mt)):PW X (.BoolOp .Or [a] pos) (tMT M.K mt):=IK ha
theorem G2(ha:PT X a (tMT M.K mt)):PT X (.UnaryOp .Not a pos) (tMT M.K (dk mt)):=PT.con (J5 ha) λ_ _ _ h=>Mp h
theorem G8(ha:PE X a (tM M.K ma))(he:autoParam (∀whole,isTrue a X.env whole=(do let v <- whole;standAt a.pos;holding [v] (truthy v))) au3._auto_1):PT X a (tMT M.K (cOf ma)):=PT.con (Il ha he) λ_ _ _ h=>OY (λ_ q=>q) h
theorem zp(S:Sc M X k N ns)(hg:dc ns "len"=c_)(hm:M.mg "len"=b_)(ha:PA X (e::es) (tMA M.K ZV))(he:autoParam (starEach (e::es) X.env=(d_,eval e X.env)::starEach es X.env) au1._auto_1)(ZQ:autoParam ((backTo pos (starEach es X.env)).any (·.1)=d_) au1._auto_1) :
  PE X (.Call (.Name "len" p1) (e::es) [] pos) (tM M.K (mFn cJ ZV)):=
 PE.con (je (gE.or (S.hK▸vq) AI) (S.gl hg) (by rw[S.hm];omega) PySem.boot_len ha (by decide) (by decide) he ZQ) λ_ _ _ h=>vg JI h
theorem Fm(S:Sc M X k N ns)(hg:dc ns "tuple"=c_)(hm:M.mg "tuple"=b_)(ha:PA X (e::es) (tMA M.K ZV))(he:autoParam (starEach (e::es) X.env=(d_,eval e X.env)::starEach es X.env) au1._auto_1)(ZQ:autoParam ((backTo pos (starEach es X.env)).any (·.1)=d_) au1._auto_1) :
  PE X (.Call (.Name "tuple" p1) (e::es) [] pos) (tM M.K (mFn bZ ZV)):=
 PE.con (j6 (S.hK▸sy) (S.gl hg) (by rw[S.hm];omega) sY ha (by decide) (by decide) he ZQ) λ_ _ _ h=>vg Cz h
theorem Ni(S:Sc M X k N ns)(hg:dc ns "max"=c_)(hm:M.mg "max"=b_)(ha:PA X (e::es) (tMA M.K ZV))(he:autoParam (starEach (e::es) X.env=(d_,eval e X.env)::starEach es X.env) au1._auto_1)(ZQ:autoParam ((backTo pos (starEach es X.env)).any (·.1)=d_) au1._auto_1) :
  PE X (.Call (.Name "max" p1) (e::es) [] pos) (tM M.K (mFn wK ZV)):=
 PE.con (je (AR S.calm) (S.gl hg) (by rw[S.hm];omega) PyProof.Rows.boot_max ha (by decide) (by decide) he ZQ) λ_ _ _ h=>vg HW h
theorem Le(S:Sc M X k N ns)(hg:dc ns "min"=c_)(hm:M.mg "min"=b_)(ha:PA X (e::es) (tMA M.K ZV))(he:autoParam (starEach (e::es) X.env=(d_,eval e X.env)::starEach es X.env) au1._auto_1)(ZQ:autoParam ((backTo pos (starEach es X.env)).any (·.1)=d_) au1._auto_1) :
  PE X (.Call (.Name "min" p1) (e::es) [] pos) (tM M.K (mFn wL ZV)):=
 PE.con (je (S.hK▸Ax S.calm (by have:=S.room.units;omega)) (S.gl hg) (by rw[S.hm];omega) PyProof.Rows.boot_min ha (by decide) (by decide) he ZQ) λ_ _ _ h=>vg Jz h
structure Fn(M:Mo)(x:Str)(k:Nat)(ps:List Str)(m:MF):Prop where
 ex:∃(f:e_) (fd:FuncData),M.mg x=a_ (.ref f)/\cb M.K (.ref f)=c_/\Binds M.K fd ps []/\g9 M.P M.w M.K M.mg M.base CX0 k f fd ps (spM M.K m)
variable{mf:MF}{ps:List Str}{k':Nat}
theorem KM (S:Sc M X k N ns)(F:Fn M x k' ps mf)(hk:k'<=k)(hg:dc ns x=c_)(ha:PA X (e::es) (tMA M.K ZV))(hd:(x==("__debug__":Str))=d_)(he:autoParam (starEach (e::es) X.env=(d_,eval e X.env)::starEach es X.env) au1._auto_1)(ZQ:autoParam ((backTo pos (starEach es X.env)).any (·.1)=d_) au1._auto_1) :
  PE X (.Call (.Name x p1) (e::es) [] pos) (tM M.K (mFn mf ZV)):=by
 obtain⟨f,fd,hm,Zm,hb,F⟩:=F.ex;rw[<-S.hP,<-S.hw,<-S.hK,<-S.hm,<-S.hb]at F;rw[<-S.hm]at hm;rw[<-S.hK]at Zm hb;exact PE.con (uj F (S.room.mono hk) (S.gl hg) hm Zm hb .nil tV ha hd he ZQ) λ_ _ _ h=>BQ h
theorem Fq (S:Sc M X k N ns)(F:Fn M x k' ps mf)(hk:k'<=k)(hg:dc ns x=c_)(hd:(x==("__debug__":Str))=d_) :
  PE X (.Call (.Name x p1) [] [] pos) (tM M.K (mFn mf af)):=by
 obtain⟨f,fd,hm,Zm,hb,F⟩:=F.ex;rw[<-S.hP,<-S.hw,<-S.hK,<-S.hm,<-S.hb]at F;rw[<-S.hm]at hm;rw[<-S.hK]at Zm hb;refine PE.con (BN F (S.room.mono hk) (S.gl hg) hm Zm hb .nil tV hd) λG H Q h=>?_;obtain⟨μ,S,Y,u,S',hr,er,e,kk⟩:=h;exact⟨μ,S,[],u,S',hr,.nil,e,kk⟩
theorem wB(S:Sc M X k N ns)(ho:PE X a (tM M.K ma))(ha:PA X (e::es) (tMA M.K ZV))(ZC:autoParam (attributeBase a "append" X.env (eval a X.env)=eval a X.env) au1._auto_1)
  (Zg:autoParam (((backTo pos (starEach (e::es) X.env)).all (λx => !x.1)&&(backToKw pos (keywordEach [] X.env)).all (λx=>x.1.isSome)
   && decide ((e::es).length+([]:List Keyword).length+(if ([]:List Keyword).isEmpty then 0 else 1)<30))=c_) au1._auto_1)
  (ZD:autoParam ((p1.endLine==pos.line)=c_) au1._auto_1) (hs:autoParam (starEach (e::es) X.env=(d_,eval e X.env)::starEach es X.env) au1._auto_1) (ZQ:autoParam ((backTo pos (starEach es X.env)).any (·.1)=d_) au1._auto_1):
  PE X (.Call (.Attribute a "append" p1) (e::es) [] pos) (tM M.K (mML cW ma ZV)):=PE.con (vT kT PySem.F.slot_list_append PySem.F.type_list_append A1 ho ha ZC Zg ZD hs ZQ) fun _ _ _ h=>S.hK▸IZ AX h
theorem GG(S:Sc M X k N ns)(ho:PE X a (tM M.K ma))(ha:PA X (e::es) (tMA M.K ZV))(ZC:autoParam (attributeBase a "pop" X.env (eval a X.env)=eval a X.env) au1._auto_1)
  (Zg:autoParam (((backTo pos (starEach (e::es) X.env)).all (λx => !x.1)&&(backToKw pos (keywordEach [] X.env)).all (λx=>x.1.isSome)
   && decide ((e::es).length+([]:List Keyword).length+(if ([]:List Keyword).isEmpty then 0 else 1)<30))=c_) au1._auto_1)
  (ZD:autoParam ((p1.endLine==pos.line)=c_) au1._auto_1) (hs:autoParam (starEach (e::es) X.env=(d_,eval e X.env)::starEach es X.env) au1._auto_1) (ZQ:autoParam ((backTo pos (starEach es X.env)).any (·.1)=d_) au1._auto_1):
  PE X (.Call (.Attribute a "pop" p1) (e::es) [] pos) (tM M.K (mML jS ma ZV)):=PE.con (vT kT PySem.F.slot_list_pop PySem.F.type_list_pop Dd ho ha ZC Zg ZD hs ZQ) fun _ _ _ h=>S.hK▸IZ Ei h
theorem MY (S:Sc M X k N ns)(hg:dc ns "range"=c_)(hm:M.mg "range"=b_)(ha:PA X [a] (tMA M.K ZV))(hs:autoParam (starEach [a] X.env=[(d_,eval a X.env)]) au1._auto_1):PI X tg (.Call (.Name "range" p1) [a] [] pos) (xG (tMA M.K ZV)):=
 A6 (S.gl hg) (by rw[S.hm];omega) ha hs
theorem M3 (S:Sc M X k N ns)(hg:dc ns "range"=c_)(hm:M.mg "range"=b_)(ha:PA X [a,b] (tMA M.K ZV))(hs:autoParam (starEach [a,b] X.env=[(d_,eval a X.env),(d_,eval b X.env)]) au1._auto_1)(YW:autoParam (starEach [b] X.env=[(d_,eval b X.env)]) au1._auto_1):PI X tg (.Call (.Name "range" p1) [a,b] [] pos) (wz (tMA M.K ZV)):=
 AH (S.gl hg) (by rw[S.hm];omega) ha hs YW
theorem Oj(S:Sc M X k N ns)(ha:PE X a (tM M.K ma)):PI X tg a (λG H R=>qX M.K (tM M.K ma) G H R\/yZ M.K (tM M.K ma) G H R):=by
 have h:=PI.or (Ae (tg:=tg) ha) (Cw ha);rw[S.hK]at h;omega
def uI(N N':List Str)(ns names:List (Str×NameKind))(xs:List Str):Bool:=
 decide ((names.map (·.1)).Nodup)&&names.all (λy=>if y.2==.free then(match ns.lookup y.1 with |some .cell=>c_ |some .free=>c_ |_=>d_) else c_)&&xs.all (lV names)&&decide N'.Nodup &&
 (N'.length==N.length+xs.length)&&((av xs.length).all λj=>N'[N.length+j]? == xs[j]?)&&(av N.length).all λi=>match N'[i]? with
  |none=>c_
  |some y=>if i7 names y then N[i]? == a_ y&&names.lookup y==a_ .free else c_
def jB(N N':List Str)(ns names:List (Str×NameKind))(x:Str):Bool:=uI N N' ns names [x]
variable{N' xs:List Str}{scope:Scope}
theorem y0(S:Sc M X k N ns)(hk:scope.kind=.function)(h:uI N N' ns scope.names xs=c_):gS X N' scope xs:=by
 unfold uI at h;simp only[ah]at h;obtain⟨⟨⟨⟨⟨⟨h1,h2⟩,h3⟩,h4⟩,h5⟩,h6⟩,h7⟩:=h;refine⟨hk,of_decide_eq_true h1,λy hy e=>?_,λx hx=>?_,of_decide_eq_true h4,?_,λj x hj=>?_,λi y hi e hv=>?_⟩
 .have:=aC.mp h2 y hy
  rw[if_pos (by rw[e];rfl)]at this
  split at this
  .rename_i q;exact .inl (S.cel _ q).1
  .rename_i q;exact S.fre _ q
  grind
 .have h3:=aC.mp h3 x hx
  unfold lV at h3
  split at h3<;>grind
 .rw[S.hN];exact eq_of_beq h5
 .have:=aC.mp h6 j (cj.mpr ((ag.mp hj).1))
  rw[S.hN,eq_of_beq this];omega
 .rw[S.hN]at hi ⊢
  have:=aC.mp h7 i (cj.mpr hi);rw[e]at this;have hvb:i7 scope.names y=c_:=by
   unfold i7;rcases hv with q|q|q<;>rw[q]
  grind
theorem mw(S:Sc M X k N ns)(hk:scope.kind=.function)(h:jB N N' ns scope.names x=c_):gS X N' scope [x]:=y0 S hk h
theorem rN(S:Sc M X k N ns)(C:gS X N' scope xs)(ZZ:g_)(ZW:Hp)(fp:List e_):Sc M (blk X N' scope ZZ ZW fp) k N' scope.names where
 hP:=S.hP
 hw:=S.hw
 hK:=S.hK
 hm:=S.hm
 hb:=S.hb
 hN:=rfl
 nd:=C.ndN
 calm:=S.calm
 loc:=λy h=>lookup_relabel_local h
 cel:=λy h=>⟨kF h,by show(scope.names.lookup y==a_ _)=c_;rw[h];rfl⟩
 fre:=λy h=>km h
 glo:=λy h=>oM h
 room:=S.room
 own:=kW
 cod:=S.cod
variable{iter:Expr}{wi:TI}{mi:MI}
theorem B7{px:Pos}{elt:Expr}{ifs:List Expr}(S:Sc M X k N ns)(hk:scope.kind=.function)(ok:jB N N' ns scope.names x=c_)(hi:PI X (.Name x px) iter wi)
  (ht:∀X',Sc M X' k N' scope.names->PTs X' ifs (tMT M.K mt)) (he:∀X',Sc M X' k N' scope.names->PE X' elt (tM M.K mc)) (hr:∀G H Q,tM M.K (bu mi mt mc) G H Q->lT wi (tMT M.K mt) (tM M.K mc) G H Q)
  (hs:autoParam (∀x,foldedSetIterable iter X.env x=pure x) au3._auto_1):PE X (.ListComp elt [⟨.Name x px,iter,ifs,0⟩] scope pos) (tM M.K (bu mi mt mc)):=by
 have C:=mw S hk ok;exact PE.con (z7 S.calm C hi (λZZ ZW fp=>ht _ (rN S C _ _ fp)) (λZZ ZW fp=>he _ (rN S C _ _ fp)) hs) hr
theorem IQ:PTs X [] (tMT M.K cTT):=PTs.con zZ λG H Q h=>by
 obtain⟨μ,S,Y,b,S',hr,er,e,kk⟩:=h;cases e;exact kk μ H (Pre.refl _) (bh.refl _) hr
theorem LZ(h:PT X c (tMT M.K mt)):PTs X [c] (tMT M.K mt):=GK h
variable {st:Stmt}{sts:List Stmt}{ms Wv:MS}
theorem DL:PSs X [] (tMS M.K bE):=PSs.con GW λ_ _ _ h=>Eh h
theorem tD(h1:PS X st (tMS M.K ms))(h2:PSs X sts (tMS M.K Wv)):PSs X (st::sts) (tMS M.K (aW ms Wv)):=PSs.con (lF h1 h2) λ_ _ _ h=>Np h
theorem BH(h1:PS X st (tMS M.K ms)):PSs X [st] (tMS M.K ms):=qC h1
theorem xl(S:Sc M X k N ns)(i:Nat)(hi:N[i]?=a_ x)(ho:lV ns x=c_)(he:PE X e (tM M.K ma))(hs:autoParam (swapsWith e (a_ (.Name x p1)) pos.line X.env=pure d_) au1._auto_1):PS X (.Assign [.Name x p1] e pos) (tMS M.K (bJ i ma)):=
 PS.con (zc (by rw[S.hN];exact S.nd) (by rw[S.hN];omega) (S.lo ho).1 he hs (S.lo ho).2) λ_ _ _ h=>G9 h
theorem Fd(S:Sc M X k N ns)(ho:PE X a (tM M.K ma))(hi:PE X b (tM M.K mb))(he:PE X e (tM M.K mc))(hs:autoParam (swapsWithSole [.Subscript a b p1] e pos.line X.env=pure d_) au1._auto_1)(hw:autoParam (swappedStores [.Subscript a b p1] e X.env=pure b_) au1._auto_1)
  (h1:autoParam ((assignEach [.Subscript a b p1] X.env).map (·.2)=[assign (.Subscript a b p1) X.env]) au1._auto_1)
  (Vy:autoParam (∀v,assign (.Subscript a b p1) X.env v=(do
   let ov <- holding [v] (eval a X.env)
   let iv <- holding [v,ov] (eval b X.env)
   standAt p1
   holding [v,ov,iv] (setItem ov iv v)
   release [v,ov,iv] [])) au3._auto_1):PS X (.Assign [.Subscript a b p1] e pos) (tMS M.K (jR ma mb mc)):=
 PS.con (CZ he (Dz ho hi (z4 (by have:=S.room.units;omega)) Vy) hs hw h1) λ_ _ _ h=>Fc h
theorem Di(he:PE X e (tM M.K ma))(hs:autoParam (swapsWith e b_ pos.line X.env=pure d_) au1._auto_1):PS X (.Expr e pos) (tMS M.K (dm ma)):=PS.con (zq he hs) λ_ _ _ h=>Ka h
theorem Ab(he:PE X e (tM M.K ma)):PS X (.Return (a_ e) pos) (tMS M.K (bO ma)):=PS.con (Do he) λ_ _ _ h=>ND h
theorem HS{WJ:List Stmt}(hc:PT X c (tMT M.K mt))(ha:PSs X sts (tMS M.K ms))(hb:PSs X WJ (tMS M.K Wv)):PS X (.If c sts WJ pos) (tMS M.K (sIf mt ms Wv)):=PS.con (G3 hc ha hb) λ_ _ _ h=>Os h
theorem Ny(S:Sc M X k N ns)(i:Nat)(hi:N[i]?=a_ x)(ho:lV ns x=c_)(hit:PI X (.Name x p1) iter wi)(hb:PSs X sts (tMS M.K ms))(hr:∀D G H,tMS M.K (fU i mi ms) D G H->yC wi (i2 i) (tMS M.K ms) D G H)
  (hs:autoParam (∀x,foldedSetIterable iter X.env x=pure x) au3._auto_1):PS X (.For (.Name x p1) iter sts [] pos) (tMS M.K (fU i mi ms)):=
 PS.con (JE S.own S.calm hit (zS (by rw[S.hN];exact S.nd) (by rw[S.hN];omega) (S.lo ho).1 (S.lo ho).2) hb hs) hr
theorem E3(S:Sc M X k N ns)(hc:PT X c (tMT M.K mt))(hb:PSs X sts (tMS M.K ms)):PS X (.While c sts [] pos) (tMS M.K (yy mt ms)):=PS.con (CM S.own hc hb) λ_ _ _ h=>Gu h
end
variable{f:e_}{N ps:List Str}{qual:Str}{s:g_}
theorem Sc.def{M:Mo}{scope:Scope}{cdv:f_}{A:Around}{outer:List Env}{E:XK}{k:Nat}(S:aZ N ps scope)(hr:j7 k (A.deeper (envOfC qual scope s.heap.objs.size f cdv)))(h0 :∀ c q,M.mkr=a_ (c,q)->cdv=.ref c/\qual++".<locals>."=q) :
  Sc M (qi CX0 M.P M.w M.K M.mg M.base N qual scope f cdv A outer s H E).nox k N scope.names:=
 ⟨rfl,rfl,rfl,rfl,rfl,rfl,S.nd,rfl,λ_ h=>h,λ_ h=>⟨h,rfl⟩,λ_ h=>.inr h,λ_ h=>h,hr,kW,h0⟩
variable{us:List U}{vs:List V}
theorem mj(r:RUs H μ us vs):ER H μ (us.map a_++bI (N.length-us.length) b_) (_L.start N vs):=by
 unfold _L.start;refine⟨by simp[r.len],λi u h=>?_⟩;by_cases hi:i<us.length
 .rw[aS (by simpa using hi),ba]at h
  cases e:us[i]? with
  |none=>rw[e]at h;cases h
  | some w=>
    rw[e]at h;cases h;obtain⟨v,hv,rv⟩:=r.get e;refine⟨v,?_,rv⟩;rw[aS (by simpa [<-r.len]using hi),ba,hv];rfl
 .rw[bp (by simpa using hi)]at h
  rw[iw]at h
  simp_all
variable{x:Str}
theorem BY{M:Mo}(h0:M.mkr=b_){st:Stmt}{fd:FuncData}{k:Nat}{ms:MS}(F:Fun M.K x qual st f fd)(S:aZ N ps (ar st))
  (hb:∀X,Sc M X k N (ar st).names->PSs X (bG st) (tMS M.K ms)):g9 M.P M.w M.K M.mg M.base CX0 (k+1) f fd ps (spM M.K (run ps.length N.length ms)):=by
 refine F.ok S (λvs H Q E h=>?_) λcdv A outer s H vs Q E hr h=>⟨_,hb _ (Sc.def S hr λc q h=>by grind),?_⟩
 .obtain⟨μ,S',us,u,ZO,hr,rs,e,_⟩:=h
  unfold run at e
  split at e
  .rw[<-rs.len];omega
  .cases e
 .obtain⟨μ,S1,us,u,S2,hr,rs,e,ka⟩:=h
  unfold run at e
  split at e
  .rename_i hl
   have er:=mj (N:=N) rs;rw[hl]at er
   split at e
   .rename_i w Y4 S3 q
    cases e;exact⟨μ,S1,_,_,hr,er,q,ka⟩
   .rename_i Y4 S3 q
    cases e;exact⟨μ,S1,_,_,hr,er,q,λY3 Y1 H' p' k' Zs SJ=>ka _ _ H' p' k' Zs o6⟩
   .cases e
  .cases e
mutual
inductive oS(K:ai)(H:Hp):V->PyData->Prop where
 |non:oS K H .non .none
 |bl (b:Bool):oS K H (.bl b) (.bool b)
 |int (i:Int):oS K H (.int i) (.int i)
 |str (x:Str):oS K H (.str x) (.str x)
 |tup {a:e_}{vs:List V}{ds:List PyData}:SqT K H a vs->kQ K H vs ds->oS K H (.ref a) (.tuple ds)
 |lst {a:e_}{vs:List V}{ds:List PyData}:SqL K H a vs->kQ K H vs ds->oS K H (.ref a) (.list ds)
inductive kQ(K:ai)(H:Hp):List V->List PyData->Prop where
 |nil:kQ K H [] []
 |cons {v:V}{vs:List V}{d:PyData}{ds:List PyData}:oS K H v d->kQ K H vs ds->kQ K H (v::vs) (d::ds)
end
section
variable {X:Cx}{pins:List (e_×Obj)}{G:St}{H:Hp}{s:g_}
mutual
theorem oS.reads(I:Inv X pins G H s):∀{v:V}{d:PyData}{w:f_},oS X.K H v d->RelV v w->∃as,Reads s.heap w d as
 |_,_,_,.non,r=>⟨[],by cases (show _=ql from r);exact .none⟩
 |_,_,_,.bl b,r=>⟨[],by cases (show _=Value.bool b from r);exact .bool b⟩
 | _,_,_,.int i,r=>by
   obtain⟨t,e⟩:=(show ∃t,_=Value.int i t from r);subst e;exact⟨[],.int i t⟩
 | _,_,_,.str x,r=>by
   obtain⟨t,e⟩:=(show ∃t,_=Value.str x t from r);subst e;exact⟨[],.str x t⟩
 | _,_,_,.tup (a:=a) h rs,r=>by
   cases (show _=eA a from r);obtain⟨ZX,rv,⟨o,e,c,n,dt⟩,_⟩:=I.tuple h;obtain⟨as,q⟩:=kQ.reads I rs rv;exact⟨as,.tuple e c dt q⟩
 | _,_,_,.lst (a:=a) h rs,r=>by
   cases (show _=eA a from r);obtain⟨ZX,rv,⟨o,n,e,c,dd,dt⟩,_⟩:=I.list h;obtain⟨as,q⟩:=kQ.reads I rs rv;exact⟨a::as,.list e c dt q⟩
theorem kQ.reads(I:Inv X pins G H s):∀{vs:List V}{ds:List PyData}{ws:List f_},kQ X.K H vs ds->cf vs ws->∃as,ReadsAll s.heap ws ds as
 |_,_,_,.nil,r=>by cases r;exact⟨[],.nil⟩
 | _,_,_,.cons h rs,r=>by
   cases r with
   | cons r1 r2=>
     obtain⟨as,q⟩:=oS.reads I h r1;obtain⟨bs,q'⟩:=kQ.reads I rs r2;exact⟨as++bs,.cons q q'⟩
end
end
theorem oz{α β:Type}{f:α->Option β}{P:α->β->Prop}(hf:∀x y,f x=a_ y->P x y):∀{xs:List α}{ys:List β},c9 f xs=a_ ys->Paired P xs ys
 |[],ys,h=>by cases h;exact .nil
 | x::xs,ys,h=>by
   unfold c9 at h;cases e:f x with
   |none=>grind
   | some y=>
     rw[e]at h;cases e2:c9 f xs with
     |none=>simp_all
     | some zs=>
       rw[e2]at h;cases h;exact .cons (hf x y e) (oz hf e2)
theorem qu{f:Nat}:∀{us:List U}{ds:List PyData},Paired (λ(_:U) (d:PyData)=>d.canLay0=c_/\d.depth<=f) us ds->kO ds=c_/\mM ds<=f
 |_,_,.nil=>⟨by simp[kO],by simp[mM]⟩
 | _,_,.cons h t=>by
   obtain⟨a,b⟩:=qu t;exact⟨by simp[kO,h.1,a],Nat.max_le.mpr ⟨h.2,b⟩⟩
section
variable {K:KX}{H:Hp}{μ:List e_}{S:Sto}
theorem qE{f:Nat}(hr:HR K μ S H)(ih:∀(u:U) (d:PyData),toD S f u=a_ d->∀v,RU H μ u v->oS K H v d):∀{us:List U}{ds:List PyData},c9 (toD S f) us=a_ ds->∀{vs:List V},RUs H μ us vs->kQ K H vs ds
 |[],ds,h,vs,r=>by cases h;rw[r.nil_inv];exact .nil
 | u::us,ds,h,vs,r=>by
   unfold c9 at h;cases e:toD S f u with
   |none=>grind
   | some y=>
     rw[e]at h;cases e2:c9 _ us with
     |none=>rw[e2]at h;cases h
     | some zs=>
       rw[e2]at h;cases h;obtain⟨v,r',rfl,a,b⟩:=r.inv;exact .cons (ih u y e v a) (qE hr ih e2 b)
theorem qD(hr:HR K μ S H):∀(f:Nat) (u:U) (d:PyData),toD S f u=a_ d->∀v,RU H μ u v->oS K H v d
 |0,u,d,h,v,r=>by cases u<;>cases h
 |f+1,.non,d,h,v,r=>by cases h;rw[show v=.non by simpa only [RU]using r];exact .non
 |f+1,.bl b,d,h,v,r=>by cases h;rw[jf r];exact .bl b
 |f+1,.int i,d,h,v,r=>by cases h;rw[cR r];exact .int i
 | f+1,.str x,d,h,v,r=>by
   unfold toD at h
   split at h
   .cases h;rw[show v=.str x by simpa only [RU]using r];exact .str x
   grind
 | f+1,.tup us,d,h,v,r=>by
   unfold toD at h;cases e:c9 _ us with
   |none=>rw[e]at h;cases h
   | some ds=>
     rw[e]at h;cases h;obtain⟨a,vs,rfl,ha,rs⟩:=iP r;exact .tup (.inl (.inl ha)) (qE hr (qD hr f) e rs)
 | f+1,.ref n,d,h,v,r=>by
   unfold toD at h;cases e0:getL S n with
   |none=>grind
   | some us=>
     rw[e0]at h;simp only[ay]at h;cases e:c9 _ us with
     |none=>rw[e]at h;cases h
     | some ds=>
       rw[e]at h;cases h;obtain⟨a,rfl,ha⟩:=eQ r;obtain⟨a',vs,Z9,hs,rs⟩:=hr.sq e0;rw[ha]at Z9;cases Z9;exact .lst hs (qE hr (qD hr f) e rs)
 |f+1,.obj a,d,h,v,r=>by cases h
end
theorem qy(S:Sto):∀(f:Nat) (u:U) (d:PyData),toD S f u=a_ d->d.canLay0=c_/\d.depth<=f
 |0,u,d,h=>by cases u<;>cases h
 |f+1,.non,d,h=>by cases h;exact⟨by simp[iG],by simp[qJ]⟩
 |f+1,.bl b,d,h=>by cases h;exact⟨by simp[iG],by simp[qJ]⟩
 |f+1,.int i,d,h=>by cases h;exact⟨by simp[iG],by simp[qJ]⟩
 | f+1,.str x,d,h=>by
   unfold toD at h
   split at h
   .rename_i q;cases h;exact⟨q,by simp[qJ]⟩
   grind
 | f+1,.tup us,d,h=>by
   unfold toD at h;cases e:c9 _ us with
   |none=>rw[e]at h;cases h
   | some ds=>
     rw[e]at h;cases h;obtain⟨a,b⟩:=qu (oz (λx y q=>qy S f x y q) e);exact⟨by simpa [iG]using a,Nat.lt_succ_of_le (by omega)⟩
 | f+1,.ref n,d,h=>by
   unfold toD at h;cases e0:getL S n with
   |none=>simp_all
   | some us=>
     rw[e0]at h;simp only[ay]at h;cases e:c9 _ us with
     |none=>rw[e]at h;cases h
     | some ds=>
       rw[e]at h;cases h;obtain⟨a,b⟩:=qu (oz (λx y q=>qy S f x y q) e);exact⟨by simpa [iG]using a,Nat.lt_succ_of_le (by omega)⟩
 |f+1,.obj a,d,h=>by cases h
def jz(K:ai)(H:Hp)(v:V)(d:PyData):Prop:=oS K H v d/\d.canLay0=c_/\d.depth<=40
def Lm(K:ai):R2:=λx y H Q=>∃a b,jz K H x a/\jz K H y b/\Q (.bl (eJ a b)) H
def NW(K:ai):R2:=λx y H Q=>∃a b,jz K H x a/\jz K H y b/\Q (.bl (!eJ a b)) H
variable{d:PyData}
theorem eF{K:ai}(h:jz K H v d):jZ d=c_:=by
 unfold jZ;rw[h.2.1,decide_eq_true (aA h.2.2 (by decide))];rfl
section
variable {X:Cx}
theorem BR(hu:X.A.units+64<cLine):OpR X (compareOp .Eq) (Lm X.K):=by
 intro pins s G H x y v u Q I rx ry h;obtain⟨a,b,ha,hb,q⟩:=h;obtain⟨as,r1⟩:=ha.1.reads I rx;obtain⟨bs,r2⟩:=hb.1.reads I ry;exact SeqAt.compareEq_shaped r1 r2 (eF ha) (eF hb) hu ⟨.bl _,H,I,rfl,q⟩
theorem Jd(hu:X.A.units+64<cLine):OpR X (compareOp .NotEq) (NW X.K):=by
 intro pins s G H x y v u Q I rx ry h;obtain⟨a,b,ha,hb,q⟩:=h;obtain⟨as,r1⟩:=ha.1.reads I rx;obtain⟨bs,r2⟩:=hb.1.reads I ry;exact SeqAt.compareNe_shaped r1 r2 (eF ha) (eF hb) hu ⟨.bl _,H,I,rfl,q⟩
end
section
variable {K:KX}{μ:List e_}{S:Sto}{H:Hp}
theorem pV(hr:HR K μ S H)(r:RU H μ u v)(h:toD S 40 u=a_ d):jz K H v d:=⟨qD hr 40 u d h v r,qy S 40 u d h⟩
theorem zA{x y:U}{b:Bool}(h:eqU S x y=a_ b):∃a c,toD S 40 x=a_ a/\toD S 40 y=a_ c/\b=eJ a c:=by
 unfold eqU at h;cases e1:toD S 40 x with
 |none=>simp_all
 | some a=>
   cases e2:toD S 40 y<;>grind
theorem Hl:OpU K (Lm K) oEq:=by
 intro μ S H x y vx vy u S' Q hr rx ry e a;unfold oEq at e;cases q:eqU S x y with
 |none=>rw[q]at e;cases e
 | some b=>
   rw[q]at e;cases e;obtain⟨d1,d2,e1,e2,rfl⟩:=zA q;exact⟨d1,d2,pV hr rx e1,pV hr ry e2,a.now hr hG⟩
theorem Mh:OpU K (NW K) oNe:=by
 intro μ S H x y vx vy u S' Q hr rx ry e a;unfold oNe at e;cases q:eqU S x y with
 |none=>rw[q]at e;cases e
 | some b=>
   rw[q]at e;cases e;obtain⟨d1,d2,e1,e2,rfl⟩:=zA q;exact⟨d1,d2,pV hr rx e1,pV hr ry e2,a.now hr hG⟩
end
def Mf(K:ai):V->Option Int->Option Int->Hp->VK->Prop:=λx lo hi H Q=>∃a xs,x=.ref a/\SqT K H a xs /\
 (HT.sIx xs.length 0 lo=0/\HT.sIx xs.length xs.length hi=xs.length)/\Q (.ref a) H
theorem CW:SlR X (Mf X.K):=by
 intro pins s G H x v vl vu lo hi sl Q I rx hs pl pu h;obtain⟨a,xs,rfl,hx,hw,q⟩:=h;cases rx;obtain⟨ZX,r,ht,hz⟩:=I.tuple hx;have hlen:ZX.toArray.size=xs.length:=r.length.symm;exact⟨_,_,PyProof.Rows.slot_tuple_getitem.lookup,ht.typeIs,(HT.getItem_tuple_whole ht hs pl pu (by rw[hlen];omega) ⟨.ref a,H,I,rfl,q⟩)⟩
def rSl(K:ai):V->Option Int->Option Int->Hp->VK->Prop:=λx lo hi H Q=>Ld K x lo hi H Q\/(Mf K x lo hi H Q\/Oc K x lo hi H Q)
theorem IL:SlR X (rSl X.K):=SlR.or KE (SlR.or CW GN)
def tO(K:KX):Option ME->TO
 |none=>zN
 |some m=>Hf (tM K m)
theorem zP(r:RUs H μ us vs)(lo hi:Option Int):RUs H μ (cut us lo hi) (AD vs lo hi):=by
 unfold cut AD;rw[r.len];exact(r.drop _).take _
section
variable {K:KX}{G:St}{H:Hp}{Q:VK}
theorem um{a:Option ME}{S S1:Sto}{o:Option Int}{Q:Option Int->Hp->Prop}(hr:HR K μ S H)(er:ER H μ Y G)(e:tI a Y S=a_ (o,S1))
  (k:∀Y0 H1,Pre μ Y0->bh H H1->HR K Y0 S1 H1->Q o H1):tO K a G H Q:=by
 cases a with
 |none=>cases e;exact k μ H (Pre.refl _) (bh.refl _) hr
 | some m=>
   obtain⟨x,S2,e1,e⟩:=aK (show bnd (m Y S) (λx S1=>match x with
    |.int i=>a_ (a_ i,S1)
    | _=>b_)=a_ _ from e)
   split at e
   .cases e
    exact⟨μ,S,Y,_,_,hr,er,e1,λY0 v H1 p1 k1 ZY rx=>⟨_,cR rx,k _ H1 p1 k1 ZY⟩⟩
   .cases e
theorem E9{a:ME}{lo hi:Option ME}(h:tM K (mSl a lo hi) G H Q):tSl (rSl K) (tM K a) (tO K lo) (tO K hi) G H Q:=by
 obtain⟨μ,S,Y,u,S',hr,er,e,k⟩:=h;obtain⟨x,S1,e1,e⟩:=aK e;obtain⟨l,S2,e2,e⟩:=aK e;obtain⟨r,S3,e3,e⟩:=aK e;refine⟨μ,S,Y,x,S1,hr,er,e1,λY0 vx H1 p1 k1 ZY rx=>?_⟩;refine um ZY (er.mono k1 p1) e2 λY5 H2 p2 k2 ZU=>?_;refine um ZU (er.mono (k1.trans k2) (p1.trans p2)) e3 λG' H3 p3 k3 ZM=>?_;have k':=k.mono (p1.trans (p2.trans p3)) (k1.trans (k2.trans k3));have WR:=RU.mono (k2.trans k3) (p2.trans p3) _ _ rx;cases x with
 | tup us=>
   cases e;obtain⟨p,vs,rfl,hp,rs⟩:=iP WR;by_cases hw:HT.sIx vs.length 0 l=0/\HT.sIx vs.length vs.length r=vs.length
   .refine .inr (.inl ⟨p,vs,rfl,.inl (.inl hp),hw,k'.now ZM ?_⟩)
    have e4:cut us l r=us:=by
     unfold cut;rw[rs.len,hw.1,hw.2];simp[<-rs.len]
    grind
   .refine .inl ⟨p,vs,rfl,.inl (.inl hp),hw,λt ht=>?_⟩
    refine k' _ _ _ (Pre.refl _) (bh.new ht) (ZM.tup ht) (ly cx (RUs.mono (bh.new ht) (Pre.refl _) _ _ (zP rs l r)))
 | ref n=>
   simp only at e;cases q:getL S3 n with
   |none=>rw[q]at e;cases e
   | some us=>
     rw[q]at e;cases e;obtain⟨p,rfl,hp⟩:=eQ WR;obtain⟨p',vs,ZG,hs,rs⟩:=ZM.sq q;rw[hp]at ZG;cases ZG;exact .inr (.inr ⟨p,vs,rfl,hs,λt ht=>ky k' ZM (zP rs l r) ht⟩)
 |_=>cases e
end
section
variable {M:Mo}{X:Cx}{k:Nat}{N:List Str}{ns:List (Str×NameKind)}{a b c e:Expr}{es:List Expr}{ma mb mc:ME}{mt:MT}{ZV:MA}{pos p1 p2:Pos}{x:Str}
inductive lQ(M:Mo)(X:Cx):Option Expr->Option ME->Prop where
 |none:lQ M X .none .none
 |some {e:Expr}{m:ME}:PE X e (tM M.K m)->lQ M X (.some e) (.some m)
theorem lQ.po{lo:Option Expr}{m:Option ME}(h:lQ M X lo m):PO X lo (tO M.K m):=by
 cases h with
 |none=>exact Fe
 |some h=>exact Fw h
theorem Og{lo hi:Option Expr}{ml mh:Option ME}(S:Sc M X k N ns)(ha:PE X a (tM M.K ma))(hl:lQ M X lo ml)(hh:lQ M X hi mh):PE X (.Subscript a (.Slice lo hi b_ p2) pos) (tM M.K (mSl ma ml mh)):=
 PE.con (wc (S.hK▸IL) ha hl.po hh.po) λ_ _ _ h=>E9 h
theorem Nx(S:Sc M X k N ns)(ha:PE X a (tM M.K ma))(hb:PE X b (tM M.K mb))(hm:behindInMarks .Eq b=d_):PE X (.Compare a [.Eq] [b] pos) (tM M.K (m2 oEq ma mb)):=
 PE.con (zQ (S.hK▸BR S.room.units) ha hb hm) λ_ _ _ h=>qc Hl h
end
def gv(a b:ME):ME:=λY S=>bnd (a Y S) λx S1=>match x with
 |.bl c_=>b Y S1
 |.bl d_=>a_ (.bl d_,S1)
 |_=>b_
def mOr(a b:ME):ME:=λY S=>bnd (a Y S) λx S1=>match x with
 |.bl c_=>a_ (.bl c_,S1)
 |.bl d_=>b Y S1
 |_=>b_
def rQ:U->Sto->Res U:=λx S=>match x with
 |.bl b=>a_ (.bl (!b),S)
 |_=>b_
section
variable {K:KX}{G:St}{H:Hp}{Q:VK}
theorem Ju{a b:ME}(h:tM K (gv a b) G H Q):HI (tM K a) (tM K b) G H Q:=by
 obtain⟨μ,S,Y,u,S',hr,er,e,k⟩:=h;obtain⟨x,S1,e1,e⟩:=aK e;refine⟨μ,S,Y,x,S1,hr,er,e1,λY0 vx H1 p1 k1 ZY rx=>?_⟩
 split at e
 .exact⟨_,jf rx,pQ ⟨_,S1,Y,u,S',ZY,er.mono k1 p1,e,k.mono p1 k1⟩⟩
 .cases e
  exact⟨_,jf rx,qQ (k _ _ H1 p1 k1 ZY hG)⟩
 .cases e
theorem My{a b:ME}(h:tM K (mOr a b) G H Q):Ln (tM K a) (tM K b) G H Q:=by
 obtain⟨μ,S,Y,u,S',hr,er,e,k⟩:=h;obtain⟨x,S1,e1,e⟩:=aK e;refine⟨μ,S,Y,x,S1,hr,er,e1,λY0 vx H1 p1 k1 ZY rx=>?_⟩
 split at e
 .cases e
  exact⟨_,jf rx,pQ (k _ _ H1 p1 k1 ZY hG)⟩
 .exact⟨_,jf rx,qQ ⟨_,S1,Y,u,S',ZY,er.mono k1 p1,e,k.mono p1 k1⟩⟩
 .cases e
theorem JK{a:ME}(h:tM K (m1 rQ a) G H Q):G5 (tM K a) G H Q:=by
 obtain⟨μ,S,Y,u,S',hr,er,e,k⟩:=h;obtain⟨x,S1,e1,e⟩:=aK e;refine⟨μ,S,Y,x,S1,hr,er,e1,λY0 vx H1 p1 k1 ZY rx=>?_⟩;unfold rQ at e
 split at e
 .cases e
  exact⟨_,jf rx,k _ _ H1 p1 k1 ZY hG⟩
 .cases e
end
section
variable {X:Cx}{a b:Expr}{ta:TA}{p pos:Pos}
def Hr(ta:TA):TE:=λG H Q=>ta G H λvs H1=>∃i j:Int,vs=[.int i,.int j]/\(-(2^62)<=i/\i<2^62 /\ -(2^62)<=j/\j<2^62) /\ ∀r,H1 r=b_->Q (.ref r) (upd H1 r (.rng i j))
theorem CL{pins:List (e_×Obj)}{lo hi:Int}{t u v:Tok}{tk:Nat}(I:Inv X pins G H s)(q:∀r,H r=b_->Q (.ref r) (upd H r (.rng lo hi))):
  EP X pins G Q (.ref s.heap.objs.size) { s with heap:=s.heap.push { cls := .type "range",data := .fields #[.int lo t,.int hi u,.int 1 v] },toks:=tk }:=by
 refine⟨.ref _,_,I.laid (λb ob q=>aw _ q) (ao _) ?_,rfl,q _ (I.hok.fresh (ao _))⟩;exact⟨t,u,v,aI _ rfl⟩
theorem Gi(hg:Gl X "range")(hm:X.mg "range"=b_)(ha:PA X [a,b] ta)(hs:autoParam (starEach [a,b] X.env=[(d_,eval a X.env),(d_,eval b X.env)]) au1._auto_1)(YW:autoParam (starEach [b] X.env=[(d_,eval b X.env)]) au1._auto_1) :
  PE X (.Call (.Name "range" p) [a,b] [] pos) (Hr ta):=by
 intro pins s G H Q I h;refine Call_ (lK I hg hm boot_range (fe (thn (ha _ _ s G H _ I h) λus s1 ⟨vs,H1,I1,r1,q1⟩=>?_) (by rw[hs,YW]) (by rw[YW];rfl)));obtain⟨i,j,e,⟨q1,q2,q3,q4⟩,q⟩:=q1;subst e;cases r1 with
 | cons r rr=>
   cases rr with
   | cons r' rr=>
     cases rr;obtain⟨t,rfl⟩:=r;obtain⟨t',rfl⟩:=r';exact call_range_2 (CL I1 q)
theorem zv:∀{xs:List V}{us:List f_},xs.length=us.length->(∀(i:Nat) (x:V) (u:f_),xs[i]?=a_ x->us[i]?=a_ u->RelV x u)->cf xs us
 |[],[],_,_=>.nil
 |[],_::_,h,_=>by simp at h
 |_::_,[],h,_=>by simp at h
 |x::xs,u::us,h,k=>.cons (k 0 x u rfl rfl) (zv (by simpa using h) λi y w h1 h2=>k (i+1) y w (by simpa using h1) (by simpa using h2))
def uZ(i:Int)(n:Nat):List V:=(av n).map λ(k:Nat)=>.int (i+k)
theorem sR(hc:X.calm=c_):gE X (.type "list") (fun xs H Q=>∃ r lo hi,xs=[.ref r]/\H r=a_ (.rng lo hi)/\(-(2^62)<=lo/\lo<2^62 /\ -(2^62)<=hi/\hi<2^62)/\(hi-lo).toNat<=sizeLine /\ ∀ l,H l=b_->Q (.ref l) (upd H l (.lst (uZ lo (hi-lo).toNat)))):=by
 intro pins s G H xs us Q I rs h;obtain⟨r,lo,hi,rfl,hr,⟨h1,h2,h3,h4⟩,hz,q⟩:=h;cases rs with
 | cons r1 rr=>
   cases rr;cases (r1);obtain⟨t,u,v,e⟩:=I.hok r _ hr;refine call_list_range (I.ok.hd hc) e (small_one h1 h2 h3 h4) (by rw[rangeSize_one];grind) (hz) λh' tk acc c' hk hl VB=>?_;obtain⟨YT,hit⟩:=VB;refine⟨.ref _,_,I.laid hk (ao _) ?_,rfl,q _ (I.hok.fresh (ao _))⟩;refine⟨by rw[uZ,aj,dH];omega,_,c',?_,by omega⟩;refine zv (by rw[uZ,aj,dH,jL,YT]) λi x w h5 h6=>?_;have ZN:=by
    have:=(ag.mp h5).1;rwa[uZ,aj,dH]at this
   have hx:(uZ lo (hi-lo).toNat)[i]?=a_ (.int (lo+i)):=by simp[uZ,ZN]
   rw[hx]at h5;cases h5;obtain⟨t',e'⟩:=hit i w (by simpa using h6);exact⟨t',by rw[e'];simp⟩
end
theorem F6(i:Int)(n:Nat):RUs H μ (aU i n) (uZ i n):=by
 unfold aU uZ
 induction n with
 |zero=>simpa using RUs.nil
 |succ n ih=>rw[vF,cN,cN];exact ih.append (.cons eU .nil)
section
variable {K:KX}{G:St}{H:Hp}{Q:VK}
def rLR:List V->Hp->VK->Prop:=λxs H Q=>∃r lo hi,xs=[.ref r]/\H r=a_ (.rng lo hi)/\(-(2^62)<=lo/\lo<2^62 /\ -(2^62)<=hi/\hi<2^62)/\(hi-lo).toNat<=sizeLine /\ ∀l,H l=b_->Q (.ref l) (upd H l (.lst (uZ lo (hi-lo).toNat)))
theorem HR.rng{μ:List e_}{S:Sto}{p:e_}{i j:Int}(h:HR K μ S H)(hp:H p=b_):HR K μ S (upd H p (.rng i j)):=by
 have kp:bh H (upd H p (.rng i j)):=bh.new hp;refine⟨h.len,h.inj,λm c b q1 q2=>(h.cell m c b q1 q2).mono kp (Pre.refl _) (λhc=>?_) λo u hf=>?_,h.ext.upd kp (Pre.refl _) λo1 q=>by grind⟩
 .obtain⟨o,e,_⟩:=(h.cell m _ b q1 q2).has hc
  exact bc (bg e hp)
 .rw[bc (bg hf hp)];omega
theorem GF{S1:Sto}{i j:Int}{r:e_}(ZY:HR K μ S1 H)(ho:okR i/\okR j)(hz:(aU i (j-i).toNat).length<=big)(k:Aft K μ H (.ref S1.length) (S1++[.lst (aU i (j-i).toNat)]) Q)(Yv:H r=b_):rLR [.ref r] (upd H r (.rng i j)) Q:=by
 refine⟨r,i,j,rfl,cx,⟨ho.1.1,ho.1.2,ho.2.1,ho.2.2⟩,?_,λl hl=>?_⟩
 .unfold aU big at hz;rw[aj,dH]at hz;exact hz
 .exact ky (k.mono (Pre.refl _) (bh.new Yv)) (ZY.rng Yv) (F6 _ _) hl
theorem BF{a:MA}(h:tM K (nB (iR2 a)) G H Q):tCB rLR (vK (Hr (tMA K a)) Dv) G H Q:=by
 obtain⟨μ,S,Y,u,S',hr,er,e,k⟩:=h;obtain⟨src,S1,e1,e⟩:=aK e;obtain⟨xs,S2,e2,e1⟩:=aK e1;refine⟨μ,S,Y,xs,S2,hr,er,e2,λY0 vs H1 p1 k1 ZY rs=>?_⟩
 split at e1
 .rename_i i j
  split at e1
  .rename_i hj
   cases e1;simp only at e
   split at e
   .rename_i hz
    cases e;obtain⟨v,r,rfl,rx,rs⟩:=rs.inv;obtain⟨w,r,rfl,ry,rn⟩:=rs.inv;rw[rn.nil_inv,cR rx,cR ry];exact⟨i,j,rfl,⟨hj.1.1,hj.1.2,hj.2.1,hj.2.2⟩,λr Yv=>GF ZY hj hz (k.mono p1 k1) Yv⟩
   .cases e
  .cases e1
 .cases e1
end
def nM:List String := ["NoneType","bool","int","str","list","tuple","dict"]
def kq:List String := ["bool","int","str","list","tuple","dict"]
theorem Js(K:ai){t T:String}(ht:t∈nM)(hT:T∈kq):b9 K (.type t) (.type T)=a_ (DU t T):=by
 simp[nM,kq]at ht hT;rcases ht with rfl|rfl|rfl|rfl|rfl|rfl|rfl<;>rcases hT with rfl|rfl|rfl|rfl|rfl|rfl<;>first|rfl|grind
theorem Cd :gE X (.builtin "isinstance") (fun xs H Q=>∃ x t T,xs=[x,.ty T]/\nj X.K H x (.type t)/\t∈nM/\T∈kq/\Q (.bl (DU t T)) H):=by
 intro pins s G H xs us Q I rs h;obtain⟨x,t,T,rfl,ty,ht,hT,q⟩:=h;cases rs with
 | cons r1 rr=>
   cases rr with
   | cons r2 rr=>
     cases rr;cases (r2);exact AB I r1 ty (Js _ ht hT) λtk=>⟨.bl _,H,I.tok _,rfl,q⟩
variable{S:Sto}
theorem Nc{x:U}{t:String}(hr:HR K μ S H)(r:RU H μ x v)(e:tyU S x=a_ t):nj K H v (.type t)/\t∈nM:=by
 unfold tyU at e
 split at e
 .cases e;rw[show v=.non by simpa only [RU]using r];exact⟨.non,by decide⟩
 .cases e;rw[jf r];exact⟨.bl _,by decide⟩
 .cases e;rw[cR r];exact⟨.int _,by decide⟩
 .cases e;rw[show v=.str _ by simpa only [RU]using r];exact⟨.str _,by decide⟩
 .cases e;obtain⟨a,vs,rfl,ha,_⟩:=iP r;exact⟨.tup ha,by decide⟩
 .split at e
  .rename_i q
   cases e;obtain⟨a,rfl,ha⟩:=eQ r;obtain⟨vs,e1,_⟩:=hr.cell _ _ a q ha;exact⟨.lst e1,by decide⟩
  .rename_i q
   cases e;obtain⟨a,rfl,ha⟩:=eQ r;obtain⟨vs,e1,_⟩:=hr.cell _ _ a q ha;exact⟨.dK e1,by decide⟩
  .cases e
 .cases e
variable{a:ME}
theorem Mu{H:Hp}{Q:VK}{T:String}(hT:T∈kq)(h:tM K (m1 (fg T) a) G H Q):
  tCB (λxs H Q=>∃x t T,xs=[x,.ty T]/\nj K H x (.type t)/\t∈nM/\T∈kq/\Q (.bl (DU t T)) H) (vK (tM K a) (vK (tC (.ty T)) Dv)) G H Q:=by
 obtain⟨μ,S,Y,u,S',hr,er,e,k⟩:=h;obtain⟨x,S1,e1,e⟩:=aK e;refine⟨μ,S,Y,x,S1,hr,er,e1,λY0 vx H1 p1 k1 ZY rx=>?_⟩;unfold fg at e;cases q:tyU S1 x with
 |none=>rw[q]at e;cases e
 | some t=>
   rw[q]at e;cases e;obtain⟨ty,ht⟩:=Nc ZY rx q;exact⟨vx,t,T,rfl,ty,ht,hT,k _ _ H1 p1 k1 ZY hG⟩
def B5(S:Sto)(x:U)(us:List U):Option Nat:=(c9 (toD S 39) us).bind λds=>(toD S 40 x).bind λd=>ds.findIdx? λy=>eJ y d
def ku:List U->List U->Sto->Res U:=λus xs S=>match xs with
 |[x]=>(B5 S x us).map λk=>(.int k,S)
 |_=>b_
def La(K:ai)(to:TE)(t:TA):TE:=λG H Q=>to G H λx H1=>(∃p ys,x=.ref p/\H1 p=a_ (.tup ys))/\t G H1 λxs H2=>∃p ys v ds d j,x=.ref p/\xs=[v]/\H2 p=a_ (.tup ys) /\
 kQ K H2 ys ds/\kO ds=c_/\mM ds<=40/\jz K H2 v d/\ds.findIdx? (λy=>eJ y d)=a_ j/\Q (.int j) H2
theorem CN{o:Expr}{es:List Expr}{to:TE}{t:TA}{apos cpos:Pos}(hu:X.A.units+64<cLine)(ho:PE X o to)(ha:PA X (e::es) t)
  (ZC:autoParam (attributeBase o "index" X.env (eval o X.env)=eval o X.env) au1._auto_1)
  (Zg:autoParam (((backTo cpos (starEach (e::es) X.env)).all (λx => !x.1)&&(backToKw cpos (keywordEach [] X.env)).all (λx=>x.1.isSome)
   && decide ((e::es).length+([]:List Keyword).length+(if ([]:List Keyword).isEmpty then 0 else 1)<30))=c_) au1._auto_1)
  (ZD:autoParam ((apos.endLine==cpos.line)=c_) au1._auto_1) (hs:autoParam (starEach (e::es) X.env=(d_,eval e X.env)::starEach es X.env) au1._auto_1) (Ze:autoParam ((backTo cpos (starEach es X.env)).any (·.1)=d_) au1._auto_1):
  PE X (.Call (.Attribute o "index" apos) (e::es) [] cpos) (La X.K to t):=by
 intro pins s G H Q I h;refine wpAny_Call_method_late ZC Zg ZD rfl (thn (ho pins s G H _ I h) λv s1 ⟨x,H1,I1,r1,⟨p,ys,hx,hp⟩,q1⟩=>?_);subst hx;cases (r1);obtain⟨_,ZX,rv,⟨o1,e1,c1,n1,d1⟩,o2,e2,c2⟩:=I1.hok p _ hp;refine⟨"tuple",_,PySem.F.plainAttrs_tuple,xQ,PySem.F.type_tuple_index,⟨o1,e1,c1⟩,fun a ea=>by cases ea;exact⟨o2,e2,c2⟩,?_⟩;have hA:=ha cpos pins s1 G H1 _ I1 q1;rw[hs]at hA ⊢;refine Bt (by show(d_||(backTo cpos _).any (·.1))=d_;rw[Ze]<;>rfl) (jq ?_);refine thn hA λus s2 ⟨vs,H2,I2,r2,q2⟩=>?_;obtain⟨p',ys',v',ds,d,j,hx,Wl,ZG,rd,hl,hdp,hd,hj,q⟩:=q2;cases hx;subst Wl;cases r2 with
 | cons ra rr=>
   cases rr;obtain⟨_,Zi,WH,⟨⟨cls,dd,data,sl⟩,e3,c3,n3,d3⟩,_⟩:=I2.hok p _ ZG;subst c3 d3;obtain⟨as,VY⟩:=rd.reads I2 WH;obtain⟨bs,R1⟩:=hd.1.reads I2 ra;have hlen:=SeqAt.ReadsAll.length _ _ _ VY;have Vg:j<ds.length:=by
    obtain⟨h1,_⟩:=eu.mp hj;exact h1
   have Xg:∀(m:Nat) (h1:m<Zi.length) (h2:m<ds.length),SeqAt.readOf s2.heap Zi[m]=ds[m]:=λm h1 h2=>by
    have:=congrArg (λl=>l[m]?) (SeqAt.readsAll_map ds _ _ hl VY);simp[h1,h2]at this;exact this
   obtain⟨h1,h2,h3⟩:=eu.mp hj;refine call_meets xQ ⟨_,e3,rfl⟩ PySem.F.entry_tuple_index (PySem.F.args_tuple_index_2 _ _)
    (su p _ n3 dd sl _ _ j (by rw[bU];omega) ?_ ?_) ⟨e3,(SeqAt.items_eqAt (A:=X.A) (by simpa using VY) R1 hl hd.2.1 (by have:=Nat.min_le_left (mM ds) d.depth;omega)),?_⟩
   .simp only[EL,(Xg j (by omega) Vg)];exact h2
   .intro m hm Wi
    simp only[EL,(Xg m hm (dQ (by assumption) (by assumption)))];simpa using h3 m Wi
   .exact⟨.int j,H2,I2.tok _,⟨_,rfl⟩,q⟩
variable{o:ME}
theorem FG{a:MA}(h:tM K (mMT ku o a) G H Q):La K (tM K o) (tMA K a) G H Q:=by
 obtain⟨μ,S,Y,u,S',hr,er,e,k⟩:=h;obtain⟨x,S1,e1,e⟩:=aK e;refine⟨μ,S,Y,x,S1,hr,er,e1,λY0 vx H1 p1 k1 ZY rx=>?_⟩;cases x with
 | tup us=>
   obtain⟨xs,S2,e2,e⟩:=aK e;obtain⟨p,vs,rfl,hp,rs⟩:=iP rx;refine⟨⟨p,vs,rfl,hp⟩,_,S1,Y,xs,S2,ZY,er.mono k1 p1,e2,λY5 ws H2 p2 k2 ZU rws=>?_⟩;unfold ku at e
   split at e
   .rename_i x
    obtain⟨v,r,rfl,SE,rn⟩:=rws.inv;rw[rn.nil_inv];cases q:B5 S2 x us with
    |none=>rw[q]at e;cases e
    | some j=>
      rw[q]at e;cases e;unfold B5 at q;cases q1:c9 _ us with
      |none=>rw[q1]at q;cases q
      | some ds=>
        rw[q1]at q;cases q2:toD S' 40 x with
        |none=>simp_all
        | some d=>
          rw[q2]at q;obtain⟨l1,l2⟩:=qu (oz (λx y z=>qy S' 39 x y z) q1);exact⟨p,vs,v,ds,d,j,rfl,rfl,k2 p vs hp,qE ZU (qD ZU 39) q1 (RUs.mono k2 p2 _ _ rs),l1,aA (by omega) (by decide),pV ZU SE q2,q,k _ _ H2 (p1.trans p2) (k1.trans k2) ZU eU⟩
   .cases e
 |_=>cases e
theorem zD{h h':Heap}{o:Obj}(hk:∀b x,b ∉ [h.objs.size]->(h.push o).get? b=a_ x->h'.get? b=a_ x):∀b x,h.get? b=a_ x->h'.get? b=a_ x:=
 λb x e=>hk b x (λhm=>by rw[ee.mp hm]at e;exact bT _ (aF e)) (aw _ e)
theorem yz(bs:List Bool):((av bs.length).all λi=>(bs[i]?).getD c_)=bs.all id:=by
 rw[fI,aC,aC];constructor
 .intro h b hb
  obtain⟨i,hi,rfl⟩:=pW hb
  simp_all
 .intro h i hi
  simp[aG (cj.mp hi)];exact h _ (cQ _)
theorem yW(bs:List Bool):((av bs.length).any λi=>(bs[i]?).getD d_)=bs.any id:=by
 rw[fI,ud,ud];constructor
 .rintro ⟨i,hi,e⟩
  have Xr:=cj.mp hi;simp only[aG Xr,sf]at e;exact⟨_,cQ Xr,e⟩
 .rintro ⟨b,hb,e⟩
  obtain⟨i,hi,rfl⟩:=pW hb;exact⟨i,cj.mpr hi,by simp only[aG hi,sf];exact e⟩
theorem t8{bs:List Bool}:∀{us:List f_}{i:Nat}{v:f_},cf (bs.map V.bl) us->us[i]?=a_ v->∃b,bs[i]?=a_ b/\v=.bool b:=λ{us i v} r h=>by
 have hl:=r.length;rw[aj]at hl;have hi:i<bs.length:=by rw[hl];exact(ag.mp h).1
 obtain⟨u,hu,ru⟩:=r.get (i:=i) (x:= .bl bs[i]) (by simp);rw[h]at hu;cases hu;exact⟨_,by simp,ru⟩
section
variable {X:Cx}
theorem AF(hc:X.calm=c_):gE X (.builtin "all") (fun xs H Q=>∃ (p:e_) (bs:List Bool),xs=[.ref p]/\SqL X.K H p (bs.map V.bl)/\Q (.bl (bs.all id)) H):=by
 intro pins s G H xs us Q I rs h;obtain⟨p,bs,rfl,hS,q⟩:=h;cases rs with
 | cons r1 rr=>
   cases rr;cases (r1);obtain⟨ZX,rv,pl,_⟩:=I.list hS;have hl:=pl.isList;refine call_all_walk (xK hl ?_)
   refine⟨_,_,_,_,_,_,λi=>(bs[i]?).getD c_,rfl,Walks.list (A:=X.A.in1) (I.ok.hd hc) _ p (bx (by obtain⟨_,e,_⟩:=hl;exact aF e)) _,
    ⟨⟨_,aI _ rfl,rfl,rfl⟩,hl.push _⟩,λi v s' Q' E' hP hQ =>?_,λh' tk hk =>?_⟩
   .obtain⟨b,e,rfl⟩:=t8 rv (by simpa using hP)
    simp[e]at hQ;exact cX hQ
   .have e:((av ZX.toArray.size).all λi=>(bs[i]?).getD c_)=bs.all id:=by
     rw[bU,<-rv.length,aj];exact yz bs
    rw[e];exact⟨.bl _,H,I.kept (zD hk),rfl,q⟩
theorem Br(hc:X.calm=c_):gE X (.builtin "any") (fun xs H Q=>∃ (p:e_) (bs:List Bool),xs=[.ref p]/\SqL X.K H p (bs.map V.bl)/\Q (.bl (bs.any id)) H):=by
 intro pins s G H xs us Q I rs h;obtain⟨p,bs,rfl,hS,q⟩:=h;cases rs with
 | cons r1 rr=>
   cases rr;cases (show _=eA p from r1);obtain⟨ZX,rv,pl,_⟩:=I.list hS;have hl:=pl.isList;refine call_any_walk (xK hl ?_)
   refine⟨s.heap.objs.size,[s.heap.objs.size,p],[s.heap.objs.size],ZX.toArray.size,_,_,λi=>(bs[i]?).getD d_,rfl,Walks.list (A:=X.A.in1) (I.ok.hd hc) _ p (bx (by obtain⟨_,e,_⟩:=hl;exact aF e)) ZX.toArray,
    ⟨⟨_,aI _ rfl,rfl,rfl⟩,hl.push _⟩,λi v s' Q' E' hP hQ =>?_,λh' tk hk =>?_⟩
   .obtain⟨b,e,rfl⟩:=t8 rv (by simpa using hP)
    simp only[e,sf]at hQ;exact cX hQ
   .have e:((av ZX.toArray.size).any λi=>(bs[i]?).getD d_)=bs.any id:=by
     rw[bU,<-rv.length,aj];exact yW bs
    rw[e];exact⟨.bl _,H,I.kept (zD hk),rfl,q⟩
end
def lD:U->Option Bool
 |.bl b=>a_ b
 |_=>b_
def kR:MF:=λus S=>match us with
 |[.ref n]=>(getL S n).bind λxs=>(c9 lD xs).map λbs=>(.bl (bs.all id),S)
 |_=>b_
def yw:MF:=λus S=>match us with
 |[.ref n]=>(getL S n).bind λxs=>(c9 lD xs).map λbs=>(.bl (bs.any id),S)
 |_=>b_
theorem rX{H:Hp}{μ:List e_}:∀{us:List U}{vs:List V}{bs:List Bool},RUs H μ us vs->c9 lD us=a_ bs->vs=bs.map V.bl
 |[],vs,bs,r,e=>by cases e;rw[r.nil_inv];rfl
 | u::us,vs,bs,r,e=>by
   obtain⟨v,r',rfl,a,b⟩:=r.inv;unfold c9 at e;cases u with
   | bl x=>
     cases q:c9 _ us with
     |none=>rw[q]at e;cases e
     | some cs=>
       rw[q]at e;cases e;rw[jf a,rX b q];rfl
   |_=>cases e
section
variable {K:KX}
theorem Ji:mU K (λxs H Q=>∃(p:e_) (bs:List Bool),xs=[.ref p]/\SqL K H p (bs.map V.bl)/\Q (.bl (bs.all id)) H) kR:=by
 intro μ S H us vs u S' Q hr rs e a;unfold kR at e
 split at e
 .rename_i n
  obtain⟨v,r,rfl,rx,rn⟩:=rs.inv;rw[rn.nil_inv];cases q:getL S n with
  |none=>rw[q]at e;cases e
  | some xs=>
    rw[q]at e;simp only[ay]at e;cases q2:c9 _ xs with
    |none=>rw[q2]at e;cases e
    | some bs=>
      rw[q2]at e;cases e;obtain⟨p,rfl,hp⟩:=eQ rx;obtain⟨p',ys,ZG,hs,r'⟩:=hr.sq q;rw[hp]at ZG;cases ZG;rw[rX r' q2]at hs;exact⟨p,bs,rfl,hs,a.now hr hG⟩
 .cases e
theorem Ig:mU K (λxs H Q=>∃(p:e_) (bs:List Bool),xs=[.ref p]/\SqL K H p (bs.map V.bl)/\Q (.bl (bs.any id)) H) yw:=by
 intro μ S H us vs u S' Q hr rs e a;unfold yw at e
 split at e
 .rename_i n
  obtain⟨v,r,rfl,rx,rn⟩:=rs.inv;rw[rn.nil_inv];cases q:getL S n with
  |none=>rw[q]at e;cases e
  | some xs=>
    rw[q]at e;simp only[ay]at e;cases q2:c9 lD xs with
    |none=>rw[q2]at e;cases e
    | some bs=>
      rw[q2]at e;cases e;obtain⟨p,rfl,hp⟩:=eQ rx;obtain⟨p',ys,ZG,hs,r'⟩:=hr.sq q;rw[hp]at ZG;cases ZG;rw[rX r' q2]at hs;exact⟨p,bs,rfl,hs,a.now hr hG⟩
 .cases e
end
def jP:U->Option V
 |.non=>a_ .non
 |.bl b=>a_ (.bl b)
 |.int i=>a_ (.int i)
 |.str x=>a_ (.str x)
 |_=>b_
def inT(x y:U)(S:Sto):Option Bool:=(toD S 40 x).bind λd=>(dJ S y).bind λys=>(c9 (toD S 40) ys).map λds=>ds.any λe=>eJ e d
def kZ:F2:=λx y S=>match iJ S y with
 |some kvs=>(keyOf x).map λk=>(.bl (!(sr kvs k).isSome),S)
 |none=>((jP x).bind λvx=>(dJ S y).bind λys=>(c9 jP ys).map λvs=>(.bl (!inV vx vs),S)).or ((inT x y S).map λb=>(.bl (!b),S))
theorem Ao{w:V}(e:jP u=a_ v)(r:RU H μ u w):w=v/\mS v=c_:=by
 cases u<;>simp[jP]at e<;>subst e<;>exact⟨by simpa only [RU]using r,rfl⟩
theorem wW{H:Hp}{μ:List e_}:∀{us:List U}{vs ws:List V},c9 jP us=a_ vs->RUs H μ us ws->ws=vs/\vs.all mS=c_
 |[],vs,ws,e,r=>by cases e;rw[r.nil_inv]<;>simp_all
 | u::us,vs,ws,e,r=>by
   obtain⟨v,r',rfl,a,b⟩:=r.inv;unfold c9 at e;cases q1:jP u with
   |none=>grind
   | some x=>
     cases q2:c9 _ us with
     |none=>rw[q1,q2]at e;cases e
     | some xs=>
       rw[q2]at e;obtain⟨e1,f1⟩:=Ao q1 a;obtain⟨e2,f2⟩:=wW q2 b<;>grind
section
variable {K:KX}
def NQ(K:ai)(neg:Bool):R2:=λy x H Q=>rIn K neg y x H Q \/ ∃a o,x=.ref a/\uh H a y o/\Q (.bl (if neg then !o.isSome else o.isSome)) H
theorem AK(hu:X.A.units+1<cLine):OpR X (compareOp .NotIn) (NQ X.K c_):=by
 intro pins s G H x y v u Q I rx ry h;rcases h with h|⟨a,o,rfl,g,q⟩
 .exact ur _ s G H x y v u Q I rx ry h
 .obtain rfl:u=eA a:=ry
  exact FT hu I g rx λs3 I3=>⟨.bl _,H,I3,rfl,q⟩
def OV(K:ai):R2:=λx y H Q=>∃p xs d ds,y=.ref p/\(SqL K H p xs\/SqT K H p xs)/\jz K H x d/\Paired (jz K H) xs ds/\Q (.bl (!ds.any λe=>eJ e d)) H
section
variable {X:Cx}{pins:List (e_×Obj)}{G:St}{H:Hp}{s:g_}
open Classical in
def eqR(s:g_)(d:PyData)(u:f_):Bool:=if h:∃d',∃as,Reads s.heap u d' as/\jZ d'=c_ then eJ h.choose d else d_
theorem B0{d':PyData}{u:f_}{as:List e_}(r:Reads s.heap u d' as)(hs:jZ d'=c_):eqR s d u=eJ d' d:=by
 have h:∃d',∃as,Reads s.heap u d' as/\jZ d'=c_:=⟨d',as,r,hs⟩;unfold eqR;rw[dif_pos h];obtain⟨as',r',_⟩:=h.choose_spec;rw[(PySem.Reads.unique r _ _ r').1]
theorem oq{d:PyData}(I:Inv X pins G H s):∀{xs:List V}{us:List f_}{ds:List PyData},cf xs us->Paired (jz X.K H) xs ds->us.any (eqR s d)=ds.any λe=>eJ e d
 |_,_,_,.nil,.nil=>rfl
 | _,_,_,.cons r t,.cons p q=>by
   obtain⟨as,rd⟩:=p.1.reads I r;rw[fN,fN,B0 rd (eF p),oq I t q]
theorem oA{d:PyData}{v:f_}{bs:List e_}{A:Around}(I:Inv X pins G H s)(rv:Reads s.heap v d bs)(hd:jZ d=c_)(hu:A.in1.units+64<cLine):∀{xs:List V}{us:List f_}{ds:List PyData},cf xs us->Paired (jz X.K H) xs ds->∀u∈us,SeqAt.EqAt A.in1 s u v (eqR s d u)
 |_,_,_,.nil,.nil=>λu hu=>by cases hu
 | _,_,_,.cons r t,.cons p q=>λu' XX=>by
   rcases bf.mp XX with rfl|XX
   .obtain⟨as,rd⟩:=p.1.reads I r
    rw[B0 rd (eF p)];exact PySem.W.keq_at rd rv (eF p) hd hu
   .exact oA I rv hd hu t q u' XX
end
def Ac(K:ai):R2:=λx y H Q=>NQ K c_ x y H Q\/OV K x y H Q
theorem Bb(hu:X.A.units+1<cLine)(XN:X.A.in1.units+64<cLine):OpR X (compareOp .NotIn) (Ac X.K):=by
 intro pins s G H x y v u Q I rx ry h;rcases h with h|⟨p,xs,d,ds,rfl,hq,hd,hp,q⟩
 .exact AK hu pins s G H x y v u Q I rx ry h
 .cases ry
  obtain⟨bs,rv⟩:=hd.1.reads I rx;rcases hq with hq|hq
  .obtain⟨ZX,r,pl,hz⟩:=I.list hq
   refine SeqAt.notIn_listAt (eqR s d) pl.isList (λw hw=>oA I rv (eF hd) XN r hp w (by simpa using hw)) ⟨.bl _,H,I,rfl,?_⟩;rw[show ZX.toArray.any (eqR s d)=ZX.any (eqR s d) by simp,oq I r hp];exact q
  .obtain⟨ZX,r,pl,hz⟩:=I.tuple hq
   refine EJ (eqR s d) pl (λw hw=>oA I rv (eF hd) XN r hp w (by simpa using hw)) ⟨.bl _,H,I,rfl,?_⟩;rw[show ZX.toArray.any (eqR s d)=ZX.any (eqR s d) by simp,oq I r hp];exact q
theorem yk{K:KX}{μ:List e_}{S:Sto}{H:Hp}(hr:HR K μ S H):∀{us:List U}{ds:List PyData},c9 (toD S 40) us=a_ ds->∀{vs:List V},RUs H μ us vs->Paired (jz K H) vs ds
 |[],ds,h,vs,r=>by cases h;rw[r.nil_inv];exact .nil
 | u::us,ds,h,vs,r=>by
   unfold c9 at h;cases e:toD S 40 u with
   |none=>rw[e]at h;cases h
   | some y=>
     rw[e]at h;simp only[ay]at h;cases e2:c9 (toD S 40) us with
     |none=>rw[e2]at h;cases h
     | some zs=>
       rw[e2]at h;cases h;obtain⟨v,r',rfl,a,b⟩:=r.inv;exact .cons (pV hr a e) (yk hr e2 b)
theorem Dh:OpU K (Ac K) kZ:=by
 intro μ S H x y vx vy u S' Q hr rx ry e a;unfold kZ at e
 split at e
 .rename_i kvs qd
  cases qk:keyOf x with
  |none=>simp_all
  | some kk=>
    rw[qk]at e;cases e;obtain⟨p,vs,rfl,hp,r⟩:=hr.dic ry qd;refine .inl (.inr ⟨p,_,rfl,.inl ⟨_,kk,.inl hp,nO rx qk,rfl⟩,?_⟩);rw[vW (by have:=r.len;rwa[aj]at this)];exact a.now hr hG
 rcases fJ.mp e with e|⟨_,e⟩
 .refine .inl (.inl ?_)
  cases q1:jP x with
  |none=>simp_all
  | some fx=>
    cases q2:dJ S y with
    |none=>simp_all
    | some ys=>
      cases q3:c9 jP ys with
      |none=>simp_all
      | some vs=>
        rw[q1,q2]at e;simp only[ay,q3]at e;cases e;obtain⟨rfl,f1⟩:=Ao q1 rx;obtain⟨p,zs,rfl,hs,r'⟩:=hr.seq ry q2;obtain⟨rfl,f2⟩:=wW q3 r';exact⟨p,zs,rfl,hs,f1,f2,a.now hr hG⟩
 .cases q0:inT x y S with
  |none=>simp_all
  | some b=>
    rw[q0]at e;cases e;obtain⟨d,q1,q0⟩:=zj.mp q0;obtain⟨ys,q2,q0⟩:=zj.mp q0;obtain⟨ds,q3,rfl⟩:=iF.mp q0;obtain⟨p,zs,rfl,hs,r'⟩:=hr.seq ry q2;exact .inr ⟨p,zs,d,ds,rfl,hs,pV hr rx q1,yk hr q3 r',a.now hr hG⟩
def isU(x:U):U->Option Bool
 | .non=>(match x with
   |.non=>a_ c_
   |.bl _=>a_ d_
   |.tup _=>a_ d_
   |.ref _=>a_ d_
   |.int _=>a_ d_
   | _=>b_)
 | .bl j=>(match x with
   |.bl i=>a_ (i==j)
   |.non=>a_ d_
   | _=>b_)
 |_=>b_
def oIs:F2:=λx y S=>(isU x y).map λb=>(.bl b,S)
def rIs(neg:Bool):R2:=λx y H Q=>(∃i j,x=.bl i/\y=.bl j/\Q (.bl (if neg then i != j else i==j)) H)\/(∃i,x=.bl i/\y=.non/\Q (.bl neg) H) \/
 (∃j,x=.non/\y=.bl j/\Q (.bl neg) H)\/(x=.non/\y=.non/\Q (.bl (!neg)) H) \/
 (∃p,x=.ref p/\y=.non/\Q (.bl neg) H)\/(∃i,x=.int i/\y=.non/\Q (.bl neg) H)
theorem Ks:OpR X (compareOp .Is) (rIs d_):=by
 intro pins s G H x y v u Q I rx ry h;rcases h with⟨i,j,rfl,rfl,q⟩|⟨i,rfl,rfl,q⟩|⟨j,rfl,rfl,q⟩|⟨rfl,rfl,q⟩|⟨p,rfl,rfl,q⟩|⟨i,rfl,rfl,q⟩
 .cases rx;cases ry
  exact is_bool ⟨.bl _,H,I,rfl,q⟩
 .cases rx;cases ry
  exact is_bool_none ⟨.bl _,H,I,rfl,q⟩
 .cases rx;cases ry
  exact bj ⟨.bl _,H,I,rfl,q⟩
 .cases rx;cases ry
  exact is_none_none ⟨.bl _,H,I,rfl,q⟩
 .cases rx;cases ry
  exact bj ⟨.bl _,H,I,rfl,q⟩
 .obtain⟨t,rfl⟩:=rx;cases ry
  exact bj ⟨.bl _,H,I,rfl,q⟩
theorem zg(h:RU H μ .non v):v=.non:=by simpa only [RU]using h
theorem KW{neg:Bool}{x y:U}{vx vy:V}{b:Bool}(rx:RU H μ x vx)(ry:RU H μ y vy)(e:isU x y=a_ b)(a:Q (.bl (if neg then !b else b)) H):rIs neg vx vy H Q:=by
 have hf:(if neg then !d_ else d_)=neg:=by cases neg<;>rfl
 have ht:(if neg then !c_ else c_) = !neg:=by cases neg<;>rfl
 cases y with
 | non=>
   have hy:=zg ry;subst hy;cases x with
   |non=>cases e;rw[ht]at a;exact .inr (.inr (.inr (.inl ⟨zg rx,rfl,a⟩)))
   |bl i=>cases e;rw[hf]at a;exact .inr (.inl ⟨_,jf rx,rfl,a⟩)
   |tup us=>cases e;rw[hf]at a;obtain⟨p,_,rfl,_⟩:=iP rx;exact .inr (.inr (.inr (.inr (.inl ⟨_,rfl,rfl,a⟩))))
   |ref n=>cases e;rw[hf]at a;obtain⟨p,rfl,_⟩:=eQ rx;exact .inr (.inr (.inr (.inr (.inl ⟨_,rfl,rfl,a⟩))))
   |int i=>cases e;rw[hf]at a;exact .inr (.inr (.inr (.inr (.inr ⟨_,cR rx,rfl,a⟩))))
   |_=>cases e
 | bl j=>
   have hy:=jf ry;subst hy;cases x with
   |bl i=>cases e;exact .inl ⟨_,_,jf rx,rfl,a⟩
   |non=>cases e;rw[hf]at a;exact .inr (.inr (.inl ⟨_,zg rx,rfl,a⟩))
   |_=>cases e
 |_=>cases e
theorem Nh:OpU K (rIs d_) oIs:=by
 intro μ S H x y vx vy u S' Q hr rx ry e a;unfold oIs at e;cases q:isU x y with
 |none=>rw[q]at e;cases e
 |some b=>rw[q]at e;cases e;exact KW rx ry q (a.now hr hG)
def mCh(f g:F2)(a b c:ME):ME:=λY S=>bnd (a Y S) λx S1=>bnd (b Y S1) λy S2=>bnd (f x y S2) λz S3=>match z with
 |.bl c_=>bnd (c Y S3) λw S4=>g y w S4
 |.bl d_=>a_ (.bl d_,S3)
 |_=>b_
theorem zR{r r':R2}{f g:F2}{b c:ME}(o:OpU K r f)(o':OpU K r' g)(h:tM K (mCh f g a b c) G H Q):yU r r' (tM K a) (tM K b) (tM K c) G H Q:=by
 obtain⟨μ,S,Y,u,S',hr,er,e,k⟩:=h;obtain⟨x,S1,e1,e⟩:=aK e;obtain⟨y,S2,e2,e⟩:=aK e;obtain⟨z,S3,e3,e⟩:=aK e;refine⟨μ,S,Y,x,S1,hr,er,e1,λY0 vx H1 p1 k1 ZY rx=>?_⟩;refine⟨_,S1,Y,y,S2,ZY,er.mono k1 p1,e2,λY5 vy H2 p2 k2 ZU ry=>?_⟩;refine o _ S2 H2 x y vx vy z S3 _ ZU (RU.mono k2 p2 x vx rx) ry e3 λG' vz H3 p3 k3 ZM rz=>?_
 split at e
 .refine⟨_,jf rz,?_⟩
  obtain⟨w,S4,e4,e⟩:=aK e;exact⟨_,S3,Y,w,S4,ZM,er.mono ((k1.trans k2).trans k3) ((p1.trans p2).trans p3),e4,λZ2 vw H4 p4 k4 Vo ZA=>(o' _ S4 H4 y w vy vw u S' Q Vo (RU.mono (k3.trans k4) (p3.trans p4) y vy ry) ZA e (k.mono (((p1.trans p2).trans p3).trans p4) (((k1.trans k2).trans k3).trans k4)))⟩
 .cases e
  exact⟨_,jf rz,(k _ _ H3 ((p1.trans p2).trans p3) ((k1.trans k2).trans k3) ZM hG)⟩
 .cases e
end
theorem uc:∀{ns:List Int}{us:List f_},IntsAre us ns->cf (ns.map V.int) us
 |_,_,.nil=>.nil
 |_,_,.cons n t r=>.cons ⟨t,rfl⟩ (uc r)
section
variable {X:Cx}
end
section
variable {K:KX}
end
section
variable {X:Cx}
end
section
variable {K:KX}
end
section
variable {prog:Program}{w:World}{A:Around}{E:f_->g_->Prop}{s:g_}
theorem CY(xs:Array f_)(n:Nat)(hn:xs.size=n):((av n).filterMap λ(k:Nat)=>xs[(((n:Int)-1)+(k:Int)*(-1)).toNat]?).toArray=xs.toList.reverse.toArray:=by
 subst hn;have e:(λ(k:Nat)=>xs[(((xs.size:Int)-1)+(k:Int)*(-1)).toNat]?)=(λi=>xs[i]?)∘λk=>xs.size-1-k:=by
  funext k
  have e1:(((xs.size:Int)-1)+(k:Int)*(-1)).toNat=xs.size-1-k:=by omega
  rw[e1];rfl
 rw[e,<-List.filterMap_map,PySem.W.krv_range,List.filterMap_reverse,PySem.W.krv_all]
theorem oU{sl:e_}{t:Tok}{Q:Int×Int×Nat->g_->Prop}(hs:s.heap.IsSliceOf sl .none .none (.int (-1) t))
  (h:Q ((n:Int)-1,-1,n) s):aR (model prog w) A (qo (.ref sl) (pure (n:Int))) Q E s:=by
 obtain⟨os,YU,YV,YB⟩:=id hs;refine aB (aB (fR YU YB rfl (aB (fR YU YB rfl (aB (fR YU YB rfl (bj ?_)))))));show aR _ _ (match fG b_ b_ (-1) _ with | (lo,hi)=>pure (lo,-1,dg lo hi (-1))) _ _ s;have e1:fG b_ b_ (-1) _=((n:Int)-1,-1):=rfl;have e2:dg (n-1) (-1) (-1)=n:=by
  unfold dg
  grind
 rw[e1];show aR _ _ (pure _) _ _ s;rw[e2];exact bj h
theorem nQ{t sl:e_}{items:Array f_}{tk:Tok}{Q:f_->g_->Prop}(ht:IsTup s.heap t items)(hs:s.heap.IsSliceOf sl .none .none (.int (-1) tk))
  (h:Q (.ref s.heap.objs.size) { s with heap:=s.heap.push { cls := .type "tuple",data := .seq items.toList.reverse.toArray } })
  (YT:items.size<=sizeLine):aR (model prog w) A (getItem (.ref t) (.ref sl)) Q E s:=by
 have YM:=by
  show items.toList.reverse.toArray.size<=sizeLine
  simp_all
 obtain⟨os,YU,YV,YB⟩:=id hs;unfold getItem
 try with_reducible refine j2 ?_
 refine aB (xM ht.typeIs (by decide) ?_)
 refine aB (oP ht.typeIs cw
  (zi cw ht.typeIs entry_tuple_getitem ?_ (args_tuple_getitem _ _)))
 show aR _ _ (ja _ >>= _) _ _ s;refine aB (tupleItemsOf_ ht ?_);refine aB (xN ⟨os,YU,YV⟩ ?_);refine aB (oU hs ?_);show aR _ _ (if ((((items.size:Int)-1)==0 && -1==1&&items.size==items.size))=c_ then _ else _) _ _ s;rw[if_neg (by simp),CY _ _ rfl]
 first
  |exact aB (xO (bj ⟨_,rfl,bj h⟩) YM)
  |grind
  |grind
  |grind
end
theorem cf.rev:∀{xs:List V}{us:List f_},cf xs us->cf xs.reverse us.reverse
 |_,_,.nil=>.nil
 | x::xs,u::us,.cons a b=>by
   rw[kU,kU];exact(cf.rev b).append (.cons a .nil)
def Oq(K:ai):V->Hp->VK->Prop:=λx H Q=>∃a xs,x=.ref a/\((SqT K H a xs /\ ∀p,H p=b_->Q (.ref p) (upd H p (.tup xs.reverse)))\/(SqL K H a xs /\ ∀p,H p=b_->Q (.ref p) (upd H p (.lst xs.reverse))))
def Od(K:ai)(te:TE):TE:=λG H Q=>te G H λx H1=>Oq K x H1 Q
section
variable {X:Cx}{e:Expr}{te:TE}{pos p2 p3 p4:Pos}{j:Nat}
theorem Iz(he:PE X e te):PE X (.Subscript e (.Slice b_ b_ (a_ (.UnaryOp .USub (.Constant (.int 1) j p3) p4)) p2) pos) (Od X.K te):=by
 intro pins s G H Q I h;refine Subscript_ (thn (he pins s G H _ I h) λv s1 ⟨x,H1,I1,r1,q1⟩=>?_);refine wpAny_Slice ?_;refine bj (bj ?_);refine thn (G4 B8 B9 pins s1 G H1 (λy H2=>y=.int (-1)/\H2=H1) I1 ⟨1,rfl,rfl,rfl⟩) λu s3 ⟨y,H3,I3,ry,hy,hH⟩=>?_;subst hy hH;obtain⟨t,rfl⟩:=ry;have I4:Inv X pins G H3 { s3 with heap:=s3.heap.push { cls := .type "slice",data := .fields #[.none,.none,.int (-1) t] } }:=I3.kept fun b ob q=>aw _ q;obtain⟨a,xs,rfl,q1⟩:=q1;cases r1;rcases q1 with⟨hx,q⟩ | ⟨hx,q⟩
 .obtain⟨ZX,r,ht,hz⟩:=I4.tuple hx
  have hlen:ZX.toArray.size=xs.length:=r.length.symm;refine tail_any ht.typeIs PyProof.Rows.slot_tuple_getitem.lookup ?_ (by with_unfolding_all rfl);refine nQ ht (mF ..) ?_ (by rw[hlen];exact hz);refine⟨.ref _,_,I4.laid (λb ob q=>aw _ q) (ao _) ?_,rfl,q _ (I4.hok.fresh (ao _))⟩;exact⟨by rw[List.length_reverse];exact hz,_,cf.rev r,Ar _ _,_,aI _ rfl,rfl⟩
 .obtain⟨ZX,r,ht,hz⟩:=I4.list hx
  refine tail_any ht.isList.typeIs slot_list_getitem.lookup ?_ (by with_unfolding_all rfl);refine wpAny_getItem_list_slice ht.isList (mF ..) .none .none (.int (-1) t) (by decide) ?_ (by rw[bU,<-r.length];exact hz);rw[PySem.W.krv_pick];refine⟨.ref _,_,I4.laid (λb ob q=>aw _ q) (ao _) ?_,rfl,q _ (I4.hok.fresh (ao _))⟩;exact⟨by rw[List.length_reverse];exact hz,_,0,cf.rev r,aI _ rfl⟩
end
def Dl:U->Sto->Res U:=λx S=>match x with
 |.tup us=>a_ (.tup us.reverse,S)
 |.ref n=>(getL S n).map λus=>(.ref S.length,S++[.lst us.reverse])
 |_=>b_
theorem RUs.rev{H:Hp}{μ:List e_}:∀{us:List U}{vs:List V},RUs H μ us vs->RUs H μ us.reverse vs.reverse
 |[],vs,r=>by rw[r.nil_inv];exact .nil
 | u::us,vs,r=>by
   obtain⟨v,r',rfl,a,b⟩:=r.inv;rw[kU,kU];exact(RUs.rev b).append (.cons a .nil)
section
variable {K:KX}{G:St}{H:Hp}{Q:VK}
theorem Lg(h:tM K (m1 Dl a) G H Q):Od K (tM K a) G H Q:=by
 obtain⟨μ,S,Y,u,S',hr,er,e,k⟩:=h;obtain⟨x,S1,e1,e⟩:=aK e;refine⟨μ,S,Y,x,S1,hr,er,e1,λY0 vx H1 p1 k1 ZY rx=>?_⟩;have k':=k.mono p1 k1;unfold Dl at e
 split at e
 .cases e
  obtain⟨p,vs,rfl,hp,rs⟩:=iP rx;exact⟨p,vs,rfl,.inl ⟨.inl (.inl hp),λl hl=>(k' _ _ _ (Pre.refl _) (bh.new hl) (ZY.tup hl) (ly cx (RUs.mono (bh.new hl) (Pre.refl _) _ _ (RUs.rev rs))))⟩⟩
 .rename_i n
  cases q:getL S1 n with
  |none=>rw[q]at e;cases e
  | some us=>
    rw[q]at e;cases e;obtain⟨p,rfl,hp⟩:=eQ rx;obtain⟨p',ys,ZG,hs,r'⟩:=ZY.sq q;rw[hp]at ZG;cases ZG;exact⟨p,ys,rfl,.inr ⟨hs,λl hl=>ky k' ZY (RUs.rev r') hl⟩⟩
 .cases e
end
def qL:ME:=λ_ S=>a_ (.ref S.length,S++[.dic []])
def DY(k v:ME):ME:=λY S=>bnd (k Y (S++[.dic []])) λx S1=>bnd (v Y S1) λy S2=>(keyOf x).bind λkk=>match S2[S.length]? with
 |some (.dic [])=>a_ (.ref S.length,S2.set S.length (.dic [(kk,y)]))
 |_=>b_
section
variable {K:KX}{G:St}{H:Hp}{Q:VK}
theorem z8(hr:HR K μ S H)(hp:H p=b_):HR K (μ++[p]) (S++[.dic []]) (upd H p (.dK [])):=
 hr.newC hp rfl ⟨[],cx,.nil⟩
theorem zU(hr:HR K μ S H):(μ++[p])[S.length]?=a_ p:=by
 rw[<-hr.len];simp
theorem Ko(h:tM K qL G H Q):Dj G H Q:=by
 obtain⟨μ,S,Y,u,S',hr,er,e,k⟩:=h;cases e;intro p hp;exact k _ _ _ ⟨_,rfl⟩ (bh.new hp) (z8 hr hp) (qR (zU hr))
theorem JL{b:ME}(h:tM K (DY a b) G H Q):G6 [(tM K a,tM K b)] G H Q:=by
 obtain⟨μ,S,Y,u,S',hr,er,e,k⟩:=h;intro p hp;obtain⟨x,S1,e1,e⟩:=aK e;obtain⟨y,S2,e2,e⟩:=aK e;have pre:Pre μ _:=⟨[p],rfl⟩;refine⟨_,_,Y,x,S1,z8 hr hp,er.mono (bh.new hp) pre,e1,λY0 vx H1 p1 k1 ZY rx=>?_⟩;refine⟨_,S1,Y,y,S2,ZY,er.mono ((bh.new hp).trans k1) (pre.trans p1),e2,λY5 vy H2 p2 k2 ZU ry=>?_⟩;cases qk:keyOf x with
 |none=>simp_all
 | some kk=>
   rw[qk]at e
   split at e
   .rename_i q
    cases e;have hm:=p2.get (p1.get (zU hr));obtain⟨vs,e0,r0⟩:=ZU.cell _ _ p q hm;have kw:bh H2 (upd H2 p (.dK (pz [] [(kk,vy)]))):=bh.wrG e0 (λ_ z=>by cases z) λ_ _ z=>by cases z
    refine⟨e0,[(kk,vy)],?_,by simp,?_⟩
    .rw[nO (RU.mono k2 p2 _ _ rx) qk];rfl
    .refine k _ _ _ (pre.trans (p1.trans p2)) ((bh.new hp).trans (k1.trans (k2.trans kw))) (ZU.wrC q hm rfl ⟨_,by rw[cx];rfl,.cons (RU.mono kw (Pre.refl _) _ _ ry) .nil⟩) (qR hm)
   .cases e
def He(i:Int):Prop:=i.natAbs.log2<1920
instance(i:Int):Decidable (He i):=aY _
def pZ:MF:=λus S=>match us with
 |[.int i]=>if He i then a_ (.str (toString i),S) else b_
 |_=>b_
theorem Jw:mU K (λxs H Q=>∃i,xs=[.int i]/\i.natAbs.log2<1920/\Q (.str (toString i)) H) pZ:=by
 intro μ S H us vs u S' Q hr rs e a;unfold pZ at e
 split at e
 .split at e
  .rename_i hc
   cases e;obtain⟨v,r,rfl,rx,rn⟩:=rs.inv;rw[rn.nil_inv,cR rx];exact⟨_,rfl,hc,a.now hr (by simp only[RU])⟩
  .cases e
 .cases e
end
abbrev MG:=U->Rho->Sto->Option (Rho×Sto)
abbrev MGs:=List U->Rho->Sto->Option (Rho×Sto)
def gN(i:Nat):MG:=λu Y S=>a_ (Y.set i (a_ u),S)
def gSb(o i:ME):MG:=λx Y S=>bnd (o Y S) λp S2=>bnd (i Y S2) λj S3=>match p with
 | .ref n=>match S3[n]? with
   | some (.lst us)=>(match j with
     |.int k=>(_L.ixN us.length k).map λm=>(Y,S3.set n (.lst (us.set m x)))
     | _=>b_)
   |some (.dic kvs)=>(keyOf j).bind λk=>if kvs.length<big then a_ (Y,S3.set n (.dic (En kvs k x))) else b_
   |_=>b_
 |_=>b_
def xH:MGs:=λus Y S=>match us with
 |[]=>a_ (Y,S)
 |_=>b_
def kA(g:MG)(r:MGs):MGs:=λus Y S=>match us with
 |[]=>b_
 |u::us=>(g u Y S).bind λp=>r us p.1 p.2
def gTp(n:Nat)(gs:MGs):MG:=λu Y S=>match u with
 |.tup us=>if us.length=n then gs us Y S else b_
 |_=>b_
def Dy(e:ME)(g:MG):MS:=λY S=>bnd (e Y S) λx S1=>(g x Y S1).map λp=>(.nx,p.1,p.2)
def tG(K:KX)(g:MG):TG:=λv G H Q=>∃μ S Y u r,HR K μ S H/\ER H μ Y G/\RU H μ u v/\g u Y S=a_ r /\ ∀Y3 Y1 H',Pre μ Y3->bh H H'->HR K Y3 r.2 H'->ER H' Y3 r.1 Y1->Q Y1 H'
def tGs(K:KX)(g:MGs):TGs:=λvs G H Q=>∃μ S Y us r,HR K μ S H/\ER H μ Y G/\RUs H μ us vs/\g us Y S=a_ r /\ ∀Y3 Y1 H',Pre μ Y3->bh H H'->HR K Y3 r.2 H'->ER H' Y3 r.1 Y1->Q Y1 H'
theorem PG.con{t u:TG}(h:PG X tg t)(k:∀v G H Q,u v G H Q->t v G H Q):PG X tg u:=λpins s G H v w Q I r q=>h _ s G H v w Q I r (k _ _ _ _ q)
theorem PGs.con{tg:List Expr}{t u:TGs}(h:PGs X tg t)(k:∀v G H Q,u v G H Q->t v G H Q):PGs X tg u:=λpins s G H v w Q I r q=>h _ s G H v w Q I r (k _ _ _ _ q)
section
variable {K:KX}{G:St}{H:Hp}{Q:St->Hp->Prop}{v:V}{D:Ends}
theorem Ol{i:Nat}(h:tG K (gN i) v G H Q):i2 i v G H Q:=by
 obtain⟨μ,S,Y,u,r,hr,er,ru,e,k⟩:=h;cases e;exact k μ _ H (Pre.refl _) (bh.refl _) hr (er.set ru i)
theorem Nl{i:ME}(h:tG K (gSb o i) v G H Q):Kl (tM K o) (tM K i) Cn v G H Q:=by
 obtain⟨μ,S,Y,x,r,hr,er,rx,e,k⟩:=h;obtain⟨p,S2,e2,e⟩:=aK e;obtain⟨j,S3,e3,e⟩:=aK e;refine⟨μ,S,Y,_,S2,hr,er,e2,λY5 vo H2 p2 k2 ZU ro=>?_⟩;refine⟨Y5,S2,Y,_,S3,ZU,er.mono k2 p2,e3,λG' vi H3 p3 k3 ZM ri=>?_⟩;have WR:RU H3 G' x v:=RU.mono (k2.trans k3) (p2.trans p3) _ _ rx
 split at e
 .rename_i n _
  obtain⟨a,rfl,ha⟩:=eQ ro;have Yx:=p3.get ha
  split at e
  .rename_i us q
   split at e
   rotate_left
   .cases e
   rename_i kk
   cases z:ixN us.length kk with
   |none=>rw[z]at e;cases e
   | some m'=>
     rw[z]at e;cases e;obtain⟨vs,e0,r0⟩:=ZM.cell n _ a q Yx;refine .inl ⟨a,vs,kk,m',rfl,cR ri,e0,by rw[<-r0.len];exact z,?_⟩;have kw:bh H3 (upd H3 a (.lst (vs.set m' v))):=bh.wr e0;exact k G' _ _ (p2.trans p3) (k2.trans (k3.trans kw)) (ZM.wr q Yx (r0.set WR m')) (er.mono (k2.trans (k3.trans kw)) (p2.trans p3))
  .rename_i kvs q
   cases qk:keyOf j with
   |none=>rw[qk]at e;cases e
   | some kk=>
     rw[qk]at e;simp only[ay]at e
     split at e
     .rename_i hz
      cases e;obtain⟨vs,e0,r0⟩:=ZM.cell n _ a q Yx;obtain⟨ws,ew,ZA⟩:=Am (k:=kk) WR r0;have kw:bh H3 (upd H3 a (.dK (putK (dV kvs vs) kk v))):=bh.wrG e0 (λ_ z=>by cases z) λ_ _ z=>by cases z
      exact .inr ⟨a,_,rfl,.inl ⟨_,kk,e0,nO ri qk,by rw[yG (by have:=r0.len;rwa[aj]at this),sizeLine_eq];exact hz,rfl⟩,(k G' _ _ (p2.trans p3) (k2.trans (k3.trans kw)) (ZM.wrC q Yx rfl ⟨ws,by rw[ew];exact cx,RUs.mono kw (Pre.refl _) _ _ ZA⟩) (er.mono (k2.trans (k3.trans kw)) (p2.trans p3)))⟩
     .cases e
  .cases e
 .cases e
theorem J0(h:tGs K xH vs G H Q):Ob vs G H Q:=by
 obtain⟨μ,S,Y,us,r,hr,er,rs,e,k⟩:=h;cases us with
 |nil=>cases e;exact⟨rs.nil_inv,k μ _ H (Pre.refl _) (bh.refl _) hr er⟩
 |cons u us=>cases e
variable{gs:MGs}
theorem Gg{g:MG}(h:tGs K (kA g gs) vs G H Q):Hq (tG K g) (tGs K gs) vs G H Q:=by
 obtain⟨μ,S,Y,us,r,hr,er,rs,e,k⟩:=h;cases us with
 |nil=>cases e
 | cons u us=>
   obtain⟨v,vr,rfl,ra,rb⟩:=rs.inv;cases q:g u Y S with
   |none=>rw[show kA g gs _ Y S=(g u Y S).bind _ from rfl,q]at e;cases e
   | some p=>
     rw[show kA g gs _ Y S=(g u Y S).bind _ from rfl,q]at e;exact⟨v,vr,rfl,μ,S,Y,u,p,hr,er,ra,q,λY0 Y6 H1 p1 k1 ZY ZP=>⟨_,_,_,us,r,ZY,ZP,RUs.mono k1 p1 _ _ rb,e,λY5 Y7 H2 p2 k2=>k _ _ H2 (p1.trans p2) (k1.trans k2)⟩⟩
theorem NU(h:tG K (gTp n gs) v G H Q):LF K n (tGs K gs) v G H Q:=by
 obtain⟨μ,S,Y,u,r,hr,er,ru,e,k⟩:=h;unfold gTp at e
 split at e
 .rename_i us
  split at e
  .obtain⟨a,vs,rfl,ha,rs⟩:=iP ru
   exact⟨a,vs,rfl,.inl (.inl ha),by rw[<-rs.len];omega,μ,S,Y,us,r,hr,er,rs,e,k⟩
  .cases e
 .cases e
theorem Oa{m:ME}{g:MG}(h:tMS K (Dy m g) D G H):AW (tM K m) (tG K g) D G H:=by
 obtain⟨μ,S,Y,r,hr,er,e,k⟩:=h;obtain⟨x,S1,e1,e⟩:=aK e;cases q:g x Y S1 with
 |none=>rw[q]at e;cases e
 | some p=>
   rw[q]at e;cases e;exact⟨μ,S,Y,x,S1,hr,er,e1,λY0 vx H1 p1 k1 ZY rx=>⟨_,S1,Y,x,p,ZY,er.mono k1 p1,rx,q,λY5 Y7 H2 p2 k2 ZU YZ=>k _ _ H2 (p1.trans p2) (k1.trans k2) ZU YZ⟩⟩
end
theorem wy{a b c d:Expr}{p1 p2 p p3:Pos}{k k2:Nat}{vs:List Expr}{env:Env}:swappedStores [.Tuple [.Subscript a b p1,.Subscript c d p2] k p] (.Tuple vs k2 p3) env=pure b_:=by
 unfold swappedStores
 simp_all
section
variable {K:KX}{G:St}{H:Hp}{Q:VK}{D:Ends}
end
def strOf:U->Option Str
 |.str x=>a_ x
 |_=>b_
def kl(z:Str)(ys:List Str):Prop:=(ys.map (·.length)).sum+ys.length*z.length<=16777216
instance(z:Str)(ys:List Str):Decidable (kl z ys):=aY _
def qz(z y:Str):Prop:=(y.length==0)=d_/\z.length+2<=big
instance(z y:Str):Decidable (qz z y):=aY _
def mMS(f:Str->List U->Sto->Res U)(o:ME)(a:MA):ME:=λY S=>bnd (o Y S) λp S1=>match p with
 |.str x=>bnd (a Y S1) λxs S2=>f x xs S2
 |_=>b_
def j4:Str->List U->Sto->Res U:=λz xs S=>match xs with
 |[.ref n]=>(getL S n).bind λus=>(c9 strOf us).bind λys=>if kl z ys then a_ (.str (Txt.join z ys),S) else b_
 |_=>b_
def dn:Str->List U->Sto->Res U:=λz xs S=>match xs with
 |[.str y]=>if qz z y then a_ (.ref S.length,S++[.lst ((Bz z y).map .str)]) else b_
 |_=>b_
def jE(z:Str):Prop:=z.length<=big
instance(z:Str):Decidable (jE z):=aY _
def Bm:F2:=λx y S=>match x,y with
 |.str i,.str j=>a_ (.bl (!(cU j i 0 j.length 1).isEmpty),S)
 |_,_=>b_
def i3:F2:=λx y S=>match x,y with
 |.str z,.int i=>if jE z then(atI z.cps.toList i).map λc=>(.str ⟨#[c]⟩,S) else b_
 |_,_=>b_
def jI:MF:=λus S=>match us with
 |[.str z]=>if jE z then a_ (.int z.length,S) else b_
 |_=>b_
def tm(z:Str):Prop:=z.length<=640
instance(z:Str):Decidable (tm z):=aY _
def oy:MF:=λus S=>match us with
 |[.str z]=>if tm z then(intText? z).map λn=>(.int n,S) else b_
 |_=>b_
def jg(x:Str):List U:=x.cps.toList.map λc=>.str ⟨#[c]⟩
def xg(z:Str):Prop:=z.cps.all (· < 128)=c_
instance(z:Str):Decidable (xg z):=aY _
def qY(a:ME):MI:=λY S=>bnd (a Y S) λp S1=>match p with
 |.str x=>if xg x then a_ (.imm (jg x),S1) else b_
 |_=>b_
section
variable {K:KX}{G:St}{H:Hp}{Q:VK}{D:Ends}
theorem ir(h:RU H μ (.str x) v):v=.str x:=by simpa only [RU]using h
theorem nu:RU H μ (.str x) (.str x):=by simp only[RU]
def MsU(K:KX)(r:V->List V->Hp->VK->Prop)(f:Str->List U->Sto->Res U):Prop:= ∀(μ:List e_) (S:Sto) (H:Hp) (z:Str) (us:List U) (vs:List V) (u:U) (S':Sto) (Q:VK),HR K μ S H->RUs H μ us vs->f z us S=a_ (u,S')->Aft K μ H u S' Q->r (.str z) vs H Q
theorem Ml{r:V->List V->Hp->VK->Prop}{f:Str->List U->Sto->Res U}{a:MA}(m:MsU K r f)(h:tM K (mMS f o a) G H Q):tBM K "str" r (tM K o) (tMA K a) G H Q:=by
 obtain⟨μ,S,Y,u,S',hr,er,e,k⟩:=h;obtain⟨x,S1,e1,e⟩:=aK e
 split at e
 .rename_i z
  obtain⟨xs,S2,e2,e⟩:=aK e;refine⟨μ,S,Y,_,S1,hr,er,e1,λY0 vx H1 p1 k1 ZY rx=>?_⟩;rw[ir rx];exact⟨rfl,Y0,S1,Y,xs,S2,ZY,er.mono k1 p1,e2,λY5 vs H2 p2 k2 ZU rs=>m Y5 S2 H2 z xs vs u S' Q ZU rs e (k.mono (p1.trans p2) (k1.trans k2))⟩
 .cases e
theorem G0{μ:List e_}:∀{us:List U}{vs:List V}{ys:List Str},RUs H μ us vs->c9 strOf us=a_ ys->vs=ys.map V.str
 |[],vs,ys,r,e=>by cases e;rw[r.nil_inv];rfl
 | u::us,vs,ys,r,e=>by
   obtain⟨v,r',rfl,a,b⟩:=r.inv;unfold c9 at e;cases q:strOf u with
   |none=>rw[q]at e;cases e
   | some k=>
     rw[q]at e;simp only[ay]at e;cases q2:c9 strOf us with
     |none=>rw[q2]at e;cases e
     | some ks'=>
       rw[q2]at e;cases e;unfold strOf at q
       split at q
       .cases q
        rw[ir a,G0 b q2];rfl
       .cases q
theorem HC{μ:List e_}:∀(ys:List Str),RUs H μ (ys.map U.str) (ys.map V.str)
 |[]=>.nil
 |y::ys=>.cons nu (HC ys)
theorem FY:MsU K (rJoin K) j4:=by
 intro μ S H z us vs u S' Q hr rs e a;unfold j4 at e
 split at e
 .rename_i n
  obtain⟨v,r,rfl,rx,rn⟩:=rs.inv;rw[rn.nil_inv];cases q:getL S n with
  |none=>rw[q]at e;cases e
  | some ws=>
    rw[q]at e;simp only[ay]at e;cases q2:c9 strOf ws with
    |none=>rw[q2]at e;cases e
    | some ys=>
      rw[q2]at e;simp only[ay]at e
      split at e
      .rename_i hc
       cases e;obtain⟨p,rfl,hp⟩:=eQ rx;obtain⟨p',RI,ZG,hs,r'⟩:=hr.sq q;rw[hp]at ZG;cases ZG;rw[G0 r' q2]at hs;exact⟨z,p,ys,rfl,rfl,hs,hc,a.now hr nu⟩
      .cases e
 .cases e
theorem Ds:MsU K Er dn:=by
 intro μ S H z us vs u S' Q hr rs e a;unfold dn at e
 split at e
 .rename_i y
  obtain⟨v,r,rfl,rx,rn⟩:=rs.inv;rw[rn.nil_inv,ir rx]
  split at e
  .rename_i hc
   cases e;exact⟨z,y,rfl,rfl,hc.1,by rw[sizeLine_eq];exact hc.2,λl hl=>ky a hr (HC _) hl⟩
  .cases e
 .cases e
theorem KY:OpU K (λx y H Q=>∃i j,x=.str i/\y=.str j/\Q (.bl (!(cU j i 0 j.length 1).isEmpty)) H) Bm:=by
 intro μ S H x y vx vy u S' Q hr rx ry e a;unfold Bm at e
 split at e
 .cases e
  exact⟨_,_,ir rx,ir ry,a.now hr hG⟩
 .cases e
theorem HP:OpU K JM i3:=by
 intro μ S H x y vx vy u S' Q hr rx ry e a;unfold i3 at e
 split at e
 .rename_i z i
  split at e
  .rename_i hc
   cases q:atI z.cps.toList i with
   |none=>rw[q]at e;cases e
   | some c=>
     rw[q]at e;cases e;exact⟨_,_,c,ir rx,cR ry,by rw[sizeLine_eq];exact hc,q,a.now hr nu⟩
  .cases e
 .cases e
theorem Gb:mU K (λxs H Q=>∃z,xs=[.str z]/\z.length<=sizeLine/\Q (.int z.length) H) jI:=by
 intro μ S H us vs u S' Q hr rs e a;unfold jI at e
 split at e
 .split at e
  .rename_i hc
   cases e;obtain⟨v,r,rfl,rx,rn⟩:=rs.inv;rw[rn.nil_inv,ir rx];exact⟨_,rfl,by rw[sizeLine_eq];exact hc,a.now hr eU⟩
  .cases e
 .cases e
theorem E1:mU K (λxs H Q=>∃x n,xs=[.str x]/\intText? x=a_ n/\x.length<=640/\Q (.int n) H) oy:=by
 intro μ S H us vs u S' Q hr rs e a;unfold oy at e
 split at e
 .rename_i z
  split at e
  .rename_i hc
   cases q:intText? z with
   |none=>rw[q]at e;cases e
   | some n=>
     rw[q]at e;cases e;obtain⟨v,r,rfl,rx,rn⟩:=rs.inv;rw[rn.nil_inv,ir rx];exact⟨_,n,rfl,q,hc,a.now hr eU⟩
  .cases e
 .cases e
theorem lR(x:Str):(jg x).length=x.cps.size:=by simp[jg]
theorem zC{k:Nat}(h:k<x.cps.size):(jg x)[k]?=a_ (.str ⟨#[x.cps[k]]⟩):=by simp[jg,h]
theorem CP{R:It->Hp->Prop}{S1:Sto}{src:Src}(hr:HR K μ S H)(er:ER H μ Y G)(e:qY a Y S=a_ (src,S1))
  (hR:∀Y0 H1 x,Pre μ Y0->bh H H1->HR K Y0 S1 H1->src=.imm (jg x)->R (Itc x) H1):Gw (tM K a) G H R:=by
 obtain⟨p,S2,e1,e⟩:=aK e
 split at e
 .rename_i x
  split at e
  .rename_i hc
   cases e;refine⟨μ,S,Y,_,_,hr,er,e1,λY0 v H1 p1 k1 ZY rx=>?_⟩;exact⟨x,ir rx,hc,hR Y0 H1 x p1 k1 ZY rfl⟩
  .cases e
 .cases e
variable{i:Nat}
theorem Jp{b:MS}{r:Fl×Rho×Sto}(hr:HR K μ S H)(er:ER H μ Y G)(e:pw i b (jg x) Y S=a_ r)(fl:FlP K μ H D r):
  ∃W:Nat->Nat->St->Hp->Prop,(∃m,W 0 m G H) /\ ∀k m G H,W k m G H ->
   ((Itc x).stop k H/\D.nx G H)\/((Itc x).go k H /\ ∃N:St->Hp->Prop,(∀Y1 H',N Y1 H'->∃m',m'<m/\W (k+1) m' Y1 H') /\ ∀v H',(Itc x).yld k H v H'->i2 i v G H' λY7 H2=>tMS K b { D with nx:=N,ct:=N,bk:=D.nx } Y7 H2):=by
 refine⟨λk m Y6 H1=>m+k=x.cps.size /\ ∃Y0 S1 Y2,Pre μ Y0/\bh H H1/\HR K Y0 S1 H1/\ER H1 Y0 Y2 Y6/\pw i b ((jg x).drop k) Y2 S1=a_ r,⟨x.cps.size,rfl,μ,S,Y,Pre.refl _,bh.refl _,hr,er,e⟩,?_⟩;rintro k m Y6 H1 ⟨hm,Y0,S1,Y2,p1,k1,ZY,ZP,e1⟩;cases m with
 | zero=>
   have hk:k=(jg x).length:=by rw[lR,<-hm,dS]
   subst hk;rw[mG]at e1;cases e1;exact .inl ⟨by show x.cps.size<=_;rw[lR];exact ao _,fl Y0 Y6 H1 p1 k1 ZY ZP⟩
 | succ m=>
   have hk:k<x.cps.size:=by omega
   rw[drop_cons (zC hk)]at e1;refine .inr ⟨hk,λY7 H2=>∃Y5 S2 Y',Pre μ Y5/\bh H H2/\HR K Y5 S2 H2/\ER H2 Y5 Y' Y7/\pw i b ((jg x).drop (k+1)) Y' S2=a_ r,λY1 H' w=>⟨m,d7 _,by omega,w⟩,λv H' y=>?_⟩;obtain⟨rfl,c,hc,rfl⟩:=y;have YK:c=x.cps[k]:=by simpa [hk]using hc.symm
   subst YK;exact oa ZY (ZP.set nu i) e1 p1 k1 fl λY5 Y7 H2 Y' S2 p2 k2 ZU YZ e2=>⟨Y5,S2,Y',p2,k2,ZU,YZ,e2⟩
theorem Ot{b:MS}(h:tMS K (fU i (qY a) b) D G H):yC (Gw (tM K a)) (i2 i) (tMS K b) D G H:=by
 obtain⟨μ,S,Y,r,hr,er,e,fl⟩:=h;obtain⟨src,S1,e1,e⟩:=aK e;refine CP hr er e1 λY0 H1 x p1 k1 ZY hs=>?_;subst hs;exact Jp ZY (er.mono k1 p1) e (fl.mono p1 k1)
theorem BJ{t:MT}{e:ME}{ys:List U}(hr:HR K μ S H)(er:ER H μ Y G)(h:dO t e Y (jg x) [] S=a_ (ys,S'))(hz:ys.length<big)(k:Aft K μ H (.ref S'.length) (S'++[.lst ys]) Q):
  tH (Itc x) G (tMT K t) (tM K e) H Q:=by
 refine qV hr er h hz k (λH' _=>by rw[lR];exact ao _) (λi H' hi _=>by rw[lR]at hi;exact hi) λi H' v Yf u hu _ y=>?_;obtain⟨rfl,c,hc,rfl⟩:=y;have hi:i<x.cps.size:=by rw[<-lR];exact(ag.mp hu).1
 rw[zC hi]at hu;cases hu;have YK:c=x.cps[i]:=by simpa [hi]using hc.symm
 subst YK;exact⟨rfl,nu⟩
theorem OA{t:MT}{e:ME}(h:tM K (bu (qY a) t e) G H Q):lT (Gw (tM K a)) (tMT K t) (tM K e) G H Q:=by
 obtain⟨μ,S,Y,u,S',hr,er,e0,k⟩:=h;obtain⟨src,S1,e1,e0⟩:=aK e0;obtain⟨ys,S2,e2,e0⟩:=aK e0
 split at e0
 .rename_i hz
  cases e0;refine CP hr er e1 λY0 H1 x p1 k1 ZY hs=>?_;subst hs;exact BJ ZY (er.mono k1 p1) e2 hz (k.mono p1 k1)
 .cases e0
end
def nq(a b:MF):MF:=λus S=>(a us S).or (b us S)
def eN(a b:F2):F2:=λx y S=>(a x y S).or (b x y S)
def ff:F2:=λx y S=>match x,y with
 |.str i,.str j=>if jE (i++j) then a_ (.str (i++j),S) else b_
 |_,_=>b_
def lC(a:ME)(lo hi:Option ME):ME:=λY S=>bnd (a Y S) λx S1=>bnd (tI lo Y S1) λl S2=>bnd (tI hi Y S2) λh S3=>match x with
 |.str z=>if jE z then a_ (.str (Txt.slice z l h),S3) else b_
 |_=>b_
def yc:F2:=λx y S=>(inT x y S).map λb=>(.bl b,S)
def kn:Nat->List U->Sto->Res U:=λn xs S=>match xs with
 | [.int i,x]=>match S[n]? with
   |some (.lst us)=>if 0<=i/\i<=us.length/\us.length<1000000 then a_ (.non,S.set n (.lst (us.take i.toNat++x::us.drop i.toNat))) else b_
   |_=>b_
 |_=>b_
section
variable {K:KX}{X:Cx}{G:St}{H:Hp}{Q:VK}{D:Ends}
theorem ES:OpU K (λx y H Q=>∃i j,x=.str i/\y=.str j/\i.length+j.length<=sizeLine/\Q (.str (i++j)) H) ff:=by
 intro μ S H x y vx vy u S' Q hr rx ry e a;unfold ff at e
 split at e
 .rename_i i j
  split at e
  .rename_i hc
   cases e;refine⟨i,j,ir rx,ir ry,?_,a.now hr nu⟩;have hc:(i++j).length<=big:=hc;rw[strLen_append]at hc;rw[sizeLine_eq];exact hc
  .cases e
 .cases e
theorem Kf:SlR X (λx lo hi H Q=>∃z,x=.str z/\z.length<=sizeLine/\Q (.str (Txt.slice z lo hi)) H):=by
 intro pins s G H x v vl vu lo hi sl Q I rx hs pl pu h;obtain⟨z,rfl,hz,q⟩:=h;obtain⟨t,rfl⟩ :∃t,v=.str z t:=rx;obtain⟨l,Rp,WL⟩ :∃l:Option (Int×Tok),vl=partValue l/\l.map (·.1)=lo:=by
  cases pl with
  |none=>exact⟨b_,rfl,rfl⟩
  |int i t=>exact⟨a_ (i,t),rfl,rfl⟩
 obtain⟨u,Ry,XN⟩ :∃l:Option (Int×Tok),vu=partValue l/\l.map (·.1)=hi:=by
  cases pu with
  |none=>exact⟨b_,rfl,rfl⟩
  |int i t=>exact⟨a_ (i,t),rfl,rfl⟩
 subst Rp Ry WL XN;refine⟨"str",_,PySem.F.slot_str_getitem.lookup,typeIs_str _ _ _,?_⟩;obtain⟨o,ho,hc,hd⟩:=hs;refine wpAny_getItem_str_slice (l:=l) (u:=u) (st:=b_) ⟨o,ho,hc,hd⟩ rfl (post_val_or_str ⟨aA (Txt.slice_le z _ _) hz,λt' k=>⟨.str _,H,?_,⟨_,rfl⟩,q⟩⟩);exact I.kept (t':=k) (h':=s.heap) λb ob q=>q
theorem LL{lo hi:Option ME}(h:tM K (lC a lo hi) G H Q):tSl (λx lo hi H Q=>∃z,x=.str z/\z.length<=sizeLine/\Q (.str (Txt.slice z lo hi)) H) (tM K a) (tO K lo) (tO K hi) G H Q:=by
 obtain⟨μ,S,Y,u,S',hr,er,e,k⟩:=h;obtain⟨x,S1,e1,e⟩:=aK e;obtain⟨l,S2,e2,e⟩:=aK e;obtain⟨r,S3,e3,e⟩:=aK e
 split at e
 rotate_left
 .cases e
 rename_i z
 split at e
 rotate_left
 .cases e
 rename_i hz
 cases e;refine⟨μ,S,Y,_,S1,hr,er,e1,λY0 vx H1 p1 k1 ZY rx=>?_⟩;refine um (hr:=ZY) (er:=er.mono k1 p1) e2 λY5 H2 p2 k2 ZU=>?_;refine um (hr:=ZU) (er:=er.mono (k1.trans k2) (p1.trans p2)) e3 λG' H3 p3 k3 ZM=>?_;exact⟨_,ir rx,by rw[sizeLine_eq];exact hz,k G' _ H3 (p1.trans (p2.trans p3)) (k1.trans (k2.trans k3)) ZM nu⟩
theorem PE.altF{f g:MF}{a:MA}(h1:PE X e (tM K (mFn f a)))(h2:PE X e (tM K (mFn g a))):PE X e (tM K (mFn (nq f g) a)):=by
 intro pins s G H Q I h;obtain⟨μ,S,Y,u,S',hr,er,e,k⟩:=h;obtain⟨xs,S1,e1,e⟩:=aK e;rcases fJ.mp e with e|⟨_,e⟩
 .exact h1 pins s G H Q I ⟨μ,S,Y,u,S',hr,er,by unfold mFn;rw[e1];exact e,k⟩
 .exact h2 pins s G H Q I ⟨μ,S,Y,u,S',hr,er,by unfold mFn;rw[e1];exact e,k⟩
theorem PE.altO{f g:F2}{b:ME}(h1:PE X e (tM K (m2 f a b)))(h2:PE X e (tM K (m2 g a b))):PE X e (tM K (m2 (eN f g) a b)):=by
 intro pins s G H Q I h;obtain⟨μ,S,Y,u,S',hr,er,e,k⟩:=h;obtain⟨x,S1,e1,e⟩:=aK e;obtain⟨y,S2,e2,e⟩:=aK e;rcases fJ.mp e with e|⟨_,e⟩
 .exact h1 pins s G H Q I ⟨μ,S,Y,u,S',hr,er,by unfold m2;rw[e1,ak,e2];exact e,k⟩
 .exact h2 pins s G H Q I ⟨μ,S,Y,u,S',hr,er,by unfold m2;rw[e1,ak,e2];exact e,k⟩
def M8(K:ai):R2:=λx y H Q=>∃p xs d ds,y=.ref p/\(SqL K H p xs\/SqT K H p xs)/\jz K H x d/\Paired (jz K H) xs ds/\Q (.bl (ds.any λe=>eJ e d)) H
theorem Jj(XN:X.A.in1.units+64<cLine):OpR X (compareOp .In) (M8 X.K):=by
 intro pins s G H x y v u Q I rx ry h;obtain⟨p,xs,d,ds,rfl,hq,hd,hp,q⟩:=h;cases ry;obtain⟨bs,rv⟩:=hd.1.reads I rx;rcases hq with hq|hq
 .obtain⟨ZX,r,pl,hz⟩:=I.list hq
  refine SeqAt.in_listAt (eqR s d) pl.isList (λw hw=>oA I rv (eF hd) XN r hp w (by simpa using hw)) ⟨.bl _,H,I,rfl,?_⟩;rw[show ZX.toArray.any (eqR s d)=ZX.any (eqR s d) by simp,oq I r hp];exact q
 .obtain⟨ZX,r,pl,hz⟩:=I.tuple hq
  refine SeqAt.in_tupleAt (eqR s d) pl (λw hw=>oA I rv (eF hd) XN r hp w (by simpa using hw)) ⟨.bl _,H,I,rfl,?_⟩;rw[show ZX.toArray.any (eqR s d)=ZX.any (eqR s d) by simp,oq I r hp];exact q
theorem KB:OpU K (M8 K) yc:=by
 intro μ S H x y vx vy u S' Q hr rx ry e a;unfold yc inT at e;cases q1:toD S 40 x with
 |none=>rw[q1]at e;cases e
 | some d=>
   cases q2:dJ S y with
   |none=>rw[q1,q2]at e;cases e
   | some ys=>
     cases q3:c9 (toD S 40) ys with
     |none=>rw[q1,q2]at e;simp only[ay,q3]at e;cases e
     | some ds=>
       rw[q1,q2]at e;simp only[ay,q3]at e;cases e;obtain⟨p,zs,rfl,hs,r'⟩:=hr.seq ry q2;exact⟨p,zs,d,ds,rfl,hs,pV hr rx q1,yk hr q3 r',a.now hr hG⟩
def zY:V->List V->Hp->VK->Prop:=λx vs H Q=>∃l xs i y,x=.ref l/\vs=[.int i,y]/\H l=a_ (.lst xs)/\0<=i/\i<=xs.length/\xs.length<1000000/\Q .non (upd H l (.lst (xs.take i.toNat++y::xs.drop i.toNat)))
theorem AZ:MtM X "list.insert" zY:=by
 intro pins s G H x vs v us Q I rx rv h;obtain⟨l,xs,i,y,rfl,rfl,hH,h0,h1,hz,q⟩:=h;cases rx;cases rv with
 | cons r1 rv=>
   cases rv with
   |cons ru WH=>
   cases WH;obtain⟨t,rfl⟩:=r1
   rename_i u
   obtain⟨z,ZX,n,r,hl,e⟩:=I.lstM hH;refine call_meets xT ⟨_,e,rfl⟩ PySem.F.entry_list_insert (PySem.F.args_list_insert_3 _ _ _)
    (PySem.AutoSeq1.list_insert_list_int_val_1 l ZX.toArray n i t u ?_ (by rw[bU,sizeLine_eq];omega)) ⟨e,?_⟩
   .rw[fitsIndex_both (by omega) (by omega)];decide
   .refine⟨.non,_,I.lset (its':=ZX.take i.toNat++u::ZX.drop i.toNat) hH e ?_ ((r.take _).append (.cons ru (r.drop _))) ?_,rfl,q⟩
    .have hk: ¬i<0:=by omega
     have hm:min i.toNat ZX.length=i.toNat:=by omega
     simp only[bU,if_neg hk,hm];simp[nH];exact BB (by rw[mE];omega)
    .simp only[dv,c8,mD,mE,sizeLine_eq]
     omega
theorem Bj:MtU K zY kn:=by
 intro μ S H n p us vs u S' Q hr hp rs e a;unfold kn at e
 split at e
 rotate_left
 .cases e
 split at e
 rotate_left
 .cases e
 rename_i i x z ws q
 split at e
 rotate_left
 .cases e
 rename_i hc
 cases e;obtain⟨v,r,rfl,rx,rn⟩:=rs.inv;obtain⟨v2,r2,rfl,ry,RY⟩:=rn.inv;rw[RY.nil_inv,cR rx];obtain⟨xs,e0,r0⟩:=hr.cell n _ p q hp;have hl:=r0.len;refine⟨p,xs,i,v2,rfl,rfl,e0,hc.1,by omega,by omega,yo a hr q hp ((r0.take _).append (.cons ry (r0.drop _))) o6⟩
end
section
variable {K:KX}{G:St}{H:Hp}{Q:VK}
end
section
variable {prog:Program}{w:World}{A:Around}{E:f_->g_->Prop}{s:g_}
end
section
variable {K:KX}{G:St}{H:Hp}{Q:VK}
end
def Az(i:Nat)(f:e_)(φ:MF)(a:MA):ME:=λY S=>match Y[i]? with
 |some (a_ (.obj g))=>if g=f then mFn φ a Y S else b_
 |_=>b_
def nh(is:List Nat)(Y:Rho):Option (List U):=c9 (λi=>(Y[i]?).bind id) is
def uR(np:Nat)(ml:ME)(cs:List U):MF:=λus S=>if us.length=np then ml (us.map a_++cs.map a_) S else b_
structure Lam(M:Mo)(f:e_)(k:Nat)(ps:List Str)(φ:MF):Prop where
 ex:∃fd:FuncData,((∃(oc:f_) (od:Option e_) (sl:Array (Option f_)),M.base.get? f=a_ ⟨oc,od,.func fd,sl⟩)\/cb M.K (.ref f)=c_)/\Binds M.K fd ps []/\g9 M.P M.w M.K M.mg M.base CX0 k f fd ps (spM M.K φ)
section
variable {M:Mo}{X:Cx}{k:Nat}{N:List Str}{ns:List (Str×NameKind)}{e:Expr}{es:List Expr}{ZV:MA}{x:Str}{p1 pos:Pos}
theorem zm{φ:MF}{k':Nat}(S:Sc M X k N ns)(F:Lam M f k' ps φ)(hk:k'<=k)(i:Nat)(hi:N[i]?=a_ x)(hv:i7 ns x=c_)(ha:PA X (e::es) (tMA M.K ZV))
  (hd:(x==("__debug__":Str))=d_) (ZH:(x==("__classdict__":Str))=d_)
  (he:starEach (e::es) X.env=(d_,eval e X.env)::starEach es X.env) (ZQ:(backTo pos (starEach es X.env)).any (·.1)=d_):
  PE X (.Call (.Name x p1) (e::es) [] pos) (tM M.K (Az i f φ ZV)):=by
 obtain⟨fd,hf,hb,F⟩:=F.ex;rw[<-S.hP,<-S.hw,<-S.hK,<-S.hm,<-S.hb]at F;rw[<-S.hb,<-S.hK]at hf;rw[<-S.hK]at hb;intro pins s G H Q I h;obtain⟨μ,S0,Y,u,S',hr,er,q,aft⟩:=h;unfold Az at q
 split at q
 rotate_left
 .cases q
 rename_i g hg
 split at q
 rotate_left
 .cases q
 rename_i VN
 subst VN;obtain⟨v,X0,rv⟩:=er.get i _ hg;subst (by omega);refine di (thn (lJ (by rw[S.hN];omega) (S.vis hv) hd ZH _ s G H (λv H1=>v=.ref g/\H1=H) I ⟨_,X0,rfl,rfl⟩) λw s1 ⟨v,H1,I1,r1,e1,e2⟩=>?_);subst e1;subst e2;obtain rfl:w=eA g:=r1;have hc:zx _ [] E0 _ G H1 Q:=BQ ⟨μ,S0,Y,u,S',hr,er,q,aft⟩;have hA:=ha pos _ s1 G H1 _ I1 hc;rcases hf with⟨oc,od,sl,hf⟩ |hf
 rotate_left
 .exact jX I1.ok.mod.kin hf (thn hA λus s2 ⟨vs,H2,I2,r2,q2⟩=>⟨I2.kIn,pj F (S.room.mono hk) hb .nil tV I2 r2 q2⟩) he ZQ
 rw[he];refine BC (P:=λh=>h.get? g=a_ ⟨oc,od,.func fd,sl⟩) (by show((d_||(backTo _ _).any _)||false)=d_;rw[ZQ];rfl)
  (λh q=>⟨_,.inl rfl,(oQ q).andThen .now⟩) (jq ?_)
 rw[he]at hA;exact thn hA λus s2 ⟨vs,H2,I2,r2,q2⟩=>⟨I2.bk g _ hf,(pj F (S.room.mono hk) hb .nil tV I2 r2 q2)⟩
end
end _G
namespace _G
open PySem PySem.Spec _L
open PySem.W (envX kla_fn kla_obj CodeHd tabObj)
open PyProof.Rows hiding St
structure j8(ps fs:List Str)(scope:Scope):Prop where
 kind:scope.kind=.function
 co:scope.isCoroutine=d_
 gen:scope.isGenerator=d_
 nd:(ps++fs).Nodup
 par:∀p∈ps,scope.names.lookup p=a_ .local\/scope.names.lookup p=a_ .cell
 cel:∀x∈scope.names,x.2=.cell->scope.names.lookup x.1=a_ .cell
 fre:∀y∈scope.names,y.2=.free->y.1∈fs
 free:∀y∈fs,scope.names.lookup y=a_ .free
theorem nA:∀(names:List (Str×NameKind)) (n:Nat) (a b:List (Str×e_)),cellsFrom n names (a++b)=cellsFrom n names a++b
 |[],_,_,_=>rfl
 | (x,k)::r,n,a,b=>by
   unfold cellsFrom;cases k==dr with
   |true=>exact nA r _ ((x,n)::a) b
   |false=>exact nA r n a b
theorem A8(names:List (Str×NameKind))(n:Nat)(b:List (Str×e_)):cellsFrom n names b=cellsFrom n names []++b:=nA _ n [] b
theorem pq:∀(names:List (Str×NameKind)) (n:Nat) (a:List (Str×e_)) {x:Str}{c:e_},(x,c)∈cellsFrom n names a->(x,dr)∈names\/(x,c)∈a
 |[],_,_,_,_,h=>.inr h
 | (y,k)::r,n,a,x,c,h=>by
   unfold cellsFrom at h
   split at h
   .rcases pq r _ _ h with h|h<;>grind
   .exact(pq r n a h).imp (az _) id
variable{x:Str}
theorem gm{α:Type}{c:α}:∀{a b:List (Str×α)},a.lookup x=a_ c->(a++b).lookup x=a_ c
 |a,b,h=>by rw[hX,h];rfl
theorem iT{α:Type}:∀{a b:List (Str×α)},a.lookup x=b_->(a++b).lookup x=b.lookup x
 |a,b,h=>by rw[hX,h];rfl
theorem hZ{α:Type}{c:α}{a b:List (Str×α)}(h:(a++b).lookup x=a_ c):a.lookup x=a_ c\/(a.lookup x=b_/\b.lookup x=a_ c):=by
 cases q:a.lookup x with
 |some d=>rw[gm q]at h;exact .inl h
 |none=>rw[iT q]at h;exact .inr ⟨rfl,h⟩
theorem rg{f g:Str×f_->PUnit->Sem (ForInStep PUnit)}:∀{l:List (Str×f_)},(∀x∈l,∀u,f x u=g x u)->forIn l PUnit.unit f=forIn l PUnit.unit g
 |[],_=>rfl
 | x::l,h=>by
   have ih:=rg λy hy=>h y (az _ hy)
   simp_all
variable{env:Env}
theorem yR{cs:List (Str×e_)}{v:f_}(h:env.kindOf x=a_ .local\/env.cells.lookup x=cs.lookup x):storeName env x v=storeName { env with cells:=cs } x v:=by
 rcases h with h|h
 .have h':Env.kindOf { env with cells:=cs } x=a_ _:=h
  unfold storeName;rw[h,h'];rfl
 .have e:cellOf env x=cellOf { env with cells:=cs } x:=by unfold cellOf;rw[h]
  unfold storeName;rw[e];rfl
variable{A:Around}{scope:Scope}{cl:List (Str×e_)}{qual:Str}
theorem zI{M:Model}{E:f_->g_->Prop}{s:g_}{g:e_}{binds:List (Str×f_)}{func:Option e_}{code:f_}{bt:e_}{Q:Env->g_->Prop}(hk:scope.kind=.function)
  (hb:∀x∈binds,scope.names.lookup x.1=a_ .local\/scope.names.lookup x.1=a_ .cell)
  (hQ: ∀s',InCallC s s.heap.objs.size (bindL (λx=>scope.names.lookup x) binds λ_=>b_) (cellsFrom (s.heap.objs.size+1) scope.names []) (bindC (λx=>scope.names.lookup x) binds λ_=>b_) s' ->
   Q (newEnv scope s.heap.objs.size g (cellsFrom (s.heap.objs.size+1) scope.names []++cl) qual func code b_ bt) s'):
  aR M A (newFunctionEnv scope g cl binds qual func code b_ bt) Q E s:=by
 have ok:CellsOk (pushCells (s.heap.push { cls := .type "frame",data := .dict #[] }) _) _ _:=
  cellsFrom_ok scope.names _ _ [] ⟨λ_ _ z=>(nomatch z),gI⟩ (ao _)
 rw[dy]at ok;have Ri:InCallC s _ _ _ _ _:=
  ⟨⟨⟨_,s.toks,rfl⟩,(Heap.Ns.new _ _).keeps λb o e=>pushCells_keeps _ _ b o e,λb o e=>pushCells_keeps _ _ b o (aw _ e),ao _⟩,
   λn c hc=>(ok.empty n c (mem_of_lookup hc)).1,ok.apart,λn c hm=>Nat.lt_of_succ_le (ok.empty n c hm).2⟩
 refine aB (wpAny_alloc (aB (wpAny_layCells _ (λnm kd cs=>by cases q:kd==dr<;>simp[q]) _ _ _ _ ?_)));rw[dy ..,A8];refine aB ?_;have same:∀x∈binds,∀v,storeName (newEnv _ s.heap.objs.size g (cellsFrom (s.heap.objs.size+1) _ []++cl) _ _ _ b_ bt) _ v=storeName (newEnv _ _ g _ qual func code b_ bt) _ v:=λx hx v=>by
  refine yR ?_;rcases hb x hx with h|h
  .exact .inl h
  .obtain⟨c,hc⟩:=jm h
   exact .inr (by rw[hc];exact gm hc)
 show aR M A (forIn binds _ λx _=>(do storeName (newEnv _ _ g _ _ _ _ b_ bt) x.1 _;pure _)) _ E _;rw[rg λx hx u=>by rw[same x hx]];refine wpAny_bindParams _ (λ_ _ _=>rfl) hk _ _ _ _ _ Ri (λx hx=>?_) λs' x=>bj (hQ s' x);rcases hb x hx with h |h
 .exact .inl h
 .obtain⟨c,hc⟩:=jm h
  exact .inr ⟨h,by show((cellsFrom _ _ []).lookup _).isSome=c_;rw[hc];rfl⟩
def lr(base:Heap)(cl:List (Str×e_)):List Str->List V->Prop
 |[],[]=>True
 |y::fs,v::vs=>(∃c o u,cl.lookup y=a_ c/\base.get? c=a_ o/\o.data=.cell (a_ u)/\RelV v u)/\lr base cl fs vs
 |_,_=>False
theorem lr.len{base:Heap}{cl:List (Str×e_)}:∀{fs:List Str}{vs:List V},lr base cl fs vs->fs.length=vs.length
 |[],[],_=>rfl
 |_::_,_::_,h=>by simp[lr.len h.2]
 |[],_::_,h=>h.elim
 |_::_,[],h=>h.elim
theorem lr.get{base:Heap}{cl:List (Str×e_)}:∀{fs:List Str}{vs:List V}{i:Nat}{y:Str}{v:V},lr base cl fs vs->fs[i]?=a_ y->vs[i]?=a_ v->∃c o u,cl.lookup y=a_ c/\base.get? c=a_ o/\o.data=.cell (a_ u)/\RelV v u
 |[],_,i,y,v,_,h1,_=>by simp at h1
 |_::_,[],i,y,v,h,_,_=>h.elim
 | _::_,_::_,0,y,v,h,h1,h2=>by
   simp at h1 h2;subst h1;subst h2;exact h.1
 |_::_,_::_,i+1,y,v,h,h1,h2=>lr.get h.2 (by simpa using h1) (by simpa using h2)
def pB(qual:Str)(scope:Scope)(L f:e_)(cd:f_)(cl:List (Str×e_)):Env:=envX qual scope L f cd (cellsFrom (L+1) scope.names []++cl)
def v9(P:Program)(w:World)(K:ai)(mg:Str->Option f_)(base:Heap)(N:List Str)(qual:Str)(scope:Scope)(f:e_)(cd:f_)(cl:List (Str×e_))(A:Around)(outer:List Env)(s:g_)(H:Hp):Cx where
 prog:=P
 w:=w
 K:=K
 mg:=mg
 base:=base
 A:=A.deeper (pB qual scope s.heap.objs.size f cd cl)
 N:=N
 s₀:=s
 H₀:=H
 env:=pB qual scope s.heap.objs.size f cd cl
 outer:=outer
 stack:=pB qual scope s.heap.objs.size f cd cl::outer
 ex:= []
 calm:=c_
 fn:=λx=>scope.names.lookup x==a_ .cell
 pn:= []
 xe:=λ_ _=>False
variable{mg:Str->Option f_}{cv:List V}
theorem z9{P:Program}{w:World}{K:ai}{base:Heap}{ps fs:List Str}{f:e_}{cd:f_}{outer:List Env}{s s1:g_}{H:Hp}{us:List f_}{vs:List V}
  (S:j8 ps fs scope) (hd:A.handled=b_) (e0:Ay P w K mg base A outer s H) (hl:vs.length=ps.length) (r:cf vs us) (C:lr base cl fs cv)
  (YD:∀y c,cl.lookup y=a_ c->∃o v,base.get? c=a_ o/\o.data=.cell v) (inj:∀x y c,cl.lookup x=a_ c->cl.lookup y=a_ c->x=y)
  (x:InCallC s s.heap.objs.size (bindL (λy=>scope.names.lookup y) (ps.zip us) λ_=>b_) (cellsFrom (s.heap.objs.size+1) scope.names []) (bindC (λy=>scope.names.lookup y) (ps.zip us) λ_=>b_) s1):
  Inv (v9 P w K mg base (ps++fs) qual scope f cd cl A outer s H) [] (vs.map a_++cv.map a_) H s1:=by
 obtain⟨h1,tk,rfl,hk⟩:=x.done;have WO:=(List.nodup_append.mp S.nd).1;have newc:∀y c,(cellsFrom _ _ []).lookup y=a_ c->scope.names.lookup y=a_ _/\s.heap.objs.size<c:=λy c e=>by
  have m:=mem_of_lookup e;rcases pq _ _ _ m with z|z
  .exact⟨S.cel _ z rfl,x.above y c m⟩
  .simp at z
 have oldc:∀y c,cl.lookup y=a_ c->c<s.heap.objs.size/\(∃v,h1.IsCell c v)/\H c=b_:=λy c e=>by
  obtain⟨o,v,e1,e2⟩:=YD y c e;exact⟨aF (e0.bs c o e1).1,⟨v,o,hk _ _ (e0.bs c o e1).1,e2⟩,(e0.bs c o e1).2⟩
 have frc:∀y∈fs,(cellsFrom _ _ []).lookup y=b_:=λy hy=>by
  cases q:(cellsFrom _ _ []).lookup y with
  |none=>rfl
  | some c=>
    have:=(newc y c q).1;rw[S.free y hy]at this;grind
 have noA:∀b,b∉(v9 P w K mg base (ps++fs) qual scope f cd cl A outer s H).ex:=λb z=>absurd (show b∈[] from z) (by simp)
 refine⟨⟨e0.mod,S.kind,rfl,rfl,ao _,λy z c e1 e2 =>?_,λy hy =>?_,λy c hy e =>?_,λ_=>hd,By e0.frames,.inr ⟨rfl,rfl⟩,λb z=>absurd z (noA b),e0.bs,e0.bsz,λb _ _=>noA b,λb z=>absurd z (noA b),e0.funs,e0.frf⟩,
  rfl,e0.bare,Un.kept hk,⟨_,x.toInCall.ns,λi y v h2 h3 h4 =>?_⟩,λy c h =>?_,e0.hok.fresh (ao _),λy c h =>?_,λp hp=>absurd (show p∈[] from hp) (by simp),e0.hok.kept hk,?_⟩
 .rcases hZ e1 with e1|⟨_,e1⟩
  .rcases hZ e2 with e2|⟨_,e2⟩
   .exact name_of_addr x.apart (mem_of_lookup e1) (mem_of_lookup e2)
   .exact absurd (dQ (newc y c e1).2 (oldc z c e2).1) (bT _)
  .rcases hZ e2 with e2|⟨_,e2⟩
   .exact absurd (dQ (newc z c e2).2 (oldc y c e1).1) (bT _)
   .exact inj y z c e1 e2
 .rcases hy with hy|hy
  .obtain⟨c,hc⟩:=jm hy
   exact⟨c,gm hc⟩
  .have hf:=S.fre _ (mem_of_lookup hy) rfl
   obtain⟨i,hi⟩:=List.getElem?_of_mem hf;have Wx:i<cv.length:=by rw[<-C.len];exact(ag.mp hi).1
   obtain⟨c,o,u,e,_⟩:=C.get hi (aG Wx);exact⟨c,(iT (frc y hf)).trans e⟩
 .rcases hZ e with e|⟨_,e⟩
  .exact br (newc y c e).2
  .obtain⟨c',YK⟩:=jm (eq_of_beq hy)
   rename_i z
   rw[YK]at z;cases z
 .have hN:(ps++fs)[i]?=a_ y:=h2
  by_cases hi:i<ps.length
  .rw[aS hi]at hN
   rw[aS (by simpa [hl]using hi),ba]at h3;cases e:vs[i]? with
   |none=>rw[e]at h3;cases h3
   | some a=>
     rw[e]at h3;cases h3;obtain⟨u,hu,rv⟩:=r.get e;refine⟨u,rv,?_⟩;rcases S.par y (bo hN) with kd|kd
     .exact .inl ⟨kd,pd WO hN hu kd⟩
     .obtain⟨c,hc⟩:=jm kd
      refine .inr ⟨.inl kd,c,gm hc,?_⟩;have z:=x.cell y c hc;rw[pe WO hN hu (by rw[kd];decide)]at z;omega
  .rw[bp (by simp_all)]at hN
   rw[bp (by simp;omega),ba]at h3;simp only[aj,hl]at h3;cases e:cv[i-ps.length]? with
   |none=>simp_all
   | some a=>
     rw[e]at h3;cases h3;have hf:=bo hN;obtain⟨c,o,u,e1,e2,e3,e4⟩:=C.get hN e;exact⟨u,e4,.inr ⟨.inr (S.free y hf),c,(iT (frc y hf)).trans e1,o,hk _ _ (e0.bs c o e2).1,e3⟩⟩
 .rcases hZ h with e|⟨_,e⟩
  .exact⟨_,x.cell y c e⟩
  .exact(oldc y c e).2.1
 .rcases hZ h with e|⟨_,e⟩
  .exact e0.hok.fresh (br (newc y c e).2)
  .exact(oldc y c e).2.2
 .show(vs.map _++cv.map _).length=(ps++fs).length
  simp[hl,C.len]
variable{oc:Obj}{ws:Array f_}
theorem Kx{M:Mo}(h0:M.mkr=b_){name:Str}{params:Arguments}{body:Expr}{pm Zl:f_}{c f:e_}{t:Tok}{ps fs:List Str}{k:Nat}{ml:ME}{od:Option e_}{fc:f_}{W3:Array (Option f_)}{cs:List U}(XR:∀μ S H,HR M.K μ S H->RUs H μ cs cv)
  (hf:M.base.get? f=a_ ⟨fc,od,.func (kla_fn name qual params body scope cl pm (.ref c) Zl),W3⟩) (hc:(c,oc)∈M.K.cds) (Za:oc.data=.fields ws) (hq:ws[1]?=a_ (.str qual t))
  (S:j8 ps fs scope) (C:lr M.base cl fs cv) (YD:∀y c,cl.lookup y=a_ c->∃o v,M.base.get? c=a_ o/\o.data=.cell v) (inj:∀x y c,cl.lookup x=a_ c->cl.lookup y=a_ c->x=y)
  (hb:∀X,Sc M X k (ps++fs) scope.names->PE X body (tM M.K ml)):
  g9 M.P M.w M.K M.mg M.base CX0 (k+1) f (kla_fn name qual params body scope cl pm (.ref c) Zl) ps (spM M.K (uR ps.length ml cs)):=by
 have len:∀vs H Q E,spM M.K (uR ps.length ml cs) vs H Q E->vs.length=ps.length:=λvs H Q E h=>by
  obtain⟨μ,S',us,u,ZO,hr,rs,e,_⟩:=h;unfold uR at e
  split at e
  .rename_i hl;rw[<-rs.len];exact hl
  .cases e
 refine⟨len,λA outer s H args us vs Q E hr e0 Yi r Zk=>?_⟩;have hl:=len _ _ _ _ Zk;obtain⟨μ,S1,zs,u,S2,hR,rs,e,ka⟩:=Zk;refine Bu hr.depth (e0.bs f _ hf).1 rfl S.co S.gen rfl ⟨c,oc,ws,t,rfl,((e0.hok c _ (hR.ext.cds _ hc)).1),Za,hq⟩ (Yi _ _ _ _ ?_);refine zI S.kind (λx hx=>S.par _ (jK hx).1) λs1 x=>⟨(e0.mod.nolimit.keeps λb o e=>(e0.bs b o e).1).keeps x.toInCall.keep,?_⟩;show se _ _ (.expr body (pB qual scope s.heap.objs.size f (.ref c) cl)) _ _;have SS:Sc M (v9 M.P M.w M.K M.mg M.base (ps++fs) qual scope f (.ref c) cl A outer s H) k (ps++fs) scope.names:=
  ⟨rfl,rfl,rfl,rfl,rfl,rfl,S.nd,rfl,λ_ h=>h,λy h=>⟨h,by show(scope.names.lookup y==a_ .cell)=c_;rw[h];rfl⟩,λ_ h=>.inr h,λ_ h=>h,hr.deeper _,kW,λc q h=>by rw[h0]at h;cases h⟩
 unfold uR at e
 split at e
 rotate_left
 .cases e
 have er:ER H μ (zs.map a_++cs.map a_) (vs.map a_++cv.map a_):=by
  have rc:=XR _ _ _ hR;refine⟨by simp[rs.len,rc.len],λi w hw=>?_⟩;rw[<-cN,ba]at hw;cases q:(zs++cs)[i]? with
  |none=>rw[q]at hw;cases hw
  | some w'=>
    rw[q]at hw;cases hw;obtain⟨v,hv,rv⟩:=(rs.append rc).get q;exact⟨v,by rw[<-cN,ba,hv];rfl,rv⟩
 refine Bv (bV (hb _ SS [] _ _ H Q (z9 (qual:=qual) (f:=f) (cd:= .ref c) S hr.hd e0 hl r C YD inj x) ⟨μ,S1,_,u,S2,hR,er,e,ka⟩) (λv s' hs=>?_) λe s' hs=>hs.elim);obtain⟨x,H',J,rv,q⟩:=hs;exact⟨x,H',J.os,J.bare,J.base,J.hok,rv,q⟩
def fP(cells:List (Str×e_)):List (Str×NameKind)->List (Str×e_)->List (Str×e_)
 |[],acc=>acc
 | (y,k)::r,acc=>if k==.free then(match cells.lookup y with
   |some c=>fP cells r ((y,c)::acc)
   | none=>fP cells r acc) else fP cells r acc
theorem yM{scope:Scope}(h:∀y∈scope.names,y.2=.free->∃c,env.cells.lookup y.1=a_ c):closureFor scope env=pure (fP env.cells scope.names []):=by
 unfold closureFor;have key:∀(l:List _) (acc:List _),(∀y∈l,y.2=.free->∃c,env.cells.lookup y.1=a_ c) ->
   (forIn l acc λx r=>if (x.2==aX)=c_ then(do let a <- cellOf env x.1;pure (ed ((x.1,a)::r))) else pure (ed r):Sem _)=pure (fP env.cells l acc):=by
  intro l
  induction l with
  |nil=>intro acc _;rfl
  | cons y l ih=>
    intro acc hh;rw[List.forIn_cons];unfold fP;cases q:y.2==aX with
    | true=>
      obtain⟨c,hc⟩:=hh y bq (eq_of_beq q);have e:cellOf env y.1=pure c:=by unfold cellOf;rw[hc]
      simp only[e,hc];exact ih _ λz hz=>hh z (az _ hz)
    | false=>
      exact ih _ λz hz=>hh z (az _ hz)
 have e:=key _ [] h;rw[bind_pure];omega
theorem mx{cells:List (Str×e_)}:∀(l:List (Str×NameKind)) (acc:List (Str×e_)) {y:Str}{c:e_},(y,c)∈fP cells l acc->(y,c)∈acc\/(cells.lookup y=a_ c/\(y,aX)∈l)
 |[],acc,y,c,h=>.inl h
 | (z,k)::l,acc,y,c,h=>by
   unfold fP at h
   split at h
   .split at h
    .rcases mx l _ h with h|h<;>grind
    .exact(mx l _ h).imp id λh=>⟨h.1,az _ h.2⟩
   .exact(mx l _ h).imp id λh=>⟨h.1,az _ h.2⟩
theorem mz{cells:List (Str×e_)}:∀(l:List (Str×NameKind)) (acc:List (Str×e_)) {y:Str}{c:e_},(y,c)∈acc->(y,c)∈fP cells l acc
 |[],acc,y,c,h=>h
 | (z,k)::l,acc,y,c,h=>by
   unfold fP
   split
   .split
    .exact mz l _ (az _ h)
    .exact mz l _ h
   .exact mz l _ h
theorem md{cells:List (Str×e_)}:∀(l:List (Str×NameKind)) (acc:List (Str×e_)) {y:Str}{c:e_},(y,aX)∈l->cells.lookup y=a_ c->(y,c)∈fP cells l acc
 |[],acc,y,c,h,_=>by simp at h
 | (z,k)::l,acc,y,c,h,hc=>by
   unfold fP;rcases bf.mp h with e|h
   .cases e
    simp[hc];exact mz l _ bq
   .split
    .split
     .exact md l _ h hc
     .exact md l _ h hc
    .exact md l _ h hc
theorem lookup_mem{α:Type}:∀{l:List (Str×α)}{y:Str}{c:α},(y,c)∈l->∃d,l.lookup y=a_ d
 |[],y,c,h=>by simp at h
 | (z,d)::l,y,c,h=>by
   rw[bD];cases q:y==z with
   |true=>exact⟨d,rfl⟩
   | false=>
     rcases bf.mp h with e|h
     .grind
     .exact lookup_mem h
variable{cells:List (Str×e_)}{l:List (Str×NameKind)}{y:Str}{c:e_}
theorem kz(h:(fP cells l []).lookup y=a_ c):cells.lookup y=a_ c/\(y,aX)∈l:=by
 rcases mx l [] (bN h) with h|h<;>simp_all
theorem A7(h:(y,aX)∈l)(hc:cells.lookup y=a_ c):(fP cells l []).lookup y=a_ c:=by
 obtain⟨d,hd⟩:=lookup_mem (md l [] h hc);have:=(kz hd).1
 grind
theorem yT{pos:Pos}{a b:Int}{c cv:f_}(l:List f_)(h:TriplesOk l)(hc:codeAmong pos (l++[rawInt a,rawInt b,c])=a_ cv):codeAmong pos l=a_ cv\/cv=c:=by
 fun_induction TriplesOk l with
 | case1=>
   simp[rawInt,codeAmong]at hc
   grind
 | case2 x t y u z rest ih=>
   simp only[List.cons_append,codeAmong]at hc ⊢
   split at hc
   .rename_i q;rw[if_pos q];exact .inl hc
   .rename_i q;rw[if_neg q];exact ih h hc
 |case3 l h1 h2=>exact h.elim
section
variable {K:KX}{H:Hp}{μ:List e_}{S:Sto}
theorem HR.table{P:e_}{ps:Array f_}{t:Tok}{a b:Int}{q:Str}(h:HR K μ S H)(hP:H P=a_ (.tbl ps))(hc:H c=b_)(Za:oc.data=.fields ws)(hq:ws[1]?=a_ (.str q t))(un:∀r∈K.tabs,r.1=P->r.2=q):
  bh H (upd (upd H c (.frz oc fz)) P (.tbl (ps ++ #[rawInt a,rawInt b,.ref c])))/\HR K μ S (upd (upd H c (.frz oc fz)) P (.tbl (ps ++ #[rawInt a,rawInt b,.ref c]))):=by
 have stay:∀x o,H x=a_ o->(∀ps,o≠.tbl ps)->upd (upd H c (.frz oc fz)) P (.tbl (ps ++ #[rawInt a,rawInt b,.ref c])) x=a_ o:=λx o e n=>by
  rw[bc (pO e hP (n ps)),bc (bg e hc)];omega
 have kp:bh H _:=⟨λx vs e=>stay x _ e (λ_ z=>nomatch z),λx o u e=>stay x _ e (λ_ z=>nomatch z)⟩;have fr:∀x o u,H x=a_ _->upd _ P _ x=a_ (.frz o u):=λx o u e=>stay x _ e λ_ z=>by cases z
 refine⟨kp,h.len,h.inj,λm d x q1 q2=>(h.cell m d x q1 q2).mono kp (Pre.refl _) (λhd=>?_) λo u e=>fr x o u e,RUs.mono kp (Pre.refl _) _ _ h.ext.cap,λr hr=>fr _ _ _ (h.ext.cds r hr),λr hr=>?_⟩
 .obtain⟨o,e,_,_,nb⟩:=(h.cell m d x q1 q2).has hd
  rw[stay x o e nb,e]
 .obtain⟨Yc,e,tr,al⟩:=h.ext.tab r hr
  by_cases Zs:r.1=P
  .rw[Zs,hP]at e
   cases e;refine⟨_,by rw[Zs,cx],by rw[gJ];exact TriplesOk_snoc _ _ _ _ tr,λpos cv WC=>?_⟩;rw[gJ]at WC;rcases yT _ tr WC with z |z
   .obtain⟨d,od,vs,t',e1,e2,e3,e4⟩:=al _ cv z
    exact⟨d,od,vs,t',e1,fr _ _ _ e2,e3,e4⟩
   .exact⟨c,oc,ws,t,z,by rw[bc ((bg hP hc).symm),cx],Za,by rw[un r hr Zs];omega⟩
  .refine⟨_,by rw[bc Zs,bc (bg e hc)];omega,tr,λpos cv WC=>?_⟩
   obtain⟨d,od,vs,t',e1,e2,e3,e4⟩:=al _ cv WC;exact⟨d,od,vs,t',e1,fr _ _ _ e2,e3,e4⟩
end
section
variable {X:Cx}{pins:List (e_×Obj)}{G:St}{H:Hp}{s:g_}
theorem Aw{P:e_}{ps more:Array f_}{ob:Obj}{h':Heap}{tk:Nat}(I:Inv X pins G H s)(hP:H P=a_ (.tbl ps))(hx:Heap.ExtBut P s.heap h')(XZ:s.heap.objs.size<=c)(hc:h'.get? c=a_ oc)(XJ:h'.get? P=a_ (tabObj (ps++more))):
  Inv X pins G (upd (upd H c (.frz oc fz)) P (.tbl (ps++more))) { s with heap:=h'.push ob,toks:=tk }:=by
 have U3:=I.hok.fresh XZ;have kp:∀b o,b≠P->s.heap.get? b=a_ o->(h'.push ob).get? b=a_ o:=λb o n e=>aw _ (hx b o n e);have nP:∀b,H b=b_->b≠P:=λb n z=>by grind
 have stay:∀x o,H x=a_ o->(∀ps,o≠.tbl ps)->upd (upd H c (.frz oc fz)) P (.tbl (ps++more)) x=a_ o:=λx o e n=>by
  rw[bc (pO e hP (n ps)),bc (bg e U3)];omega
 refine I.step (ch:= []) (λ_ z=>nomatch z) (λb o _ _ _ e n=>kp b o (nP b n) e) (λb o _ _ _ e n=>⟨_,kp b o (nP b n) e⟩)
  (λb o _ e n=>by rw[bc (nP b n),bc (bx (ax (aF e) XZ))];omega) (λb o _ e=>?_) (λb xs e=>stay b _ e λ_ z=>by cases z) (λb o u e=>stay b _ e λ_ z=>by cases z)
  (λb qs e=>?_) (λm hm=>?_) (λb u e=>?_) I.bare
 .by_cases hb:b=P
  .exact⟨_,by rw[hb];exact aw _ XJ⟩
  .exact⟨o,kp b o hb e⟩
 .by_cases hb:b=P
  .rw[hb,hP]at e
   cases e;exact⟨_,by rw[hb,cx]⟩
  .exact⟨#[],by rw[bc hb,bc (bg e U3),e];simp⟩
 .exact(hm.extBut hx (nP _ I.free)).push _
 .by_cases hb:b=P
  .rw[hb,cx]at e
   cases e;rw[hb];exact aw _ XJ
  .rw[bc hb]at e
   by_cases hbc:b=c
   .rw[hbc,cx]at e
    cases e;rw[hbc];exact⟨aw _ hc,trivial,⟨_,aw _ hc⟩,λ_ _ _ _=>trivial⟩
   .rw[bc hbc]at e
    refine(I.hok b u e).stay (λd v hd q=>kp d v ?_ q) (λd q=>stay d _ q λ_ z=>by cases z) λd xs q=>stay d _ q λ_ z=>by cases z
    grind
def baseOf(h:Heap)(H:Hp)(fr:List e_):Heap:=ek (wt h H) fr
variable{h:Heap}{fr:List e_}{b:e_}{o:Obj}
theorem gq{H:Hp}(e:h.get? b=a_ o)(n:H b=b_)(hf:b∉fr):(baseOf h H fr).get? b=a_ o:=dG _ (oh e n) hf
theorem Be{H:Hp}(e:(baseOf h H fr).get? b=a_ o):h.get? b=a_ o/\H b=b_:=Al (gX fr e)
theorem q9(I:Inv X pins G H s):∀b o,X.base.get? b=a_ o->(baseOf s.heap H (frs X.stack)).get? b=a_ o:=λb o e=>
 gq (I.bs b o e).1 (I.bs b o e).2 λz=>by
  have:=(I.stack.mem z).1
  grind
theorem ua(I:Inv X pins G H s):Ay X.prog X.w X.K X.mg (baseOf s.heap H (frs X.stack)) X.A X.stack s H:=by
 have k:=q9 I;obtain⟨m1,m2,⟨mb,m3,m4⟩,m5⟩:=I.ok.mod;refine⟨I.ok.frames,⟨m1.keeps k,m2.keeps k,⟨mb,m3.keeps k,m4⟩,m5.keeps k⟩,λb o e=>Be e,by rw[baseOf,nC,pE]<;>simp_all,?_,I.stkFree,I.hok,I.bare⟩;have all:∀l,(∀b∈frs l,b∈frs X.stack)->s.heap.FunFrames X.base l->s.heap.FunFrames (baseOf s.heap H (frs X.stack)) l:=by
  intro l
  induction l with
  |nil=>intro _ _;trivial
  | cons env r ih=>
    intro hs hl;obtain⟨hk,⟨L,o,hf,hn,ho,hd⟩,hr⟩:=hl;exact⟨hk,⟨L,o,hf,eo _ (hs L (by unfold frs;simp_all)),ho,hd⟩,ih (λb hb=>hs b (by unfold frs;rw[dN,hf];exact az _ hb)) hr⟩
 exact all _ (λ_ h=>h) I.stack
end
def f9(mg:Str->Option f_)(base:Heap):Prop := ∃ bm ob,mg "__builtins__"=a_ (.ref bm)/\bm≠builtinsNs/\base.get? bm=a_ ob/\ob.cls=.type "module"/\ob.dict=a_ builtinsNs/\ob.data=.plain
theorem f9.keeps{b b':Heap}(h:f9 mg b)(k:∀a o,b.get? a=a_ o->b'.get? a=a_ o):f9 mg b':=
 let ⟨bm,ob,e1,e2,e3,r⟩:=h;⟨bm,ob,e1,e2,k _ _ e3,r⟩
structure Mkr(M:Mo)(c P:e_)(q:Str):Prop where
 hd:∀h:Heap,M.K.K.In h->CodeHd h c P
 bl:f9 M.mg M.base
 gP:mainGlobals≠P
 mem:(P,q)∈M.K.tabs
 un:∀r∈M.K.tabs,r.1=P->r.2=q
def KX.to(K:KX)(caps:List U)(capv:List V)(cds:List (e_×Obj)):KX:=⟨K.K,caps,capv,cds,K.tabs⟩
def Mo.to(M:Mo)(caps:List U)(capv:List V)(cds:List (e_×Obj))(base:Heap):Mo:=⟨M.P,M.w,M.K.to caps capv cds,M.mg,base,b_⟩
structure FnC(M:Mo)(x:Str)(k:Nat)(ps:List Str)(F:e_->MF->MF):Prop where
 ex:∃(f:e_) (fd:FuncData),M.mg x=a_ (.ref f)/\cb M.K (.ref f)=c_/\Binds M.K fd ps [] /\
  ∀(caps:List U) (capv:List V) (cds:List (e_×Obj)) (base:Heap) (g:e_) (j:Nat) (lps:List Str) (φ:MF),f9 M.mg base->k<=j->Lam (M.to caps capv cds base) g j lps φ ->
   g9 M.P M.w M.K M.mg base CX0 (j+1) f fd ps (spM (M.K.to caps capv cds) (F g φ))
section
variable {M:Mo}{X:Cx}{k:Nat}{N:List Str}{ns:List (Str×NameKind)}{pins:List (e_×Obj)}{G:St}{H:Hp}{s:g_}
theorem vZ(S:Sc M X k N ns)(I:Inv X pins G H s)(hy:ns.lookup y=a_ .cell)(hc:X.env.cells.lookup y=a_ c):c∉frs X.stack:=λz=>by
 rcases bf.mp (I.stkSub c z) with e|hb
 .exact I.cne y c hc e
 .obtain⟨_,o,ho,_⟩:=I.ok.funs.mem hb
  exact absurd (ax (aF ho) (I.ok.cab y c ((S.cel y hy).2) hc)) (bT _)
theorem Ah(S:Sc M X k N ns)(I:Inv X pins G H s){μ:List e_}{Y:Rho}(er:ER H μ Y G){names:List (Str×NameKind)}:∀{fs:List Str}{is:List Nat}{cs:List U},(∀y∈fs,ns.lookup y=a_ .cell/\(y,aX)∈names) ->
  c9 (λy=>N.findIdx? (· == y)) fs=a_ is->nh is Y=a_ cs->∃cv,RUs H μ cs cv/\lr (baseOf s.heap H (frs X.stack)) (fP X.env.cells names []) fs cv
 |[],is,cs,_,h1,h2=>by cases h1;cases h2;exact⟨[],.nil,trivial⟩
 | y::fs,is,cs,hf,h1,h2=>by
   unfold c9 at h1;cases e1:N.findIdx? _ with
   |none=>rw[e1]at h1;cases h1
   | some i=>
     rw[e1]at h1;cases e2:c9 _ fs with
     |none=>rw[e2]at h1;cases h1
     | some is'=>
       rw[e2]at h1;cases h1;unfold nh c9 at h2;cases e3:(Y[i]?).bind id with
       |none=>simp_all
       | some u=>
         rw[e3]at h2;cases e4:c9 _ _ with
         |none=>rw[e4]at h2;cases h2
         | some cs'=>
           rw[e4]at h2;cases h2;obtain⟨cv,r1,r2⟩:=Ah S I er (λz hz=>hf z (az _ hz)) e2 (e4);have Y8:Y[i]?=a_ (a_ u):=by
            grind
           obtain⟨v,X0,rv⟩:=er.get i u Y8;obtain⟨hi,hy,_⟩:=eu.mp e1;obtain⟨m,hn,hl⟩:=I.loc;have YD:=(S.cel y (hf y bq).1).1;obtain⟨w,ZA,l⟩:=hl i y v (by rw[S.hN,aG hi,eq_of_beq hy]) X0 (.inr (.inl YD));rcases l with⟨hk,_⟩|⟨_,c,hc,o,ho,hd⟩
           .have Xs:X.env.scope.names.lookup y=a_ _:=hk<;>grind
           .exact⟨_,.cons rv r1,⟨c,o,w,A7 (hf y bq).2 hc,(gq ho (I.freeC y c hc) (vZ S I (hf y bq).1 hc)),hd,ZA⟩,r2⟩
end
end _G
namespace _G
open PySem PySem.Spec _L
open PyProof.Rows hiding St
def Trc(e T:e_)(cls:f_)(h:Heap):Prop:= ∃(oe:Obj) (vs:Array f_) (a0:f_) (oT:Obj) (ts:Array f_),h.get? e=a_ oe/\(oe.cls=cls/\vs[0]?=a_ a0)/\oe.data=.fields vs/\vs[1]?=a_ (.ref T)/\T≠e/\h.get? T=a_ oT/\oT.data=.fields ts/\ts[3]?=a_ .none
def CX1(P:Program)(w:World):CXT:=λouter H s E ev s'=>∃(e T:e_) (cls:f_) (H':Hp),ev=.ref e/\s'.os=s.os/\AllBare s'.gens/\Un (frs outer) [] H H' s.heap s'.heap/\HOk P w H' s'.heap/\Trc e T cls s'.heap/\s.heap.get? e=b_/\s.heap.get? T=b_/\H' e=b_/\H' T=b_/\E cls b_ H'
variable{h:Heap}{e:e_}
theorem Trc.of{base:Heap}{cls a0:f_}(t:h.TracedW base e cls a0):∃T,Trc e T cls h/\base.get? T=b_:=by
 obtain⟨oe,vs,T,oT,ts,h1,h2,h3,h4,h5,h6,h7,h8,h9⟩:=t;exact⟨T,⟨oe,vs,a0,oT,ts,h1,h2,h3,h4,h6,h7,h8,h9⟩,h5⟩
variable{T:e_}
theorem Trc.to{base:Heap}{cls:f_}(t:Trc e T cls h)(hT:base.get? T=b_):∃a0,h.TracedW base e cls a0:=by
 obtain⟨oe,vs,a0,oT,ts,h1,h2,h3,h4,h6,h7,h8,h9⟩:=t;exact⟨a0,oe,vs,T,oT,ts,h1,h2,h3,h4,hT,h6,h7,h8,h9⟩
variable{P:Program}{w:World}{H:Hp}{a:e_}
theorem fO.has{o:HO}(x:fO P w H h a o):∃u,h.get? a=a_ u:=by
 cases o with
 |lst xs=>obtain⟨_,_,_,_,e⟩:=x;exact⟨_,e⟩
 |tup xs=>obtain⟨_,_,_,_,o,e,_⟩:=x;exact⟨_,e⟩
 |dK kvs=>obtain⟨_,_,_,_,o,_,_,e,_⟩:=x;exact⟨_,e⟩
 |dT kvs=>obtain⟨_,_,_,_,o,_,_,e,_⟩:=x;exact⟨_,e⟩
 |set S n=>obtain⟨o,_,_,_,e,_⟩:=x;exact⟨_,e⟩
 |ins C dx fs=>obtain⟨_,_,_,e,_⟩:=x;exact⟨_,e⟩
 |own y=>obtain⟨_,e⟩:=x;exact⟨_,e⟩
 |xd fs=>obtain⟨_,⟨_,_,_,e,_⟩,_⟩:=x;exact⟨_,e⟩
 |rng lo hi=>obtain⟨_,_,_,e⟩:=x;exact⟨_,e⟩
 |frz ob u=>obtain⟨e,_⟩:=x;exact⟨_,e⟩
 |tbl ps=>exact⟨_,(x)⟩
 |met f y=>exact⟨_,(x)⟩
 |ext φ=>obtain⟨_,e,_⟩:=x;omega
theorem HOk.none_of(x:HOk P w H h)(e:h.get? a=b_):H a=b_:=by
 cases q:H a with
 |none=>rfl
 | some o=>
   obtain⟨u,hu⟩:=fO.has (x a o q)
   grind
theorem mn{h g base:Heap}{S:List e_}:∀{l:List Env},(∀b∈frs l,b∈S)->h.FunFrames base l->h.FunFrames (ek g S) l
 |[],_,_=>trivial
 |env::r,hs,⟨hk,⟨L,o,hf,hn,ho,hd⟩,hr⟩=>⟨hk,⟨L,o,hf,eo _ (hs L (by unfold frs;simp_all)),ho,hd⟩,mn (λb hb=>hs b (by unfold frs;rw[dN,hf];exact az _ hb)) hr⟩
structure Left(fs:List e_)(e T:e_)(h h':Heap):Prop where
 keep:∀b o,b∉fs->b≠e->b≠T->h.get? b=a_ o->h'.get? b=a_ o
 slot:∀b o,b∈fs->h.get? b=a_ o->∃sl,h'.get? b=a_ { o with slots:=sl }
variable{h2:Heap}
theorem Left.un{fs:List e_}{H':Hp}{h1:Heap}(l:Left fs e T h1 h2)(u:Un fs [] H H' h h1)(he:h.get? e=b_)(hT:h.get? T=b_):Un fs [] H H' h h2 where
 keep:=λb o q n hb hx=>l.keep b o hb (λz=>by grind) (λz=>by grind) (u.keep b o q n hb hx)
 slot:=λb o q n hb hx=>by
  obtain⟨sl,e1⟩:=u.slot b o q n hb hx;obtain⟨Yw,e2⟩:=l.slot b _ hb e1;exact⟨_,e2⟩
 free:=λb o q n hx=>u.free b o q n hx
 there:=λb o q hx=>by
  obtain⟨o',e1⟩:=u.there b o q hx;by_cases hb:b∈fs
  .obtain⟨sl,e2⟩:=l.slot b _ hb e1
   exact⟨_,e2⟩
  .exact⟨o',l.keep b o' hb (λz=>by grind) (λz=>by grind) e1⟩
 tups:=u.tups
 frzs:=u.frzs
 tbls:=u.tbls
theorem Left.hok{fs:List e_}{h':Heap}(l:Left fs e T h h')(x:HOk P w H h)(hf:∀b∈fs,H b=b_)(he:H e=b_)(hT:H T=b_):HOk P w H h':=λa o q=>by
 refine(x a o q).stay (λb u hb e1=>?_) (λ_ z=>z) λ_ _ z=>z;have key:∃o,H b=a_ o:=by
  grind
 obtain⟨ob,key⟩:=key;exact l.keep b u (λz=>by grind) (λz=>by grind) (λz=>by grind) e1
section
variable {X:Cx}{pins:List (e_×Obj)}{G:St}{H H':Hp}{s s':g_}
theorem flying{cls:f_}(I:Inv X pins G H' s')(t:Trc e T cls s'.heap):∃a0,j3 (ek s'.heap (e::T::frs X.stack)) X.stack e cls a0 s'.heap:=by
 obtain⟨a0,z⟩:=t.to (eo _ (az _ bq));exact⟨a0,λb o q=>gX _ q,eo _ bq,mn (λb hb=>az _ (az _ hb)) I.stack,z⟩
theorem vh(I:Inv X pins G H' s')(k:(ek s'.heap (e::T::frs X.stack)).StaysIn h2)(sl:s'.heap.UpToSlots h2):Left (frs X.stack) e T s'.heap h2:=by
 refine⟨λb o hb he hT q=>k b o (dG _ q λz=>?_),λb o hb q=>?_⟩
 .grind
 .obtain⟨_,o',ho,hd⟩:=I.stack.mem hb
  rw[q]at ho;cases ho;exact sl b o q hd
theorem EX{T2:e_}{cls:f_}(I:Inv X pins G H' s')(t2:Trc e T2 cls h2)(hn:(ek s'.heap (e::T::frs X.stack)).get? T2=b_)(sl:s'.heap.UpToSlots h2):T2=T\/s'.heap.get? T2=b_:=by
 cases q:s'.heap.get? T2 with
 |none=>exact .inr rfl
 | some o=>
   left;obtain⟨oe,vs,a0,oT,ts,h1,R8,h3,h4,h6,h7,h8,h9⟩:=t2;by_cases hm:T2∈e::T::frs X.stack
   .rcases bf.mp hm with z|z
    .exact absurd z h6
    .rcases bf.mp z with z|z
     .omega
     .obtain⟨_,o',ho,hd⟩:=I.stack.mem z
      obtain⟨Yw,e2⟩:=sl T2 o' ho hd;rw[h7]at e2;simp_all
   .rw[dG _ q hm]at hn;cases hn
variable{E:XK}
theorem DK{cls:f_}(hex:X.ex=[])(I:Inv X pins G H s)(os:s'.os=s.os)(hg:AllBare s'.gens)(un:Un (frs X.stack) [] H H' s.heap s'.heap)(hok:HOk X.prog X.w H' s'.heap)(t:Trc e T cls s'.heap)(he:s.heap.get? e=b_)(hT:s.heap.get? T=b_)(ne:H' e=b_)(nT:H' T=b_)(q:E cls b_ H'):
  CX1 X.prog X.w X.outer X.H₀ X.s₀ E (.ref e) s':=by
 have old:∀a,s.heap.get? a=b_->X.s₀.heap.get? a=b_:=λa ha=>by
  cases q:X.s₀.heap.get? a with
  |none=>rfl
  | some o=>
    obtain⟨o',e1⟩:=I.base.there a o q (by rw[hex];simp)<;>grind
 have b:=(I.call' os un hok hg λb z=>nomatch z).base;rw[hex]at b;exact⟨e,T,_,H',rfl,os.trans I.os,hg,b,hok,t,old e he,old T hT,ne,nT,q⟩
structure Lv(X:Cx)(E:XK):Prop where
 stk:X.stack=X.env::X.outer
 fr:X.env.frame=a_ X.env.locals
 ex:X.ex=[]
 xe:X.xe=λe s'=>aR (model X.prog X.w) X.A (leaving X.env e) (λ_ s''=>CX1 X.prog X.w X.outer X.H₀ X.s₀ E e s'') (λe' s''=>CX1 X.prog X.w X.outer X.H₀ X.s₀ E e' s'') s'
theorem Lv.pass(L:Lv X E):nc (CX1 X.prog X.w) X E:=by
 rintro pins G H s ev s' I ⟨e,T,cls,H',rfl,os,hg,un,hok,t,he,hT,ne,nT,q⟩;have I1:=I.call' os un hok hg λb z=>nomatch z
 rw[L.xe];obtain⟨a0,fl⟩:=flying I1 t;have TZ:=fl;rw[show j3 _ _ e _ a0 _=j3 _ (X.env::X.outer) e _ a0 _ by rw[<-L.stk]]at TZ;refine wpAny_leaves_onW (by rw[I.ok.frames,L.stk]) L.fr TZ λh2 VA sl=>?_;obtain⟨f1,f2,f3,f4⟩:=VA;obtain⟨T2,t2,YI⟩:=Trc.of f4;have lf:=vh I1 f1 sl;have new:=EX I1 t2 YI sl;refine DK L.ex I os hg (lf.un un he hT) (lf.hok hok I1.stkFree ne nT) t2 he ?_ ne ?_ q
 .rcases new with z|z
  .rw[z];omega
  .cases q:s.heap.get? T2 with
   |none=>rfl
   | some o=>
     obtain⟨o',e1⟩:=un.there T2 o q (by simp)<;>grind
 .rcases new with z|z
  .rw[z];omega
  .exact HOk.none_of hok z
theorem Lv.made{C:e_}{args:List f_}{h1:Heap}(L:Lv X E)(I:Inv X pins G H s)(hx:Heap.MadeExcOf s.heap h1 e (.ref C) args)(q:E (.ref C) b_ H):X.xe (.ref e) { s with heap:=h1 }:=by
 rw[L.xe];have fs:=by
  have:=mn (g:=s.heap) (λb hb=>hb) I.stack;rwa[show s.heap.FunFrames _ _=s.heap.FunFrames _ (X.env::X.outer) by rw[<-L.stk]]at this
 refine wpAny_leaves_madeW (by rw[I.ok.frames,L.stk]) L.fr (λb o q=>gX _ q) fs hx λh2 t VA _ _ sl=>?_;obtain⟨f1,f2,f3,f4⟩:=VA;obtain⟨T2,t2,YI⟩:=Trc.of f4;have Yw:=λb o q nf=>sl b o (hx.keeps b o q) nf;have slt:∀b o,b∈frs _->s.heap.get? b=a_ o->∃sl,h2.get? b=a_ _:=λb o hb q=>by
  obtain⟨_,o',ho,hd⟩:=I.stack.mem hb;rw[q]at ho;cases ho;exact Yw b o q hd
 have lf:Left _ e e _ h2:=⟨λb o hb _ _ q=>f1 b o (dG _ q hb),slt⟩;have ne:=HOk.none_of I.hok hx.new;have hT:s.heap.get? T2=b_:=by
  cases q:s.heap.get? T2 with
  |none=>rfl
  | some o=>
    by_cases hm:T2∈frs X.stack
    .obtain⟨_,o',ho,hd⟩:=I.stack.mem hm
     obtain⟨sl'',e2⟩:=Yw T2 o' ho hd;obtain⟨oe,vs,a0,oT,ts,h1,R8,h3,h4,h6,h7,h8,h9⟩:=t2<;>grind
    .rw[dG _ q hm]at YI;omega
 exact DK L.ex I rfl I.bare (lf.un Un.refl hx.new hx.new) (lf.hok I.hok I.stkFree ne ne) t2 hx.new hT ne (HOk.none_of I.hok hT) q
end
end _G
namespace _G
open PySem PySem.Spec _L
open PySem.W (envX kla_fn kla_obj CodeHd tabObj)
open PyProof.Rows hiding St
abbrev MX:=Rho->Sto->Option (Nat×Sto)
abbrev RF:=List U->Sto->Option (Nat×Sto)
def xFn(r:RF)(a:MA):MX:=λY S=>bnd (a Y S) λus S1=>r us S1
def uO(np:Nat)(r:MX)(cs:List U):RF:=λus S=>if us.length=np then r (us.map a_++cs.map a_) S else b_
def kL(b:Nat->Bool)(is:List Nat):Cell:= .lst (is.map λi=>.bl (b i))
def i9(b:Nat->Bool):Sto:= [kL b [0,1,2],kL b [3,4,5],kL b [0,1,2,3,4,5,6]]
def bQ(q:Nat)(j:Nat):Bool:=decide (q=j)||decide (j=7)
def nk(rz:List Nat)(φ:MF)(ψ:RF)(S:Sto):Res U:=match φ [] S with
 |some r=>a_ (.non,r.2++i9 λ_=>d_)
 | none=>match ψ [] S with
   |some r=>if r.1∈rz then a_ (.ref (r.2.length+3),r.2++(i9 (bQ r.1)++[.lst [.int r.1]])) else b_
   |none=>b_
abbrev VF:=MF->RF->Sto->Res U
def refF(vf:VF)(g:e_)(φ:MF)(ψ:RF):MF:=λus S=>match us with
 |[.obj a]=>if a=g then vf φ ψ S else b_
 |_=>b_
def kD(vf:VF)(is:List Nat)(ml:ME)(rl:MX):ME:=λY S=>(nh is Y).bind λcs=>vf (uR 0 ml cs) (uO 0 rl cs) S
def AM(cl:Nat->e_)(K:KX)(μ:List e_)(H:Hp)(C:Nat)(S':Sto)(E:XK):Prop:= ∀Y3 H',Pre μ Y3->bh H H'->HR K Y3 S' H'->E (.ref (cl C)) b_ H'
def tX(cl:Nat->e_)(K:KX)(r:MX)(E:XK)(G:St)(H:Hp):Prop:= ∃μ S Y C S',HR K μ S H/\ER H μ Y G/\r Y S=a_ (C,S')/\AM cl K μ H C S' E
def tXE(cl:Nat->e_)(K:KX)(r:MX)(E:XK):TE:=λG H _=>tX cl K r E G H
def tXA(cl:Nat->e_)(K:KX)(r:MX)(E:XK):TA:=λG H _=>tX cl K r E G H
def tXS(cl:Nat->e_)(K:KX)(r:MX)(E:XK):TS:=λ_ G H=>tX cl K r E G H
def spX(cl:Nat->e_)(K:KX)(r:RF):Sp:=λvs H _ E=>∃μ S us C S',HR K μ S H/\RUs H μ us vs/\r us S=a_ (C,S')/\AM cl K μ H C S' E
variable{cl:Nat->e_}{μ:List e_}
theorem AM.mono{K:KX}{Y0:List e_}{H H1:Hp}{C:Nat}{S':Sto}{E:XK}(a:AM cl K μ H C S' E)(p:Pre μ Y0)(k:bh H H1):AM cl K Y0 H1 C S' E:=λY3 H' p' k'=>a _ H' (p.trans p') (k.trans k')
abbrev vE:List f_ := [.type "ValueError",.type "Exception",.type "BaseException",.type "object"]
structure FnX(M:Mo)(cl:Nat->e_)(x:Str)(k:Nat)(ps:List Str)(r:RF):Prop where
 ex:∃(f:e_) (fd:FuncData),M.mg x=a_ (.ref f)/\cb M.K (.ref f)=c_/\Binds M.K fd ps []/\g9 M.P M.w M.K M.mg M.base (CX1 M.P M.w) k f fd ps (spX cl M.K r)
variable{X:Cx}
theorem _root_._L.PA.nox{es:List Expr}{t:TA}(h:PA X.nox es t):PA X es t:=λpos pins s G H Q I hw=>
 bV (h _ _ s G H Q (I.wish _) hw) (λus s' ⟨vs,H',J,r,q⟩=>⟨vs,H',J.unwish,r,q⟩) λ_ _ z=>z.elim
theorem _root_._L.PS.nox{st:Stmt}{t:TS}(h:PS X.nox st t):PS X st t:=λpins s G H D I hw=>
 bV (h _ s G H D (I.wish _) hw) (λf s' hs=>SP.unwish hs) λ_ _ z=>z.elim
theorem PE.never{e:Expr}:PE X e λ_ _ _=>False:=λ_ _ _ _ _ _ h=>h.elim
theorem PSs.never{e:List Stmt}:PSs X e λ_ _ _=>False:=λ_ _ _ _ _ _ h=>h.elim
structure wJ(M:Mo)(cl:Nat->e_)(f:e_)(k:Nat)(ps:List Str)(r:RF):Prop where
 ex:∃fd:FuncData,((∃(oc:f_) (od:Option e_) (sl:Array (Option f_)),M.base.get? f=a_ ⟨oc,od,.func fd,sl⟩)\/cb M.K (.ref f)=c_)/\Binds M.K fd ps []/\g9 M.P M.w M.K M.mg M.base (CX1 M.P M.w) k f fd ps (spX cl M.K r)
variable{qual:Str}{body:Expr}{scope:Scope}{pm:f_}{oc:Obj}{ws:Array f_}{cs:List U}
theorem Gj{M:Mo}(h0:M.mkr=b_){name:Str}{params:Arguments}{YA:List (Str×e_)}{Zl:f_}{c f:e_}{t:Tok}{ps fs:List Str}{k:Nat}{ml:MX}{od:Option e_}{fc:f_}{W3:Array (Option f_)}{cv:List V}(XR:∀μ S H,HR M.K μ S H->RUs H μ cs cv)
  (hf:M.base.get? f=a_ ⟨fc,od,.func (kla_fn name qual params body scope YA pm (.ref c) Zl),W3⟩) (hc:(c,oc)∈M.K.cds) (Za:oc.data=.fields ws) (hq:ws[1]?=a_ (.str qual t))
  (S:j8 ps fs scope) (C:lr M.base YA fs cv) (YD:∀y c,YA.lookup y=a_ c->∃o v,M.base.get? c=a_ o/\o.data=.cell v) (inj:∀x y c,YA.lookup x=a_ c->YA.lookup y=a_ c->x=y)
  (hb:∀X E,Lv X E->Sc M X.nox k (ps++fs) scope.names->PE X body (tXE cl M.K ml E)):
  g9 M.P M.w M.K M.mg M.base (CX1 M.P M.w) (k+1) f (kla_fn name qual params body scope YA pm (.ref c) Zl) ps (spX cl M.K (uO ps.length ml cs)):=by
 have len:∀vs H Q E,spX cl M.K (uO _ ml cs) vs H Q E->vs.length=ps.length:=λvs H Q E h=>by
  obtain⟨μ,S',us,u,ZO,hr,rs,e,_⟩:=h;unfold uO at e
  split at e
  .rename_i hl;rw[<-rs.len];exact hl
  .cases e
 refine⟨len,λA outer s H args us vs Q E hr e0 Yi r Zk=>?_⟩;have hl:=len _ _ _ _ Zk;obtain⟨μ,S1,zs,u,S2,hR,rs,e,ka⟩:=Zk;refine Bu hr.depth (e0.bs f _ hf).1 rfl S.co S.gen rfl ⟨c,oc,ws,t,rfl,((e0.hok c _ (hR.ext.cds _ hc)).1),Za,hq⟩ (Yi _ _ _ _ ?_);refine zI S.kind (λx hx=>S.par _ (jK hx).1) λs1 x=>⟨(e0.mod.nolimit.keeps λb o e=>(e0.bs b o e).1).keeps x.toInCall.keep,?_⟩;have SS:Sc M (v9 _ _ _ _ _ _ qual _ f (.ref c) YA A outer s H) k _ scope.names:=
  ⟨rfl,rfl,rfl,rfl,rfl,rfl,S.nd,rfl,λ_ h=>h,λy h=>⟨h,by show(scope.names.lookup y==a_ _)=c_;rw[h];rfl⟩,λ_ h=>.inr h,λ_ h=>h,hr.deeper _,kW,λc q h=>by rw[h0]at h;cases h⟩
 unfold uO at e
 split at e
 rotate_left
 .cases e
 have er:ER H μ (zs.map a_++cs.map a_) (vs.map a_++cv.map a_):=by
  have rc:=XR _ _ _ hR;refine⟨by simp[rs.len,rc.len],λi w hw=>?_⟩;rw[<-cN,ba]at hw;cases q:(zs++cs)[i]? with
  |none=>rw[q]at hw;cases hw
  | some w'=>
    rw[q]at hw;cases hw;obtain⟨v,hv,rv⟩:=(rs.append rc).get q;exact⟨v,by rw[<-cN,ba,hv];rfl,rv⟩
 let X1:=(v9 M.P M.w M.K M.mg M.base (ps++fs) qual scope f (.ref c) YA A outer s H).wish λe s'=>aR (model M.P M.w) (A.deeper (pB qual scope s.heap.objs.size f (.ref c) YA)) (leaving (pB qual scope s.heap.objs.size f (.ref c) YA) e) (λ_ s''=>CX1 M.P M.w outer H s E e s'') (λe' s''=>CX1 M.P M.w outer H s E e' s'') s'
 refine Bv (bV (hb X1 E ⟨rfl,rfl,rfl,rfl⟩ SS [] _ _ H (λ_ _=>False) ((z9 (qual:=qual) (f:=f) (cd:= .ref c) S hr.hd e0 hl r C YD inj x).wish _) ⟨μ,S1,_,u,S2,hR,er,e,ka⟩) (λv s' hs=>?_) λe s' hs=>hs);obtain⟨x,H',J,rv,q⟩:=hs;exact q.elim
structure FnR(M:Mo)(cl:Nat->e_)(x:Str)(k d:Nat)(vf:VF):Prop where
 ex :∃ (f:e_) (fd:FuncData),M.mg x=a_ (.ref f)/\cb M.K (.ref f)=c_/\Binds M.K fd ["call"] [] /\
  ∀(caps:List U) (capv:List V) (cds:List (e_×Obj)) (base:Heap) (g:e_) (j:Nat) (φ:MF) (ψ:RF),f9 M.mg base->k<=j->Lam (M.to caps capv cds base) g j [] φ->wJ (M.to caps capv cds base) cl g j [] ψ ->
   g9 M.P M.w M.K M.mg base CX0 (j+d) f fd ["call"] (spM (M.K.to caps capv cds) (refF vf g φ ψ))
theorem wJ.imp{M:Mo}{cl:Nat->e_}{f:e_}{k:Nat}{ps:List Str}{r r':RF}(L:wJ M cl f k ps r)(h:∀us S q,r' us S=a_ q->r us S=a_ q):wJ M cl f k ps r':=by
 obtain⟨fd,a,b,F⟩:=L.ex;refine⟨fd,a,b,F.imp λvs H Q E=>?_⟩;rintro ⟨μ,S,us,C,S',h1,h2,h3,h4⟩;exact⟨μ,S,us,C,S',h1,h2,h _ _ _ h3,h4⟩
def yg:Arguments:=⟨[],[],b_,[],[],b_,[]⟩
theorem rK{K:ai}{name:Str}{cl:List (Str×e_)}{cdv ct:f_}:Binds K (kla_fn name qual yg body scope cl pm cdv ct) [] []:= .all λus hl=>by
 match us,hl with
 |[],_=>rfl
section
variable {M:Mo}{X:Cx}{k:Nat}{N:List Str}{ns:List (Str×NameKind)}{pins:List (e_×Obj)}{G:St}{H:Hp}{s:g_}{cl:Nat->e_}{vf:VF}{d:Nat}
structure Xt(M:Mo)(caps:List U)(capv:List V)(cds:List (e_×Obj))(base:Heap):Prop where
 mod:Mod M.K M.mg M.base
 sz:M.base.objs.size<=base.objs.size
 sub:∀a o,M.base.get? a=a_ o->base.get? a=a_ o
 cap:∀{μ:List e_}{H:Hp},RUs H μ caps capv->RUs H μ M.K.caps M.K.capv
 cds:∀q∈M.K.cds,q∈cds
theorem RUs.split{H:Hp}{μ:List e_}:∀{as bs:List U}{vs ws:List V},as.length=vs.length->RUs H μ (as++bs) (vs++ws)->RUs H μ as vs/\RUs H μ bs ws
 |[],_,[],_,_,h=>⟨.nil,h⟩
 | _::_,_,_::_,_,e,h=>by
   obtain⟨v,r,e1,h1,h2⟩:=h;cases e1;obtain⟨a,b⟩:=RUs.split (xX e) h2;exact⟨.cons h1 a,b⟩
variable{is:List Nat}{rl:MX}
theorem CA{f0:e_}{UY:FuncData}{fs:List Str}{k' j:Nat}{ml:ME}{Zl:f_}{c' f:e_}{t:Tok}
  {S1 S':Sto}{Y:Rho}{u:U}{Q:VK}
  (S:Sc M X k N ns) (hB:f9 M.mg M.base) (hj:k'<=j+1) (hk:j+1+d<=k) (Yi:Binds M.K UY ["call"] [])
  (FF :∀ (caps:List U) (capv:List V) (cds:List (e_×Obj)) (base:Heap) (g:e_) (j:Nat) (φ:MF) (ψ:RF),f9 M.mg base->k'<=j->Lam (M.to caps capv cds base) g j [] φ->wJ (M.to caps capv cds base) cl g j [] ψ->g9 M.P M.w M.K M.mg base CX0 (j+d) f0 UY ["call"] (spM (M.K.to caps capv cds) (refF vf g φ ψ)))
  (LS:j8 [] fs scope) (YC:∀y∈fs,ns.lookup y=a_ .cell/\(y,aX)∈scope.names) (V8:c9 (λy=>N.findIdx? (· == y)) fs=a_ is)
  (hb:∀(caps:List U) (capv:List V) (cds:List (e_×Obj)) (base:Heap),f9 M.mg base->Xt M caps capv cds base->∀(X':Cx),Sc (M.to caps capv cds base) X' j ([]++fs) scope.names->PE X' body (tM (M.K.to caps capv cds) ml))
  (hx:∀(caps:List U) (capv:List V) (cds:List (e_×Obj)) (base:Heap),f9 M.mg base->Xt M caps capv cds base->∀(X':Cx) (E:XK),Lv X' E->Sc (M.to caps capv cds base) X'.nox j ([]++fs) scope.names->PE X' body (tXE cl (M.K.to caps capv cds) rl E))
  (I:Inv X pins G H s) (hr:HR M.K μ S1 H) (er:ER H μ Y G) (YV:nh is Y=a_ cs) (spec:vf (uR 0 ml cs) (uO 0 rl cs) S1=a_ (u,S')) (aft:Aft M.K μ H u S' Q)
  (hf:s.heap.get? f=a_ (kla_obj "<lambda>" qual yg body scope (fP X.env.cells scope.names []) pm c' Zl)) (YN:H f=b_) (XC:f∉frs X.stack) (hc:H c'=a_ (.frz oc fz)) (Za:oc.data=.fields ws) (hq:ws[1]?=a_ (.str qual t)) :
  aR (model X.prog X.w) X.A (call (.ref f0) [.ref f]) (EP X pins G Q) X.xe s:=by
 obtain⟨cv,rc,C⟩:=Ah S I er YC V8 YV;have V3:f9 M.mg (baseOf s.heap H (frs X.stack)):=hB.keeps λa o e=>q9 I a o (by rw[S.hb];exact e);have xt:Xt M (cs++M.K.caps) (cv++M.K.capv) (M.K.cds++[(c',oc)]) (baseOf s.heap H (frs X.stack)):=by
  refine⟨?_,?_,λa o e=>q9 I a o (by rw[S.hb];exact e),λr=>(RUs.split rc.len r).2,λ_=>c7 _⟩
  .have:=I.ok.mod;rwa[S.hK,S.hm,S.hb]at this
  .have:=(ua I).bsz;have e:=I.env0.bsz;rw[S.hb]at e;rw[baseOf,nC,pE];exact e
 have YD:∀y c,(fP X.env.cells scope.names []).lookup y=a_ c->∃o v,(baseOf s.heap H (frs X.stack)).get? c=a_ o/\o.data=.cell v:=λy c e=>by
  obtain⟨e1,e2⟩:=kz e;obtain⟨v,o,ho,hd⟩:=I.cell y c e1;exact⟨o,v,gq ho (I.freeC y c e1) (vZ S I (YC y (LS.fre _ e2 rfl)).1 e1),hd⟩
 have inj:∀y z c,(fP X.env.cells scope.names []).lookup y=a_ c->(fP X.env.cells scope.names []).lookup z=a_ c->y=z:=λy z c e1 e2=>I.ok.inj y z c (kz e1).1 (kz e2).1;have lam:Lam (M.to (cs++M.K.caps) (cv++M.K.capv) (M.K.cds++[(c',oc)]) (baseOf s.heap H (frs X.stack))) f (j+1) [] (uR 0 ml cs):=
  ⟨_,.inl ⟨_,_,_,gq hf YN XC⟩,rK,Kx (M:=M.to (cs++M.K.caps) (cv++M.K.capv) (M.K.cds++[(c',oc)]) (baseOf s.heap H (frs X.stack))) rfl (λ_ _ _ h=>(RUs.split rc.len h.ext.cap).1) (gq hf YN XC) (aM _ bq) Za hq LS C YD inj (hb _ _ _ _ V3 xt)⟩
 have XH:wJ (M.to (cs++M.K.caps) (cv++M.K.capv) (M.K.cds++[(c',oc)]) (baseOf s.heap H (frs X.stack))) cl f (j+1) [] (uO 0 rl cs):=
  ⟨_,.inl ⟨_,_,_,gq hf YN XC⟩,rK,Gj (M:=M.to (cs++M.K.caps) (cv++M.K.capv) (M.K.cds++[(c',oc)]) (baseOf s.heap H (frs X.stack))) rfl (λ_ _ _ h=>(RUs.split rc.len h.ext.cap).1) (gq hf YN XC) (aM _ bq) Za hq LS C YD inj (hx _ _ _ _ V3 xt)⟩
 have FO:=FF _ _ _ _ f (j+1) _ _ V3 hj lam XH;rw[<-S.hP,<-S.hw,<-S.hK,<-S.hm]at FO
 have Zs:HR (M.K.to (cs++M.K.caps) (cv++M.K.capv) (M.K.cds++[(c',oc)])) μ S1 H:=⟨hr.len,hr.inj,hr.cell,rc.append hr.ext.cap,λq hq=>by
  rcases fE.mp hq with z|z
  .exact hr.ext.cds q z
  .have e:q=(c',oc):=by simpa using z
   rw[e];exact hc,hr.ext.tab⟩
 rw[<-S.hK]at Yi;refine wpAny_call (pI (FO.run X.A X.stack s H ⟨[.ref f],[]⟩ [.ref f] [.ref f] Q E0 (S.room.mono hk) (ua I) (Yi s _ I.kIn rfl) (.cons rfl .nil) (⟨μ,S1,[.obj f],u,S',Zs,.cons (by simp only[RU]) .nil,(if_pos rfl).trans spec,λY3 v H' p' k' ZU RM=>(aft Y3 v H' p' k' ⟨ZU.len,ZU.inj,ZU.cell,RUs.mono k' p' _ _ hr.ext.cap,λq hq=>ZU.ext.cds q (c7 _ hq),ZU.ext.tab⟩ RM)⟩)) λr s' hq=>?_);cases r with
 |error e=>exact hq.elim
 | ok fl=>
   cases fl with
   |ret u=>exact I.after hq
   |next=>exact cp hq
   |brk=>exact cp hq
   |cont=>exact cp hq
theorem EU{fs:List Str}{k' j:Nat}{ml:ME}{g q:Str}{c P:e_}{p1 lp pos:Pos}
  (S:Sc M X k N ns) (FC:FnR M cl g k' d vf) (hj:k'<=j+1) (hk:j+1+d<=k) (Rj:M.mkr=a_ (c,q)) (MK:Mkr M c P (q++"<lambda>"))
  (hg:dc ns g=c_) (Sy:(g==("__debug__":Str))=d_)
  (LS:j8 [] fs scope) (YC:∀y∈fs,ns.lookup y=a_ .cell/\(y,aX)∈scope.names) (V8:c9 (λy=>N.findIdx? (· == y)) fs=a_ is)
  (hb:∀(caps:List U) (capv:List V) (cds:List (e_×Obj)) (base:Heap),f9 M.mg base->Xt M caps capv cds base->∀(X':Cx),Sc (M.to caps capv cds base) X' j ([]++fs) scope.names->PE X' body (tM (M.K.to caps capv cds) ml))
  (hx:∀(caps:List U) (capv:List V) (cds:List (e_×Obj)) (base:Heap),f9 M.mg base->Xt M caps capv cds base->∀(X':Cx) (E:XK),Lv X' E->Sc (M.to caps capv cds base) X'.nox j ([]++fs) scope.names->PE X' body (tXE cl (M.K.to caps capv cds) rl E)):
  PE X (.Call (.Name g p1) [.Lambda yg body scope lp] [] pos) (tM M.K (kD vf is ml rl)):=by
 intro pins s G H Q I h;obtain⟨μ,S1,Y,u,S',ZY,er,qm,aft⟩:=h;unfold kD at qm;cases YV:nh is Y with
 |none=>rw[YV]at qm;cases qm
 |some cs=>
 rw[YV]at qm;obtain⟨f0,UY,hm,Zm,Yi,FF⟩:=FC.ex;rw[<-S.hK]at Zm;refine di (jC I (S.gl hg) (by rw[S.hm];exact hm) ?_ Sy);refine jX I.ok.mod.kin Zm ?_ rfl rfl;obtain⟨Yj,Yl⟩:=S.cod c q Rj;obtain⟨Sw,hP,tr,al⟩:=ZY.ext.tab _ MK.mem;have V6:=I.hok P _ hP;have C:=MK.hd _ (by have:=I.kIn;rwa[S.hK]at this);have WY:=I.mod.glob.keeps I.bk;obtain⟨bm,ob,b1,b2,b5,b6,b7,b8⟩:=MK.bl;have WE:=I.bk bm ob (by rw[S.hb];exact b5);have b3:bm≠mainGlobals:=λz=>by
  obtain⟨o,es,ep,e,hd,_⟩:=WY;rw[<-z,WE]at e;cases e;rw[b8]at hd;cases hd
 have b4:bm≠P:=λz=>by
  rw[z,V6]at WE;cases WE;cases b8
 have BA:s.heap.BuiltinsAt X.mg P:=⟨bm,ob,by rw[S.hm];exact b1,b2,b3,b4,WE,b6,b7,b8⟩;have Xo:=yM λy hy RN=>I.ok.has y.1 (.inl (S.cel y.1 (YC y.1 (LS.fre y hy RN)).1).1);show aR _ _ (spliced [(d_,eval _ X.env)]) _ _ s;refine fi (PySem.W.kla_eval rfl ?_);have fin:∀(H2:Hp) (s2:g_) (c' f:e_) (Zl:f_) (oc:Obj) (ws:Array f_) (t:Tok),Inv X pins G H2 s2->bh H H2->HR M.K μ S1 H2 ->
   s2.heap.get? f=a_ (kla_obj "<lambda>" (X.env.qual++"<lambda>") yg body scope (fP X.env.cells scope.names []) ((X.mg "__name__").getD .none) c' Zl)->H2 f=b_->s.heap.objs.size<=f->H2 c'=a_ (.frz oc fz)->oc.data=.fields ws->ws[1]?=a_ (.str (q++"<lambda>") t) ->
   aR (model X.prog X.w) X.A (spliced []) (λvs ZZ=>X.K.In ZZ.heap/\aR (model X.prog X.w) X.A (call (.ref f0) ([]++(eA f::vs))) (EP X pins G Q) X.xe ZZ) X.xe s2:=by
  intro H2 s2 c' f Zl oc ws t I2 WD ZU hf YN Vr hc Za hq;have XC:f∉frs X.stack:=λz=>by
   obtain⟨_,o,ho,_⟩:=I.stack.mem z;exact absurd (ax (aF ho) Vr) (bT _)
  rw[<-Yl]at hq;exact iM ⟨I2.kIn,CA S MK.bl hj hk Yi FF LS YC V8 hb hx I2 ZU (er.mono WD (Pre.refl _)) YV qm (aft.mono (Pre.refl _) WD) hf YN XC hc Za hq⟩
 cases ham:codeAmong lp Sw.toList with
 | none=>
   refine PySem.W.kla_makeFunction (mg:=X.mg) Xo I.ok.glob WY Yj C V6 tr ham MK.gP BA λc' Zl h' tk hx XZ ZN V9 XJ=>?_;obtain⟨c2,oc,ws,t,e,Za,hd,Xq⟩:=V9;cases e;rw[Yl]at Xq;obtain⟨WD,ZU⟩:=ZY.table hP (I.hok.fresh XZ) hd Xq MK.un;have YT:=aA XZ (br ZN);refine fin _ _ c' h'.objs.size Zl oc ws t (Aw (ob:=kla_obj "<lambda>" (X.env.qual++"<lambda>") yg body scope (fP X.env.cells scope.names []) ((X.mg "__name__").getD .none) c' Zl) (tk:=tk) I hP hx XZ Za XJ) WD ZU (aI _ rfl) ?_ YT ?_ hd Xq
   .rw[bc (gH (aF XJ)),bc (gH ZN)]
    exact I.hok.fresh YT
   .rw[bc (bg hP (I.hok.fresh XZ)).symm,cx]
 | some cv=>
   obtain⟨c',oc,ws,t,rfl,Zw,hd,Xq⟩:=al lp cv ham;exact PySem.W.kla_makeFunctionHit (mg:=X.mg) Xo I.ok.glob WY Yj C V6 tr ham BA fun Zl h' tk hk YT=>(fin H _ c' h'.objs.size Zl oc ws t (I.kept (t':=tk) (h':=h'.push (kla_obj "<lambda>" (X.env.qual++"<lambda>") yg body scope (fP X.env.cells scope.names []) ((X.mg "__name__").getD .none) c' Zl)) (fun b o e=>aw _ (hk b o e))) (bh.refl _) ZY (aI _ rfl) (I.hok.fresh YT) YT Zw hd Xq)
end
end _G
namespace _G
open PySem PySem.Spec _L
open PyProof.Rows hiding St
variable{env:Env}
theorem ET{env':Env}(h:env.frame=env'.frame)(e:f_):noteFrame e env=noteFrame e env':=by
 unfold noteFrame PySem.frameOf;rw[h]
section
variable {M:Model}{A:Around}{Ex:f_->g_->Prop}{s:g_}
theorem Bo{base:Heap}{outer:List Env}{L e:e_}{cls a0 fl:f_}{Q:Unit->g_->Prop}(Zw:A.frames=a_ (env::outer))(hf:env.frame=a_ L)
  (h1:base.StaysIn s.heap) (h2:base.get? e=b_) (h3:s.heap.FunFrames base (env::outer)) (h4:s.heap.TracedAtW base e cls a0 fl)
  (q:∀h',j3 base outer e cls a0 h'->s.heap.UpToSlots h'->Q () { s with heap:=h' }):aR M A (leaving env (.ref e)) Q Ex s:=by
 by_cases z:fl=rawInt L
 .subst z
  unfold leaving;exact aB (wpAny_noteFrame_againW hf h4 (wpAny_landsW ⟨h1,h2,h3,h4⟩ λh' ⟨k1,k2,⟨_,_,k3⟩,k4⟩ u=>q h' ⟨k1,k2,k3,k4⟩ u))
 .obtain⟨oe,vs,T,oT,ts,x1,⟨x2,x3⟩,x4,x5,x6,x7,x8,x9,x10⟩:=h4
  have WA: ¬(fl==rawInt L)=c_:=λw=>z (eq_of_beq w);have XU:∀b,b≠T->(s.heap.update T (qK (·.setIfInBounds 3 ql))).get? b=s.heap.get? b:=λb hb=>dP _ _ (cY hb);have Uj:∀b o,s.heap.get? b=a_ o->(∀vs,o.data≠.fields vs)->b≠T:=λb o hb n w=>by
   rw[w,x8]at hb;cases hb;exact n _ x9
  subst x2;unfold leaving noteFrame;simp only[hf];refine aB (aB (fR x1 x4 x5 ?_));rw[if_pos (by simp)];refine aB (fR x8 x9 x10 ?_);rw[if_neg WA];refine aB (wpAny_setField x8 x9 (gg.mp x10).1 ?_);refine wpAny_newEntryW (base:=base) Zw (h3.of_keeps λb o hb n=>⟨o,(XU b (Uj b o hb n)).trans hb,rfl⟩) hf ((XU e (cY x7)).trans x1) (λb o hb=>(XU b λw=>by rw[w,x6]at hb;cases hb).trans (h1 b o hb)) h2 x4 (gg.mp x5).1 x3 λh' ⟨y1,⟨_,_,y2⟩,y3,y4⟩=>q h' ⟨y1,h2,y2,y3⟩ λb o hb n=>y4 b o ((XU b (Uj b o hb n)).trans hb) n
end
section
variable {X:Cx}{N':List Str}{scope:Scope}{x:Str}{px pos:Pos}{elt iter:Expr}{wi:TI}{te:TE}{E:XK}
def xiB(X:Cx)(E:XK)(N':List Str)(scope:Scope):g_->Hp->List e_->f_->g_->Prop:=λZZ ZW fp ev s'=>∃pl G H s,Inv (blk X N' scope ZZ ZW fp) pl G H s/\CX1 X.prog X.w X.stack H s E ev s'
variable{ZW:Hp}{ZZ:g_}
theorem DV{pins:List (e_×Obj)}{G:St}{s':g_}{fp:List e_}{acc ev:f_}{Qf:f_->g_->Prop}(L:Lv X E)(I2:Inv X pins G ZW ZZ)(f2:∀b∈fp,rZ X pins ZW b)(z:xiB X E N' scope ZZ ZW fp ev s'):
  notedBy (model X.prog X.w) X.A (blk X N' scope ZZ ZW fp).env (λe s''=>compPost (model X.prog X.w) X.A X.xe b_ Qf acc (blk X N' scope ZZ ZW fp).env.locals (.error e) s'') ev s':=by
 obtain⟨pl,X7,Hb,sb,Ib,e,T,cls,H',rfl,os,hg,un,hok,t,he,hT,ne,nT,q⟩:=z;have Vq:Inv (blk X N' scope ZZ ZW fp) pl X7 H' s':=Ib.call' os un hok hg λb z=>nomatch z
 have Wu:s'.os=ZZ.os:=os.trans Ib.os;have If:Inv X pins G H' s':=I2.call' Wu Vq.base hok hg λb hb=>⟨(f2 b hb).2.2.2.1,(f2 b hb).2.1,(f2 b hb).2.2.2.2.1,(f2 b hb).2.2.2.2.2⟩;have old:∀a,sb.heap.get? a=b_->X.s₀.heap.get? a=b_:=λa ha=>by
  cases w:X.s₀.heap.get? a with
  |none=>rfl
  | some o=>
    by_cases hb:a∈fp
    .rcases (f2 a hb).2.2.2.1 with z|z
     .rw[L.ex]at z;cases z
     .exact absurd (aF w) (Nat.not_lt.mpr z)
    .obtain⟨o1,e1⟩:=I2.base.there a o w (by rw[L.ex];simp)
     obtain⟨o2,e2⟩:=Ib.base.there a o1 e1 hb;rw[ha]at e2;cases e2
 have Vx:H' (ZZ.heap.objs.size+1)=b_:=Vq.free;have U7:∀b o,ZZ.heap.get? b=a_ o->b≠ZZ.heap.objs.size+1:=λb o w=>bx (iW (aF w));have Ya:∀b∈frs X.stack,b≠ZZ.heap.objs.size+1:=λb hb=>by
  obtain⟨_,o,ho,_⟩:=I2.stack.mem hb;exact U7 b o ho
 generalize hC:ZZ.heap.objs.size+1=C at Vx U7 Ya;have Xz:X.s₀.heap.get? C=b_:=by
  cases w:X.s₀.heap.get? C with
  |none=>rfl
  | some o=>
    have h1:=aF w;exact absurd (ax h1 I2.sz) (by rw[<-hC];exact Nat.not_lt.mpr (fk _))
 let bs:=ek s'.heap (C::e::T::frs X.stack)
 have Wc:∀b o,bs.get? b=a_ o->s'.heap.get? b=a_ o:=λb o w=>gX _ w;have bhid:∀b,b∈C::e::T::frs X.stack->bs.get? b=b_:=λb hb=>eo _ hb;have bget:∀b o,b≠C->b≠e->b≠T->b∉frs X.stack->s'.heap.get? b=a_ o->bs.get? b=a_ o:=λb o h1 h2 h3 h4 w=>dG _ w (by simp[h1,h2,h3,h4]);have Vi:s'.heap.FunFrames bs (X.env::X.outer):=by
  have:=mn (g:=s'.heap) (S:=C::e::T::frs X.stack) (λb hb=>by simp[hb]) If.stack;rwa[show s'.heap.FunFrames (ek s'.heap (C::e::T::frs X.stack)) X.stack=s'.heap.FunFrames bs (X.env::X.outer) by rw[<-L.stk]]at this
 obtain⟨a0,tr⟩:=t.to (base:=bs) (bhid T (by simp))
 clear_value bs
 have Zw:X.A.frames=a_ (X.env::X.outer):=by rw[If.ok.frames,L.stk]
 unfold notedBy;rw[ET (env:=(blk X N' scope ZZ ZW fp).env) (env':=X.env) rfl];refine wpAny_looks_onW Zw L.fr ⟨Wc,bhid e (by simp),Vi,tr⟩ λh1 hh U'=>?_;have eC:(blk X N' scope ZZ ZW fp).env.locals=C:=hC;rw[eC];obtain⟨ml,Zd,_⟩:=Vq.loc;rw[eC]at Zd;refine⟨ml,U'.ns Zd,λh2 Wm XQ _=>?_⟩;obtain⟨oC,esC,epC,R4,R0,_⟩:=U'.ns Zd;obtain⟨k1,k2,k3,oe,vs,T2,oT,ts,x1,x2,x3,x4,x5,x6,x7,x8,x9⟩:=hh;have neC:∀b o ws,h1.get? b=a_ o->o.data=.fields ws->b≠C:=λb o ws w d z=>by
  rw[z,R4]at w;cases w;rw[R0]at d;cases d
 have RH:=neC e _ _ x1 x3;have RC:=neC T2 _ _ x7 x8;have y1:=(Wm.2 e RH).trans x1;have y7:=(Wm.2 T2 RC).trans x7;unfold PySem.passOn;refine aB (fR (s:={ s' with heap:=h2 }) y1 x3 x4 ?_);rw[if_neg (by simp)];unfold setFlight;refine aB (aB (fR (s:={ s' with heap:=h2 }) y1 x3 x4 ?_));rw[if_pos (by simp)];refine wpAny_setField (s:={ s' with heap:=h2 }) y7 x8 (gg.mp x9).1 (wpAny_throw ?_);generalize hfl:(XQ.frame.elim ql λf=>rawInt f)=fl;have up:∀b,b≠T2->(h2.update T2 (qK (·.setIfInBounds 3 fl))).get? b=h2.get? b:=λb hb=>dP _ _ (cY hb);have UX:=Ew (qK (·.setIfInBounds 3 fl)) y7 (Obj.isFreed_of_fields (Obj.data_mapFields x8 _));have VU:=Obj.data_mapFields x8 (·.setIfInBounds 3 fl);have Rv:(ts.setIfInBounds 3 fl)[3]?=a_ fl:=by simp[(gg.mp x9).1]
 generalize h2.update T2 (qK (·.setIfInBounds 3 fl))=h3 at up UX;have QX:h3.TracedAtW bs e cls a0 fl:=⟨oe,vs,T2,_,_,(up e (cY x6)).trans y1,x2,x3,x4,x5,x6,UX,VU,Rv⟩;have ZF:bs.StaysIn h3:=λb o w=>(up b λz=>by rw[z,x5]at w;cases w).trans ((Wm.2 b λz=>by rw[z,bhid C (by simp)]at w;cases w).trans (k1 b o w));have nf:∀b o,b≠C->h1.get? b=a_ o->(∀vs,o.data≠.fields vs)->h3.get? b=a_ o:=λb o hb w n=>(up b λz=>by rw[z,x7]at w;cases w;exact n _ x8).trans ((Wm.2 b hb).trans w);have XW:h3.FunFrames bs (X.env::X.outer):=by
  have key:∀l:List Env,(∀b∈frs l,b≠C)->h1.FunFrames bs l->h3.FunFrames bs l:=by
   intro l
   induction l with
   |nil=>intro _ _;trivial
   | cons en r ih=>
     rintro hl ⟨g1,⟨Lf,o,g2,g3,g4,g5⟩,g6⟩;refine⟨g1,⟨Lf,o,g2,g3,nf Lf o (hl Lf ?_) g4 g5,g5⟩,ih (λb hb=>hl b ?_) g6⟩
     .unfold frs;rw[dN,g2];exact bq
     .unfold frs at hb ⊢;rw[dN,g2];exact az _ hb
  exact key _ (by rw[<-L.stk];exact Ya) k3
 rw[L.xe];refine Bo (s:={ s' with heap:=h3 }) (base:=bs) Zw L.fr ZF (bhid e (by simp)) XW QX λh4 WN V1=>?_;obtain⟨f1,f2',f3,f4⟩:=WN;obtain⟨T4,t4,Uo⟩:=Trc.of f4;have Xi:∀b o,b≠C->s'.heap.get? b=a_ o->(∀vs,o.data≠.fields vs)->∃sl,h4.get? b=a_ { o with slots:=sl }:=λb o hb w n=>by
  obtain⟨q1,w1⟩:=U' b o w n;obtain⟨q2,w2⟩:=V1 b { o with slots:=q1 } (nf b { o with slots:=q1 } hb w1 n) n;exact⟨q2,w2⟩
 have keep:∀b o,b≠C->b≠e->b≠T->b∉frs X.stack->s'.heap.get? b=a_ o->h4.get? b=a_ o:=λb o g1 g2 g3 g4 w=>f1 b o (bget b o g1 g2 g3 g4 w);have WX:T4=C\/T4=T\/s'.heap.get? T4=b_:=by
  by_cases z:T4=C
  .exact .inl z
  right;cases w:s'.heap.get? T4 with
  |none=>exact .inr rfl
  | some o=>
    left;obtain⟨_,_,_,oT4,ts4,_,_,_,_,g6,g7,g8,_⟩:=t4;apply fY;intro g;by_cases hm:T4∈frs X.stack
    .obtain⟨_,o',Zr,Zc⟩:=If.stack.mem hm
     obtain⟨sl,w2⟩:=Xi T4 o' z Zr Zc;rw[g7]at w2;cases w2;exact Zc _ g8
    .rw[bget T4 o z g6 g hm w]at Uo;cases Uo
 have olds:∀a,s'.heap.get? a=b_->X.s₀.heap.get? a=b_:=λa ha=>by
  cases w:X.s₀.heap.get? a with
  |none=>rfl
  | some o=>
    obtain⟨o1,e1⟩:=If.base.there a o w (by rw[L.ex];simp);rw[ha]at e1;cases e1
 have UZ:X.s₀.heap.get? X.env.locals=b_:=by
  cases w:X.s₀.heap.get? X.env.locals with
  |none=>rfl
  |some o=>exact absurd (aF w) (Nat.not_lt.mpr If.ok.above)
 have Uv:=old e he;have UA:=old T hT;refine⟨e,T4,cls,H',rfl,Wu.trans I2.os,hg,?_,?_,t4,Uv,?_,ne,?_,q⟩
 .have u:=If.base
  rw[L.ex]at u;have fsq:X.fs=frs X.outer:=rfl;have ok4:∀b o0 o,X.s₀.heap.get? b=a_ o0->b∉frs X.outer->s'.heap.get? b=a_ o->h4.get? b=a_ o:=λb o0 o w hb w'=>by
   refine keep b o (λz=>by rw[z,Xz]at w;cases w) (λz=>by rw[z,Uv]at w;cases w) (λz=>by rw[z,UA]at w;cases w) (λhm=>?_) w';rcases bf.mp (If.stkSub b hm) with z |z
   .rw[z,UZ]at w;cases w
   .exact hb z
  have WS:∀b o0 o,X.s₀.heap.get? b=a_ o0->b∈frs X.outer->s'.heap.get? b=a_ o->∃sl,h4.get? b=a_ { o with slots:=sl }:=λb o0 o w hb w'=>by
   have hm:b∈frs X.stack:=by
    rw[L.stk];unfold frs at hb ⊢;rw[dN,L.fr];exact az _ hb
   obtain⟨_,o',Zr,Zc⟩:=If.stack.mem hm;rw[w']at Zr;cases Zr;exact Xi b o (Ya b hm) w' Zc
  refine⟨λb o w n hb hx=>ok4 b o o w hb (u.keep b o w n hb hx),λb o w n hb hx=>?_,u.free,λb o w hx=>?_,u.tups,u.frzs,u.tbls⟩
  .obtain⟨s1,w1⟩:=u.slot b o w n hb hx
   obtain⟨s2,w2⟩:=WS b o _ w hb w1;exact⟨s2,w2⟩
  .obtain⟨o1,w1⟩:=u.there b o w hx
   by_cases hb:b∈frs X.outer
   .obtain⟨s2,w2⟩:=WS b o _ w hb w1
    exact⟨_,w2⟩
   .exact⟨o1,ok4 b o o1 w hb w1⟩
 .intro a o w
  refine(hok a o w).stay (λb u hb w1=>?_) (λ_ z=>z) λ_ _ z=>z;obtain⟨ob,key⟩ :∃o,H' b=a_ o:=by
   rcases hb with rfl|z
   .exact⟨_,w⟩
   .exact⟨_,z⟩
  exact keep b u (λz=>by rw[z,Vx]at key;cases key) (λz=>by rw[z,ne]at key;cases key) (λz=>by rw[z,nT]at key;cases key) (λz=>by rw[If.stkFree b z]at key;cases key) w1
 .rcases WX with z|z|z
  .rw[z];exact Xz
  .rw[z];exact UA
  .exact olds _ z
 .rcases WX with z|z|z
  .rw[z];exact Vx
  .rw[z];exact nT
  .exact HOk.none_of hok z
theorem Dp(L:Lv X E)(hc:X.calm=c_)(C:gS X N' scope [x])(hi:PI X (.Name x px) iter wi)(he:∀ZZ ZW fp,PE ((blk X N' scope ZZ ZW fp).wish (xiB X E N' scope ZZ ZW fp)) elt te)(hs:∀x,foldedSetIterable iter X.env x=pure x):
  PE X (.ListComp elt [⟨.Name x px,iter,[],0⟩] scope pos) (lT wi (λ_ H Q=>Q c_ H) te):=by
 intro pins s G H Q I h;rw[eval_ListComp];exact nE (use:=b_) (cl:=kf X.env scope.names []) rfl hs (iR (C.frees I.ok)) C.kind (λy hy e=>kh C.nd (by rw[<-e];exact hy))
  (o4 (gT:=gT1) hc C hi (λ_ _ _=>zZ) he I h (λZZ ZW fp acc ev s' I2 f2 z=>DV L I2 f2 z) (u9 C) λs' L D H' ml Zd I' hn h1 h2 h3 h4 q=>⟨ml,Zd,λh' XY=>⟨.ref D,H',I'.turned (t':=s'.toks) (λb o hb e=>(XY.2 b hb).trans e) hn h1 (.inr h2) h3 h4,rfl,q⟩⟩)
theorem Ea{fp:List e_}:nc (CX1 X.prog X.w) ((blk X N' scope ZZ ZW fp).wish (xiB X E N' scope ZZ ZW fp)) E:=λpins G H s _ _ I c=>⟨pins,G,H,s,I.unwish,c⟩
end
def xcL(e:ME)(r:MX)(Y:Rho)(n:Nat):Nat->Nat->Sto->Option (Nat×Sto)
 |0,_,_=>b_
 | f+1,i,S=>(getL S n).bind λus=>match us[i]? with
   |none=>b_
   | some x=>match r (Y++[a_ x]) S with
     |some q=>a_ q
     |none=>bnd (e (Y++[a_ x]) S) λ_ S2=>xcL e r Y n f (i+1) S2
def jh(a:ME)(e:ME)(r:MX):MX:=λY S=>bnd (a Y S) λx S1=>match x with
 |.ref n=>xcL e r Y n fuel 0 S1
 |_=>b_
section
variable {cl:Nat->e_}{K:KX}{G:St}{H:Hp}{Q:VK}{E:XK}
theorem A5{e:ME}{r:MX}{Y:Rho}{n f C:Nat}{μ:List e_}{S S':Sto}{p:e_}(hf:f<=fuel)(hr:HR K μ S H)(er:ER H μ Y G)(h:xcL e r Y n f 0 S=a_ (C,S'))(k:AM cl K μ H C S' E)(hp:μ[n]?=a_ p):
  tH (Itl K p) G (λ_ H Q=>Q c_ H) (λG H Q=>tM K e G H Q\/tX cl K r E G H) H Q:=by
 refine⟨λi m acc H1=>m+acc.length=f /\ ∃Y0 S1,Pre μ Y0/\bh H H1/\HR K Y0 S1 H1/\xcL e r Y n m i S1=a_ (C,S'),⟨f,rfl,μ,S,Pre.refl _,bh.refl _,hr,h⟩,?_⟩;rintro i m acc H1 ⟨hm,Y0,S1,p1,k1,ZY,e1⟩;refine⟨by unfold fuel at hf;rw[sizeLine_eq];omega,?_⟩;cases m with
 |zero=>cases e1
 | succ m=>
   unfold xcL at e1;cases q:getL S1 n with
   |none=>rw[q]at e1;cases e1
   | some us=>
     rw[q]at e1;simp only[ay]at e1;obtain⟨a',vs,Z9,hs,rs⟩:=ZY.sq q;rw[p1.get hp]at Z9;cases Z9;cases z:us[i]? with
     |none=>rw[z]at e1;cases e1
     | some u=>
       rw[z]at e1;obtain⟨v,hv,rv⟩:=rs.get z;refine .inr ⟨⟨vs,v,hs,hv⟩,λx H' y=>?_⟩;obtain⟨e',y⟩:=y;subst e';have hx:=y vs hs;rw[hv]at hx;cases hx;have ZP:=(er.mono k1 p1).push rv;refine pQ ?_
       replace e1:(match r (Y++[a_ u]) S1 with
        |some q=>a_ q
        | none=>bnd (e (Y++[a_ u]) S1) λ_ S2=>xcL e r Y n m (i+1) S2)=a_ (C,S'):=e1
       split at e1
       .rename_i w hw
        cases e1;exact .inr ⟨Y0,S1,_,C,S',ZY,ZP,hw,k.mono p1 k1⟩
       .obtain⟨y',S2,e2,e1⟩:=aK e1
        exact .inl ⟨Y0,S1,_,y',S2,ZY,ZP,e2,λY5 v2 H2 p2 k2 ZU WH=>⟨m,d7 _,by rw[dv,List.length_singleton];omega,Y5,S2,p1.trans p2,k1.trans k2,ZU,e1⟩⟩
theorem OC{a:ME}{e:ME}{r:MX}(h:tX cl K (jh a e r) E G H):lT (λG H R=>qX K (tM K a) G H R\/yZ K (tM K a) G H R) (λ_ H Q=>Q c_ H) (λG H Q=>tM K e G H Q\/tX cl K r E G H) G H Q:=by
 obtain⟨μ,S,Y,C,S',hr,er,e0,k⟩:=h;obtain⟨x,S1,e1,e0⟩:=aK e0
 split at e0
 rotate_left
 .cases e0
 rename_i n
 have hg:∃us,getL S1 n=a_ us:=by
  unfold fuel xcL at e0;cases q:getL S1 n with
  |none=>rw[q]at e0;cases e0
  |some us=>exact⟨us,rfl⟩
 obtain⟨us,hg⟩:=hg;refine yl hr er (src:= .mut n) (S1:=S1) (by unfold dh;rw[e1,ak];simp only[hg,aT]) (λY0 H1 us p vs p1 k1 ZY hs hp rs=>by cases hs) λY0 H1 n' p p1 k1 ZY hs hp=>?_;cases hs;exact A5 (ao _) ZY (er.mono k1 p1) e0 (k.mono p1 k1) hp
end
end _G
namespace _G
open PySem PySem.Spec _L
open PySem.W (envX fnX fnMade CodeHd tabObj)
open PyProof.Rows hiding St
def sml(i:Int):Prop:= -(2^64)<i/\i<2^64
instance(i:Int):Decidable (sml i):=aY _
section
variable {M:Mo}{X:Cx}{k:Nat}{N:List Str}{ns:List (Str×NameKind)}
end
section
variable {M:Mo}{X:Cx}{k:Nat}{N:List Str}{ns:List (Str×NameKind)}{pins:List (e_×Obj)}{G:St}{H:Hp}{s:g_}
end
end _G
namespace _G
open PySem PySem.Spec _L
open PyProof.Rows hiding St
abbrev NS:=List (Str×NameKind)
structure Zt where
 R:List (Str×RF)
 F:List (Str×VF)
 cl:Nat->e_
 nm:Str
def Zt.to(z:Zt)(nm:Str):Zt:=⟨z.R,z.F,z.cl,nm⟩
structure Tb where
 D:List (Str×MF)
 C:List (Str×U)
 L:List (Str×e_×MF)
 H:List (Str×(e_->MF->MF))
 mkr:Bool
 Z:Zt
def Tb.bare(T:Tb):Tb:=⟨T.D,T.C,[],T.H,d_,T.Z⟩
def frees(sc:Scope):List Str:=(sc.names.filter λy=>y.2==.free).map (·.1)
def uP(ps:List Str)(sc:Scope)(ns:NS):Bool:=
 sc.kind==.function && !sc.isCoroutine && !sc.isGenerator&&decide ((ps++frees sc).Nodup)&&ps.all (λp=>sc.names.lookup p==a_ .local||sc.names.lookup p==a_ .cell)&&sc.names.all (λy=>!(y.2==.cell)||sc.names.lookup y.1==a_ .cell)&&(frees sc).all λy=>sc.names.lookup y==a_ .free&&ns.lookup y==a_ .cell
def notStar:Expr->Bool
 |.Starred _ _=>d_
 |_=>c_
def iD:Expr->Bool
 |.ListComp _ _ _ _=>d_
 |.SetComp _ _ _ _=>d_
 |.DictComp _ _ _ _ _=>d_
 |_=>c_
def gp:Expr->Bool
 |.Set _ _ _=>d_
 |_=>c_
def jn:Expr->Bool
 |.Slice _ _ _ _=>d_
 |_=>c_
def notTuple:Expr->Bool
 |.Tuple _ _ _=>d_
 |_=>c_
def vp:List Expr->Bool
 |[.Subscript _ _ _,.Subscript _ _ _]=>c_
 |_=>d_
def baseOk:Expr->Bool
 |.Call (.Name _ _) [] [] _=>d_
 |_=>c_
def plainT:Expr->Bool
 |.Name _ _=>c_
 |.Call _ _ _ _=>c_
 |.Subscript _ _ _=>c_
 |.Constant _ _ _=>c_
 |_=>d_
def dummy(N:List Str):Str:=⟨#[N.length+1]⟩
def mK(N:List Str)(x:Str):List Str:=(N.map λy=>if y==x then dummy N else y)++[x]
def be(x:Str):Bool := !(x==("__debug__":Str)) && !(x==("__classdict__":Str))
def slot(N:List Str)(x:Str):Option Nat:=N.findIdx? (· == x)
def IJ(g:Str):Option MF:=
 if g==("len":Str) then a_ cJ else if g==("tuple":Str) then a_ bZ
 else if g==("max":Str) then a_ wK else if g==("min":Str) then a_ wL else if g==("all":Str) then a_ kR else if g==("any":Str) then a_ yw
  else if g==("str":Str) then a_ pZ  else b_
def iI:List Str := ["len","tuple","list","max","min","range","isinstance","bool","int","str","dict","all","any","sorted","reversed","zip","enumerate","set","sum","repr"]
def DZ(t:Str):Option String:=
 if t==("tuple":Str) then a_ "tuple" else if t==("list":Str) then a_ "list" else if t==("int":Str) then a_ "int"
 else if t==("bool":Str) then a_ "bool" else if t==("str":Str) then a_ "str" else if t==("dict":Str) then a_ "dict" else b_
def J8:Operator->Option F2
 |.Add=>a_ cK
 |.Sub=>a_ yh
 |.Mult=>a_ gY
 |.FloorDiv=>a_ oDiv
 |.Mod=>a_ oMod
 |.Pow=>a_ yO
 |_=>b_
def yF:CmpOp->Option F2
 |.Lt=>a_ oLt
 |.LtE=>a_ oLe
 |.Gt=>a_ oGt
 |.GtE=>a_ oGe
 |.Eq=>a_ oEq
 |.NotEq=>a_ oNe
 |.NotIn=>a_ kZ
 |.Is=>a_ oIs
 |_=>b_
def sNo:MS:=λ_ _=>b_
def L5:MS:=λY S=>a_ (.bk,Y,S)
def LI:MS:=λY S=>a_ (.ct,Y,S)
def Ct(name:Str)(ma:ME)(ZV:MA):Option ME:=
 if name==("append":Str) then a_ (mML cW ma ZV) else if name==("pop":Str) then a_ (mML jS ma ZV)
 else if name==("index":Str) then a_ (mMT ku ma ZV)
  else if name==("join":Str) then a_ (mMS j4 ma ZV) else if name==("split":Str) then a_ (mMS dn ma ZV) else b_
set_option genInjectivity false in
structure Rc where
 e:Tb->List Str->NS->Expr->Option ME
 c:Tb->List Str->NS->Str->List Expr->Option ME
 v:Tb->List Str->NS->Str->List Expr->Option ME
 o:Tb->List Str->NS->Option Expr->Option (Option ME)
 t:Tb->List Str->NS->Expr->Option MT
 l:Tb->List Str->NS->Bool->List Expr->Option MT
 f:Tb->List Str->NS->List Expr->Option MT
 a:Tb->List Str->NS->List Expr->Option MA
 i:Tb->List Str->NS->Expr->Option MI
 g:Tb->List Str->NS->Expr->Option MG
 gs:Tb->List Str->NS->List Expr->Option MGs
 s:Tb->List Str->NS->Stmt->Option MS
 b:Tb->List Str->NS->List Stmt->Option MS
section
variable (R:Rc) (T:Tb) (N:List Str) (ns:NS)
def LC:Const->Option ME
 |.int i=>a_ (mC (.int i))
 |.bool b=>a_ (mC (.bl b))
 |.none=>a_ (mC .non)
 |.str x=>a_ (mC (.str x))
 |_=>b_
def eUn(a:Expr):UnaryOp->Option ME
 |.USub=>(R.e T N ns a).map (m1 ym)
 |.Not=>(R.e T N ns a).map (m1 rQ)
 |_=>b_
def eBo(op:BoolOp)(p:Pos):List Expr->Option ME
 |[]=>b_
 |[a]=>R.e T N ns a
 | a::b::r=>(R.e T N ns a).bind λma=>match op with
   |.And=>(R.e T N ns (.BoolOp .And (b::r) p)).map (gv ma)
   |.Or=>(R.e T N ns (.BoolOp .Or (b::r) p)).map (mOr ma)
def AE(T:Tb):Bool:=T.Z.nm==("str":Str)
def isIn:CmpOp->Bool
 |.In=>c_
 |_=>d_
def ON(T:Tb):Bool:=T.Z.nm==("None":Str)
def GX(T:Tb)(op:CmpOp):Option F2:=if AE T&&isIn op then a_ Bm else if ON T&&isIn op then a_ yc else yF op
def isAdd:Operator->Bool
 |.Add=>c_
 |_=>d_
def IX(T:Tb)(op:Operator):Option F2:=if AE T&&isAdd op then a_ (eN ff cK) else J8 op
def Fg:Expr->Bool
 |.Call _ _ _ _=>d_
 |_=>c_
def eCm(a:Expr):List CmpOp->List Expr->Option ME
 |[op],[b]=>if gp b then(R.e T N ns a).bind λma=>(R.e T N ns b).bind λmb=>(GX T op).map λf=>m2 f ma mb else b_
 |[op,Z8],[b,c]=>if gp b&&gp c then(R.e T N ns a).bind λma=>(R.e T N ns b).bind λmb=>(R.e T N ns c).bind λmc=>(yF op).bind λf=>(yF Z8).map λg=>mCh f g ma mb mc else b_
 |_,_=>b_
def FN:Expr->Bool
 |.UnaryOp .USub (.Constant (.int i) _ _) _=>i==1
 |_=>d_
def eSl(a:Expr)(lo hi:Option Expr):Option Expr->Option ME
 |none=>(R.e T N ns a).bind λma=>(R.o T N ns lo).bind λml=>(R.o T N ns hi).map (lC ma ml)
 |some s=>if lo.isNone&&hi.isNone&&FN s then(R.e T N ns a).map (m1 Dl) else b_
def eSb(a:Expr):Expr->Option ME
 |.Slice lo hi st _=>eSl R T N ns a lo hi st
 |b=>if jn b then(R.e T N ns a).bind λma=>(R.e T N ns b).map (m2 (if AE T then eN i3 oIx else oIx) ma) else b_
def eDi:List (Option Expr)->List Expr->Option ME
 |[],[]=>a_ qL
 |[a_ a],[b]=>(R.e T N ns a).bind λma=>(R.e T N ns b).map (DY ma)
 |_,_=>b_
def eLn(elt it:Expr)(ifs:List Expr)(scope:Scope)(x:Str):Option ME:=
 (R.i T N ns it).bind λmi=>(R.f T (mK N x) scope.names ifs).bind λmt=>(R.e T (mK N x) scope.names elt).map (bu mi mt)
def eLt(elt it:Expr)(ifs:List Expr)(scope:Scope):Expr->Option ME
 |.Name x _=>if scope.kind==.function&&jB N (mK N x) ns scope.names x&&gp it then eLn R T N ns elt it ifs scope x else b_
 |_=>b_
def eLc(elt:Expr)(scope:Scope):List Comprehension->Option ME
 |[c]=>if c.is_async=0 then eLt R T N ns elt c.iter c.ifs scope c.target else b_
 |_=>b_
def eRg(g:Str):List Expr->Option ME
 |[a]=>if g==("list":Str) then b_ else b_
 |[a,b]=>if g==("list":Str) then (R.a T N ns [a,b]).map fun m=>nB (iR2 m) else b_
 |_=>b_
def eC1(g:Str):Expr->Option ME
 |.Call (.Name r q) rs [] rp=>if (g==("list":Str)||g==("tuple":Str))&&r==("range":Str) then (if dc ns r then eRg R T N ns g rs else b_) else R.c T N ns g [.Call (.Name r q) rs [] rp]
 |a=>if AE T&&g==("len":Str) then (R.a T N ns [a]).map (mFn (nq jI cJ)) else if AE T&&g==("int":Str) then (R.a T N ns [a]).map (mFn oy) else R.c T N ns g [a]
def eIs(g t:Str)(tp:Pos)(a:Expr):Option ME:=
 if g==("isinstance":Str) then (if dc ns t&&notStar a then (DZ t).bind fun c=>(R.e T N ns a).map (m1 (fg c)) else b_) else R.c T N ns g [a,.Name t tp]
def eC2(g:Str)(a:Expr):Expr->Option ME
 |.Name t tp=>eIs R T N ns g t tp a
 |.Lambda _ _ _ _=>b_
 |b=>R.c T N ns g [a,b]
def eCf(g:Str):List Expr->Option ME
 |[]=>(T.D.lookup g).map λmf=>mFn mf af
 |[a]=>eC1 R T N ns g a
 |[a,b]=>eC2 R T N ns g a b
 |a::b::c::r=>R.c T N ns g (a::b::c::r)
def eMe(o:Expr)(name:Str)(p q:Pos):List Expr->Option ME
 |[]=>b_
 |[a]=>if baseOk o&&(p.endLine==q.line)&&notStar a then(R.e T N ns o).bind λmo=>(R.a T N ns [a]).bind (Ct name mo) else b_
 |[a,b]=>if baseOk o&&(p.endLine==q.line)&&notStar a&&notStar b&&name==("insert":Str) then (R.e T N ns o).bind fun mo=>(R.a T N ns [a,b]).map (mML kn mo) else b_
 |_=>b_
def eCa(as:List Expr)(q:Pos):Expr->Option ME
 |.Name g _=>if dc ns g&&be g then eCf R T N ns g as else R.v T N ns g as
 |.Attribute o name p=>eMe R T N ns o name p q as
 |_=>b_
end
def sE(R:Rc)(T:Tb):List Str->NS->Expr->Option ME:=λN ns e=>match e with
  |.Name x _=>if be x then(if i7 ns x then(slot N x).map ae else if dc ns x then(T.C.lookup x).map mC else b_) else b_
  |.Constant c _ _=>LC c
  |.BinOp a op b _=>(R.e T N ns a).bind λma=>(R.e T N ns b).bind λmb=>(IX T op).map λf=>m2 f ma mb
  |.UnaryOp op a _=>eUn R T N ns a op
  |.BoolOp op vs p=>eBo R T N ns op p vs
  |.Compare a ops bs _=>eCm R T N ns a ops bs
  |.IfExp c a b _=>(R.t T N ns c).bind λmc=>(R.e T N ns a).bind λma=>(R.e T N ns b).map (F9 mc ma)
  |.Subscript a b _=>eSb R T N ns a b
  |.Dict ks vs _=>eDi R T N ns ks vs
  |.Tuple es _ _=>(R.a T N ns es).map gZ
  |.List es _=>(R.a T N ns es).map b0
  |.ListComp elt gens scope _=>eLc R T N ns elt scope gens
  |.Call f as Wp q=>if Wp.isEmpty then eCa R T N ns as q f else b_
  |_=>b_
def sC(R:Rc)(T:Tb):List Str->NS->Str->List Expr->Option ME:=λN ns g as=>(R.a T N ns as).bind λZV=>match IJ g with
  |some mf=>a_ (mFn mf ZV)
  |none=>(T.D.lookup g).map λmf=>mFn mf ZV
def sV(R:Rc)(T:Tb):List Str->NS->Str->List Expr->Option ME:=λN ns g as=>match as with
 |[]=>b_
 |a::as=>b_
def sO(R:Rc)(T:Tb):List Str->NS->Option Expr->Option (Option ME):=λN ns o=>match o with
  |none=>a_ b_
  |some e=>(R.e T N ns e).map a_
def sT(R:Rc)(T:Tb):List Str->NS->Expr->Option MT:=λN ns e=>match e with
  |.UnaryOp .Not a _=>(R.t T N ns a).map dk
  |.BoolOp .And vs _=>R.l T N ns c_ vs
  |.BoolOp .Or vs _=>R.l T N ns d_ vs
  |.Compare a ops bs _=>(eCm R T N ns a ops bs).map cOf
  |e=>if plainT e then(R.e T N ns e).map cOf else b_
def sL(R:Rc)(T:Tb):List Str->NS->Bool->List Expr->Option MT:=λN ns b vs=>match vs with
  |[]=>b_
  |[a]=>R.t T N ns a
  |a::r=>(R.t T N ns a).bind λma=>(R.l T N ns b r).map λmr=>if b then rR ma mr else cOr ma mr
def sF(R:Rc)(T:Tb):List Str->NS->List Expr->Option MT:=λN ns ifs=>match ifs with
  |[]=>a_ cTT
  |[c]=>R.t T N ns c
  |_=>b_
def sA(R:Rc)(T:Tb):List Str->NS->List Expr->Option MA:=λN ns es=>match es with
  |[]=>a_ af
  |e::r=>if notStar e then(R.e T N ns e).bind λm=>(R.a T N ns r).map (aa m) else b_
def sI(R:Rc)(T:Tb):List Str->NS->Expr->Option MI:=λN ns e=>match e with
  | .Call (.Name g q) as [] p=>
    if g==("range":Str) then
     if dc ns g then match as with
      |[a]=>(R.a T N ns [a]).map iR1
      |[a,b]=>(R.a T N ns [a,b]).map iR2
      |_=>b_
     else b_
    else(R.e T N ns (.Call (.Name g q) as [] p)).map dh
  |e=>(R.e T N ns e).map (if AE T&&Fg e then qY else dh)
def sG(R:Rc)(T:Tb):List Str->NS->Expr->Option MG:=λN ns e=>match e with
  |.Name x _=>if lV ns x then(slot N x).map gN else b_
  |.Subscript a b _=>if jn b then(R.e T N ns a).bind λma=>(R.e T N ns b).map (gSb ma) else b_
  |.Tuple es _ _=>(R.gs T N ns es).map (gTp es.length)
  |_=>b_
def sGs(R:Rc)(T:Tb):List Str->NS->List Expr->Option MGs:=λN ns es=>match es with
  |[]=>a_ xH
  |e::r=>if notStar e then(R.g T N ns e).bind λg=>(R.gs T N ns r).map (kA g) else b_
def Ky(R:Rc)(T:Tb)(N:List Str)(ns:NS)(y:Str)(elt it:Expr)(ifs:List Expr)(scope:Scope):Expr->Option MS
 | .Name x _=>
   if lV ns y&&(scope.kind==.function&&jB N (mK N x) ns scope.names x&&gp it) then
    (slot N y).bind λi=>(R.i T N ns it).bind λmi=>(R.f T (mK N x) scope.names ifs).bind λmt=>(R.e T (mK N x) scope.names elt).map λme=>bJ i (bu mi mt me)
   else b_
 |_=>b_
def MR(R:Rc)(T:Tb)(N:List Str)(ns:NS)(y:Str)(elt:Expr)(scope:Scope):List Comprehension->Option MS
 |[c]=>if c.is_async=0 then Ky R T N ns y elt c.iter c.ifs scope c.target else b_
 |_=>b_
def JU(R:Rc)(T:Tb)(N:List Str)(ns:NS)(x:Str):Expr->Option MS
 |.ListComp elt gens scope _=>MR R T N ns x elt scope gens
 |e=>if lV ns x&&iD e then(slot N x).bind λi=>(R.e T N ns e).map (bJ i) else b_
def KH(R:Rc)(T:Tb)(N:List Str)(ns:NS)(e:Expr):Expr->Option MS
  |.Name x _=>JU R T N ns x e
  |.Subscript a b _=>if iD e&&jn b then(R.e T N ns a).bind λma=>(R.e T N ns b).bind λmb=>(R.e T N ns e).map (jR ma mb) else b_
  |.Tuple ts kt pt=>if iD e&&(notTuple e||vp ts) then(R.g T N ns (.Tuple ts kt pt)).bind λg=>(R.e T N ns e).map λme=>Dy me g else b_
  |_=>b_
def sAs(R:Rc)(T:Tb)(N:List Str)(ns:NS)(e:Expr):List Expr->Option MS
 |[t]=>KH R T N ns e t
 |_=>b_
def sAu(R:Rc)(T:Tb)(N:List Str)(ns:NS)(x:Str)(e:Expr):Operator->Option MS
  |_=>b_
def Jn(R:Rc)(T:Tb)(N:List Str)(ns:NS)(op:Operator)(e:Expr):Expr->Option MS
 |.Name x _=>sAu R T N ns x e op
 |_=>b_
def sRt(R:Rc)(T:Tb)(N:List Str)(ns:NS):Option Expr->Option MS
 |some e=>(R.e T N ns e).map bO
 |none=>a_ (bO (mC .non))
def sFo(R:Rc)(T:Tb)(N:List Str)(ns:NS)(it:Expr)(body:List Stmt):Expr->Option MS
  |.Name x _=>if lV ns x&&gp it then(slot N x).bind λi=>(R.i T N ns it).bind λmi=>(R.b T N ns body).map (fU i mi) else b_
  |.Tuple ts kt pt=>b_
  |_=>b_
def HK(R:Rc)(T:Tb)(N:List Str)(ns:NS)(t it:Expr)(body:List Stmt):List Stmt->Option MS
 |[]=>sFo R T N ns it body t
 |_=>b_
def sWh(R:Rc)(T:Tb)(N:List Str)(ns:NS)(c:Expr)(body:List Stmt):List Stmt->Option MS
 |[]=>(R.t T N ns c).bind λmc=>(R.b T N ns body).map (yy mc)
 |_=>b_
def sS(R:Rc)(T:Tb):List Str->NS->Stmt->Option MS:=λN ns st=>match st with
  |.Assign ts e _=>sAs R T N ns e ts
  |.AugAssign t op e _=>Jn R T N ns op e t
  |.Expr e _=>if iD e then(R.e T N ns e).map dm else b_
  |.Return o _=>sRt R T N ns o
  |.If c a b _=>(R.t T N ns c).bind λmc=>(R.b T N ns a).bind λma=>(R.b T N ns b).map (sIf mc ma)
  |.For t it body els _=>HK R T N ns t it body els
  |.While c body els _=>sWh R T N ns c body els
  |.Pass _=>a_ bE
  |.Break _=>a_ L5
  |.Raise _ _ _=>a_ sNo
  |.Continue _=>a_ LI
  |_=>b_
section
variable (R:Rc) (T:Tb) (N:List Str) (ns:NS)
end
def sB(R:Rc)(T:Tb):List Str->NS->List Stmt->Option MS:=λN ns sts=>match sts with
  |[]=>a_ bE
  |[s]=>R.s T N ns s
  |s::r=>(R.s T N ns s).bind λms=>(R.b T N ns r).map (aW ms)
def rc:Nat->Rc
 |0=>⟨λ_ _ _ _=>b_,λ_ _ _ _ _=>b_,λ_ _ _ _ _=>b_,λ_ _ _ _=>b_,λ_ _ _ _=>b_,λ_ _ _ _ _=>b_,λ_ _ _ _=>b_,λ_ _ _ _=>b_,λ_ _ _ _=>b_,λ_ _ _ _=>b_,λ_ _ _ _=>b_,λ_ _ _ _=>b_,λ_ _ _ _=>b_⟩
 |n+1=>⟨sE (rc n),sC (rc n),sV (rc n),sO (rc n),sT (rc n),sL (rc n),sF (rc n),sA (rc n),sI (rc n),sG (rc n),sGs (rc n),sS (rc n),sB (rc n)⟩
abbrev cE(T:Tb)(n:Nat):=(rc n).e T
abbrev cC(T:Tb)(n:Nat):=(rc n).c T
abbrev cV(T:Tb)(n:Nat):=(rc n).v T
abbrev cO(T:Tb)(n:Nat):=(rc n).o T
abbrev cT(T:Tb)(n:Nat):=(rc n).t T
abbrev cL(T:Tb)(n:Nat):=(rc n).l T
abbrev cF(T:Tb)(n:Nat):=(rc n).f T
abbrev cA(T:Tb)(n:Nat):=(rc n).a T
abbrev cI(T:Tb)(n:Nat):=(rc n).i T
abbrev cG(T:Tb)(n:Nat):=(rc n).g T
abbrev cGs(T:Tb)(n:Nat):=(rc n).gs T
abbrev cS(T:Tb)(n:Nat):=(rc n).s T
abbrev cB(T:Tb)(n:Nat):=(rc n).b T
section
variable {env:Env}{e a b o:Expr}{es:List Expr}{pos q:Pos}
theorem bW(h:notStar e=c_)(es:List Expr)(env:Env):starEach (e::es) env=(d_,eval e env)::starEach es env:=by
 cases e<;>first |rfl |cases h
theorem lP(pos:Pos)(env:Env):∀{es:List Expr},es.all notStar=c_->(backTo pos (starEach es env)).any (·.1)=d_
 |[],_=>rfl
 | e::es,h=>by
   rw[a8,ah]at h;rw[bW h.1];show(d_||(backTo _ _).any _)=d_;rw[lP _ _ h.2];rfl
theorem CU(h:plainT e=c_)(env:Env):∀whole,isTrue e env whole=(do let v <- whole;standAt e.pos;holding [v] (truthy v)):=by
 intro whole;cases e<;>first |rfl |cases h
theorem oH(h:gp e=c_)(env:Env):∀x,foldedSetIterable e env x=pure x:=by
 intro x;cases e<;>first |rfl |cases h
theorem qF(h:gp b=c_)(op:CmpOp):behindInMarks op b=d_:=by
 cases b<;>first |rfl |cases h
theorem Ag(h:jn b=c_):qr b:=by
 intro o i;cases b<;>first |rfl |cases h
theorem l7(h:baseOk o=c_)(name:Str)(env:Env):attributeBase o name env (eval o env)=eval o env:=by
 cases o with
 | Call f as ks p=>
   cases f with
   | Name x p=>
     cases as with
     | nil=>cases ks with
       |nil=>cases h
       |cons k ks=>rfl
     |cons a as=>rfl
   |_=>rfl
 |_=>rfl
theorem nY(h:iD e=c_)(t:Option Expr)(line:Nat)(env:Env):swapsWith e t line env=pure d_:=by
 cases e<;>first |rfl |cases h
theorem z6(h:iD e=c_)(t:Expr)(line:Nat)(env:Env):swapsWithSole [t] e line env=pure d_:=nY h _ _ _
theorem qN(h:notStar a=c_)(q:Pos)(env:Env):((backTo q (starEach [a] env)).all (λx => !x.1)&&(backToKw q (keywordEach [] env)).all (λx=>x.1.isSome)
   && decide ([a].length+([]:List Keyword).length+(if ([]:List Keyword).isEmpty then 0 else 1)<30))=c_:=by
 rw[bW h];rfl
theorem DH(h:jn b=c_)(env:Env): ∀v,assign (.Subscript a b pos) env v=(do
   let ov <- holding [v] (eval a env)
   let iv <- holding [v,ov] (eval b env)
   standAt pos
   holding [v,ov,iv] (setItem ov iv v)
   release [v,ov,iv] []):=by
 intro v;cases b<;>first |rfl |cases h
theorem vX(h:notStar e=c_)(es:List Expr)(env:Env):assignEach (e::es) env=(d_,assign e env)::assignEach es env:=by
 cases e<;>first |rfl |cases h
theorem Aj(env:Env):∀es:List Expr,es.all notStar=c_->(assignEach es env).length=es.length/\(assignEach es env).findIdx? (·.1)=b_
 |[],_=>⟨rfl,rfl⟩
 | e::es,h=>by
   rw[a8,ah]at h;obtain⟨a,b⟩:=Aj env es h.2;rw[vX h.1];exact⟨by simp[a],by rw[List.findIdx?_cons];simp[b]⟩
theorem wa{ts:List Expr}{kt:Nat}{pt:Pos}(h:(notTuple e||vp ts)=c_):swappedStores [.Tuple ts kt pt] e env=pure b_:=by
 cases e with
 | Tuple vs k2 p2=>
   have h':=h;unfold vp at h'
   split at h'
   .exact wy
   .cases h'
 |_=>rfl
theorem ye:swappedStores [.Subscript a b pos] e env=pure b_:=by
 cases e<;>rfl
end
theorem i6{T:Tb}:∀{n:Nat}{N:List Str}{ns:NS}{es:List Expr}{m:MA},cA T n N ns es=a_ m->es.all notStar=c_
 |0,_,_,_,_,h=>by simp[cA,rc]at h
 |n+1,_,_,[],_,h=>rfl
 | n+1,N,ns,e::es,m,h=>by
   simp only[cA,rc,sA]at h
   split at h
   .rename_i hs
    cases e1:(rc n).e T N ns e with
    |none=>simp_all
    | some me=>
      cases e2:(rc n).a T N ns es with
      |none=>grind
      |some mr=>rw[a8,hs,i6 e2];rfl
   grind
theorem xq{T:Tb}:∀{n:Nat}{N:List Str}{ns:NS}{es:List Expr}{m:MGs},cGs T n N ns es=a_ m->es.all notStar=c_
 |0,_,_,_,_,h=>by simp[cGs,rc]at h
 |n+1,_,_,[],_,h=>rfl
 | n+1,N,ns,e::es,m,h=>by
   simp only[cGs,rc,sGs]at h
   split at h
   .rename_i hs
    cases e1:(rc n).g T N ns e with
    |none=>simp_all
    | some me=>
      cases e2:(rc n).gs T N ns es with
      |none=>grind
      |some mr=>rw[a8,hs,xq e2];rfl
   grind
variable{N:List Str}{x:Str}
theorem slot_get{i:Nat}(h:slot N x=a_ i):N[i]?=a_ x:=by
 obtain⟨h1,h2,_⟩:=eu.mp h
 simp_all
theorem bR (h:be x=c_):(x==("__debug__":Str))=d_/\(x==("__classdict__":Str))=d_:=by
 unfold be at h
 simp_all
theorem bind_eq{α β:Type}{o:Option α}{f:α->Option β}{b:β}(h:o.bind f=a_ b):∃a,o=a_ a/\f a=a_ b:=by
 cases o<;>simp_all
theorem map_eq{α β:Type}{o:Option α}{f:α->β}{b:β}(h:o.map f=a_ b):∃a,o=a_ a/\f a=b:=by
 simp_all
section
variable {M:Mo}{X:Cx}{k:Nat}{N:List Str}{ns:NS}{a b c e:Expr}{es:List Expr}{ma mb mc:ME}{mt:MT}{ZV:MA}{pos p1 p2:Pos}{x:Str}
theorem LP(S:Sc M X k N ns)(hg:dc ns "all"=c_)(hm:M.mg "all"=b_)(ha:PA X (e::es) (tMA M.K ZV))(he:starEach (e::es) X.env=(d_,eval e X.env)::starEach es X.env)(ZQ:(backTo pos (starEach es X.env)).any (·.1)=d_) :
  PE X (.Call (.Name "all" p1) (e::es) [] pos) (tM M.K (mFn kR ZV)):=
 PE.con (je (S.hK▸AF S.calm) (S.gl hg) (by rw[S.hm];omega) PyProof.Rows.boot_all ha (by decide) (by decide) he ZQ) λ_ _ _ h=>vg Ji h
theorem Me(S:Sc M X k N ns)(hg:dc ns "any"=c_)(hm:M.mg "any"=b_)(ha:PA X (e::es) (tMA M.K ZV))(he:starEach (e::es) X.env=(d_,eval e X.env)::starEach es X.env)(ZQ:(backTo pos (starEach es X.env)).any (·.1)=d_) :
  PE X (.Call (.Name "any" p1) (e::es) [] pos) (tM M.K (mFn yw ZV)):=
 PE.con (je (S.hK▸Br S.calm) (S.gl hg) (by rw[S.hm];exact hm) PyProof.Rows.boot_any ha (by decide) (by decide) he ZQ) λ_ _ _ h=>vg Ig h
variable{op:CmpOp}
theorem Ee{f:F2}(S:Sc M X k N ns)(h:yF op=a_ f):∃r,OpR X (compareOp op) r/\OpU M.K r f:=by
 cases op<;>simp only[yF,oR,reduceCtorEq]at h<;>subst h
 .exact⟨_,S.hK▸BR S.room.units,Hl⟩
 .exact⟨_,S.hK▸Jd S.room.units,Mh⟩
 .exact⟨_,MW,uT⟩
 .exact⟨_,Nj,uT⟩
 .exact⟨_,K5,uT⟩
 .exact⟨_,NC,uT⟩
 .exact⟨_,Ks,Nh⟩
 .exact⟨_,S.hK▸Bb (by have:=S.room.units;omega) (by have:=S.room.un;show X.A.units+1+64<cLine;omega),Dh⟩
theorem LR{j:Nat}{p3 p4:Pos}(S:Sc M X k N ns)(ha:PE X a (tM M.K ma)):PE X (.Subscript a (.Slice b_ b_ (a_ (.UnaryOp .USub (.Constant (.int 1) j p3) p4)) p2) pos) (tM M.K (m1 Dl ma)):=by
 refine PE.con ?_ λ_ _ _ h=>Lg h;rw[<-S.hK];exact Iz ha
theorem IF{N':List Str}{scope:Scope}{px py YF:Pos}{iter elt:Expr}{ifs:List Expr}{wi:TI}{mi:MI}{y:Str}(S:Sc M X k N ns)(i:Nat)(hy:N[i]?=a_ y)(ho:lV ns y=c_)(hk:scope.kind=.function)(ok:jB N N' ns scope.names x=c_)(hi:PI X (.Name x px) iter wi)
  (ht:∀X',Sc M X' k N' scope.names->PTs X' ifs (tMT M.K mt)) (he:∀X',Sc M X' k N' scope.names->PE X' elt (tM M.K mc)) (hr:∀G H Q,tM M.K (bu mi mt mc) G H Q->lT wi (tMT M.K mt) (tM M.K mc) G H Q)
  (hs:∀x,foldedSetIterable iter X.env x=pure x):PS X (.Assign [.Name y py] (.ListComp elt [⟨.Name x px,iter,ifs,0⟩] scope pos) YF) (tMS M.K (bJ i (bu mi mt mc))):=by
 have C:=mw S hk ok;have e:∃b,swapsWith (.ListComp elt [⟨.Name x px,iter,ifs,0⟩] scope pos) (a_ (.Name y py)) YF.line X.env=pure b:=⟨_,rfl⟩;obtain⟨b,e⟩:=e;cases b with
 |true=>exact PS.con (E5 (by rw[S.hN];exact S.nd) (by rw[S.hN];omega) (S.lo ho).1 S.calm C hi (λZZ ZW fp=>ht _ (rN S C _ _ fp)) (λZZ ZW fp=>he _ (rN S C _ _ fp)) e hs (S.lo ho).2) λ_ _ _ h=>hr _ _ _ (G9 h)
 |false=>exact xl S i hy ho (B7 S hk ok hi ht he hr hs) e
theorem Km(S:Sc M X k N ns)(hg:dc ns "str"=c_)(hm:M.mg "str"=b_)(ha:PA X (e::es) (tMA M.K ZV))(he:starEach (e::es) X.env=(d_,eval e X.env)::starEach es X.env)(ZQ:(backTo pos (starEach es X.env)).any (·.1)=d_) :
  PE X (.Call (.Name "str" p1) (e::es) [] pos) (tM M.K (mFn pZ ZV)):=
 PE.con (j6 uS (S.gl hg) (by rw[S.hm];exact hm) PyProof.Rows.boot_str ha (by decide) (by decide) he ZQ) λ_ _ _ h=>vg Jw h
theorem IM:PE X (.Dict [] [] pos) (tM M.K qL):=PE.con Cu λ_ _ _ h=>Ko h
theorem J7(ha:PE X a (tM M.K ma))(hb:PE X b (tM M.K mb)):PE X (.Dict [a_ a] [b] pos) (tM M.K (DY ma mb)):=
 PE.con (Ff (Co ha hb FW) rfl rfl (by simp) (by simp)) λ_ _ _ h=>JL h
theorem Jf(S:Sc M X k N ns)(ho:PE X b (tM M.K mb))(ha:PA X [a] (tMA M.K ZV))(hb:baseOk b=c_)(hs:notStar a=c_)(hl:(p1.endLine==pos.line)=c_):PE X (.Call (.Attribute b "join" p1) [a] [] pos) (tM M.K (mMS j4 mb ZV)):=PE.con (vT zk PySem.F.slot_str_join PySem.F.type_str_join Gz ho ha (l7 hb _ _) (qN hs _ _) hl (bW hs _ _) rfl) fun _ _ _ h=>S.hK▸Ml FY h
theorem Fp(S:Sc M X k N ns)(ho:PE X b (tM M.K mb))(ha:PA X [a] (tMA M.K ZV))(hb:baseOk b=c_)(hs:notStar a=c_)(hl:(p1.endLine==pos.line)=c_):PE X (.Call (.Attribute b "split" p1) [a] [] pos) (tM M.K (mMS dn mb ZV)):=PE.con (vT zk PySem.F.slot_str_split PySem.F.type_str_split De ho ha (l7 hb _ _) (qN hs _ _) hl (bW hs _ _) rfl) fun _ _ _ h=>S.hK▸Ml Ds h
theorem JZ(S:Sc M X k N ns)(hg:dc ns "len"=c_)(hm:M.mg "len"=b_)(ha:PA X (e::es) (tMA M.K ZV))(he:starEach (e::es) X.env=(d_,eval e X.env)::starEach es X.env)(ZQ:(backTo pos (starEach es X.env)).any (·.1)=d_) :
  PE X (.Call (.Name "len" p1) (e::es) [] pos) (tM M.K (mFn jI ZV)):=
 PE.con (je uC (S.gl hg) (by rw[S.hm];exact hm) PySem.boot_len ha (by decide) (by decide) he ZQ) λ_ _ _ h=>vg Gb h
theorem JO(S:Sc M X k N ns)(hg:dc ns "int"=c_)(hm:M.mg "int"=b_)(ha:PA X (e::es) (tMA M.K ZV))(he:starEach (e::es) X.env=(d_,eval e X.env)::starEach es X.env)(ZQ:(backTo pos (starEach es X.env)).any (·.1)=d_) :
  PE X (.Call (.Name "int" p1) (e::es) [] pos) (tM M.K (mFn oy ZV)):=
 PE.con (j6 AO (S.gl hg) (by rw[S.hm];exact hm) PyProof.Rows.boot_int ha (by decide) (by decide) he ZQ) λ_ _ _ h=>vg E1 h
theorem L9(S:Sc M X k N ns)(ha:PE X a (tM M.K ma))(hb:PE X b (tM M.K mb))(hs:qr b):PE X (.Subscript a b pos) (tM M.K (m2 i3 ma mb)):=
 PE.con (Ce Dm ha hb hs) λ_ _ _ h=>qc HP h
theorem Jx{T:Tb}{f:F2}(S:Sc M X k N ns)(h:GX T op=a_ f):∃r,OpR X (compareOp op) r/\OpU M.K r f:=by
 unfold GX at h
 split at h
 .rename_i hs
  obtain⟨_,h2⟩:=aQ.mp hs;cases op<;>first|(cases h2;done)|skip
  cases h;exact⟨_,Bs,KY⟩
 split at h
 .rename_i hs
  obtain⟨_,h2⟩:=aQ.mp hs;cases op<;>first|(cases h2;done)|skip
  cases h;exact⟨_,S.hK▸Jj (by have:=S.room.un;show X.A.units+1+64<cLine;omega),KB⟩
 .exact Ee S h
theorem Da(S:Sc M X k N ns)(ho:PE X c (tM M.K mc))(ha:PA X [a,b] (tMA M.K ZV))(h0:baseOk c=c_)(hl:(p1.endLine==pos.line)=c_)(hs:notStar a=c_)(YW:notStar b=c_):PE X (.Call (.Attribute c "insert" p1) [a,b] [] pos) (tM M.K (mML kn mc ZV)):=
 PE.con (vT kT xT PySem.F.type_list_insert AZ ho ha (l7 h0 _ _) (by rw[bW hs,bW YW];rfl) hl (bW hs _ _) (by rw[bW YW];rfl)) λ_ _ _ h=>S.hK▸IZ Bj h
theorem CK{as bs:Expr}{q rp:Pos}(S:Sc M X k N ns)(hg:dc ns "list"=c_)(hm:M.mg "list"=b_)(Va:dc ns "range"=c_)(Zb:M.mg "range"=b_)(ha:PA X [as,bs] (tMA M.K ZV))(hs:notStar as=c_)(YW:notStar bs=c_) :
  PE X (.Call (.Name "list" p1) [.Call (.Name "range" q) [as,bs] [] rp] [] pos) (tM M.K (nB (iR2 ZV))):=
 PE.con (j6 (sR S.calm) (S.gl hg) (by rw[S.hm];omega) PyProof.Rows.boot_list (l6 (Gi (S.gl Va) (by rw[S.hm];omega) ha (by rw[bW hs,bW YW];rfl) (by rw[bW YW];rfl)) yL) (by decide) (by decide)) λ_ _ _ h=>BF h
theorem MQ{t:Str}{c:String}(S:Sc M X k N ns)(hg:dc ns "isinstance"=c_)(hm:M.mg "isinstance"=b_)(Va:dc ns t=c_)(Zb:M.mg t=b_)(hb:bootBuiltins t=a_ (.type c))(hc:c∈kq)(hn:t≠"__name__")(hd:(t==("__debug__":Str))=d_)
  (ha:PE X a (tM M.K ma)) (hs:notStar a=c_):PE X (.Call (.Name "isinstance" p1) [a,.Name t p2] [] pos) (tM M.K (m1 (fg c) ma)):=by
 refine PE.con (je Cd (S.gl hg) (by rw[S.hm];omega) PyProof.Rows.boot_isinstance (l6 ha (l6 (EZ (v:= .ty c) (S.gl Va) (by rw[S.hm];omega) hb rfl hn hd) yL) (bW hs _ _)) (by decide) (by decide) (bW hs _ _) rfl) λ_ _ _ h=>?_;rw[S.hK];exact Mu hc h
theorem GL(S:Sc M X k N ns)(ho:PE X b (tM M.K mb))(ha:PA X [a] (tMA M.K ZV))(hb:baseOk b=c_)(hs:notStar a=c_)(hl:(p1.endLine==pos.line)=c_):PE X (.Call (.Attribute b "index" p1) [a] [] pos) (tM M.K (mMT ku mb ZV)):=by
 refine PE.con ?_ λ_ _ _ h=>FG h;rw[<-S.hK];exact CN S.room.units ho ha (l7 hb _ _) (qN hs _ _) hl (bW hs _ _) rfl
section
variable {X:Cx}
end
theorem NJ{st:Stmt}:PS X st (tMS M.K sNo):=by
 intro pins s G H D I h;obtain⟨μ,S,Y,r,hr,er,e,kk⟩:=h;cases e
theorem NT:PS X (.Break pos) (tMS M.K L5):=PS.con Cb λD G H h=>by
 obtain⟨μ,S,Y,r,hr,er,e,kk⟩:=h;cases e;exact kk μ G H (Pre.refl _) (bh.refl _) hr er
theorem Nf:PS X (.Continue pos) (tMS M.K LI):=PS.con xh λD G H h=>by
 obtain⟨μ,S,Y,r,hr,er,e,kk⟩:=h;cases e;exact kk μ G H (Pre.refl _) (bh.refl _) hr er
theorem J4:PS X (.Pass pos) (tMS M.K bE):=PS.con E6 λD G H h=>Eh h
theorem KU:PS X (.Return b_ pos) (tMS M.K (bO (mC .non))):=PS.con Fk λD G H h=>by
 obtain⟨μ,S,Y,r,hr,er,e,kk⟩:=h;cases e;exact kk μ _ H (Pre.refl _) (bh.refl _) hr o6
theorem IE(ha:PE X a (tM M.K ma))(hb:PE X (.BoolOp .And (b::es) pos) (tM M.K mb)):PE X (.BoolOp .And (a::b::es) pos) (tM M.K (gv ma mb)):=PE.con (JR ha hb) λ_ _ _ h=>Ju h
theorem Lb(ha:PE X a (tM M.K ma))(hb:PE X (.BoolOp .Or (b::es) pos) (tM M.K mb)):PE X (.BoolOp .Or (a::b::es) pos) (tM M.K (mOr ma mb)):=PE.con (MO ha hb) λ_ _ _ h=>My h
theorem JP(ha:PE X a (tM M.K ma)):PE X (.UnaryOp .Not a pos) (tM M.K (m1 rQ ma)):=PE.con (Iy ha) λ_ _ _ h=>JK h
end
section
variable {M:Mo}{cl:Nat->e_}{k n fu:Nat}{N:List Str}{ns:NS}{X:Cx}{E:XK}
variable{g:Str}{a:Expr}{as:List Expr}{ZV:MA}{k':Nat}{ps:List Str}
theorem Ak{p pos:Pos}{r:RF}(L:nc (CX1 X.prog X.w) X E)(S:Sc M X.nox k N ns)(F:FnX M cl g k' ps r)(hk:k'<=k)(hg:dc ns g=c_)(hp:be g=c_)(ha:PA X.nox (a::as) (tMA M.K ZV))(hs:(a::as).all notStar=c_):
  PE X (.Call (.Name g p) (a::as) [] pos) (tXE cl M.K (xFn r ZV) E):=by
 obtain⟨f,fd,hm,Zm,hb,F⟩:=F.ex;have L':=L;have e1:X.prog=M.P:=S.hP;have e2:X.w=M.w:=S.hw;have e3:X.K=M.K:=S.hK;have e4:X.mg=M.mg:=S.hm;have e5:X.base=M.base:=S.hb;rw[<-e1,<-e2,<-e3,<-e4,<-e5]at F;rw[<-e4]at hm;rw[<-e3]at Zm hb;rw[a8,ah]at hs;refine PE.con (uj F (S.room.mono hk) (S.gl hg) hm Zm hb .nil L' ha.nox (bR hp).1 (bW hs.1 _ _) (lP _ _ hs.2)) λG H Q h=>?_;obtain⟨μ,S0,Y,C,S',hr,er,q,aft⟩:=h;obtain⟨us,S1,e1,q⟩:=aK q;refine⟨μ,S0,Y,us,S1,hr,er,e1,λY0 vs H1 p1 k1 ZY rs=>?_⟩;show spX cl M.K r (vs++[]) H1 Q E;rw[fF];exact⟨Y0,S1,us,C,S',ZY,rs,q,aft.mono p1 k1⟩
theorem x_call{p pos:Pos}{r:RF}(L:Lv X E)(S:Sc M X.nox k N ns)(F:FnX M cl g k' ps r)(hk:k'<=k)(hg:dc ns g=c_)(hp:be g=c_)(ha:PA X.nox (a::as) (tMA M.K ZV))(hs:(a::as).all notStar=c_):
  PE X (.Call (.Name g p) (a::as) [] pos) (tXE cl M.K (xFn r ZV) E):=Ak L.pass S F hk hg hp ha hs
end
structure TOk(M:Mo)(T:Tb)(k:Nat):Prop where
 D:∀x mf,T.D.lookup x=a_ mf->∃k' ps,k'<=k/\Fn M x k' ps mf
 C:∀x u,T.C.lookup x=a_ u->∃g v,M.mg x=a_ g/\RelV v g /\ ∀H μ,RU H μ u v
 B:∀x∈iI,M.mg x=b_
 L:∀x q,T.L.lookup x=a_ q->∃k' ps,k'<=k/\Lam M q.1 k' ps q.2
 mkr:T.mkr=c_->∃c q P,M.mkr=a_ (c,q)/\Mkr M c P (q++T.Z.nm)
 Z:∀x r,T.Z.R.lookup x=a_ r->∃k' ps,k'<=k/\FnX M T.Z.cl x k' ps r
def GOk(M:Mo)(T:Tb)(k:Nat):Prop:=TOk M T k/\(T.mkr=c_->∃j,j+4<=k/\(∀x F,T.H.lookup x=a_ F->∃k' ps,k'<=j+1/\FnC M x k' ps F)/\(∀x vf,T.Z.F.lookup x=a_ vf->∃k' d,d<=3/\k'<=j+1/\FnR M T.Z.cl x k' d vf) /\ ∀caps capv cds base,f9 M.mg base->TOk (M.to caps capv cds base) T.bare j)
def IOk(M:Mo)(X:Cx)(tg it:Expr)(mi:MI):Prop:= ∃wi,PI X tg it wi /\
 (∀i ms D G H,tMS M.K (fU i mi ms) D G H->yC wi (i2 i) (tMS M.K ms) D G H) /\
 (∀mt mc G H Q,tM M.K (bu mi mt mc) G H Q->lT wi (tMT M.K mt) (tM M.K mc) G H Q)
structure Snd(M:Mo)(T:Tb)(k n:Nat):Prop where
 e:∀N ns e m,cE T n N ns e=a_ m->∀X,Sc M X k N ns->PE X e (tM M.K m)
 c:∀N ns g as m,cC T n N ns g as=a_ m->dc ns g=c_->be g=c_->∀a r,as=a::r->∀X p1 pos,Sc M X k N ns->PE X (.Call (.Name g p1) as [] pos) (tM M.K m)
 v:∀N ns g as m,cV T n N ns g as=a_ m->∀a r,as=a::r->∀X p1 pos,Sc M X k N ns->PE X (.Call (.Name g p1) as [] pos) (tM M.K m)
 v0:∀N ns g m,cV T n N ns g []≠a_ m
 o:∀N ns o m,cO T n N ns o=a_ m->∀X,Sc M X k N ns->lQ M X o m
 t:∀N ns e m,cT T n N ns e=a_ m->∀X,Sc M X k N ns->PT X e (tMT M.K m)
 l:∀N ns b vs m pos,cL T n N ns b vs=a_ m->∀X,Sc M X k N ns->PW X (.BoolOp (if b then .And else .Or) vs pos) (tMT M.K m)
 f:∀N ns vs m,cF T n N ns vs=a_ m->∀X,Sc M X k N ns->PTs X vs (tMT M.K m)
 a:∀N ns es m,cA T n N ns es=a_ m->∀X,Sc M X k N ns->PA X es (tMA M.K m)
 i:∀N ns tg it m,cI T n N ns it=a_ m->∀X,Sc M X k N ns->IOk M X tg it m
 g:∀N ns e m,cG T n N ns e=a_ m->∀X,Sc M X k N ns->PG X e (tG M.K m)
 gs:∀N ns es m,cGs T n N ns es=a_ m->∀X,Sc M X k N ns->PGs X es (tGs M.K m)
 s:∀N ns st m,cS T n N ns st=a_ m->∀X,Sc M X k N ns->PS X st (tMS M.K m)
 b:∀N ns sts m,cB T n N ns sts=a_ m->∀X,Sc M X k N ns->PSs X sts (tMS M.K m)
theorem dM{α:Type}{x:α}{P:Prop}(h:(b_:Option α)=a_ x):P:=by cases h
theorem O7(M:Mo)(T:Tb)(k:Nat):Snd M T k 0:=
 ⟨λ_ _ _ _ h=>dM h,λ_ _ _ _ _ h=>dM h,λ_ _ _ _ _ h=>dM h,λ_ _ _ _ h=>dM h,λ_ _ _ _ h=>dM h,λ_ _ _ _ h=>dM h,λ_ _ _ _ _ _ h=>dM h,λ_ _ _ _ h=>dM h,λ_ _ _ _ h=>dM h,λ_ _ _ _ _ h=>dM h,λ_ _ _ _ h=>dM h,λ_ _ _ _ h=>dM h,λ_ _ _ _ h=>dM h,λ_ _ _ _ h=>dM h⟩
section
variable {M:Mo}{T:Tb}{k n:Nat}
variable{ns:NS}{X:Cx}{a b:Expr}{ma mb:ME}{op:Operator}{f:F2}{pos:Pos}
theorem GA(h:J8 op=a_ f)(S:Sc M X k N ns)(ha:PE X a (tM M.K ma))(hb:PE X b (tM M.K mb)):PE X (.BinOp a op b pos) (tM M.K (m2 f ma mb)):=by
 cases op<;>simp only[J8,oR,reduceCtorEq]at h<;>subst h
 .exact CS S ha hb
 .exact MC ha hb
 .exact LQ S ha hb
 .exact Na ha hb
 .exact M0 ha hb
 .exact NP ha hb
theorem Kk(h:IX T op=a_ f)(S:Sc M X k N ns)(ha:PE X a (tM M.K ma))(hb:PE X b (tM M.K mb)):PE X (.BinOp a op b pos) (tM M.K (m2 f ma mb)):=by
 unfold IX at h
 split at h
 .rename_i hs
  obtain⟨_,h2⟩:=aQ.mp hs;cases op<;>first|(cases h2;done)|skip
  cases h;exact PE.altO (PE.con (rE yJ ha hb) λ_ _ _ h=>qc ES h) (CS S ha hb)
 .exact GA h S ha hb
variable{op:CmpOp}
theorem Jt(h:GX T op=a_ f)(S:Sc M X k N ns)(ha:PE X a (tM M.K ma))(hb:PE X b (tM M.K mb))(hs:gp b=c_):
  PE X (.Compare a [op] [b] pos) (tM M.K (m2 f ma mb))/\PT X (.Compare a [op] [b] pos) (tMT M.K (cOf (m2 f ma mb))):=by
 obtain⟨r,ho,ou⟩:=Jx S h;exact⟨PE.con (zQ ho ha hb (qF hs _)) λ_ _ _ h=>qc ou h,PT.con (EV ho ha hb (qF hs _)) λ_ _ _ h=>zf (λ_ q=>qc ou q) h⟩
theorem DQ{c:Expr}{mc:ME}{Z8:CmpOp}{g:F2}(h:yF op=a_ f)(h':yF Z8=a_ g)(S:Sc M X k N ns)(ha:PE X a (tM M.K ma))(hb:PE X b (tM M.K mb))(hc:PE X c (tM M.K mc))(hs:gp c=c_):
  PE X (.Compare a [op,Z8] [b,c] pos) (tM M.K (mCh f g ma mb mc))/\PT X (.Compare a [op,Z8] [b,c] pos) (tMT M.K (cOf (mCh f g ma mb mc))):=by
 obtain⟨r,ho,ou⟩:=Ee S h;obtain⟨r',Zr,Up⟩:=Ee S h';have hm:lastMarks [op,Z8] [b,c]=d_:=qF hs _;exact⟨PE.con (BX ho Zr ha hb hc hm) λ_ _ _ h=>zR ou Up h,PT.con (Ci ho Zr ha hb hc hm) λ_ _ _ h=>zf (λ_ q=>zR ou Up q) h⟩
theorem H9{t:Str}{c:String}(h:DZ t=a_ c):bootBuiltins t=a_ (.type c)/\c∈kq/\t≠"__name__"/\(t==("__debug__":Str))=d_/\t∈iI:=by
 unfold DZ at h
 repeat' split at h
 all_goals first
  | cases h
    done
  | (rename_i q
     cases h;rw[eq_of_beq q]
     exact⟨by decide +kernel,by decide,by decide +kernel,by decide +kernel,by decide +kernel⟩)
variable{ZV:MA}
theorem GU{g:Str}{e:Expr}{es:List Expr}{p1:Pos}{mf:MF}(O:TOk M T k)(h:IJ g=a_ mf)(hg:dc ns g=c_)(S:Sc M X k N ns)(ha:PA X (e::es) (tMA M.K ZV))(hs:(e::es).all notStar=c_):
  PE X (.Call (.Name g p1) (e::es) [] pos) (tM M.K (mFn mf ZV)):=by
 rw[a8,ah]at hs;have he:=bW hs.1 es X.env;have hp:=lP pos X.env hs.2;unfold IJ at h
 repeat' split at h
 all_goals first
  |(cases h;done)
  | (rename_i q
     cases h;rw[eq_of_beq q]at hg ⊢
     first
      |exact zp S hg (O.B _ (by decide +kernel)) ha he hp
      |exact Fm S hg (O.B _ (by decide +kernel)) ha he hp
      |exact Ni S hg (O.B _ (by decide +kernel)) ha he hp
      |exact Le S hg (O.B _ (by decide +kernel)) ha he hp
      |exact LP S hg (O.B _ (by decide +kernel)) ha he hp
      |exact Me S hg (O.B _ (by decide +kernel)) ha he hp
      | exact Km S hg (O.B _ (by decide +kernel)) ha he hp)
theorem GD{name:Str}{o:Expr}{mo m:ME}{p1:Pos}(h:Ct name mo ZV=a_ m)(S:Sc M X k N ns)(ho:PE X o (tM M.K mo))(ha:PA X [a] (tMA M.K ZV))(hb:baseOk o=c_)(hl:(p1.endLine==pos.line)=c_)(hs:notStar a=c_):
  PE X (.Call (.Attribute o name p1) [a] [] pos) (tM M.K m):=by
 unfold Ct at h
 repeat' split at h
 all_goals first
  |(cases h;done)
  | (rename_i q
     cases h;rw[eq_of_beq q]
     first
      |exact wB S ho ha (l7 hb _ _) (qN hs _ _) hl (bW hs _ _) rfl
      |exact GG S ho ha (l7 hb _ _) (qN hs _ _) hl (bW hs _ _) rfl
      |exact GL S ho ha hb hs hl
      |exact Jf S ho ha hb hs hl
      | exact Fp S ho ha hb hs hl)
end
section
variable {M:Mo}{T:Tb}{k n:Nat}
variable{ps:List Str}{ns:NS}
theorem xm{sc:Scope}(h:uP ps sc ns=c_):j8 ps (frees sc) sc /\ ∀y∈frees sc,ns.lookup y=a_ .cell/\(y,aX)∈sc.names:=by
 unfold uP at h;simp only[ah,aC,Bool.not_eq_true',decide_eq_true_eq]at h;obtain⟨⟨⟨⟨⟨⟨h1,h2⟩,h3⟩,h4⟩,h5⟩,h6⟩,h7⟩:=h;have fm:∀y∈frees sc,(y,aX)∈sc.names:=λy hy=>by
  obtain⟨z,hz,e⟩:=aL.mp hy
  grind
 refine⟨⟨eq_of_beq h1,h2,h3,h4,λp hp=>?_,λx hx e=>?_,λy hy e=>aL.mpr ⟨y,vD.mpr ⟨hy,by rw[e];rfl⟩,rfl⟩,λy hy=>eq_of_beq (h7 y hy).1⟩,λy hy=>⟨eq_of_beq (h7 y hy).2,fm y hy⟩⟩
 .grind
 .have:=h6 x hx
  simp_all
theorem GOk.of(O:TOk M T k)(h:T.mkr=d_):GOk M T k:=⟨O,λz=>by grind⟩
theorem NI(O:TOk M T k)(R:Snd M T k n):∀N ns g as m,cV T (n+1) N ns g as=a_ m->∀a r,as=a::r->∀X p1 pos,Sc M X k N ns->PE X (.Call (.Name g p1) as [] pos) (tM M.K m):=by
 intro N ns g as m h a r e X p1 pos S;subst e;simp only[cV,rc,sV]at h;cases h
section
variable {N:List Str}{ns:NS}{X:Cx}{m:ME}
variable{pos:Pos}
theorem GV{c:Const}{j}(h:LC c=a_ m):PE X (.Constant c j pos) (tM M.K m):=by
 cases c<;>first |grind |skip
 all_goals cases h
 all_goals first |exact Lp |exact Ov |exact Du |exact PE.con Cy λ_ _ _ q=>r_c (λ_ _=>by simp[RU]) q
variable{a:Expr}
theorem Ic(R:Snd M T k n){op:UnaryOp}(h:eUn (rc n) T N ns a op=a_ m)(S:Sc M X k N ns):PE X (.UnaryOp op a pos) (tM M.K m):=by
 cases op<;>first | (cases h) |skip
 all_goals obtain⟨ma,e1,rfl⟩:=map_eq h
 all_goals first |exact NB (R.e _ _ _ _ e1 X S) |exact JP (R.e _ _ _ _ e1 X S)
variable{vs:List Expr}
theorem HU(R:Snd M T k n){op:BoolOp}{p:Pos}(h:eBo (rc n) T N ns op p vs=a_ m)(S:Sc M X k N ns):PE X (.BoolOp op vs p) (tM M.K m):=by
 unfold eBo at h
 split at h
 .cases h
 .exact HN (R.e _ _ _ _ h X S)
 .obtain⟨ma,e1,h⟩:=bind_eq h
  cases op
  .obtain⟨mb,e2,rfl⟩:=map_eq h
   exact IE (R.e _ _ _ _ e1 X S) (R.e _ _ _ _ e2 X S)
  .obtain⟨mb,e2,rfl⟩:=map_eq h
   exact Lb (R.e _ _ _ _ e1 X S) (R.e _ _ _ _ e2 X S)
theorem CI(R:Snd M T k n){ops:List CmpOp}{bs:List Expr}(h:eCm (rc n) T N ns a ops bs=a_ m)(S:Sc M X k N ns):PE X (.Compare a ops bs pos) (tM M.K m)/\PT X (.Compare a ops bs pos) (tMT M.K (cOf m)):=by
 unfold eCm at h
 split at h
 .split at h
  .rename_i hs
   obtain⟨ma,e1,h⟩:=bind_eq h;obtain⟨mb,e2,h⟩:=bind_eq h;obtain⟨f,e3,rfl⟩:=map_eq h;exact Jt e3 S (R.e _ _ _ _ e1 X S) (R.e _ _ _ _ e2 X S) hs
  .cases h
 .split at h
  .rename_i hs
   rw[ah]at hs;obtain⟨ma,e1,h⟩:=bind_eq h;obtain⟨mb,e2,h⟩:=bind_eq h;obtain⟨mc,e3,h⟩:=bind_eq h;obtain⟨f,e4,h⟩:=bind_eq h;obtain⟨g,e5,rfl⟩:=map_eq h;exact DQ e4 e5 S (R.e _ _ _ _ e1 X S) (R.e _ _ _ _ e2 X S) (R.e _ _ _ _ e3 X S) hs.2
  .cases h
 .cases h
theorem GY{s:Expr}(h:FN s=c_):∃j p3 p4,s=.UnaryOp .USub (.Constant (.int 1) j p3) p4:=by
 unfold FN at h
 split at h<;>simp_all
theorem IS(R:Snd M T k n){b:Expr}(h:eSb (rc n) T N ns a b=a_ m)(S:Sc M X k N ns):PE X (.Subscript a b pos) (tM M.K m):=by
 unfold eSb at h
 split at h
 .rename_i lo hi st p
  cases st with
  | none=>
    obtain⟨ma,e1,h⟩:=bind_eq h;obtain⟨ml,e2,h⟩:=bind_eq h;obtain⟨mh,e3,rfl⟩:=map_eq h;exact PE.con (wc Kf (R.e _ _ _ _ e1 X S) (R.o _ _ _ _ e2 X S).po (R.o _ _ _ _ e3 X S).po) λ_ _ _ h=>LL h
  | some s=>
    have h:(if lo.isNone&&hi.isNone&&FN s then((rc n).e T N ns a).map (m1 Dl) else b_)=a_ m:=h
    split at h
    .rename_i hs
     rw[ah,ah]at hs;obtain⟨⟨h1,h2⟩,h3⟩:=hs;cases lo with
     |some z=>cases h1
     | none=>
       cases hi with
       |some z=>cases h2
       | none=>
         obtain⟨j,p3,p4,rfl⟩:=GY h3;obtain⟨ma,e1,rfl⟩:=map_eq h;exact LR S (R.e _ _ _ _ e1 X S)
    .cases h
 .split at h
  .rename_i hs
   obtain⟨ma,e1,h⟩:=bind_eq h;obtain⟨mb,e2,rfl⟩:=map_eq h
   split
   .exact PE.altO (L9 S (R.e _ _ _ _ e1 X S) (R.e _ _ _ _ e2 X S) (Ag hs)) (MB S (R.e _ _ _ _ e1 X S) (R.e _ _ _ _ e2 X S) (Ag hs))
   .exact MB S (R.e _ _ _ _ e1 X S) (R.e _ _ _ _ e2 X S) (Ag hs)
  .cases h
theorem J6(R:Snd M T k n){ks:List (Option Expr)}(h:eDi (rc n) T N ns ks vs=a_ m)(S:Sc M X k N ns):PE X (.Dict ks vs pos) (tM M.K m):=by
 unfold eDi at h
 split at h
 .cases h;exact IM
 .obtain⟨ma,e1,h⟩:=bind_eq h
  obtain⟨mb,e2,rfl⟩:=map_eq h;exact J7 (R.e _ _ _ _ e1 X S) (R.e _ _ _ _ e2 X S)
 .cases h
variable{elt:Expr}{scope:Scope}
theorem Ir(O:TOk M T k)(R:Snd M T k n){it:Expr}{ifs:List Expr}{px:Pos}(h:eLn (rc n) T N ns elt it ifs scope x=a_ m)(S:Sc M X k N ns)(hk:scope.kind=.function)(ok:jB N (mK N x) ns scope.names x=c_)(hs:gp it=c_):
  PE X (.ListComp elt [⟨.Name x px,it,ifs,0⟩] scope pos) (tM M.K m):=by
 unfold eLn at h;obtain⟨mi,e1,h⟩:=bind_eq h;obtain⟨mt,e2,h⟩:=bind_eq h;obtain⟨mc,e3,rfl⟩:=map_eq h;obtain⟨wi,h1,_,h3⟩:=R.i _ _ _ _ _ e1 X S;exact B7 S hk ok h1 (λX' S'=>R.f _ _ _ _ e2 X' S') (λX' S'=>R.e _ _ _ _ e3 X' S') (h3 mt mc) (oH hs _)
theorem Kc(O:TOk M T k)(R:Snd M T k n){gens:List Comprehension}(h:eLc (rc n) T N ns elt scope gens=a_ m)(S:Sc M X k N ns):PE X (.ListComp elt gens scope pos) (tM M.K m):=by
 unfold eLc at h
 split at h
 rotate_left
 .cases h
 rename_i c
 obtain⟨tg,it,ifs,ia⟩:=c
 split at h
 rotate_left
 .cases h
 rename_i h0
 have XG:ia=0:=h0;subst XG;have h:eLt (rc n) T N ns elt it ifs scope tg=a_ m:=h;unfold eLt at h
 split at h
 .split at h
  .rename_i hs
   rw[ah,ah]at hs;exact Ir O R h S (eq_of_beq hs.1.1) hs.1.2 hs.2
  .cases h
 .cases h
variable{g:Str}
theorem JQ(O:TOk M T k)(R:Snd M T k n){rs:List Expr}{p1 q rp:Pos}(h:eRg (rc n) T N ns g rs=a_ m)(S:Sc M X k N ns)(hl:g="list"\/g="tuple")(hg:dc ns g=c_)(hr:dc ns "range"=c_) :
  PE X (.Call (.Name g p1) [.Call (.Name "range" q) rs [] rp] [] pos) (tM M.K m):=by
 unfold eRg at h
 split at h
 .rcases hl with rfl|rfl
  .rw[if_pos (by decide +kernel)]at h
   cases h
  .rw[if_neg (by decide +kernel)]at h
   cases h
 .rcases hl with rfl|rfl
  .rw[if_pos (by decide +kernel)]at h
   obtain⟨ma,e1,rfl⟩:=map_eq h;have ZL:=i6 e1;simp only[a8,iO,eM,ah]at ZL;exact CK S hg (O.B _ (by decide +kernel)) hr (O.B _ (by decide +kernel)) (R.a _ _ _ _ e1 X S) ZL.1 ZL.2
  .rw[if_neg (by decide +kernel)]at h
   cases h
 .cases h
variable{as:List Expr}
theorem IV(Gk:GOk M T k)(R:Snd M T k n)(RA:∀M T k,GOk M T k->Snd M T k n){p1:Pos}(h:eCf (rc n) T N ns g as=a_ m)(S:Sc M X k N ns)(hg:dc ns g=c_)(hn:be g=c_):
  PE X (.Call (.Name g p1) as [] pos) (tM M.K m):=by
 have O:=Gk.1;unfold eCf at h
 split at h
 .obtain⟨mf,e1,rfl⟩:=map_eq h
  obtain⟨k',ps,hk,F⟩:=O.D _ _ e1;exact Fq S F hk hg (bR hn).1
 .unfold eC1 at h
  split at h
  .split at h
   .rename_i hl
    rw[ah,Bool.or_eq_true]at hl
    split at h
    .rename_i hr
     rw[eq_of_beq hl.2]at hr ⊢;exact JQ O R h S (hl.1.imp eq_of_beq eq_of_beq) hg hr
    .cases h
   .exact R.c _ _ _ _ _ h hg hn _ _ rfl X _ _ S
  .split at h
   .rename_i hs
    obtain⟨_,h1⟩:=aQ.mp hs;rw[eq_of_beq h1]at hg ⊢;obtain⟨ma,e1,rfl⟩:=map_eq h;have ZL:=i6 e1;simp only[a8,iO,eM]at ZL;exact PE.altF (JZ S hg (O.B _ (by decide +kernel)) (R.a _ _ _ _ e1 X S) (bW ZL _ _) rfl) (zp S hg (O.B _ (by decide +kernel)) (R.a _ _ _ _ e1 X S) (bW ZL _ _) rfl)
   .split at h
    .rename_i hs
     obtain⟨_,h1⟩:=aQ.mp hs;rw[eq_of_beq h1]at hg ⊢;obtain⟨ma,e1,rfl⟩:=map_eq h;have ZL:=i6 e1;simp only[a8,iO,eM]at ZL;exact JO S hg (O.B _ (by decide +kernel)) (R.a _ _ _ _ e1 X S) (bW ZL _ _) rfl
    .exact R.c _ _ _ _ _ h hg hn _ _ rfl X _ _ S
 .unfold eC2 at h
  split at h
  .unfold eIs at h
   split at h
   .rename_i hl
    split at h
    .rename_i ht
     obtain⟨c,e1,h⟩:=bind_eq h;obtain⟨ma,e2,rfl⟩:=map_eq h;obtain⟨c1,c2,c3,c4,c5⟩:=H9 e1;rw[ah]at ht;rw[eq_of_beq hl]at hg ⊢;exact MQ S hg (O.B _ (by decide +kernel)) ht.1 (O.B _ c5) c1 c2 c3 c4 (R.e _ _ _ _ e2 X S) ht.2
    .cases h
   .exact R.c _ _ _ _ _ h hg hn _ _ rfl X _ _ S
  .cases h
  .exact R.c _ _ _ _ _ h hg hn _ _ rfl X _ _ S
 .exact R.c _ _ _ _ _ h hg hn _ _ rfl X _ _ S
theorem Jh(R:Snd M T k n){o:Expr}{name:Str}{p q:Pos}(h:eMe (rc n) T N ns o name p q as=a_ m)(S:Sc M X k N ns):PE X (.Call (.Attribute o name p) as [] q) (tM M.K m):=by
 unfold eMe at h
 split at h
 .cases h
 .split at h
  .rename_i hs
   rw[ah,ah]at hs;obtain⟨mo,e1,h⟩:=bind_eq h;obtain⟨ZV,e2,h⟩:=bind_eq h;exact GD h S (R.e _ _ _ _ e1 X S) (R.a _ _ _ _ e2 X S) hs.1.1 hs.1.2 hs.2
  .cases h
 .split at h
  .rename_i hs
   simp only[ah]at hs;obtain⟨mo,e1,h⟩:=bind_eq h;obtain⟨ma,e2,rfl⟩:=map_eq h;rw[eq_of_beq hs.2];exact Da S (R.e _ _ _ _ e1 X S) (R.a _ _ _ _ e2 X S) hs.1.1.1.1 hs.1.1.1.2 hs.1.1.2 hs.1.2
  .cases h
 .cases h
end
theorem NX(Gk:GOk M T k)(R:Snd M T k n)(RA:∀M T k,GOk M T k->Snd M T k n):∀N ns e m,cE T (n+1) N ns e=a_ m->∀X,Sc M X k N ns->PE X e (tM M.K m):=by
 have O:=Gk.1;intro N ns e m h X S;cases e with
 | Name x p=>
   have h:(if be x then(if i7 ns x then(slot N x).map _ else if dc ns x then(T.C.lookup x).map mC else b_) else b_)=a_ m:=h
   split at h
   .rename_i hn
    obtain⟨n1,n2⟩:=bR hn
    split at h
    .rename_i hv
     obtain⟨i,e1,rfl⟩:=map_eq h;exact t7 S i (slot_get e1) hv n1 n2
    .split at h
     .rename_i hg
      obtain⟨u,e1,rfl⟩:=map_eq h;obtain⟨g,v,hm,r,hv⟩:=O.C _ _ e1;exact KL S hg hm r hv n1
     .cases h
   .cases h
 |Constant c j p=>exact GV h
 | BinOp a op b p=>
   obtain⟨ma,e1,h⟩:=bind_eq (h);obtain⟨mb,e2,h⟩:=bind_eq h;obtain⟨f,e3,rfl⟩:=map_eq h;exact Kk e3 S (R.e _ _ _ _ e1 X S) (R.e _ _ _ _ e2 X S)
 |UnaryOp op a p=>exact Ic R h S
 |BoolOp op vs p=>exact HU R h S
 |Compare a ops bs p=>exact(CI R h S).1
 | IfExp c a b p=>
   obtain⟨mc,e1,h⟩:=bind_eq (h);obtain⟨ma,e2,h⟩:=bind_eq h;obtain⟨mb,e3,rfl⟩:=map_eq h;exact Mq (R.t _ _ _ _ e1 X S) (R.e _ _ _ _ e2 X S) (R.e _ _ _ _ e3 X S)
 |Subscript a b p=>exact IS R h S
 |Dict ks vs p=>exact J6 R h S
 | Tuple es j p=>
   obtain⟨ma,e1,rfl⟩:=map_eq (h);exact Ms (R.a _ _ _ _ e1 X S)
 | List es p=>
   obtain⟨ma,e1,rfl⟩:=map_eq (h);exact BW (R.a _ _ _ _ e1 X S)
 |ListComp elt gens scope p=>exact Kc Gk.1 R h S
 | Call f as Wp q=>
   cases Wp with
   |cons w ws=>cases h
   | nil=>
     have h:eCa _ T N ns as q f=a_ m:=h;unfold eCa at h
     split at h
     .split at h
      .rename_i hs
       rw[ah]at hs;exact IV Gk R RA h S hs.1 hs.2
      .cases as with
       |nil=>exact absurd h (R.v0 _ _ _ _)
       |cons a r=>exact R.v _ _ _ _ _ h _ _ rfl X _ _ S
     .exact Jh R h S
     .cases h
 |_=>cases h
theorem Lc(O:TOk M T k)(R:Snd M T k n):∀N ns g as m,cC T (n+1) N ns g as=a_ m->dc ns g=c_->be g=c_->∀a r,as=a::r->∀X p1 pos,Sc M X k N ns->PE X (.Call (.Name g p1) as [] pos) (tM M.K m):=by
 intro N ns g as m h hg hn a r e X p1 pos S;subst e;obtain⟨ZV,e1,h⟩:=bind_eq h;have ZL:=i6 e1
 split at h
 .rename_i mf hb
  cases h;exact GU O hb hg S (R.a _ _ _ _ e1 X S) ZL
 .obtain⟨mf,e2,rfl⟩:=map_eq h
  obtain⟨k',ps,hk,F⟩:=O.D _ _ e2;rw[a8,ah]at ZL;exact KM S F hk hg (R.a _ _ _ _ e1 X S) (bR hn).1 (bW ZL.1 _ _) (lP _ _ ZL.2)
theorem NK(R:Snd M T k n):∀N ns o m,cO T (n+1) N ns o=a_ m->∀X,Sc M X k N ns->lQ M X o m:=by
 intro N ns o m h X S;simp[cO,rc,sO]at h
 split at h
 .cases h;exact .none
 .obtain⟨me,e1,rfl⟩:=map_eq h
  exact .some (R.e _ _ _ _ e1 X S)
theorem LX(R:Snd M T k n):∀N ns e m,cT T (n+1) N ns e=a_ m->∀X,Sc M X k N ns->PT X e (tMT M.K m):=by
 intro N ns e m h X S;simp[cT,rc,sT]at h
 split at h
 .obtain⟨ma,e1,rfl⟩:=map_eq h
  exact G2 (R.t _ _ _ _ e1 X S)
 .exact PW.pt (R.l _ _ _ _ _ _ h X S)
 .exact PW.pt (R.l _ _ _ _ _ _ h X S)
 .obtain⟨mc,e1,rfl⟩:=map_eq h
  exact(CI R e1 S).2
 .split at h
  .rename_i hs
   obtain⟨ma,e1,rfl⟩:=map_eq h;exact G8 (R.e _ _ _ _ e1 X S) (CU hs _)
  grind
theorem MV(R:Snd M T k n):∀N ns b vs m pos,cL T (n+1) N ns b vs=a_ m->∀X,Sc M X k N ns->PW X (.BoolOp (if b then .And else .Or) vs pos) (tMT M.K m):=by
 intro N ns b vs m pos h X S;simp[cL,rc,sL]at h
 split at h
 .cases h
 .cases b
  .exact Ls (R.t _ _ _ _ h X S)
  .exact HQ (R.t _ _ _ _ h X S)
 .rename_i a r hr
  obtain⟨ma,e1,h⟩:=bind_eq h;obtain⟨mr,e2,rfl⟩:=map_eq h;cases r with
  |nil=>exact(hr rfl).elim
  | cons c r=>
    have h2:=R.l _ _ b _ _ pos e2 X S;cases b
    .exact OT (R.t _ _ _ _ e1 X S) h2
    .exact Nr (R.t _ _ _ _ e1 X S) h2
theorem L3(R:Snd M T k n):∀N ns vs m,cF T (n+1) N ns vs=a_ m->∀X,Sc M X k N ns->PTs X vs (tMT M.K m):=by
 intro N ns vs m h X S;simp[cF,rc,sF]at h
 split at h
 .cases h;exact IQ
 .exact LZ (R.t _ _ _ _ h X S)
 .cases h
theorem Lw(R:Snd M T k n):∀N ns es m,cA T (n+1) N ns es=a_ m->∀X,Sc M X k N ns->PA X es (tMA M.K m):=by
 intro N ns es m h X S;simp[cA,rc,sA]at h
 split at h
 .cases h;exact rP
 .split at h
  .rename_i hs
   obtain⟨ma,e1,h⟩:=bind_eq h;obtain⟨mr,e2,rfl⟩:=map_eq h;exact jo (R.e _ _ _ _ e1 X S) (R.a _ _ _ _ e2 X S) (bW hs _ _)
  grind
variable{X:Cx}{e:Expr}
theorem Cp{tg:Expr}{m:ME}(S:Sc M X k N ns)(h:PE X e (tM M.K m)):IOk M X tg e (dh m):=
 ⟨_,Oj S h,λ_ _ _ _ _ q=>OE q,λ_ _ _ _ _ q=>OO q⟩
theorem NR(O:TOk M T k)(R:Snd M T k n):∀N ns tg it m,cI T (n+1) N ns it=a_ m->∀X,Sc M X k N ns->IOk M X tg it m:=by
 intro N ns tg it m h X S;simp only[cI,rc,sI]at h
 split at h
 .split at h
  .rename_i hr
   split at h
   .rename_i hg
    rw[eq_of_beq hr]at hg ⊢
    split at h
    .obtain⟨ma,e1,rfl⟩:=map_eq h
     have ZL:=i6 e1;simp only[a8,iO,eM]at ZL;exact⟨_,MY S hg (O.B _ (by decide +kernel)) (R.a _ _ _ _ e1 X S) (bW ZL _ _),λ_ _ _ _ _ q=>Nu q,λ_ _ _ _ _ q=>NY q⟩
    .obtain⟨ma,e1,rfl⟩:=map_eq h
     have ZL:=i6 e1;simp only[a8,iO,eM,ah]at ZL;exact⟨_,M3 S hg (O.B _ (by decide +kernel)) (R.a _ _ _ _ e1 X S) (by rw[bW ZL.1,bW ZL.2];rfl) (by rw[bW ZL.2];rfl),λ_ _ _ _ _ q=>LM q,λ_ _ _ _ _ q=>NM q⟩
    .cases h
   .cases h
  .obtain⟨ma,e1,rfl⟩:=map_eq h
   exact Cp S (R.e _ _ _ _ e1 X S)
 .obtain⟨ma,e1,rfl⟩:=map_eq h
  split
  .exact⟨_,KF (R.e _ _ _ _ e1 X S),λ_ _ _ _ _ q=>Ot q,λ_ _ _ _ _ q=>OA q⟩
  .exact Cp S (R.e _ _ _ _ e1 X S)
theorem Mv(R:Snd M T k n):∀N ns e m,cG T (n+1) N ns e=a_ m->∀X,Sc M X k N ns->PG X e (tG M.K m):=by
 intro N ns e m h X S;simp[cG,rc,sG]at h
 split at h
 .split at h
  .rename_i hs
   obtain⟨i,e1,rfl⟩:=map_eq h;exact PG.con (zS (by rw[S.hN];exact S.nd) (by rw[S.hN];exact slot_get e1) (S.lo hs).1 (S.lo hs).2) λ_ _ _ _ q=>Ol q
  grind
 .split at h
  .rename_i hs
   obtain⟨ma,e1,h⟩:=bind_eq h;obtain⟨mb,e2,rfl⟩:=map_eq h;exact PG.con (Dz (R.e _ _ _ _ e1 X S) (R.e _ _ _ _ e2 X S) (z4 (by have:=S.room.units;omega)) (DH hs _)) λ_ _ _ _ q=>Nl q
  grind
 .obtain⟨gs,e1,rfl⟩:=map_eq h
  obtain⟨h1,h2⟩:=Aj _ _ (xq e1);refine PG.con (KD S.calm (R.gs _ _ _ _ e1 X S) h1 h2) λ_ _ _ _ q=>?_;rw[S.hK];exact NU q
 .cases h
theorem Ia(R:Snd M T k n):∀N ns es m,cGs T (n+1) N ns es=a_ m->∀X,Sc M X k N ns->PGs X es (tGs M.K m):=by
 intro N ns es m h X S;simp[cGs,rc,sGs]at h
 split at h
 .cases h;exact PGs.con FX λ_ _ _ _ q=>J0 q
 .split at h
  .rename_i hs
   obtain⟨g,e1,h⟩:=bind_eq h;obtain⟨gs,e2,rfl⟩:=map_eq h;exact PGs.con (DS (R.g _ _ _ _ e1 X S) (R.gs _ _ _ _ e2 X S) (by rw[vX hs];rfl)) λ_ _ _ _ q=>Gg q
  grind
variable{m:MS}{p1 p3:Pos}
theorem Ft(R:Snd M T k n){y:Str}{elt it tg:Expr}{ifs:List Expr}{scope:Scope}{p2:Pos}(h:Ky (rc n) T N ns y elt it ifs scope tg=a_ m)(S:Sc M X k N ns):
  PS X (.Assign [.Name y p1] (.ListComp elt [⟨tg,it,ifs,0⟩] scope p2) p3) (tMS M.K m):=by
 unfold Ky at h
 split at h
 .split at h
  .rename_i hs
   rw[ah,ah,ah]at hs;obtain⟨i,e0,h⟩:=bind_eq h;obtain⟨mi,e1,h⟩:=bind_eq h;obtain⟨mt,e2,h⟩:=bind_eq h;obtain⟨mc,e3,rfl⟩:=map_eq h;obtain⟨wi,h1,_,h3⟩:=R.i _ _ _ _ _ e1 X S;exact IF S i (slot_get e0) hs.1 (eq_of_beq hs.2.1.1) hs.2.1.2 h1 (λX' S'=>R.f _ _ _ _ e2 X' S') (λX' S'=>R.e _ _ _ _ e3 X' S') (h3 mt mc) (oH hs.2.2 _)
  .cases h
 .cases h
theorem FJ(R:Snd M T k n)(h:JU (rc n) T N ns x e=a_ m)(S:Sc M X k N ns):PS X (.Assign [.Name x p1] e p3) (tMS M.K m):=by
 unfold JU at h
 split at h
 .unfold MR at h
  split at h
  .rename_i c
   obtain⟨tg,it,ifs,ia⟩:=c
   split at h
   .rename_i h0
    have XG:=h0;subst XG;exact Ft R h S
   .cases h
  .cases h
 .split at h
  .rename_i hs
   rw[ah]at hs;obtain⟨i,e1,h⟩:=bind_eq h;obtain⟨me,e2,rfl⟩:=map_eq h;exact xl S i (slot_get e1) hs.1 (R.e _ _ _ _ e2 X S) (nY hs.2 _ _ _)
  grind
theorem F5(R:Snd M T k n){t:Expr}(h:KH (rc n) T N ns e t=a_ m)(S:Sc M X k N ns):PS X (.Assign [t] e p3) (tMS M.K m):=by
 unfold KH at h
 split at h
 .exact FJ R h S
 .split at h
  .rename_i hs
   rw[ah]at hs;obtain⟨ma,e1,h⟩:=bind_eq h;obtain⟨mb,e2,h⟩:=bind_eq h;obtain⟨me,e3,rfl⟩:=map_eq h;exact Fd S (R.e _ _ _ _ e1 X S) (R.e _ _ _ _ e2 X S) (R.e _ _ _ _ e3 X S) (z6 hs.1 _ _ _) ye rfl (DH hs.2 _)
  .cases h
 .split at h
  .rename_i hs
   rw[ah]at hs;obtain⟨g,e1,h⟩:=bind_eq h;obtain⟨me,e2,rfl⟩:=map_eq h;exact PS.con (CZ (R.e _ _ _ _ e2 X S) (R.g _ _ _ _ e1 X S) (z6 hs.1 _ _ _) (wa hs.2) rfl) λ_ _ _ q=>Oa q
  .cases h
 .cases h
theorem KO(R:Snd M T k n){op:Operator}(h:sAu (rc n) T N ns x e op=a_ m)(S:Sc M X k N ns):PS X (.AugAssign (.Name x p1) op e p3) (tMS M.K m):=by
 unfold sAu at h;cases h
theorem KI(O:TOk M T k)(R:Snd M T k n){t it:Expr}{body:List Stmt}(h:sFo (rc n) T N ns it body t=a_ m)(S:Sc M X k N ns):PS X (.For t it body [] p3) (tMS M.K m):=by
 unfold sFo at h
 split at h
 .split at h
  .rename_i hs
   rw[ah]at hs;obtain⟨i,e1,h⟩:=bind_eq h;obtain⟨mi,e2,h⟩:=bind_eq h;obtain⟨mb,e3,rfl⟩:=map_eq h;obtain⟨wi,h1,h2,_⟩:=R.i _ _ _ _ _ e2 X S;exact Ny S i (slot_get e1) hs.1 h1 (R.b _ _ _ _ e3 X S) (h2 i mb) (oH hs.2 _)
  .cases h
 .cases h
 .cases h
theorem MD(O:TOk M T k)(R:Snd M T k n):∀N ns st m,cS T (n+1) N ns st=a_ m->∀X,Sc M X k N ns->PS X st (tMS M.K m):=by
 intro N ns st m h X S;cases st with
 | Assign ts e p=>
   have h:sAs _ T N ns e ts=a_ m:=h;unfold sAs at h
   split at h
   .exact F5 R h S
   .cases h
 | AugAssign t op e p=>
   have h:Jn _ T N ns op e t=a_ m:=h;unfold Jn at h
   split at h
   .exact KO R h S
   .cases h
 | Expr e p=>
   have h:(if iD e then((rc n).e T N ns e).map _ else b_)=a_ m:=h
   split at h
   .rename_i hs
    obtain⟨me,e2,rfl⟩:=map_eq h;exact Di (R.e _ _ _ _ e2 X S) (nY hs _ _ _)
   .cases h
 | Return o p=>
   have h:sRt _ T N ns o=a_ m:=h;unfold sRt at h
   split at h
   .obtain⟨me,e2,rfl⟩:=map_eq h
    exact Ab (R.e _ _ _ _ e2 X S)
   .cases h;exact KU
 | If c a b p=>
   obtain⟨mc,e1,h⟩:=bind_eq h;obtain⟨ma,e2,h⟩:=bind_eq h;obtain⟨mb,e3,rfl⟩:=map_eq h;exact HS (R.t _ _ _ _ e1 X S) (R.b _ _ _ _ e2 X S) (R.b _ _ _ _ e3 X S)
 | For t it body els p=>
   have h:HK _ T N ns t it _ _=a_ m:=h;unfold HK at h
   split at h
   .exact KI O R h S
   .cases h
 | While c body els p=>
   have h:sWh _ T N ns c _ _=a_ m:=h;unfold sWh at h
   split at h
   .obtain⟨mc,e1,h⟩:=bind_eq h
    obtain⟨mb,e2,rfl⟩:=map_eq h;exact E3 S (R.t _ _ _ _ e1 X S) (R.b _ _ _ _ e2 X S)
   .cases h
 | Pass p=>
   cases h;exact J4
 | Break p=>
   cases h;exact NT
 | Raise a b p=>
   cases h;exact NJ
 | Continue p=>
   cases h;exact Nf
 |_=>cases h
theorem NH(Gk:GOk M T k)(R:Snd M T k n)(RA:∀M T k,GOk M T k->Snd M T k n):∀N ns sts m,cB T (n+1) N ns sts=a_ m->∀X,Sc M X k N ns->PSs X sts (tMS M.K m):=by
 intro N ns sts m h X S;simp only[cB,rc,sB]at h
 split at h
 .cases h;exact DL
 .exact BH (R.s _ _ _ _ h X S)
 .obtain⟨ma,e1,h⟩:=bind_eq h
  obtain⟨mr,e2,rfl⟩:=map_eq h;exact tD (R.s _ _ _ _ e1 X S) (R.b _ _ _ _ e2 X S)
theorem snd:∀n M T k,GOk M T k->Snd M T k n
 |0,M,T,k,_=>O7 M T k
 | n+1,M,T,k,Gk=>by
   have RA:=snd n;have R:=RA M T k Gk;exact⟨NX Gk R RA,Lc Gk.1 R,NI Gk.1 R,λN ns g m h=>(by cases (h)),NK R,LX R,MV R,L3 R,Lw R,NR Gk.1 R,Mv R,Ia R,MD Gk.1 R,NH Gk R RA⟩
theorem wb{qual:Str}{st:Stmt}{f:e_}{fd:FuncData}{ms:MS}{fu:Nat}(O:TOk M T k)(h0:M.mkr=b_)(h1:T.mkr=d_)(F:Fun M.K x qual st f fd)(S:aZ N ps (ar st))(hm:M.mg x=a_ (.ref f))(hb:Binds M.K fd ps [])
  (h:cB T fu N (ar st).names (bG st)=a_ ms):Fn M x (k+1) ps (run ps.length N.length ms):=
 ⟨f,fd,hm,F.2,hb,BY h0 F S λX S'=>(snd fu M T k (.of O h1)).b _ _ _ _ h X S'⟩
end
structure Def(K:ai)(x:Str)(st:Stmt):Prop where
 ex:∃f fd,aJ K mainGlobals x=a_ (a_ (.ref f))/\Fun K x x st f fd
variable{st:Stmt}{K:ai}
theorem JS{f:e_}{od an:Option e_}{sl:Array (Option f_)}{oc kV doc pm cd ct:f_}(a:aJ K mainGlobals x=a_ (a_ (.ref f)))
  (l:K.lookup f=a_ ⟨oc,od,.func (cM x x (fM st) (bG st) (ar st) .none kV doc pm an cd ct),sl⟩) (c:fW K cd x=c_) (k:cb K (.ref f)=c_):Def K x st:=
 ⟨f,_,a,JN l c k⟩
section
variable {M:Mo}{T:Tb}{k:Nat}{h:Heap}{x:Str}{st:Stmt}{N ps:List Str}{ms:MS}{fu:Nat}
theorem Def.fn(O:TOk M T k)(h0:M.mkr=b_)(h1:T.mkr=d_)(X:M.K.K.In h)(Gn:h.Ns mainGlobals M.mg)(D:Def M.K x st)(S:aZ N ps (ar st))
  (hb:∀(kV doc pm:f_) (an:Option e_) (cdv ct:f_) (us:List f_),us.length=ps.length->bindArgs (cM x x (fM st) (bG st) (ar st) .none kV doc pm an cdv ct) ⟨us,[]⟩=pure (ps.zip us))
  (hc:cB T fu N (ar st).names (bG st)=a_ ms):Fn M x (k+1) ps (run ps.length N.length ms):=by
 obtain⟨f,fd,a,F⟩:=D.ex;exact wb O h0 h1 F S (bK X Gn a) (F.binds hb) hc
variable{j:Nat}{a:e_}
theorem Fn.lam{mf:MF}(F:Fn M x j ps mf)(ha:M.mg x=a_ (.ref a)):Lam M a j ps mf:=by
 obtain⟨f,fd,h1,h2,h3,h4⟩:=F.ex;have e:f=a:=by grind
 subst e;exact⟨fd,.inr h2,h3,h4⟩
theorem TOk.mono(O:TOk M T k)(hj:k<=j):TOk M T j where
 Z:=λy r hy=>let ⟨k',_,hk,F'⟩:=O.Z y r hy;⟨k',_,aA hk hj,F'⟩
 D:=λy g hy=>let ⟨k',_,hk,F'⟩:=O.D y g hy;⟨k',_,aA hk hj,F'⟩
 C:=O.C
 B:=O.B
 L:=λy q hy=>let ⟨k',_,hk,F'⟩:=O.L y q hy;⟨k',_,aA hk hj,F'⟩
 mkr:=O.mkr
theorem TOk.cons{j:Nat}{mf:MF}(O:TOk M T k)(F:Fn M x j ps mf)(hj:k<=j):TOk M ⟨(x,mf)::T.D,T.C,T.L,T.H,T.mkr,T.Z⟩ j where
 D:=λy g hy=>by
  rw[bD]at hy;cases e:y==x with
  |true=>rw[e]at hy;cases hy;rw[eq_of_beq e];exact⟨j,ps,ao _,F⟩
  | false=>
    rw[e]at hy;obtain⟨k',Yc,hk,F'⟩:=O.D y g hy;exact⟨k',_,aA hk hj,F'⟩
 C:=O.C
 B:=O.B
 L:=(O.mono hj).L
 mkr:=O.mkr
 Z:=(O.mono hj).Z
theorem TOk.fv(O:TOk M T k)(ha:M.mg x=a_ (.ref a)):TOk M ⟨T.D,(x,.obj a)::T.C,T.L,T.H,T.mkr,T.Z⟩ k where
 D:=O.D
 C:=λy u hy=>by
  rw[bD]at hy;cases e:y==x with
  | true=>
    rw[e]at hy;cases hy;rw[eq_of_beq e];exact⟨_,.ref a,ha,rfl,λ_ _=>by simp[RU]⟩
  |false=>rw[e]at hy;exact O.C y u hy
 B:=O.B
 L:=O.L
 mkr:=O.mkr
 Z:=O.Z
theorem TOk.setH{Hs:List (Str×(e_->MF->MF))}(O:TOk M T k):TOk M ⟨T.D,T.C,T.L,Hs,T.mkr,T.Z⟩ k:=⟨O.D,O.C,O.B,O.L,O.mkr,O.Z⟩
theorem TOk.con{i:Int}(O:TOk M T k)(X:M.K.K.In h)(Gn:h.Ns mainGlobals M.mg)(a:∃t,aJ M.K mainGlobals x=a_ (a_ (.int i t))):TOk M ⟨T.D,(x,.int i)::T.C,T.L,T.H,T.mkr,T.Z⟩ k where
 D:=O.D
 C:=λy u hy=>by
  rw[bD]at hy;cases e:y==x with
  | true=>
    rw[e]at hy;cases hy;rw[eq_of_beq e];obtain⟨t,a⟩:=a;exact⟨_,.int i,bK X Gn a,⟨t,rfl⟩,λ_ _=>eU⟩
  |false=>rw[e]at hy;exact O.C y u hy
 B:=O.B
 L:=O.L
 mkr:=O.mkr
 Z:=O.Z
theorem TOk.conS{i:Str}(O:TOk M T k)(X:M.K.K.In h)(Gn:h.Ns mainGlobals M.mg)(a:∃t,aJ M.K mainGlobals x=a_ (a_ (.str i t))):TOk M ⟨T.D,(x,.str i)::T.C,T.L,T.H,T.mkr,T.Z⟩ k where
 D:=O.D
 C:=λy u hy=>by
  rw[bD]at hy;cases e:y==x with
  | true=>
    rw[e]at hy;cases hy;rw[eq_of_beq e];obtain⟨t,a⟩:=a;exact⟨_,.str i,bK X Gn a,⟨t,rfl⟩,λ_ _=>by simp[RU]⟩
  |false=>rw[e]at hy;exact O.C y u hy
 B:=O.B
 L:=O.L
 mkr:=O.mkr
 Z:=O.Z
theorem TOk.nil{Fs:List (Str×VF)}{cl:Nat->e_}{nm:Str}(X:M.K.K.In h)(Gn:h.Ns mainGlobals M.mg)(B:∀x∈iI,aJ M.K mainGlobals x=a_ b_):TOk M ⟨[],[],[],[],d_,⟨[],Fs,cl,nm⟩⟩ 0 where
 D:=λy g hy=>by cases hy
 C:=λy g hy=>by cases hy
 B:=λy hy=>EA X Gn (B y hy)
 L:=λy g hy=>by cases hy
 mkr:=λh=>by cases h
 Z:=λy g hy=>by cases hy
theorem Def.fnC{y:Str}{msC:e_->MF->MS}(O:∀caps capv cds base,f9 M.mg base->TOk (M.to caps capv cds base) T k)(h1:T.mkr=d_)(hL:T.L=[])(X:M.K.K.In h)(Gn:h.Ns mainGlobals M.mg)(D:Def M.K x st)(S:aZ N ps (ar st))
  (hb:∀(kV doc pm:f_) (an:Option e_) (cdv ct:f_) (us:List f_),us.length=ps.length->bindArgs (cM x x (fM st) (bG st) (ar st) .none kV doc pm an cdv ct) ⟨us,[]⟩=pure (ps.zip us))
  (hc:∀g φ,cB ⟨T.D,T.C,[(y,g,φ)],T.H,T.mkr,T.Z⟩ fu N (ar st).names (bG st)=a_ (msC g φ)):FnC M x k ps λg φ=>run ps.length N.length (msC g φ):=by
 obtain⟨f,fd,a,F⟩:=D.ex;refine⟨f,fd,bK X Gn a,F.2,F.binds hb,λcaps capv cds base g j lps φ Zy Wd lam=>?_⟩;have O':TOk (M.to caps capv cds base) ⟨T.D,T.C,[(y,g,φ)],T.H,T.mkr,T.Z⟩ j:=by
  have O1:=(O caps capv cds _ Zy).mono Wd;refine⟨O1.D,O1.C,O1.B,λz q hz=>?_,(λhm=>by grind),O1.Z⟩;rw[bD]at hz;cases e:z==y with
  |true=>rw[e]at hz;cases hz;exact⟨j,_,ao _,lam⟩
  |false=>simp_all
 exact BY (M:=M.to _ _ cds _) rfl F S λX' S'=>(snd fu _ _ _ (.of O' h1)).b _ _ _ _ (hc g φ) X' S'
end
structure rV(K:ai)(x:Str)(st:Stmt)(c P:e_):Prop where
 ex:∃(f:e_) (oc:f_) (od:Option e_) (kV doc pm:f_) (an:Option e_) (ct:f_) (sl:Array (Option f_)),aJ K mainGlobals x=a_ (a_ (.ref f)) /\
  K.lookup f=a_ ⟨oc,od,.func (cM x x (fM st) (bG st) (ar st) .none kV doc pm an (.ref c) ct),sl⟩/\fW K (.ref c) x=c_/\cb K (.ref f)=c_
 cd :∃ (vs:Array f_) (od:Option e_) (sl:Array (Option f_)) (file:Str) (tf:Tok) (flags:Int) (tg:Tok) (inF:Bool) (text:Int) (tt:Tok),K.lookup c=a_ ⟨.type "code",od,.fields vs,sl⟩/\vs[11]?=a_ (.ref P)/\vs.getD 11 .none=.ref P/\vs.getD 18 .none=.str file tf /\
  vs.getD 7 .none=.int flags tg/\vs.getD 9 .none=.bool inF/\vs.getD 10 .none=.int text tt/\c≠P
section
variable {M:Mo}{T:Tb}{k:Nat}{h:Heap}{x:Str}{st:Stmt}{N ps:List Str}{ms:MS}{fu:Nat}{c P:e_}
theorem rV.mkr(D:rV M.K x st c P)(B:f9 M.mg M.base)(X:M.K.K.In h)(Gn:h.Ns mainGlobals M.mg){q:Str}(hm:(P,q)∈M.K.tabs)(nd:(M.K.tabs.map (·.1)).Nodup)(hg:mainGlobals≠P):Mkr M c P q where
 hd:=λh' X'=>by
  obtain⟨vs,od,sl,file,tf,flags,tg,inF,text,tt,e,r⟩:=D.cd;obtain⟨r1,r2,r3,r4,r5,r6,r7⟩:=r;exact⟨_,vs,_,tf,_,tg,_,_,tt,X' _ _ e,rfl,rfl,r1,r2,r3,r4,r5,r6,r7⟩
 bl:=B
 gP:=hg
 mem:=hm
 un:=λr hr e=>by
  have key:∀(l:List _),(l.map (·.1)).Nodup->r∈l->(P,q)∈l->r.2=q:=by
   intro l
   induction l<;>grind
  exact key _ nd hr hm
end
section
variable {M:Mo}
variable{Hs:List (Str×(e_->MF->MF))}
theorem qx{j k:Nat}(h:∀y F,Hs.lookup y=a_ F->∃k' ps,k'<=j/\FnC M y k' ps F)(hj:j<=k):∀y F,Hs.lookup y=a_ F->∃k' ps,k'<=k/\FnC M y k' ps F:=λy F hy=>
 let ⟨k',ps,a,b⟩:=h y F hy;⟨k',ps,aA a hj,b⟩
theorem Gc{i j k:Nat}{F0:e_->MF->MF}{ps:List Str}(h:∀y F,Hs.lookup y=a_ F->∃k' ps,k'<=j/\FnC M y k' ps F)(F1:FnC M x i ps F0)(hi:i<=k)(hj:j<=k):∀y F,((x,F0)::Hs).lookup y=a_ F->∃k' ps,k'<=k/\FnC M y k' ps F:=λy F hy=>by
 rw[bD]at hy;cases e:y==x with
 |true=>rw[e]at hy;cases hy;rw[eq_of_beq e];exact⟨i,ps,hi,F1⟩
 |false=>rw[e]at hy;exact qx h hj y F hy
end
theorem Fh{f c P:e_}{od an Vj:Option e_}{sl Yw:Array (Option f_)}{oc kV doc pm ct:f_}{vs:Array f_}{file:Str}{tf tg tt:Tok}{flags text:Int}{inF:Bool}(a:aJ K mainGlobals x=a_ (a_ (.ref f)))
  (l:K.lookup f=a_ ⟨oc,od,.func (cM x x (fM st) (bG st) (ar st) .none kV doc pm an (.ref c) ct),sl⟩) (cc:fW K (.ref c) x=c_) (k:cb K (.ref f)=c_)
  (e:K.lookup c=a_ ⟨.type "code",Vj,.fields vs,Yw⟩) (r1:vs[11]?=a_ (.ref P)) (r2:vs.getD 11 .none=.ref P) (r3:vs.getD 18 .none=.str file tf) (r4:vs.getD 7 .none=.int flags tg) (r5:vs.getD 9 .none=.bool inF) (r6:vs.getD 10 .none=.int text tt) (r7:c≠P):rV K x st c P:=
 ⟨⟨f,oc,od,kV,_,pm,an,ct,sl,a,l,cc,k⟩,⟨vs,_,_,_,tf,_,tg,_,_,tt,e,r1,r2,r3,r4,r5,r6,r7⟩⟩
theorem JV{l:mH}{w:World}{h:Heap}{mg:Str->Option f_}{fa:e_}{ms:MS}{fu k:Nat}{T:Tb}(X:K.In h)(Gn:h.Ns mainGlobals mg)(Wa:mg "law"=a_ (.ref fa))
  (D:Def K "law" st) (S:aZ N ["script"] (ar st))
  (hb :∀ (kV doc pm:f_) (an:Option e_) (cdv ct:f_) (us:List f_),us.length=["script"].length->bindArgs (cM "law" "law" (fM st) (bG st) (ar st) .none kV doc pm an cdv ct) ⟨us,[]⟩=pure ((["script"]:List Str).zip us))
  {tabs:List (e_×Str)} (h1:T.mkr=d_) (hO:∀base:Heap,f9 mg base->TOk ⟨l.prog,w,⟨K,[],[],[],tabs⟩,mg,base,b_⟩ T k) (hc:cB T fu N (ar st).names (bG st)=a_ ms):
  ∃ fd:FuncData,(∀ (s:g_) (v:f_),BindsTo s fd ⟨[v],[]⟩ [("script",v)]) /\ ∀ base:Heap,K.In base->base.Ns mainGlobals mg->f9 mg base->g9 l.prog w K mg base CX0 (k+1) fa fd ["script"] (spM ⟨K,[],[],[],tabs⟩ (run 1 N.length ms)):=by
 obtain⟨f,fd,a,F⟩:=D.ex;have e:=Wa.symm.trans (bK X Gn a);cases e;refine⟨fd,λs v=>?_,λbase _ _ Zy=>BY rfl F S λX' S'=>(snd fu _ _ _ (.of (hO _ Zy) h1)).b _ _ _ _ hc X' S'⟩;obtain⟨oc,od,kV,doc,pm,an,cdv,ct,osl,rfl,lk,ZH⟩:=F.ex;exact .of_eq (hb kV _ pm an _ ct _ rfl)
theorem Mn{tabs:List (e_×Str)}{H:Hp}{a:e_}{ns:List Int}{m:MF}(hT:∀q∈tabs,yD H q.1 q.2)(hS:SqL K H a (ns.map V.int))(hm:∀S:Sto,S.length=1->getL S 0=a_ (ns.map U.int)->∃S',m [.ref 0] S=a_ (.bl c_,S')):
  spM ⟨K,[],[],[],tabs⟩ m [.ref a] H (λv _=>v=.bl c_) λ_ _ _=>False:=by
 have key:∃c:Cell,mW ⟨K,[],[],[],tabs⟩ H [a] a c/\getL [c] 0=a_ (ns.map U.int):=by
  rcases hS with (h|⟨o,h⟩)|h
  .exact⟨.lst _,⟨_,h,RUs.ints ns⟩,rfl⟩
  .exact⟨.frz _,⟨_,.inl ⟨o,h⟩,RUs.ints ns⟩,rfl⟩
  .exact⟨.frz _,⟨_,.inr (.inr h),RUs.ints ns⟩,rfl⟩
 obtain⟨c,hc,hg⟩:=key;obtain⟨S',e⟩:=hm _ rfl hg;refine⟨[a],_,_,_,S',⟨rfl,λn m us ws q1 q2 _ _ _=>?_,λn c' b q1 q2=>?_,⟨.nil,λq hq=>(nomatch hq),hT⟩⟩,.cons (qR rfl) .nil,e,λY3 v H' _ _ _ r=>jf r⟩
 .have h1:=(ag.mp q1).1
  have h2:=(ag.mp q2).1<;>simp_all
 .have h1:=(ag.mp q1).1
  simp_all
end _G
namespace _G
open PySem PySem.Spec _L
open PySem.W (CodeHd tabObj tabIn)
open PyProof.Rows hiding St
theorem rV.tab{K:ai}{x:Str}{st:Stmt}{c P:e_}(D:rV K x st c P):tabIn K x=a_ (c,P):=by
 obtain⟨f,oc,od,kV,doc,pm,an,ct,sl,e1,e2,_⟩:=D.ex;obtain⟨vs,Vj,Yw,file,tf,flags,tg,inF,text,tt,e3,e4,_⟩:=D.cd;unfold tabIn
 simp_all
def wD(K:ai)(tabs:List (e_×Str))(a:e_)(o:Obj)(xs:List V):Hp:=λb=>
 if b∈tabs.map (·.1) then a_ (.tbl #[]) else if b=a/\K.lookup a=b_ then a_ (.frz o (.lst xs)) else b_
section
variable {P:Program}{w:World}{K:ai}{mg mb:Str->Option f_}{k:Nat}{fa a:e_}{fd:FuncData}{x:Str}{sp:Sp}{s:g_}{vs:List f_}{ns:List Int}{tabs:List (e_×Str)}
theorem Ge(kx:K.In s.heap)(Z7:s.heap.Ns mainGlobals mg)(hb:s.heap.Ns builtinsNs mb)(Zy :∀ x:Str,x≠"__name__"->mb x=bootBuiltins x)(Wg:s.heap.NoLimit)(Se:f9 mg s.heap)(hg:s.gens = #[])
  (ha:s.heap.get? a=a_ { cls := .type "list",data := .seq vs.toArray }) (hi:IntsAre vs ns) (hl:ns.length<=sizeLine) (hr:j7 k callerA)
  (hT:∀r∈tabs,K.lookup r.1=b_ /\ ∃c,s.heap.TableAt c r.1 #[])
  (F:∀base:Heap,K.In base->base.Ns mainGlobals mg->f9 mg base->g9 P w K mg base CX0 k fa fd [x] sp) (WM:∀(s:g_) (u:f_),BindsTo s fd ⟨[u],[]⟩ [(x,u)])
  (Zk:∀H:Hp,(∀r∈tabs,yD H r.1 r.2)->SqL K H a (ns.map V.int)->sp [.ref a] H (λv _=>v=.bl c_) λ_ _ _=>False):
  se (model P w) callerA (.call (.ref fa) ⟨[.ref a],[]⟩) (λr s'=>r=.ok (.ret (.bool c_))/\OldK s.heap s'.heap/\s'.os=s.os/\AllBare s'.gens) s:=by
 have rv:=uc hi;have Vz:=hi.length
 let o:Obj:={ cls := .type "list",data := .seq vs.toArray }
 let H:=wD K tabs a o (ns.map V.int)
 have hH:H=wD K _ a o _:=rfl;have tab:∀b,b∈tabs.map (·.1)->H b=a_ _/\K.lookup b=b_ /\ ∃c,s.heap.TableAt c b _:=λb hb=>by
  obtain⟨r,hr,e⟩:=aL.mp hb;subst e;exact⟨if_pos hb,hT r hr⟩
 have V4:a∉tabs.map _:=λz=>by
  obtain⟨_,_,c,ht⟩:=tab a z;have e:=ht.2;rw[ha]at e;cases e
 have Ww:∀b u,H b=a_ u->(b∈tabs.map _/\u=.tbl _)\/(b=a/\K.lookup a=b_/\u=.frz o _):=λb u e=>by
  rw[hH]at e;unfold wD at e
  split at e
  .rename_i z;cases e;exact .inl ⟨z,rfl⟩
  .split at e
   .rename_i z;cases e;exact .inr ⟨z.1,z.2,rfl⟩
   .cases e
 have nodic:∀{b:e_}{o:Obj}{es:Array _}{ep:Nat},s.heap.get? b=a_ o->o.data=.dict es ep->H b=b_:=λ{b o' es ep} e d=>by
  cases q:H b with
  |none=>rfl
  | some u=>
    rcases Ww b u q with⟨z,_⟩|⟨z,_⟩
    .obtain⟨_,_,c,ht⟩:=tab b z
     have e2:=ht.2;rw[e]at e2;cases e2;cases d
    .subst z
     rw[ha]at e;cases e;cases d
 have nsK:∀{b:e_}{m:Str->Option _},s.heap.Ns b m->(wt _ H).Ns b m:=λ{b m} ⟨o,es,ep,e,d,r⟩=>⟨o,es,ep,oh e (nodic e d),d,r⟩
 have Uh:K.In (wt _ H):=λb o' e=>oh (kx b o' e) (by
  cases q:H b <;> grind)
 have hok:HOk P w H s.heap:=λb u e=>by
  rcases Ww b u e with⟨z,rfl⟩|⟨rfl,z2,rfl⟩
  .obtain⟨_,_,c,ht⟩:=tab b z
   exact ht.2
  .exact⟨ha,by rw[aj];exact hl,vs,_,rv,ha⟩
 have hS:SqL K H a (ns.map V.int):=by
  cases hk:K.lookup a with
  | some o'=>
    have e:=kx a o' hk;rw[ha]at e;cases e;exact .inr ⟨_,_,_,hk,rfl,rfl,rfl,by rw[bU,Vz];exact hl,by simpa using rv⟩
  |none=>exact .inl (.inr ⟨o,by show wD K _ a o _ a=_;unfold wD;rw[if_neg V4,if_pos ⟨rfl,hk⟩]⟩)
 have hM:Mod K mg _:=⟨Uh,nsK Z7,⟨mb,nsK hb,Zy⟩,let ⟨mc,h1,h2⟩:=Wg;⟨mc,nsK h1,h2⟩⟩;have e0:Ay P w K mg _ callerA [] s H:=⟨rfl,hM,λb o e=>Al e,Nat.le_of_eq (pE _ _),trivial,λb hb=>absurd (show b∈[] from hb) (by simp),hok,.of_eq hg⟩;have QR:f9 mg (wt s.heap H):=by
  obtain⟨bm,ob,e1,e2,e3,e4,e5,e6⟩:=Se;refine⟨bm,ob,e1,e2,oh e3 ?_,e4,e5,e6⟩;cases q:H bm with
  |none=>rfl
  | some u=>
    rcases Ww bm u q with⟨z,_⟩|⟨z,_⟩
    .obtain⟨_,_,c,ht⟩:=tab bm z
     have e:=ht.2;rw[e3]at e;cases e;cases e6
    .rw[z,ha]at e3;cases e3;cases e6
 have Sq:∀r∈tabs,yD H _ r.2:=λr hr=>⟨_,(tab _ (aL.mpr ⟨r,hr,rfl⟩)).1,trivial,λpos cv h=>by cases h⟩;refine pI ((F _ Uh (nsK Z7) QR).run _ [] s H _ [.ref a] [.ref a] _ _ hr e0 (WM s _) (.cons rfl .nil) (Zk H Sq hS)) λr s' h=>?_;cases r with
 |error e=>exact h.elim
 | ok fl=>
   cases fl with
   |next=>exact cp h
   |brk=>exact cp h
   |cont=>exact cp h
   | ret u=>
     obtain⟨v,H',os,bare,un,Xl,r',q⟩:=h;have q':=q;subst q';obtain rfl:u=Value.bool _:=r';refine⟨rfl,⟨λb o' e=>?_,λb o' e=>un.there b o' e (by simp)⟩,os,bare⟩;cases q:H b with
     |none=>exact .inl (un.keep b o' e q (by intro z;exact absurd (show b∈[] from z) (by simp)) (by simp))
     | some u=>
       rcases Ww b u q with⟨z,rfl⟩|⟨rfl,_,rfl⟩
       .obtain⟨_,_,c,ht⟩:=tab b z
        obtain⟨more,e2⟩:=un.tbls b _ q;have e3:=Xl b _ e2;have e4:=ht.2;rw[e]at e4;cases e4;exact .inr (.inl ⟨ht.isCodeTable,rfl,_,_,rfl,e3⟩)
       .obtain⟨e2,_⟩:=Xl b _ (un.frzs b _ _ q)
        rw[ha]at e;cases e;exact .inl e2
end
theorem DX{l:mH}{n k:Nat}{q:Program}{loose:List Str}{XP:(Str->Option f_)->Heap->Prop}{YP:World->Heap->Prop}{d:DefRec}{K:Params->ai}{x:Str}
  (hn:l.most=a_ n) (YI:n<=sizeLine) (Xw:d.params.defaults=[]) (hr:j7 k callerA) (hY:∀(w:World) (h:Heap),YP w h->(K w.params).In h)
  (F: ∀(w:World) (mg:Str->Option f_) (fa:e_) (h:Heap),(K w.params).In h->h.Ns mainGlobals mg->mg d.name=a_ (.ref fa) -> ∃(tabs:List (e_×Str)) (fd:FuncData) (sp:Sp),
   (∀r∈tabs,(K w.params).lookup r.1=b_ /\ ∃x d c,(recsOf q).find? (λe=>e.name==x)=a_ d/\tabIn (K w.params) x=a_ (c,r.1)) /\
   (∀(s:g_) (u:f_),BindsTo s fd ⟨[u],[]⟩ [(x,u)])/\(∀base:Heap,(K w.params).In base->base.Ns mainGlobals mg->f9 mg base->g9 l.prog w (K w.params) mg base CX0 k fa fd [x] sp) /\
   ∀(H:Hp) (a:e_) (ns:List Int),ns.length<=n->(∀r∈tabs,yD H r.1 r.2)->SqL (K w.params) H a (ns.map V.int)->sp [.ref a] H (λv _=>v = .bl c_) λ_ _ _=>False):
  PySem.W.WalkO q loose XP YP l.row.toRowW d [] (λf vs=>PySem.call f vs):=by
 refine Att.attach_call hn Xw λw s₀ ZT mg mb fa o pm cd doc a vs ns t0 u8 ho hd ZH WV XM hints hlen hg=>?_;have kx:=hY w _ u8;obtain⟨tabs,fd,sp,hT,hb,hF,Zk⟩:=F w mg fa _ kx t0.T.g WV;refine Ge kx t0.T.g t0.T.b t0.T.builtins t0.T.nolimit t0.T.bmain hg XM hints (aA hlen YI) hr (λr hr=>?_) hF hb λH h1 h2=>Zk H a ns hlen h1 h2;obtain⟨h1,x',d',c,h2,h3⟩:=hT r hr;obtain⟨h4,h5⟩:=PySem.W.tab_of t0.T kx h2 h3;exact⟨h1,c,h4.tab h5⟩
end _G
namespace _G
open PySem PySem.Spec _L
variable{p:List f_->Prop}
theorem usC{n:Nat}(h:∀a us,us.length=n->p (a::us)):∀us:List f_,us.length=n+1->p us:=λus hl=>by
 cases us<;>simp_all
theorem us0(h:p []):∀us:List f_,us.length=0->p us
 |[],_=>h
theorem us1(h:∀a,p [a]):∀us:List f_,us.length=1->p us:=usC λa us hl=>ju hl▸h a
theorem us2(h:∀a b,p [a,b]):∀us:List f_,us.length=2->p us:=usC λa=>us1 (h a)
theorem us3(h:∀a b c,p [a,b,c]):∀us:List f_,us.length=3->p us:=usC λa=>us2 (h a)
theorem TOk.nm{M:Mo}{T:Tb}{k:Nat}(h:TOk M T k)(x:Str):TOk M ⟨T.D,T.C,[],T.H,d_,T.Z.to x⟩ k:=⟨h.D,h.C,h.B,λ_ _ e=>(by cases e),λz=>(by cases z),h.Z⟩
def Bd(x:Str)(st:Stmt)(ps:List Str):Prop:= ∀(kV doc pm:f_) (an:Option e_) (cdv ct:f_) (us:List f_),us.length=ps.length->bindArgs (cM x x (fM st) (bG st) (ar st) .none kV doc pm an cdv ct) ⟨us,[]⟩=pure (ps.zip us)
structure Ch(P:Program)(w:World)(K:ai)(mg:Str->Option f_)(tabs:List (e_×Str))(T:Tb)(k:Nat):Prop where
 o:∀(caps:List U) (capv:List V) (cds:List (e_×Obj)) (base:Heap),f9 mg base->TOk ⟨P,w,⟨K,caps,capv,cds,tabs⟩,mg,base,b_⟩ T k
 h:∀(caps:List U) (capv:List V) (cds:List (e_×Obj)) (base:Heap),f9 mg base->∀y F,T.H.lookup y=a_ F->∃k' ps,k'<=k/\FnC ⟨P,w,⟨K,caps,capv,cds,tabs⟩,mg,base,b_⟩ y k' ps F
 r:∀(caps:List U) (capv:List V) (cds:List (e_×Obj)) (base:Heap),f9 mg base->∀y vf,T.Z.F.lookup y=a_ vf->∃k' d,d<=3/\k'<=k/\FnR ⟨P,w,⟨K,caps,capv,cds,tabs⟩,mg,base,b_⟩ T.Z.cl y k' d vf
theorem uy{M:Mo}{Fs:List (Str×VF)}{cl:Nat->e_}{j k:Nat}(h:∀y vf,Fs.lookup y=a_ vf->∃k' d,d<=3/\k'<=j/\FnR M cl y k' d vf)(hj:j<=k):∀y vf,Fs.lookup y=a_ vf->∃k' d,d<=3/\k'<=k/\FnR M cl y k' d vf:=λy vf hy=>
 let ⟨k',d,hd,a,b⟩:=h y vf hy;⟨k',d,hd,aA a hj,b⟩
section
variable {P:Program}{w:World}{K:ai}{mg:Str->Option f_}{tabs:List (e_×Str)}{T T':Tb}{k j:Nat}{h:Heap}{x:Str}{st:Stmt}{N ps:List Str}{ms:MS}{fu:Nat}
theorem Ch.dfn(c:Ch P w K mg tabs T k)(O:∀(caps:List U) (capv:List V) (cds:List (e_×Obj)) (base:Heap),f9 mg base->TOk ⟨P,w,⟨K,caps,capv,cds,tabs⟩,mg,base,b_⟩ T' k)(h1:T'.mkr=d_)(X:K.In h)(Gn:h.Ns mainGlobals mg)(D:Def K x st)(S:aZ N ps (ar st))(hb:Bd x st ps)
  (hc:cB T' fu N (ar st).names (bG st)=a_ ms):Ch P w K mg tabs ⟨(x,run ps.length N.length ms)::T.D,T.C,T.L,T.H,T.mkr,T.Z⟩ (k+1):=
 ⟨λa b d e f=>(c.o a b d e f).cons (D.fn (O a b d e f) rfl h1 X Gn S hb hc) (fk k),λa b d e f=>qx (c.h a b d e f) (fk k),λa b d e f=>uy (c.r a b d e f) (fk k)⟩
theorem Ch.cls{y:Str}{msC:e_->MF->MS}(c:Ch P w K mg tabs T k)(h1:T.mkr=d_)(hL:T.L=[])(X:K.In h)(Gn:h.Ns mainGlobals mg)(D:Def K x st)(S:aZ N ps (ar st))(hb:Bd x st ps)
  (hc:∀g φ,cB ⟨T.D,T.C,[(y,g,φ)],T.H,T.mkr,T.Z⟩ fu N (ar st).names (bG st)=a_ (msC g φ)):Ch P w K mg tabs ⟨T.D,T.C,T.L,(x,λg φ=>run ps.length N.length (msC g φ))::T.H,T.mkr,T.Z⟩ k:=
 ⟨λa b d e f=>(c.o a b d e f).setH,λa b d e f=>Gc (c.h a b d e f) (D.fnC c.o h1 hL X Gn S hb hc) (ao k) (ao k),c.r⟩
end
end _G
namespace _G
open PySem PySem.Spec _L
open PyProof.Rows hiding St
def xNo:MX:=λ_ _=>b_
def Lu(m:ME)(r:MX):MX:=λY S=>bnd (m Y S) λ_ S1=>r Y S1
def qO(C:Nat):MX:=λ_ S=>a_ (C,S)
def Ck(z:Int):Prop:=z.natAbs.log2<1920/\(toString z:Str).length<=1000
instance(z:Int):Decidable (Ck z):=aY _
def qB(i C:Nat):MX:=λY S=>match Y[i]? with
 |some (a_ (.int z))=>if Ck z then a_ (C,S) else b_
 |_=>b_
def EW(z:Str):Prop:=xg z/\z.length<=1000000
instance(z:Str):Decidable (EW z):=aY _
def nN(i C:Nat):MX:=λY S=>match Y[i]? with
 |some (a_ (.str z))=>if EW z then a_ (C,S) else b_
 |_=>b_
def xIf(c:MT)(a b:MX):MX:=λY S=>bnd (c Y S) λk S1=>if k then a Y S1 else b Y S1
def jk(a:MX)(m:MS)(b:MX):MX:=λY S=>match a Y S with
 |some r=>a_ r
 | none=>match m Y S with
   |some (.nx,Y2,S1)=>b Y2 S1
   |_=>b_
def qj(k n:Nat)(r:MX):RF:=λus S=>if us.length=k then r (us.map a_++bI (n-k) b_) S else b_
structure Tx where
 R:List (Str×RF)
 Cl:List (Str×Nat)
def Jr:Const->Option Str
 |.str s=>a_ s
 |_=>b_
def sD:Expr->Option Str
 |.Constant c _ _=>Jr c
 |_=>b_
def sM:Expr->Option Str
 |.Name y _=>a_ y
 |_=>b_
def zb:Expr->Option (Str×Int)
 |.FormattedValue e c o _=>if o.isNone then(sM e).map λy=>(y,c) else b_
 |_=>b_
def MJ(a b:Str):U->Bool
 |.int i=>decide (i.natAbs.log2<1920)&&decide (a.length<=1000)&&decide ((toString i:Str).length<=1000)&&decide (b.length<=1000)
 |_=>d_
def OP(T:Tb)(ns:NS):List Expr->Option U
 |[x,y,z]=>(sD x).bind λa=>(zb y).bind λq=>(sD z).bind λb=>(T.C.lookup q.1).bind λu=>if q.2 == -1&&dc ns q.1&&be q.1&&MJ a b u then a_ u else b_
 |_=>b_
def Mi(N:List Str)(ns:NS):List Expr->Option Nat
 |[x,y,z]=>(sD x).bind λa=>(zb y).bind λq=>(sD z).bind λb=>if q.2 == -1&&i7 ns q.1&&be q.1&&decide (a.length<=1000)&&decide (b.length<=1000) then slot N q.1 else b_
 |_=>b_
def FV(N:List Str)(ns:NS):Expr->Option Nat
 |.JoinedStr es _=>Mi N ns es
 |_=>b_
def K3(N:List Str)(ns:NS):List Expr->Option Nat
 |[y,z]=>(zb y).bind λq=>(sD z).bind λb=>if q.2==114&&i7 ns q.1&&be q.1&&decide (b.length<=1000) then slot N q.1 else b_
 |_=>b_
def Fb(N:List Str)(ns:NS):Expr->Option Nat
 |.JoinedStr es _=>K3 N ns es
 |_=>b_
def zL(T:Tb)(ns:NS):Expr->Bool
 |.Constant c _ _=>(Jr c).isSome
 |.JoinedStr es _=>(OP T ns es).isSome
 |_=>d_
def oneOf{α:Type}:List α->Option α
 |[a]=>a_ a
 |_=>b_
structure Xc where
 e:Tb->Tx->List Str->NS->Expr->Option MX
 a:Tb->Tx->List Str->NS->List Expr->Option MX
 s:Tb->Tx->List Str->NS->Stmt->Option MX
 b:Tb->Tx->List Str->NS->List Stmt->Option MX
section
variable (f:Nat) (R:Xc) (T:Tb) (Z:Tx) (N:List Str) (ns:NS)
def xC(g:Str)(as:List Expr):Option MX:=match Z.R.lookup g with
 |some r=>(cA T f N ns as).map (xFn r)
 | none=>match T.D.lookup g with
   |some _=>if as.all notStar then R.a T Z N ns as else b_
   |none=>if g==("tuple":Str)&&as.all notStar then R.a T Z N ns as else b_
def xLt(it:Expr)(scope:Scope):Expr->Option MX
 |.Name x _=>if scope.kind==.function&&jB N (mK N x) ns scope.names x&&gp it then R.e T Z N ns it else b_
 |_=>b_
def xLc(scope:Scope)(gens:List Comprehension):Option MX:=(oneOf gens).bind λc=>if c.is_async=0 then xLt R T Z N ns c.iter scope c.target else b_
def xLr(N':List Str)(Ut:NS):Expr->Option MX
 |.Call g as ks _=>(sM g).bind λx=>if ks.isEmpty&&(!as.isEmpty&&(dc Ut x&&be x)) then(Z.R.lookup x).bind λr=>(cA T f N' Ut as).map (xFn r) else b_
 |_=>b_
def xLu(elt it:Expr)(scope:Scope):Expr->Option MX
 |.Name x _=>if scope.kind==.function&&jB N (mK N x) ns scope.names x&&gp it then(cE T f N ns it).bind λmi=>(cE T f (mK N x) scope.names elt).bind λme=>(xLr f T Z (mK N x) scope.names elt).map (jh mi me) else b_
 |_=>b_
def xLv(elt:Expr)(scope:Scope)(gens:List Comprehension):Option MX:=(oneOf gens).bind λc=>if c.is_async=0&&c.ifs.isEmpty then xLu f T Z N ns elt c.iter scope c.target else b_
def xE:Expr->Option MX
 |.ListComp elt gens scope _=>(xLc R T Z N ns scope gens).or (xLv f T Z N ns elt scope gens)
 |.Call g as ks _=>(sM g).bind λx=>if ks.isEmpty&&(!as.isEmpty&&(dc ns x&&be x)) then xC f R T Z N ns x as else b_
 |.Subscript a b _=>if jn b then R.e T Z N ns a else b_
 |_=>b_
def xA:List Expr->Option MX
 |[]=>b_
 | e::r=>if notStar e then(match R.e T Z N ns e with
   |some re=>a_ re
   | none=>(cE T f N ns e).bind λme=>(R.a T Z N ns r).map (Lu me)) else b_
def xR:Expr->Option MX
 |.Call g as ks _=>(sM g).bind λx=>(oneOf as).bind λa=>if ks.isEmpty&&dc ns x&&be x&&notStar a&&zL T ns a then(Z.Cl.lookup x).map qO else b_
 |_=>b_
def xRL:Expr->Option MX
 |.Call g as ks _=>(sM g).bind λx=>(oneOf as).bind λa=>if ks.isEmpty&&dc ns x&&be x&&notStar a then(FV N ns a).bind λi=>(Z.Cl.lookup x).map (qB i) else b_
 |_=>b_
def xRR:Expr->Option MX
 |.Call g as ks _=>(sM g).bind λx=>(oneOf as).bind λa=>if ks.isEmpty&&dc ns x&&be x&&notStar a then(Fb N ns a).bind λi=>(Z.Cl.lookup x).map (nN i) else b_
 |_=>b_
def xS:Stmt->Option MX
 | .Raise o c _=>if c.isNone then(match o.bind (xR T Z ns) with
   |some r=>a_ r
   | none=>(match o.bind (xRL Z N ns) with
     |some r=>a_ r
     | none=>o.bind (xRR Z N ns))) else b_
 |.If c a b _=>(cT T f N ns c).bind λmc=>(R.b T Z N ns a).map λra=>xIf mc ra ((R.b T Z N ns b).getD xNo)
 |.Expr e _=>if iD e then R.e T Z N ns e else b_
 |.Return o _=>o.bind λe=>R.e T Z N ns e
 |.Assign ts e _=>(oneOf ts).bind λt=>(sM t).bind λx=>if lV ns x&&iD e&&(slot N x).isSome then R.e T Z N ns e else b_
 |_=>b_
def xB:List Stmt->Option MX
 |[]=>b_
 | s::r=>match R.s T Z N ns s with
   |some rs=>a_ (jk rs ((cS T f N ns s).getD sNo) ((R.b T Z N ns r).getD xNo))
   |none=>(cS T f N ns s).bind λms=>(R.b T Z N ns r).map (jk xNo ms)
end
def xc(f:Nat):Nat->Xc
 |0=>⟨λ_ _ _ _ _=>b_,λ_ _ _ _ _=>b_,λ_ _ _ _ _=>b_,λ_ _ _ _ _=>b_⟩
 |n+1=>⟨xE f (xc f n),xA f (xc f n),xS f (xc f n),xB f (xc f n)⟩
def GH:Data->Option ClassData
 |.cls cd=>a_ cd
 |_=>b_
def exC(K:ai)(C:e_)(oc:f_)(cd:ClassData)(sl:Array (Option f_)):Bool:=
 oc == .type "type"&&(sl == #[sl.getD 0 b_,sl.getD 1 b_,sl.getD 2 b_,sl.getD 3 b_,a_ (.builtin "ValueError.__new__"),sl.getD 5 b_]&&(cd.mro == .ref C::cd.mro.tail&&(!cd.hasDel&&(PySem.W.tailIn K vE cd.mro.tail&&(PySem.W.nsOkIn K cd.ns&&aJ K cd.ns "__init__" == a_ b_)))))
def exB(K:ai)(C:e_):Bool:=match K.lookup C with
 | some o=>(match GH o.data with
   |some cd=>exC K C o.cls cd o.slots
   | none=>d_)
 |none=>d_
structure XOk(M:Mo)(cl:Nat->e_)(T:Tb)(Z:Tx)(k:Nat):Prop where
 g:GOk M T k
 R:∀x r,Z.R.lookup x=a_ r->∃k' ps,k'<=k/\FnX M cl x k' ps r
 C:∀x c,Z.Cl.lookup x=a_ c->M.mg x=a_ (.ref (cl c))/\exB M.K.K (cl c)=c_
theorem Kj{d:Data}{cd:ClassData}(h:GH d=a_ cd):d=.cls cd:=by
 cases d<;>first | (cases h;rfl) |cases h
theorem Jl{K:ai}{h:Heap}{mg:Str->Option f_}{x:Str}{C:e_}(X:K.In h)(e:mg x=a_ (.ref C))(q:exB K C=c_):OwnCls x C vE "ValueError.__new__" mg h:=by
 refine⟨e,?_⟩;unfold exB at q;cases ho:K.lookup C with
 |none=>simp_all
 | some o=>
   rw[ho]at q;obtain⟨oc,dd,da,sl⟩:=o
   have qa:(match GH da with
    |some cd=>exC K C oc cd sl
    | none=>d_)=c_:=q
   clear q;cases hd:GH da with
   |none=>simp_all
   | some cd=>
     have q:=qa;clear qa;have Zc:=Kj hd;clear hd;subst Zc;obtain⟨q0,q⟩:=aQ.mp q;obtain⟨q1,q⟩:=aQ.mp q;obtain⟨q3,q⟩:=aQ.mp q;obtain⟨q4,q⟩:=aQ.mp q;obtain⟨q5,q⟩:=aQ.mp q;obtain⟨q6,q7⟩:=aQ.mp q;obtain⟨nm,bs,mro,ns,qn,hd,sn,sub,ab,col,del⟩:=cd;have SI:mro=.ref C::mro.tail:=eq_of_beq q3;have SR:del=d_:=by
      cases del with
      |false=>rfl
      |true=>cases q4
     rw[eq_of_beq q0,SI,SR,eq_of_beq q1]at ho;exact⟨_,ns,nm,qn,bs,hd,sn,_,ab,_,dd,_,_,_,_,_,_,X _ _ ho,.of_isNs (PySem.W.isNs_of_in X q6),PySem.W.nsMap_none_of_in X q6 (eq_of_beq q7),PySem.W.tail_of_in X q5⟩
section
variable {M:Mo}{cl:Nat->e_}{T:Tb}{Z:Tx}{k n fu:Nat}{N:List Str}{ns:NS}{X:Cx}{E:XK}
variable{s:Str}
theorem Af{c:Const}(h:Jr c=a_ s):c=.str s:=by
 cases c<;>cases h;rfl
variable{e:Expr}
theorem nR(h:sD e=a_ s):∃k p,e=.Constant (.str s) k p:=by
 unfold sD at h
 split at h
 .exact⟨_,_,by rw[Af h]⟩
 .cases h
theorem rJ(h:sM e=a_ s):∃p,e=.Name s p:=by
 unfold sM at h
 split at h<;>simp_all
theorem uL{q:Str×Int}(h:zb e=a_ q):∃p p',e=.FormattedValue (.Name q.1 p) q.2 b_ p':=by
 unfold zb at h
 split at h
 .rename_i e c o p
  split at h
  .rename_i ho
   obtain⟨y,e1,rfl⟩:=map_eq h;obtain⟨p1,rfl⟩:=rJ e1;cases o with
   |none=>exact⟨p1,p,rfl⟩
   |some _=>cases ho
  .cases h
 .cases h
theorem o7{α:Type}{l:List α}{a:α}(h:oneOf l=a_ a):l=[a]:=by
 match l,h with
 |[_],h=>cases h;rfl
theorem Ja(O:TOk M T k)(S:Sc M X.nox k N ns){a:Expr}(h:zL T ns a=c_):PE X a λG H Q=>∀x,Q (.str x) H:=by
 unfold zL at h
 split at h
 .obtain⟨s,e⟩:=cu.mp h
  rw[Af e];exact PE.con Cy λ_ _ _ q=>q _
 .rename_i es p
  obtain⟨u,h⟩:=cu.mp h
  match es,h with
  | [x,y,z],h=>
    obtain⟨a,e1,h⟩:=bind_eq (h);obtain⟨⟨n,c⟩,e2,h⟩:=bind_eq h;obtain⟨b,e3,h⟩:=bind_eq h;obtain⟨u',hi,h⟩:=bind_eq h
    split at h
    rotate_left
    .cases h
    rename_i hs
    simp only[ah]at hs;obtain⟨⟨⟨hc,hg⟩,hp⟩,hI⟩:=hs;obtain⟨k1,p1,rfl⟩:=nR e1;obtain⟨p2,p3,rfl⟩:=uL e2;obtain⟨k3,p4,rfl⟩:=nR e3;obtain⟨i,rfl,hI⟩ :∃i,u'=.int i/\MJ a b (.int i)=c_:=by
     cases u' with
     |int i=>exact⟨i,rfl,hI⟩
     |_=>cases hI
    have h:(decide _&&decide _&&decide _&&decide _)=c_:=hI;simp only[ah,decide_eq_true_eq]at h;obtain⟨⟨⟨h1,h2⟩,h3⟩,h4⟩:=h;obtain⟨g,v,hm,rv,hu⟩:=O.C _ _ hi;have hv:=cR (hu (λ_=>b_) []);subst hv;obtain⟨t,rfl⟩ :∃t,g=.int i t:=rv;cases eq_of_beq hc;intro pins s G H Q I q;have big:3000<=sizeLine:=by decide
    refine JoinedStr_many (joinParts_cons (fh ⟨?_,?_⟩))
    .rw[strLen_append]
     have:(fQ).length=0:=rfl;omega
    refine joinParts_cons (FormattedValue_plain (jC (I.tok _) (S.gl hg) (by have:=S.hm;exact(congrFun this _).trans hm) ?_ (bR hp).1));refine formatField_int_small h1 ⟨?_,?_⟩
    .rw[strLen_append,strLen_append]
     have:(fQ).length=0:=rfl;omega
    refine joinParts_cons (fh ⟨?_,?_⟩)
    .rw[strLen_append,strLen_append,strLen_append]
     have:(fQ).length=0:=rfl;omega
    refine joinParts_nil ⟨.str _,H,?_,⟨_,rfl⟩,q _⟩ ?_
    .exact I.tok _
    .rw[strLen_append,strLen_append,strLen_append]
     have:(fQ).length=0:=rfl;omega
 .cases h
end
variable{a:Expr}{N:List Str}{ns:NS}{i:Nat}
theorem E4{M:Mo}{k:Nat}{X:Cx}(S:Sc M X.nox k N ns)(h:FV N ns a=a_ i):PE X a λG H Q=>(∃z,G[i]?=a_ (a_ (.int z))/\Ck z) /\ ∀x,Q (.str x) H:=by
 unfold FV at h
 split at h
 rotate_left
 .cases h
 rename_i es p
 match es,h with
 | [x,y,z],h=>
   obtain⟨a,e1,g1⟩:=bind_eq (show((sD x).bind λa=>(zb y).bind λq=>(sD z).bind λb=>if q.2 == -1&&i7 ns q.1&&be q.1&&decide (a.length<=1000)&&decide (b.length<=1000) then slot N q.1 else b_)=a_ i from h);obtain⟨⟨n,c⟩,e2,g2⟩:=bind_eq g1;obtain⟨b,e3,g3⟩:=bind_eq g2
   split at g3
   rotate_left
   .cases g3
   rename_i hs
   simp only[ah,decide_eq_true_eq]at hs;obtain⟨⟨⟨⟨hc,hv⟩,hp⟩,h2⟩,h4⟩:=hs;obtain⟨k1,p1,rfl⟩:=nR e1;obtain⟨p2,p3,rfl⟩:=uL e2;obtain⟨k3,p4,rfl⟩:=nR e3;cases eq_of_beq hc;obtain⟨n1,n2⟩:=bR hp;have pv:PE X (.Name n p2) (Eb i):=PE.nox (lJ (by have e:=S.hN;rw[e];exact slot_get g3) (S.vis hv) n1 n2);intro pins s G H Q I hq;obtain⟨⟨w,hw,h1,h3⟩,q⟩:=hq;have big:(3000:Nat)<=sizeLine:=by rw[sizeLine_eq];decide
   refine JoinedStr_many (joinParts_cons (fh ⟨?_,?_⟩))
   .rw[strLen_append]
    have:(fQ).length=0:=rfl;omega
   refine joinParts_cons (FormattedValue_plain (thn (pv pins _ G H (λv H1=>v=.int w/\H1=H) (I.tok _) ⟨_,hw,rfl,rfl⟩) λu s1 ⟨v,H1,I1,r1,ev,eh⟩=>?_));subst ev;subst eh;obtain⟨t,rfl⟩:=r1;refine formatField_int_small h1 ⟨?_,?_⟩
   .rw[strLen_append,strLen_append]
    have:(fQ).length=0:=rfl;omega
   refine joinParts_cons (fh ⟨?_,?_⟩)
   .rw[strLen_append,strLen_append,strLen_append]
    have:(fQ).length=0:=rfl;omega
   refine joinParts_nil ⟨.str _,H1,?_,⟨_,rfl⟩,q _⟩ ?_
   .exact I1.tok _
   .rw[strLen_append,strLen_append,strLen_append]
    have:(fQ).length=0:=rfl;omega
theorem FK{M:Mo}{k:Nat}{X:Cx}(S:Sc M X.nox k N ns)(h:Fb N ns a=a_ i):PE X a λG H Q=>(∃z,G[i]?=a_ (a_ (.str z))/\EW z) /\ ∀x,Q (.str x) H:=by
 unfold Fb at h
 split at h
 rotate_left
 .cases h
 rename_i es p
 match es,h with
 | [y,z],h=>
   obtain⟨⟨n,c⟩,e2,g2⟩:=bind_eq (show((zb y).bind λq=>(sD z).bind λb=>if q.2==114&&i7 ns q.1&&be q.1&&decide (b.length<=1000) then slot N q.1 else b_)=a_ i from h);obtain⟨b,e3,g3⟩:=bind_eq g2
   split at g3
   rotate_left
   .cases g3
   rename_i hs
   simp only[ah,decide_eq_true_eq]at hs;obtain⟨⟨⟨hc,hv⟩,hp⟩,h4⟩:=hs;obtain⟨p2,p3,rfl⟩:=uL e2;obtain⟨k3,p4,rfl⟩:=nR e3;cases eq_of_beq hc;obtain⟨n1,n2⟩:=bR hp;have pv:PE X (.Name n p2) (Eb i):=PE.nox (lJ (by have e:=S.hN;rw[e];exact slot_get g3) (S.vis hv) n1 n2);intro pins s G H Q I hq;obtain⟨⟨w,hw,h1,h2⟩,q⟩:=hq;have Tr:(reprText w).length<=10*w.length+2:=StrLaws.reprText_len w λc hc=>by
    have:=Array.all_eq_true.mp h1;obtain⟨j,hj,e⟩:=pW hc;have:=this j (by simpa using hj);have e':w.cps[j]'(by simpa using hj)=c:=by simpa using e
    rw[e']at this;exact dQ (of_decide_eq_true this) (by decide)
   have z0:(fQ).length=0:=rfl;have big:(10*1000000+2+1000:Nat)<=sizeLine:=by rw[sizeLine_eq];decide
   have l1:(fQ++reprText w).length<=sizeLine:=by rw[strLen_append];omega
   have l2:(fQ++reprText w++b).length<=sizeLine:=by rw[strLen_append,strLen_append];omega
   refine JoinedStr_many (joinParts_cons (wpAny_FormattedValue_repr (thn (pv pins _ G H (λv H1=>v=.str w/\H1=H) I ⟨_,hw,rfl,rfl⟩) λu s1 ⟨v,H1,I1,r1,ev,eh⟩=>?_)));subst ev;subst eh;obtain⟨t,rfl⟩:=r1;refine wpAny_pyReprObj_str (PyProof.Rows.formatField_str (λt' tk=>⟨l1,?_⟩) (by omega)) (by omega);refine joinParts_cons (fh ⟨l2,?_⟩);exact joinParts_nil ⟨.str _,H1,((I1.tok _).tok _).tok _,⟨_,rfl⟩,q _⟩ l2
variable{e:Expr}{Z:Tx}{r:MX}
theorem IR(h:xRR Z N ns e=a_ r):∃x a p1 p C i,e=.Call (.Name x p1) [a] [] p/\Z.Cl.lookup x=a_ C/\r=nN i C/\dc ns x=c_/\be x=c_/\notStar a=c_/\Fb N ns a=a_ i:=by
 unfold xRR at h
 split at h
 .rename_i g as ks p
  obtain⟨x,e1,hy⟩:=bind_eq h;obtain⟨a,e2,hz⟩:=bind_eq hy;obtain⟨p1,rfl⟩:=rJ e1;cases o7 e2
  split at hz
  .rename_i hs
   simp only[ah]at hs;obtain⟨i,e3,hz⟩:=bind_eq hz;obtain⟨C,e1,rfl⟩:=map_eq hz;have hk:=hs.1.1.1;cases ks with
   |nil=>exact⟨x,a,p1,p,C,i,rfl,e1,rfl,hs.1.1.2,hs.1.2,hs.2,e3⟩
   |cons _ _=>cases hk
  .cases hz
 .cases h
theorem Kz(h:xRL Z N ns e=a_ r):∃x a p1 p C i,e=.Call (.Name x p1) [a] [] p/\Z.Cl.lookup x=a_ C/\r=qB i C/\dc ns x=c_/\be x=c_/\notStar a=c_/\FV N ns a=a_ i:=by
 unfold xRL at h
 split at h
 .rename_i g as ks p
  obtain⟨x,e1,hy⟩:=bind_eq h;obtain⟨a,e2,hz⟩:=bind_eq hy;obtain⟨p1,rfl⟩:=rJ e1;cases o7 e2
  split at hz
  .rename_i hs
   simp only[ah]at hs;obtain⟨i,e3,hz⟩:=bind_eq hz;obtain⟨C,e1,rfl⟩:=map_eq hz;have hk:=hs.1.1.1;cases ks with
   |nil=>exact⟨x,a,p1,p,C,i,rfl,e1,rfl,hs.1.1.2,hs.1.2,hs.2,e3⟩
   |cons _ _=>cases hk
  .cases hz
 .cases h
theorem LO{T:Tb}(h:xR T Z ns e=a_ r):∃x a p1 p C,e=.Call (.Name x p1) [a] [] p/\Z.Cl.lookup x=a_ C/\r=qO C/\dc ns x=c_/\be x=c_/\notStar a=c_/\zL T ns a=c_:=by
 unfold xR at h
 split at h
 .rename_i g as ks p
  obtain⟨x,e1,hy⟩:=bind_eq h;obtain⟨a,e2,hz⟩:=bind_eq hy;obtain⟨p1,rfl⟩:=rJ e1;cases o7 e2
  split at hz
  .rename_i hs
   simp at hs;obtain⟨C,e1,rfl⟩:=map_eq hz;have hk:=hs.1.1.1.1;cases ks with
   |nil=>exact⟨x,a,p1,p,C,rfl,e1,rfl,hs.1.1.1.2,hs.1.1.2,hs.1.2,hs.2⟩
   |cons _ _=>cases hk
  .cases hz
 .cases h
section
variable {M:Mo}{cl:Nat->e_}{T:Tb}{Z:Tx}{k n fu:Nat}{N:List Str}{ns:NS}{X:Cx}{E:XK}
variable{pos:Pos}
theorem x_raise{x:Str}{C:Nat}{p1 p2:Pos}(L:Lv X E)(S:Sc M X.nox k N ns)(O:M.mg x=a_ (.ref (cl C))/\exB M.K.K (cl C)=c_)(hg:dc ns x=c_)(hp:be x=c_)(hs:notStar a=c_){tc:St->Hp->Prop}(ha:PE X a λG H Q=>tc G H /\ ∀x,Q (.str x) H)(Ti:∀Y S0 C' S',r Y S0=a_ (C',S')->C=C'/\S0=S')(RR:∀μ Y S0 q G H,ER H μ Y G->r Y S0=a_ q->tc G H):
  PS X (.Raise (a_ (.Call (.Name x p1) [a] [] p2)) b_ pos) (tXS cl M.K r E):=by
 intro pins s G H D I h;obtain⟨μ,S0,Y,C',S',hr,er,q,aft⟩:=h;have Vp:=RR μ Y S0 _ G H er q;obtain⟨rfl,rfl⟩:=Ti _ _ _ _ q;have hm:=S.hm;have hK:=S.hK;have O:=Jl (by rw[<-hK];exact I.ok.mod.kin) O.1 O.2;obtain⟨tl,Nn,nm,q,bs,hdct,sn,sub,ab,col,dd,k0,k1,k2,k3,k5,mN,hC,hN,Sf,T'⟩:=O.obj;refine wpAny_Raise_call_subU (nm:=nm) (q:=q) (N:=Nn) (bs:=bs) (hdct:=hdct) (sn:=sn) (sub:=sub) (ab:=ab) (col:=col) (dd:=dd) (k0:=k0) (k1:=k1) (k2:=k2) (k3:=k3) (k5:=k5)
  vA (by decide +kernel) vA (T'.hasType PySem.F.excBase_ValueError.hasBase) S.room.hd (lP _ _ (by simp_all)) Sf (jC I (S.gl hg) (by rw[hm];exact O.bound) ⟨rfl,?_⟩ (bR hp).1)
 rw[bW hs];refine jq ?_;refine fi (thn (ha _ s G H (λv H1=>(∃x,v=.str x)/\H1=H) I ⟨Vp,λx=>⟨⟨x,rfl⟩,rfl⟩⟩) λu s1 ⟨v,H1,I1,r1,_,e1⟩=>?_);subst e1;refine iM ⟨rfl,?_,I1.bk _ _ hC,hN.keeps I1.bk,T'.keeps I1.bk,λh' e hx=>?_⟩
 .show 1<=sizeLine
  decide
 .exact L.made I1 hx (aft μ H1 (Pre.refl _) (bh.refl _) hr)
variable{as:List Expr}{p:Pos}
theorem Jy{g:Str}{mf:MF}{k':Nat}{ps:List Str}(S:Sc M X.nox k N ns)(F:Fn M g k' ps mf)(hk:k'<=k)(hg:dc ns g=c_)(hp:be g=c_)(ha:PA X (a::as) (tXA cl M.K r E))(hs:(a::as).all notStar=c_):
  PE X (.Call (.Name g p) (a::as) [] pos) (tXE cl M.K r E):=by
 obtain⟨f,fd,hm,Zm,hb,F⟩:=F.ex;have e1:=S.hP;have e2:=S.hw;have e3:=S.hK;have e4:=S.hm;have e5:=S.hb;rw[<-e1,<-e2,<-e3,<-e4,<-e5]at F;rw[<-e4]at hm;rw[<-e3]at Zm hb;rw[a8,ah]at hs;exact PE.con (uj F (S.room.mono hk) (S.gl hg) hm Zm hb .nil tV ha (bR hp).1 (bW hs.1 _ _) (lP _ _ hs.2)) λG H Q h=>h
theorem GO (S:Sc M X.nox k N ns)(O:TOk M T k)(hg:dc ns "tuple"=c_)(ha:PA X (a::as) (tXA cl M.K r E))(hs:(a::as).all notStar=c_) :
  PE X (.Call (.Name "tuple" p) (a::as) [] pos) (tXE cl M.K r E):=by
 rw[a8,ah]at hs;have e4:X.mg=M.mg:=S.hm;exact PE.con (j6 (X:=X) (T:="tuple") (r:=fun _ _ _=>False) (fun _ _ _ _ _ _ _ _ _ h=>h.elim) (S.gl hg) (by rw [e4];exact O.B _ (by decide +kernel)) sY ha (by decide) (by decide) (bW hs.1 _ _) (lP _ _ hs.2)) fun _ _ _ q=>q
theorem On{elt:Expr}{gens:List Comprehension}{scope:Scope}(O:XOk M cl T Z k)(L:Lv X E)(S:Sc M X.nox k N ns)(h:xLv fu T Z N ns elt scope gens=a_ r):PE X (.ListComp elt gens scope p) (tXE cl M.K r E):=by
 have Sn:=snd fu M T k O.g;obtain⟨c,e1,h1⟩:=bind_eq h;clear h;cases o7 e1;obtain⟨tg,it,ifs,ia⟩:=c
 split at h1
 rotate_left
 .cases h1
 rename_i hz
 replace hz:=aQ.mp hz;have XG:ia=0:=of_decide_eq_true hz.1;have QU:ifs=[]:=ue.mp hz.2;clear hz;subst XG QU;replace h1:xLu fu T Z N ns elt it scope tg=a_ r:=h1;unfold xLu at h1
 split at h1
 rotate_left
 .cases h1
 rename_i x px
 split at h1
 rotate_left
 .cases h1
 rename_i hs
 rw[ah,ah]at hs;obtain⟨mi,e2,h1⟩:=bind_eq h1;obtain⟨me,e3,h1⟩:=bind_eq h1;obtain⟨rr,e4,rfl⟩:=map_eq h1;have C0:=mw S (eq_of_beq hs.1.1) hs.1.2;have C:gS X (mK N x) scope [x]:=⟨C0.kind,C0.nd,C0.free,C0.own,C0.ndN,C0.len,C0.last,C0.vis⟩;have hi:PI X (.Name x px) it (λG H R=>qX M.K (tM M.K mi) G H R\/yZ M.K (tM M.K mi) G H R):=by
  have e3:X.K=M.K:=S.hK;have h:=PI.or (Ae (tg:= .Name x px) (Sn.e _ _ _ _ e2 _ S).nox) (Cw (Sn.e _ _ _ _ e2 _ S).nox);rw[e3]at h;exact h
 refine PE.con (Dp L S.calm C hi (te:=λG H Q=>tM M.K me G H Q\/tX cl M.K rr E G H) (λZZ ZW fp=>?_) (oH hs.2 _)) λG H Q q=>OC q;have Sb:Sc M ((blk X (mK N x) scope ZZ ZW fp).wish (xiB X E (mK N x) scope ZZ ZW fp)).nox k (mK N x) scope.names:=rN S C0 ZZ ZW fp;intro pins s G H Q I q;rcases q with q |q
 .exact(Sn.e _ _ _ _ e3 _ Sb).nox pins s G H Q I q
 .obtain⟨g,as,ks,p',rfl,e7⟩ :∃g as ks p',elt=.Call g as ks p'/\((sM g).bind λUC=>if ks.isEmpty&&(!as.isEmpty&&(dc scope.names UC&&be UC)) then(Z.R.lookup UC).bind λr=>(cA T fu (mK N x) scope.names as).map (xFn r) else b_)=a_ rr:=by
   unfold xLr at e4
   split at e4
   .exact⟨_,_,_,_,rfl,e4⟩
   .cases e4
  obtain⟨y,hy,e8⟩:=bind_eq e7;obtain⟨p1,rfl⟩:=rJ hy
  split at e8
  rotate_left
  .cases e8
  rename_i hk
  rw[ah,ah,ah,ue]at hk;obtain⟨rfl,YR,WY,ZQ⟩:=hk;obtain⟨rf,e5,e9⟩:=bind_eq e8;obtain⟨ZV,e6,rfl⟩:=map_eq e9;obtain⟨k',ps,Xs,F⟩:=O.R _ _ e5;cases as with
  |nil=>cases YR
  |cons a as=>exact Ak Ea Sb F Xs WY ZQ (Sn.a _ _ _ _ e6 _ Sb) (i6 e6) pins s G H Q I q
structure Li(M:Mo)(cl:Nat->e_)(T:Tb)(Z:Tx)(k fu n:Nat):Prop where
 e:∀N ns e r,(xc fu n).e T Z N ns e=a_ r->∀X E,Lv X E->Sc M X.nox k N ns->PE X e (tXE cl M.K r E)
 a:∀N ns es r,(xc fu n).a T Z N ns es=a_ r->∀X E,Lv X E->Sc M X.nox k N ns->PA X es (tXA cl M.K r E)
 s:∀N ns st r,(xc fu n).s T Z N ns st=a_ r->∀X E,Lv X E->Sc M X.nox k N ns->PS X st (tXS cl M.K r E)
 b:∀N ns sts r,(xc fu n).b T Z N ns sts=a_ r->∀X E,Lv X E->Sc M X.nox k N ns->PSs X sts (tXS cl M.K r E)
theorem LG{R:Li M cl T Z k fu n}{sts:List Stmt}(h:∀r,(xc fu n).b T Z N ns sts=a_ r->PSs X sts (tXS cl M.K r E)):PSs X sts (tXS cl M.K (((xc fu n).b T Z N ns sts).getD xNo) E):=by
 cases q:(xc fu n).b T Z N ns _ with
 |some r=>exact h r q
 | none=>
   rintro pins s G H D I ⟨μ,S0,Y,C,S',hr,er,q,aft⟩;cases q
theorem Mx(O:XOk M cl T Z k):∀n,Li M cl T Z k fu n
 |0=>⟨λ_ _ _ _ h=>dM h,λ_ _ _ _ h=>dM h,λ_ _ _ _ h=>dM h,λ_ _ _ _ h=>dM h⟩
 | n+1=>by
   have R:=Mx O n;have Sn:=snd fu M T k O.g;refine⟨λN ns e r h X E L S=>?_,λN ns es r h X E L S=>?_,λN ns st r h X E L S=>?_,λN ns sts r h X E L S=>?_⟩
   .replace h:xE fu (xc fu n) T Z N ns e=a_ r:=h
    cases e with
    | Call g as ks p=>
      obtain⟨x,hx,h2⟩:=bind_eq h;clear h;obtain⟨p1,rfl⟩:=rJ hx;have h:(if ks.isEmpty&&(!as.isEmpty&&(dc ns x&&be x)) then xC fu (xc fu n) T Z N ns x as else b_)=a_ r:=h2;clear h2
      split at h
      .rename_i hs
       rw[ah,ah,ah,ue]at hs;obtain⟨rfl,ha,hs⟩:=hs;cases as with
       |nil=>cases ha
       |cons a as=>
       unfold xC at h
       split at h
       .rename_i rr hr
        obtain⟨ZV,e1,rfl⟩:=map_eq h;obtain⟨k',ps,hk,F⟩:=O.R _ _ hr;exact x_call L S F hk hs.1 hs.2 (Sn.a _ _ _ _ e1 _ S) (i6 e1)
       .split at h
        .rename_i mf hd
         split at h
         .rename_i ZL
          obtain⟨k',ps,hk,F⟩:=O.g.1.D _ _ hd;exact Jy S F hk hs.1 hs.2 (R.a _ _ _ _ h _ _ L S) ZL
         .cases h
        .split at h
         .rename_i ZL
          obtain⟨h1,h2⟩:=aQ.mp ZL;rw[eq_of_beq h1]at hs ⊢;exact GO S O.g.1 hs.1 (R.a _ _ _ _ h _ _ L S) h2
         .cases h
      .cases h
    | Subscript a b p=>
      have h:(if jn b then(xc fu n).e T Z N ns a else b_)=a_ r:=h
      split at h
      .rename_i hs
       exact PE.con (Ce (r:=λ_ _ _ _=>False) (by unfold IxR;intros;contradiction) (R.e _ _ _ _ h _ _ L S) PE.never (Ag hs)) λ_ _ _ q=>q
      .cases h
    | ListComp elt gens scope p=>
      replace h:(xLc (xc fu n) T Z N ns scope gens).or (xLv fu T Z N ns elt scope gens)=a_ r:=h;rcases fJ.mp h with h|⟨_,h⟩
      rotate_left
      .exact On O L S h
      obtain⟨c,e1,h1⟩:=bind_eq h;clear h;cases o7 e1;obtain⟨tg,it,ifs,ia⟩:=c
      split at h1
      rotate_left
      .cases h1
      rename_i h0
      have XG:ia=0:=h0;subst XG;replace h1:xLt (xc fu n) T Z N ns it scope tg=a_ r:=h1;unfold xLt at h1
      split at h1
      rotate_left
      .cases h1
      split at h1
      rotate_left
      .cases h1
      rename_i x px hs
      rw[ah,ah]at hs;have C:=mw S (eq_of_beq hs.1.1) hs.1.2;have hi:PI X (.Name x px) it (λG H _=>tX cl M.K r E G H):=λpins s G H Rr I q=>
       thn (R.e _ _ _ _ h1 _ _ L S pins s G H (λ_ _=>False) I q) λv s1 ⟨_,_,_,_,z⟩=>z.elim
      exact PE.con (z7 (tt:=λ_ _ _=>False) (te:=λ_ _ _=>False) S.calm ⟨C.kind,C.nd,C.free,C.own,C.ndN,C.len,C.last,C.vis⟩ hi (λ_ _ _=>λ_ _ _ _ _ _ z=>z.elim) (λ_ _ _=>PE.never) (oH hs.2 _)) λ_ _ _ q=>q
    |_=>cases h
   .simp only[xc]at h
    unfold xA at h
    split at h
    .cases h
    .split at h
     .rename_i e es hs
      split at h
      .rename_i re he
       cases h;exact λpos pins s G H Q I q=>l6 (t:=λ_ _ _=>False) (R.e _ _ _ _ he _ _ L S) (λ_ _ _ _ _ _ _ h=>h.elim) (bW hs _ _) pos pins s G H Q I q
      .obtain⟨me,e1,h⟩:=bind_eq h
       obtain⟨rr,e2,rfl⟩:=map_eq h;intro pos pins s G H Q I q;refine l6 (Sn.e _ _ _ _ e1 _ S).nox (R.a _ _ _ _ e2 _ _ L S) (bW hs _ _) pos pins s G H Q I ?_;obtain⟨μ,S0,Y,C,S',hr,er,q,aft⟩:=q;obtain⟨u,S1,e1,q⟩:=aK q;exact⟨μ,S0,Y,u,S1,hr,er,e1,λY0 v H1 p1 k1 ZY _=>⟨Y0,S1,Y,C,S',ZY,er.mono k1 p1,q,aft.mono p1 k1⟩⟩
     .cases h
   .replace h:xS fu (xc fu n) T Z N ns st=a_ r:=h
    cases st with
    | Raise o c p=>
      replace h:(if c.isNone then(match o.bind (xR T Z ns) with
       |some r=>a_ r
       | none=>(match o.bind (xRL Z N ns) with
         |some r=>a_ r
         | none=>o.bind (xRR Z N ns))) else b_)=a_ r:=h
      split at h
      .rename_i hn
       cases c with
       |some _=>cases hn
       |none=>
       cases o with
       |none=>cases h
       |some e=>
       replace h:(match xR T Z ns e with
        |some r=>a_ r
        | none=>(match xRL Z N ns e with
          |some r=>a_ r
          | none=>xRR Z N ns e))=a_ r:=h
       split at h
       .rename_i rr hx
        cases h;obtain⟨x,a,p1,p2,C,rfl,e1,rfl,h1,h2,h3,h4⟩:=LO hx;exact x_raise (tc:=λ_ _=>True) L S (O.C _ _ e1) h1 h2 h3 (PE.con (Ja O.g.1 S h4) λ_ _ _ q=>q.2) (λ_ _ _ _ q=>by cases q;exact⟨rfl,rfl⟩) λ_ _ _ _ _ _ _ _=>trivial
       split at h
       rotate_left
       .obtain⟨x,a,p1,p2,C,i,rfl,e1,rfl,h1,h2,h3,h4⟩:=IR h
        refine x_raise L S (O.C _ _ e1) h1 h2 h3 (FK S h4) (λY S0 C' S' q=>?_) λμ Y S0 w G H er q=>?_
        .unfold nN at q
         split at q
         .split at q
          .cases q;exact⟨rfl,rfl⟩
          .cases q
         .cases q
        .unfold nN at q
         split at q
         .rename_i z hz
          split at q
          .rename_i ok
           obtain⟨v,hv,rv⟩:=er.get i _ hz;rw[ir rv]at hv;exact⟨z,hv,ok⟩
          .cases q
         .cases q
       .rename_i rr hx
        cases h;obtain⟨x,a,p1,p2,C,i,rfl,e1,rfl,h1,h2,h3,h4⟩:=Kz hx;refine x_raise L S (O.C _ _ e1) h1 h2 h3 (E4 S h4) (λY S0 C' S' q=>?_) λμ Y S0 w G H er q=>?_
        .unfold qB at q
         split at q
         .split at q
          .cases q;exact⟨rfl,rfl⟩
          .cases q
         .cases q
        .unfold qB at q
         split at q
         .rename_i z hz
          split at q
          .rename_i ok
           obtain⟨v,hv,rv⟩:=er.get i _ hz;rw[cR rv]at hv;exact⟨z,hv,ok⟩
          .cases q
         .cases q
      .cases h
    | If c a b p=>
      obtain⟨mc,e1,h⟩:=bind_eq h;obtain⟨ra,e2,rfl⟩:=map_eq h;refine PS.con (G3 (Sn.t _ _ _ _ e1 _ S).nox (R.b _ _ _ _ e2 _ _ L S) (LG (R:=R) λr q=>R.b _ _ _ _ q _ _ L S)) λD G H q=>?_;obtain⟨μ,S0,Y,C,S',hr,er,q,aft⟩:=q;obtain⟨b,S1,e1,q⟩:=aK q;refine⟨μ,S0,Y,b,S1,hr,er,e1,λY0 H1 p1 k1 ZY=>?_⟩;cases b with
      |true=>exact OQ ⟨Y0,S1,Y,C,S',ZY,er.mono k1 p1,q,aft.mono p1 k1⟩
      |false=>exact Ou ⟨Y0,S1,Y,C,S',ZY,er.mono k1 p1,q,aft.mono p1 k1⟩
    | Expr e p=>
      have h:(if iD e then(xc fu n).e T Z N ns e else b_)=a_ r:=h
      split at h
      .rename_i hs
       exact PS.con (zq (R.e _ _ _ _ h _ _ L S) (nY hs _ _ _)) λ_ _ _ q=>q
      .cases h
    | Return o p=>
      obtain⟨e,rfl,hx⟩:=bind_eq h;exact PS.con (Do (R.e _ _ _ _ hx _ _ L S)) λ_ _ _ q=>q
    | Assign ts e p=>
      obtain⟨t,e1,hx⟩:=bind_eq h;clear h;obtain⟨x,e2,h⟩:=bind_eq hx;clear hx;cases o7 e1;obtain⟨p1,rfl⟩:=rJ e2
      split at h
      .rename_i hs
       simp only[ah]at hs;obtain⟨i,hi⟩:=cu.mp hs.2;have hl:=S.lo hs.1.1;exact PS.con (zc (i:=i) (by have:=S.nd;have e:=S.hN;exact e▸this) (by have e:X.N=N:=S.hN;rw[e];exact slot_get hi) hl.1 (R.e _ _ _ _ h _ _ L S) (nY hs.1.2 _ _ _) hl.2) λ_ _ _ q=>q
      .cases h
    |_=>cases h
   .simp only[xc]at h
    unfold xB at h
    split at h
    .cases h
    .rename_i st rest
     have two:∀(rs:MX) (ms:MS) (rr:MX),PS X st (tXS cl M.K rs E)->PS X st (tMS M.K ms)->PSs X rest (tXS cl M.K rr E)->PSs X (st::rest) (tXS cl M.K (jk rs ms rr) E):=by
      rintro rs ms rr h1 h2 h3 pins s G H D I ⟨μ,S0,Y,C,S',hr,er,q,aft⟩;unfold jk at q
      split at q
      .rename_i r e1
       cases q;exact(lF h1 (PSs.never (e:=rest))) pins s G H D I ⟨μ,S0,Y,C,S',hr,er,e1,aft⟩
      .split at q
       .rename_i Y2 S1 e2
        exact(lF h2 h3) pins s G H D I ⟨μ,S0,Y,_,hr,er,e2,λY0 Y6 H1 p1 k1 ZY ZP=>⟨Y0,S1,Y2,C,S',ZY,ZP,q,aft.mono p1 k1⟩⟩
       .cases q
     split at h
     .rename_i rs e1
      cases h;refine two _ _ _ (R.s _ _ _ _ e1 _ _ L S) ?_ (LG (R:=R) λr q=>R.b _ _ _ _ q _ _ L S);cases e2:cS T fu N ns st with
      |some ms=>exact(Sn.s _ _ _ _ e2 _ S).nox
      |none=>exact NJ
     .obtain⟨ms,e1,h⟩:=bind_eq h
      obtain⟨rr,e2,rfl⟩:=map_eq h;refine two _ _ _ ?_ (Sn.s _ _ _ _ e1 _ S).nox (R.b _ _ _ _ e2 _ _ L S);rintro pins s G H D I ⟨μ,S0,Y,C,S',hr,er,q,aft⟩;cases q
end
section
variable {M:Mo}{cl:Nat->e_}{T:Tb}{Z:Tx}{k:Nat}{h:Heap}{x:Str}{st:Stmt}{N ps:List Str}{r:MX}{fu n:Nat}
theorem Def.fnX(O:XOk M cl T Z k)(h0:M.mkr=b_)(X:M.K.K.In h)(Gn:h.Ns mainGlobals M.mg)(D:Def M.K x st)(S:aZ N ps (ar st))
  (hb:Bd x st ps) (hc:(xc fu n).b T Z N (ar st).names (bG st)=a_ r):FnX M cl x (k+1) ps (qj ps.length N.length r):=by
 obtain⟨f,fd,a,F⟩:=D.ex;refine⟨f,fd,bK X Gn a,F.2,F.binds hb,?_⟩;obtain⟨oc,od,kV,doc,pm,an,cdv,ct,osl,rfl,lk,ZH⟩:=F.ex;have len:∀vs H Q E,spX cl M.K (qj _ N.length r) vs H Q E->vs.length=ps.length:=λvs H Q E h=>by
  obtain⟨μ,S',us,u,ZO,hr,rs,e,_⟩:=h;unfold qj at e
  split at e
  .rw[<-rs.len];omega
  .cases e
 refine _L.wb lk ZH S len λA outer s H vs Q E hr h=>⟨_,(Mx O n).b _ _ _ _ hc _ E ⟨rfl,rfl,rfl,rfl⟩ (Sc.def (E:=E) S hr λc q h=>by grind),?_⟩;obtain⟨μ,S1,us,C,S2,hR,rs,e,ka⟩:=h;unfold qj at e
 split at e
 .rename_i hl
  have er:=mj (N:=N) rs;rw[hl]at er;exact⟨μ,S1,_,C,S2,hR,er,e,ka⟩
 .cases e
end
end _G
namespace _G
open PySem PySem.Spec PySem.W _L
open PyProof.Rows hiding St
section
variable {prog:Program}{w:World}{A:Around}{E:f_->g_->Prop}{K:Frag}{h:Heap}{g:Array GenState}{d:Drawn}{t:Nat}{os:OsState}{e C:e_}{oe:Obj}
theorem KR{tp:f_}{R:Result->g_->Prop}(X:K.In h)(he:h.get? e=a_ oe)(hc:oe.cls=.ref C)(hm:mroIn K C (.type "object")=a_ c_)(q:R (.ok (.ret (.ref C))) ⟨h,g,d,t,os⟩) :
  se (model prog w) A (.call (.builtin "getset_descriptor.__get__") ⟨[.builtin "object.__class__",.ref e,tp],[]⟩) R ⟨h,g,d,t,os⟩:=by
 have L1:=looks_mroIn (M:=model prog w) X hm;have ow:=PySem.F.owner_object_class;have T5:(⟨h,g,d,t,os⟩:g_).TypeIs (.builtin "object.__class__") "getset_descriptor":=jv;refine codeAny_call_builtin PySem.F.slot_gs_get.plain PySem.F.entry_gs_get (PySem.F.slot_gs_get.check _ _ _ _ _ _ _ _ T5 (PySem.F.args_gs_get _ _ _) ?_)
 repeat (any_goals (first |assumption | (with_reducible refine jr he ?_;rw[hc]) | (rw[ow];with_reducible refine L1.at ?_) |with_reducible refine L1.at ?_ |wp_step))
 refine⟨Code.quiet_builtin _ (by decide +kernel),codeAny_builtin PySem.F.entry_object_class ?_⟩
 repeat (any_goals (first |assumption | (with_reducible refine jr he ?_;rw[hc]) |wp_step))
variable{tk:Tok}
theorem BV{Q:Fin->g_->Prop}(X:K.In h)(he:h.get? e=a_ oe)(hc:oe.cls=.ref C)(hm:mroIn K C (.type "object")=a_ c_)(hf:findIn K (.ref C) "__class__"=a_ (a_ (.builtin "object.__class__")))(q:Q (.done (.ret (.ref C))) ⟨h,g,d,t,os⟩) :
  aR (model prog w) A (Builtin.«object.__getattribute__» ⟨[.ref e,.str "__class__" tk],[]⟩) Q E ⟨h,g,d,t,os⟩:=by
 have L1:=looks_findIn (M:=model prog w) X hf;have f5:(⟨h,g,d,t,os⟩:g_).TypeIs (.builtin "object.__class__") "getset_descriptor":=jv;have f4:=jv;have f6:=PySem.F.slot_gs_get.lookup;have f7:=PySem.F.slot_gs_set.lookup
 repeat (any_goals (first |assumption | (with_reducible refine jr he ?_;rw[hc]) |with_reducible refine L1.at ?_ |wp_step))
 refine KR X he hc hm ?_
 repeat (any_goals (first |assumption |wp_step))
theorem BI{Yg:f_}{M:Model}{Q:Unit->g_->Prop}(X:K.In h)(he:h.get? e=a_ oe)(hc:oe.cls=.ref C)(hb:mroIn K C (.type "BaseException")=a_ c_)(q:Q () ⟨h,g,d,t,os⟩) :
  aR M A (checkBuiltinCall "BaseException.__getattribute__" ⟨[.ref e,Yg],[]⟩) Q E ⟨h,g,d,t,os⟩:=by
 have L1:=looks_mroIn (M:=M) X hb;have k1:builtinKind "BaseException.__getattribute__"=a_ .slot:=by decide +kernel
 have k2:splitId "BaseException.__getattribute__"=a_ ("BaseException","__getattribute__"):=by decide +kernel
 have ha:=PySem.F.args_bexc_ga (.ref e) Yg;simp only[checkBuiltinCall,k1,k2];refine aB ?_;unfold isInstance
 repeat (first | (with_reducible refine jr he ?_;rw[hc]) |with_reducible refine L1.at ?_ |wp_step)
 exact q
theorem M6{Q:f_->g_->Prop}(X:K.In h)(he:h.get? e=a_ oe)(hc:oe.cls=.ref C)(hm:mroIn K C (.type "object")=a_ c_)(hb:mroIn K C (.type "BaseException")=a_ c_)(hf:findIn K (.ref C) "__class__"=a_ (a_ (.builtin "object.__class__")))
  (hg:findIn K (.ref C) "__getattribute__"=a_ (a_ (.builtin "BaseException.__getattribute__"))) (ha:findIn K (.ref C) "__getattr__"=a_ b_) (q:Q (.ref C) ⟨h,g,d,t,os⟩) :
  aR (model prog w) A (getAttrBy (.ref e) (.str "__class__" tk) d_) Q E ⟨h,g,d,t,os⟩:=by
 have L1:=looks_findIn (M:=model prog w) X hg;have L2:=looks_findIn (M:=model prog w) X ha;have f3:=PySem.F.excAttr_ValueError.ga.bind (.ref e);have x2:(pX "BaseException.__getattribute__" == pX "object.__getattribute__")=d_:=by decide +kernel
 have x1:(onTheHeap (eA C)&&pX "BaseException.__getattribute__" == pX "object.__getattribute__")=d_:=by rw [x2];rfl
 repeat (any_goals (first |assumption | (with_reducible refine jr he ?_;rw[hc]) |with_reducible refine L1.at ?_ |with_reducible refine L2.at ?_ |wp_step))
 refine codeAny_call_builtin PySem.F.excAttr_ValueError.ga.plain PySem.F.entry_bexc_ga (BI X he hc hb (BV X he hc hm hf ?_))
 repeat (any_goals (first |assumption |wp_step))
theorem F4{Q:Option f_->g_->Prop}(X:K.In h)(he:h.get? e=a_ oe)(hc:oe.cls=.ref C)(hm:mroIn K C (.type "object")=a_ c_)(hb:mroIn K C (.type "BaseException")=a_ c_)(hf:findIn K (.ref C) "__class__"=a_ (a_ (.builtin "object.__class__")))
  (hg:findIn K (.ref C) "__getattribute__"=a_ (a_ (.builtin "BaseException.__getattribute__"))) (ha:findIn K (.ref C) "__getattr__"=a_ b_) (q:Q (a_ (.ref C)) ⟨h,g,d,t+1,os⟩) :
  aR (model prog w) A (getAttr? (.ref e) "__class__") Q E ⟨h,g,d,t,os⟩:=by
 unfold getAttr? getAttrBy?
 repeat (any_goals (first |assumption |with_reducible apply M6 X he hc hm hb hf hg ha |wp_step))
def DT(K:Frag)(C:e_):Bool:=(clsIn K C).isSome&&mroIn K C (.type "object")==a_ c_&&mroIn K C (.type "BaseException")==a_ c_&&findIn K (.ref C) "__class__" == a_ (a_ (.builtin "object.__class__")) &&
 findIn K (.ref C) "__getattribute__" == a_ (a_ (.builtin "BaseException.__getattribute__"))&&findIn K (.ref C) "__getattr__" == a_ b_
theorem BU(hB:DT K C=c_):KitX K (.ref e) (.ref C) (λh=>∃oe,h.get? e=a_ oe/\oe.cls=.ref C):=by
 unfold DT at hB;simp only[ah,beq_iff_eq]at hB;obtain⟨⟨⟨⟨⟨h0,h1⟩,h2⟩,h3⟩,h4⟩,h5⟩:=hB;obtain⟨cd,ZH⟩:=cu.mp h0;unfold clsIn at ZH
 split at ZH
 rotate_left
 .cases ZH
 rename_i c' d' cd' Yw ho
 refine⟨λM h X p=>?_,λM h X p=>?_,λh tp dd ZX n sl X Sh=>?_,λ{prog w A E Q s} X p k=>?_⟩
 .obtain⟨oe,e1,e2⟩:=p
  exact e2▸(Looks.ld e1).andThen .now
 .intro A' Q' E' s' k q
  unfold isType loadHead;exact aB (wpAny_loadPart (k _ _ (X _ _ ho)) (bj q))
 .refine Bool.eq_false_iff.mpr λq=>?_
  have z:C=tp:=Value.ref.inj (beq_iff_eq.mp q);subst z;have:=(X _ _ ho).symm.trans Sh;cases this
 .obtain⟨oe,e1,e2⟩:=p
  obtain⟨h,g,d,t,os⟩:=s;exact F4 X e1 e2 h1 h2 h3 h4 h5 k
end
end _G
namespace _G
open PySem PySem.Spec _L
open PySem.W (envX kla_fn kla_obj CodeHd tabObj)
open PyProof.Rows hiding St
section
variable {X:Cx}{pins:List (e_×Obj)}{G:St}{H H':Hp}{s s':g_}
theorem BZ{M:Model}{A:Around}{E:f_->g_->Prop}{j:Nat}{n:Str}{pos:Pos}{Q:Unit->g_->Prop}(I:Inv X pins G H s)(hN:X.N.Nodup)(hj:X.N[j]?=a_ n)(hn:X.env.scope.names.lookup n=a_ .local)
  (h:∀s',Inv X pins (G.set j b_) H s'->Q () s'):aR M A (do bindName X.env n .none;unbindBehindTheSuite X.env n pos) Q E s:=by
 obtain⟨m,hm,hl⟩:=id I.loc;have Ye:(X.env.scope.kind==.class||(X.env.scope.kind==.module&&X.env.locals != X.env.globals))=d_:=by rw[I.ok.kind];rfl
 refine wpAny_nameGoes_keeps hn hm Ye λh' v WK hs=>h _ ?_;have below:∀b o,X.s₀.heap.get? b=a_ o->b≠X.env.locals:=λb o e=>bx (ax (aF e) I.ok.above);refine⟨I.ok,I.os,I.bare,⟨λb o e n hb hx=>(hs.2 b (below b o e)).trans (I.base.keep b o e n hb hx),λb o e n hb hx=>?_,I.base.free,λb o e hx=>?_,I.base.tups,I.base.frzs,I.base.tbls⟩,⟨_,WK,λi y w e1 e2 e3=>?_⟩,λy c e=>?_,I.free,I.freeC,λp hp=>?_,λb ob e=>?_,by simpa using I.len⟩
 .obtain⟨sl,e1⟩:=I.base.slot b o e n hb hx
  exact⟨sl,(hs.2 b (below b o e)).trans e1⟩
 .obtain⟨o',e1⟩:=I.base.there b o e hx
  exact⟨o',(hs.2 b (below b o e)).trans e1⟩
 .by_cases hi:i=j
  .rw[List.getElem?_set]at e2<;>simp_all
  .rw[aD (cY hi)]at e2
   obtain⟨u',r',q⟩:=hl i y w e1 e2 e3;refine⟨u',r',?_⟩;rcases q with⟨k,e⟩|⟨k,c,e,z⟩
   .refine .inl ⟨k,?_⟩
    have YR:y≠n:=λe=>hi (rD hN e1 (e▸hj))<;>simp_all
   .exact .inr ⟨k,c,e,z.sameBut hs (I.cne y c e)⟩
 .obtain⟨w',z⟩:=I.cell y c e
  exact⟨w',z.sameBut hs (I.cne y c e)⟩
 .obtain⟨e,n,ne,nf,d⟩:=I.pin p hp
  exact⟨(hs.2 _ ne).trans e,n,ne,nf,d⟩
 .refine(I.hok b ob e).stay (λc w' hc q=>(hs.2 c ?_).trans q) (λ_ q=>q) λ_ _ q=>q
  rintro rfl;rcases hc with rfl|hc
  .rw[I.free]at e;cases e
  .rw[I.free]at hc;cases hc
abbrev Cx.mkd(X:Cx)(e:f_):Cx:={ X with A:=X.A.mark (a_ e),calm:=d_,xe:=λ_ _=>False }
variable{e:f_}
theorem Inv.mkd(I:Inv X pins G H s):Inv (Cx.mkd X e) pins G H s:=
 ⟨⟨I.ok.mod,I.ok.kind,I.ok.glob,I.ok.blt,I.ok.above,I.ok.inj,I.ok.has,I.ok.cab,(λz=>nomatch z),I.ok.frames,I.ok.stk,I.ok.exf,I.ok.bs,I.ok.bsz,I.ok.noex,I.ok.exfs,I.ok.funs,I.ok.frf⟩,I.os,I.bare,I.base,I.loc,I.cell,I.free,I.freeC,I.pin,I.hok,I.len⟩
theorem Inv.unmkd(I:Inv (Cx.mkd X e) pins G H s)(hd:X.calm=c_->X.A.handled=b_):Inv X pins G H s:=
 ⟨⟨I.ok.mod,I.ok.kind,I.ok.glob,I.ok.blt,I.ok.above,I.ok.inj,I.ok.has,I.ok.cab,hd,I.ok.frames,I.ok.stk,I.ok.exf,I.ok.bs,I.ok.bsz,I.ok.noex,I.ok.exfs,I.ok.funs,I.ok.frf⟩,I.os,I.bare,I.base,I.loc,I.cell,I.free,I.freeC,I.pin,I.hok,I.len⟩
theorem HOk.frz{P:Program}{w:World}{h:Heap}{a:e_}{o:Obj}(x:HOk P w H h)(n:H a=b_)(e:h.get? a=a_ o):HOk P w (upd H a (.frz o fz)) h:=λb u q=>by
 by_cases hb:b=a
 .subst hb
  rw[cx]at q;cases q;exact⟨e,trivial,⟨_,e⟩,λ_ _ _ _=>trivial⟩
 .rw[bc hb]at q
  exact(x b u q).stay (λ_ _ _ z=>z) (λc z=>by rw[bc (bg z n)];omega) λc xs z=>by rw[bc (bg z n)];omega
theorem Un.frz{fs:List e_}{h h':Heap}{a:e_}{o:Obj}(u:Un fs [] H H' h h')(hn:h.get? a=b_)(n:H' a=b_):Un fs [] H (upd H' a (.frz o fz)) h h' where
 keep:=u.keep
 slot:=u.slot
 free:=λb o q m hx=>by rw[bc (λz=>by grind)];exact u.free b o q m hx
 there:=u.there
 tups:=λb xs q=>by have:=u.tups b xs q;rw[bc (bg this n)];omega
 frzs:=λb ob xs q=>by have:=u.frzs b ob xs q;rw[bc (bg this n)];omega
 tbls:=λb ps q=>by obtain⟨m,e⟩:=u.tbls b ps q;exact⟨m,by rw[bc (bg e n)];omega⟩
end
end _G
namespace _G
open PySem PySem.Spec _L
open PyProof.Rows hiding St
section
variable {X:Cx}{pins:List (e_×Obj)}{G:St}{H H':Hp}{s s':g_}
theorem HR.frz{K:KX}{μ:List e_}{S:Sto}{a:e_}{o:Obj}(h:HR K μ S H)(n:H a=b_):bh H (upd H a (.frz o fz))/\HR K μ S (upd H a (.frz o fz)):=by
 have kp:bh H (upd H a (.frz o fz)):=bh.new n;refine⟨kp,h.len,h.inj,λm c x q1 q2=>(h.cell m c x q1 q2).mono kp (Pre.refl _) (λhc=>?_) λo' u e=>by rw[bc (bg e n)];omega,h.ext.upd kp (Pre.refl _) λo' q=>by grind⟩;obtain⟨ob,e,_⟩:=(h.cell m c x q1 q2).has hc;exact bc (bg e n)
theorem HH{E:f_->g_->Prop}{Q:f_->g_->Prop}{i:Nat}{x:Str}{g:e_}{fd:FuncData}{p1 pos:Pos}(I:Inv X pins G H s)(hN:X.N[i]?=a_ x)(hv:Vis X.env.scope x)(hp:be x=c_)(X0:G[i]?=a_ (a_ (.ref g)))
  (hf:(∃(oc:f_) (od:Option e_) (sl:Array (Option f_)),X.base.get? g=a_ ⟨oc,od,.func fd,sl⟩)\/cb X.K (.ref g)=c_)
  (h:∀s1,Inv X pins G H s1->aR (model X.prog X.w) X.A (call (.ref g) []) Q E s1):aR (model X.prog X.w) X.A (eval (.Call (.Name x p1) [] [] pos) X.env) Q E s:=by
 obtain⟨n1,n2⟩:=bR hp;refine di (thn (lJ (X:=X.wish E) hN hv n1 n2 _ s G H (λv H1=>v=.ref g/\H1=H) (I.wish E) ⟨_,X0,rfl,rfl⟩) λw s1 ⟨v,H1,I1,r1,e1,e2⟩=>?_);subst e1;subst e2;obtain rfl:w=eA g:=r1;have I1:=I1.unwish;rcases hf with⟨oc,od,sl,hf⟩ |hf
 .exact BC rfl (λh q=>⟨_,.inl rfl,(oQ q).andThen .now⟩) (evalArgs_nil3 ⟨I1.bk g _ hf,h s1 I1⟩)
 .exact Bx I1.kIn hf (h s1 I1)
end
def O4(cl:Nat->e_)(K:KX)(i j l:Nat)(g:e_)(φ:MF)(ψ:RF):TS:=λD G H=>∃μ S Y,HR K μ S H/\ER H μ Y G/\Y[i]?=a_ (a_ (.obj g))/\Y[j]?=a_ b_ /\
 ((∃u S1,φ [] S=a_ (u,S1) /\ ∀Y3 Y1 H',Pre μ Y3->bh H H'->HR K Y3 S1 H'->ER H' Y3 Y Y1->D.nx Y1 H') \/
  ∃q S1,ψ [] S=a_ (q,S1) /\ ∀e oe Y3 Y1 H',Pre μ Y3->bh H H'->HR K Y3 S1 H'->ER H' Y3 (Y.set l (a_ (.obj e))) Y1->H' e=a_ (.frz oe fz)->oe.cls = .ref (cl q)->D.nx Y1 H')
section
variable {M:Mo}{X:Cx}{k:Nat}{N:List Str}{ns:List (Str×NameKind)}{x n y W:Str}{p1 p2 p3 p4 p5 p6 p7 p8 p9:Pos}
theorem IU{cl:Nat->e_}{φ:MF}{ψ:RF}{g w:e_}{k' i j l:Nat}(S:Sc M X k N ns)(stk:X.stack=X.env::X.outer)(fr:X.env.frame=a_ X.env.locals)(F:Lam M g k' [] φ)(F':wJ M cl g k' [] ψ)(hk:k'<=k)
  (hi:N[i]?=a_ x) (hx:i7 ns x=c_) (hp:be x=c_) (hj:N[j]?=a_ n) (hn:ns.lookup n=a_ .local) (To:be n=c_) (hl:N[l]?=a_ y) (hy:lV ns y=c_) (Vg:j≠l) (hW:dc ns W=c_) (Rq:be W=c_) (hw:M.mg W=a_ (.ref w))
  (hm:∀S q S1,ψ [] S=a_ (q,S1)->vB M.K (.ref (cl q)) (.ref w)=a_ c_):
  PS X (.Try [.Expr (.Call (.Name x p1) [] [] p2) p3] [.ExceptHandler (a_ (.Name W p4)) (a_ n) [.Assign [.Name y p5] (.Name n p6) p7] p8] [] [] p9) (O4 cl M.K i j l g φ ψ):=by
 intro pins s G H D I h;obtain⟨μ,S0,Y,hr,er,Y8,X8,h⟩:=h;obtain⟨v,X0,rv⟩:=er.get i _ Y8;have YX:=by simpa only [RU]using rv
 subst YX;have Ua:X.N[i]?=a_ x:=by rw[S.hN];exact hi
 refine wpAny_Try_except (zh (wpAny_Expr_any ?_ I.quiet rfl));rcases h with⟨u,S1,Yh,kk⟩|⟨q,S1,Yn,kk⟩
 .obtain⟨fd,hf,hb,F⟩:=F.ex
  rw[<-S.hP,<-S.hw,<-S.hK,<-S.hm,<-S.hb]at F;rw[<-S.hb,<-S.hK]at hf;rw[<-S.hK]at hb;refine HH I Ua (S.vis hx) hp X0 hf λs1 I1=>?_;refine thn (bV (pj (X:=X.nox) F (S.room.mono hk) hb .nil tV (I1.wish _) .nil (⟨μ,S0,[],u,S1,hr,.nil,Yh,λY3 v H' p k Zs _=>kk Y3 G H' p k Zs (er.mono k p)⟩)) (λ_ _ z=>z) λ_ _ z=>z.elim) λu s2 ⟨v,H2,I2,r2,q2⟩=>?_;exact iN (iN ⟨G,H2,I2.unwish,q2⟩)
 .obtain⟨fd,hf,hb,F'⟩:=F'.ex
  rw[<-S.hP,<-S.hw,<-S.hK,<-S.hm,<-S.hb]at F';rw[<-S.hb,<-S.hK]at hf;rw[<-S.hK]at hb;have hM:=hm _ _ _ Yn;refine HH I Ua (S.vis hx) hp X0 hf λs1 I1=>?_;have Zk:spX cl _ ψ [] H (λ_ _=>False) (λc _ H'=>c=.ref _ /\ ∃Y3,Pre μ Y3/\bh H H'/\HR _ Y3 S1 H'):=⟨μ,S0,[],q,S1,hr,.nil,Yn,λY3 H' p k Zs=>⟨rfl,_,p,k,Zs⟩⟩;refine wpAny_call (pI (F'.run _ _ s1 H _ [] [] _ _ (S.room.mono hk) I1.env0 (hb s1 [] I1.kIn (by simpa using this)) .nil Zk) λr s2 hq=>?_);cases r with
  | ok fl=>
    cases fl with
    |ret u=>obtain⟨_,_,_,_,_,_,_,z⟩:=hq;exact z.elim
    |next=>exact cp hq
    |brk=>exact cp hq
    |cont=>exact cp hq
  | error ev=>
    obtain⟨e,T,cls,H',rfl,os,hg,un,hok,t,he,hT,ne,nT,rfl,Y3,pr,kp,Zs⟩:=hq;have I2:=I1.call' os un hok hg λb z=>nomatch z
    have fS:X.A.frames=a_ (X.env::X.outer):=by rw[I.ok.frames,stk]
    obtain⟨a0,fl⟩:=flying I2 t;rw[show j3 _ _ e _ a0 _=j3 _ (X.env::X.outer) e _ a0 _ by rw[<-stk]]at fl;refine wpAny_looks_onW fS fr fl λh3 VU Rm=>wpAny_landsW VU λh4 WN V1=>?_;have WU:=Rm.trans V1;have Ux:=vh I2 WN.1 WU;have I4:=I1.call' (s':={ s2 with heap:=h4 }) os (Ux.un un he hT) (Ux.hok hok I2.stkFree ne nT) hg λb z=>nomatch z
    refine wpAny_handleBy_cons (codeAny_handlers_test (jC (Inv.mkd I4) (S.gl hW) (by rw[S.hm];exact hw) ?_ (bR Rq).1)) (by intro z;cases z);obtain⟨ob,S9,VR⟩:=WN.there;have kin:=by have:=I4.kIn;rw[S.hK]at this;exact this
    refine(PySem.W.exm_one kin (VR▸(oQ S9).andThen .now) hM).here ?_;refine codeAny_handlers_suite_as (lands_againW WN λh6 UT RQ=>?_);have VW:=WU.trans RQ;have TH:=vh I2 UT.1 VW;obtain⟨oe,e1,e2⟩:=UT.there;have I6:=I1.call' (s':={ s2 with heap:=h6 }) os (Un.frz (TH.un un he hT) he ne) (HOk.frz (TH.hok hok I2.stkFree ne nT) ne e1) hg λb z=>nomatch z
    obtain⟨U6,SW⟩:=HR.frz Zs ne;have ndN:X.N.Nodup:=by rw[S.hN];exact S.nd
    have Wk:X.N[j]?=a_ n:=by rw[S.hN];exact hj
    have U2:X.N[l]?=a_ y:=by rw[S.hN];exact hl
    have Wh:=S.loc n hn;refine nL I6 ndN Wk (.inl Wh) (v:= .ref e) rfl (λs7 I7=>?_) (.inr Wh);have Vu:j<G.length:=by rw[I.len];exact(ag.mp Wk).1
    have ps:=qC (zc (X:=Cx.mkd X (.ref e)) (pos:=p7) (pos':=p5) ndN U2 (S.lo hy).1 (lJ (pos:=p6) Wk (.inl Wh) (bR To).1 (bR To).2) rfl (S.lo hy).2);refine bV (ps _ s7 _ _ { nx:=λY1 Yf=>Y1=(G.set j _).set l _/\Yf=upd H' e _,rt:=λ_ _=>False } (Inv.mkd I7) ⟨_,aN Vu,rfl,rfl⟩) (λf s8 hs=>?_) λ_ _ z=>z.elim;cases f with
    |ret u=>obtain⟨_,_,_,_,_,z⟩:=hs;exact z.elim
    |brk=>obtain⟨_,_,_,z⟩:=hs;exact z.elim
    |cont=>obtain⟨_,_,_,z⟩:=hs;exact z.elim
    | next=>
      obtain⟨Y1,Yf,I8,rfl,rfl⟩:=hs;have QW:=Inv.unmkd I8 I.ok.hd;refine BZ QW ndN Wk Wh λs9 I9=>⟨_,_,I9,?_⟩;refine kk e oe _ _ _ pr (kp.trans U6) SW ⟨by simp[er.len],λm u hu=>?_⟩ cx e2;have SD:=er.mono (kp.trans U6) pr;have UI:l<G.length:=by rw[I.len];exact(ag.mp U2).1
      by_cases Zd:m=l
      .subst Zd
       rw[aN (by rw[er.len];exact UI)]at hu;cases hu;refine⟨.ref e,?_,by simp[RU]⟩;rw[aD Vg,aN (by simpa using UI)]
      .rw[aD (cY Zd)]at hu
       have Wi:m≠j:=λz=>by rw[z,X8]at hu;cases hu
       obtain⟨v,h1,h2⟩:=SD.get m u hu;refine⟨v,?_,h2⟩;rw[aD (cY Wi),aD (cY Zd),aD (cY Wi)];exact h1
end
def cn:List Str := ["TooMany","NotLevel","NoLift","NotPlain","NoName","BadNote","NoTwist"]
structure tU(K:ai)(mg:Str->Option f_)(cl:Nat->e_)(w:e_)(rz:List Nat):Prop where
 c:∀j t,cn[j]?=a_ t->mg t=a_ (.ref (cl j))
 W:mg "WalkError"=a_ (.ref w)
 V:mg "ValueError"=b_
 n :∀ j,j<7->b9 K (.type "NoneType") (.ref (cl j))=a_ d_
 nV:b9 K (.type "NoneType") (.type "ValueError")=a_ d_
 lt:∀q∈rz,q<7
 x:∀q∈rz,DT K (cl q)=c_
 m:∀q∈rz,vB K (.ref (cl q)) (.ref w)=a_ c_
 k:∀q∈rz,∀j,j<7->b9 K (.ref (cl q)) (.ref (cl j))=a_ (decide (q=j))
 kV :∀ q∈rz,b9 K (.ref (cl q)) (.type "ValueError")=a_ c_
def mIs(u:U)(b:Bool):ME:=λY S=>open Classical in if Y[1]?=a_ (a_ u) then a_ (.bl b,S) else b_
def PP(L a b c:Nat):Pos:=⟨L+a,b,L+a,c⟩
def isi(L a b:Nat)(t:Str)(n:Nat):Expr := .Call (.Name "isinstance" (PP L a b (b+10))) [.Name "error" (PP L a (b+11) (b+16)),.Name t (PP L a (b+18) (b+18+n))] [] (PP L a b (b+19+n))
def yQ(K:KX)(u:U)(t:f_):Prop:=(u=.non/\t=.type "NoneType") \/ ∃ e oe C,u=.obj e/\t=.ref C/\(e,oe)∈K.cds/\oe.cls=.ref C/\DT K.K C=c_
section
variable {M:Mo}{X:Cx}{k:Nat}{N:List Str}{ns:List (Str×NameKind)}
variable{b:Bool}
theorem Iq{pins:List (e_×Obj)}{G:St}{H:Hp}{s:g_}{E:f_->g_->Prop}{u:U}{t c:f_}{v:V}{x:f_}{Q:VK}{μ:List e_}{S:Sto}(I:Inv X pins G H s)(hK:X.K=M.K.K)(hr:HR M.K μ S H)(ok:yQ M.K u t)(ru:RU H μ u v)(rv:RelV v x)(e:b9 M.K t c=a_ b)(q:Q (.bl b) H):
  aR (model X.prog X.w) X.A (call (.builtin "isinstance") [x,c]) (EP X pins G Q) E s:=by
 have kin:M.K.K.In s.heap:=by rw[<-hK];exact I.kIn
 rcases ok with⟨rfl,rfl⟩|⟨ea,oe,C,rfl,rfl,hm,hc,hB⟩
 .have hv:=by simpa only [RU]using ru
  subst hv;obtain rfl:x=ql:=rv;exact cq EF kin trivial e (by grind) λtk=>⟨.bl b,H,I.tok tk,rfl,q⟩
 .have hv:=by simpa only [RU]using ru
  subst hv;obtain rfl:x=eA ea:=rv;exact cq (BU hB) kin ⟨oe,(I.hok ea _ (hr.ext.cds _ hm)).1,hc⟩ e (by grind) λtk=>⟨.bl b,H,I.tok tk,rfl,q⟩
theorem Hj{u:U}{t c:f_}{L a bb n:Nat}{y:Str}(S:Sc M X k N ns)(ok:yQ M.K u t)(h1:N[1]?=a_ ("error":Str))(hv:i7 ns "error"=c_)(hg:dc ns "isinstance"=c_)(hm:M.mg "isinstance"=b_)(hy:dc ns y=c_)(hp:be y=c_)
  (hc:M.mg y=a_ c\/(M.mg y=b_/\bootBuiltins y=a_ c/\y≠"__name__")) (e:b9 M.K t c=a_ b):PE X (isi L a bb y n) (tM M.K (mIs u b)):=by
 rintro pins s G H Q I ⟨μ,S0,Y,w,S',hr,er,q,aft⟩;unfold mIs at q
 split at q
 rotate_left
 .cases q
 rename_i Y8
 cases q;obtain⟨v,X0,ru⟩:=er.get 1 _ Y8;have Ro:X.N[1]?=a_ ("error":Str):=by rw [S.hN];omega
 refine di (lK I (S.gl hg) (by rw[S.hm];omega) boot_isinstance ?_ (by decide) (by decide));refine callWith_builtin1 ?_ rfl rfl;refine fi (thn (lJ Ro (S.vis hv) (by decide +kernel) (by decide +kernel) _ s G H (λv' H1=>v'=v/\H1=H) I ⟨_,X0,rfl,rfl⟩) λx s1 ⟨v',H1,I1,r1,e1,e2⟩=>?_);subst e1;subst e2;have fin:aR _ _ _ _ X.xe s1:=Iq I1 S.hK hr ok ru r1 e (aft μ _ H1 (Pre.refl _) (bh.refl _) hr hG);rcases hc with hc | ⟨hc,hb,hn⟩
 .exact fi (jC I1 (S.gl hy) (by rw[S.hm];omega) (iM fin) (bR hp).1)
 .exact fi (lK I1 (S.gl hy) (by rw[S.hm];omega) hb (iM fin) hn (bR hp).1)
end
def kJ(L:Nat)(z:Stmt):List Stmt:= [
 .Assign [.Name "error" (PP L 1 4 9)] (.Constant .none 0 (PP L 1 12 16)) (PP L 1 4 16),
 .Try [.Expr (.Call (.Name "call" (PP L 3 8 12)) [] [] (PP L 3 8 14)) (PP L 3 8 14)] [.ExceptHandler (a_ (.Name "WalkError" (PP L 4 11 20))) (a_ "e") [.Assign [.Name "error" (PP L 5 8 13)] (.Name "e" (PP L 5 16 17)) (PP L 5 8 17)] ⟨L+4,4,L+5,17⟩] [] [] ⟨L+2,4,L+5,17⟩,
 .Assign [.Name "kinds" (PP L 6 4 9)] (.List [isi L 6 13 "TooMany" 7,isi L 6 41 "NotLevel" 8,isi L 6 70 "NoLift" 6] (PP L 6 12 96)) (PP L 6 4 96),
 .Assign [.Name "kinds" (PP L 7 4 9)] (.BinOp (.Name "kinds" (PP L 7 12 17)) .Add (.List [isi L 7 21 "NotPlain" 8,isi L 7 50 "NoName" 6,isi L 7 77 "BadNote" 7] (PP L 7 20 104)) (PP L 7 12 104)) (PP L 7 4 104),
 .Expr (.Call (.Attribute (.Name "kinds" (PP L 8 4 9)) "append" (PP L 8 4 16)) [isi L 8 17 "NoTwist" 7] [] (PP L 8 4 44)) (PP L 8 4 44),
 .If (.UnaryOp .Not (isi L 9 11 "ValueError" 10) (PP L 9 7 40)) [.Return (a_ (.Constant .none 0 (PP L 10 15 19))) (PP L 10 8 19)] [] ⟨L+9,4,L+10,19⟩,
 z]
def mzR:MS:=bO (bu (iR1 (aa (mC (.int 7)) af)) (cOf (m2 oIx (ae 3) (ae 4))) (ae 4))
def tlR(u:U)(b:Nat->Bool):MS:=
 aW (bJ 3 (b0 (aa (mIs u (b 0)) (aa (mIs u (b 1)) (aa (mIs u (b 2)) af)))))
 (aW (bJ 3 (m2 cK (ae 3) (b0 (aa (mIs u (b 3)) (aa (mIs u (b 4)) (aa (mIs u (b 5)) af))))))
 (aW (dm (mML cW (ae 3) (aa (mIs u (b 6)) af)))
 (aW (sIf (dk (cOf (mIs u (b 7)))) (bO (mC .non)) bE) mzR)))
def rF(ns:NS):Bool:=lV ns "error"&&lV ns "kinds"&&i7 ns "call"&&ns.lookup ("e":Str)==a_ .local&&dc ns "isinstance"&&dc ns "ValueError"&&dc ns "WalkError"&&cn.all (dc ns)
def oI:List Str := ["call","error","e","kinds"]
theorem vj{ns:NS}{x:Str}(h:lV ns x=c_):i7 ns x=c_:=by
 unfold lV at h;unfold i7
 split at h<;>rename_i e<;>first | (cases h;done) |rw[e]
section
variable {M:Mo}{X:Cx}{k:Nat}{ns:List (Str×NameKind)}
theorem zw{u:U}{t:f_}{b:Nat->Bool}{c:Nat->f_}{L:Nat}{z:Stmt}{cl:Nat->e_}{w:e_}{rz:List Nat}(S:Sc M X k oI ns)(Z7:rF ns=c_)(B :∀ x∈iI,M.mg x=b_)(Rk:tU M.K.K M.mg cl w rz)(ok:yQ M.K u t)(hb :∀ j,j<7->b9 M.K t (.ref (cl j))=a_ (b j))(hV:b9 M.K t (.type "ValueError")=a_ (b 7))
  (hz:PS X z (tMS M.K mzR)):PSs X ((kJ L z).drop 2) (tMS M.K (tlR u b)):=by
 unfold rF at Z7;simp at Z7;obtain⟨⟨⟨⟨⟨⟨⟨h1,h2⟩,h3⟩,h4⟩,h5⟩,h6⟩,h7⟩,h8⟩:=Z7;have Ue:M.mg "isinstance"=b_:=B _ (by decide +kernel);have is:∀(j a bb n:Nat) (y:Str),cn[j]?=a_ y->PE X (isi L a bb y n) _:=λj a bb n y hj=>by
  have ZN:=(ag.mp hj).1;have hm:=bo hj;have hp:=by
   have:∀y∈cn,be y=c_:=by decide +kernel
   exact this y hm
  exact Hj S ok rfl (vj h1) h5 Ue (h8 y hm) hp (.inl (Rk.c j y hj)) (hb j ZN)
 have kv:∀pos,PE X (.Name _ pos) _:=λpos=>t7 S 3 rfl (vj h2) (by decide +kernel) (by decide +kernel);refine tD (xl S 3 rfl h2 (BW (jo (is 0 _ _ _ _ rfl) (jo (is 1 _ _ _ _ rfl) (jo (is 2 _ _ _ _ rfl) rP))))) ?_;refine tD (xl S 3 rfl h2 (CS S (kv _) (BW (jo (is 3 _ _ _ _ rfl) (jo (is 4 _ _ _ _ rfl) (jo (is 5 _ _ _ _ rfl) rP)))))) ?_;refine tD (Di (wB S (kv _) (jo (is 6 _ _ _ _ rfl) rP) rfl rfl (by show((L+8)==(L+8))=c_;simp) rfl rfl)) ?_;refine tD (HS (G2 (G8 (Hj S ok rfl (vj h1) h5 Ue h6 (by decide +kernel) (.inr ⟨Rk.V,by decide +kernel,by decide +kernel⟩) hV))) (BH (Ab Du)) DL) (BH hz)
end
variable{u:U}{S:Sto}
theorem y6{b:Bool}{Y:Rho}(h:Y[1]?=a_ (a_ u)):mIs u b Y S=a_ (.bl b,S):=by
 unfold mIs;rw[if_pos h]
variable{x y:Option U}{b:Nat->Bool}
theorem zz:tlR u b [x,a_ u,y,b_] S =
  (aW (sIf (dk (cOf (mIs u (b 7)))) (bO (mC .non)) bE) mzR) [x,a_ u,y,a_ (.ref (S.length+2))] (S++i9 b):=by
 have i0:∀(v:Option U) (c:Bool) (S:Sto),mIs u c [x,a_ u,y,v] S=a_ _:=λv c S=>y6 rfl;have e1:bJ 3 (b0 (aa (mIs u (b 0)) (aa (mIs u (b 1)) (aa (mIs u (b 2)) af)))) [x,a_ u,y,b_] S=a_ (.nx,[x,a_ u,y,a_ (.ref S.length)],S++[kL b [0,1,2]]):=by
  simp[bJ,b0,aa,i0];rfl
 have g1:(S++[kL b [0,1,2],kL b [3,4,5]])[S.length]?=a_ (kL b [0,1,2]):=by simp
 have g2:(S++[kL b [0,1,2],kL b [3,4,5]])[S.length+1]?=a_ (kL b [3,4,5]):=by simp
 have e2:bJ 3 (m2 cK (ae 3) (b0 (aa (mIs u (b 3)) (aa (mIs u (b 4)) (aa (mIs u (b 5)) af))))) [x,a_ u,y,a_ (.ref S.length)] (S++[kL b [0,1,2]])=a_ (.nx,[x,a_ u,y,a_ (.ref (S.length+2))],S++[kL b [0,1,2],kL b [3,4,5],kL b [0,1,2,3,4,5]]):=by
  have a0:b0 (aa (mIs u (b 3)) (aa (mIs u (b 4)) (aa (mIs u (b 5)) af))) [x,a_ u,y,a_ (.ref S.length)] (S++[kL b [0,1,2]])=a_ (.ref (S.length+1),S++[kL b [0,1,2],kL b [3,4,5]]):=by
   simp only[b0,aa,af,i0,ak];rw[if_pos (by simp[big])];simp[kL]
  have v0:∀S',ae 3 [x,a_ u,y,a_ (.ref S.length)] S'=a_ _:=λS'=>rfl;have a1:cK (.ref S.length) (.ref (S.length+1)) (S++[kL b [0,1,2],kL b [3,4,5]])=a_ (.ref (S.length+2),S++[kL b [0,1,2],kL b [3,4,5],kL b [0,1,2,3,4,5]]):=by
   unfold cK;simp only[g1,g2];simp only[kL];rw[if_pos (by simp[big])];simp
  simp only[bJ,m2,v0,ak,a0,a1];rfl
 have g3:(S++[kL b [0,1,2],kL b [3,4,5],kL b [0,1,2,3,4,5]])[S.length+2]?=a_ (kL b [0,1,2,3,4,5]):=by simp
 have e3:dm (mML cW (ae 3) (aa (mIs u (b 6)) af)) [x,a_ u,y,a_ (.ref (S.length+2))] (S++[kL b [0,1,2],kL b [3,4,5],kL b [0,1,2,3,4,5]])=a_ (.nx,[x,a_ u,y,a_ (.ref (S.length+2))],S++i9 b):=by
  have v0:∀S',ae 3 [x,a_ u,y,a_ (.ref (S.length+2))] S'=a_ _:=λS'=>rfl;have gl:getL (S++[kL b [0,1,2],kL b [3,4,5],kL b [0,1,2,3,4,5]]) (S.length+2)=a_ ([0,1,2,3,4,5].map λi=>.bl (b i)):=by
   unfold getL;rw[g3];rfl
  have a1:cW (S.length+2) [.bl (b 6)] (S++[kL b [0,1,2],kL b [3,4,5],kL b [0,1,2,3,4,5]])=a_ (.non,S++i9 b):=by
   unfold cW;simp only[g3];simp only[kL];rw[EB _ _ (by omega)];have:S.length+2-S.length=2:=by omega
   rw[this];rfl
  simp only[dm,mML,v0,ak,gl,ay,aa,af,i0,a1]
 unfold tlR;rw[show ∀(a b:MS) (Y:Rho) (S:Sto),aW a b Y S=(match a Y S with |some (.nx,Y2,S1)=>b _ S1 |r=>r) from λ_ _ _ _=>rfl,e1];simp;rw[show ∀(a b:MS) (Y:Rho) (S:Sto),aW a b Y S=(match a Y S with |some (.nx,Y2,S1)=>b _ S1 |r=>r) from λ_ _ _ _=>rfl,e2];simp;rw[show ∀(a b:MS) (Y:Rho) (S:Sto),aW a b Y S=(match a Y S with |some (.nx,Y2,S1)=>b _ S1 |r=>r) from λ_ _ _ _=>rfl,e3]
theorem GI(hb:b 7=d_):tlR u b [x,a_ u,y,b_] S=a_ (.rt .non,[x,a_ u,y,a_ (.ref (S.length+2))],S++i9 b):=by
 rw[zz];simp[aW,sIf,dk,cOf,y6 _,hb];rfl
theorem Ox:okR 7:=by unfold okR;omega
theorem FP{q:Nat}(hq:q<7):∃Y4,tlR u (bQ q) [x,a_ u,y,b_] S=a_ (.rt (.ref (S.length+3)),Y4,S++(i9 (bQ q)++[.lst [.int q]])):=by
 rw[zz];have h7:bQ q 7=c_:=by unfold bQ;simp
 simp only[aW,sIf,dk,cOf,y6 (show([x,a_ u,y,a_ _]:Rho)[1]?=a_ _ from rfl),ak,h7,Bool.not_true,Bool.false_eq_true,if_false,bE];refine⟨[x,a_ u,y,a_ (.ref (S.length+2))],?_⟩;unfold mzR bO bu;have hi:iR1 (aa (mC (.int 7)) af) [x,a_ u,y,a_ (.ref (S.length+2))] (S++i9 (bQ q))=a_ (.imm (aU 0 7),S++i9 (bQ q)):=by
  simp only[iR1,aa,mC,af,ak];rw[if_pos Ox];rfl
 have g3:(S++i9 (bQ q))[S.length+2]?=a_ (kL (bQ q) [0,1,2,3,4,5,6]):=by simp[i9]
 have gi:∀i:Nat,i<7->cOf (m2 oIx (ae 3) (ae 4)) [x,a_ u,y,a_ (.ref (S.length+2)),a_ (.int i)] (S++i9 (bQ q))=a_ (bQ q i,S++i9 (bQ q)):=λi hi=>by
  have v3:∀S',ae 3 [x,a_ u,y,a_ (.ref (S.length+2)),a_ (.int i)] S'=a_ _:=λS'=>rfl;have v4:∀S',ae 4 [x,a_ u,y,a_ (.ref (S.length+2)),a_ (.int i)] S'=a_ _:=λS'=>rfl;have d0:iJ (S++i9 (bQ q)) (.ref (S.length+2))=b_:=by
   simp only[iJ,g3,kL]
  have s0:dJ (S++i9 (bQ q)) (.ref (S.length+2))=a_ ([0,1,2,3,4,5,6].map λi=>.bl (bQ q i)):=by
   simp only[dJ,getL,g3,kL]
  have a0:_L.atI ([0,1,2,3,4,5,6].map λi=>U.bl (bQ q i)) i=a_ (.bl (bQ q i)):=by
   have:i=0\/i=1\/i=2\/i=3\/i=4\/i=5\/i=6:=by omega
   rcases this with rfl|rfl|rfl|rfl|rfl|rfl|rfl<;>rfl
  simp only[cOf,m2,v3,v4,ak,oIx,d0,s0,ay,a0,aT]
 have v4:∀(i:Nat) S',ae 4 [x,a_ u,y,a_ (.ref (S.length+2)),a_ (.int i)] S'=a_ _:=λi S'=>rfl;have key:∀(is:List Nat) (acc:List U),(∀i∈is,i<7)->dO (cOf (m2 oIx (ae 3) (ae 4))) (ae 4) [x,a_ u,y,a_ (.ref (S.length+2))] (is.map λ(i:Nat)=>.int i) acc (S++i9 (bQ q))=a_ (acc++(is.filter (bQ q)).map (λi=>.int i),S++i9 (bQ q)):=by
  intro is
  induction is with
  |nil=>intro acc _;simp[dO]
  | cons i is ih=>
    intro acc h;have hi:=h i bq;have Tw:=λacc=>ih acc λj hj=>h j (az _ hj);rw[bY];unfold dO;rw[show([x,a_ u,y,a_ _]:Rho)++[a_ _]=[x,a_ u,y,a_ _,a_ _] from rfl,gi i hi];simp only[ak];cases hb:bQ q i with
    | true=>
      rw[v4];simp only[ak];rw[Tw];simp[hb]
    | false=>
      rw[Tw];simp[hb]
 have hr:aU 0 7=([0,1,2,3,4,5,6]).map λ(i:Nat)=>.int i:=rfl;have hf:([0,1,2,3,4,5,6]).filter (bQ q)=[q]:=by
  have:q=0\/q=1\/q=2\/q=3\/q=4\/q=5\/q=6:=by omega
  rcases this with rfl|rfl|rfl|rfl|rfl|rfl|rfl<;>decide
 have hc:rA (cOf (m2 oIx (ae 3) (ae 4))) (ae 4) [x,a_ u,y,a_ (.ref (S.length+2))] (.imm (aU 0 7)) (S++i9 (bQ q))=a_ ([.int q],S++i9 (bQ q)):=by
  unfold rA;simp only[hr,key _ _ (show ∀i∈([0,1,2,3,4,5,6]),i<7 by decide),hf];rfl
 simp only[hi,ak,hc];simp[i9];rfl
section
variable {M:Mo}{cl:Nat->e_}{T:Tb}{k fu L:Nat}{h:Heap}{x:Str}{st z:Stmt}{w:e_}{rz:List Nat}
theorem Def.fnRef(O :∀ caps capv cds base,f9 M.mg base->TOk (M.to caps capv cds base) T k)(h1:T.mkr=d_)(X:M.K.K.In h)(Gn:h.Ns mainGlobals M.mg)(D:Def M.K x st)(S:aZ oI ["call"] (ar st))(hb:Bd x st ["call"])
  (Z7:rF (ar st).names=c_) (ZS:bG st=kJ L z) (hz:cS T fu oI (ar st).names z=a_ mzR) (Rk:tU M.K.K M.mg cl w rz):FnR M cl x k 1 (nk rz):=by
 obtain⟨f,fd,a,F⟩:=D.ex;refine⟨f,fd,bK X Gn a,F.2,F.binds hb,λcaps capv cds base g j φ ψ Zy Wd lam XH=>?_⟩;have len:∀vs H Q E,spM (M.K.to caps capv cds) (refF (nk rz) g φ ψ) vs H Q E->vs.length=1:=λvs H Q E hh=>by
  obtain⟨μ,S',us,u,ZO,hr,rs,e,_⟩:=hh;unfold refF at e
  split at e
  .rw[<-rs.len];rfl
  .cases e
 have lx:wJ (M.to caps capv cds base) cl g j [] λus S=>(ψ us S).filter λr=>decide (r.1∈rz):=XH.imp λus S q hq=>(kj.mp hq).1;have XI:=Z7;unfold rF at XI;simp only[ah]at XI;obtain⟨⟨⟨⟨⟨⟨⟨n1,n2⟩,n3⟩,n4⟩,n5⟩,n6⟩,n7⟩,n8⟩:=XI;refine Fun.ok (K:=M.K.K) F S (λvs H Q E hh=>len vs H Q E hh) λcdv A outer s H vs Q E hr hh=>?_;have S0:∀ZE,Sc (M.to caps capv ZE base) (qi CX0 M.P M.w M.K M.mg base oI x (ar st) f cdv A outer s H E).nox j oI (ar st).names:=λZE=>Sc.def (M:=M.to caps capv ZE base) S hr λc q z=>nomatch z
 have TN:∀ZE,PS (qi CX0 M.P M.w M.K M.mg base oI x (ar st) f cdv A outer s H E).nox z (tMS (M.K.to caps capv ZE) mzR):=λZE=>(snd fu (M.to caps capv ZE base) T j (.of ((O caps capv ZE base Zy).mono Wd) h1)).s _ _ _ _ hz _ (S0 ZE);have B:∀y∈iI,M.mg y=b_:=λy hy=>(O caps capv cds base Zy).B y hy;have hf :∀ j',j'<7->b9 M.K.K (.type "NoneType") (.ref (cl j'))=a_ ((fun _=>d_) j'):=fun j' hj=>Rk.n j' hj;have So:=zw (M:=M.to caps capv cds base) (L:=L) (z:=z) (c:=λ_=>.none) (S0 cds) Z7 B Rk (u:= .non) (.inl ⟨rfl,rfl⟩) hf Rk.nV (TN cds);have Tj:∀e oe q,q∈rz->oe.cls=.ref (cl q)->PSs (qi CX0 M.P M.w M.K M.mg base oI x (ar st) f cdv A outer s H E).nox ((kJ L z).drop 2) (tMS (M.K.to caps capv (cds++[(e,oe)])) (tlR (.obj e) (bQ q))):=λe oe q hq hc=>by
  refine zw (M:=M.to caps capv (cds++[(e,oe)]) base) (L:=L) (z:=z) (c:=λ_=>.none) (S0 _) Z7 B Rk (.inr ⟨e,oe,cl q,rfl,rfl,aM _ bq,hc,Rk.x q hq⟩) (λj' hj=>?_) ?_ (TN _)
  .rw[show bQ q j'=decide (q=j') by unfold bQ;rw[show decide (j'=7)=d_ from decide_eq_false (by omega)];simp]
   exact Rk.k q hq j' hj
  .rw[show bQ q 7=c_ by unfold bQ;simp]
   exact Rk.kV q hq
 have pT:=IU (M:=M.to caps capv cds base) (cl:=cl) (S0 cds) rfl rfl lam lx (ao j) (i:=0) (x:="call") (j:=2) (n:="e") (l:=1) (y:="error") (W:="WalkError") (w:=w) (p1:=PP L 3 8 12) (p2:=PP L 3 8 14) (p3:=PP L 3 8 14) (p4:=PP L 4 11 20) (p5:=PP L 5 8 13) (p6:=PP L 5 16 17) (p7:=PP L 5 8 17) (p8:=⟨L+4,4,L+5,17⟩) (p9:=⟨L+2,4,L+5,17⟩)
  rfl n3 (by decide +kernel) rfl (eq_of_beq n4) (by decide +kernel) rfl n1 (by decide) n7 (by decide +kernel) Rk.W λS q S1 hq=>by
   obtain⟨_,h2⟩:=kj.mp hq;exact Rk.m q (of_decide_eq_true h2)
 have pS:=xl (M:=M.to caps capv cds base) (p1:=PP L 1 4 9) (pos:=PP L 1 4 16) (S0 cds) 1 rfl n1 (Du (M:=M.to caps capv cds base) (j:=0) (pos:=PP L 1 12 16)) rfl
 let tT:TS:=λD G H=>tMS (M.K.to caps capv cds) (tlR .non λ_=>d_) D G H \/ ∃e oe q,q∈rz/\oe.cls=.ref (cl q)/\tMS (M.K.to caps capv (cds++[(e,oe)])) (tlR (.obj e) (bQ q)) D G H
 have SG:PSs (qi CX0 M.P M.w M.K M.mg base oI x (ar st) f cdv A outer s H E).nox ((kJ L z).drop 2) tT:=λpins s G H D I q=>by
  rcases q with q|⟨e,oe,q',hq,hc,q⟩
  .exact So pins s G H D I q
  .exact Tj e oe q' hq hc pins s G H D I q
 rw[ZS];refine⟨_,lF pS (lF pT SG),?_⟩;obtain⟨μ,S1,us,u,S2,hR,rs,e,ka⟩:=hh;unfold refF at e
 split at e
 rotate_left
 .cases e
 rename_i a'
 split at e
 rotate_left
 .cases e
 rename_i ha
 subst ha;have er:=mj (N:=oI) rs;refine⟨μ,S1,_,_,hR,er,rfl,λY0 Y6 H1 p1 k1 ZY ZP=>?_⟩;refine⟨Y0,S1,_,ZY,ZP,rfl,rfl,?_⟩;unfold nk at e
 split at e
 .rename_i r Yh
  cases e;refine .inl ⟨r.1,r.2,Yh,λY5 Y7 H2 p2 k2 ZU YZ=>.inl ⟨Y5,r.2,_,_,ZU,YZ,GI rfl,?_⟩⟩;exact ka.mono (p1.trans p2) (k1.trans k2)
 .split at e
  rotate_left
  .cases e
  rename_i r Yn
  split at e
  rotate_left
  .cases e
  rename_i hq
  cases e;refine .inr ⟨r.1,r.2,kj.mpr ⟨Yn,decide_eq_true hq⟩,λe oe Y5 Y7 H2 p2 k2 ZU YZ R3 Ye=>.inr ⟨e,oe,r.1,hq,Ye,?_⟩⟩;obtain⟨Y4,hv⟩:=FP (x:=a_ (.obj a')) (y:=b_) (S:=r.2) (u:= .obj e) (Rk.lt _ hq);refine⟨Y5,r.2,_,_,⟨ZU.len,ZU.inj,ZU.cell,ZU.ext.cap,λc hc=>?_,ZU.ext.tab⟩,YZ,hv,λG' v3 H3 p3 k3 ZM RK=>?_⟩
  .rcases fE.mp hc with z|z
   .exact ZU.ext.cds c z
   .have e':c=(e,oe):=by simpa using z
    rw[e'];exact R3
  .exact ka G' v3 H3 ((p1.trans p2).trans p3) ((k1.trans k2).trans k3) ⟨ZM.len,ZM.inj,ZM.cell,ZM.ext.cap,λc hc=>ZM.ext.cds c (c7 _ hc),ZM.ext.tab⟩ RK
end
end _G
namespace _G
open PySem PySem.Spec _L
section
variable {P:Program}{w:World}{K:ai}{mg:Str->Option f_}{tabs:List (e_×Str)}{T:Tb}{k j:Nat}{h:Heap}{x:Str}{st z:Stmt}{N ps:List Str}{r:MX}{fu n L:Nat}{wA:e_}{rz:List Nat}
theorem Ch.raise(c:Ch P w K mg tabs T k)(Cl:List (Str×Nat))(h1:T.mkr=d_)(hC:∀y i,Cl.lookup y=a_ i->mg y=a_ (.ref (T.Z.cl i))/\exB K (T.Z.cl i)=c_)(X:K.In h)(Gn:h.Ns mainGlobals mg)(D:Def K x st)(S:aZ N ps (ar st))(hb:Bd x st ps)
  (hc:(xc fu n).b T ⟨T.Z.R,Cl⟩ N (ar st).names (bG st)=a_ r):Ch P w K mg tabs ⟨T.D,T.C,T.L,T.H,T.mkr,⟨(x,qj ps.length N.length r)::T.Z.R,T.Z.F,T.Z.cl,T.Z.nm⟩⟩ (k+1):=
 ⟨λa b d e f=>by
  have O:=c.o a b d e f;have F:=D.fnX ⟨.of O h1,O.Z,hC⟩ rfl X Gn S hb hc;have Om:=O.mono (fk k);refine⟨Om.D,Om.C,Om.B,Om.L,Om.mkr,λy r' hy=>?_⟩;rw[bD]at hy;cases q:y==x with
  |true=>rw[q]at hy;cases hy;rw[eq_of_beq q];exact⟨_,ps,ao _,F⟩
  | false=>rw[q]at hy;exact Om.Z y r' hy,λa b d e f=>qx (c.h a b d e f) (fk k),λa b d e f=>uy (c.r a b d e f) (fk k)⟩
theorem Ch.refd(c:Ch P w K mg tabs T k)(h1:T.mkr=d_)(X:K.In h)(Gn:h.Ns mainGlobals mg)(D:Def K x st)(S:aZ oI ["call"] (ar st))(hb:Bd x st ["call"])(Z7:rF (ar st).names=c_)(ZS:bG st=kJ L z)(hz:cS T fu oI (ar st).names z=a_ mzR)(Rk:tU K mg T.Z.cl wA rz) :
  Ch P w K mg tabs ⟨T.D,T.C,T.L,T.H,T.mkr,⟨T.Z.R,(x,nk rz)::T.Z.F,T.Z.cl,T.Z.nm⟩⟩ k:=
 ⟨λa b d e f=>let O:=c.o a b d e f;⟨O.D,O.C,O.B,O.L,O.mkr,O.Z⟩,c.h,λa b d e f y Ra hy=>by
  rw[bD]at hy;cases q:y==x with
  |true=>rw[q]at hy;cases hy;rw[eq_of_beq q];exact⟨k,1,by decide,ao _,D.fnRef (M:=⟨P,w,⟨K,a,b,d,tabs⟩,mg,e,b_⟩) c.o h1 X Gn S hb Z7 ZS hz Rk⟩
  | false=>rw[q]at hy;exact c.r a b d e f y Ra hy⟩
end
def clR(rz:List Nat):List (Str×Nat):=rz.map fun q=>(cn.getD q (Str.ofString ""),q)
def Kh(K:ai)(cs:List e_)(w:e_)(rz:List Nat):Bool:=
 aJ K mainGlobals "ValueError" == a_ b_&&(av 7).all (fun j=>b9 K (.type "NoneType") (.ref (cs.getD j 0))==a_ d_)&&b9 K (.type "NoneType") (.type "ValueError")==a_ d_ &&
 rz.all λq=>decide (q<7)&&DT K (cs.getD q 0)&&vB K (.ref (cs.getD q 0)) (.ref w)==a_ c_&&(av 7).all (λj=>b9 K (.ref (cs.getD q 0)) (.ref (cs.getD j 0))==a_ (decide (q=j))) &&
  b9 K (.ref (cs.getD q 0)) (.type "ValueError")==a_ c_&&exB K (cs.getD q 0)
section
variable {K:ai}{h:Heap}{mg:Str->Option f_}{c0 c1 c2 c3 c4 c5 c6 w:e_}{rz:List Nat}
theorem Kr(X:K.In h)(Gn:h.Ns mainGlobals mg)(n0:aJ K mainGlobals "TooMany"=a_ (a_ (.ref c0)))(n1:aJ K mainGlobals "NotLevel"=a_ (a_ (.ref c1)))(n2:aJ K mainGlobals "NoLift"=a_ (a_ (.ref c2)))(n3:aJ K mainGlobals "NotPlain"=a_ (a_ (.ref c3)))
  (n4:aJ K mainGlobals "NoName"=a_ (a_ (.ref c4))) (n5:aJ K mainGlobals "BadNote"=a_ (a_ (.ref c5))) (n6:aJ K mainGlobals "NoTwist"=a_ (a_ (.ref c6))) (nw:aJ K mainGlobals "WalkError"=a_ (a_ (.ref w)))
  (hb:Kh K [c0,c1,c2,c3,c4,c5,c6] w rz=c_):tU K mg (λj=>[c0,c1,c2,c3,c4,c5,c6].getD j 0) w rz /\ ∀y i,(clR rz).lookup y=a_ i->mg y=a_ (.ref ([c0,c1,c2,c3,c4,c5,c6].getD i 0))/\exB K ([c0,c1,c2,c3,c4,c5,c6].getD i 0)=c_:=by
 unfold Kh at hb;simp at hb;obtain⟨⟨⟨b1,b2⟩,b3⟩,b4⟩:=hb;have hc:∀j t,cn[j]?=a_ t->mg t=a_ (.ref ([c0,c1,c2,c3,c4,c5,c6].getD j 0)):=λj t hj=>by
  have hl:j<7:=(ag.mp hj).1;have:j=0\/j=1\/j=2\/j=3\/j=4\/j=5\/j=6:=by omega
  rcases this with rfl|rfl|rfl|rfl|rfl|rfl|rfl<;>cases hj
  .exact bK X Gn n0
  .exact bK X Gn n1
  .exact bK X Gn n2
  .exact bK X Gn n3
  .exact bK X Gn n4
  .exact bK X Gn n5
  .exact bK X Gn n6
 refine⟨⟨hc,bK X Gn nw,EA X Gn b1,b2,b3,λq hq=>(b4 q hq).1.1.1.1.1,λq hq=>(b4 q hq).1.1.1.1.2,λq hq=>(b4 q hq).1.1.1.2,λq hq=>(b4 q hq).1.1.2,λq hq=>(b4 q hq).1.2⟩,λy i hy=>?_⟩;have hm:=mem_of_lookup hy;obtain⟨q,hq,e⟩:=aL.mp hm;cases e;refine⟨hc i _ ?_,(b4 i hq).2⟩;have hl:=(b4 i hq).1.1.1.1.1;rw[xY,aG hl];rfl
end
end _G
namespace _G
open PySem PySem.Spec _L
open PyProof.Rows hiding St
section
variable {M:Mo}{caps:List U}{capv:List V}{cds:List (e_×Obj)}{base:Heap}{μ:List e_}{S:Sto}{H:Hp}
end
section
variable {M:Mo}{X:Cx}{k:Nat}{N:List Str}{ns:List (Str×NameKind)}{x:Str}{p1 pos:Pos}
end
section
variable {M:Mo}{cl:Nat->e_}{T:Tb}{k k0 fu L:Nat}{h:Heap}{x r:Str}{st z1 z3:Stmt}{rz:List Nat}{c P:e_}{sc:Scope}
end
def bd_(st:Stmt)(i:Nat):Stmt:=(bG st).getD i (.Pass ⟨0,0,0,0⟩)
section
variable {P:Program}{w:World}{K:ai}{mg:Str->Option f_}{tabs:List (e_×Str)}{T:Tb}{k k0 fu L:Nat}{h:Heap}{x r:Str}{st z:Stmt}{wA a0 p:e_}{rz:List Nat}
theorem Ch.refF(c:Ch P w K mg tabs T k)(h1:T.mkr=d_)(X:K.In h)(Gn:h.Ns mainGlobals mg)(D:Def K x st)(S:aZ oI ["call"] (ar st))(hb:Bd x st ["call"])(Z7:rF (ar st).names=c_)(ZS:bG st=kJ L z)(hz:cS T fu oI (ar st).names z=a_ mzR)(Rk:tU K mg T.Z.cl wA rz) :
  ∀a b d e,f9 mg e->FnR ⟨P,w,⟨K,a,b,d,tabs⟩,mg,e,b_⟩ T.Z.cl x k 1 (nk rz):=λa b d e _=>D.fnRef (M:=⟨P,w,⟨K,a,b,d,tabs⟩,mg,e,b_⟩) c.o h1 X Gn S hb Z7 ZS hz Rk
end
def wx(i:Nat)(f:e_)(ψ:RF)(a:MA):MX:=λY S=>match Y[i]? with
 |some (a_ (.obj g))=>if g=f then xFn ψ a Y S else b_
 |_=>b_
def rgL(g:e_)(φ:MF):ME:=Az 0 g φ (aa (ae 1) af)
def rgX(g:e_)(ψ:RF):MX:=wx 0 g ψ (aa (ae 1) af)
def rg1:MT:=cOf (m2 oIs (ae 2) (mC .non))
def rg5:ME:=b0 (aa (mC (.int 5)) af)
def rgM(rz:List Nat)(g:e_)(φ:MF)(ψ:RF):MS:=aW (sIf rg1 (bO (m2 oEq (kD (nk rz) [0,1] (rgL g φ) (rgX g ψ)) rg5)) bE) (bO (m2 oEq (rgL g φ) (ae 2)))
def rgF(rz:List Nat)(g:e_)(φ:MF)(ψ:RF):MF:=run 3 3 (rgM rz g φ ψ)
abbrev rgN:List Str := ["read","text","due"]
def Hz(sc:Scope)(L:Nat):Expr := .Lambda yg (.Call (.Name "read" (PP L 2 36 40)) [.Name "text" (PP L 2 41 45)] [] (PP L 2 36 46)) sc (PP L 2 28 46)
def yI(z1 z5:Expr)(r:Str)(sc:Scope)(L:Nat):List Stmt:= [.If z1 [.Return (a_ (.Compare (.Call (.Name r (PP L 2 15 27)) [Hz sc L] [] (PP L 2 15 47)) [.Eq] [z5] (PP L 2 15 54))) (PP L 2 8 54)] [] ⟨L+1,4,L+2,54⟩,
 .Return (a_ (.Compare (.Call (.Name "read" (PP L 3 11 15)) [.Name "text" (PP L 3 16 20)] [] (PP L 3 11 21)) [.Eq] [.Name "due" (PP L 3 25 28)] (PP L 3 11 28))) (PP L 3 4 28)]
section
variable {M:Mo}{X:Cx}{k:Nat}{N:List Str}{ns:List (Str×NameKind)}{e:Expr}{es:List Expr}{ZV:MA}{x y:Str}{p1 pos:Pos}
variable{cl:Nat->e_}{ps:List Str}{ψ:RF}
theorem FnX.lamX{j:Nat}{a:e_}(F:FnX M cl x j ps ψ)(ha:M.mg x=a_ (.ref a)):∃fd:FuncData,cb M.K (.ref a)=c_/\Binds M.K fd ps []/\g9 M.P M.w M.K M.mg M.base (CX1 M.P M.w) j a fd ps (spX cl M.K ψ):=by
 obtain⟨f,fd,h1,h2,h3,h4⟩:=F.ex;have e:f=a:=by rw[h1]at ha;injection ha with ha;injection ha
 subst e;exact⟨fd,h2,h3,h4⟩
theorem Dc{E:XK}{f:e_}{k':Nat}(L:Lv X E)(S:Sc M X.nox k N ns)(F:FnX M cl y k' ps ψ)(hy:M.mg y=a_ (.ref f))(hk:k'<=k)(i:Nat)(hi:N[i]?=a_ x)(hv:i7 ns x=c_)(ha:PA X.nox (e::es) (tMA M.K ZV))(hp:be x=c_)(hs:(e::es).all notStar=c_):
  PE X (.Call (.Name x p1) (e::es) [] pos) (tXE cl M.K (wx i f ψ ZV) E):=by
 obtain⟨fd,hf,hb,F⟩:=F.lamX hy;have e1:X.prog=M.P:=S.hP;have e2:X.w=M.w:=S.hw;have e3:X.K=M.K:=S.hK;have e4:X.mg=M.mg:=S.hm;have e5:X.base=M.base:=S.hb;have e6:X.N=N:=S.hN;rw[<-e1,<-e2,<-e3,<-e4,<-e5]at F;rw[<-e3]at hf hb;rw[a8,ah]at hs;intro pins s G H Q I h;obtain⟨μ,S0,Y,C,S',hr,er,q,aft⟩:=h;unfold wx at q
 split at q
 rotate_left
 .cases q
 rename_i g hg
 split at q
 rotate_left
 .cases q
 rename_i VN
 subst VN;obtain⟨v,X0,rv⟩:=er.get i _ hg;have YX:v=.ref g:=by simpa only [RU]using rv
 subst YX;obtain⟨n1,n2⟩:=bR hp;have pv:PE X (.Name x p1) (Eb i):=PE.nox (lJ (by rw[<-e6]at hi;exact hi) (S.vis hv) n1 n2);refine di (thn (pv pins s G H (λv H1=>v=.ref g/\H1=H) I ⟨_,X0,rfl,rfl⟩) λw s1 ⟨v,H1,I1,r1,z1,z2⟩=>?_);subst z1;subst z2;obtain rfl:w=eA g:=r1;obtain⟨us,S1,q1,q⟩:=aK q
 have hA:=ha.nox pos pins s1 G H1 (λvs H2=>spX cl M.K ψ (vs++[]) H2 Q E) I1 ⟨μ,S0,Y,us,S1,hr,er,q1,λY0 vs H2 p1 k1 ZY rs=>by
  show spX cl M.K ψ (vs++[]) H2 Q E;rw[fF]
  exact⟨Y0,S1,us,C,S',ZY,rs,q,aft.mono p1 k1⟩⟩
 exact jX (h₀:=X.base) I1.ok.mod.kin hf (thn hA λus s2 ⟨vs,H2,I2,r2,q2⟩=>⟨I2.kIn,pj F (S.room.mono hk) hb .nil L.pass I2 r2 q2⟩) (bW hs.1 _ _) (lP _ _ hs.2)
end
section
variable {M:Mo}{T:Tb}{k k0 fu L:Nat}{h:Heap}{x y r:Str}{st:Stmt}{z1 z5:Expr}{rz:List Nat}{c P g:e_}{sc:Scope}{φ:MF}{ψ:RF}
variable{f:e_}
theorem rV.okRgt{oc kV doc pm ct:f_}{od an:Option e_}{sl:Array (Option f_)}(O :∀ caps capv cds base,f9 M.mg base->TOk (M.to caps capv cds base) T k)(O0:TOk M T k)(h1:T.mkr=d_)(FR:FnR M T.Z.cl r k0 1 (nk rz))(VZ:k0<=k+1)(X:M.K.K.In h)(Gn:h.Ns mainGlobals M.mg)(lk:M.K.K.lookup f=a_ ⟨oc,od,.func (cM x x (fM st) (bG st) (ar st) .none kV doc pm an (.ref c) ct),sl⟩)(ZH:fW M.K.K (.ref c) x=c_)(MK:Mkr M c P (x++".<locals>."++"<lambda>"))
  (S:aZ rgN rgN (ar st)) (ZS:bG st=yI z1 z5 r sc L) (XA:cT T fu rgN (ar st).names z1=a_ rg1) (Wt:cE T fu rgN (ar st).names z5=a_ rg5) (h5:gp z5=c_) (RO:dc (ar st).names r=c_) (Ta:be r=c_)
  (hv:rgN.all (i7 (ar st).names)=c_) (hl:uP [] sc (ar st).names=c_) (Zw:frees sc=(["read","text"]:List Str)) (Yh:T.D.lookup y=a_ φ) (Yn:T.Z.R.lookup y=a_ ψ) (hy:M.mg y=a_ (.ref g)) :
  g9 M.P M.w M.K M.mg M.base CX0 (k+3) f (cM x x (fM st) (bG st) (ar st) .none kV doc pm an (.ref c) ct) rgN (spM M.K (rgF rz g φ ψ)):=by
 let M1:Mo:=⟨M.P,M.w,M.K,M.mg,M.base,a_ (c,x++".<locals>.")⟩
 have O1:TOk M1 T (k+2):=by
  have Om:=O0.mono (show k<=k+2 by omega);exact⟨λy g hy=>let ⟨k',Yc,hk,F'⟩:=Om.D y g hy;⟨k',Yc,hk,⟨F'.ex⟩⟩,Om.C,Om.B,λy q hy=>let ⟨k',Yc,hk,F'⟩:=Om.L y q hy;⟨k',Yc,hk,⟨F'.ex⟩⟩,(λz=>by rw[h1]at z;cases z),λy r hy=>let ⟨k',Yc,hk,F'⟩:=Om.Z y r hy;⟨k',Yc,hk,⟨F'.ex⟩⟩⟩
 have SQ:Mkr M1 c P (x++".<locals>."++"<lambda>"):=⟨MK.hd,MK.bl,MK.gP,MK.mem,MK.un⟩;obtain⟨LS,YC⟩:=xm hl;have vs:∀y∈rgN,i7 (ar st).names y=c_:=λy hy=>aC.mp hv y hy;have vis:∀{y},y∈frees sc->i7 sc.names y=c_:=λ{y} hy=>by unfold i7;rw[LS.free y hy]
 have len:∀vs H Q E,spM M.K (rgF rz g φ ψ) vs H Q E->vs.length=rgN.length:=λvs H Q E hh=>by
  obtain⟨μ,S',us,u,ZO,hr,rs,e,_⟩:=hh;unfold rgF run at e
  split at e
  .rename_i hl;rw[<-rs.len];exact hl
  .cases e
 refine _L.wb (ps:=rgN) lk ZH S len λA outer s H RI Q E hr hh=>?_;have S0:Sc M1 (qi CX0 M1.P M1.w M1.K M1.mg M1.base rgN x (ar st) f (.ref c) A outer s H E).nox (k+2) rgN (ar st).names:=Sc.def (M:=M1) S hr λc' q' hq=>by cases hq;exact⟨rfl,rfl⟩
 have Sn:=snd fu M1 T (k+2) (.of O1 h1);obtain⟨k1,ps1,RJ,F1⟩:=O1.D _ _ Yh;have pc:PE (qi CX0 M1.P M1.w M1.K M1.mg M1.base rgN x (ar st) f (.ref c) A outer s H E).nox (.Call (.Name r (PP L 2 15 27)) [Hz sc L] [] (PP L 2 15 47)) (tM M1.K (kD (nk rz) [0,1] (rgL g φ) (rgX g ψ))):=by
  refine EU (M:=M1) (j:=k) S0 ⟨FR.ex⟩ (by omega) (by omega) rfl SQ RO (bR Ta).1 LS YC (by rw[Zw];rfl) (λXj YJ ZE YL XO xt X' S'=>?_) λXj YJ ZE YL XO xt X' E' L' S'=>?_
  .rw[Zw]at S'
   obtain⟨k2,SA,WB,F2⟩:=(O Xj YJ ZE YL XO).D _ _ Yh;exact zm S' (F2.lam hy) WB 0 rfl (vis (by rw[Zw];simp)) (jo (t7 S' 1 rfl (vis (by rw[Zw];simp)) rfl rfl) rP) rfl rfl rfl rfl
  .rw[Zw]at S'
   obtain⟨k2,SA,WB,F2⟩:=(O Xj YJ ZE YL XO).Z _ _ Yn;exact Dc L' S' F2 hy WB 0 rfl (vis (by rw[Zw];simp)) (jo (t7 S' 1 rfl (vis (by rw[Zw];simp)) rfl rfl) rP) (by decide +kernel) rfl
 refine⟨tMS M1.K (rgM rz g φ ψ),?_,?_⟩
 .rw[ZS]
  exact(tD (HS (Sn.t _ _ _ _ XA _ S0) (qC (Ab (Nx S0 pc (Sn.e _ _ _ _ Wt _ S0) (qF h5 _)))) DL) (qC (Ab (Nx S0 (zm S0 (F1.lam hy) RJ 0 rfl (vs _ (by simp)) (jo (t7 S0 1 rfl (vs _ (by simp)) rfl rfl) rP) rfl rfl rfl rfl) (t7 S0 2 rfl (vs _ (by simp)) rfl rfl) rfl)))).nox
 .obtain⟨μ,S1,us,u,S2,hR,rs,e,ka⟩:=hh
  have er:=mj (N:=rgN) rs;unfold rgF run at e
  split at e
  rotate_left
  .cases e
  rename_i hl
  rw[hl]at er
  split at e
  .rename_i w Y4 S3 q
   cases e;exact⟨μ,S1,_,_,hR,er,q,ka⟩
  .rename_i Y4 S3 q
   cases e;exact⟨μ,S1,_,_,hR,er,q,λY3 Y1 H' p' k' Zs SJ=>ka Y3 _ H' p' k' Zs o6⟩
  .cases e
theorem Cv{k:Nat}{fd:FuncData}{ps:List Str}{φ φ':MF}(F:g9 M.P M.w M.K M.mg M.base CX0 k f fd ps (spM M.K φ))(F':g9 M.P M.w M.K M.mg M.base CX0 k f fd ps (spM M.K φ')):g9 M.P M.w M.K M.mg M.base CX0 k f fd ps (spM M.K (nq φ φ')):=by
 have or_:∀{vs H Q E},spM M.K (nq φ φ') vs H Q E->spM M.K φ vs H Q E\/spM M.K φ' vs H Q E:=λ{vs H Q E} h=>by
  obtain⟨μ,S,us,u,S',h1,h2,h3,h4⟩:=h;rcases fJ.mp h3 with e|⟨_,e⟩
  .exact .inl ⟨μ,S,us,u,S',h1,h2,e,h4⟩
  .exact .inr ⟨μ,S,us,u,S',h1,h2,e,h4⟩
 refine⟨λvs H Q E h=>(or_ h).elim (F.len _ _ _ _) (F'.len _ _ _ _),λA outer s H args us vs Q E hr e0 hb hv h=>?_⟩;rcases or_ h with h |h
 .exact F.run A outer s H args us vs Q E hr e0 hb hv h
 .exact F'.run A outer s H args us vs Q E hr e0 hb hv h
end
def rgB(ns:NS)(r:Str)(z5:Expr)(sc:Scope):Bool:=gp z5&&dc ns r&&be r&&rgN.all (i7 ns)&&uP [] sc ns&&frees sc==(["read","text"]:List Str)
def F7(st:Stmt):Expr:=match bd_ st 0 with
 |.If c _ _ _=>c
 |_=>.Constant .none 0 ⟨0,0,0,0⟩
def LH:List Stmt->Expr
 |[.Return (a_ e) _]=>e
 |_=>.Constant .none 0 ⟨0,0,0,0⟩
def rgC(st:Stmt):Expr:=match bd_ st 0 with
 |.If _ a _ _=>LH a
 |_=>.Constant .none 0 ⟨0,0,0,0⟩
def Bk(st:Stmt):Expr:=match rgC st with
 |.Compare _ _ [b] _=>b
 |e=>e
def Fo(st:Stmt):Scope:=match rgC st with
 |.Compare (.Call _ [.Lambda _ _ sc _] _ _) _ _ _=>sc
 |_=>ar st
section
variable {P:Program}{w:World}{K:ai}{mg:Str->Option f_}{tabs:List (e_×Str)}{T:Tb}{k k0 fu L:Nat}{h:Heap}{x r y y':Str}{st:Stmt}{a0 p g g':e_}{rz:List Nat}{φ φ':MF}{ψ ψ':RF}
theorem Ch.rgt(c:Ch P w K mg tabs T k)(h1:T.mkr=d_)(FR :∀ a b d e,f9 mg e->FnR ⟨P,w,⟨K,a,b,d,tabs⟩,mg,e,b_⟩ T.Z.cl r k0 1 (nk rz))(VZ:k0<=k+1)(hm:(p,x++".<locals>."++"<lambda>")∈tabs)(nd:(tabs.map (·.1)).Nodup)(hg:mainGlobals≠p)(X:K.In h)(Gn:h.Ns mainGlobals mg)(D:rV K x st a0 p)(S:aZ rgN rgN (ar st))(hb:Bd x st rgN)
  (ZS:bG st=yI (F7 st) (Bk st) r (Fo st) L) (XA:cT T fu rgN (ar st).names (F7 st)=a_ rg1) (Wt:cE T fu rgN (ar st).names (Bk st)=a_ rg5) (hw:rgB (ar st).names r (Bk st) (Fo st)=c_)
  (Yh:T.D.lookup y=a_ φ) (Yn:T.Z.R.lookup y=a_ ψ) (hy:mg y=a_ (.ref g)) (Vc:T.D.lookup y'=a_ φ') (VO:T.Z.R.lookup y'=a_ ψ') (RZ:mg y'=a_ (.ref g')):
  Ch P w K mg tabs ⟨(x,nq (rgF rz g φ ψ) (rgF rz g' φ' ψ'))::T.D,T.C,T.L,T.H,T.mkr,T.Z⟩ (k+3):=by
 simp only[rgB,ah]at hw;obtain⟨⟨⟨⟨⟨w1,w2⟩,w3⟩,w4⟩,w5⟩,w6⟩:=hw;refine⟨λa b d e f=>(c.o a b d e f).cons (?_:Fn _ _ _ rgN _) (d6 k 3),λa b d e f=>qx (c.h a b d e f) (d6 k 3),λa b d e f=>uy (c.r a b d e f) (d6 k 3)⟩;obtain⟨f0,oc,od,kV,doc,pm,an,ct,sl,a1,lk,ZH,Zm⟩:=D.ex;have MK:=D.mkr (M:=⟨P,w,⟨K,a,b,d,tabs⟩,mg,e,b_⟩) f X Gn hm nd hg
 exact⟨f0,_,bK X Gn a1,Zm,.all (hb kV doc pm an (.ref a0) ct),Cv (M:=⟨P,w,⟨K,a,b,d,tabs⟩,mg,e,b_⟩)
  (rV.okRgt (M:=⟨P,w,⟨K,a,b,d,tabs⟩,mg,e,b_⟩) c.o (c.o a b d e f) h1 (FR a b d e f) VZ X Gn lk ZH MK S ZS XA Wt w1 w2 w3 w4 w5 (eq_of_beq w6) Yh Yn hy)
  (rV.okRgt (M:=⟨P,w,⟨K,a,b,d,tabs⟩,mg,e,b_⟩) c.o (c.o a b d e f) h1 (FR a b d e f) VZ X Gn lk ZH MK S ZS XA Wt w1 w2 w3 w4 w5 (eq_of_beq w6) Vc VO RZ)⟩
end
theorem Kw{K:ai}{x y:Str}{st Zh:Stmt}{f g:e_}{fd Ru:FuncData}(F:Fun K x x st f fd)(F':Fun K y y Zh g Ru)(h:x≠y):f≠g:=λz=>by
 obtain⟨oc,od,kV,doc,pm,an,cdv,ct,osl,e1,l1,_⟩:=F.ex;obtain⟨oc',Vj,kV',doc',pm',an',cdv',ct',osl',e2,l2,_⟩:=F'.ex;rw[z,l2]at l1;injection l1 with l1
 injection l1 with _ _ l1 _
 injection l1 with l1
 rw[e1,e2]at l1;exact h (congrArg FuncData.name l1).symm
end _G
namespace _G
open PySem PySem.Spec _L
def Tb.dd(T:Tb)(x:Str)(f:MF):Tb:=⟨(x,f)::T.D,T.C,[],T.H,d_,T.Z⟩
def Tb.hh(T:Tb)(x:Str)(F:e_->MF->MF):Tb:=⟨T.D,T.C,[],(x,F)::T.H,d_,T.Z⟩
def Tb.xx(T:Tb)(x:Str)(f:MF)(r:RF):Tb:=⟨(x,f)::T.D,T.C,[],T.H,d_,⟨(x,r)::T.Z.R,T.Z.F,T.Z.cl,T.Z.nm⟩⟩
def Tb.qq(T:Tb)(x:Str)(vf:VF):Tb:=⟨T.D,T.C,[],T.H,d_,⟨T.Z.R,(x,vf)::T.Z.F,T.Z.cl,T.Z.nm⟩⟩
abbrev cD(T:Tb)(N:List Str)(st:Stmt):Option MS:=cB T 80 N (ar st).names (bG st)
def fsB(N P:List Str)(sc:Scope):Bool:=sc.kind==.function && !sc.isCoroutine && !sc.isGenerator&&decide N.Nodup&&N.take P.length==P&&P.all (λx=>sc.names.lookup x==a_ .local||sc.names.lookup x==a_ .cell)&&sc.names.all λy=>!(y.2==.free)
theorem du{N P:List Str}{sc:Scope}(h:fsB N P sc=c_):aZ N P sc:=by
 unfold fsB at h;simp only[ah]at h;obtain⟨⟨⟨⟨⟨⟨h1,h2⟩,h3⟩,h4⟩,h5⟩,h6⟩,h7⟩:=h;refine⟨eq_of_beq h1,by simpa using h2,by simpa using h3,of_decide_eq_true h4,eq_of_beq h5,λx hx=>?_,λy hy z=>?_⟩<;>grind
def JJ(K:ai):List (Str×Stmt)->Prop
 |[]=>True
 |p::r=>Def K p.1 p.2/\JJ K r
end _G
namespace _W
open PySem PySem.Spec _L _G
def iz:MS:=aW (sIf (cOf (m2 oLt (ae 1) (mFn cJ (aa (ae 0) af)))) (bO (m2 oIx (ae 0) (ae 1))) bE) (bO (mC (.int 0)))
def jU:MF:=run 2 2 iz
def pJ:MS:=aW (bJ 2 (mFn jU (aa (ae 0) (aa (ae 1) af)))) (aW (sIf (cOf (m2 oGe (ae 2) (m2 yO (mC (.int 10)) (mC (.int 18))))) (bO (b0 (aa (m2 yh (ae 2) (m2 yO (mC (.int 10)) (mC (.int 18)))) (aa (mC (.bl c_)) af)))) bE) (bO (b0 (aa (m2 oMod (ae 2) (mC (.int 2147483647))) (aa (mC (.bl d_)) af)))))
def jD:MF:=run 2 3 pJ
def kE:MS:=aW (sIf (cOf (m2 oIx (ae 0) (mC (.int 1)))) (aW (bJ 2 (m2 oMod (m2 oIx (ae 0) (mC (.int 0))) (ae 1))) (aW (jR (ae 0) (mC (.int 0)) (m2 oDiv (m2 oIx (ae 0) (mC (.int 0))) (ae 1))) (bO (ae 2)))) bE) (aW (jR (ae 0) (mC (.int 0)) (m2 oMod (m2 cK (m2 gY (m2 oIx (ae 0) (mC (.int 0))) (mC (.int 48271))) (mC (.int 29))) (mC (.int 2147483647)))) (aW (bJ 3 (m2 oMod (m2 cK (m2 cK (m2 gY (m2 oIx (ae 0) (mC (.int 0))) (m2 oIx (ae 0) (mC (.int 0)))) (m2 gY (mC (.int 39373)) (m2 oIx (ae 0) (mC (.int 0))))) (mC (.int 7))) (mC (.int 2147483629)))) (aW (bJ 3 (m2 oMod (m2 cK (m2 gY (ae 3) (ae 3)) (m2 gY (mC (.int 16807)) (ae 3))) (mC (.int 2147483587)))) (bO (m2 oMod (m2 oDiv (ae 3) (mC (.int 8))) (ae 1))))))
def aH:MF:=run 2 4 kE
def lz:MS:=bO (mFn bZ (aa (bu (iR1 (aa (ae 0) af)) cTT (mFn bZ (aa (bu (iR1 (aa (ae 0) af)) cTT (m2 oMod (m2 cK (ae 1) (ae 2)) (ae 0))) af))) af))
def df:MF:=run 1 1 lz
def pK:MS:=aW (bJ 1 (b0 af)) (aW (fU 2 (iR1 (aa (m2 gY (mC (.int 2)) (ae 0)) af)) (aW (bJ 3 (b0 af)) (aW (fU 4 (iR1 (aa (m2 gY (mC (.int 2)) (ae 0)) af)) (aW (bJ 5 (m2 oMod (m2 cK (m2 oMod (ae 2) (ae 0)) (m2 gY (m2 oIx (b0 (aa (mC (.int 1)) (aa (m1 ym (mC (.int 1))) af))) (m2 oDiv (ae 2) (ae 0))) (m2 oMod (ae 4) (ae 0)))) (ae 0))) (dm (mML cW (ae 3) (aa (m2 cK (ae 5) (m2 gY (ae 0) (m2 oMod (m2 cK (m2 oDiv (ae 2) (ae 0)) (m2 oDiv (ae 4) (ae 0))) (mC (.int 2))))) af))))) (dm (mML cW (ae 1) (aa (mFn bZ (aa (ae 3) af)) af)))))) (bO (mFn bZ (aa (ae 1) af))))
def fq:MF:=run 1 6 pK
def mZ:MS:=aW (bJ 0 (b0 (aa (b0 (aa (mC (.int 0)) (aa (mC (.int 0)) (aa (mC (.int 0)) (aa (mC (.int 0)) af))))) (aa (b0 (aa (mC (.int 0)) (aa (mC (.int 1)) (aa (mC (.int 0)) (aa (mC (.int 1)) af))))) (aa (b0 (aa (mC (.int 0)) (aa (mC (.int 1)) (aa (mC (.int 1)) (aa (mC (.int 0)) af))))) (aa (b0 (aa (mC (.int 0)) (aa (mC (.int 0)) (aa (mC (.int 1)) (aa (mC (.int 1)) af))))) af)))))) (aW (bJ 1 (b0 (aa (b0 (aa (mC (.int 0)) (aa (mC (.int 1)) (aa (mC (.int 2)) (aa (mC (.int 3)) af))))) (aa (b0 (aa (mC (.int 1)) (aa (mC (.int 0)) (aa (mC (.int 3)) (aa (mC (.int 2)) af))))) (aa (b0 (aa (mC (.int 2)) (aa (mC (.int 3)) (aa (mC (.int 0)) (aa (mC (.int 1)) af))))) (aa (b0 (aa (mC (.int 3)) (aa (mC (.int 2)) (aa (mC (.int 1)) (aa (mC (.int 0)) af))))) af)))))) (aW (bJ 2 (b0 af)) (aW (fU 3 (iR1 (aa (mC (.int 8)) af)) (aW (bJ 4 (b0 af)) (aW (fU 5 (iR1 (aa (mC (.int 8)) af)) (aW (bJ 6 (m2 oMod (m2 cK (m2 cK (ae 3) (ae 5)) (m2 oIx (m2 oIx (ae 0) (m2 oDiv (ae 3) (mC (.int 2)))) (m2 oDiv (ae 5) (mC (.int 2))))) (mC (.int 2)))) (dm (mML cW (ae 4) (aa (m2 cK (m2 gY (mC (.int 2)) (m2 oIx (m2 oIx (ae 1) (m2 oDiv (ae 3) (mC (.int 2)))) (m2 oDiv (ae 5) (mC (.int 2))))) (ae 6)) af))))) (dm (mML cW (ae 2) (aa (mFn bZ (aa (ae 4) af)) af)))))) (bO (mFn bZ (aa (ae 2) af))))))
def ix:MF:=run 0 7 mZ
def qW:MS:=aW (bJ 2 (mFn cJ (aa (ae 1) af))) (aW (bJ 3 (b0 af)) (aW (fU 4 (iR1 (aa (m2 gY (mFn cJ (aa (ae 0) af)) (ae 2)) af)) (aW (bJ 5 (b0 af)) (aW (fU 6 (iR1 (aa (m2 gY (mFn cJ (aa (ae 0) af)) (ae 2)) af)) (aW (bJ 7 (m2 oIx (m2 oIx (ae 0) (m2 oDiv (ae 4) (ae 2))) (m2 oDiv (ae 6) (ae 2)))) (dm (mML cW (ae 5) (aa (m2 cK (m2 gY (ae 7) (ae 2)) (m2 oIx (m2 oIx (ae 1) (m2 oMod (ae 4) (ae 2))) (m2 oMod (ae 6) (ae 2)))) af))))) (dm (mML cW (ae 3) (aa (mFn bZ (aa (ae 5) af)) af)))))) (bO (mFn bZ (aa (ae 3) af)))))
def kM:MF:=run 2 8 qW
def pL:MS:=bO (mFn bZ (aa (bu (dh (ae 1)) cTT (mFn bZ (aa (bu (dh (ae 1)) cTT (mMT ku (ae 1) (aa (m2 oIx (m2 oIx (ae 0) (ae 2)) (ae 3)) af))) af))) af))
def jG:MF:=run 2 2 pL
def pN:MS:=aW (bJ 2 (nB (iR2 (aa (mC (.int 1)) (aa (ae 1) af))))) (bO (m2 cK (gZ (aa (mC (.int 0)) af)) (mFn bZ (aa (bu (iR1 (aa (m2 yh (ae 1) (mC (.int 1))) af)) cTT (mML jS (ae 2) (aa (mFn aH (aa (ae 0) (aa (mFn cJ (aa (ae 2) af)) af))) af))) af))))
def jA:MF:=run 2 3 pN
def k7:MS:=aW (bJ 2 (mFn aH (aa (ae 0) (aa (mC (.int 8)) af)))) (aW (bJ 3 (mFn df (aa (m2 cK (mC (.int 1)) (mFn aH (aa (ae 0) (aa (ae 1) af)))) af))) (aW (sIf (cOr (cOf (m2 oEq (ae 2) (mC (.int 1)))) (cOf (m2 oEq (ae 2) (mC (.int 2))))) (bJ 3 (mFn fq (aa (m2 cK (mC (.int 1)) (mFn aH (aa (ae 0) (aa (m2 oDiv (ae 1) (mC (.int 2))) af)))) af))) bE) (aW (sIf (rR (cOf (m2 oEq (ae 2) (mC (.int 3)))) (cOf (m2 oGt (ae 1) (mC (.int 7))))) (bJ 3 (mFn ix af)) bE) (aW (sIf (cOf (m2 oGt (ae 2) (mC (.int 3)))) (aW (bJ 4 (m2 cK (mC (.int 2)) (mFn aH (aa (ae 0) (aa (mC (.int 3)) af))))) (aW (bJ 5 (m2 oIx (b0 (aa (mFn df (aa (ae 4) af)) (aa (mFn fq (aa (ae 4) af)) af))) (mFn aH (aa (ae 0) (aa (mC (.int 2)) af))))) (aW (sIf (cOf (m2 oGt (mFn cJ (aa (ae 5) af)) (ae 1))) (bJ 5 (mFn df (aa (ae 4) af))) bE) (bJ 3 (mFn kM (aa (ae 5) (aa (mFn df (aa (m2 cK (mC (.int 1)) (mFn aH (aa (ae 0) (aa (m2 oDiv (ae 1) (mFn cJ (aa (ae 5) af))) af)))) af)) af))))))) bE) (aW (sIf (cOf (m2 oEq (mFn aH (aa (ae 0) (aa (mC (.int 3)) af))) (mC (.int 0)))) (bJ 3 (mFn jG (aa (ae 3) (aa (mFn jA (aa (ae 0) (aa (mFn cJ (aa (ae 3) af)) af))) af)))) bE) (bO (ae 3)))))))
def gz:MF:=run 2 6 k7
end _W
namespace _W
structure Grp(m:Nat)(T:Nat->Nat->Nat):Prop where
 pos:0<m
 cl:∀i j,i<m->j<m->T i j<m
 l0:∀i,i<m->T 0 i=i
 r0:∀i,i<m->T i 0=i
 inv:∀i,i<m->∃j,j<m/\T i j=0/\T j i=0
 as:∀i j k,i<m->j<m->k<m->T (T i j) k=T i (T j k)
def fA(n:Nat):Nat->Nat->Nat:=λi j=>(i+j)%n
variable{n:Nat}
theorem lZ(h:0<n):Grp n (fA n) where
 pos:=h
 cl:=λi j _ _=>r9 _ h
 l0:=λi hi=>by unfold fA;rw[dS];exact bH hi
 r0:=λi hi=>by exact bH hi
 inv:=λi hi=>by
  by_cases h0:i=0
  .subst h0;exact⟨0,h,by simp[fA],by simp[fA]⟩
  .refine⟨n-i,by omega,?_,?_⟩<;>unfold fA
   .rw[show i+(n-i)=n by omega,nF]
   .rw[show n-i+i=n by omega,nF]
 as:=λi j k _ _ _=>by
  unfold fA;rw[nI,Nat.add_mod_mod,fT]
def hU(n:Nat):Nat->Nat->Nat:=λi j=>
 (if i<n then(i%n+j%n)%n else(i%n+(n-j%n))%n)+n*((i/n+j/n)%2)
variable{i:Nat}
theorem half(h:i<2*n):(i<n/\i%n=i/\i/n=0)\/(n<=i/\i%n=i-n/\i/n=1):=by
 by_cases hi:i<n
 .exact .inl ⟨hi,bH hi,gK hi⟩
 .refine .inr ⟨by omega,?_,?_⟩
  .rw[Nat.mod_eq_sub_mod (by omega),bH (by omega)]
  .exact Nat.div_eq_of_lt_le (by omega) (by omega)
variable{a b:Nat}
theorem eT(ha:a<n)(hb:b<n):hU n a b=(a+b)%n:=by
 unfold hU;rw[if_pos ha,gK ha,gK hb];simp
theorem Fy(ha:a<n):(n+a)/n=1:=Nat.div_eq_of_lt_le (by omega) (by omega)
theorem O9(ha:a<n):(n+a)%n=a:=by rw[Nat.add_mod_left];exact bH ha
theorem iE(ha:a<n)(hb:b<n):hU n a (n+b)=n+(a+b)%n:=by
 unfold hU;rw[if_pos ha,gK ha,Fy hb];simp;omega
theorem iC(ha:a<n)(hb:b<n):hU n (n+a) b=n+(a+(n-b))%n:=by
 unfold hU;rw[if_neg (by omega),bH hb,gK hb,Fy ha];simp;omega
theorem iB(ha:a<n)(hb:b<n):hU n (n+a) (n+b)=(a+(n-b))%n:=by
 unfold hU;rw[if_neg (by omega),O9 hb,Fy ha,Fy hb];simp
theorem OD(ha:a<n)(hb:b<n):(a+b)%n=if a+b<n then a+b else a+b-n:=by
 split
 .exact bH (by omega)
 .rw[Nat.mod_eq_sub_mod (by omega),bH (by omega)]
theorem OW(ha:a<n)(hb:b<n):(a+(n-b))%n=if b<=a then a-b else a+n-b:=by
 have e:=Nat.add_sub_assoc (br hb) a
 split
 .rename_i h
  rw[<-e,mO h,kX,bH (a9 (nG a b) ha)]
 .rename_i h
  rw[bH (Nat.lt_of_lt_of_eq (Nat.add_lt_add_right (Nat.lt_of_not_le h) _) (Nat.add_sub_cancel' (br hb))),e]
theorem lO(h:i<2*n):(i<n) \/ ∃a,a<n/\i=n+a:=by
 by_cases hi:i<n
 .exact .inl hi
 .exact .inr ⟨i-n,by omega,by omega⟩
theorem GQ{c:Nat}:((a+b)%n+c)%n=(a+(b+c)%n)%n:=by rw[nI,Nat.add_mod_mod,fT]
theorem L4{c:Nat}(hb:b<n)(hc:c<n):((a+(n-b))%n+(n-c))%n=(a+(n-(b+c)%n))%n:=by
 rw[nI,OD hb hc]
 split
 .rename_i h
  have h1:n-b=n-(b+c)+c:=by rw[Nat.sub_add_eq,Nat.sub_add_cancel (Nat.le_sub_of_add_le' (br h))]
  rw[h1,<-fT,fT _ c,Nat.add_sub_cancel' (br hc),kX]
 .rename_i h
  rw[<-kY b (br hc),kY n (Nat.sub_le_of_le_add (d8 h)),mO (br hb),fT]
theorem Mm{c:Nat}(hb:b<n)(hc:c<n):((a+(n-b))%n+c)%n=(a+(n-(b+(n-c))%n))%n:=by
 rw[nI,OW hb hc]
 split
 .rename_i h
  rw[kY n h,mO (br hb),fT]
 .rename_i h
  have h':=br (Nat.lt_of_not_le h);rw[EC b n,<-kY n h',Nat.sub_sub_self (aA (nG c b) (br hc)),<-kX (a+(c-b)) n,fT a _ n,EC _ n,<-Nat.add_sub_assoc h' n,mO (br hb),fT]
theorem xn(h:0<n):Grp (2*n) (hU n):=by
 have ml:∀x,x%n<n:=λx=>r9 _ h;have cl:∀i j,i<2*n->j<2*n->hU n i j<2*n:=λi j hi hj=>by
  rcases lO hi with hi|⟨a,ha,rfl⟩<;>rcases lO hj with hj|⟨b,hb,rfl⟩
  .rw[eT hi hj];have:=ml (i+j);omega
  .rw[iE hi hb];have:=ml (i+b);omega
  .rw[iC ha hj];have:=ml (a+(n-j));omega
  .rw[iB ha hb];have:=ml (a+(n-b));omega
 refine⟨by omega,cl,λi hi=>?_,λi hi=>?_,λi hi=>?_,λi j k hi hj hk=>?_⟩
 .rcases lO hi with hi|⟨a,ha,rfl⟩
  .rw[eT h hi,dS,bH hi]
  .rw[iE h ha,dS,bH ha]
 .rcases lO hi with hi|⟨a,ha,rfl⟩
  .rw[eT hi h,Nat.add_zero,bH hi]
  .rw[iC ha h,Nat.sub_zero,kX,bH ha]
 .rcases lO hi with hi|⟨a,ha,rfl⟩
  .by_cases h0:i=0
   .subst h0;exact⟨0,by omega,by rw[eT h h];simp,by rw[eT h h];simp⟩
   .have hl:n-i<n:=by omega
    refine⟨n-i,by omega,?_,?_⟩
    .rw[eT hi hl,show i+(n-i)=n by omega,nF]
    .rw[eT hl hi,show n-i+i=n by omega,nF]
  .refine⟨_,by omega,?_,?_⟩<;>rw[iB ha ha,show a+(n-a)=n by omega,nF]
 .rcases lO hi with hi|⟨a,ha,rfl⟩<;>rcases lO hj with hj|⟨b,hb,rfl⟩<;>rcases lO hk with hk|⟨c,hc,rfl⟩
  .rw[eT hi hj,eT hj hk,eT (ml _) hk,eT hi (ml _),GQ]
  .rw[eT hi hj,iE hj hc,iE (ml _) hc,iE hi (ml _),GQ]
  .rw[iE hi hb,iC hb hk,iC (ml _) hk,iE hi (ml _),GQ]
  .rw[iE hi hb,iB hb hc,iB (ml _) hc,eT hi (ml _),GQ]
  .rw[iC ha hj,eT hj hk,iC (ml _) hk,iC ha (ml _),L4 hj hk]
  .rw[iC ha hj,iE hj hc,iB (ml _) hc,iB ha (ml _),L4 hj hc]
  .rw[iB ha hb,iC hb hk,eT (ml _) hk,iB ha (ml _),Mm hb hk]
  .rw[iB ha hb,iB hb hc,iE (ml _) hc,iC ha (ml _),Mm hb hc]
def rG(m:Nat)(A B:Nat->Nat->Nat):Nat->Nat->Nat:=λi j=>A (i/m) (j/m)*m+B (i%m) (j%m)
variable{m:Nat}
theorem yV(hb:b<m):(a*m+b)/m=a/\(a*m+b)%m=b:=by
 have hm:0<m:=by omega
 constructor
 .rw[ki,Nat.mul_add_div hm,gK hb];rfl
 .rw[ki,Nat.mul_add_mod,bH hb]
theorem El{k:Nat}{A B:Nat->Nat->Nat}(ga:Grp k A)(gb:Grp m B):Grp (k*m) (rG m A B):=by
 have hm:=gb.pos;have dl:∀i,i<k*m->i/m<k:=λi hi=>Nat.div_lt_of_lt_mul (by rw[ki];exact hi);have rl:∀i,i%m<m:=λi=>r9 _ hm;have lt:∀a b,a<k->b<m->a*m+b<k*m:=λa b ha hb=>by
  have:(a+1)*m<=k*m:=Nat.mul_le_mul_right m ha;rw[Nat.add_mul]at this;omega
 refine⟨Nat.mul_pos ga.pos hm,λi j hi hj=>lt _ _ (ga.cl _ _ (dl i hi) (dl j hj)) (gb.cl _ _ (rl i) (rl j)),λi hi=>?_,λi hi=>?_,λi hi=>?_,λi j l hi hj hl=>?_⟩
 .unfold rG;rw[Nat.zero_div,Nat.zero_mod,ga.l0 _ (dl i hi),gb.l0 _ (rl i),ki];exact Nat.div_add_mod i m
 .unfold rG;rw[Nat.zero_div,Nat.zero_mod,ga.r0 _ (dl i hi),gb.r0 _ (rl i),ki];exact Nat.div_add_mod i m
 .obtain⟨a,ha,a1,a2⟩:=ga.inv _ (dl i hi)
  obtain⟨b,hb,b1,b2⟩:=gb.inv _ (rl i);obtain⟨p1,p2⟩:=yV hb;refine⟨_,lt a b ha hb,?_,?_⟩<;>unfold rG<;>rw[p1,p2]
  .rw[a1,b1];simp
  .rw[a2,b2];simp
 .unfold rG
  obtain⟨p1,p2⟩:=yV (gb.cl _ _ (rl i) (rl j));obtain⟨q1,q2⟩:=yV (gb.cl _ _ (rl j) (rl l));rw[p1,p2,q1,q2,ga.as _ _ _ (dl i hi) (dl j hj) (dl l hl),gb.as _ _ _ (rl i) (rl j) (rl l)]
def MH:List (List Nat):= [[0,1,2,3,4,5,6,7],[1,0,3,2,5,4,7,6],[2,3,1,0,6,7,5,4],[3,2,0,1,7,6,4,5],[4,5,7,6,1,0,2,3],[5,4,6,7,0,1,3,2],[6,7,4,5,3,2,1,0],[7,6,5,4,2,3,0,1]]
def gU:Nat->Nat->Nat:=λi j=>(MH.getD i []).getD j 0
def q1:Bool:=(av 8).all λi=>(gU 0 i==i)&&(gU i 0==i)&&((av 8).any λj=>(gU i j==0)&&(gU j i==0))&&(av 8).all λj=>decide (gU i j<8)&&(av 8).all λk=>gU (gU i j) k==gU i (gU j k)
theorem NV:q1=c_:=by decide +kernel
theorem AU:Grp 8 gU:=by
 have h:=aC.mp NV;have g:=λi hi=>h i (cj.mpr hi);simp at g;refine⟨by decide,λi j hi hj=>((g i hi).2 j hj).1,λi hi=>(g i hi).1.1.1,λi hi=>(g i hi).1.1.2,λi hi=>?_,λi j k hi hj hk=>((g i hi).2 j hj).2 k hk⟩
 simp_all
structure Ord(m:Nat)(o p:Nat->Nat):Prop where
 ol:∀i,i<m->o i<m
 pl:∀i,i<m->p i<m
 po:∀i,i<m->p (o i)=i
 op:∀i,i<m->o (p i)=i
 o0:o 0=0
def oW(T:Nat->Nat->Nat)(o p:Nat->Nat):Nat->Nat->Nat:=λi j=>p (T (o i) (o j))
theorem Au{T:Nat->Nat->Nat}{o p:Nat->Nat}(g:Grp m T)(h:Ord m o p):Grp m (oW T o p):=by
 have p0:=by have:=h.po 0 g.pos;rwa[h.o0]at this
 refine⟨g.pos,λi j hi hj=>h.pl _ (g.cl _ _ (h.ol i hi) (h.ol j hj)),λi hi=>?_,λi hi=>?_,λi hi=>?_,λi j k hi hj hk=>?_⟩
 .unfold oW;rw[h.o0,g.l0 _ (h.ol i hi),h.po i hi]
 .unfold oW;rw[h.o0,g.r0 _ (h.ol i hi),h.po i hi]
 .obtain⟨j,hj,a,b⟩:=g.inv _ (h.ol i hi)
  refine⟨_,h.pl j hj,?_,?_⟩<;>unfold oW<;>rw[h.op j hj]<;>simp_all
 .unfold oW
  rw[h.op _ (g.cl _ _ (h.ol i hi) (h.ol j hj)),h.op _ (g.cl _ _ (h.ol j hj) (h.ol k hk)),g.as _ _ _ (h.ol i hi) (h.ol j hj) (h.ol k hk)]
theorem rS{α:Type}:∀(l:List α) (i:Nat) (h:i<l.length),(l[i]::l.eraseIdx i).Perm l
 |x::l,0,_=>by simp
 | x::l,i+1,h=>by
   have h':=by simpa using h
   have:=rS l i h';exact(List.Perm.swap _ _ _).trans (this.cons x)
theorem Fz{l:List Nat}(nd:l.Nodup)(h:i<l.length):l.idxOf l[i]=i:=by
 grind
structure oZ(m:Nat)(l:List Nat):Prop where
 perm:l.Perm (av m)
 z:l[0]?=a_ 0
def oF(l:List Nat):Nat->Nat:=λi=>l.getD i 0
def pF(l:List Nat):Nat->Nat:=λx=>l.idxOf x
section
variable {m:Nat}{l:List Nat}
theorem oZ.len(h:oZ m l):l.length=m:=by have:=h.perm.length_eq;simpa using this
theorem oZ.nd(h:oZ m l):l.Nodup:=h.perm.nodup_iff.mpr List.nodup_range
theorem oZ.mem(h:oZ m l){x:Nat}:x∈l↔x<m:=by rw[h.perm.mem_iff,cj]
theorem oZ.get(h:oZ m l)(hi:i<m):l[i]?=a_ (oF l i):=by
 have hl:i<l.length:=by rw[h.len];omega
 simp[oF,hl]
theorem oZ.ord(h:oZ m l):Ord m (oF l) (pF l) where
 ol:=λi hi=>h.mem.mp (bo (h.get hi))
 pl:=λx hx=>by
  have:=As.mpr (h.mem.mpr hx);rw[h.len]at this;exact this
 po:=λi hi=>by
  have hl:i<l.length:=by rw[h.len];omega
  have e:oF l i=l[i]:=by simp[oF,hl]
  rw[e];exact Fz h.nd hl
 op:=λx hx=>by
  have h1:=As.mpr (h.mem.mpr hx);unfold oF pF
  simp_all
 o0:=by
  unfold oF;rw[xY,h.z];rfl
end
theorem AY{xs:List Nat}(hm:0<m)(h:xs.Perm (dR 1 (m-1))):oZ m (0::xs):=by
 refine⟨?_,rfl⟩;have e:av m=0::dR 1 (m-1):=by
  rw[EM];have:m=(m-1)+1:=by omega
  rw[this,List.range'_succ];simp
 simp_all
section
variable {m:Nat}{T:Nat->Nat->Nat}
end
end _W
namespace _W
open _L _G
def Ex(S S':Sto):Prop:= ∃t,S'=S++t
theorem Ex.refl(S:Sto):Ex S S:=⟨[],by simp⟩
variable{S S1 S2:Sto}
theorem Ex.trans(a:Ex S S1)(b:Ex S1 S2):Ex S S2:=by
 obtain⟨t,rfl⟩:=a;obtain⟨u,rfl⟩:=b;exact⟨t++u,by simp⟩
theorem Ex.push(S:Sto)(c:Cell):Ex S (S++[c]):=⟨_,rfl⟩
variable{S':Sto}{n:Nat}
theorem Ex.get(h:Ex S S')(hn:n<S.length):S'[n]?=S[n]? := by
 obtain⟨t,rfl⟩:=h;exact aS hn
variable{c:Cell}
theorem Ex.some(h:Ex S S')(e:S[n]?=a_ c):S'[n]?=a_ c:=by
 rw[h.get (ag.mp e).1];omega
theorem Ex.len(h:Ex S S'):S.length<=S'.length:=by
 obtain⟨t,rfl⟩:=h;simp
def iQ(n:Nat)(S:Sto):Prop:= ∃s b,S[n]?=a_ (.lst [.int s,.bl b])
structure Stp(n:Nat)(S S':Sto):Prop where
 len:S.length<=S'.length
 same:∀m,m<S.length->m≠n->S'[m]?=S[m]?
 st:iQ n S'
theorem Stp.refl(h:iQ n S):Stp n S S:=⟨ao _,λ_ _ _=>rfl,h⟩
theorem Stp.trans{n:Nat}{S S1 S2:Sto}(a:Stp n S S1)(b:Stp n S1 S2):Stp n S S2:=
 ⟨aA a.len b.len,λm h1 h2=>(b.same m (ax h1 a.len) h2).trans (a.same m h1 h2),b.st⟩
theorem iQ.lt(h:iQ n S):n<S.length:=by
 obtain⟨s,b,e⟩:=h;exact(ag.mp e).1
theorem iQ.ex(h:iQ n S)(e:Ex S S'):iQ n S':=by
 obtain⟨s,b,q⟩:=h;exact⟨s,b,e.some q⟩
theorem Stp.ex{n:Nat}{S S':Sto}(h:iQ n S)(e:Ex S S'):Stp n S S':=⟨e.len,λm h1 _=>e.get h1,h.ex e⟩
variable{m:Nat}
theorem Stp.some(h:Stp n S S')(hm:m≠n)(e:S[m]?=a_ c):S'[m]?=a_ c:=by
 rw[h.same m (ag.mp e).1 hm];omega
theorem va{many:Int}(h:iQ n S)(hm:0<many)(Zb:many<1073741824):
  ∃r S',aH [.ref n,.int many] S=a_ (.int r,S')/\0<=r/\r<many/\Stp n S S'/\S'.length=S.length:=by
 obtain⟨s,b,e⟩:=h;have hn:=(ag.mp e).1;have hd:qM many:=⟨hm,Zb⟩;have SH:qM 8:=⟨by decide,by decide⟩;cases b with
 | true=>
   refine⟨s%many,S.set n (.lst _),?_,xU _ (by omega),sd _ hm,⟨by simp,λm h1 h2=>by rw[aD (cY h2)],⟨s/many,c_,by rw[aN hn]⟩⟩,by simp⟩;simp[aH,_G.run,kE,aW,sIf,cOf,m2,ae,mC,bnd,oIx,iJ,dJ,getL,e,atI,ixN,bJ,oMod,oDiv,hm,hd,jR,bO]
 | false=>
   have b1:∀x m,0<m->m<4294967296->jw (x%m) (x%m):=λx m h1 h2=>by
    have h3:=xU x (show m≠0 by omega);have h4:=sd x h1;exact .inl ⟨by omega,by omega⟩
   have hg:∀c,(S.set n c)[n]?=Option.some c:=λc=>aN hn;have k1:jw s 48271:= .inr ⟨by decide,by decide⟩;have k2:=b1 (s*48271+29) 2147483647 (by decide) (by decide);generalize hs1:(s*48271+29)%2147483647=s1 at k2;have k3:jw 39373 s1:= .inl ⟨by decide,by decide⟩;have k4:=b1 (s1*s1+39373*s1+7) 2147483629 (by decide) (by decide);generalize hm1:(s1*s1+39373*s1+7)%2147483629=m1 at k4;have k5:jw 16807 m1:= .inl ⟨by decide,by decide⟩;refine⟨(m1*m1+16807*m1)%2147483587/8%many,S.set n (.lst _),?_,xU _ (by omega),sd _ hm,⟨by simp,λm h1 h2=>by rw[aD (cY h2)],⟨s1,d_,by rw[aN hn]⟩⟩,by simp⟩;simp[aH,_G.run,kE,aW,sIf,cOf,m2,ae,mC,bnd,oIx,iJ,dJ,getL,e,atI,ixN,bJ,oMod,oDiv,cK,gY,hm,hd,jR,bO,bE,hg,k1,k2,k3,k4,k5,hs1,hm1,SH]
theorem xk{i:Nat}{b:MS}(P:Nat->Rho->Sto->Prop):∀(us:List U) (k:Nat) (Y:Rho) (S:Sto),P k Y S ->
  (∀(j:Nat) (u:U) (Y:Rho) (S:Sto),us[j]?=a_ u->P (k+j) Y S->∃Y4 S',b (Y.set i (a_ u)) S=a_ (.nx,Y4,S')/\P (k+j+1) Y4 S') ->
  ∃Y4 S',pw i b us Y S=a_ (.nx,Y4,S')/\P (k+us.length) Y4 S'
 |[],k,Y,S,h,_=>⟨Y,S,rfl,h⟩
 | u::us,k,Y,S,h,st=>by
   obtain⟨Y2,S1,e1,h1⟩:=st 0 u Y S rfl h;obtain⟨Y',S2,e2,h2⟩:=xk P us _ _ S1 h1 λj v Y S hj hp=>by
    have:=st (j+1) v Y S (by simpa using hj) (by grind);rw[show k+(j+1)+1=k+1+j+1 by omega]at this;omega
   refine⟨_,S2,?_,by rw[show k+(u::us).length=k+1+us.length by grind];omega⟩;show aft _ _=_;rw[e1];exact e2
theorem mq{e:ME}{Y:Rho}(g:Nat->U)(P:Nat->Sto->Prop):∀(us:List U) (k:Nat) (acc:List U) (S:Sto),P k S ->
  (∀(j:Nat) (u:U) (S:Sto),us[j]?=a_ u->P (k+j) S->∃S',e (Y++[a_ u]) S=a_ (g (k+j),S')/\P (k+j+1) S') ->
  ∃S',dO cTT e Y us acc S=a_ (acc++(av us.length).map (λj=>g (k+j)),S')/\P (k+us.length) S'
 |[],k,acc,S,h,_=>⟨S,by simp[dO],h⟩
 | u::us,k,acc,S,h,st=>by
   obtain⟨S1,e1,h1⟩:=st 0 u S rfl h;obtain⟨S2,e2,h2⟩:=mq g P us (k+1) _ S1 h1 λj v S hj hp=>by
    have:=st (j+1) v S (by simpa using hj) (by rw[show k+(j+1)=k+1+j by omega];omega);rw[show k+(j+1)=k+1+j by omega]at this;omega
   refine⟨S2,?_,by rw[show k+(u::us).length=k+1+us.length by simp;omega];omega⟩;show bnd _ _=_;simp only[cTT,ak,if_true];rw[e1];simp only[ak];rw[e2];simp only[fX,oR,Prod.mk.injEq,and_true];rw[c8,List.range_succ_eq_map,bY,dj];simp only[List.singleton_append,List.append_cancel_left_eq,List.cons.injEq,true_and];apply j0
   grind
def yq(n:Nat)(g:Nat->U):U:= .tup ((av n).map g)
theorem qG(h:n<big):okR (n:Int):=by
 unfold big at h;exact⟨by simp_all,by omega⟩
variable{Y:Rho}{S0:Sto}{a:ME}{u:U}
theorem lB(ha:a Y S=a_ (u,S0)):aa a af Y S=a_ ([u],S0):=by
 simp[aa,af,ha,ak]
variable{j:Int}
theorem IY{a:MA}(ha:a Y S=a_ ([.int j],S0))(h:okR j):iR1 a Y S=a_ (.imm (aU 0 j.toNat),S0):=by
 unfold iR1;rw[ha];exact if_pos h
theorem oi(ha:a Y S=a_ (.int n,S0))(h:n<big):iR1 (aa a af) Y S=a_ (.imm (aU 0 n),S0):=by
 rw[IY (lB ha) (qG h),Int.toNat_natCast]
variable{e:ME}{us ys:List U}
theorem i8{it:MI}{t:MT}(hi:it Y S=a_ (.imm us,S0))(h:dO t e Y us [] S0=a_ (ys,S1))(hz:ys.length<big):bu it t e Y S=a_ (.ref S1.length,S1++[.lst ys]):=by
 simp only[bu,hi,ak,rA,h];exact if_pos hz
theorem kH(h:a Y S=a_ (.ref S1.length,S1++[.lst ys])):mFn bZ (aa a af) Y S=a_ (.tup ys,S1++[.lst ys]):=by
 unfold mFn;rw[lB h];show(dJ _ _).map _=_;have:dJ (S1++[Cell.lst ys]) (.ref S1.length)=a_ ys:=by
  show getL _ _=_;unfold getL;simp
 rw[this];rfl
theorem Hg{S:Sto}(ha:a Y S=a_ (.int n,S0))(hn:n<big)(g:Nat->U)(P:Nat->Sto->Prop)(h0:P 0 S0)
  (hs:∀(j:Nat) (S:Sto),j<n->P j S->∃S',e (Y++[a_ (.int j)]) S=a_ (g j,S')/\P (j+1) S'):
  ∃S',mFn bZ (aa (bu (iR1 (aa a af)) cTT e) af) Y S=a_ (yq n g,S'++[.lst ((av n).map g)])/\P n S':=by
 obtain⟨S1,e1,h1⟩:=mq g P (aU 0 n) 0 [] S0 h0 λj u S hj hp=>by
  have hl:=by have:=(ag.mp hj).1;simpa [aU]using this
  have hu:(aU 0 n)[j]?=a_ (.int j):=by simp[aU,hl]
  rw[hu]at hj;cases hj;simpa using hs j S hl (by simpa using hp)
 have hlen:(aU 0 n).length=n:=by simp[aU]
 simp[hlen]at e1 h1;exact⟨S1,kH (i8 (oi ha hn) e1 (by simp_all)),h1⟩
theorem MN{S:Sto}(ha:a Y S=a_ (.tup us,S0))(hn:us.length<big)(g:Nat->U)(P:Nat->Sto->Prop)(h0:P 0 S0)
  (hs:∀(j:Nat) (u:U) (S:Sto),us[j]?=a_ u->P j S->∃S',e (Y++[a_ u]) S=a_ (g j,S')/\P (j+1) S'):
  ∃S',mFn bZ (aa (bu (dh a) cTT e) af) Y S=a_ (yq us.length g,S'++[.lst ((av us.length).map g)])/\P us.length S':=by
 obtain⟨S1,e1,h1⟩:=mq g P us 0 [] S0 h0 λj u S hj hp=>by
  simpa using hs j u S hj (by simpa using hp)
 simp at e1 h1;exact⟨S1,kH (i8 (by unfold dh;rw[ha];rfl) e1 (by simp_all)),h1⟩
def ox(m:Nat)(T:Nat->Nat->Nat)(i:Nat):U:=yq m λj=>.int (T i j)
def tab(m:Nat)(T:Nat->Nat->Nat):U:=yq m (ox m T)
variable{i:Nat}
theorem mB{α:Type}{f:Nat->α}(h:i<m):atI ((av m).map f) (i:Int)=a_ (f i):=by
 simp[atI,ixN,h]
theorem oK(h:0<n)(hn:n<big):∃S',df [.int n] S=a_ (tab n (fA n),S')/\Ex S S':=by
 have key:∃S',mFn bZ (aa (bu (iR1 (aa (ae 0) af)) cTT (mFn bZ (aa (bu (iR1 (aa (ae 0) af)) cTT (m2 oMod (m2 cK (ae 1) (ae 2)) (ae 0))) af))) af) [a_ (.int n)] S=a_ (yq n (ox n (fA n)),S'++[.lst ((av n).map (ox n (fA n)))])/\Ex S S':=by
  refine Hg (by simp[ae]) hn _ (λ_ S'=>Ex S S') (Ex.refl S) λi S1 hi hx=>?_;obtain⟨S2,e2,h2⟩:=Hg (Y:= [a_ (.int n),a_ (.int i)]) (S:=S1) (a:=ae 0) (e:=m2 oMod (m2 cK (ae 1) (ae 2)) (ae 0)) (by simp[ae]) hn (λj=>.int (fA n i j)) (λ_ S'=>S'=S1) rfl λj S' hj hx=>by
   refine⟨S',?_,hx⟩;have h0:(0:Int)<n:=by omega
   simp only[m2,ae,List.cons_append,fK,List.getElem?_cons_succ,List.getElem?_cons_zero,ak,cK,oMod,h0,if_true,fA,mP,nJ]
  subst h2;exact⟨_,e2,hx.trans (Ex.push _ _)⟩
 obtain⟨S',e,hx⟩:=key;refine⟨S'++[.lst ((av n).map (ox n (fA n)))],?_,hx.trans (Ex.push _ _)⟩;simp[df,_G.run,lz,bO,c8,fH,bY,List.map_nil,Nat.sub_self,List.replicate_zero,fF,if_true,e,ak,tab]
theorem tu(h:0<n)(h2:n<1000):qM (n:Int):=⟨by omega,by omega⟩
theorem qA{i:Int}(h1: -1000000000<=i)(h2:i<=1000000000):jw i j:= .inl ⟨by omega,by omega⟩
theorem tE(h:n<1000000):jw (n:Int) j:=qA (by simp_all) (by omega)
def Agr(L:List Nat)(Y9 Y:Rho):Prop:=Y.length=Y9.length /\ ∀i,i∉L->Y[i]?=Y9[i]?
theorem Agr.refl(L:List Nat)(Y:Rho):Agr L Y Y:=⟨rfl,λ_ _=>rfl⟩
variable{L:List Nat}{Y9:Rho}{v:Option U}
theorem Agr.set(h:Agr L Y9 Y)(hi:i∈L):Agr L Y9 (Y.set i v):=
 ⟨by rw[dI];exact h.1,λj hj=>by rw[aD (by grind)];exact h.2 j hj⟩
structure Sm(b:Nat)(S0 S:Sto):Prop where
 len:S0.length<=S.length
 same:∀m,m<b->S[m]?=S0[m]?
theorem Sm.trans{b:Nat}{S0 S1 S2:Sto}(a:Sm b S0 S1)(c:Sm b S1 S2):Sm b S0 S2:=⟨aA a.len c.len,λm h=>(c.same m h).trans (a.same m h)⟩
variable{b:Nat}
theorem Sm.ex(h:Ex S0 S)(hb:b<=S0.length):Sm b S0 S:=⟨h.len,λm hm=>h.get (ax hm hb)⟩
theorem Sm.set(h:Sm b S0 S)(hn:b<=n):Sm b S0 (S.set n c):=
 ⟨by rw[dI];exact h.len,λm hm=>by rw[aD (by omega)];exact h.same m hm⟩
structure Wr(r:Nat)(S S':Sto):Prop where
 len:S.length<=S'.length
 same:∀m,m<S.length->m≠r->S'[m]?=S[m]?
theorem Wr.trans{r:Nat}{S S1 S2:Sto}(a:Wr r S S1)(b:Wr r S1 S2):Wr r S S2:=
 ⟨aA a.len b.len,λm h1 h2=>(b.same m (ax h1 a.len) h2).trans (a.same m h1 h2)⟩
theorem Wr.refl(r:Nat)(S:Sto):Wr r S S:=⟨ao _,λ_ _ _=>rfl⟩
variable{r:Nat}
theorem Wr.ex(h:Ex S S'):Wr r S S':=⟨h.len,λm hm _=>h.get hm⟩
theorem Wr.set(r:Nat)(S:Sto)(c:Cell):Wr r S (S.set r c):=⟨by simp,λm _ h=>aD (cY h)⟩
theorem Wr.sm(h:Wr r S S')(hb:b<=r)(hr:b<=S.length):Sm b S S':=⟨h.len,λm hm=>h.same m (by exact ax (by omega) (by omega)) (by omega)⟩
theorem nX(h:i<Y.length):(Y.set i v)[i]?=a_ v:=aN h
theorem var_eq(h:Y[i]?=a_ (a_ u)):ae i Y S=a_ (u,S):=by simp[ae,h]
variable{b:MS}
theorem oG(ha:a Y S=a_ (.int n,S))(h:n<big):fU i (iR1 (aa a af)) b Y S=pw i b (aU 0 n) Y S:=by
 unfold fU;rw[oi ha h];rfl
theorem l9{Y:Rho}{S:Sto}(ha:a Y S=a_ (.int n,S))(h:n<big)(P:Nat->Rho->Sto->Prop)(h0:P 0 Y S)
  (st:∀(j:Nat) (Y:Rho) (S:Sto),j<n->P j Y S->∃Y4 S',b (Y.set i (a_ (.int j))) S=a_ (.nx,Y4,S')/\P (j+1) Y4 S'):
  ∃Y4 S',fU i (iR1 (aa a af)) b Y S=a_ (.nx,Y4,S')/\P n Y4 S':=by
 rw[oG ha h];obtain⟨Y4,S',e,q⟩:=xk P (aU 0 n) 0 Y S h0 λj u Y S hj hp=>by
  have hl:=by have:=(ag.mp hj).1;simpa [aU]using this
  have hu:(aU 0 n)[j]?=a_ (.int j):=by simp[aU,hl]
  rw[hu]at hj;cases hj;simpa using st j Y S hl (by simpa using hp)
 have hlen:(aU 0 n).length=n:=by simp[aU]
 rw[hlen,dS]at q;exact⟨_,S',e,q⟩
variable{row:List U}
theorem append_eq{o:ME}(ho:o Y S=a_ (.ref r,S))(ha:a Y S=a_ (u,S1))(hr:S[r]?=a_ (Cell.lst row))(ZY:S1[r]?=a_ (Cell.lst row))(hl:row.length<big):
  dm (mML cW o (aa a af)) Y S=a_ (.nx,Y,S1.set r (Cell.lst (row++[u]))):=by
 simp[dm,mML,ho,ak,getL,hr,lB ha,cW,ZY,hl]
theorem om(ha:a Y S=a_ (.ref r,S))(hr:S[r]?=a_ (Cell.lst row)):mFn bZ (aa a af) Y S=a_ (.tup row,S):=by
 simp[mFn,lB ha,ak,bZ,dJ,getL,hr]
variable{T:Nat->Nat->Nat}
theorem build{fs rs is js:Nat}{U0:MS}(hm:m<big)(h1:rs∈L)(h2:is∈L)(h3:js∈L)(h4:fs∉L)(d1:rs≠is)(d2:js≠is)(d3:js≠rs)
  (l1:rs<Y9.length) (l2:is<Y9.length) (l3:js<Y9.length) (hf:Y9[fs]?=a_ (a_ (.ref S0.length)))
  (ha:∀Y S,Agr L Y9 Y->Sm S0.length S0 S->a Y S=a_ (.int m,S))
  (hb: ∀(i j r:Nat) (Y:Rho) (S:Sto) (row:List U),i<m->j<m->Agr L Y9 Y->Y[is]? = a_ (a_ (.int i))->Y[js]? = a_ (a_ (.int j))->Y[rs]? = a_ (a_ (.ref r))->Sm S0.length S0 S->S0.length<r->S[r]? = a_ (Cell.lst row)->row.length<big ->
   ∃Y4 S',U0 Y S=a_ (.nx,Y4,S')/\Agr L Y9 Y4/\Y4[is]? = a_ (a_ (.int i))/\Y4[rs]? = a_ (a_ (.ref r))/\Wr r S S'/\S'[r]? = a_ (Cell.lst (row++[.int (T i j)]))):
  ∃Y4 S',fU is (iR1 (aa a af)) (aW (bJ rs (b0 af)) (aW (fU js (iR1 (aa a af)) U0) (dm (mML cW (ae fs) (aa (mFn bZ (aa (ae rs) af)) af))))) Y9 (S0++[Cell.lst []])=a_ (.nx,Y4,S') /\
   Agr L Y9 Y4/\Sm S0.length S0 S'/\S'[S0.length]?=a_ (Cell.lst ((av m).map (ox m T))):=by
 have s0:Sm _ S0 (S0++[Cell.lst []]):=Sm.ex (Ex.push _ _) (ao _);refine l9 (P:=λk Y S=>Agr L _ Y/\Sm _ S0 S/\S0.length<S.length/\S[S0.length]?=a_ (Cell.lst ((av k).map _))) (ha _ _ (Agr.refl _ _) s0) hm ⟨Agr.refl _ _,s0,by simp,by simp⟩ ?_ |>.imp λY4 h=>h.imp λS' h=>⟨h.1,h.2.1,h.2.2.1,h.2.2.2.2⟩
 rintro i Y S hi ⟨g1,g2,g3,g4⟩;have e0:bJ rs (b0 af) (Y.set is (a_ (.int i))) S=a_ (.nx,(Y.set is (a_ (.int i))).set rs (a_ (.ref S.length)),S++[Cell.lst []]):=by
  have hz:([]:List U).length<=big:=gy _;simp[bJ,b0,af,ak,if_true]
 have ga:Agr L _ ((Y.set is (a_ (.int i))).set rs (a_ (.ref S.length))):=(g1.set h2).set h1;have gs:Sm _ S0 (S++[Cell.lst []]):=g2.trans (Sm.ex (Ex.push _ _) g2.len);obtain⟨Y2,S1,e1,q1,q2,q3,q4,q5⟩:=l9 (P:=λk Y2 S1=>Agr L _ Y2/\Y2[is]?=a_ _/\Y2[rs]?=a_ _/\Wr _ _ S1/\S1[S.length]?=a_ (Cell.lst ((av k).map _)))
  (ha _ _ ga gs) hm ⟨ga,by rw[aD d1,nX (by rw[g1.1];exact l2)],by rw[nX (by rw[dI,g1.1];exact l1)],Wr.refl _ _,by simp⟩ (by
   rintro j Y2 S1 hj ⟨q1,q2,q3,q4,q5⟩;have Vd:=gs.trans (q4.sm (br g3) (by simp;omega));obtain⟨Y',S2,f1,f2,f3,f4,f5,f6⟩:=hb i j _ _ S1 _ hi hj (q1.set h3) (by rw[aD d2];exact q2) (nX (by rw[q1.1];exact l3)) (by rw[aD d3];exact q3) Vd g3 q5 (by rw[aj,dH];exact dQ (by assumption) (by assumption))
   exact⟨_,S2,f1,f2,f3,f4,q4.trans f5,by rw[f6,vF,cN];rfl⟩)
 have g5:S1[S0.length]?=a_ (Cell.lst ((av i).map (ox m T))):=by
  rw[q4.same _ (by simp;exact sX (by assumption)) (by exact bx (by assumption)),(Ex.push S _).get g3];exact g4
 have Vd:=gs.trans (q4.sm (br g3) (by simp;omega));have Rx:ae fs _ S1=a_ _:=var_eq (by rw[q1.2 fs h4];exact hf);have e2:=append_eq Rx (om (var_eq q3) q5) g5 g5 (by rw[aj,dH];exact dQ (by assumption) (by assumption));refine⟨_,S1.set _ (Cell.lst ((av (i+1)).map (ox m T))),?_,q1,Vd.set (ao _),?_,?_⟩
 .simp only[aW,e0,e1,e2]
  rw[vF,cN];rfl
 .rw[dI];have:=q4.len;simp at this;exact dQ (by assumption) (by assumption)
 .exact aN (by have:=q4.len;simp at this;exact dQ (by assumption) (by assumption))
def ug:MS:=aW (bJ 5 (m2 oMod (m2 cK (m2 oMod (ae 2) (ae 0)) (m2 gY (m2 oIx (b0 (aa (mC (.int 1)) (aa (m1 ym (mC (.int 1))) af))) (m2 oDiv (ae 2) (ae 0))) (m2 oMod (ae 4) (ae 0)))) (ae 0))) (dm (mML cW (ae 3) (aa (m2 cK (ae 5) (m2 gY (ae 0) (m2 oMod (m2 cK (m2 oDiv (ae 2) (ae 0)) (m2 oDiv (ae 4) (ae 0))) (mC (.int 2))))) af)))
variable{f:Nat}
theorem AA{n i c:Int}{x y:Option U}(h0:0<n)(hd:qM n)(hc:atI [U.int 1,U.int (-1)] (i/n)=a_ (.int c))(k1:jw c (j%n))(k2:jw n ((i/n+j/n)%2))
  (hr:(S++[Cell.lst [U.int 1,U.int (-1)]])[r]?=a_ (Cell.lst row)) (hl:row.length<big):
  ug ([a_ (U.int n),a_ (U.ref f),a_ (U.int i),a_ (U.ref r),x,y].set 4 (a_ (U.int j))) S =
   a_ (Fl.nx,[a_ (U.int n),a_ (U.ref f),a_ (U.int i),a_ (U.ref r),a_ (U.int j),a_ (U.int ((i%n+c*(j%n))%n))],(S++[Cell.lst [U.int 1,U.int (-1)]]).set r (Cell.lst (row++[U.int ((i%n+c*(j%n))%n+n*((i/n+j/n)%2))]))):=by
 have WT:2<=big:=by decide
 simp[ug,aW,bJ,m2,m1,ae,mC,b0,aa,af,bnd,oMod,cK,gY,oDiv,oIx,iJ,ym,dJ,getL,h0,hd,WT,hc,k1,k2,dm,mML,cW,hr,hl]
variable{j:Nat}
theorem Ca{x y:Option U}(hn:0<n)(YI:n<1000)(hi:i<2*n)(hj:j<2*n)(hr:S[r]?=a_ (Cell.lst row))(hl:row.length<big):
  ∃z,ug ([a_ (U.int n),a_ (U.ref f),a_ (U.int i),a_ (U.ref r),x,y].set 4 (a_ (U.int j))) S =
   a_ (Fl.nx,[a_ (U.int n),a_ (U.ref f),a_ (U.int i),a_ (U.ref r),a_ (U.int j),z],(S++[Cell.lst [U.int 1,U.int (-1)]]).set r (Cell.lst (row++[U.int (hU n i j:Nat)]))):=by
 have hd:=tu hn YI;have h0:(0:Int)<n:=by omega
 have ZU:=(Ex.push S (Cell.lst [U.int 1,U.int (-1)])).some hr;have hk:jw n ((i/n+j/n)%2):=tE (by exact ax (by omega) (by decide));have hc:∃c:Int,atI [U.int 1,U.int (-1)] (i/n)=a_ (.int c)/\jw c (j%n)/\(i%n+c*(j%n))%n+n*((i/n+j/n)%2)=(hU n i j):=by
  rcases half hi with⟨h1,h2,h3⟩|⟨h1,h2,h3⟩
  .refine⟨1,?_,qA (by decide) (by decide),?_⟩
   .have:(i:Int)/n=0:=by rw[<-vC,h3];rfl
    rw[this];rfl
   .unfold hU<;>simp_all
  .refine⟨-1,?_,qA (by decide) (by decide),?_⟩
   .have:(i:Int)/n=1:=by rw[<-vC,h3];rfl
    rw[this];rfl
   .unfold hU
    have hjm:j%n<n:=r9 _ hn;rw[if_neg (by omega)];have e1:(i%n + -1*((j:Int)%n))%n=((i%n+(n-j%n))%n:Nat):=by
     have e2:((n-j%n:Nat):Int)=n-j%n:=by omega
     rw[mP,nJ,e2,mP];rw[show i%n+(n-j%n)=(i%n + -1*((j:Int)%n))+n by omega,Int.add_emod_right]
    rw[e1];rfl
 obtain⟨c,c1,c2,c3⟩:=hc;rw[<-c3];exact⟨_,AA h0 hd c1 c2 hk ZU hl⟩
variable{Y2:Rho}
theorem aE{a:MS}(h:a Y S=a_ (.nx,Y2,S1)):aW a b Y S=b Y2 S1:=by simp[aW,h]
theorem bP(h:e Y S=a_ (u,S1)):bO e Y S=a_ (.rt u,Y,S1):=by simp[bO,h,ak]
theorem bS(h:e Y S=a_ (u,S1)):bJ i e Y S=a_ (.nx,Y.set i (a_ u),S1):=by simp[bJ,h,ak]
theorem my:b0 af Y S=a_ (.ref S.length,S++[Cell.lst []]):=by
 simp[b0,af,ak]
theorem bw{k:Nat}(hl:us.length=k)(h:b (us.map a_++bI (n-k) b_) S=a_ (.rt u,Y,S1)):_G.run k n b us S=a_ (u,S1):=by
 simp[_G.run,hl,h]
theorem Sm.toEx(h:Sm S.length S S'):Ex S S':=by
 refine⟨S'.drop S.length,List.ext_getElem? λi=>?_⟩;by_cases hi:i<S.length
 .rw[aS hi];exact h.same i hi
 .rw[bp (by simp_all),List.getElem?_drop];grind
theorem OI(h:Y.length=6):∃a b c d e f,Y=[a,b,c,d,e,f]:=by
 have k:∀{n:Nat}{l:Rho},l.length=n+1->∃a r,l=a::r/\r.length=n:=λ{n l} h=>by
  cases l with
  |nil=>cases h
  |cons a r=>exact⟨a,r,rfl,xX h⟩
 obtain⟨a,r1,rfl,h1⟩:=k h;obtain⟨b,r2,rfl,h2⟩:=k h1;obtain⟨c,r3,rfl,h3⟩:=k h2;obtain⟨d,r4,rfl,h4⟩:=k h3;obtain⟨e,r5,rfl,h5⟩:=k h4;obtain⟨f,r6,rfl,h6⟩:=k h5
 grind
theorem wG(hn:0<n)(YI:n<1000):∃S',fq [.int n] S=a_ (tab (2*n) (hU n),S')/\Ex S S':=by
 have ZJ:2*n<big:=by unfold big;omega
 obtain⟨Y2,S1,e1,q1,q2,q3⟩:=build (fs:=1) (rs:=3) (is:=2) (js:=4) (L:= [2,3,4,5]) (Y9:= [a_ (.int n),a_ _,b_,b_,b_,b_]) (a:=m2 gY (mC (.int 2)) (ae 0))
  ZJ (by decide) (by decide) (by decide) (by decide) (by decide) (by decide) (by decide) (by simp) (by simp) (by simp) rfl
  (λY S' g s=>by
   have h0:=g.2 0 (by decide);have hk:jw 2 n:=qA (by decide) (by decide);simp only[m2,mC,ak,var_eq h0,gY,hk]
   rfl)
  (λi j r Y S' row hi hj g gi gj gr s hr he hl=>by
   obtain⟨a,b,c,d,e,f,rfl⟩:=OI g.1;have h0:=g.2 0 (by decide);have h1:=g.2 1 (by decide);simp at h0 h1 gi gj gr;subst h0 h1 gi gj gr;obtain⟨z,ez⟩:=Ca (x:=b_) hn YI hi hj he hl;refine⟨_,_,ez,⟨rfl,λk hk=>?_⟩,rfl,rfl,(Wr.ex (Ex.push _ _)).trans (Wr.set _ _ _),?_⟩
   .match k with
    |0=>rfl
    |1=>rfl
    |2=>exact absurd (by decide) hk
    |3=>exact absurd (by decide) hk
    |4=>exact absurd (by decide) hk
    |5=>exact absurd (by decide) hk
    |k+6=>rfl
   ·exact aN (by have:=(ag.mp he).1;simp;exact sX (by assumption)))
 have e2:=om (var_eq (by rw[q1.2 1 (by decide)];rfl)) q3;refine⟨S1,bw (Y:=Y2) rfl ?_,?_⟩
 .exact(aE (bS my)).trans ((aE e1).trans (bP e2))
 .exact q2.toEx
section
variable {Y:Rho}{S S1 S2:Sto}{a b:ME}
theorem op2{f:F2}{x y:U}{r:Res U}(ha:a Y S=a_ (x,S1))(hb:b Y S1=a_ (y,S2))(h:f x y S2=r):m2 f a b Y S=r:=by simp[m2,ha,hb,ak,h]
variable{z:Int}
theorem M9(ha:a Y S=a_ (.tup us,S1))(hb:b Y S1=a_ (.int z,S2))(h:atI us z=a_ u):m2 oIx a b Y S=a_ (u,S2):=op2 ha hb (by simp[oIx,iJ,dJ,h])
theorem y9(ha:a Y S=a_ (.ref n,S1))(hb:b Y S1=a_ (.int z,S2))(hn:S2[n]?=a_ (Cell.lst us))(h:atI us z=a_ u):m2 oIx a b Y S=a_ (u,S2):=op2 ha hb (by simp[oIx,iJ,dJ,getL,hn,h])
variable{x y:Int}
theorem LV(ha:a Y S=a_ (.int x,S1))(hb:b Y S1=a_ (.int y,S2)):m2 cK a b Y S=a_ (.int (x+y),S2):=op2 ha hb rfl
theorem Hw(ha:a Y S=a_ (.int x,S1))(hb:b Y S1=a_ (.int y,S2)):m2 yh a b Y S=a_ (.int (x-y),S2):=op2 ha hb rfl
theorem K1(ha:a Y S=a_ (.int x,S1))(hb:b Y S1=a_ (.int y,S2))(h:jw x y):m2 gY a b Y S=a_ (.int (x*y),S2):=op2 ha hb (if_pos h)
theorem Nb(ha:a Y S=a_ (.int x,S1))(hb:b Y S1=a_ (.int y,S2))(h:qM y):m2 oDiv a b Y S=a_ (.int (x/y),S2):=op2 ha hb (if_pos h)
theorem HB(ha:a Y S=a_ (.int x,S1))(hb:b Y S1=a_ (.int y,S2))(h:0<y):m2 oMod a b Y S=a_ (.int (x%y),S2):=op2 ha hb (if_pos h)
theorem c_i:mC (.int z) Y S=a_ (.int z,S):=rfl
theorem nZ(ha:a Y S=a_ (.tup us,S1)):mFn cJ (aa a af) Y S=a_ (.int us.length,S1):=by
 simp[mFn,lB ha,ak,cJ,iJ,dJ]
theorem len_tab(ha:a Y S=a_ (tab m T,S1)):mFn cJ (aa a af) Y S=a_ (.int m,S1):=by
 rw[nZ ha,aj,dH]
theorem eS(hi:i<m)(ha:a Y S=a_ (tab m T,S1))(hb:b Y S1=a_ (.int i,S2)):m2 oIx a b Y S=a_ (ox m T i,S2):=M9 ha hb (mB hi)
theorem eP(hj:j<m)(ha:a Y S=a_ (ox m T i,S1))(hb:b Y S1=a_ (.int j,S2)):m2 oIx a b Y S=a_ (.int (T i j),S2):=M9 ha hb (mB hj)
variable{x y:Nat}
theorem tP(ha:a Y S=a_ (.int x,S1))(hb:b Y S1=a_ (.int y,S2))(h:0<y)(h2:y<1000):m2 oDiv a b Y S=a_ (.int (x/y:Nat),S2):=by rw[Nb ha hb (tu h h2),vC]
theorem Cg(ha:a Y S=a_ (.int x,S1))(hb:b Y S1=a_ (.int y,S2))(h:0<y):m2 oMod a b Y S=a_ (.int (x%y:Nat),S2):=by rw[HB ha hb (by omega),mP]
theorem BM(ha:a Y S=a_ (.int x,S1))(hb:b Y S1=a_ (.int y,S2))(h:x<1000000):m2 gY a b Y S=a_ (.int (x*y:Nat),S2):=by rw[K1 ha hb (tE h),Int.natCast_mul]
theorem add_n(ha:a Y S=a_ (.int x,S1))(hb:b Y S1=a_ (.int y,S2)):m2 cK a b Y S=a_ (.int (x+y:Nat),S2):=by rw[LV ha hb,nJ]
end
theorem Agr.of(h:Agr L Y9 Y)(hi:i∉L)(e:Y9[i]?=a_ v):Y[i]?=a_ v:=(h.2 i hi).trans e
def OS:MS:=aW (bJ 7 (m2 oIx (m2 oIx (ae 0) (m2 oDiv (ae 4) (ae 2))) (m2 oDiv (ae 6) (ae 2)))) (dm (mML cW (ae 5) (aa (m2 cK (m2 gY (ae 7) (ae 2)) (m2 oIx (m2 oIx (ae 1) (m2 oMod (ae 4) (ae 2))) (m2 oMod (ae 6) (ae 2)))) af)))
theorem GS{k:Nat}{A B:Nat->Nat->Nat}(hk:0<k)(WB:k<1000)(hm:0<m)(Zb:m<1000)(ca:∀i j,i<k->j<k->A i j<k):∃S',kM [tab k A,tab m B] S=a_ (tab (k*m) (rG m A B),S')/\Ex S S':=by
 have U5:=by
  calc k*m<=999*m:=Nat.mul_le_mul_right m (by exact sZ (by assumption))
   _<=999*999:=qp _ (by exact sZ (by assumption))
   _<1000000:=by decide
 have ZJ:k*m<big:=by exact ax (by assumption) (by decide)
 have dl:∀i,i<k*m->i/m<k:=λi hi=>Nat.div_lt_of_lt_mul (by rw[ki];exact hi);have rl:∀i,i%m<m:=λi=>r9 _ hm;obtain⟨Y2,S1,e1,q1,q2,q3⟩:=build (fs:=3) (rs:=5) (is:=4) (js:=6) (L:= [4,5,6,7]) (Y9:= [a_ _,a_ (tab m B),a_ _,a_ _,b_,b_,b_,b_]) (a:=m2 _ (mFn _ (aa (ae 0) _)) (ae 2)) (T:=rG m A B)
  ZJ (by decide) (by decide) (by decide) (by decide) (by decide) (by decide) (by decide) (by simp) (by simp) (by simp) rfl
  (λY S' g s=>BM (len_tab (var_eq (g.of (by decide) rfl))) (var_eq (g.of (by decide) rfl)) (by exact ax (by assumption) (by decide)))
  (λi j r Y S' row hi hj g gi gj gr s hr he hl=>by
   have v0:∀S',ae 0 Y S'=a_ _:=λS'=>var_eq (g.of (by decide) rfl);have v2:∀S',ae 2 Y S'=a_ _:=λS'=>var_eq (g.of (by decide) rfl);have e7:m2 _ _ _ Y S'=a_ _:=
    eP (dl j hj) (eS (dl i hi) (v0 _) (tP (var_eq gi) (v2 _) hm Zb)) (tP (var_eq gj) (v2 _) hm Zb)
   have hlen:Y.length=8:=g.1;have g':Agr _ _ (Y.set 7 (a_ (.int (A (i/m) (j/m))))):=g.set (by decide);have w2:∀S',ae 2 _ S'=a_ _:=λS'=>var_eq (g'.of (by decide) rfl);have w1:∀S',ae 1 _ S'=a_ _:=λS'=>var_eq (g'.of (by decide) rfl);have w7:∀S',ae 7 (Y.set 7 _) S'=a_ (.int (A (i/m) (j/m)),S'):=λS'=>var_eq (nX (by omega));have n4:(Y.set 7 (a_ (.int (A (i/m) (j/m)))))[4]?=a_ (a_ (.int i)):=by rw[aD (by decide)];exact gi
   have n5:(Y.set 7 (a_ (.int (A (i/m) (j/m)))))[5]?=a_ (a_ (.ref r)):=by rw[aD (by decide)];exact gr
   have n6:(Y.set 7 (a_ (.int (A (i/m) (j/m)))))[6]?=a_ (a_ (.int j)):=by rw[aD (by decide)];exact gj
   have hA:A _ _<1000000:=dQ (ca _ _ (dl i hi) (dl j hj)) (by exact ax (by assumption) (by decide));have ev:m2 _ _ _ _ S'=a_ _:=
    add_n (BM (w7 _) (w2 _) hA) (eP (rl j) (eS (rl i) (w1 _) (Cg (var_eq n4) (w2 _) hm)) (Cg (var_eq n6) (w2 _) hm))
   exact⟨_,_,(aE (bS e7)).trans (append_eq (var_eq n5) ev he he hl),g',n4,n5,Wr.set _ _ _,aN (ag.mp he).1⟩)
 have e2:mFn _ (aa (ae 3) _) _ S1=a_ _:=om (var_eq (q1.of (by decide) rfl)) q3;refine⟨S1,bw (Y:=Y2) rfl ?_,q2.toEx⟩;exact(aE (bS (len_tab (var_eq rfl)))).trans ((aE (bS my)).trans ((aE e1).trans (bP e2)))
def so:Nat->Nat->Nat:=λa b=>([[0,0,0,0],[0,1,0,1],[0,1,1,0],[0,0,1,1]].getD a []).getD b 0
def Df:Nat->Nat->Nat:=λa b=>([[0,1,2,3],[1,0,3,2],[2,3,0,1],[3,2,1,0]].getD a []).getD b 0
def wZ(i j:Nat):Nat:=2*Df (i/2) (j/2)+(i+j+so (i/2) (j/2))%2
theorem CD:((av 8).all λi=>(av 8).all λj=>wZ i j==gU i j)=c_:=by decide +kernel
theorem Bh(hi:i<8)(hj:j<8):wZ i j=gU i j:=by
 have h:=aC.mp (aC.mp CD i (cj.mpr hi)) j (cj.mpr hj);exact eq_of_beq h
def Oi:MS:=aW (bJ 6 (m2 oMod (m2 cK (m2 cK (ae 3) (ae 5)) (m2 oIx (m2 oIx (ae 0) (m2 oDiv (ae 3) (mC (.int 2)))) (m2 oDiv (ae 5) (mC (.int 2))))) (mC (.int 2)))) (dm (mML cW (ae 4) (aa (m2 cK (m2 gY (mC (.int 2)) (m2 oIx (m2 oIx (ae 1) (m2 oDiv (ae 3) (mC (.int 2)))) (m2 oDiv (ae 5) (mC (.int 2))))) (ae 6)) af)))
def uo(T:Nat->Nat->Nat)(a:Nat):Cell:= .lst ((av 4).map λb=>.int (T a b))
def DP(s:Nat):Cell:= .lst ((av 4).map λa=>.ref (s+a))
def ten(s:Nat):Sto:= [uo so 0,uo so 1,uo so 2,uo so 3,DP s,uo Df 0,uo Df 1,uo Df 2,uo Df 3,DP (s+5)]
theorem look{k:Nat}(s:Sm (S++ten S.length).length (S++ten S.length) S')(hk:(ten S.length)[k]?=a_ c)(hn:n=S.length+k):S'[n]?=a_ c:=by
 have hl:=(ag.mp hk).1;rw[s.same n (by grind)]
 grind
variable{x q:Nat}
theorem vY{S:Sto}{v p y:Nat}(hv:Y[v]?=a_ (a_ (.ref x)))(hx:S'[x]?=a_ (DP y))(hy:∀a,a<4->S'[y+a]?=a_ (uo T a))(hi:Y[p]?=a_ (a_ (.int i)))(hj:Y[q]?=a_ (a_ (.int j)))(li:i<8)(lj:j<8):
  m2 oIx (m2 oIx (ae v) (m2 oDiv (ae p) (mC (.int 2)))) (m2 oDiv (ae q) (mC (.int 2))) Y S'=a_ (.int (T (i/2) (j/2)),S'):=
 y9 (y9 (var_eq hv) (tP (y:=2) (var_eq hi) c_i (by decide) (by decide)) hx (mB (by omega))) (tP (y:=2) (var_eq hj) c_i (by decide) (by decide)) (hy _ (by omega)) (mB (by omega))
theorem jF{x y z w:Int}:b0 (aa (mC (.int x)) (aa (mC (.int y)) (aa (mC (.int z)) (aa (mC (.int w)) af)))) Y S=a_ (.ref S.length,S++[Cell.lst [.int x,.int y,.int z,.int w]]):=by
 have hz:4<=big:=by decide
 simp[b0,aa,mC,af,ak,hz]
variable{b:ME}
theorem xf{S3 S4:Sto}{c d:ME}{x y z w:U}(ha:a Y S=a_ (x,S1))(hb:b Y S1=a_ (y,S2))(hc:c Y S2=a_ (z,S3))(hd:d Y S3=a_ (w,S4)):
  b0 (aa a (aa b (aa c (aa d af)))) Y S=a_ (.ref S4.length,S4++[Cell.lst [x,y,z,w]]):=by
 have hz:4<=big:=by decide
 simp only[b0,aa,af,ak,ha,hb,hc,hd];simp[hz]
theorem yp:∃S',ix [] S=a_ (tab 8 gU,S')/\Ex S S':=by
 have e0:=xf (Y:= [b_,b_,b_,b_,b_,b_,b_]) (S:=S) (jF (x:=0) (y:=0) (z:=0) (w:=0)) (jF (x:=0) (y:=1) (z:=0) (w:=1)) (jF (x:=0) (y:=1) (z:=1) (w:=0)) (jF (x:=0) (y:=0) (z:=1) (w:=1));have e1:=xf (Y:= [a_ (.ref (S.length+4)),b_,b_,b_,b_,b_,b_]) (S:=S++(ten S.length).take 5) (jF (x:=0) (y:=1) (z:=2) (w:=3)) (jF (x:=1) (y:=0) (z:=3) (w:=2)) (jF (x:=2) (y:=3) (z:=0) (w:=1)) (jF (x:=3) (y:=2) (z:=1) (w:=0));have Sj:=e0.trans (by simp;rfl);have Rh:=e1.trans (by simp;rfl);obtain⟨Y2,S1,f1,q1,q2,q3⟩:=build (fs:=2) (rs:=4) (is:=3) (js:=5) (L:= [3,4,5,6]) (Y9:= [a_ _,a_ _,a_ _,b_,b_,b_,b_]) (m:=8)
  (by decide) (by decide) (by decide) (by decide) (by decide) (by decide) (by decide) (by decide) (by simp) (by simp) (by simp) rfl
  (λY S' g s=>rfl)
  (λi j r Y S' row hi hj g gi gj gr s hr he hl=>by
   have hlen:Y.length=7:=g.1;have hs:∀a,a<4->S'[S.length+a]?=a_ _:=λa ha=>look s (by match a,ha with | 0,_=>rfl | 1,_=>rfl | 2,_=>rfl | 3,_=>rfl) rfl;have SM:∀a,a<4->S'[S.length+5+a]?=a_ _:=λa ha=>look (k:=5+a) s (by match a,ha with | 0,_=>rfl | 1,_=>rfl | 2,_=>rfl | 3,_=>rfl) (by omega);have t1:=vY (S:=S) (v:=0) (g.of (by decide) rfl) (look (k:=4) s rfl rfl) hs gi gj hi hj;have e6:=
    Cg (y:=2) (add_n (add_n (var_eq gi) (var_eq gj)) t1) c_i (by decide)
   have g':Agr _ _ (Y.set 6 (a_ (.int ((i+j+so (i/2) (j/2))%2)))):=g.set (by decide);have n3:(Y.set 6 (a_ (.int ((i+j+so (i/2) (j/2))%2))))[3]?=a_ (a_ (.int i)):=by rw[aD (by decide)];exact gi
   have n4:(Y.set 6 (a_ (.int ((i+j+so (i/2) (j/2))%2))))[4]?=a_ (a_ (.ref r)):=by rw[aD (by decide)];exact gr
   have n5:(Y.set 6 (a_ (.int ((i+j+so (i/2) (j/2))%2))))[5]?=a_ (a_ (.int j)):=by rw[aD (by decide)];exact gj
   have t2:=vY (S:=S) (v:=1) (g'.of (by decide) rfl) (look (k:=9) s rfl rfl) SM n3 n5 hi hj;have ev:m2 cK (m2 gY (mC (.int 2)) (m2 oIx (m2 oIx (ae 1) (m2 oDiv (ae 3) (mC (.int 2)))) (m2 oDiv (ae 5) (mC (.int 2))))) (ae 6) (Y.set 6 (a_ (.int ((i+j+so (i/2) (j/2))%2)))) S'=a_ (.int (gU i j),S'):=by
    rw[<-Bh hi hj];exact add_n (BM c_i t2 (by decide)) (var_eq (nX (by omega)))
   exact⟨_,_,(aE (bS e6)).trans (append_eq (var_eq n4) ev he he hl),g',n3,n4,Wr.set _ _ _,aN (ag.mp he).1⟩)
 have f2:mFn _ (aa (ae 2) _) Y2 S1=a_ _:=om (var_eq (q1.of (by decide) rfl)) q3;refine⟨S1,bw (Y:=Y2) rfl ?_,Ex.trans ⟨_,rfl⟩ q2.toEx⟩;exact(aE (bS Sj)).trans ((aE (bS Rh)).trans ((aE (bS my)).trans ((aE f1).trans (bP f2))))
theorem tz{e:ME}{Y:Rho}(P:List U->Sto->Prop):∀(us acc:List U) (S:Sto),P acc S ->
  (∀(k:Nat) (Zq:List U) (u:U) (S:Sto),us[k]?=a_ u->Zq.length=acc.length+k->P Zq S->∃v S',e (Y++[a_ u]) S=a_ (v,S')/\P (Zq++[v]) S') ->
  ∃ys S',dO cTT e Y us acc S=a_ (ys,S')/\P ys S'/\ys.length=acc.length+us.length
 |[],acc,S,h,_=>⟨_,S,rfl,h,by simp⟩
 | u::us,acc,S,h,st=>by
   obtain⟨v,S1,e1,h1⟩:=st 0 _ u S rfl (by simp) h;obtain⟨ys,S2,e2,h2,h3⟩:=tz P us _ S1 h1 λk Zq w S hk hl hp=>st (k+1) _ w S (by simpa using hk) (by simp at hl;omega) hp;refine⟨ys,S2,?_,h2,by grind⟩;show bnd _ _=_;simp[cTT,ak];rw[e1];exact e2
theorem tQ{S:Sto}(ha:a Y S=a_ (.int n,S0))(hn:n<big)(P:List U->Sto->Prop)(h0:P [] S0)
  (hs:∀(k:Nat) (acc:List U) (S:Sto),k<n->acc.length=k->P acc S->∃v S',e (Y++[a_ (.int k)]) S=a_ (v,S')/\P (acc++[v]) S'):
  ∃ys S',mFn bZ (aa (bu (iR1 (aa a af)) cTT e) af) Y S=a_ (.tup ys,S'++[.lst ys])/\P ys S'/\ys.length=n:=by
 obtain⟨ys,S1,e1,h1,h2⟩:=tz P (aU 0 n) [] S0 h0 λk acc u S hk hl hp=>by
  have ZN:=by have:=(ag.mp hk).1;simpa [aU]using this
  have hu:(aU 0 n)[k]?=a_ (.int k):=by simp[aU,ZN]
  rw[hu]at hk;cases hk;exact hs k _ S ZN (by simpa using hl) hp
 have hlen:(aU 0 n).length=n:=by simp[aU]
 rw[hlen]at h2;simp at h2;exact⟨ys,S1,kH (i8 (oi ha hn) e1 (by rw[h2];omega)),h1,h2⟩
theorem Stp.set(h:Stp n S S')(hr:S.length<=r)(hn:r≠n):Stp n S (S'.set r c):=by
 refine⟨by rw[dI];exact h.len,λm h1 h2=>by rw[aD (by omega)];exact h.same m h1 h2,?_⟩;obtain⟨s,b,e⟩:=h.st;exact⟨s,b,by simp_all⟩
theorem Stp.step(a:Stp n S S1)(e:Ex S1 S2):Stp n S S2:=a.trans (Stp.ex a.st e)
theorem dB{f:MF}{x y:U}{r:Res U}(ha:a Y S=a_ (x,S1))(hb:b Y S1=a_ (y,S2))(h:f [x,y] S2=r):mFn f (aa a (aa b af)) Y S=r:=by
 simp[mFn,aa,af,ha,hb,ak,h]
theorem cy{f:MF}{x:U}{r:Res U}(ha:a Y S=a_ (x,S1))(h:f [x] S1=r):mFn f (aa a af) Y S=r:=by
 simp[mFn,lB ha,ak,h]
theorem Nk(ha:a Y S=a_ (.ref r,S))(hr:S[r]?=a_ (Cell.lst us)):mFn cJ (aa a af) Y S=a_ (.int us.length,S):=
 cy ha (by simp[cJ,iJ,dJ,getL,hr])
theorem pD{α β:Type}(f:α->β):∀(l:List α) (j:Nat),(l.map f).eraseIdx j=(l.eraseIdx j).map f
 |[],_=>rfl
 |_::_,0=>rfl
 |x::l,j+1=>by simp[pD f l j]
def aV(l:List Nat):List U:=l.map λ(x:Nat)=>U.int x
variable{l:List Nat}
theorem CG{o:ME}(ho:o Y S=a_ (.ref r,S))(ha:a Y S=a_ (.int j,S1))(hr:S[r]?=a_ (Cell.lst (aV l)))(ZY:S1[r]?=a_ (Cell.lst (aV l)))(hj:j<l.length)(hl:l.length<big):
  mML jS o (aa a af) Y S=a_ (.int l[j],S1.set r (Cell.lst (aV (l.eraseIdx j)))):=by
 have hok:okR j:=qG (by exact dQ (by omega) (by omega));have hx:ixN (aV l).length j=a_ j:=by
  have:(aV l).length=l.length:=by simp[aV]
  rw[this];simp[ixN,hj]
 have hg:(aV l)[j]?=a_ (.int l[j]):=by simp[aV,hj]
 have he:(aV l).eraseIdx j=aV _:=pD _ _ _;simp[mML,ho,ak,getL,hr,lB ha,jS,ZY,hok,hx,hg,he]
theorem Bn{i j:Int}(ha:a Y S=a_ (.int i,S))(hb:b Y S=a_ (.int j,S))(h1:okR i)(h2:okR j)(hz:(aU i (j-i).toNat).length<=big):nB (iR2 (aa a (aa b af))) Y S=a_ (.ref S.length,S++[Cell.lst (aU i (j-i).toNat)]):=by
 have e:iR2 (aa a (aa b af)) Y S=a_ (.imm (aU i (j-i).toNat),S):=by
  unfold iR2;simp only[aa,af,ha,hb,ak]
  simp_all
 simp[nB,e,ak,hz]
variable{xs:List U}
theorem cat_t(ha:a Y S=a_ (.tup xs,S1))(hb:b Y S1=a_ (.tup ys,S2))(hz:xs.length+ys.length<=big):m2 cK a b Y S=a_ (.tup (xs++ys),S2):=op2 ha hb (by simp[cK,hz])
theorem rq(m:Nat)(hm:0<m):aU 1 ((m:Int)-1).toNat=aV (dR 1 (m-1)):=by
 unfold aU aV;rw[List.range'_eq_map_range]
 simp_all
theorem DC(h:iQ n S)(hm:0<m)(Zb:m<1000):∃l S',jA [.ref n,.int m] S=a_ (.tup (aV l),S')/\Stp n S S'/\oZ m l:=by
 have hn:=h.lt;have ZJ:m<big:=by exact ax (by assumption) (by decide)
 have e0:nB (iR2 (aa (mC (.int 1)) (aa (ae 1) af))) [a_ (.ref n),a_ (.int m),b_] S=a_ (.ref S.length,S++[Cell.lst (aV (dR 1 (m-1)))]):=by
  rw[Bn rfl (var_eq rfl) ⟨by decide,by decide⟩ (qG ZJ) (by rw[rq m hm,aV,aj,List.length_range'];exact aA (nG m 1) (br ZJ)),rq m hm]
 have RG:Stp n S (S++[Cell.lst (aV (dR 1 (m-1)))]):=Stp.ex h (Ex.push _ _);obtain⟨ys,S1,e1,⟨tk,rem,rfl,q1,q2,q3⟩,e2⟩:=tQ (Y:= [a_ _,a_ _,a_ _])
  (a:=m2 _ (ae 1) _)
  (by rw[Hw (var_eq rfl) c_i];congr 3;exact(Int.natCast_sub hm).symm) (a9 (nG m 1) ZJ)
  (λacc S'=>∃tk rem:List Nat,acc=aV tk/\S'[S.length]?=a_ (Cell.lst (aV rem))/\(tk++rem).Perm (dR 1 (m-1))/\Stp n S S')
  ⟨[],dR 1 (m-1),rfl,by simp,by simp,RG⟩
  (by
   rintro k acc S' hk hl ⟨tk,rem,rfl,q1,q2,q3⟩;have htk:=by simpa [aV]using hl
   have Yq:rem.length=m-1-k:=by
    have:=q2.length_eq;rw[dv,List.length_range',htk]at this;rw[<-this,Nat.add_sub_cancel_left]
   have RB:0<rem.length:=by rw[Yq];exact Nat.sub_pos_of_lt hk
   have ZY:rem.length<1000:=by rw[Yq];exact a9 (aA (nG _ _) (nG _ _)) Zb
   obtain⟨r,S2,t1,t2,t3,t4,t5⟩:=va q3.st (fD.mpr RB) (by omega);obtain⟨j,rfl⟩:=mQ t2;have hj:=fD.mp t3;have ho:∀S',ae 2 ([a_ (U.ref n),a_ (.int m),a_ (.ref S.length)]++[a_ (.int k)]) S'=a_ _:=λS'=>var_eq rfl;have hv:∀S',ae 0 ([a_ (U.ref n),a_ (.int m),a_ (.ref S.length)]++[a_ (.int k)]) S'=a_ _:=λS'=>var_eq rfl;have hlen:mFn cJ (aa (ae 2) af) ([a_ (U.ref n),a_ (.int m),a_ (.ref S.length)]++[a_ (.int k)]) S'=a_ (.int rem.length,S'):=by
    rw[Nk (ho _) q1];simp[aV]
   have U4:=t4.some (by exact gH (by assumption)) q1;refine⟨_,_,CG (ho _) (dB (hv _) hlen t1) q1 U4 hj (by exact ax ZY (by decide)),tk++[rem[j]],rem.eraseIdx j,by simp[aV],?_,?_,?_⟩
   .exact aN (ag.mp U4).1
   .refine List.Perm.trans ?_ q2
    rw[fX];exact(rS rem j hj).append_left tk
   ·exact(q3.trans t4).set (ao _) (by exact gH (by assumption)))
 have Yq:rem=[]:=by
  have:=q2.length_eq;simp[aV]at this e2;exact ju (by omega)
 subst Yq;rw[fF]at q2;refine⟨_,S1++[Cell.lst (aV tk)],bw (Y:= [a_ (.ref n),a_ (.int m),a_ (.ref S.length)]) rfl ?_,q3.step (Ex.push _ _),AY hm q2⟩;refine(aE (bS e0)).trans (bP ?_);have ez:gZ (aa (mC (.int 0)) af) [a_ (.ref n),a_ (.int m),a_ (.ref S.length)] (S++[Cell.lst (aV (dR 1 (m-1)))])=a_ (.tup [.int 0],S++[Cell.lst (aV (dR 1 (m-1)))]):=by
  have SO:1<=big:=by decide
  simp[gZ,lB (show mC _ _ _=a_ _ from rfl),ak,SO]
 exact cat_t ez e1 (by simp[aV]at e2 ⊢;omega)
theorem Oh{i:Int}:toD S (f+1) (.int i)=a_ (.int i):=rfl
theorem nS{S:Sto}{f:Nat}:∀(l:List Nat),c9 (toD S (f+1)) (aV l)=a_ (l.map λ(x:Nat)=>bz x)
 |[]=>rfl
 | x::l=>by
   show(toD S _ _).bind _=_;rw[show List.map _ l=aV l from rfl,nS l];rfl
theorem vL(x:Nat):∀(l:List Nat),x∈l->(l.map λ(x:Nat)=>bz x).findIdx? (λy=>bL y (.int x))=a_ (l.idxOf x)
 |[],h=>by simp at h
 | y::l,h=>by
   have e:bL (.int y) (.int x)=decide (y=x):=by
    simp[bL]<;>grind
   rw[bY,List.findIdx?_cons,e,List.idxOf_cons];by_cases hxy:y=x
   .subst hxy;simp
   .have hm:x∈l:=by
     grind
    have hb:(y==x)=d_:=by simpa using hxy
    rw[vL x l hm];simp[hxy,hb]
theorem Ga(h:x∈l):B5 S (.int x) (aV l)=a_ (l.idxOf x):=by
 unfold B5;rw[nS l];exact vL x l h
theorem CT{o:ME}(ho:o Y S=a_ (.tup (aV l),S))(ha:a Y S=a_ (.int x,S1))(h:x∈l):mMT ku o (aa a af) Y S=a_ (.int (l.idxOf x:Nat),S1):=by
 simp only[mMT,ho,ak,lB ha,ku,Ga h];rfl
theorem xF(h:(aV l)[j]?=a_ u):j<l.length/\u=.int (oF l j):=by
 have hl:=by have:=(ag.mp h).1;simpa [aV]using this
 have:(aV l)[j]?=a_ (.int l[j]):=by simp[aV,hl]
 rw[this]at h;cases h;exact⟨hl,by simp[oF,hl]⟩
theorem gO(l:List Nat):(aV l).length=l.length:=by simp[aV]
theorem Ej(hm:m<big)(g:∀i j,i<m->j<m->T i j<m)(ho:oZ m l):∃S',jG [tab m T,.tup (aV l)] S=a_ (tab m (oW T (oF l) (pF l)),S')/\Ex S S':=by
 have hlen:=ho.len;obtain⟨S1,e1,h1⟩:=MN (Y:= [a_ _,a_ _]) (a:=ae 1)
  (var_eq rfl) (by rw[gO,hlen];exact hm) _ (λ_ S'=>Ex S S') (Ex.refl _) (by
   intro i u S' hu hx;obtain⟨hi,rfl⟩:=xF hu;rw[hlen]at hi;obtain⟨S2,e2,h2⟩:=MN (Y:= [a_ _,a_ _,a_ _]) (a:=ae 1) (e:=mMT _ (ae 1) (aa (m2 _ (m2 _ (ae 0) (ae 2)) (ae 3)) _))
    (var_eq rfl) (by rw[gO,hlen];exact hm) _ (λ_ ZO=>ZO=S') rfl (by
     intro j u ZO hu hx;obtain⟨hj,rfl⟩:=xF hu;rw[hlen]at hj;refine⟨_,?_,hx⟩
     exact CT (var_eq rfl) (eP (ho.ord.ol j hj) (eS (ho.ord.ol i hi) (var_eq rfl) (var_eq rfl)) (var_eq rfl)) (ho.mem.mpr (g _ _ (ho.ord.ol i hi) (ho.ord.ol j hj))))
   subst h2
   exact⟨_,e2,hx.trans (Ex.push _ _)⟩)
 rw[gO,hlen]at e1;exact⟨_,bw rfl (bP e1),h1.trans (Ex.push _ _)⟩
theorem Cr{x y:Int}(ha:a Y S=a_ (.int x,S1))(hb:b Y S1=a_ (.int y,S2)):m2 oEq a b Y S=a_ (.bl (x==y),S2):=op2 ha hb rfl
theorem DF{x y:Int}(ha:a Y S=a_ (.int x,S1))(hb:b Y S1=a_ (.int y,S2)):m2 oGt a b Y S=a_ (.bl (decide (y<x)),S2):=op2 ha hb rfl
theorem of_eq{b:Bool}(h:a Y S=a_ (.bl b,S1)):cOf a Y S=a_ (b,S1):=by simp[cOf,h,ak]
variable{y:Bool}
theorem or_eq{a b:MT}{x:Bool}(ha:a Y S=a_ (x,S1))(hb:b Y S1=a_ (y,S2))(e:x=c_->S2=S1):cOr a b Y S=a_ (x||y,S2):=by
 cases x
 .simp[cOr,ha,hb,ak]
 .simp[cOr,ha,ak,e _]
theorem and_eq{a b:MT}{x:Bool}(ha:a Y S=a_ (x,S1))(hb:b Y S1=a_ (y,S2))(e:x=d_->S2=S1):rR a b Y S=a_ (x&&y,S2):=by
 cases x
 .simp[rR,ha,ak,e _]
 .simp[rR,ha,hb,ak]
variable{c:MT}
theorem iU{a b:MS}(h:c Y S=a_ (c_,S1)):sIf c a b Y S=a Y S1:=by simp[sIf,h,ak]
theorem gw{a b:MS}(h:c Y S=a_ (d_,S1)):sIf c a b Y S=b Y S1:=by simp[sIf,h,ak]
theorem ip(h:iQ n S)(hm:0<m)(Zb:m<1000):∃r S',aH [.ref n,.int m] S=a_ (.int (r:Nat),S')/\r<m/\Stp n S S':=by
 obtain⟨r,S',e,h1,h2,h3,_⟩:=va (many:=m) h (by omega) (by omega);obtain⟨r,rfl⟩:=mQ h1;exact⟨r,S',e,by omega,h3⟩
def gA:MS:=sIf (cOr (cOf (m2 oEq (ae 2) (mC (.int 1)))) (cOf (m2 oEq (ae 2) (mC (.int 2))))) (bJ 3 (mFn fq (aa (m2 cK (mC (.int 1)) (mFn aH (aa (ae 0) (aa (m2 oDiv (ae 1) (mC (.int 2))) af)))) af))) bE
def gB:MS:=sIf (rR (cOf (m2 oEq (ae 2) (mC (.int 3)))) (cOf (m2 oGt (ae 1) (mC (.int 7))))) (bJ 3 (mFn ix af)) bE
def gC:MS:=sIf (cOf (m2 oGt (ae 2) (mC (.int 3)))) (aW (bJ 4 (m2 cK (mC (.int 2)) (mFn aH (aa (ae 0) (aa (mC (.int 3)) af))))) (aW (bJ 5 (m2 oIx (b0 (aa (mFn df (aa (ae 4) af)) (aa (mFn fq (aa (ae 4) af)) af))) (mFn aH (aa (ae 0) (aa (mC (.int 2)) af))))) (aW (sIf (cOf (m2 oGt (mFn cJ (aa (ae 5) af)) (ae 1))) (bJ 5 (mFn df (aa (ae 4) af))) bE) (bJ 3 (mFn kM (aa (ae 5) (aa (mFn df (aa (m2 cK (mC (.int 1)) (mFn aH (aa (ae 0) (aa (m2 oDiv (ae 1) (mFn cJ (aa (ae 5) af))) af)))) af)) af))))))) bE
def gD:MS:=sIf (cOf (m2 oEq (mFn aH (aa (ae 0) (aa (mC (.int 3)) af))) (mC (.int 0)))) (bJ 3 (mFn jG (aa (ae 3) (aa (mFn jA (aa (ae 0) (aa (mFn cJ (aa (ae 3) af)) af))) af)))) bE
structure Gs(n most way:Nat)(S0:Sto)(Y:Rho)(S:Sto):Prop where
 ex:∃m T x y,Y=[a_ (.ref n),a_ (.int most),a_ (.int way),a_ (tab m T),x,y]/\Grp m T/\m<=most
 st:Stp n S0 S
section
variable {n most way:Nat}{S0 S:Sto}{Y:Rho}
theorem Nm(h6:4<=most)(hm:most<1000)(g:Gs n most way S0 Y S):∃Y4 S',gA Y S=a_ (.nx,Y4,S')/\Gs n most way S0 Y4 S':=by
 obtain⟨⟨m,T,x,y,rfl,gr,hle⟩,st⟩:=g;have hc:=or_eq (of_eq (Cr (Y:= [a_ (.ref n),a_ (.int most),a_ (.int way),a_ (tab m T),x,y]) (S:=S) (a:=ae 2) (b:=mC (.int 1)) (var_eq rfl) c_i)) (of_eq (Cr (a:=ae 2) (b:=mC (.int 2)) (var_eq rfl) c_i)) λ_=>rfl;cases hb:(((way:Int)==1)||((way:Int)==2)) with
 | false=>
   rw[hb]at hc;exact⟨_,S,gw hc,⟨m,T,x,y,rfl,gr,hle⟩,st⟩
 | true=>
   rw[hb]at hc;obtain⟨r,S1,e1,w1,s1⟩:=ip (m:=most/2) st.st (by omega) (by omega);obtain⟨S2,e2,s2⟩:=wG (n:=1+r) (S:=S1) (by exact cm (by decide) _) (by omega);refine⟨_,S2,(iU hc).trans (bS (cy (x:= .int (1+r:Nat)) (add_n (x:=1) c_i (dB (var_eq rfl) (tP (y:=2) (var_eq rfl) c_i (by decide) (by decide)) e1)) e2)),⟨_,_,x,y,rfl,xn (by exact cm (by decide) _),by omega⟩,(st.trans s1).step s2⟩
theorem L0(g:Gs n most way S0 Y S):∃Y4 S',gB Y S=a_ (.nx,Y4,S')/\Gs n most way S0 Y4 S':=by
 obtain⟨⟨m,T,x,y,rfl,gr,hle⟩,st⟩:=g;have hc:=and_eq (of_eq (Cr (Y:= [a_ (.ref n),a_ (.int most),a_ (.int way),a_ (tab m T),x,y]) (S:=S) (a:=ae 2) (b:=mC (.int 3)) (var_eq rfl) c_i)) (of_eq (DF (a:=ae 1) (b:=mC (.int 7)) (var_eq rfl) c_i)) λ_=>rfl;cases hb:(((way:Int)==3)&&decide ((7:Int)<most)) with
 | false=>
   rw[hb]at hc;exact⟨_,S,gw hc,⟨m,T,x,y,rfl,gr,hle⟩,st⟩
 | true=>
   rw[hb]at hc;obtain⟨S2,e2,s2⟩:=yp;have h7:=by simp at hb;exact hb.2
   refine⟨_,S2,(iU hc).trans (bS (e2)),⟨_,_,x,y,rfl,AU,by omega⟩,st.step s2⟩
theorem zJ{Y:Rho}{S:Sto}{x y:U}(ha:a Y S=a_ (x,S1))(hb:b Y S1=a_ (y,S2)):b0 (aa a (aa b af)) Y S=a_ (.ref S2.length,S2++[Cell.lst [x,y]]):=by
 have hz:2<=big:=by decide
 simp[b0,aa,af,ak,ha,hb,hz]
theorem Mc(h6:4<=most)(hm:most<1000)(g:Gs n most way S0 Y S):∃Y4 S',gC Y S=a_ (.nx,Y4,S')/\Gs n most way S0 Y4 S':=by
 obtain⟨⟨m,T,x,y,rfl,gr,hle⟩,st⟩:=g;have ZJ:∀x,x<=most->x<big:=λx hx=>by unfold big;exact a9 (by assumption) (ax (by assumption) (by decide))
 have hc:=of_eq (DF (Y:= [a_ (.ref n),a_ (.int most),a_ (.int way),a_ (tab m T),x,y]) (S:=S) (a:=ae 2) (b:=mC (.int 3)) (var_eq rfl) c_i);cases hb:decide ((3:Int)<way) with
 | false=>
   rw[hb]at hc;exact⟨_,S,gw hc,⟨m,T,x,y,rfl,gr,hle⟩,st⟩
 | true=>
   rw[hb]at hc;obtain⟨r,S1,e1,w1,s1⟩:=ip (m:=3) st.st (by decide) (by decide);have f1:m2 cK (mC (.int 2)) (mFn aH (aa (ae 0) (aa (mC (.int 3)) af))) [a_ (.ref n),a_ (.int most),a_ (.int way),a_ (tab m T),x,y] S=a_ (.int (2+r:Nat),S1):=
    add_n (x:=2) c_i (dB (var_eq rfl) c_i e1)
   have Xm:2+r<=4:=Nat.add_le_add_left (sZ w1) 2;have V7:2+r<=most:=aA Xm (aA (by decide) h6);obtain⟨S2,e2,s2⟩:=oK (n:=2+r) (S:=S1) (by exact cm (by decide) _) (ZJ _ V7);obtain⟨S3,e3,s3⟩:=wG (n:=2+r) (S:=S2) (by exact cm (by decide) _) (a9 Xm (by decide));have ZF:Stp n S0 (S3++[Cell.lst [tab (2+r) (fA (2+r)),tab (2*(2+r)) (hU (2+r))]]):=(((st.trans s1).step s2).step s3).step (Ex.push _ _);obtain⟨q,S4,e4,w4,s4⟩:=ip (m:=2) ZF.st (by decide) (by decide);have Zz:S4[S3.length]?=a_ (Cell.lst [tab (2+r) (fA (2+r)),tab (2*(2+r)) (hU (2+r))]):=by
    refine s4.some ?_ (by rw[bp (ao _)];simp);have:=(((st.trans s1).step s2).step s3).st.lt;exact gH (by assumption)
   have one:∃k K,atI [tab (2+r) (fA (2+r)),tab (2*(2+r)) (hU (2+r))] (q:Int)=a_ (tab k K)/\Grp k K/\k<=8:=by
    rcases q with _|_|q
    .exact⟨_,_,rfl,lZ (by exact cm (by decide) _),aA Xm (by decide)⟩
    .exact⟨_,_,rfl,xn (by exact cm (by decide) _),qp 2 Xm⟩
    .exact absurd (ED (ED w4)) (Nat.not_lt_zero _)
   obtain⟨k,K,Rz,gk,R7⟩:=one;have f5:m2 oIx (b0 (aa (mFn df (aa (ae 4) af)) (aa (mFn fq (aa (ae 4) af)) af))) (mFn aH (aa (ae 0) (aa (mC (.int 2)) af))) [a_ (.ref n),a_ (.int most),a_ (.int way),a_ (tab m T),a_ (.int (2+r:Nat)),y] S1=a_ (tab k K,S4):=
    y9 (zJ (cy (x:= .int (2+r:Nat)) (var_eq rfl) e2) (cy (x:= .int (2+r:Nat)) (var_eq rfl) e3)) (dB (var_eq rfl) c_i e4) Zz Rz
   have YQ:=ZF.trans s4;have cut:∃k' K' S5,sIf (cOf (m2 oGt (mFn cJ (aa (ae 5) af)) (ae 1))) (bJ 5 (mFn df (aa (ae 4) af))) bE [a_ (.ref n),a_ (.int most),a_ (.int way),a_ (tab m T),a_ (.int (2+r:Nat)),a_ (tab k K)] S4 =
     a_ (.nx,[a_ (.ref n),a_ (.int most),a_ (.int way),a_ (tab m T),a_ (.int (2+r:Nat)),a_ (tab k' K')],S5)/\Grp k' K'/\k'<=most/\k'<=8/\Stp n S0 S5:=by
    have YO:=of_eq (DF (Y:= [a_ (.ref n),a_ (.int most),a_ (.int way),a_ (tab m T),a_ (.int (2+r:Nat)),a_ (tab k K)]) (S:=S4) (a:=mFn cJ (aa (ae 5) af)) (b:=ae 1) (len_tab (var_eq rfl)) (var_eq rfl));cases WT:decide ((most:Int)<k) with
    | false=>
      rw[WT]at YO;have: ¬((most:Int)<k):=by simpa using WT
      exact⟨k,K,S4,gw YO,gk,d8 λz=>this (fD.mpr z),R7,YQ⟩
    | true=>
      rw[WT]at YO;obtain⟨S5,e5,s5⟩:=oK (n:=2+r) (S:=S4) (by exact cm (by decide) _) (ZJ _ V7);exact⟨_,_,S5,(iU YO).trans (bS (cy (x:= .int (2+r:Nat)) (var_eq rfl) e5)),lZ (by exact cm (by decide) _),V7,aA Xm (by decide),YQ.step s5⟩
   obtain⟨k',K',S5,f6,VM,U5,hk8',Zx⟩:=cut;have kp:=VM.pos;have hdiv:0<most/k':=Nat.div_pos U5 kp;have UN:most/k'<=most:=Nat.div_le_self _ _;obtain⟨t,S6,e6,w6,s6⟩:=ip (m:=most/k') Zx.st hdiv (by exact a9 (by assumption) (by assumption));have VC:1+t<=most/k':=by rw[EC];exact w6
   obtain⟨S7,e7,s7⟩:=oK (n:=1+t) (S:=S6) (by exact cm (by decide) _) (ZJ _ (aA VC UN));obtain⟨S8,e8,s8⟩:=GS (k:=k') (m:=1+t) (A:=K') (B:=fA (1+t)) (S:=S7) kp (by exact a9 (by assumption) (by decide)) (by exact cm (by decide) _) (a9 (aA VC UN) hm) VM.cl;have YT:k'*(1+t)<=most:=aA (qp k' VC) (Nat.mul_div_le most k');refine⟨_,S8,(iU hc).trans ((aE (bS f1)).trans ((aE (bS f5)).trans ((aE f6).trans (bS (dB (var_eq rfl) (cy (x:= .int (1+t:Nat)) ?_ e7) e8))))),⟨_,_,_,_,rfl,El VM (lZ (by exact cm (by decide) _)),YT⟩,((Zx.trans s6).step s7).step s8⟩;exact add_n (x:=1) c_i (dB (var_eq rfl) (tP (var_eq rfl) (len_tab (var_eq rfl)) kp (by exact a9 (by assumption) (by decide))) e6)
theorem L8(hm:most<1000)(g:Gs n most way S0 Y S):∃Y4 S',gD Y S=a_ (.nx,Y4,S')/\Gs n most way S0 Y4 S':=by
 obtain⟨⟨m,T,x,y,rfl,gr,hle⟩,st⟩:=g;obtain⟨r,S1,e1,w1,s1⟩:=ip (m:=3) st.st (by decide) (by decide);have hc:=of_eq (Cr (Y:= [a_ _,a_ (.int most),a_ (.int way),a_ (tab m T),x,y]) (a:=mFn _ (aa (ae 0) _)) (b:=mC (.int 0)) (dB (var_eq rfl) c_i e1) c_i);cases hb:((r:Int)==0) with
 | false=>
   rw[hb]at hc;exact⟨_,S1,gw hc,⟨m,T,x,y,rfl,gr,hle⟩,st.trans s1⟩
 | true=>
   rw[hb]at hc;obtain⟨l,S2,e2,s2,ol⟩:=DC s1.st gr.pos (by exact a9 (by omega) (by omega));obtain⟨S3,e3,s3⟩:=Ej (by exact a9 (by omega) (ax (by omega) (by decide))) gr.cl ol;refine⟨_,S3,(iU hc).trans (bS (dB (var_eq rfl) (dB (var_eq rfl) (len_tab (var_eq rfl)) e2) e3)),⟨_,_,x,y,rfl,Au gr ol.ord,hle⟩,((st.trans s1).trans s2).step s3⟩
end
theorem BL{most:Nat}(h:iQ n S)(h6:4<=most)(hm:most<1000):∃m T S',gz [.ref n,.int most] S=a_ (tab m T,S')/\Grp m T/\m<=most/\Stp n S S':=by
 have ZJ:∀x,x<=most->x<big:=λx hx=>by unfold big;exact a9 (by assumption) (ax (by assumption) (by decide))
 obtain⟨way,S1,e1,w1,s1⟩:=ip (m:=8) h (by decide) (by decide);obtain⟨r2,S2,e2,w2,s2⟩:=ip (m:=most) s1.st (by exact Nat.zero_lt_of_lt (by assumption)) hm;obtain⟨S3,e3,s3⟩:=oK (n:=1+r2) (S:=S2) (by exact cm (by decide) _) (ZJ _ (by omega));have f1:m2 cK (mC (.int 1)) (mFn aH (aa (ae 0) (aa (ae 1) af))) [a_ (.ref n),a_ (.int most),a_ (.int way),b_,b_,b_] S1=a_ (.int (1+r2:Nat),S2):=add_n (x:=1) (y:=r2) c_i (dB (var_eq rfl) (var_eq rfl) e2);have g0:Gs n most way S [a_ (.ref n),a_ (.int most),a_ (.int way),a_ (tab (1+r2) (fA (1+r2))),b_,b_] S3:=⟨⟨_,_,b_,b_,rfl,lZ (by exact cm (by decide) _),by omega⟩,(s1.trans s2).step s3⟩;obtain⟨Z1,S4,e4,g4⟩:=Nm h6 hm g0;obtain⟨Z3,S5,e5,g5⟩:=L0 g4;obtain⟨Z5,S6,e6,g6⟩:=Mc h6 hm g5;obtain⟨X9,S7,e7,g7⟩:=L8 hm g6;obtain⟨⟨m,T,x,y,rfl,gr,hle⟩,st⟩:=g7;refine⟨m,T,S7,bw (Y:= [a_ (.ref n),a_ (.int most),a_ (.int way),a_ (tab m T),x,y]) rfl ?_,gr,hle,st⟩;show k7 [a_ (.ref n),a_ (.int most),b_,b_,b_,b_] S=_;exact(aE (bS (dB (var_eq rfl) c_i e1))).trans ((aE (bS (cy f1 e3))).trans ((aE e4).trans ((aE e5).trans ((aE e6).trans ((aE e7).trans (bP (var_eq rfl)))))))
def Scr(ns:List Int)(S:Sto):Prop:=getL S 0=a_ (ns.map U.int)
variable{ns:List Int}
theorem Scr.ex(h:Scr ns S)(e:∀c,S[0]?=a_ c->S'[0]?=a_ c):Scr ns S':=by
 unfold Scr getL at h ⊢
 split at h<;>simp_all
theorem Scr.lt(h:Scr ns S):0<S.length:=by
 unfold Scr getL at h
 split at h
 .rename_i q;exact(ag.mp q).1
 .rename_i q;exact(ag.mp q).1
 all_goals cases h
theorem bA{α:Type}(S:List α)(c:α):(S++[c])[S.length]?=a_ c:=by
 simp
theorem MU{x y:Int}(ha:a Y S=a_ (.int x,S1))(hb:b Y S1=a_ (.int y,S2)):m2 oLt a b Y S=a_ (.bl (decide (x<y)),S2):=op2 ha hb rfl
theorem O6{x y:Int}(ha:a Y S=a_ (.int x,S1))(hb:b Y S1=a_ (.int y,S2)):m2 oGe a b Y S=a_ (.bl (decide (y<=x)),S2):=op2 ha hb rfl
theorem G1(h:getL S r=a_ us):iJ S (.ref r)=b_:=by
 unfold getL at h
 show(match S[r]? with
  |some (.dic _)=>a_ _
  | _=>b_)=b_
 split at h<;>rename_i q<;>first | (cases h;done) | (rw[q])
theorem HG(ha:a Y S=a_ (.ref r,S))(hr:getL S r=a_ us):mFn cJ (aa a af) Y S=a_ (.int us.length,S):=
 cy ha (by simp[cJ,G1 hr,dJ,hr])
theorem Oo{z:Int}(ha:a Y S=a_ (.ref n,S1))(hb:b Y S1=a_ (.int z,S2))(hn:getL S2 n=a_ us)(h:atI us z=a_ u):m2 oIx a b Y S=a_ (u,S2):=op2 ha hb (by simp[oIx,G1 hn,dJ,hn,h])
theorem oN{α:Type}{us:List α}{k:Nat}{u:α}(h:us[k]?=a_ u):atI us (k:Int)=a_ u:=by
 have hk:=(ag.mp h).1;simp[atI,ixN,hk]
 simp_all
theorem EO{k:Nat}(h:Scr ns S):∃z,jU [.ref 0,.int k] S=a_ (.int z,S):=by
 have hc:=of_eq (MU (Y:= [a_ _,a_ (.int k)]) (a:=ae 1) (b:=mFn _ (aa (ae 0) _)) (var_eq rfl) (HG (var_eq rfl) h));rw[aj]at hc;cases hb:decide ((k:Int)<ns.length) with
 | true=>
   rw[hb]at hc;have hk:=by simpa using hb
   have e:=Oo (Y:= [a_ _,a_ (.int k)]) (a:=ae 0) (b:=ae 1) (var_eq rfl) (var_eq rfl) h (oN (u:= .int ns[k]) (by simp[hk]));refine⟨ns[k],bw (Y:= [a_ (.ref 0),a_ (.int k)]) rfl ?_⟩;show iz [a_ _,a_ _] S=_;unfold iz aW;rw[iU hc,bP e]
 | false=>
   rw[hb]at hc;refine⟨0,bw (Y:= [a_ (.ref 0),a_ (.int k)]) rfl ?_⟩;exact(aE ((gw hc).trans rfl)).trans (bP c_i)
theorem Hn:m2 yO (mC (.int 10)) (mC (.int 18)) Y S=a_ (.int (10^(18:Int).toNat),S):=op2 rfl rfl (if_pos ⟨by decide,by decide,by decide⟩)
theorem CC{k:Nat}(h:Scr ns S):∃S',jD [.ref 0,.int k] S=a_ (.ref S.length,S')/\Ex S S'/\iQ S.length S':=by
 obtain⟨z,e1⟩:=EO h;have e2:bJ 2 (mFn _ (aa (ae 0) (aa (ae 1) _))) [a_ _,a_ _,b_] S=a_ (.nx,[a_ _,a_ _,a_ _],S):=bS (dB (var_eq rfl) (var_eq rfl) e1);have hc:=of_eq (O6 (Y:= [a_ (.ref 0),a_ (.int k),a_ (.int z)]) (S:=S) (a:=ae 2) (var_eq rfl) Hn);generalize hp:(10:Int)^(18:Int).toNat=p at hc;have Td:∀Y (S:Sto),m2 _ _ _ Y S=a_ _:=λY S=>by rw[Hn,hp]
 cases hb:decide (p<=z) with
 | true=>
   rw[hb]at hc;have e3:=zJ (Y:= [a_ (.ref 0),a_ (.int k),a_ (.int z)]) (S:=S) (a:=m2 _ (ae 2) _) (b:=mC (.bl c_)) (Hw (var_eq rfl) (Td _ _)) rfl;refine⟨_,bw (Y:= [a_ (.ref 0),a_ (.int k),a_ (.int z)]) rfl ?_,Ex.push _ _,⟨z-p,c_,bA _ _⟩⟩;refine(aE e2).trans ?_;unfold aW;rw[iU hc,bP e3]
 | false=>
   rw[hb]at hc;have e3:=zJ (Y:= [a_ (.ref 0),a_ (.int k),a_ (.int z)]) (S:=S) (a:=m2 _ (ae 2) (mC (.int 2147483647))) (b:=mC (.bl d_)) (HB (var_eq rfl) c_i (by decide)) rfl;refine⟨_,bw (Y:= [a_ (.ref 0),a_ (.int k),a_ (.int z)]) rfl ?_,Ex.push _ _,⟨z%2147483647,d_,bA _ _⟩⟩;exact(aE e2).trans ((aE ((gw hc).trans rfl)).trans (bP e3))
def KG(T:Nat->Nat->Nat)(w:List Nat):Nat:=w.foldl T 0
def plc(T:Nat->Nat->Nat)(w:List Nat):List Nat:=(av (w.length+1)).map λk=>KG T (w.take k)
theorem kK:∀(a b:List Nat),bC (a.map λ(x:Nat)=>bz x) (b.map λ(x:Nat)=>bz x)=decide (a=b)
 |[],[]=>by simp[bC]
 |[],_::_=>by simp[bC]
 |_::_,[]=>by simp[bC]
 | x::a,y::b=>by
   simp[bC,bL,kK a b]
   grind
theorem nU:toD S (f+2) (.tup (aV l))=a_ (.tuple (l.map λ(x:Nat)=>bz x)):=by
 show(c9 _ _).map _=_;rw[nS l];rfl
theorem uX{a b:List Nat}:_G.eqU S (.tup (aV a)) (.tup (aV b))=a_ (decide (a=b)):=by
 unfold _G.eqU;rw[nU,nU];simp[bL,kK]
theorem isT (ha:a Y S=a_ (.tup us,S1)):m1 (fg "tuple") a Y S=a_ (.bl c_,S1):=by
 simp[m1,ha];rfl
theorem not_eq{b:Bool}(h:c Y S=a_ (b,S1)):dk c Y S=a_ (!b,S1):=by simp[dk,h,ak]
theorem GJ{t:Nat}{S:Sto}{sv mv:ME}(ha:a Y S=a_ (.int t,S0))(ht:t<1000)(h:iQ n S0)(hm:0<m)(Zb:m<1000)
  (hs:∀z (S:Sto),sv (Y++[z]) S=a_ (.ref n,S)) (hv:∀z (S:Sto),mv (Y++[z]) S=a_ (.int m,S)):
  ∃w S',mFn bZ (aa (bu (iR1 (aa a af)) cTT (mFn aH (aa sv (aa mv af)))) af) Y S=a_ (.tup (aV w),S')/\Stp n S0 S'/\(∀x∈w,x<m)/\w.length=t:=by
 obtain⟨ys,S1,e1,⟨w,rfl,q1,q2⟩,q3⟩:=tQ ha (by exact ax (by omega) (by decide)) (λacc S' =>∃w,acc=aV w/\(∀x∈w,x<m)/\Stp n S0 S') ⟨[],rfl,by simp,Stp.refl h⟩ (by
  rintro k acc S' hk hl ⟨w,rfl,q1,q2⟩;obtain⟨r,S2,e2,h2,h3⟩:=ip q2.st hm Zb;refine⟨_,S2,dB (hs _ _) (hv _ _) e2,w++[r],by simp[aV],λx hx=>?_,q2.trans h3⟩
  grind)
 exact⟨w,_,e1,q2.step (Ex.push _ _),q1,by simpa [aV]using q3⟩
theorem Cc{c:Nat}(h:Scr ns S)(hv:Y[0]?=a_ (a_ (.ref 0)))(hl:ns.length<=63):∃q:Nat,q<1000/\mFn wK (aa (mC (.int 1)) (aa (mFn wL (aa (mFn cJ (aa (ae 0) af)) (aa (mC (.int c)) af))) af)) Y S=a_ (.int q,S):=by
 have e1:mFn wL (aa _ (aa (mC (.int c)) _)) Y S=a_ _:=dB (HG (var_eq hv) h) c_i rfl;have e2:=dB (f:=wK) (a:=mC (.int 1)) c_i e1 rfl;rw[aj]at e2;refine⟨max 1 (min _ c),Nat.max_lt.mpr ⟨by decide,a9 (aA (Nat.min_le_left _ _) hl) (by decide)⟩,?_⟩;rw[e2];show a_ _=_;have:(if (if (c:Int)<ns.length then(c:Int) else ns.length)>1 then(if (c:Int)<ns.length then(c:Int) else ns.length) else 1)=((max 1 (min ns.length c):Nat)):=by
  by_cases h:(c:Int)<ns.length
  .rw[Nat.min_eq_right (br (fD.mp h)),if_pos h]
   split
   .rename_i h1;rw[Nat.max_eq_right (br (fD.mp h1))]
   .rename_i h1;rw[Nat.max_eq_left (d8 λz=>h1 (fD.mpr z))];rfl
  .rw[Nat.min_eq_left (d8 λz=>h (fD.mpr z)),if_neg h]
   split
   .rename_i h1;rw[Nat.max_eq_right (br (fD.mp h1))]
   .rename_i h1;rw[Nat.max_eq_left (d8 λz=>h1 (fD.mpr z))];rfl
 rw[this]
theorem qS{t:MT}{e:ME}{Y:Rho}(p:Nat->Bool)(g:Nat->U)(P:Nat->Sto->Prop):∀(us:List U) (k:Nat) (acc:List U) (S:Sto),P k S ->
  (∀(j:Nat) (u:U) (S:Sto),us[j]?=a_ u->P (k+j) S->∃S',t (Y++[a_ u]) S=a_ (p (k+j),S')/\(p (k+j)=c_->∃ZO,e (Y++[a_ u]) S'=a_ (g (k+j),ZO)/\P (k+j+1) ZO)/\(p (k+j)=d_->P (k+j+1) S')) ->
  ∃S',dO t e Y us acc S=a_ (acc++((dR k us.length).filter p).map g,S')/\P (k+us.length) S'
 |[],k,acc,S,h,_=>⟨S,by simp[dO],h⟩
 | u::us,k,acc,S,h,st=>by
   have rest:∀(Zq:List U) (S1:Sto),P (k+1) S1->∃S',dO t e Y us Zq S1=a_ (Zq++((dR (k+1) us.length).filter p).map g,S')/\P (k+(u::us).length) S':=λZq S1 h1=>by
    obtain⟨S2,e2,h2⟩:=qS p g P us (k+1) Zq S1 h1 λj v S hj hp=>by
     have:=st (j+1) v S (by simpa using hj) (by rw[show k+(j+1)=k+1+j by omega];exact hp);rw[show k+(j+1)+1=k+1+j+1 by omega,show k+(j+1)=k+1+j by omega]at this;exact this
    exact⟨S2,e2,by rw[show k+(u::us).length=k+1+us.length by simp;omega];exact h2⟩
   obtain⟨S1,e1,ht,hf⟩:=st 0 u S rfl h;rw[Nat.add_zero]at e1 ht hf;show ∃S',bnd (t (Y++[a_ u]) S) _=_/\_;rw[e1];simp only[ak,c8,List.range'_succ,List.filter_cons];cases hp:p k with
   | true=>
     obtain⟨S2,e2,h2⟩:=ht hp;simp only[if_true];rw[e2];simp only[ak];obtain⟨S3,e3,h3⟩:=rest (acc++[g k]) S2 h2;exact⟨S3,by rw[e3];simp,h3⟩
   | false=>
     simp only[Bool.false_eq_true,if_false];exact rest acc S1 (hf hp)
theorem pM{S:Sto}{t:MT}(ha:a Y S=a_ (.int n,S0))(hn:n<big)(p:Nat->Bool)(g:Nat->U)(P:Nat->Sto->Prop)(h0:P 0 S0)
  (hs:∀(j:Nat) (S:Sto),j<n->P j S->∃S',t (Y++[a_ (.int j)]) S=a_ (p j,S')/\(p j=c_->∃ZO,e (Y++[a_ (.int j)]) S'=a_ (g j,ZO)/\P (j+1) ZO)/\(p j=d_->P (j+1) S')):
  ∃S',bu (iR1 (aa a af)) t e Y S=a_ (.ref S'.length,S'++[.lst (((av n).filter p).map g)])/\P n S':=by
 obtain⟨S1,e1,h1⟩:=qS (t:=t) (e:=e) (Y:=Y) p g P (aU 0 n) 0 [] S0 h0 λj u S hj hp=>by
  have hl:j<n:=by have:=(ag.mp hj).1;simpa [aU]using this
  have hu:(aU 0 n)[j]?=a_ (.int j):=by simp[aU,hl]
  rw[hu]at hj;cases hj;simpa using hs j S hl (by simpa using hp)
 have hlen:(aU 0 n).length=n:=by simp[aU]
 simp only[hlen,dS,fK,<-EM]at e1 h1
 exact⟨S1,i8 (oi ha hn) e1 (by
  rw[aj]
  exact a9 (EE _ _) (by rw[dH];exact hn)),h1⟩
theorem ji{S:Sto}(ha:a Y S=a_ (.int n,S0))(hn:n<big)(g:Nat->U)(P:Nat->Sto->Prop)(h0:P 0 S0)
  (hs:∀(j:Nat) (S:Sto),j<n->P j S->∃S',e (Y++[a_ (.int j)]) S=a_ (g j,S')/\P (j+1) S'):
  ∃S',bu (iR1 (aa a af)) cTT e Y S=a_ (.ref S'.length,S'++[.lst ((av n).map g)])/\P n S':=by
 obtain⟨S1,e1,h1⟩:=mq g P (aU 0 n) 0 [] S0 h0 λj u S hj hp=>by
  have hl:=by have:=(ag.mp hj).1;simpa [aU]using this
  have hu:(aU 0 n)[j]?=a_ (.int j):=by simp[aU,hl]
  rw[hu]at hj;cases hj;simpa using hs j S hl (by simpa using hp)
 have hlen:(aU 0 n).length=n:=by simp[aU]
 simp[hlen]at e1 h1;exact⟨S1,i8 (oi ha hn) e1 (by simp_all),h1⟩
theorem oX{y:Nat}(ha:a Y S=a_ (.int x,S1))(hb:b Y S1=a_ (.int y,S2)):m2 oEq a b Y S=a_ (.bl (decide (x=y)),S2):=by
 rw[Cr ha hb]
 congr 3
 grind
theorem MP{y:Nat}(ha:a Y S=a_ (.int x,S1))(hb:b Y S1=a_ (.int y,S2)):m2 oNe a b Y S=a_ (.bl (!decide (x=y)),S2):=by
 rw[op2 ha hb _];show a_ (U.bl (!((x:Int)==y)),S2)=_
 congr 4
 grind
theorem uA{α:Type}(f:α->Bool):∀(l:List α),c9 lD (l.map λx=>U.bl (f x))=a_ (l.map f)
 |[]=>rfl
 | x::l=>by
   show(lD _).bind _=_;rw[uA f l];rfl
theorem tW{α:Type}{l:List α}{f:α->Bool}(ha:a Y S=a_ (.ref S1.length,S1++[Cell.lst (l.map λx=>U.bl (f x))])):mFn kR (aa a af) Y S=a_ (.bl (l.all f),S1++[Cell.lst (l.map λx=>U.bl (f x))]):=by
 refine cy ha ?_;simp only[kR,getL,bA,ay,uA]
 simp_all
theorem M5{α:Type}{l:List α}{f:α->Bool}(ha:a Y S=a_ (.ref S1.length,S1++[Cell.lst (l.map λx=>U.bl (f x))])):mFn yw (aa a af) Y S=a_ (.bl (l.any f),S1++[Cell.lst (l.map λx=>U.bl (f x))]):=by
 refine cy ha ?_;simp only[yw,getL,bA,ay,uA,aT];rw[BD];rfl
theorem dq{a b:MS}(h:a Y S=a_ (.rt u,Y2,S1)):aW a b Y S=a_ (.rt u,Y2,S1):=by simp[aW,h]
theorem Eg:ox m T i=.tup (aV ((av m).map (T i))):=by
 unfold ox yq aV;rw[dj];rfl
theorem xy(h:S[n]?=a_ (Cell.lst (aV l))):toD S (f+2) (.ref n)=a_ (.list (l.map λ(x:Nat)=>bz x)):=by
 show(getL S n).bind _=_;have:getL S n=a_ (aV l):=by unfold getL;rw[h]
 rw[this];simp only[ay];rw[nS l];rfl
theorem FD{k:Nat}{x y:List Nat}(ha:a Y S=a_ (.ref n,S1))(hb:b Y S1=a_ (.ref k,S2))(hn:S2[n]?=a_ (Cell.lst (aV x)))(hk:S2[k]?=a_ (Cell.lst (aV y))):m2 oNe a b Y S=a_ (.bl (!decide (x=y)),S2):=by
 refine op2 ha hb ?_;unfold oNe _G.eqU;rw[xy hn,xy hk];simp[bL,kK]
theorem IW{x y:List Nat}(ha:a Y S=a_ (.tup (aV x),S1))(hb:b Y S1=a_ (.tup (aV y),S2)):m2 oEq a b Y S=a_ (.bl (decide (x=y)),S2):=
 op2 ha hb (by simp only[oEq,uX,aT])
theorem Hv{r:Res U}(ha:a Y S=a_ (.bl c_,S1))(hb:b Y S1=r):gv a b Y S=r:=by
 simp[gv,ha,ak,hb]
theorem or_false{a b:MT}(ha:a Y S=a_ (d_,S1))(hb:b Y S1=a_ (d_,S2)):cOr a b Y S=a_ (d_,S2):=by
 rw[or_eq ha hb (by grind)];rfl
section
variable {m:Nat}{T:Nat->Nat->Nat}{t n:Nat}
end
open PySem in
open PySem in
open PySem in
open PySem in
open PySem in
open PySem in
open PySem in
open PySem in
open PySem in
open PySem in
open PySem in
open PySem in
open PySem in
open PySem in
open PySem in
theorem vI{f:MF}{Y:Rho}{S S1 S2 S3:Sto}{a b c:ME}{x y z:U}{r:Res U}(ha:a Y S=a_ (x,S1))(hb:b Y S1=a_ (y,S2))(hc:c Y S2=a_ (z,S3))(h:f [x,y,z] S3=r):mFn f (aa a (aa b (aa c af))) Y S=r:=by
 simp[mFn,aa,af,ha,hb,hc,ak,h]
section
variable {S x:Sto}{c e c' e':Cell}
theorem h0:(S++[c,e]++x)[S.length]?=a_ c:=by simp
theorem h1:(S++[c,e]++x)[S.length+1]?=a_ e:=by simp
end
inductive Rch(T:Nat->Nat->Nat)(ths:List Nat):Nat->Prop where
 |zero:Rch T ths 0
 |step {x y:Nat}:Rch T ths x->y∈ths->Rch T ths (T x y)
structure Dfs(m:Nat)(T:Nat->Nat->Nat)(ths:List Nat)(ks:List Nat)(C:Nat->Prop):Prop where
 nd:ks.Nodup
 lt:∀x∈ks,x<m
 z:0∈ks
 rc:∀x∈ks,Rch T ths x
 cl:∀x∈ks,C x \/ ∀y∈ths,T x y∈ks
section
variable {m:Nat}{T:Nat->Nat->Nat}{ths ks st:List Nat}
end
section
variable {m:Nat}{T:Nat->Nat->Nat}{ths:List Nat}{S x:Sto}{v:U}
end
open PySem in
open PySem in
open PySem in
open PySem in
theorem BS{S:Sto}{r:Nat}{us:List U}(h:S[r]?=a_ (Cell.lst us)):iJ S (.ref r)=b_:=by
 simp[iJ,h]
section
variable {m:Nat}{T:Nat->Nat->Nat}{part:List Nat}{S:Sto}
end
theorem kr{t:MT}{e:ME}{Y:Rho}{S:Sto}{p:U->Bool}{f:U->U}:∀(us acc:List U),(∀u∈us,t (Y++[a_ u]) S=a_ (p u,S))->(∀u∈us,p u=c_->e (Y++[a_ u]) S=a_ (f u,S)) ->
  dO t e Y us acc S=a_ (acc++(us.filter p).map f,S)
 |[],acc,_,_=>by simp[dO]
 | u::us,acc,ht,he=>by
   unfold dO;rw[ht u (by simp)];simp[ak];cases hp:p u with
   | true=>
     rw[he u (by simp) hp];simp[ak];rw[kr us _ (λv hv=>ht v (az _ hv)) (λv hv=>he v (az _ hv)),List.filter_cons_of_pos hp];simp
   | false=>
     rw[if_neg d9,kr us _ (λv hv=>ht v (az _ hv)) (λv hv=>he v (az _ hv)),List.filter_cons_of_neg (by grind)]
theorem ph{t:MT}{us:List U}{p:U->Bool}{f:U->U}(ha:a Y S=a_ (.tup us,S1))(hl:us.length<big)(ht:∀u∈us,t (Y++[a_ u]) S1=a_ (p u,S1))(he:∀u∈us,p u=c_->e (Y++[a_ u]) S1=a_ (f u,S1)):
  bu (dh a) t e Y S=a_ (.ref S1.length,S1++[.lst ((us.filter p).map f)]):=by
 have hi:dh a Y S=a_ (.imm us,S1):=by simp[dh,ha,ak]
 have e1:=kr us [] ht he;refine i8 hi e1 ?_;have:=EE p us;rw[aj];exact a9 (by omega) (by omega)
variable{f:Nat->U}
theorem yP{t:MT}{l:List Nat}{p:Nat->Bool}(ha:a Y S=a_ (.tup (aV l),S1))(hl:l.length<big)(ht:∀x∈l,t (Y++[a_ (.int x)]) S1=a_ (p x,S1))(he:∀x∈l,p x=c_->e (Y++[a_ (.int x)]) S1=a_ (f x,S1)):
  bu (dh a) t e Y S=a_ (.ref S1.length,S1++[.lst ((l.filter p).map f)]):=by
 have nat:∀u∈aV l,∃x∈l,u=.int x:=λu hu=>by
  obtain⟨x,hx,rfl⟩:=aL.mp hu;exact⟨x,hx,rfl⟩
 let g:U->Nat:=λu=>match u with | .int i=>i.toNat |_=>0
 have gx:∀x:Nat,g (.int x)=x:=λx=>by simp[g]
 have h:=ph (p:=λu=>p (g u)) (f:=λu=>f (g u)) ha (by rw[gO];exact hl) (λu hu=>by
  obtain⟨x,hx,rfl⟩:=nat u hu
  exact ht x hx) (λu hu hp=>by
  obtain⟨x,hx,rfl⟩:=nat u hu
  exact he x hx hp)
 rw[h];have:((aV l).filter λu=>p (g u)).map (λu=>f (g u))=(l.filter p).map f:=by
  unfold aV;rw[List.filter_map,dj];have e1:(λu=>p (g u))∘(λ(x:Nat)=>U.int x)=p:=by funext x;simp[gx]
  have e2:(λu=>f (g u))∘(λ(x:Nat)=>U.int x)=f:=by funext x;simp[gx]
  rw[e1,e2]
 rw[this]
section
variable {m:Nat}{T:Nat->Nat->Nat}{st left:List Nat}{S:Sto}
end
abbrev Nod:=List Nat×List Nat
def Ht(th:List Nat):Nat:=(th.getLast?).getD 0
def kids(T:Nat->Nat->Nat)(st:List Nat)(p:Nod):List Nod:=(st.filter λs=>!decide (T (Ht p.2) s∈p.2)).map λs=>(p.1++[s],p.2++[T (Ht p.2) s])
def Nq(T:Nat->Nat->Nat)(st:List Nat)(L:Nod->List (List Nat)):Nat->Nod->List (List Nat)
 |0,p=>L p
 |k+1,p=>(kids T st p).flatMap (Nq T st L k)
section
variable {m:Nat}{T:Nat->Nat->Nat}{st:List Nat}{S x:Sto}{F:List (List Nat)}{ln:List Nod}{Y:Rho}
end
def Hd(b:Nat):Nat->Nat
 |0=>1
 |k+1=>1+b*Hd b k
def msr(b m:Nat)(ln:List Nod):Nat:=(ln.map λp=>Hd b (m-1-p.1.length)).sum
def rest(T:Nat->Nat->Nat)(st:List Nat)(L:Nod->List (List Nat))(m:Nat)(ln:List Nod):List (List Nat):=ln.reverse.flatMap λp=>Nq T st L (m-1-p.1.length) p
section
variable {m:Nat}{T:Nat->Nat->Nat}{st:List Nat}{L:Nod->List (List Nat)}{ln:List Nod}{p:Nod}
end
section
variable {m:Nat}{T:Nat->Nat->Nat}{st:List Nat}{S:Sto}
end
section
variable {m:Nat}{T:Nat->Nat->Nat}{st:List Nat}
end
open PySem in
open PySem in
section
variable {m:Nat}{T:Nat->Nat->Nat}{st:List Nat}{S:Sto}
end
abbrev Rds:=List (Nat×List Nat)
structure Rd(T:Nat->Nat->Nat)(ths:List Nat)(ks:Rds):Prop where
 go:∀p∈ks,KG T p.2=p.1
 by':∀p∈ks,∀y∈p.2,y∈ths
 len:∀p∈ks,p.2.length<ks.length
section
variable {m:Nat}{T:Nat->Nat->Nat}{ths:List Nat}{S x:Sto}{v:U}
end
section
variable {m:Nat}{T:Nat->Nat->Nat}
abbrev Lt(m:Nat)(w:List Nat):Prop:= ∀x∈w,x<m
def pre(T:Nat->Nat->Nat)(w:List Nat):List Nat:=(av w.length).map λk=>KG T (w.take k)
structure All(m:Nat)(l:List Nat):Prop where
 nd:l.Nodup
 lt:Lt m l
 len:l.length=m
theorem All.map{f:Nat->Nat}(h:All m l)(lt:∀x,x<m->f x<m)(inj:∀x y,x<m->y<m->f x=f y->x=y):All m (l.map f):=by
 refine⟨?_,λx hx=>?_,by simp[h.len]⟩
 .rw[xZ,List.pairwise_map]
  exact List.Pairwise.imp_of_mem (λha hb Ym e=>Ym (inj _ _ (h.lt _ ha) (h.lt _ hb) e)) (xZ.mp h.nd)
 .obtain⟨y,hy,rfl⟩:=aL.mp hx
  exact lt y (h.lt y hy)
end
theorem jM{x:Bool}(ha:a Y S=a_ (.bl x,S1))(hb:x=c_->b Y S1=a_ (.bl y,S2))(hf:x=d_->S2=S1):gv a b Y S=a_ (.bl (x&&y),S2):=by
 cases x with
 |true=>simp[gv,ha,ak,hb _]
 |false=>simp[gv,ha,ak,hf _]
theorem JY{x:Bool}(ha:a Y S=a_ (.bl x,S1))(hb:b Y S1=a_ (.bl y,S2))(x1:Ex S S1)(x2:Ex S1 S2):∃S',gv a b Y S=a_ (.bl (x&&y),S')/\Ex S S':=by
 cases x with
 |true=>exact⟨S2,jM ha (λ_=>hb) (λz=>by cases z),x1.trans x2⟩
 |false=>exact⟨S1,jM ha (λz=>by cases z) (λ_=>rfl),x1⟩
theorem vM{α:Type}{f:α->Bool}:∀l:List α,c9 lD (l.map λx=>U.bl (f x))=a_ (l.map f)
 |[]=>rfl
 | x::l=>by
   show(lD _).bind _=_;rw[vM l];rfl
theorem CO{α:Type}{f:α->Bool}{l:List α}(ha:a Y S=a_ (.ref r,S1))(hr:S1[r]?=a_ (.lst (l.map λx=>U.bl (f x)))):mFn kR (aa a af) Y S=a_ (.bl (l.all f),S1):=by
 refine cy ha ?_;simp only[kR,getL,hr,ay,vM]
 simp_all
section
variable {m:Nat}{T:Nat->Nat->Nat}{st w:List Nat}{S:Sto}
def nbM:MS:=bO (gv (m1 (fg "int") (ae 0)) (gv (m1 rQ (m1 (fg "bool") (ae 0))) (mCh oLe oLt (mC (.int 0)) (ae 0) (ae 1))))
theorem Lr:_G.run 2 2 nbM [.int (x:Nat),.int (n:Nat)] S=a_ (.bl (decide (x<n)),S):=by
 have h1:m1 (fg "int") (ae 0) [a_ (.int x),a_ (.int n)] S=a_ _:=rfl;have h2:m1 rQ (m1 (fg "bool") (ae 0)) [a_ (.int x),a_ (.int n)] S=a_ _:=rfl;have h3:mCh oLe oLt (mC (.int 0)) (ae 0) (ae 1) [a_ (.int x),a_ (.int n)] S=a_ (.bl (decide (x<n)),S):=by
  have v0:ae 0 [a_ (.int x),a_ (.int n)] S=a_ _:=rfl;have v1:ae 1 [a_ (.int x),a_ (.int n)] S=a_ _:=rfl;have l:oLe (.int 0) (.int x) S=a_ (.bl c_,S):=by
   show a_ _=_<;>simp_all
  have l2:oLt (.int x) (.int n) S=a_ (.bl (decide (x<n)),S):=by
   show a_ _=_;simp
  simp[mCh,mC,ak,v0,l,v1,l2]
 exact jM h1 (λ_=>jM h2 (λ_=>h3) (λz=>by cases z)) (λz=>by cases z)
def Mk:MS:=bO (gv (m1 (fg "tuple") (ae 0)) (mFn kR (aa (bu (dh (ae 0)) cTT (mFn (_G.run 2 2 nbM) (aa (ae 2) (aa (ae 1) af)))) af)))
theorem wQ{S:Sto}{l:List Nat}(ha:a Y S=a_ (.tup (aV l),S))(hl:l.length<10000000)(he:∀x∈l,e (Y++[a_ (.int x)]) S=a_ (f x,S)):bu (dh a) cTT e Y S=a_ (.ref S.length,S++[.lst (l.map f)]):=by
 have h:=yP (t:=cTT) ha (by exact ax (by omega) (by decide)) (λ_ _=>rfl) (λx hx _=>he x hx);rwa[j1.mpr (λ_ _=>rfl)]at h
theorem Jc(hl:w.length<10000000):∃S',_G.run 2 2 Mk [.tup (aV w),.int (n:Nat)] S=a_ (.bl (w.all λx=>decide (x<n)),S')/\Ex S S':=by
 have h1:m1 _ (ae 0) [a_ (.tup (aV w)),a_ (.int n)] S=a_ _:=isT (var_eq rfl);have h2:=wQ (e:=mFn _ (aa (ae 2) (aa (ae 1) _))) (Y:= [a_ _,a_ (.int n)]) (S:=S) (a:=ae 0) (var_eq rfl) hl (λx _=>dB (var_eq rfl) (var_eq rfl) Lr);obtain⟨S',e,x⟩:=JY h1 (CO h2 (bA _ _)) (Ex.refl _) (Ex.push _ _);exact⟨S',bw rfl (bP (e.trans (by rw[dU]))),x⟩
end
section
variable {m:Nat}{T:Nat->Nat->Nat}
structure Sn(m:Nat)(T:Nat->Nat->Nat)(p:List Nat):Prop where
 lt:Lt m p
 nd:(plc T p).Nodup
 cl:∀x∈plc T p,∀y∈plc T p,T x y∈plc T p
end
section
variable {m:Nat}{T:Nat->Nat->Nat}{S:Sto}
abbrev Pln(m:Nat)(T:Nat->Nat->Nat):Prop:= ∀i j,i<m->j<m->T i j=T j i
end
section
variable {m:Nat}{T:Nat->Nat->Nat}{S:Sto}
end
inductive Smp:U->Prop where
 |non:Smp .non
 |bl (b:Bool):Smp (.bl b)
 |int (i:Int):Smp (.int i)
 |str (x:aq):Smp (.str x)
 |tup (us:List U):Smp (.tup us)
inductive Thg(S:Sto):U->Prop where
 |non:Thg S .non
 |bl (b:Bool):Thg S (.bl b)
 |int (i:Int):Thg S (.int i)
 |str (x:aq):Thg S (.str x)
 |tup {us:List U} (h:∀v∈us,Smp v) (hl:us.length<100000):Thg S (.tup us)
 |lst {n:Nat}{xs:List U} (h:S[n]?=a_ (Cell.lst xs)):Thg S (.ref n)
 |dic {n:Nat}{kv:List (_L.Key×U)} (h:S[n]?=a_ (Cell.dic kv)):Thg S (.ref n)
theorem Thg.ex(h:Thg S u)(x:Ex S S'):Thg S' u:=by
 cases h with
 |non=>exact .non
 |bl b=>exact .bl b
 |int i=>exact .int i
 |str y=>exact .str y
 |tup h hl=>exact .tup h hl
 |lst h=>exact .lst (x.some h)
 |dic h=>exact .dic (x.some h)
theorem Thg.nat(hl:l.length<100000):Thg S (.tup (aV l)):= .tup (λv hv=>by obtain⟨x,_,rfl⟩:=aL.mp hv;exact .int _) (by rw[gO];exact hl)
def isTup:U->Bool
 |.tup _=>c_
 |_=>d_
def isNum:U->Bool
 |.int _=>c_
 |_=>d_
theorem qw (ha:a Y S=a_ (u,S1))(h:Thg S1 u):m1 (fg "tuple") a Y S=a_ (.bl (isTup u),S1):=by
 simp only[m1,ha,ak,fg];cases h with
 |lst h=>simp only[tyU,h];rfl
 |dic h=>simp only[tyU,h];rfl
 |_=>rfl
theorem GT{S:Sto}{v:U}(ha :∀ S,a Y S=a_ (v,S))(h:Smp v):gv (m1 (fg "int") a) (m1 rQ (m1 (fg "bool") a)) Y S=a_ (.bl (isNum v),S):=by
 cases h<;>simp[gv,m1,ha,ak,fg,tyU,DU,isNum,rQ]
def nbV(n:Nat):U->Bool
 |.int i=>decide (0<=i)&&decide (i<n)
 |_=>d_
theorem ke{i:Nat}{b:MS}{v:U}(p:U->Bool)(P:Rho->Sto->Prop):∀(us:List U) (Y:Rho) (S:Sto),P Y S ->
  (∀(u:U) (Y:Rho) (S:Sto),u∈us->P Y S->∃Y4 S',b (Y.set i (a_ u)) S=a_ (if p u then .nx else .rt v,Y4,S')/\P Y4 S') ->
  ∃Y4 S',pw i b us Y S=a_ (if us.all p then .nx else .rt v,Y4,S')/\P Y4 S'
 |[],Y,S,h,_=>⟨Y,S,rfl,h⟩
 | u::us,Y,S,h,st=>by
   obtain⟨Y2,S1,e1,h1⟩:=st u Y S (by simp) h;show ∃Y4 S',aft (b (Y.set i (a_ u)) S) (pw i b us)=_/\_;rw[e1];cases hp:p u with
   | true=>
     obtain⟨Y',S2,e2,h2⟩:=ke p P us Y2 S1 h1 λw Y S hw hP=>st w Y S (az _ hw) hP;exact⟨Y',S2,by simpa [aft,hp]using e2,h2⟩
   |false=>exact⟨Y2,S1,by simp[aft,hp],h1⟩
theorem tN{S:Sto}{f:Nat}:∀(l:List Int),c9 (toD S (f+1)) (l.map U.int)=a_ (l.map bz)
 |[]=>rfl
 | x::l=>by
   show(a_ (bz x)).bind _=_;simp only[ay];rw[tN l];rfl
theorem rH:∀(a b:List Int),bC (a.map bz) (b.map bz)=decide (a=b)
 |[],[]=>by simp[bC]
 |[],_::_=>by simp[bC]
 |_::_,[]=>by simp[bC]
 | x::a,y::b=>by
   simp only[bY,bC,bL,rH a b];by_cases h:x=y
   .subst h;simp
   .simp[h]
section
variable {m:Nat}{T:Nat->Nat->Nat}{S:Sto}{u:U}{st:List Nat}
theorem DE(ha:a Y S=a_ (.bl d_,S1)):gv a b Y S=a_ (.bl d_,S1):=by simp[gv,ha,ak]
theorem xu{a b:MT}(ha:a Y S=a_ (c_,S1)):cOr a b Y S=a_ (c_,S1):=by simp[cOr,ha,ak]
theorem yi{a b:MT}(ha:a Y S=a_ (d_,S1))(hb:b Y S1=a_ (y,S2)):cOr a b Y S=a_ (y,S2):=by simp[cOr,ha,ak,hb]
theorem IP{v:U}(h:Smp v):_G.run 2 2 nbM [v,.int (n:Nat)] S=a_ (.bl (nbV n v),S):=by
 refine bw rfl (bP ?_);cases h with
 | int i=>
   have h1:m1 (fg "int") (ae 0) [a_ (.int i),a_ (.int n)] S=a_ (.bl c_,S):=rfl;have h2:m1 rQ (m1 (fg "bool") (ae 0)) [a_ (.int i),a_ (.int n)] S=a_ (.bl c_,S):=rfl;have h3:mCh oLe oLt (mC (.int 0)) (ae 0) (ae 1) [a_ (.int i),a_ (.int n)] S=a_ (.bl (decide (0<=i)&&decide (i<n)),S):=by
    have v0:ae 0 [a_ (.int i),a_ (.int n)] S=a_ _:=rfl;have v1:ae 1 [a_ (.int i),a_ (.int n)] S=a_ _:=rfl;have c0:mC (.int 0) [a_ (.int i),a_ (.int n)] S=a_ _:=rfl;by_cases z:0<=i
    .simp[mCh,v0,v1,c0,ak,vN,z]
    .simp[mCh,v0,c0,ak,vN,z]
   exact(jM h1 (λ_=>jM h2 (λ_=>h3) (λz=>by cases z)) (λz=>by cases z)).trans (by simp[nbV])
 |bl b=>rfl
 |non=>rfl
 |str x=>rfl
 |tup us=>rfl
def Em(n:Nat):U->Bool
 |.tup us=>us.all (nbV n)
 |_=>d_
theorem FQ(h:Thg S u):∃S',_G.run 2 2 Mk [u,.int (n:Nat)] S=a_ (.bl (Em n u),S')/\Ex S S':=by
 have h1:=qw (Y:= [a_ u,a_ (.int n)]) (a:=ae 0) (var_eq rfl) h;cases ht:isTup u with
 | false=>
   rw[ht]at h1;refine⟨S,bw rfl (bP ((DE h1).trans ?_)),Ex.refl _⟩;cases u with
   |tup us=>cases ht
   |_=>rfl
 | true=>
   cases h with
   | tup h hl=>
     have h2:=ph (t:=cTT) (e:=mFn _ (aa (ae 2) (aa (ae 1) _))) (Y:= [a_ _,a_ (.int n)]) (S:=S) (a:=ae 0) (var_eq rfl) (by exact ax (by omega) (by decide)) (λ_ _=>rfl) (λv hv _=>dB (var_eq rfl) (var_eq rfl) (IP (h v hv)));rw[j1.mpr (λ_ _=>rfl)]at h2;exact⟨_,bw rfl (bP (jM h1 (λ_=>tW h2) (λz=>by cases z))),Ex.push _ _⟩
   |_=>cases ht
theorem ml{r:MA}(h:r Y S=a_ (xs,S1))(hl:xs.length<1000):b0 r Y S=a_ (.ref S1.length,S1++[.lst xs]):=by
 have:xs.length<=big:=by unfold big;omega
 simp[b0,h,ak,this]
def Tn(n:Nat)(S:Sto)(u:U):Prop:=Thg S u/\u≠.ref n
theorem wq{k:Nat}{x y:List Nat}(ha:a Y S=a_ (.ref n,S1))(hb:b Y S1=a_ (.ref k,S2))(hn:S2[n]?=a_ (Cell.lst (aV x)))(hk:S2[k]?=a_ (Cell.lst (aV y))):m2 oEq a b Y S=a_ (.bl (decide (x=y)),S2):=by
 refine op2 ha hb ?_;have e:∀l:List Nat,aV l=(l.map λ(z:Nat)=>(z:Int)).map U.int:=λl=>by unfold aV;rw[dj];rfl
 have d:∀{n:Nat}{l:List Nat},S2[n]?=a_ (Cell.lst (aV l))->toD S2 40 (.ref n)=a_ (.list ((l.map λ(z:Nat)=>(z:Int)).map bz)):=λ{n l} h=>by
  show(getL S2 n).bind _=_;have:getL S2 n=a_ ((l.map λ(z:Nat)=>(z:Int)).map U.int):=by unfold getL;rw[h,e]
  rw[this];simp only[ay];rw[tN];rfl
 unfold oEq _G.eqU;rw[d hn,d hk];simp only[ay,aT,bL,rH]
 congr 3
 rw[decide_eq_decide];constructor
 .intro h
  have:=congrArg (List.map Int.toNat) h;rw[dj,dj]at this;simpa [Function.comp_def]using this
 .rintro rfl;rfl
end
section
variable {m:Nat}{f:Nat->Nat}
end
theorem CV{rz is:List Nat}{ml:ME}{rl:MX}{cs:List U}(hc:nh is Y=a_ cs)(h:ml (cs.map a_) S=b_)(hx:rl (cs.map a_) S=a_ (q,S1))(hq:q∈rz):kD (nk rz) is ml rl Y S=a_ (.ref (S1.length+3),S1++(i9 (bQ q)++[.lst (aV [q])])):=by
 have e:uR 0 ml cs [] S=b_:=h;have e2:uO 0 rl cs [] S=a_ _:=hx;simp only[kD,hc,ay,nk,e,e2];rw[if_pos hq];rfl
theorem Iv(S:Sto)(b:Nat->Bool)(l:List Cell):Ex S (S++(i9 b++l)):=⟨_,rfl⟩
theorem GM{b:Nat->Bool}{c:Cell}:(S++(i9 b++[c]))[S.length+3]?=a_ c:=by
 simp[i9]
theorem jd{k:Nat}{b:MS}(h:b (us.map a_++bI (n-k) b_) S=b_):_G.run k n b us S=b_:=by
 unfold _G.run
 simp_all
theorem i5{k:Nat}{r:MX}(hl:us.length=k)(h:r (us.map a_++bI (n-k) b_) S=a_ (q,S1)):qj k n r us S=a_ (q,S1):=by
 unfold qj<;>simp_all
variable{b:MX}
theorem kc{a:MX}{s:MS}(h:a Y S=a_ (q,S1)):jk a s b Y S=a_ (q,S1):=by simp[jk,h]
theorem n9{a:MX}{s:MS}(h:a Y S=b_)(h1:s Y S=a_ (.nx,Y2,S1)):jk a s b Y S=b Y2 S1:=by simp[jk,h,h1]
theorem zT{a:MX}(h:c Y S=a_ (c_,S1)):xIf c a b Y S=a Y S1:=by simp[xIf,h,ak]
theorem NG{a:MX}(h:c Y S=a_ (d_,S1)):xIf c a b Y S=b Y S1:=by simp[xIf,h,ak]
theorem lu{a b:MS}(h:a Y S=b_):aW a b Y S=b_:=by simp[aW,h]
theorem oE{r:RF}{x:U}{v:Option (Nat×Sto)}(ha:a Y S=a_ (x,S1))(h:r [x] S1=v):xFn r (aa a af) Y S=v:=by simp[xFn,aa,af,ha,ak,h]
section
variable {m:Nat}{T:Nat->Nat->Nat}{S:Sto}
end
theorem tw{S:Sto}{f:Nat}:∀(ls:List (List Nat)),c9 (toD S (f+2)) (ls.map λl=>U.tup (aV l))=a_ (ls.map λl=>jb (l.map λ(x:Nat)=>bz x))
 |[]=>rfl
 | l::ls=>by
   show(toD S (f+2) (.tup (aV l))).bind _=_;rw[nU];simp only[ay];rw[tw ls];rfl
theorem wF:∀(ls:List (List Nat)),bC (ls.map λl=>jb (l.map λ(x:Nat)=>bz x)) (ls.map λl=>jb (l.map λ(x:Nat)=>bz x))=c_
 |[]=>by simp[bC]
 |l::ls=>by simp[bC,bL,kK,wF ls]
section
variable {S:Sto}
end
open PySem in
open PySem in
section
variable {S:Sto}
section
variable {n m r:Nat} (hn:0<n) (YI:n<100) (hm:0<m) (Zb:m<100) (hr:r<100)
include hn YI hm Zb hr
end
end
section
variable {m:Nat}{T:Nat->Nat->Nat}
open Classical in
end
section
variable {m:Nat}{T:Nat->Nat->Nat}{P:List Nat}
end
section
variable {m:Nat}{T:Nat->Nat->Nat}{P:List Nat}
end
end _W
namespace _W
open PySem PySem.Spec _L _G
def ij:MS:=sIf (dk (cOf (m1 (fg "str") (ae 0)))) sNo bE
def bM:MF:=run 1 1 ij
def ie:MX:=jk (xIf (dk (cOf (m1 (fg "str") (ae 0)))) (jk (qO 5) sNo xNo) xNo) (sIf (dk (cOf (m1 (fg "str") (ae 0)))) sNo bE) xNo
def dD:RF:=qj 1 1 ie
def jy:MS:=bO (gv (m1 (fg "int") (ae 0)) (gv (m1 rQ (m1 (fg "bool") (ae 0))) (mCh oLe oLt (mC (.int 0)) (ae 0) (ae 1))))
def jH:MF:=run 2 2 jy
def iZ:MS:=bO (gv (m1 (fg "tuple") (ae 0)) (mFn kR (aa (bu (dh (ae 0)) cTT (mFn jH (aa (ae 2) (aa (ae 1) af)))) af)))
def bX:MF:=run 2 2 iZ
def ig:MS:=aW (sIf (cOr (dk (cOf (m1 (fg "tuple") (ae 0)))) (dk (cOf (mCh oLe oLe (mC (.int 1)) (mFn cJ (aa (ae 0) af)) (mC (.int 24)))))) (bO (mC (.bl d_))) bE) (aW (bJ 1 (mFn cJ (aa (ae 0) af))) (bO (mFn kR (aa (bu (dh (ae 0)) cTT (gv (mFn bX (aa (ae 2) (aa (ae 1) af))) (m2 oEq (mFn cJ (aa (ae 2) af)) (ae 1)))) af))))
def gn:MF:=run 1 2 ig
def eO:MS:=bO (gv (m2 oEq (m2 oIx (m2 oIx (ae 0) (mC (.int 0))) (ae 1)) (ae 1)) (m2 oEq (m2 oIx (m2 oIx (ae 0) (ae 1)) (mC (.int 0))) (ae 1)))
def cZ:MF:=run 2 2 eO
def ko:MS:=bO (mFn yw (aa (bu (iR1 (aa (mFn cJ (aa (ae 0) af)) af)) cTT (gv (m2 oEq (m2 oIx (m2 oIx (ae 0) (ae 1)) (ae 2)) (mC (.int 0))) (m2 oEq (m2 oIx (m2 oIx (ae 0) (ae 2)) (ae 1)) (mC (.int 0))))) af))
def gQ:MF:=run 2 2 ko
def jV:MS:=aW (bJ 3 (m2 oIx (ae 0) (m2 oIx (m2 oIx (ae 0) (ae 1)) (ae 2)))) (bO (mFn kR (aa (bu (iR1 (aa (mFn cJ (aa (ae 0) af)) af)) cTT (m2 oEq (m2 oIx (ae 3) (ae 4)) (m2 oIx (m2 oIx (ae 0) (ae 1)) (m2 oIx (m2 oIx (ae 0) (ae 2)) (ae 4))))) af)))
def eZ:MF:=run 3 4 jV
def il:MS:=aW (sIf (dk (cOf (mFn gn (aa (ae 0) af)))) (bO (mC (.bl d_))) bE) (aW (fU 1 (iR1 (aa (mFn cJ (aa (ae 0) af)) af)) (aW (sIf (cOr (dk (cOf (mFn cZ (aa (ae 0) (aa (ae 1) af))))) (dk (cOf (mFn gQ (aa (ae 0) (aa (ae 1) af)))))) (bO (mC (.bl d_))) bE) (sIf (dk (cOf (mFn kR (aa (bu (iR1 (aa (mFn cJ (aa (ae 0) af)) af)) cTT (mFn eZ (aa (ae 0) (aa (ae 1) (aa (ae 2) af))))) af)))) (bO (mC (.bl d_))) bE))) (bO (mC (.bl c_))))
def eg:MF:=run 1 2 il
def iK:MS:=aW (sIf (cOr (dk (cOf (mCh oLe oLe (mC (.int 1)) (mFn (nq jI cJ) (aa (ae 0) af)) (mC (.int 2))))) (dk (cOf (mFn kR (aa (bu (qY (ae 0)) cTT (m2 Bm (ae 1) (mC (.str "0123456789")))) af))))) (bO (mC (.bl d_))) bE) (bO (mOr (m2 oEq (ae 0) (mC (.str "0"))) (m2 oNe (m2 (eN i3 oIx) (ae 0) (mC (.int 0))) (mC (.str "0")))))
def dY:MF:=run 1 1 iK
def iA:MS:=aW (sIf (dk (cOf (mFn dY (aa (ae 0) af)))) sNo bE) (bO (mFn oy (aa (ae 0) af)))
def bF:MF:=run 1 1 iA
def fZ:MX:=jk (xIf (dk (cOf (mFn dY (aa (ae 0) af)))) (jk (nN 0 5) sNo xNo) xNo) (sIf (dk (cOf (mFn dY (aa (ae 0) af)))) sNo bE) xNo
def ej:RF:=qj 1 1 fZ
def fC:MS:=bO (mFn bZ (aa (bu (dh (mMS dn (ae 0) (aa (mC (.str " ")) af))) cTT (mFn bF (aa (ae 1) af))) af))
def aP:MF:=run 1 1 fC
def fw:MX:=jk (jh (mMS dn (ae 0) (aa (mC (.str " ")) af)) (mFn bF (aa (ae 1) af)) (xFn ej (aa (ae 1) af))) (bO (mFn bZ (aa (bu (dh (mMS dn (ae 0) (aa (mC (.str " ")) af))) cTT (mFn bF (aa (ae 1) af))) af))) xNo
def cz:RF:=qj 1 1 fw
def fL:MS:=aW (dm (mFn bM (aa (ae 0) af))) (aW (bJ 1 (mFn bZ (aa (bu (dh (mMS dn (ae 0) (aa (mC (.str "/")) af))) cTT (mFn aP (aa (ae 2) af))) af))) (aW (sIf (dk (cOf (mFn eg (aa (ae 1) af)))) sNo bE) (bO (ae 1))))
def dz:MF:=run 1 2 fL
def gW:MX:=jk (xFn dD (aa (ae 0) af)) (dm (mFn bM (aa (ae 0) af))) (jk (jh (mMS dn (ae 0) (aa (mC (.str "/")) af)) (mFn aP (aa (ae 2) af)) (xFn cz (aa (ae 2) af))) (bJ 1 (mFn bZ (aa (bu (dh (mMS dn (ae 0) (aa (mC (.str "/")) af))) cTT (mFn aP (aa (ae 2) af))) af))) (jk (xIf (dk (cOf (mFn eg (aa (ae 1) af)))) (jk (qO 5) sNo xNo) xNo) (sIf (dk (cOf (mFn eg (aa (ae 1) af)))) sNo bE) xNo))
def dX:RF:=qj 1 2 gW
def ft:MS:=aW (dm (mFn bM (aa (ae 0) af))) (aW (sIf (cOf (m2 oEq (ae 0) (mC (.str "none")))) (bO (gZ af)) bE) (aW (bJ 1 (mFn aP (aa (ae 0) af))) (aW (sIf (cOr (cOf (m2 oGt (mFn cJ (aa (ae 1) af)) (mC (.int 60)))) (dk (cOf (mFn bX (aa (ae 1) (aa (mC (.int 24)) af)))))) sNo bE) (bO (ae 1)))))
def dZ:MF:=run 1 2 ft
def iL:MX:=jk (xFn dD (aa (ae 0) af)) (dm (mFn bM (aa (ae 0) af))) (jk xNo (sIf (cOf (m2 oEq (ae 0) (mC (.str "none")))) (bO (gZ af)) bE) (jk (xFn cz (aa (ae 0) af)) (bJ 1 (mFn aP (aa (ae 0) af))) (jk (xIf (cOr (cOf (m2 oGt (mFn cJ (aa (ae 1) af)) (mC (.int 60)))) (dk (cOf (mFn bX (aa (ae 1) (aa (mC (.int 24)) af)))))) (jk (qO 5) sNo xNo) xNo) (sIf (cOr (cOf (m2 oGt (mFn cJ (aa (ae 1) af)) (mC (.int 60)))) (dk (cOf (mFn bX (aa (ae 1) (aa (mC (.int 24)) af)))))) sNo bE) xNo)))
def eK:RF:=qj 1 2 iL
def ic:MS:=bO (mMS j4 (mC (.str "/")) (aa (bu (dh (ae 0)) cTT (mMS j4 (mC (.str " ")) (aa (bu (dh (ae 1)) cTT (mFn pZ (aa (ae 2) af))) af))) af))
def eE:MF:=run 1 1 ic
def gh:MS:=bO (F9 (cOf (m2 oEq (ae 0) (gZ af))) (mC (.str "none")) (mMS j4 (mC (.str " ")) (aa (bu (dh (ae 0)) cTT (mFn pZ (aa (ae 1) af))) af)))
def eW:MF:=run 1 1 gh
def cg(a_n Z':hE):MF:=nq (rgF [5] a_n dz dX) (rgF [5] Z' dZ eK)
def kC:MS:=aW (bJ 2 (mFn aH (aa (ae 0) (aa (mC (.int 9)) af)))) (aW (bJ 3 (mFn aH (aa (ae 0) (aa (m2 (eN ff cK) (mFn (nq jI cJ) (aa (ae 1) af)) (mC (.int 1))) af)))) (aW (bJ 4 (m2 (eN i3 oIx) (mC (.str "0123456789/ -na")) (mFn aH (aa (ae 0) (aa (mC (.int 15)) af))))) (aW (sIf (cOf (m2 oLt (ae 2) (mC (.int 4)))) (bO (m2 (eN i3 oIx) (b0 (aa (m2 (eN ff cK) (lC (ae 1) b_ (a_ (ae 3))) (lC (ae 1) (a_ (m2 (eN ff cK) (ae 3) (mC (.int 1)))) b_)) (aa (m2 (eN ff cK) (m2 (eN ff cK) (lC (ae 1) b_ (a_ (ae 3))) (ae 4)) (lC (ae 1) (a_ (ae 3)) b_)) (aa (m2 (eN ff cK) (m2 (eN ff cK) (lC (ae 1) b_ (a_ (ae 3))) (ae 4)) (lC (ae 1) (a_ (m2 (eN ff cK) (ae 3) (mC (.int 1)))) b_)) (aa (ae 1) af))))) (ae 2))) bE) (aW (bJ 5 (mMS dn (ae 1) (aa (mC (.str " ")) af))) (aW (bJ 6 (mFn aH (aa (ae 0) (aa (mFn (nq jI cJ) (aa (ae 5) af)) af)))) (aW (bJ 7 (mFn aH (aa (ae 0) (aa (mFn (nq jI cJ) (aa (ae 5) af)) af)))) (aW (sIf (cOf (m2 oEq (ae 2) (mC (.int 4)))) (dm (mML jS (ae 5) (aa (ae 6) af))) (sIf (cOf (m2 oEq (ae 2) (mC (.int 5)))) (dm (mML kn (ae 5) (aa (ae 7) (aa (m2 (eN i3 oIx) (ae 5) (ae 6)) af)))) (sIf (cOf (m2 oEq (ae 2) (mC (.int 6)))) (Dy (gZ (aa (m2 (eN i3 oIx) (ae 5) (ae 7)) (aa (m2 (eN i3 oIx) (ae 5) (ae 6)) af))) (gTp 2 (kA (gSb (ae 5) (ae 6)) (kA (gSb (ae 5) (ae 7)) xH)))) (jR (ae 5) (ae 6) (m2 (eN i3 oIx) (b0 (aa (mC (.str "0")) (aa (mC (.str "1")) (aa (mC (.str "23")) (aa (mC (.str "24")) (aa (mC (.str "00")) (aa (mC (.str "01")) (aa (mC (.str "")) (aa (mC (.str "none")) (aa (mC (.str "0/1")) (aa (mC (.str "1/1")) af))))))))))) (mFn aH (aa (ae 0) (aa (mC (.int 10)) af)))))))) (bO (mMS j4 (mC (.str " ")) (aa (ae 5) af))))))))))
def ib:MF:=run 2 8 kC
def iy:MS:=aW (bJ 1 (bu (iR1 (aa (mC (.int 24)) af)) cTT (mFn pZ (aa (ae 4) af)))) (aW (bJ 2 (b0 af)) (aW (fU 3 (dh (mMS dn (ae 0) (aa (mC (.str " ")) af))) (aW (sIf (cOf (m2 kZ (ae 3) (ae 1))) (bO (mC .non)) bE) (dm (mML cW (ae 2) (aa (mFn oy (aa (ae 3) af)) af))))) (bO (mFn bZ (aa (ae 2) af)))))
def dA:MF:=run 1 4 iy
def k9:MS:=bO (gv (m1 (fg "int") (ae 0)) (m1 rQ (m1 (fg "bool") (ae 0))))
def fB:MF:=run 1 1 k9
def gF:MS:=aW (sIf (cOr (dk (cOf (m1 (fg "tuple") (ae 0)))) (dk (cOf (mCh oLe oLe (mC (.int 1)) (mFn cJ (aa (ae 0) af)) (mC (.int 24)))))) (bO (mC (.bl d_))) bE) (aW (bJ 1 (mFn cJ (aa (ae 0) af))) (aW (fU 2 (dh (ae 0)) (aW (sIf (cOr (dk (cOf (m1 (fg "tuple") (ae 2)))) (cOf (m2 oNe (mFn cJ (aa (ae 2) af)) (ae 1)))) (bO (mC (.bl d_))) bE) (sIf (dk (cOf (mFn kR (aa (bu (dh (ae 2)) cTT (gv (mFn fB (aa (ae 6) af)) (mCh oLe oLt (mC (.int 0)) (ae 6) (ae 1)))) af)))) (bO (mC (.bl d_))) bE))) (aW (sIf (dk (cOf (mFn kR (aa (bu (iR1 (aa (ae 1) af)) cTT (gv (m2 oEq (m2 oIx (m2 oIx (ae 0) (mC (.int 0))) (ae 6)) (ae 6)) (m2 oEq (m2 oIx (m2 oIx (ae 0) (ae 6)) (mC (.int 0))) (ae 6)))) af)))) (bO (mC (.bl d_))) bE) (aW (fU 3 (iR1 (aa (ae 1) af)) (aW (sIf (cOf (m2 oEq (bu (iR1 (aa (ae 1) af)) (rR (cOf (m2 oEq (m2 oIx (m2 oIx (ae 0) (ae 3)) (ae 6)) (mC (.int 0)))) (cOf (m2 oEq (m2 oIx (m2 oIx (ae 0) (ae 6)) (ae 3)) (mC (.int 0))))) (ae 6)) (b0 af))) (bO (mC (.bl d_))) bE) (fU 4 (iR1 (aa (ae 1) af)) (aW (bJ 5 (m2 oIx (ae 0) (m2 oIx (m2 oIx (ae 0) (ae 3)) (ae 4)))) (sIf (cOf (m2 oNe (bu (iR1 (aa (ae 1) af)) (cOf (m2 oNe (m2 oIx (ae 5) (ae 6)) (m2 oIx (m2 oIx (ae 0) (ae 3)) (m2 oIx (m2 oIx (ae 0) (ae 4)) (ae 6))))) (ae 6)) (b0 af))) (bO (mC (.bl d_))) bE))))) (bO (mC (.bl c_)))))))
def ik:MF:=run 1 6 gF
def eX:MS:=aW (bJ 1 (mFn bZ (aa (bu (dh (mMS dn (ae 0) (aa (mC (.str "/")) af))) cTT (mFn dA (aa (ae 2) af))) af))) (aW (sIf (cOr (cOf (m2 yc (mC .non) (ae 1))) (dk (cOf (mFn ik (aa (ae 1) af))))) (bO (mC .non)) bE) (bO (ae 1)))
def dw:MF:=run 1 2 eX
def eG:MS:=aW (sIf (cOf (m2 oEq (ae 0) (mC (.str "none")))) (bO (gZ af)) bE) (aW (bJ 1 (mFn dA (aa (ae 0) af))) (aW (sIf (cOr (cOf (m2 oIs (ae 1) (mC .non))) (cOf (m2 oGt (mFn cJ (aa (ae 1) af)) (mC (.int 60))))) (bO (mC .non)) bE) (bO (ae 1))))
def eD:MF:=run 1 2 eG
def B6(a_n Z':hE):MS:=aW (fU 1 (iR1 (aa (mFn wK (aa (mC (.int 1)) (aa (mFn wL (aa (mFn cJ (aa (ae 0) af)) (aa (mC (.int 8)) af))) af))) af)) (aW (bJ 2 (mFn jD (aa (ae 0) (aa (ae 1) af)))) (aW (bJ 3 (mFn gz (aa (ae 2) (aa (m2 oIx (b0 (aa (mC (.int 8)) (aa (mC (.int 8)) (aa (mC (.int 8)) (aa (mC (.int 12)) af))))) (mFn aH (aa (ae 2) (aa (mC (.int 4)) af)))) af)))) (aW (bJ 4 (mFn bZ (aa (bu (iR1 (aa (m2 oIx (b0 (aa (mC (.int 0)) (aa (mC (.int 1)) (aa (mC (.int 3)) (aa (mC (.int 60)) af))))) (mFn aH (aa (ae 2) (aa (mC (.int 4)) af)))) af)) cTT (mFn aH (aa (ae 2) (aa (mC (.int 24)) af)))) af))) (aW (bJ 5 (b0 (aa (mFn eE (aa (ae 3) af)) (aa (mFn eW (aa (ae 4) af)) af)))) (aW (fU 6 (iR1 (aa (mC (.int 3)) af)) (aW (sIf (dk (cOf (mFn (cg a_n Z') (aa (mC (.obj a_n)) (aa (m2 oIx (ae 5) (mC (.int 0))) (aa (mFn dw (aa (m2 oIx (ae 5) (mC (.int 0))) af)) af)))))) (bO (mC (.bl d_))) bE) (aW (sIf (dk (cOf (mFn (cg a_n Z') (aa (mC (.obj Z')) (aa (m2 oIx (ae 5) (mC (.int 1))) (aa (mFn eD (aa (m2 oIx (ae 5) (mC (.int 1))) af)) af)))))) (bO (mC (.bl d_))) bE) (bJ 5 (bu (dh (ae 5)) cTT (mFn ib (aa (ae 2) (aa (ae 8) af)))))))) (aW (bJ 7 (m2 oIx (b0 (aa (mC .non) (aa (mC (.int 7)) (aa (gZ (aa (gZ (aa (mC (.int 0)) af)) af)) (aa (b0 (aa (mC (.str "0")) af)) (aa (mC (.bl c_)) (aa qL (aa (gZ af) af)))))))) (mFn aH (aa (ae 2) (aa (mC (.int 7)) af))))) (sIf (cOr (dk (cOf (mFn (cg a_n Z') (aa (mC (.obj a_n)) (aa (ae 7) (aa (mC .non) af)))))) (dk (cOf (mFn (cg a_n Z') (aa (mC (.obj Z')) (aa (ae 7) (aa (mC .non) af))))))) (bO (mC (.bl d_))) bE)))))))) (bO (mC (.bl c_)))
def MZ(a_n Z':hE):MF:=run 1 8 (B6 a_n Z')
section
open _L _G
def wd(n:Nat):aq:=cH (toString (n:Int))
def FIG:aq:=cH "0123456789"
def BLK:aq:=cH " "
def SLA:aq:=cH "/"
theorem nz:BLK=⟨#[32]⟩:=by decide +kernel
theorem yn:SLA=⟨#[47]⟩:=by decide +kernel
theorem yj:∀n:Fin 24,(1<=(wd n).length/\(wd n).length<=2)/\d5 (wd n)=a_ ((n:Nat):Int)/\((wd n).cps.toList.all λc=>decide (48<=c)&&decide (c<=57))=c_/\((n:Nat)=0 \/ ∃c,c<128/\(wd n).cps.toList.head? = a_ c/\c≠48):=by decide +kernel
def jl(c:Nat):List (List Nat)->List Nat
 |[]=>[]
 |[x]=>x
 |x::y::r=>x++c::jl c (y::r)
theorem rY(c:Nat):∀ps:List aq,(mR ⟨#[c]⟩ ps).cps.toList=jl c (ps.map λp=>p.cps.toList)
 |[]=>rfl
 |[x]=>rfl
 | x::y::r=>by
   have ih:=rY c (y::r);show((x.cps ++ #[c])++(mR ⟨#[c]⟩ (y::r)).cps).toList=x.cps.toList++c::jl c ((y::r).map λp=>p.cps.toList);rw[<-ih,gJ,gJ,fX];rfl
theorem Ep{c x:Nat}:∀{ps:List (List Nat)},x∈jl c ps->x=c \/ ∃p∈ps,x∈p
 |[],h=>by cases h
 |[p],h=>.inr ⟨p,bq,h⟩
 | p::q::r,h=>by
   have h:x∈p++c::jl c (q::r):=h;rcases fE.mp h with h|h
   .exact .inr ⟨p,bq,h⟩
   .rcases bf.mp h with h|h
    .exact .inl h
    .exact(Ep h).imp id fun⟨p,hp,z⟩=>⟨p,az _ hp,z⟩
theorem rh{c x:Nat}{ps:List aq}(h:x∈(de ⟨#[c]⟩ ps).cps.toList):x=c \/ ∃p∈ps,x∈p.cps.toList:=by
 rw[show de ⟨#[c]⟩ ps=mR ⟨#[c]⟩ ps from iX _ _,rY]at h;refine(Ep h).imp id fun⟨p,hp,z⟩=>?_;obtain⟨q,hq,rfl⟩:=aL.mp hp;exact⟨q,hq,z⟩
def Sgn(x:aq):Prop:= ∀c∈x.cps.toList,c=32\/c=47\/(48<=c/\c<=57)
def nt(l:List Nat):aq:=de BLK (l.map wd)
def gtx(ls:List (List Nat)):aq:=de SLA (ls.map nt)
theorem Kq{n:Nat}(h:n<24):∀c∈(wd n).cps.toList,48<=c/\c<=57:=λc hc=>by
 have:=aC.mp (yj ⟨n,h⟩).2.2.1 c hc;rw[ah]at this;exact⟨of_decide_eq_true this.1,of_decide_eq_true this.2⟩
section
variable {l:List Nat}
theorem CQ(h:∀x∈l,x<24):∀c∈(nt l).cps.toList,c=32\/(48<=c/\c<=57):=λc hc=>by
 unfold nt at hc;rw[nz]at hc;refine(rh hc).imp id fun⟨p,hp,z⟩=>?_;obtain⟨n,hn,rfl⟩:=aL.mp hp;exact Kq (h n hn) c z
theorem Gp{ls:List (List Nat)}(h:∀l∈ls,∀x∈l,x<24):Sgn (gtx ls):=λc hc=>by
 unfold gtx at hc;rw[yn]at hc;rcases rh hc with z|⟨p,hp,z⟩
 .exact .inr (.inl z)
 .obtain⟨n,hn,rfl⟩:=aL.mp hp
  exact(CQ (h n hn) _ z).imp id .inr
theorem yA{B:Nat}:∀{ys:List aq},(∀y∈ys,y.length<=B)->(ys.map (·.length)).sum<=ys.length*B:=λ{ys} h=>PySem.StrLaws.sumLen_le ys h
theorem CB(h:∀x∈l,x<24):(nt l).length<=l.length*3:=by
 have e:(nt l).length=((l.map wd).map (·.length)).sum+((l.map wd).length-1)*BLK.length:=lX _ _;have hb:BLK.length=1:=by rw[nz];rfl
 have h1:=yA (B:=2) (ys:=l.map wd) λy hy=>by obtain⟨n,hn,rfl⟩:=aL.mp hy;exact(yj ⟨n,h n hn⟩).1.2
 rw[aj]at h1 e;rw[e,hb];omega
theorem Of(h:∀x∈l,x<24)(hl:l.length<1000):kl BLK (l.map wd):=by
 have hb:BLK.length=1:=by rw[nz];rfl
 have h1:=yA (B:=2) (ys:=l.map wd) λy hy=>by obtain⟨n,hn,rfl⟩:=aL.mp hy;exact(yj ⟨n,h n hn⟩).1.2
 unfold kl;rw[aj]at h1 ⊢;rw[hb];omega
theorem DO{ls:List (List Nat)}(h:∀l∈ls,∀x∈l,x<24)(hl:∀l∈ls,l.length<=24)(hn:ls.length<=24):kl SLA (ls.map nt)/\(gtx ls).length<=5000:=by
 have hb:SLA.length=1:=by rw[yn];rfl
 have h1:=yA (B:=72) (ys:=ls.map nt) λy hy=>by obtain⟨l,Wo,rfl⟩:=aL.mp hy;have:=CB (h l Wo);have:=hl l Wo;omega
 have e:(gtx ls).length=((ls.map nt).map (·.length)).sum+((ls.map nt).length-1)*SLA.length:=lX _ _;unfold kl;rw[aj]at h1 e ⊢;rw[e,hb];omega
end
end
section
open _L _G
theorem xr{e:ME}{Y:Rho}(P:Sto->Prop):∀(us ys acc:List U) (S:Sto),us.length=ys.length->P S->(∀(j:Nat) (u v:U) (S:Sto),us[j]?=a_ u->ys[j]?=a_ v->P S->∃S',e (Y++[a_ u]) S=a_ (v,S')/\P S')->∃S',dO cTT e Y us acc S=a_ (acc++ys,S')/\P S'
 |[],[],acc,S,_,h,_=>⟨S,by simp[dO],h⟩
 |[],_::_,_,_,hl,_,_=>by cases hl
 |_::_,[],_,_,hl,_,_=>by cases hl
 | u::us,v::ys,acc,S,hl,h,st=>by
   obtain⟨S1,e1,h1⟩:=st 0 u v S rfl rfl h;obtain⟨S2,e2,h2⟩:=xr P us ys (acc++[v]) S1 (xX hl) h1 λj u v S hu hv=>st (j+1) u v S (by simpa using hu) (by simpa using hv);refine⟨S2,?_,h2⟩;simp only[dO,cTT,ak,if_true,e1];rw[e2];simp
theorem vJ{e:ME}{Y:Rho}{n:Nat}{us ys:List U}(P:Sto->Prop)(hl:us.length=ys.length)(hP:∀S,P S->getL S n=a_ us)(he:∀(j:Nat) (u v:U) (S:Sto),us[j]?=a_ u->ys[j]?=a_ v->P S->∃S',e (Y++[a_ u]) S=a_ (v,S')/\P S'):
  ∀(k i:Nat) (acc:List U) (S:Sto),i<=us.length->us.length-i<k->P S->∃S',iY cTT e Y n k i acc S=a_ (acc++ys.drop i,S')/\P S'
 |0,i,acc,S,h1,h2,_=>by omega
 | k+1,i,acc,S,h1,h2,h=>by
   unfold iY;rw[hP S h];simp only[ay];by_cases hi:i<us.length
   .have Wx:i<ys.length:=by omega
    have hd:ys.drop i=ys[i]::ys.drop (i+1):=eB Wx;obtain⟨S1,e1,p1⟩:=he i us[i] ys[i] S (aG hi) (aG Wx) h;obtain⟨S2,e2,p2⟩:=vJ P hl hP he k (i+1) (acc++[ys[i]]) S1 hi (by omega) p1;refine⟨S2,?_,p2⟩;rw[aG hi];simp only[cTT,ak,if_true];rw[e1];simp only[ak];rw[e2,hd,fX];rfl
   .rw[nK (by omega),m6 (by omega)]
    exact⟨S,by simp,h⟩
section
variable {Y:Rho}{S S1:Sto}{a o e:ME}
theorem Io{n:Nat}{us ys:List U}(ha:a Y S=a_ (.ref n,S1))(hu:S1[n]?=a_ (.lst us))(hl:us.length=ys.length)(hz:us.length<100000)
  (he:∀(j:Nat) (u v:U) (S:Sto),us[j]?=a_ u->ys[j]?=a_ v->Ex S1 S->∃S',e (Y++[a_ u]) S=a_ (v,S')/\Ex S S'):∃S',mFn bZ (aa (bu (dh a) cTT e) af) Y S=a_ (.tup ys,S')/\Ex S1 S':=by
 have hg:∀S',Ex S1 S'->getL S' n=a_ us:=λS' x=>by unfold getL;rw[x.some hu]
 obtain⟨S2,e1,x1⟩:=vJ (e:=e) (Y:=Y) (n:=n) (us:=us) (ys:=ys) (λS'=>Ex S1 S') hl hg (λj u v S h1 h2 x=>by obtain⟨S',e,x'⟩:=he j u v S h1 h2 x;exact⟨S',e,x.trans x'⟩) fuel 0 [] S1 (gy _) (by unfold fuel;exact hz) (Ex.refl _);have hi:dh a Y S=a_ (.mut n,S1):=by simp only[dh,ha,ak,hg S1 (Ex.refl _),aT]
 rw[fK,List.drop_zero]at e1;have e2:bu (dh a) cTT e Y S=a_ (.ref S2.length,S2++[.lst ys]):=by
  simp only[bu,hi,ak,rA,e1];exact if_pos (by unfold big;omega)
 exact⟨_,kH e2,x1.trans (Ex.push _ _)⟩
theorem strs_map:∀ys:List aq,c9 strOf (ys.map U.str)=a_ ys
 |[]=>rfl
 |y::ys=>by rw[bY];unfold c9;rw[strs_map ys];rfl
theorem join_eq{z:aq}{ys:List aq}{r:Nat}(ho:o Y S=a_ (.str z,S))(ha:a Y S=a_ (.ref r,S1))(hr:S1[r]?=a_ (.lst (ys.map U.str)))(hk:kl z ys):mMS j4 o (aa a af) Y S=a_ (.str (de z ys),S1):=by
 have hg:getL S1 r=a_ (ys.map U.str):=by unfold getL;rw[hr]
 simp only[mMS,ho,ak,aa,ha,af,j4,hg,ay,strs_map,if_pos hk]
variable{y:aq}
theorem qP{z:aq}(ho:o Y S=a_ (.str z,S))(ha:a Y S=a_ (.str y,S))(hk:qz z y):mMS dn o (aa a af) Y S=a_ (.ref S.length,S++[.lst ((aO z y).map U.str)]):=by
 simp only[mMS,ho,ak,aa,ha,af,dn,if_pos hk]
theorem wC{x:aq}(hx:ck x=c_)(hy:ck y=c_):_G.eqU S (.str x) (.str y)=a_ (decide (x=y)):=by
 have e:∀{z:aq},ck z=c_->toD S 40 (.str z)=a_ (.str z):=λ{z} h=>by
  unfold toD;rw[if_pos (by simpa [PySem.PyData.canLay0]using h)]
 unfold _G.eqU;rw[e hx,e hy];simp only[ay,aT,bL]
 congr 1
variable{S2:Sto}
theorem E7{b:ME}{x:aq}(ha:a Y S=a_ (.str x,S1))(hb:b Y S1=a_ (.str y,S2))(hx:ck x=c_)(hy:ck y=c_):m2 oEq a b Y S=a_ (.bl (decide (x=y)),S2):=
 op2 ha hb (by simp only[oEq,wC hx hy,aT])
theorem OL{b:ME}{x:aq}(ha:a Y S=a_ (.str x,S1))(hb:b Y S1=a_ (.str y,S2))(hx:ck x=c_)(hy:ck y=c_):m2 oNe a b Y S=a_ (.bl (!decide (x=y)),S2):=
 op2 ha hb (by simp only[oNe,wC hx hy,aT])
theorem Dx{l:List Nat}{i:Nat}(ha:a Y S=a_ (.tup (aV l),S))(hv :∀ (x:Nat),ae i (Y ++ [a_ (.int (x:Nat))]) S=a_ (.int (x:Nat),S))(h :∀ x∈l,x<24)(hl:l.length<1000):mMS j4 (mC (.str " ")) (aa (bu (dh a) cTT (mFn pZ (aa (ae i) af))) af) Y S=a_ (.str (nt l),S ++ [.lst (l.map fun x=>.str (wd x))]):=by
 have e1:=wQ (e:=mFn pZ (aa (ae i) af)) (Y:=Y) (S:=S) (a:=a) (l:=l) (f:=λx => .str (wd x)) ha (by omega) (λx hx=>cy (hv x) (if_pos (by
  show((x:Nat):Int).natAbs.log2<1920;rw[Int.natAbs_natCast];have:=h x hx
  exact a9 (Nat.log2_le_self x) (by omega))))
 exact join_eq (z:=BLK) (ys:=l.map wd) rfl e1 (by rw[bA,dj];rfl) (Of h hl)
end
section
variable {S:Sto}{l:List Nat}{m:Nat}{T:Nat->Nat->Nat}
def mL(m:Nat)(T:Nat->Nat->Nat):List (List Nat):=(av m).map λi=>(av m).map (T i)
theorem FH:tab m T=.tup ((mL m T).map λr=>.tup (aV r)):=by
 unfold tab yq mL;rw[dj]
 congr 1
 apply j0;intro i _;exact Eg
theorem uk(g:Grp m T)(hm:m<=24):∀r∈mL m T,∀x∈r,x<24:=λr hr x hx=>by
 obtain⟨i,hi,rfl⟩:=aL.mp hr;obtain⟨j,hj,rfl⟩:=aL.mp hx;exact ax (g.cl i j (cj.mp hi) (cj.mp hj)) hm
theorem uK(hm:m<=24):∀r∈mL m T,r.length<=24:=λr hr=>by
 obtain⟨i,hi,rfl⟩:=aL.mp hr;simpa using hm
theorem Cm:(mL m T).length=m:=by simp[mL]
theorem HV{Y:Rho}{a e:ME}(g:Grp m T)(hm:m<=24)(ha:a Y S=a_ (tab m T,S))(he:∀r∈mL m T,∀S',∃ZO,e (Y++[a_ (.tup (aV r))]) S'=a_ (.str (nt r),ZO)/\Ex S' ZO):
  ∃ S',mMS j4 (mC (.str "/")) (aa (bu (dh a) cTT e) af) Y S=a_ (.str (gtx (mL m T)),S')/\Ex S S':=by
 obtain⟨S1,e1,x1⟩:=xr (e:=e) (Y:=Y) (λS'=>Ex S S') ((mL m T).map λr => .tup (aV r)) ((mL m T).map λr => .str (nt r)) [] S (by simp) (Ex.refl _) (by
  intro j u v S' hu hv hx;rw[ba]at hu hv;obtain⟨r,hr,rfl⟩:=iF.mp hu;rw[hr]at hv;cases hv;obtain⟨S2,e2,x2⟩:=he r (bo hr) S'
  exact⟨S2,e2,hx.trans x2⟩)
 rw[fK]at e1;rw[FH]at ha;have e2:=i8 (it:=dh a) (Y:=Y) (S:=S) (us:=(mL m T).map λr=>.tup (aV r)) (by simp only[dh,ha,ak]) e1 (by rw[aj,Cm];unfold big;omega);exact⟨_,join_eq (z:=SLA) (ys:=(mL m T).map nt) rfl e2 (by rw[bA,dj];rfl) (DO (uk g hm) (uK hm) (by rw[Cm];exact hm)).1,x1.trans (Ex.push _ _)⟩
theorem Lo(g:Grp m T)(hm:m<=24):∃S',eE [tab m T] S=a_ (.str (gtx (mL m T)),S')/\Ex S S':=by
 obtain⟨S1,e1,x1⟩:=HV (S:=S) (Y := [a_ (tab m T)]) (a:=ae 0) (e:=mMS j4 (mC (.str " ")) (aa (bu (dh (ae 1)) cTT (mFn pZ (aa (ae 2) af))) af)) g hm (var_eq rfl) (fun r hr S'=>
  ⟨_,Dx (var_eq rfl) (λx=>rfl) (uk g hm r hr) (by have:=uK hm r hr;omega),Ex.push _ _⟩)
 exact⟨S1,bw (Y:= [a_ (tab m T)]) rfl (show ic [a_ (tab m T)] S=_ from bP e1),x1⟩
def wtx(l:List Nat):aq:=if l=[] then cH "none" else nt l
theorem qH:ck (cH "none")=c_:=by decide +kernel
theorem Oe(h:∀x∈l,x<24)(hl:l.length<1000):∃S',eW [.tup (aV l)] S=a_ (.str (wtx l),S')/\Ex S S':=by
 have c:cOf (m2 oEq (ae 0) (gZ af)) [a_ (.tup (aV l))] S=a_ (decide (l=[]),S):=of_eq (IW (y:= []) (var_eq rfl) rfl);unfold wtx;by_cases z:l=[]
 .subst z
  rw[if_pos rfl];refine⟨S,bw (Y:= [a_ (.tup (aV []))]) rfl (show gh [a_ (.tup (aV []))] S=_ from bP ?_),Ex.refl _⟩;show bnd (cOf (m2 oEq (ae 0) (gZ af)) [a_ (.tup (aV []))] S) _=_;rw[c];rfl
 .rw[if_neg z]
  rw[decide_eq_false z]at c;refine⟨S++[.lst (l.map λx=>.str (wd x))],bw (Y:= [a_ (.tup (aV l))]) rfl (show gh [a_ (.tup (aV l))] S=_ from bP ?_),Ex.push _ _⟩;show bnd (cOf (m2 oEq (ae 0) (gZ af)) [a_ (.tup (aV l))] S) _=_;rw[c];exact Dx (Y:= [a_ (.tup (aV l))]) (a:=ae 0) (var_eq rfl) (λx=>rfl) h hl
end
end
section
open _L _G
section
variable {m:Nat}{T:Nat->Nat->Nat}{S:Sto}
def Cl(m:Nat)(T:Nat->Nat->Nat):Prop:= ∀i j,i<m->j<m->T i j<m
def p0(T:Nat->Nat->Nat)(i:Nat):Bool:=decide (T 0 i=i)&&decide (T i 0=i)
def pU(m:Nat)(T:Nat->Nat->Nat)(i:Nat):Bool:=(av m).any λj=>decide (T i j=0)&&decide (T j i=0)
def pA(m:Nat)(T:Nat->Nat->Nat)(i j:Nat):Bool:=(av m).all λk=>decide (T (T i j) k=T i (T j k))
def pR(m:Nat)(T:Nat->Nat->Nat)(i:Nat):Bool:=(av m).all (pA m T i)
def pG(m:Nat)(T:Nat->Nat->Nat)(i:Nat):Bool:=(p0 T i&&pU m T i)&&pR m T i
def gG(m:Nat)(T:Nat->Nat->Nat):Bool:=(av m).all (pG m T)
variable{i:Nat}
theorem OB(h0:0<m)(hi:i<m):cZ [tab m T,.int (i:Nat)] S=a_ (.bl (p0 T i),S):=by
 have e1:=oX (Y:= [a_ (tab m T),a_ (.int (i:Nat))]) (S:=S) (b:=ae 1) (eP (T:=T) (i:=0) (j:=i) hi (eS h0 (a:=ae 0) (b:=mC (.int 0)) (var_eq rfl) c_i) (b:=ae 1) (var_eq rfl)) (var_eq rfl);have e2:=oX (Y:= [a_ (tab m T),a_ (.int (i:Nat))]) (S:=S) (b:=ae 1) (eP (T:=T) (i:=i) (j:=0) h0 (eS hi (a:=ae 0) (b:=ae 1) (var_eq rfl) (var_eq rfl)) (b:=mC (.int 0)) c_i) (var_eq rfl);exact bw (Y:= [a_ (tab m T),a_ (.int (i:Nat))]) rfl (show eO [a_ (tab m T),a_ (.int (i:Nat))] S=_ from bP (jM e1 (λ_=>e2) λ_=>rfl))
theorem O3(hm:m<1000)(hi:i<m):∃S',gQ [tab m T,.int (i:Nat)] S=a_ (.bl (pU m T i),S')/\Ex S S':=by
 obtain⟨S1,e1,rfl⟩:=ji (Y:= [a_ (tab m T),a_ (.int (i:Nat))]) (S:=S) (S0:=S) (a:=mFn cJ (aa (ae 0) af)) (e:=gv (m2 oEq (m2 oIx (m2 oIx (ae 0) (ae 1)) (ae 2)) (mC (.int 0))) (m2 oEq (m2 oIx (m2 oIx (ae 0) (ae 2)) (ae 1)) (mC (.int 0)))) (n:=m) (len_tab (var_eq rfl)) (by unfold big;omega) (λj => .bl (decide (T i j=0)&&decide (T j i=0))) (λ_ S'=>S'=S) rfl (by
  rintro j S2 hj rfl
  exact⟨S2,jM (oX (y:=0) (eP (T:=T) (i:=i) (j:=j) hj (eS hi (var_eq rfl) (var_eq rfl)) (var_eq rfl)) c_i) (λ_=>oX (y:=0) (eP (T:=T) (i:=j) (j:=i) hi (eS hj (var_eq rfl) (var_eq rfl)) (var_eq rfl)) c_i) (λ_=>rfl),rfl⟩)
 have e2:=M5 (l:=av m) (f:=λj=>decide (T i j=0)&&decide (T j i=0)) e1;exact⟨_,bw (Y:= [a_ (tab m T),a_ (.int (i:Nat))]) rfl (show ko [a_ (tab m T),a_ (.int (i:Nat))] S1=_ from bP e2),Ex.push _ _⟩
theorem OK(hc:Cl m T)(hm:m<1000){j:Nat}(hi:i<m)(hj:j<m):∃S',eZ [tab m T,.int (i:Nat),.int (j:Nat)] S=a_ (.bl (pA m T i j),S')/\Ex S S':=by
 have e0:=eS (Y:= [a_ (tab m T),a_ (.int (i:Nat)),a_ (.int (j:Nat)),b_]) (S:=S) (T:=T) (hc i j hi hj) (a:=ae 0) (var_eq rfl) (eP (T:=T) (i:=i) (j:=j) hj (eS hi (a:=ae 0) (b:=ae 1) (var_eq rfl) (var_eq rfl)) (b:=ae 2) (var_eq rfl))
 obtain⟨S1,e1,rfl⟩:=ji (Y:= [a_ (tab m T),a_ (.int (i:Nat)),a_ (.int (j:Nat)),a_ (ox m T (T i j))]) (S:=S) (S0:=S) (a:=mFn cJ (aa (ae 0) af)) (e:=m2 oEq (m2 oIx (ae 3) (ae 4)) (m2 oIx (m2 oIx (ae 0) (ae 1)) (m2 oIx (m2 oIx (ae 0) (ae 2)) (ae 4)))) (n:=m) (len_tab (var_eq rfl)) (by unfold big;omega) (λk => .bl (decide (T (T i j) k=T i (T j k)))) (λ_ S'=>S'=S) rfl (by
  rintro k S2 hk rfl
  exact⟨S2,oX (eP (T:=T) (i:=T i j) (j:=k) hk (var_eq rfl) (var_eq rfl)) (eP (T:=T) (i:=i) (j:=T j k) (hc j k hj hk) (eS hi (var_eq rfl) (var_eq rfl)) (eP (T:=T) (i:=j) (j:=k) hk (eS hj (var_eq rfl) (var_eq rfl)) (var_eq rfl))),rfl⟩)
 have e2:=tW (l:=av m) (f:=λk=>decide (T (T i j) k=T i (T j k))) e1;exact⟨_,bw (Y:= [a_ (tab m T),a_ (.int (i:Nat)),a_ (.int (j:Nat)),a_ (ox m T (T i j))]) rfl (show jV [a_ (tab m T),a_ (.int (i:Nat)),a_ (.int (j:Nat)),b_] S1=_ from(aE (bS e0)).trans (bP e2)),Ex.push _ _⟩
variable{Y:Rho}{S1:Sto}{x:Bool}
theorem ifr{c:MT}(h:c Y S=a_ (x,S1)):sIf c (bO (mC (.bl d_))) bE Y S=a_ (if x then .rt (.bl d_) else .nx,Y,S1):=by
 cases x
 .exact(gw h).trans rfl
 .exact(iU h).trans rfl
theorem Ly{S2:Sto}{a b:MT}{y:Bool}(ha:a Y S=a_ (x,S1))(hb:b Y S1=a_ (y,S2))(h1:Ex S S1)(h2:Ex S1 S2):∃S',cOr (dk a) (dk b) Y S=a_ (!(x&&y),S')/\Ex S S':=by
 cases x with
 |false=>exact⟨S1,xu (not_eq ha),h1⟩
 |true=>exact⟨S2,yi (not_eq ha) (not_eq hb),h1.trans h2⟩
def uN:U->Nat
 |.int z=>z.toNat
 |_=>0
theorem u0{u:U}(h:u∈aU 0 m):∃i,i<m/\u=.int (i:Nat):=by
 obtain⟨i,hi,rfl⟩:=aL.mp h;exact⟨i,cj.mp hi,by simp⟩
theorem uH{q:Nat->Bool}:(aU 0 m).all (λu=>q (uN u))=(av m).all q:=by
 unfold aU;rw[sh]
 congr 1
 funext k
 simp[uN]
theorem Fj{a b:MS}{Y2 Y':Rho}{S2:Sto}{y:Bool}{v:U}(h:a Y S=a_ (if x then .rt v else .nx,Y2,S1))(h2:x=d_->b Y2 S1=a_ (if y then .rt v else .nx,Y',S2)):∃Y4 S',aW a b Y S=a_ (if x||y then .rt v else .nx,Y4,S')/\((Y4=Y2/\S'=S1)\/(Y4=Y'/\S'=S2)):=by
 cases x with
 |true=>exact⟨Y2,S1,dq h,.inl ⟨rfl,rfl⟩⟩
 |false=>exact⟨Y',S2,(aE h).trans (h2 rfl),.inr ⟨rfl,rfl⟩⟩
def igB:MS:=aW (sIf (cOr (dk (cOf (mFn cZ (aa (ae 0) (aa (ae 1) af))))) (dk (cOf (mFn gQ (aa (ae 0) (aa (ae 1) af)))))) (bO (mC (.bl d_))) bE) (sIf (dk (cOf (mFn kR (aa (bu (iR1 (aa (mFn cJ (aa (ae 0) af)) af)) cTT (mFn eZ (aa (ae 0) (aa (ae 1) (aa (ae 2) af))))) af)))) (bO (mC (.bl d_))) bE)
theorem ID(hc:Cl m T)(h0:0<m)(hm:m<1000)(hi:i<m):∃S',igB [a_ (tab m T),a_ (.int (i:Nat))] S=a_ (if pG m T i then .nx else .rt (.bl d_),[a_ (tab m T),a_ (.int (i:Nat))],S')/\Ex S S':=by
 obtain⟨S2,e2,x2⟩:=O3 (S:=S) (T:=T) hm hi;have c1:=of_eq (dB (f:=cZ) (Y:= [a_ (tab m T),a_ (.int (i:Nat))]) (S:=S) (a:=ae 0) (b:=ae 1) (var_eq rfl) (var_eq rfl) (OB h0 hi));have c2:=of_eq (dB (f:=gQ) (Y:= [a_ (tab m T),a_ (.int (i:Nat))]) (S:=S) (a:=ae 0) (b:=ae 1) (var_eq rfl) (var_eq rfl) e2);obtain⟨S3,e3,x3⟩:=Ly c1 c2 (Ex.refl _) x2
 obtain⟨S4,e4,x4⟩:=ji (Y:= [a_ (tab m T),a_ (.int (i:Nat))]) (S:=S3) (S0:=S3) (a:=mFn cJ (aa (ae 0) af)) (e:=mFn eZ (aa (ae 0) (aa (ae 1) (aa (ae 2) af)))) (n:=m) (len_tab (var_eq rfl)) (by unfold big;omega) (λj => .bl (pA m T i j)) (λ_ S'=>Ex S3 S') (Ex.refl _) (by
  rintro j S4 hj x4;obtain⟨S5,e5,x5⟩:=OK (S:=S4) hc hm hi hj
  exact⟨S5,vI (f:=eZ) (var_eq rfl) (var_eq rfl) (var_eq rfl) e5,x4.trans x5⟩)
 have c3:=not_eq (of_eq (tW (l:=av m) (f:=pA m T i) e4));obtain⟨Y4,S',e,hh⟩:=Fj (ifr e3) (λ_=>ifr c3);have Y8:Y4=[a_ (tab m T),a_ (.int (i:Nat))]/\Ex S S':=by
  rcases hh with⟨rfl,rfl⟩|⟨rfl,rfl⟩
  .exact⟨rfl,x3⟩
  .exact⟨rfl,(x3.trans x4).trans (Ex.push _ _)⟩
 obtain⟨rfl,x⟩:=Y8;refine⟨S',e.trans ?_,x⟩;show a_ (if (!(p0 T i&&pU m T i) || !(pR m T i))=c_ then Fl.rt (.bl d_) else .nx,_,_)=_;unfold pG;cases p0 T i<;>cases pU m T i<;>cases pR m T i<;>rfl
end
end
section
variable {m n:Nat}{T:Nat->Nat->Nat}{S:Sto}{us:List U}
def Nz(n:Nat):U->Bool
 |.tup us=>decide (us.length=n)
 |_=>d_
def hJ(n:Nat)(v:U):Bool:=Em n v&&Nz n v
def rwL:U->List U
 |.tup us=>us
 |_=>[]
theorem xo{v:U}(h:hJ n v=c_):∃vs,v=.tup vs/\vs.length=n /\ ∀x∈vs,nbV n x=c_:=by
 unfold hJ at h;rw[ah]at h;cases v with
 |tup vs=>exact⟨vs,rfl,of_decide_eq_true h.2,aC.mp h.1⟩
 |_=>cases h.1
theorem yd{x:U}(h:nbV n x=c_):uN x<n/\x=.int (uN x:Nat):=by
 cases x with
 | int z=>
   unfold nbV at h;simp only[ah,decide_eq_true_eq]at h;refine⟨by simp only[uN];omega,?_⟩;simp only[uN];rw[Int.toNat_of_nonneg h.1]
 |_=>cases h
theorem tab_of(hl:us.length=n)(h:us.all (hJ n)=c_):∃T,Cl n T/\U.tup us=tab n T:=by
 have h:=aC.mp h;have key:∀i,i<n->∃vs,us.getD i .non=.tup vs/\vs.length=n /\ ∀x∈vs,nbV n x=c_:=λi hi=>by
  have e:us.getD i .non=us[i]:=by simp[hl,hi]
  rw[e];exact xo (h _ (cQ (by omega)))
 refine⟨λi j=>uN ((rwL (us.getD i .non)).getD j .non),λi j hi hj=>?_,?_⟩
 .obtain⟨vs,e,hv,ha⟩:=key i hi
  show uN ((rwL (us.getD i .non)).getD j .non)<n;rw[e];have e2:(rwL (.tup vs)).getD j .non=vs[j]:=by simp[rwL,hv,hj]
  rw[e2];exact(yd (ha _ (cQ (by omega)))).1
 .show U.tup us=.tup ((av n).map _)
  congr 1
  refine List.ext_getElem (by simp[hl]) λi h1 h2=>?_;have hi:i<n:=by omega
  obtain⟨vs,e,hv,ha⟩:=key i hi;have e':us.getD i .non=us[i]:=by simp[hl,hi]
  rw[List.getElem_map,List.getElem_range,<-e',e];show U.tup vs=.tup ((av n).map _)
  congr 1
  refine List.ext_getElem (by simp[hv]) λj h3 h4=>?_;have hj:j<n:=by omega
  rw[List.getElem_map,List.getElem_range];show vs[j]=U.int (uN ((rwL (us.getD i .non)).getD j .non):Nat);rw[e];have e2:(rwL (.tup vs)).getD j .non=vs[j]:=by simp[rwL,hv,hj]
  rw[e2];exact(yd (ha _ (cQ (by omega)))).2
theorem rW{e:ME}{Y:Rho}{f:U->U}(P:Sto->Prop):∀(us acc:List U) (S:Sto),P S->(∀u∈us,∀S,P S->∃S',e (Y++[a_ u]) S=a_ (f u,S')/\P S')->∃S',dO cTT e Y us acc S=a_ (acc++us.map f,S')/\P S'
 |[],acc,S,h,_=>⟨S,by simp[dO],h⟩
 | u::us,acc,S,h,st=>by
   obtain⟨S1,e1,h1⟩:=st u (by simp) S h;obtain⟨S2,e2,h2⟩:=rW P us (acc++[f u]) S1 h1 λv hv=>st v (az _ hv);refine⟨S2,?_,h2⟩;simp only[dO,cTT,ak,if_true,e1];rw[e2];simp
variable{Y:Rho}
theorem OG(hv:mFn cJ (aa (ae 0) af) Y S=a_ (.int (n:Nat),S)):mCh oLe oLe (mC (.int 1)) (mFn cJ (aa (ae 0) af)) (mC (.int 24)) Y S=a_ (.bl (decide (1<=n/\n<=24)),S):=by
 have l:oLe (.int 1) (.int (n:Nat)) S=a_ (.bl (decide (1<=n)),S):=by
  show a_ (U.bl (decide ((1:Int)<=(n:Int))),S)=_
  congr 3;exact decide_eq_decide.mpr (by omega)
 have l2:oLe (.int (n:Nat)) (.int 24) S=a_ (.bl (decide (n<=24)),S):=by
  show a_ (U.bl (decide ((n:Int)<=(24:Int))),S)=_
  congr 3;exact decide_eq_decide.mpr (by omega)
 have e:(decide (1<=n/\n<=24))=(decide (1<=n)&&decide (n<=24)):=Bool.decide_and ..;rw[e];cases h:decide (1<=n) with
 |false=>rw[h]at l;simp only[mCh,mC,ak,hv,l,ya]
 |true=>rw[h]at l;simp only[mCh,mC,ak,hv,l,l2,dU]
def Rows(S:Sto)(us:List U):Prop:=us.length<100000 /\ ∀v∈us,Thg S v
theorem yK{S:Sto}(h0:Y[0]?=a_ (a_ (.tup us))):cOr (dk (cOf (m1 (fg "tuple") (ae 0)))) (dk (cOf (mCh oLe oLe (mC (.int 1)) (mFn cJ (aa (ae 0) af)) (mC (.int 24))))) Y S=a_ (!(decide (1<=us.length/\us.length<=24)),S):=
 yi (not_eq (of_eq (isT (var_eq h0)))) (not_eq (of_eq (OG (nZ (var_eq h0)))))
theorem K7(h:Rows S us):∃S',gn [.tup us] S=a_ (.bl (decide (1<=us.length/\us.length<=24)&&us.all (hJ us.length)),S')/\Ex S S':=by
 have c:=ifr (yK (Y:= [a_ (.tup us),b_]) (S:=S) rfl);cases hd:decide (1<=us.length/\us.length<=24) with
 | false=>
   rw[hd]at c;exact⟨S,bw (Y:= [a_ (.tup us),b_]) rfl (show ig [a_ (.tup us),b_] S=_ from dq c),Ex.refl _⟩
 | true=>
   rw[hd]at c
   obtain⟨S1,e1,x1⟩:=rW (e:=gv (mFn bX (aa (ae 2) (aa (ae 1) af))) (m2 oEq (mFn cJ (aa (ae 2) af)) (ae 1))) (Y:= [a_ (.tup us),a_ (.int (us.length:Nat))]) (f:=λv => .bl (hJ us.length v)) (λS'=>Ex S S') us [] S (Ex.refl _) (by
    intro v hv S' hx;obtain⟨S2,e2,x2⟩:=FQ (n:=us.length) ((h.2 v hv).ex hx);have a1:=dB (f:=bX) (Y:= [a_ (.tup us),a_ (.int (us.length:Nat)),a_ v]) (a:=ae 2) (b:=ae 1) (var_eq rfl) (var_eq rfl) e2;cases ha:Em us.length v with
    | false=>
      rw[ha]at a1;refine⟨S2,(DE a1).trans ?_,hx.trans x2⟩;unfold hJ;rw[ha];rfl
    | true=>
      rw[ha]at a1;cases v with
      | tup vs=>
        refine⟨S2,(Hv a1 (oX (nZ (var_eq rfl)) (var_eq rfl))).trans ?_,hx.trans x2⟩;unfold hJ;rw[ha];rfl
      | _=>cases ha)
   rw[fK]at e1;have e2:=i8 (it:=dh (ae 0)) (Y:= [a_ (.tup us),a_ (.int (us.length:Nat))]) (S:=S) (us:=us) rfl e1 (by rw[aj];unfold big;have:=h.1;omega);have e3:=CO (l:=us) (f:=hJ us.length) e2 (bA _ _);exact⟨_,bw (Y:= [a_ (.tup us),a_ (.int (us.length:Nat))]) rfl (show ig [a_ (.tup us),b_] S=_ from(aE c).trans ((aE (bS (i:=1) (nZ (Y:= [a_ (.tup us),b_]) (S:=S) (a:=ae 0) (var_eq rfl)))).trans (bP e3))),x1.trans (Ex.push _ _)⟩
theorem zX(h:Rows S us)(hf:(decide (1<=us.length/\us.length<=24)&&us.all (hJ us.length))=d_):∃S',eg [.tup us] S=a_ (.bl d_,S')/\Ex S S':=by
 obtain⟨S1,e1,x1⟩:=K7 h;rw[hf]at e1;exact⟨S1,bw (Y:= [a_ (.tup us),b_]) rfl (show il [a_ (.tup us),b_] S=_ from dq (ifr (not_eq (of_eq (cy (f:=gn) (var_eq rfl) e1))))),x1⟩
theorem O2(hc:Cl m T)(h0:0<m)(hm:m<=24)(ht:∃S',gn [tab m T] S=a_ (.bl c_,S')/\Ex S S'):∃S',eg [tab m T] S=a_ (.bl (gG m T),S')/\Ex S S':=by
 obtain⟨S0,e0,x0⟩:=ht
 obtain⟨Y2,S1,e1,⟨x,rfl⟩,x1⟩:=ke (i:=1) (b:=igB) (v:= .bl d_) (λu=>pG m T (uN u)) (λY S'=>(∃x,Y = [a_ (tab m T),x])/\Ex S S') (aU 0 m) [a_ (tab m T),b_] S0 ⟨⟨_,rfl⟩,x0⟩ (by
  rintro u Y S' hu ⟨⟨x,rfl⟩,hx⟩;obtain⟨i,hi,rfl⟩:=u0 hu;obtain⟨S2,e2,x2⟩:=ID (S:=S') hc h0 (by omega) hi
  exact⟨[a_ (tab m T),a_ (.int (i:Nat))],S2,e2,⟨_,rfl⟩,hx.trans x2⟩)
 rw[uH]at e1;have ef:fU 1 (iR1 (aa (mFn cJ (aa (ae 0) af)) af)) igB [a_ (tab m T),b_] S0=_:=(oG (len_tab (var_eq rfl)) (by unfold big;omega)).trans e1;have c0:=ifr (not_eq (of_eq (cy (f:=gn) (Y:= [a_ (tab m T),b_]) (a:=ae 0) (var_eq rfl) e0)));have hg:gG m T=(av m).all (pG m T):=rfl;rw[<-hg]at ef;cases hb:gG m T with
 | true=>
   rw[hb]at ef;exact⟨S1,bw (Y:= [a_ (tab m T),x]) rfl (show il [a_ (tab m T),b_] S=_ from(aE c0).trans ((aE ef).trans (bP rfl))),x1⟩
 | false=>
   rw[hb]at ef;exact⟨S1,bw (Y:= [a_ (tab m T),x]) rfl (show il [a_ (tab m T),b_] S=_ from(aE c0).trans (dq ef)),x1⟩
end
section
variable {m n:Nat}{T:Nat->Nat->Nat}{S:Sto}{us:List U}{a3 a4 a5:Option U}
variable{v:U}
theorem GB(h:Smp v):fB [v] S=a_ (.bl (isNum v),S):=
 bw (Y:= [a_ v]) rfl (show k9 [a_ v] S=_ from bP (GT (a:=ae 0) (λ_=>var_eq rfl) h))
theorem Kb{u r:U}(h:Smp v):gv (mFn fB (aa (ae 6) af)) (mCh oLe oLt (mC (.int 0)) (ae 6) (ae 1)) [a_ u,a_ (.int (n:Nat)),a_ r,a3,a4,a5,a_ v] S=a_ (.bl (nbV n v),S):=by
 have w:=cy (f:=fB) (Y:= [a_ u,a_ (.int (n:Nat)),a_ r,a3,a4,a5,a_ v]) (S:=S) (a:=ae 6) (var_eq rfl) (GB h);cases h with
 | int i=>
   have v6:ae 6 [a_ u,a_ (.int (n:Nat)),a_ r,a3,a4,a5,a_ (.int i)] S=a_ (.int i,S):=rfl;have v1:ae 1 [a_ u,a_ (.int (n:Nat)),a_ r,a3,a4,a5,a_ (.int i)] S=a_ (.int (n:Nat),S):=rfl;have l:oLe (.int 0) (.int i) S=a_ (.bl (decide (0<=i)),S):=rfl;have l2:oLt (.int i) (.int (n:Nat)) S=a_ (.bl (decide (i<n)),S):=rfl;refine(Hv w ?_).trans rfl;show _=a_ (U.bl (decide (0<=i)&&decide (i<n)),S);cases hd:decide (0<=i) with
   |false=>rw[hd]at l;simp only[mCh,mC,ak,v6,v1,l,ya]
   |true=>rw[hd]at l;simp only[mCh,mC,ak,v6,v1,l,l2,dU]
 |_=>exact(DE w).trans rfl
theorem ifn{b:Bool}{α:Type}{x y:α}:(if (!b)=c_ then x else y)=if b=c_ then y else x:=by cases b<;>rfl
def dC:MS:=aW (sIf (cOr (dk (cOf (m1 (fg "tuple") (ae 2)))) (cOf (m2 oNe (mFn cJ (aa (ae 2) af)) (ae 1)))) (bO (mC (.bl d_))) bE) (sIf (dk (cOf (mFn kR (aa (bu (dh (ae 2)) cTT (gv (mFn fB (aa (ae 6) af)) (mCh oLe oLt (mC (.int 0)) (ae 6) (ae 1)))) af)))) (bO (mC (.bl d_))) bE)
theorem LD{u:U}(h:Thg S v):∃S',dC [a_ u,a_ (.int (n:Nat)),a_ v,a3,a4,a5] S=a_ (if hJ n v then .nx else .rt (.bl d_),[a_ u,a_ (.int (n:Nat)),a_ v,a3,a4,a5],S')/\Ex S S':=by
 have t:=qw (Y:= [a_ u,a_ (.int (n:Nat)),a_ v,a3,a4,a5]) (S:=S) (a:=ae 2) (var_eq rfl) h;cases ht:isTup v with
 | false=>
   rw[ht]at t;refine⟨S,(dq (ifr (xu (not_eq (of_eq t))))).trans ?_,Ex.refl _⟩;have:hJ n v=d_:=by
    cases v with
    |tup _=>cases ht
    |_=>rfl
   rw[this];rfl
 | true=>
   rw[ht]at t;cases h with
   | tup h hl=>
     rename_i vs
     have t2:=ifr (yi (not_eq (of_eq t)) (of_eq (MP (Y:= [a_ u,a_ (.int (n:Nat)),a_ (.tup vs),a3,a4,a5]) (a:=mFn cJ (aa (ae 2) af)) (b:=ae 1) (nZ (var_eq rfl)) (var_eq (u:= .int (n:Nat)) rfl))));cases hn:decide (vs.length=n) with
     | false=>
       rw[hn]at t2;refine⟨S,(dq t2).trans ?_,Ex.refl _⟩;have:hJ n (.tup vs)=d_:=by
        show(vs.all (nbV n)&&decide (vs.length=n))=d_;rw[hn,Bool.and_false]
       rw[this];rfl
     | true=>
       rw[hn]at t2;have c:=ph (t:=cTT) (e:=gv (mFn fB (aa (ae 6) af)) (mCh oLe oLt (mC (.int 0)) (ae 6) (ae 1))) (Y:= [a_ u,a_ (.int (n:Nat)),a_ (.tup vs),a3,a4,a5]) (S:=S) (a:=ae 2) (us:=vs) (p:=λ_=>c_) (f:=λv=>.bl (nbV n v)) (var_eq rfl) (by unfold big;omega) (λ_ _=>rfl) (λx hx _=>Kb (h x hx));rw[j1.mpr (λ_ _=>rfl)]at c;have t3:=ifr (not_eq (of_eq (tW (l:=vs) (f:=nbV n) c)));have:vs.all (nbV n)=hJ n (.tup vs):=by
        show _=((vs.all (nbV n))&&decide (vs.length=n));rw[hn,eM]
       rw[ifn,this]at t3;exact⟨_,(aE t2).trans t3,Ex.push _ _⟩
   |_=>cases ht
variable{p:Nat->Bool}
theorem vR:decide ((av m).filter p=[]) = !((av m).any p):=by
 rw[fI,decide_eq_true_iff,List.filter_eq_nil_iff];simp
theorem Gf:((av m).any λk=>!p k) = !((av m).all p):=by
 rw[List.not_all_eq_any_not]
def dF:MS:=aW (bJ 5 (m2 oIx (ae 0) (m2 oIx (m2 oIx (ae 0) (ae 3)) (ae 4)))) (sIf (cOf (m2 oNe (bu (iR1 (aa (ae 1) af)) (cOf (m2 oNe (m2 oIx (ae 5) (ae 6)) (m2 oIx (m2 oIx (ae 0) (ae 3)) (m2 oIx (m2 oIx (ae 0) (ae 4)) (ae 6))))) (ae 6)) (b0 af))) (bO (mC (.bl d_))) bE)
variable{Y:Rho}{S1:Sto}{x:List Nat}
theorem FE{a:ME}(ha:a Y S=a_ (.ref S1.length,S1++[Cell.lst (aV x)])):m2 oNe a (b0 af) Y S=a_ (.bl (!decide (x=[])),S1++[Cell.lst (aV x)]++[Cell.lst []]):=
 FD ha my ((Ex.push _ _).some (bA _ _)) (bA _ _)
theorem GP{a:ME}(ha:a Y S=a_ (.ref S1.length,S1++[Cell.lst (aV x)])):m2 oEq a (b0 af) Y S=a_ (.bl (decide (x=[])),S1++[Cell.lst (aV x)]++[Cell.lst []]):=
 wq ha my ((Ex.push _ _).some (bA _ _)) (bA _ _)
variable{a2:Option U}
theorem LB(hc:Cl m T)(hm:m<1000){i j:Nat}(hi:i<m)(hj:j<m):∃b S',dF [a_ (tab m T),a_ (.int (m:Nat)),a2,a_ (.int (i:Nat)),a_ (.int (j:Nat)),a5] S=a_ (if pA m T i j then .nx else .rt (.bl d_),[a_ (tab m T),a_ (.int (m:Nat)),a2,a_ (.int (i:Nat)),a_ (.int (j:Nat)),b],S')/\Ex S S':=by
 have e0:=eS (Y:= [a_ (tab m T),a_ (.int (m:Nat)),a2,a_ (.int (i:Nat)),a_ (.int (j:Nat)),a5]) (S:=S) (T:=T) (hc i j hi hj) (a:=ae 0) (var_eq rfl) (eP (T:=T) (i:=i) (j:=j) hj (eS hi (a:=ae 0) (b:=ae 3) (var_eq rfl) (var_eq rfl)) (b:=ae 4) (var_eq rfl))
 obtain⟨S1,e1,rfl⟩:=pM (Y:= [a_ (tab m T),a_ (.int (m:Nat)),a2,a_ (.int (i:Nat)),a_ (.int (j:Nat)),a_ (ox m T (T i j))]) (S:=S) (S0:=S) (a:=ae 1) (e:=ae 6) (t:=cOf (m2 oNe (m2 oIx (ae 5) (ae 6)) (m2 oIx (m2 oIx (ae 0) (ae 3)) (m2 oIx (m2 oIx (ae 0) (ae 4)) (ae 6))))) (n:=m) (var_eq rfl) (by unfold big;omega) (λk => !decide (T (T i j) k=T i (T j k))) (λk => .int (k:Nat)) (λ_ S'=>S'=S) rfl (by
  rintro k S2 hk rfl
  exact⟨S2,of_eq (MP (eP (T:=T) (i:=T i j) (j:=k) hk (var_eq rfl) (var_eq rfl)) (eP (T:=T) (i:=i) (j:=T j k) (hc j k hj hk) (eS hi (var_eq rfl) (var_eq rfl)) (eP (T:=T) (i:=j) (j:=k) hk (eS hj (var_eq rfl) (var_eq rfl)) (var_eq rfl)))),λ_=>⟨S2,var_eq rfl,rfl⟩,λ_=>rfl⟩)
 have e2:=ifr (of_eq (FE (x:=(av m).filter λk=>!decide (T (T i j) k=T i (T j k))) e1));rw[vR,Gf,Bool.not_not,ifn]at e2;exact⟨_,_,(aE (bS (i:=5) e0)).trans e2,(Ex.push _ _).trans (Ex.push _ _)⟩
def dE:MS:=aW (sIf (cOf (m2 oEq (bu (iR1 (aa (ae 1) af)) (rR (cOf (m2 oEq (m2 oIx (m2 oIx (ae 0) (ae 3)) (ae 6)) (mC (.int 0)))) (cOf (m2 oEq (m2 oIx (m2 oIx (ae 0) (ae 6)) (ae 3)) (mC (.int 0))))) (ae 6)) (b0 af))) (bO (mC (.bl d_))) bE) (fU 4 (iR1 (aa (ae 1) af)) dF)
theorem Nt(hc:Cl m T)(hm:m<1000){i:Nat}(hi:i<m):∃b c S',dE [a_ (tab m T),a_ (.int (m:Nat)),a2,a_ (.int (i:Nat)),a4,a5] S=a_ (if pU m T i&&pR m T i then .nx else .rt (.bl d_),[a_ (tab m T),a_ (.int (m:Nat)),a2,a_ (.int (i:Nat)),b,c],S')/\Ex S S':=by
 obtain⟨S1,e1,rfl⟩:=pM (Y:= [a_ (tab m T),a_ (.int (m:Nat)),a2,a_ (.int (i:Nat)),a4,a5]) (S:=S) (S0:=S) (a:=ae 1) (e:=ae 6) (t:=rR (cOf (m2 oEq (m2 oIx (m2 oIx (ae 0) (ae 3)) (ae 6)) (mC (.int 0)))) (cOf (m2 oEq (m2 oIx (m2 oIx (ae 0) (ae 6)) (ae 3)) (mC (.int 0))))) (n:=m) (var_eq rfl) (by unfold big;omega) (λj=>decide (T i j=0)&&decide (T j i=0)) (λk => .int (k:Nat)) (λ_ S'=>S'=S) rfl (by
  rintro j S2 hj rfl
  exact⟨S2,and_eq (of_eq (oX (y:=0) (eP (T:=T) (i:=i) (j:=j) hj (eS hi (var_eq rfl) (var_eq rfl)) (var_eq rfl)) c_i)) (of_eq (oX (y:=0) (eP (T:=T) (i:=j) (j:=i) hi (eS hj (var_eq rfl) (var_eq rfl)) (var_eq rfl)) c_i)) (λ_=>rfl),λ_=>⟨S2,var_eq rfl,rfl⟩,λ_=>rfl⟩)
 have e2:=ifr (of_eq (GP (x:=(av m).filter λj=>decide (T i j=0)&&decide (T j i=0)) e1));rw[vR]at e2;have hp:((av m).any λj=>decide (T i j=0)&&decide (T j i=0))=pU m T i:=rfl;rw[hp]at e2;cases hu:pU m T i with
 | false=>
   rw[hu]at e2;exact⟨_,_,_,dq e2,(Ex.push _ _).trans (Ex.push _ _)⟩
 | true=>
   rw[hu]at e2;have x2:Ex S1 (S1++[Cell.lst (aV ((av m).filter λj=>decide (T i j=0)&&decide (T j i=0)))]++[Cell.lst []]):=(Ex.push _ _).trans (Ex.push _ _);generalize S1++[Cell.lst (aV ((av m).filter λj=>decide (T i j=0)&&decide (T j i=0)))]++[Cell.lst []]=S2 at e2 x2
   obtain⟨Y2,S3,e3,⟨b,c,rfl⟩,x3⟩:=ke (i:=4) (b:=dF) (v:= .bl d_) (λu=>pA m T i (uN u)) (λY S'=>(∃b c,Y = [a_ (tab m T),a_ (.int (m:Nat)),a2,a_ (.int (i:Nat)),b,c])/\Ex S1 S') (aU 0 m) [a_ (tab m T),a_ (.int (m:Nat)),a2,a_ (.int (i:Nat)),a4,a5] S2 ⟨⟨_,_,rfl⟩,x2⟩ (by
    rintro u Y S' hu ⟨⟨b,c,rfl⟩,hx⟩;obtain⟨j,hj,rfl⟩:=u0 hu;obtain⟨d,S4,e4,x4⟩:=LB (S:=S') (a2:=a2) (a5:=c) hc hm hi hj
    exact⟨_,S4,e4,⟨_,_,rfl⟩,hx.trans x4⟩)
   rw[uH]at e3;exact⟨b,c,S3,((aE e2).trans ((oG (var_eq rfl) (by unfold big;omega)).trans e3)),x3⟩
theorem M2:gG m T=((av m).all (p0 T)&&(av m).all λi=>pU m T i&&pR m T i):=by
 unfold gG pG;rw[fI,ah,aC,aC,aC];constructor
 .intro h
  refine⟨λi hi=>?_,λi hi=>?_⟩
  .have:=h i hi;simp only[ah]at this;exact this.1.1
  .have:=h i hi;simp only[ah]at this ⊢;exact⟨this.1.2,this.2⟩
 .intro h i hi
  have h1:=h.1 i hi;have h2:=h.2 i hi;simp only[ah]at h2 ⊢;exact⟨⟨h1,h2.1⟩,h2.2⟩
theorem Ma(h:Rows S us)(hg:decide (1<=us.length/\us.length<=24)=c_):∃r S',fU 2 (dh (ae 0)) dC [a_ (.tup us),a_ (.int (us.length:Nat)),b_,b_,b_,b_] S=a_ (if us.all (hJ us.length) then .nx else .rt (.bl d_),[a_ (.tup us),a_ (.int (us.length:Nat)),r,b_,b_,b_],S')/\Ex S S':=by
 obtain⟨Y2,S1,e1,⟨r,rfl⟩,x1⟩:=ke (i:=2) (b:=dC) (v:= .bl d_) (hJ us.length) (λY S'=>(∃r,Y = [a_ (.tup us),a_ (.int (us.length:Nat)),r,b_,b_,b_])/\Ex S S') us [a_ (.tup us),a_ (.int (us.length:Nat)),b_,b_,b_,b_] S ⟨⟨_,rfl⟩,Ex.refl _⟩ (by
  rintro v Y S' hv ⟨⟨r,rfl⟩,hx⟩;obtain⟨S2,e2,x2⟩:=LD (S:=S') (u:= .tup us) (n:=us.length) (a3:=b_) (a4:=b_) (a5:=b_) ((h.2 v hv).ex hx)
  exact⟨_,S2,e2,⟨_,rfl⟩,hx.trans x2⟩)
 exact⟨r,S1,e1,x1⟩
theorem OF{Y:Rho}(h:Rows S us)(hf:(decide (1<=us.length/\us.length<=24)&&us.all (hJ us.length))=d_):∃S',ik [.tup us] S=a_ (.bl d_,S')/\Ex S S':=by
 have c:=ifr (yK (Y:= [a_ (.tup us),b_,b_,b_,b_,b_]) (S:=S) rfl);cases hd:decide (1<=us.length/\us.length<=24) with
 | false=>
   rw[hd]at c;exact⟨S,bw (Y:= [a_ (.tup us),b_,b_,b_,b_,b_]) rfl (show gF [a_ (.tup us),b_,b_,b_,b_,b_] S=_ from dq c),Ex.refl _⟩
 | true=>
   rw[hd]at c hf;rw[dU]at hf;obtain⟨r,S1,e1,x1⟩:=Ma h hd;rw[hf]at e1;exact⟨S1,bw (Y:= [a_ (.tup us),a_ (.int (us.length:Nat)),r,b_,b_,b_]) rfl (show gF [a_ (.tup us),b_,b_,b_,b_,b_] S=_ from(aE c).trans ((aE (bS (i:=1) (nZ (Y:= [a_ (.tup us),b_,b_,b_,b_,b_]) (S:=S) (a:=ae 0) (var_eq rfl)))).trans (dq e1))),x1⟩
theorem Oy(h:Rows S us)(hg:decide (1<=us.length/\us.length<=24)=c_)(hr:us.all (hJ us.length)=c_)(hc:Cl m T)(hl:us.length=m)(ht:U.tup us=tab m T):∃S',ik [tab m T] S=a_ (.bl (gG m T),S')/\Ex S S':=by
 have hb:=of_decide_eq_true hg;have c:=ifr (yK (Y:= [a_ (.tup us),b_,b_,b_,b_,b_]) (S:=S) rfl);rw[hg]at c;obtain⟨r,S1,e1,x1⟩:=Ma h hg;rw[hr]at e1;have s1:=bS (i:=1) (nZ (Y:= [a_ (.tup us),b_,b_,b_,b_,b_]) (S:=S) (a:=ae 0) (var_eq rfl));rw[hl,ht]at e1;rw[ht]at c;rw[hl,ht]at s1;have h0:0<m:=by omega
 have hm:m<1000:=by omega
 obtain⟨S2,e2,rfl⟩:=ji (Y:= [a_ (tab m T),a_ (.int (m:Nat)),r,b_,b_,b_]) (S:=S1) (S0:=S1) (a:=ae 1) (e:=gv (m2 oEq (m2 oIx (m2 oIx (ae 0) (mC (.int 0))) (ae 6)) (ae 6)) (m2 oEq (m2 oIx (m2 oIx (ae 0) (ae 6)) (mC (.int 0))) (ae 6))) (n:=m) (var_eq rfl) (by unfold big;omega) (λi => .bl (p0 T i)) (λ_ S'=>S'=S1) rfl (by
  rintro i S3 hi rfl
  exact⟨S3,jM (oX (eP (T:=T) (i:=0) (j:=i) hi (eS h0 (var_eq rfl) c_i) (var_eq rfl)) (var_eq rfl)) (λ_=>oX (eP (T:=T) (i:=i) (j:=0) h0 (eS hi (var_eq rfl) (var_eq rfl)) c_i) (var_eq rfl)) (λ_=>rfl),rfl⟩)
 have e3:=ifr (not_eq (of_eq (tW (l:=av m) (f:=p0 T) e2)));rw[M2];have x3:Ex S2 (S2++[Cell.lst ((av m).map λi=>U.bl (p0 T i))]):=Ex.push _ _;cases hp:(av m).all (p0 T) with
 | false=>
   rw[hp]at e3;exact⟨_,bw (Y:= [a_ (tab m T),a_ (.int (m:Nat)),r,b_,b_,b_]) rfl (show gF [a_ (tab m T),b_,b_,b_,b_,b_] S=_ from(aE c).trans ((aE s1).trans ((aE e1).trans (dq e3)))),x1.trans x3⟩
 | true=>
   rw[hp]at e3
   obtain⟨Y2,S4,e4,⟨a,b,d,rfl⟩,x4⟩:=ke (i:=3) (b:=dE) (v:= .bl d_) (λu=>(λi=>pU m T i&&pR m T i) (uN u)) (λY S'=>(∃a b d,Y = [a_ (tab m T),a_ (.int (m:Nat)),r,a,b,d])/\Ex S S') (aU 0 m) [a_ (tab m T),a_ (.int (m:Nat)),r,b_,b_,b_] (S2++[Cell.lst ((av m).map λi=>U.bl (p0 T i))]) ⟨⟨_,_,_,rfl⟩,x1.trans x3⟩ (by
    rintro u Y S' hu ⟨⟨a,b,d,rfl⟩,hx⟩;obtain⟨i,hi,rfl⟩:=u0 hu;obtain⟨b',d',S5,e5,x5⟩:=Nt (S:=S') (a2:=r) (a4:=b) (a5:=d) hc hm hi
    exact⟨_,S5,e5,⟨_,_,_,rfl⟩,hx.trans x5⟩)
   rw[show((aU 0 m).all λu=>(λi=>pU m T i&&pR m T i) (uN u))=(av m).all λi=>pU m T i&&pR m T i from uH (q:=λi=>pU m T i&&pR m T i)]at e4;have ef:fU 3 (iR1 (aa (ae 1) af)) dE [a_ (tab m T),a_ (.int (m:Nat)),r,b_,b_,b_] _=_:=(oG (var_eq rfl) (by unfold big;omega)).trans e4;rw[dU];cases hq:(av m).all λi=>pU m T i&&pR m T i with
   | true=>
     rw[hq]at ef;exact⟨_,bw (Y:= [a_ (tab m T),a_ (.int (m:Nat)),r,a,b,d]) rfl (show gF [a_ (tab m T),b_,b_,b_,b_,b_] S=_ from(aE c).trans ((aE s1).trans ((aE e1).trans ((aE e3).trans ((aE ef).trans (bP rfl)))))),x4⟩
   | false=>
     rw[hq]at ef;exact⟨_,bw (Y:= [a_ (tab m T),a_ (.int (m:Nat)),r,a,b,d]) rfl (show gF [a_ (tab m T),b_,b_,b_,b_,b_] S=_ from(aE c).trans ((aE s1).trans ((aE e1).trans ((aE e3).trans (dq ef))))),x4⟩
end
section
variable {m n:Nat}{T:Nat->Nat->Nat}{S:Sto}{us:List U}{u:U}
def Tz(n:Nat)(S:Sto)(u:U):Prop:=(isTup u=d_/\Tn n S u) \/ ∃us,u=.tup us/\us.length<100000 /\ ∀v∈us,Tn n S v
theorem J9(h:Tz n S u):∃b,∀S',Ex S S'->(∃S1,eg [u] S'=a_ (.bl b,S1)/\Ex S' S1)/\(∃S1,ik [u] S'=a_ (.bl b,S1)/\Ex S' S1):=by
 rcases h with⟨h1,h2⟩|⟨us,rfl,hl,h⟩
 .refine⟨d_,λS' hx=>⟨⟨S',?_,Ex.refl _⟩,⟨S',?_,Ex.refl _⟩⟩⟩
  .have t:=qw (Y:= [a_ u,b_]) (S:=S') (a:=ae 0) (var_eq rfl) (h2.1.ex hx)
   rw[h1]at t;have e:=bw (k:=1) (n:=2) (b:=ig) (us:= [u]) (Y:= [a_ u,b_]) rfl (show ig [a_ u,b_] S'=_ from dq (ifr (xu (not_eq (of_eq t)))));exact bw (Y:= [a_ u,b_]) rfl (show il [a_ u,b_] S'=_ from dq (ifr (not_eq (of_eq (cy (f:=gn) (var_eq rfl) e)))))
  .have t:=qw (Y:= [a_ u,b_,b_,b_,b_,b_]) (S:=S') (a:=ae 0) (var_eq rfl) (h2.1.ex hx)
   rw[h1]at t;exact bw (Y:= [a_ u,b_,b_,b_,b_,b_]) rfl (show gF [a_ u,b_,b_,b_,b_,b_] S'=_ from dq (ifr (xu (not_eq (of_eq t)))))
 .have hR:∀S',Ex S S'->Rows S' us:=λS' hx=>⟨hl,λv hv=>(h v hv).1.ex hx⟩
  cases hd:decide (1<=us.length/\us.length<=24)&&us.all (hJ us.length) with
  |false=>exact⟨d_,λS' hx=>⟨zX (hR S' hx) hd,OF (Y:= []) (hR S' hx) hd⟩⟩
  | true=>
    have Zc:=hd;rw[ah]at hd;obtain⟨T,hc,ht⟩:=tab_of rfl hd.2;have hb:=of_decide_eq_true hd.1;refine⟨gG us.length T,λS' hx=>⟨?_,?_⟩⟩
    .obtain⟨S1,e1,x1⟩:=K7 (hR S' hx)
     rw[Zc]at e1;rw[ht]at e1 ⊢;exact O2 hc hb.1 hb.2 ⟨S1,e1,x1⟩
    .rw[ht]
     exact Oy (hR S' hx) hd.1 hd.2 hc rfl ht
end
section
open _L _G
def fig(c:Nat):Bool:=decide (48<=c)&&decide (c<=57)
theorem Iu:∀c:Fin 128,(!(m7 FIG ⟨#[(c:Nat)]⟩ 0 FIG.length 1).isEmpty)=fig c:=by decide +kernel
def Asc(x:aq):Prop:= ∀c∈x.cps.toList,c<128
theorem Asc.chr{x:aq}(h:Asc x):xg x:=by
 unfold xg;rw[<-Array.all_toList,aC];exact λc hc=>decide_eq_true (h c hc)
theorem Asc.ok{x:aq}(h:Asc x):ck x=c_:=by
 unfold ck;rw[<-Array.all_toList,aC];exact λc hc=>decide_eq_true (by have:=h c hc;omega)
def ZR:aq:=cH "0"
theorem Hi:ZR=⟨#[48]⟩:=by decide +kernel
def isN(w:aq):Bool:=decide (1<=w.length/\w.length<=2)&&(w.cps.toList.all fig&&(decide (w=ZR) || !decide (w.cps.toList.head? = a_ 48)))
theorem wd1:∀c:Fin 10,wd c=⟨#[48+(c:Nat)]⟩:=by decide +kernel
theorem wd2:∀c d:Fin 10,(c:Nat)≠0->wd (10*c+d)=⟨#[48+(c:Nat),48+(d:Nat)]⟩:=by decide +kernel
theorem wdN:∀n:Fin 100,d5 (wd n)=a_ ((n:Nat):Int)/\(wd n).length<=2/\isN (wd n)=c_:=by decide +kernel
theorem uf{c:Nat}(h:fig c=c_):∃d:Fin 10,c=48+(d:Nat):=by
 unfold fig at h;simp only[ah,decide_eq_true_eq]at h;exact⟨⟨c-48,by omega⟩,by show c=48+(c-48);omega⟩
theorem vb{w:aq}(h:isN w=c_):∃n,n<100/\w=wd n:=by
 obtain⟨⟨l⟩⟩:=w;unfold isN at h;simp only[ah,decide_eq_true_eq,Bool.or_eq_true,Bool.not_eq_true',decide_eq_false_iff_not]at h;obtain⟨⟨h1,h2⟩,h3,h4⟩:=h;have h1:1<=l.length:=h1;have h2:l.length<=2:=h2
 match l,h1,h2,h3,h4 with
 | [c],_,_,h3,h4=>
   simp only[a8,iO,eM]at h3;obtain⟨d,rfl⟩:=uf h3;exact⟨d,by omega,(wd1 d).symm⟩
 | [c,d],_,_,h3,h4=>
   simp only[a8,iO,eM,ah]at h3;obtain⟨x,rfl⟩:=uf h3.1;obtain⟨y,rfl⟩:=uf h3.2;have hx:(x:Nat)≠0:=λz=>by
    rcases h4 with h4|h4
    .rw[Hi]at h4
     have:=congrArg (λs:aq=>s.cps.size) h4;simp at this
    .exact h4 (by rw[z];rfl)
   exact⟨10*x+y,by omega,(wd2 x y hx).symm⟩
section
variable {S:Sto}{w:aq}
variable{Y:Rho}{S1:Sto}{a:ME}
theorem Lz{b:ME}(ha:a Y S=a_ (.bl c_,S1)):mOr a b Y S=a_ (.bl c_,S1):=by
 simp[mOr,ha,ak]
theorem Md{b:ME}{r:Res U}(ha:a Y S=a_ (.bl d_,S1))(hb:b Y S1=r):mOr a b Y S=r:=by
 simp[mOr,ha,ak,hb]
theorem Ho(ha:a Y S=a_ (.str w,S1))(hl:w.length<1000000):mFn (nq jI cJ) (aa a af) Y S=a_ (.int (w.length:Nat),S1):=
 cy ha (by
  show(jI [.str w] S1).or _=_;rw[show jI [.str w] S1=a_ (.int (w.length:Nat),S1) from if_pos (show jE w from by unfold jE big;omega)]
  rfl)
theorem LA{S2:Sto}{b:ME}{k:Nat}{c:Nat}(ha:a Y S=a_ (.str w,S1))(hb:b Y S1=a_ (.int (k:Nat),S2))(hl:w.length<1000000)(hc:w.cps.toList[k]?=a_ c):m2 (eN i3 oIx) a b Y S=a_ (.str ⟨#[c]⟩,S2):=
 op2 ha hb (by
  show(i3 (.str w) (.int (k:Nat)) S2).or _=_;have:i3 (.str w) (.int (k:Nat)) S2=a_ (.str ⟨#[c]⟩,S2):=by
   show(if jE w then(atI w.cps.toList ((k:Nat):Int)).map λc=>(U.str ⟨#[c]⟩,S2) else b_)=_;rw[if_pos (show jE w from by unfold jE big;omega),oN hc];rfl
  rw[this];rfl)
theorem DI(h:Asc w)(hl:w.length<1000000):∃S',dY [.str w] S=a_ (.bl (isN w),S')/\Ex S S':=by
 have c1:cOf (mCh oLe oLe (mC (.int 1)) (mFn (nq jI cJ) (aa (ae 0) af)) (mC (.int 2))) [a_ (.str w)] S=a_ (decide (1<=w.length/\w.length<=2),S):=by
  have v0:=Ho (Y:= [a_ (.str w)]) (S:=S) (a:=ae 0) (var_eq rfl) hl;have l:oLe (.int 1) (.int (w.length:Nat)) S=a_ (.bl (decide (1<=w.length)),S):=by
   show a_ (U.bl (decide ((1:Int)<=(w.length:Int))),S)=_
   congr 3;exact decide_eq_decide.mpr (by omega)
  have l2:oLe (.int (w.length:Nat)) (.int 2) S=a_ (.bl (decide (w.length<=2)),S):=by
   show a_ (U.bl (decide ((w.length:Int)<=(2:Int))),S)=_
   congr 3;exact decide_eq_decide.mpr (by omega)
  refine of_eq ?_;rw[Bool.decide_and];cases hh:decide (1<=w.length) with
  |false=>rw[hh]at l;simp only[mCh,mC,ak,v0,l,ya]
  |true=>rw[hh]at l;simp only[mCh,mC,ak,v0,l,l2,dU]
 unfold isN;cases hd:decide (1<=w.length/\w.length<=2) with
 | false=>
   rw[hd]at c1;exact⟨S,bw (Y:= [a_ (.str w)]) rfl (show iK [a_ (.str w)] S=_ from dq (ifr (xu (not_eq c1)))),Ex.refl _⟩
 |true=>
 rw[hd]at c1;have hb:=of_decide_eq_true hd
 have e1:=kr (t:=cTT) (e:=m2 Bm (ae 1) (mC (.str "0123456789"))) (Y := [a_ (.str w)]) (S:=S) (p:=fun _=>c_) (f:=fun u=>match u with | .str x => .bl (fig (x.cps.toList.getD 0 0)) | _ => .bl d_) (jg w) [] (fun _ _=>rfl) (fun u hu _=>by
  obtain⟨c,hc,rfl⟩:=aL.mp hu;refine op2 (f:=Bm) (var_eq rfl) rfl ?_;show a_ (U.bl (!(m7 FIG ⟨#[c]⟩ 0 FIG.length 1).isEmpty),S)=_
  rw[Iu ⟨c,h c hc⟩];rfl)
 rw[fK,j1.mpr (λ_ _=>rfl)]at e1;have em:(jg w).map (λu=>match u with | .str x=>U.bl (fig (x.cps.toList.getD 0 0)) |_=>.bl d_)=w.cps.toList.map λc=>U.bl (fig c):=by
  unfold jg;rw[dj];rfl
 rw[em]at e1
 have e2:=i8 (it:=qY (ae 0)) (Y:= [a_ (.str w)]) (S:=S) (S0:=S) (us:=jg w) (by
  have v:ae 0 [a_ (U.str w)] S=a_ (.str w,S):=rfl
  simp only[qY,v,ak,if_pos h.chr]) e1 (by rw[aj];have:w.cps.toList.length=w.length:=jL;unfold big;omega)
 have e3:=tW (l:=w.cps.toList) (f:=fig) e2;have x3:Ex S (S++[.lst (w.cps.toList.map λc=>.bl (fig c))]):=Ex.push _ _;generalize S++[.lst (w.cps.toList.map λc=>.bl (fig c))]=S1 at e3 x3;have c2:=ifr (yi (not_eq c1) (not_eq (of_eq e3)));cases ha:w.cps.toList.all fig with
 | false=>
   rw[ha]at c2;exact⟨S1,bw (Y:= [a_ (.str w)]) rfl (show iK [a_ (.str w)] S=_ from dq c2),x3⟩
 |true=>
 rw[ha]at c2;have h0:ck ZR=c_:=by decide +kernel
 have o1:=E7 (Y := [a_ (.str w)]) (S:=S1) (a:=ae 0) (b:=mC (.str "0")) (x:=w) (y:=ZR) (var_eq rfl) rfl h.ok h0;refine⟨S1,bw (Y:= [a_ (.str w)]) rfl (show iK [a_ (.str w)] S=_ from(aE c2).trans (bP ?_)),x3⟩;cases z:decide (w=ZR) with
 |true=>rw[z]at o1;exact Lz o1
 | false=>
   rw[z]at o1;refine Md o1 ?_;obtain⟨c,hc⟩ :∃c,w.cps.toList[0]?=a_ c:=by
    have:w.cps.toList.length=w.length:=jL;exact⟨_,aG (by omega)⟩
   have o2:=LA (Y:= [a_ (.str w)]) (S:=S1) (a:=ae 0) (b:=mC (.int 0)) (k:=0) (var_eq rfl) c_i hl hc;have o3:=OL o2 (b:=mC (.str "0")) (y:=ZR) rfl (Asc.ok fun x hx=>by simp at hx;rw [hx];exact h c (bo hc)) h0;rw[o3,List.head?_eq_getElem?,hc]
   congr 3
   simp only[dU,Bool.false_or,Hi]
   congr 1
   exact decide_eq_decide.mpr ⟨λz=>by injection z with z;injection z with z;injection z with z;rw[z],λz=>by cases z;rfl⟩
variable{n:Nat}
theorem FB(hn:n<100):∃S',bF [.str (wd n)] S=a_ (.int (n:Nat),S')/\Ex S S':=by
 obtain⟨w1,w2,w3⟩:=wdN ⟨n,hn⟩;have w1:d5 (wd n)=a_ ((n:Nat):Int):=w1;have w2:(wd n).length<=2:=w2;have w3:isN (wd n)=c_:=w3;have ha:Asc (wd n):=λc hc=>by
  unfold isN at w3;simp only[ah]at w3;have:=aC.mp w3.2.1 c hc;unfold fig at this;simp only[ah,decide_eq_true_eq]at this;omega
 obtain⟨S1,e1,x1⟩:=DI (S:=S) ha (by omega);rw[w3]at e1;have c:=not_eq (of_eq (cy (f:=dY) (Y:= [a_ (.str (wd n))]) (S:=S) (a:=ae 0) (var_eq rfl) e1))
 have e2:mFn oy (aa (ae 0) af) [a_ (.str (wd n))] S1=a_ (.int (n:Nat),S1):=cy (var_eq rfl) (by
  show(if tm (wd n) then(d5 (wd n)).map λn=>(U.int n,S1) else b_)=_
  rw[if_pos (show tm (wd n) from aA w2 (by decide)),w1];rfl)
 exact⟨S1,bw (Y:= [a_ (.str (wd n))]) rfl (show iA [a_ (.str (wd n))] S=_ from(aE ((gw c).trans rfl)).trans (bP e2)),x1⟩
theorem HA(hn:n<100):ej [.str (wd n)] S=b_:=by
 obtain⟨S1,e1,x1⟩:=FB (S:=S) hn;have hc:∃S2,dk (cOf (mFn dY (aa (ae 0) af))) [a_ (.str (wd n))] S=a_ (d_,S2):=by
  have w3:=(wdN ⟨n,hn⟩).2.2;have w3:isN (wd n)=c_:=w3;have w2:(wd n).length<=2:=(wdN ⟨n,hn⟩).2.1
  obtain⟨S2,e2,_⟩:=DI (S:=S) (w:=wd n) (λc hc=>by
   unfold isN at w3;simp only[ah]at w3;have:=aC.mp w3.2.1 c hc;unfold fig at this;simp only[ah,decide_eq_true_eq]at this
   omega) (by omega)
  rw[w3]at e2;exact⟨S2,not_eq (of_eq (cy (f:=dY) (var_eq rfl) e2))⟩
 obtain⟨S2,e2⟩:=hc;show fZ [a_ (.str (wd n))] S=b_;unfold fZ;rw[n9 ((NG e2).trans rfl) ((gw e2).trans rfl)];rfl
theorem Mb(h:Asc w)(hl:w.length<1000000)(hn:isN w=d_):bF [.str w] S=b_ /\ ∃S',ej [.str w] S=a_ (5,S')/\Ex S S':=by
 obtain⟨S1,e1,x1⟩:=DI (S:=S) h hl;rw[hn]at e1;have c:=not_eq (of_eq (cy (f:=dY) (Y:= [a_ (.str w)]) (S:=S) (a:=ae 0) (var_eq rfl) e1));refine⟨jd (show iA [a_ (.str w)] S=b_ from lu ((iU c).trans rfl)),S1,i5 rfl (show fZ [a_ (.str w)] S=a_ (5,S1) from kc ((zT c).trans (kc ?_))),x1⟩;show(if EW w then a_ (5,S1) else b_)=_;rw[if_pos ⟨h.chr,by omega⟩]
end
end
section
open _L _G
theorem Hk{c x:Nat}:∀{ps:List (List Nat)}{p:List Nat},p∈ps->x∈p->x∈jl c ps
 |[q],p,h,hx=>by rw[ee.mp h]at hx;exact hx
 | q::q'::r,p,h,hx=>by
   show x∈q++c::jl c (q'::r);rcases bf.mp h with h|h
   .rw[h]at hx;exact c7 _ hx
   .exact aM _ (az _ (Hk h hx))
theorem uE:∀{ps:List aq}{p:aq},p∈ps->p.length<=(ps.map (·.length)).sum
 | q::ps,p,h=>by
   rw[bY,jt];rcases bf.mp h with h|h
   .rw[h];exact d6 _ _
   .exact aA (uE h) (Nat.le_add_left _ _)
def Sep(y:aq):Prop:=y=BLK\/y=SLA
theorem Sep.one{y:aq}(h:Sep y):∃c,y=⟨#[c]⟩:=by
 rcases h with h|h
 .exact⟨_,h.trans nz⟩
 .exact⟨_,h.trans yn⟩
theorem Sep.len{y:aq}(h:Sep y):y.length=1:=by obtain⟨c,rfl⟩:=h.one;rfl
structure Txf(B:Nat)(t:aq):Prop where
 a:Asc t
 l:t.length<=B
section
variable {t y:aq}{B:Nat}
theorem wU(h:Sep y):de y (aO t y)=t:=(iX _ _).trans (PySem.StrLaws.join_split t y)
theorem uQ(h:Sep y):t.length=((aO t y).map (·.length)).sum+((aO t y).length-1):=by
 have e:(de y (aO t y)).length=((aO t y).map (·.length)).sum+((aO t y).length-1)*y.length:=lX _ _;rw[wU h,h.len,Nat.mul_one]at e;exact e
theorem wN(h:Sep y):(aO t y).length<=t.length+1:=by have:=uQ (t:=t) h;omega
theorem vc(h:Sep y)(ht:Txf B t):∀p∈aO t y,Txf B p:=λp hp=>by
 obtain⟨c,rfl⟩:=h.one;refine⟨λx hx=>ht.a x ?_,?_⟩
 .rw[<-wU (t:=t) h,show de ⟨#[c]⟩ (aO t ⟨#[c]⟩)=mR ⟨#[c]⟩ (aO t ⟨#[c]⟩) from iX _ _,rY]
  exact Hk (aL.mpr ⟨p,hp,rfl⟩) hx
 .have h1:=uQ (t:=t) h
  have h2:p.length<=((aO t ⟨#[c]⟩).map (·.length)).sum:=uE hp;have:=ht.l;omega
theorem Dr(h:Sep y)(ht:Txf B t)(hB:B<=90000):qz t y:=⟨by rw[h.len];rfl,by have:=ht.l;unfold big;omega⟩
end
section
variable {e:ME}{r:MX}{Y:Rho}{n:Nat}{us:List U}{S0:Sto}{g:U->Bool}
theorem wH(hL:∀S,Ex S0 S->getL S n=a_ us)(h1:∀u∈us,g u=c_->∀S,Ex S0 S->∃v S',e (Y++[a_ u]) S=a_ (v,S')/\Ex S S')(h2:∀u∈us,g u=d_->∀S,Ex S0 S->e (Y++[a_ u]) S=b_):
  ∀(k i:Nat) (acc:List U) (S:Sto),Ex S0 S->(us.drop i).all g=d_->iY cTT e Y n k i acc S=b_
 |0,_,_,_,_,_=>rfl
 | k+1,i,acc,S,hx,hb=>by
   have hi:i<us.length:=by
    apply fY;intro z;rw[m6 (d8 z)]at hb;cases hb
   rw[eB hi,a8]at hb;unfold iY;rw[hL S hx];simp only[ay];rw[aG hi];simp only[cTT,ak,if_true];cases hg:g us[i] with
   |false=>rw[h2 _ (cQ hi) hg S hx];rfl
   | true=>
     obtain⟨v,S',e1,x1⟩:=h1 _ (cQ hi) hg S hx;rw[e1,ak];rw[hg,dU]at hb;exact wH hL h1 h2 k (i+1) _ S' (hx.trans x1) hb
theorem DJ(hL:∀S,Ex S0 S->getL S n=a_ us)(h1:∀u∈us,∀S,Ex S0 S->(∃v S',e (Y++[a_ u]) S=a_ (v,S')/\Ex S S')/\r (Y++[a_ u]) S=b_):
  ∀(k i:Nat) (S:Sto),Ex S0 S->xcL e r Y n k i S=b_
 |0,_,_,_=>rfl
 | k+1,i,S,hx=>by
   unfold xcL;rw[hL S hx];simp only[ay];cases q:us[i]? with
   |none=>rfl
   | some u=>
     obtain⟨⟨v,S',e1,x1⟩,e2⟩:=h1 u (bo q) S hx;simp only[e2,e1,ak];exact DJ hL h1 k (i+1) S' (hx.trans x1)
theorem zt(hL:∀S,Ex S0 S->getL S n=a_ us)(h1:∀u∈us,g u=c_->∀S,Ex S0 S->(∃v S',e (Y++[a_ u]) S=a_ (v,S')/\Ex S S')/\r (Y++[a_ u]) S=b_)(h2:∀u∈us,g u=d_->∀S,Ex S0 S->∃S',r (Y++[a_ u]) S=a_ (5,S')/\Ex S S'):
  ∀(k i:Nat) (S:Sto),Ex S0 S->us.length-i<k->(us.drop i).all g=d_->∃S',xcL e r Y n k i S=a_ (5,S')/\Ex S S'
 |0,_,_,_,hk,_=>by omega
 | k+1,i,S,hx,hk,hb=>by
   have hi:i<us.length:=by
    apply fY;intro z;rw[m6 (d8 z)]at hb;cases hb
   rw[eB hi,a8]at hb;unfold xcL;rw[hL S hx];simp only[ay];rw[aG hi];cases hg:g us[i] with
   | false=>
     obtain⟨S',e1,x1⟩:=h2 _ (cQ hi) hg S hx;exact⟨S',by simp only[e1],x1⟩
   | true=>
     obtain⟨⟨v,S',e1,x1⟩,e2⟩:=h1 _ (cQ hi) hg S hx;rw[hg,dU]at hb;obtain⟨S2,e3,x3⟩:=zt hL h1 h2 k (i+1) S' (hx.trans x1) (by omega) hb;exact⟨S2,by simp only[e2,e1,ak,e3],x1.trans x3⟩
end
section
variable {Y:Rho}{S S1:Sto}{a e:ME}{r:MX}{n:Nat}{us:List U}{g:U->Bool}
theorem BP(ha:a Y S=a_ (.ref n,S1))(hu:S1[n]?=a_ (.lst us))(h1:∀u∈us,g u=c_->∀S,Ex S1 S->∃v S',e (Y++[a_ u]) S=a_ (v,S')/\Ex S S')(h2:∀u∈us,g u=d_->∀S,Ex S1 S->e (Y++[a_ u]) S=b_)(hb:us.all g=d_):mFn bZ (aa (bu (dh a) cTT e) af) Y S=b_:=by
 have hg:∀S',Ex S1 S'->getL S' n=a_ us:=λS' x=>by unfold getL;rw[x.some hu]
 have hi:dh a Y S=a_ (.mut n,S1):=by simp only[dh,ha,ak,hg S1 (Ex.refl _),aT]
 simp only[mFn,aa,bu,hi,ak,rA,wH hg h1 h2 fuel 0 [] S1 (Ex.refl _) (by simpa using hb),bnd]
theorem DM(ha:a Y S=a_ (.ref n,S1))(hu:S1[n]?=a_ (.lst us))(h1:∀u∈us,∀S,Ex S1 S->(∃v S',e (Y++[a_ u]) S=a_ (v,S')/\Ex S S')/\r (Y++[a_ u]) S=b_):jh a e r Y S=b_:=by
 have hg:∀S',Ex S1 S'->getL S' n=a_ us:=λS' x=>by unfold getL;rw[x.some hu]
 simp only[jh,ha,ak,DJ hg h1 fuel 0 S1 (Ex.refl _)]
theorem Aa(ha:a Y S=a_ (.ref n,S1))(hu:S1[n]?=a_ (.lst us))(hz:us.length<100000)(h1:∀u∈us,g u=c_->∀S,Ex S1 S->(∃v S',e (Y++[a_ u]) S=a_ (v,S')/\Ex S S')/\r (Y++[a_ u]) S=b_)(h2:∀u∈us,g u=d_->∀S,Ex S1 S->∃S',r (Y++[a_ u]) S=a_ (5,S')/\Ex S S')(hb:us.all g=d_):∃S',jh a e r Y S=a_ (5,S')/\Ex S1 S':=by
 have hg:∀S',Ex S1 S'->getL S' n=a_ us:=λS' x=>by unfold getL;rw[x.some hu]
 obtain⟨S2,e2,x2⟩:=zt hg h1 h2 fuel 0 S1 (Ex.refl _) (by unfold fuel;omega) (by simpa using hb);exact⟨S2,by simp only[jh,ha,ak,e2],x2⟩
end
def sN:U->Bool
 |.str w=>isN w
 |_=>d_
section
variable {S:Sto}{t:aq}{B:Nat}
theorem KS(ws:List aq):(ws.map U.str).all sN=ws.all isN:=by
 induction ws with
 |nil=>rfl
 |cons w ws ih=>rw[bY,a8,a8,ih];rfl
theorem zW:∀{ws:List aq},ws.all isN=c_->∃l:List Nat,(∀n∈l,n<100)/\ws=l.map wd
 |[],_=>⟨[],by simp,rfl⟩
 | w::ws,h=>by
   rw[a8,ah]at h;obtain⟨n,hn,rfl⟩:=vb h.1;obtain⟨l,hl,rfl⟩:=zW h.2;exact⟨n::l,λx hx=>(bf.mp hx).elim (λz=>z▸hn) (hl x),rfl⟩
theorem o9(ht:Txf B t)(hB:B<=90000){Y:Rho}(h0:Y[0]?=a_ (a_ (.str t))):mMS dn (ae 0) (aa (mC (.str " ")) af) Y S=a_ (.ref S.length,S ++ [.lst ((aO t BLK).map U.str)]):=
 qP (y:=BLK) (var_eq h0) rfl (Dr (.inl rfl) ht hB)
theorem K6(ht:Txf B t)(hB:B<=90000){l:List Nat}(hl:∀n∈l,n<100)(he:aO t BLK=l.map wd):(∃S',aP [.str t] S=a_ (.tup (aV l),S')/\Ex S S')/\cz [.str t] S=b_:=by
 have e1:=o9 (S:=S) (Y:= [a_ (.str t)]) ht hB rfl;have hn:=wN (t:=t) (y:=BLK) (.inl rfl);have hb:=ht.l;rw[he,aj]at hn;rw[he]at e1;have st:∀(j:Nat) (u v:U) (S':Sto),((l.map wd).map U.str)[j]?=a_ u->(aV l)[j]?=a_ v->∃ZO,mFn bF (aa (ae 1) af) ([a_ (.str t)]++[a_ u]) S'=a_ (v,ZO)/\Ex S' ZO:=by
  intro j u v S' hu hv;unfold aV at hv;rw[ba]at hu hv;rw[ba]at hu;cases q:l[j]? with
  |none=>rw[q]at hv;cases hv
  | some x=>
    rw[q]at hu hv;cases hu;cases hv;obtain⟨S3,e3,x3⟩:=FB (S:=S') (hl x (bo q));exact⟨S3,cy (f:=bF) (var_eq rfl) e3,x3⟩
 refine⟨?_,?_⟩
 .obtain⟨S2,e2,x2⟩:=Io (e:=mFn bF (aa (ae 1) af)) (ys:=aV l) e1 (bA _ _) (by rw[aj,aj,gO]) (by rw[aj,aj];omega) (λj u v S' hu hv _=>st j u v S' hu hv)
  exact⟨S2,bw (Y:= [a_ (.str t)]) rfl (show fC [a_ (.str t)] S=_ from bP e2),(Ex.push _ _).trans x2⟩
 .show fw [a_ (.str t)] S=b_
  unfold fw;have z:jh (mMS dn (ae 0) (aa (mC (.str " ")) af)) (mFn bF (aa (ae 1) af)) (xFn ej (aa (ae 1) af)) [a_ (.str t)] S=b_:=DM e1 (bA _ _) fun u hu S' hx=>by
   obtain⟨w,hw,rfl⟩:=aL.mp hu;obtain⟨x,TK,rfl⟩:=aL.mp hw;obtain⟨S3,e3,x3⟩:=FB (S:=S') (hl x TK);exact⟨⟨_,S3,cy (f:=bF) (var_eq rfl) e3,x3⟩,oE (var_eq rfl) (HA (hl x TK))⟩
  simp only[jk,z];cases h:bO (mFn bZ (aa (bu (dh (mMS dn (ae 0) (aa (mC (.str " ")) af))) cTT (mFn bF (aa (ae 1) af))) af)) [a_ (.str t)] S with
  |none=>rfl
  | some p=>
    obtain⟨f,Y2,S1⟩:=p;cases f<;>rfl
theorem LY(ht:Txf B t)(hB:B<=90000)(hn:(aO t BLK).all isN=d_):aP [.str t] S=b_ /\ ∃S',cz [.str t] S=a_ (5,S')/\Ex S S':=by
 have e1:=o9 (S:=S) (Y:= [a_ (.str t)]) ht hB rfl;have hw:∀u∈(aO t BLK).map U.str,∃w,u=.str w/\Txf B w:=λu hu=>by
  obtain⟨w,hw,rfl⟩:=aL.mp hu;exact⟨w,rfl,vc (.inl rfl) ht w hw⟩
 have h1:∀u∈(aO t BLK).map U.str,sN u=c_->∀S',(∃v ZO,mFn bF (aa (ae 1) af) ([a_ (.str t)]++[a_ u]) S'=a_ (v,ZO)/\Ex S' ZO)/\xFn ej (aa (ae 1) af) ([a_ (.str t)]++[a_ u]) S'=b_:=λu hu hg S'=>by
  obtain⟨w,rfl,_⟩:=hw u hu;obtain⟨n,hn,rfl⟩:=vb hg;obtain⟨S3,e3,x3⟩:=FB (S:=S') hn;exact⟨⟨_,S3,cy (f:=bF) (var_eq rfl) e3,x3⟩,oE (var_eq rfl) (HA hn)⟩
 have h2:∀u∈(aO t BLK).map U.str,sN u=d_->∀S',mFn bF (aa (ae 1) af) ([a_ (.str t)]++[a_ u]) S'=b_ /\ ∃ZO,xFn ej (aa (ae 1) af) ([a_ (.str t)]++[a_ u]) S'=a_ (5,ZO)/\Ex S' ZO:=λu hu hg S'=>by
  obtain⟨w,rfl,hx⟩:=hw u hu;obtain⟨a,S3,b,x3⟩:=Mb (S:=S') hx.a (by have:=hx.l;omega) hg;exact⟨cy (f:=bF) (var_eq rfl) a,S3,oE (var_eq rfl) b,x3⟩
 have hb:((aO t BLK).map U.str).all sN=d_:=by rw[KS];exact hn
 obtain⟨S2,e2,x2⟩:=Aa (g:=sN) e1 (bA _ _) (by rw[aj];have:=wN (t:=t) (y:=BLK) (.inl rfl);have:=ht.l;omega) (λu hu hg S' _=>h1 u hu hg S') (λu hu hg S' _=>(h2 u hu hg S').2) hb;refine⟨jd (show fC [a_ (.str t)] S=b_ from ?_),S2,i5 rfl (show fw [a_ (.str t)] S=a_ (5,S2) from kc e2),(Ex.push _ _).trans x2⟩;have e3:=BP (g:=sN) e1 (bA _ _) (λu hu hg S' _=>(h1 u hu hg S').1) (λu hu hg S' _=>(h2 u hu hg S').1) hb;simp only[fC,bO,e3,bnd]
end
end
section
open _L _G
def nv(w:aq):Nat:=((d5 w).getD 0).toNat
theorem zl{n:Nat}(h:n<100):nv (wd n)=n:=by
 have e:d5 (wd n)=a_ ((n:Nat):Int):=(wdN ⟨n,h⟩).1;unfold nv;rw[e];rfl
def isS(w:aq):Bool:=isN w&&decide (nv w<24)
def wsO(t:aq):List aq:=aO t BLK
def nums(t:aq):List Nat:=(wsO t).map nv
theorem zO{t:aq}(h:(wsO t).all isN=c_):(∀n∈nums t,n<100)/\aO t BLK=(nums t).map wd:=by
 obtain⟨l,hl,e⟩:=zW h;have e2:nums t=l:=by
  unfold nums;rw[e,dj];exact(j0 λn hn=>zl (hl n hn)).trans (List.map_id l)
 rw[e2];exact⟨hl,e⟩
theorem zB{ws:List aq}(h:ws.all isS=c_):ws.all isN=c_ /\ ∀w∈ws,nv w<24:=by
 rw[aC]at h;refine⟨aC.mpr λw hw=>(aQ.mp (h w hw)).1,λw hw=>of_decide_eq_true (aQ.mp (h w hw)).2⟩
theorem Jq{w:aq}:isS w=decide (w∈(av 24).map wd):=by
 rw[fI,decide_eq_true_iff,aL];constructor
 .intro h
  obtain⟨h1,h2⟩:=aQ.mp h;obtain⟨n,hn,rfl⟩:=vb h1;rw[zl hn]at h2;exact⟨n,cj.mpr (of_decide_eq_true h2),rfl⟩
 .rintro ⟨n,hn,rfl⟩
  have hn:=cj.mp hn;unfold isS;rw[zl (by omega),(wdN ⟨n,by omega⟩).2.2,decide_eq_true hn];rfl
theorem tF:∀ys:List aq,c9 jP (ys.map U.str)=a_ (ys.map V.str)
 |[]=>rfl
 |y::ys=>by rw[bY];unfold c9;rw[tF ys];rfl
theorem F8{w:aq}{ys:List aq}:inV (.str w) (ys.map V.str)=decide (w∈ys):=by
 unfold inV;rw[BD,fI,ud,decide_eq_true_iff];constructor
 .rintro ⟨y,hy,e⟩
  have:y=w:=by simpa [Function.comp,eqV]using e
  rw[<-this];exact hy
 .intro h
  exact⟨w,h,by simp[Function.comp,eqV]⟩
section
variable {S:Sto}{t:aq}{B:Nat}
theorem tS{i n:Nat}{b:MS}{v:U}(p:U->Bool)(us:List U)(P:Nat->Rho->Sto->Prop)(R:Sto->Prop)(hl:∀k Y S,P k Y S->getL S n=a_ us)
  (st:∀(k:Nat) (u:U) (Y:Rho) (S:Sto),us[k]?=a_ u->P k Y S->(p u=c_->∃Y4 S',b (Y.set i (a_ u)) S=a_ (.nx,Y4,S')/\P (k+1) Y4 S')/\(p u=d_->∃Y4 S',b (Y.set i (a_ u)) S=a_ (.rt v,Y4,S')/\R S')):
  ∀(f k:Nat) (Y:Rho) (S:Sto),k<=us.length->us.length-k<f->P k Y S->((us.drop k).all p=c_->∃Y4 S',forL i b n f k Y S=a_ (.nx,Y4,S')/\P us.length Y4 S')/\((us.drop k).all p=d_->∃Y4 S',forL i b n f k Y S=a_ (.rt v,Y4,S')/\R S')
 |0,k,Y,S,h1,h2,_=>by omega
 | f+1,k,Y,S,h1,h2,hp=>by
   unfold forL;rw[hl k Y S hp];simp only[ay];by_cases hk:k<us.length
   .rw[eB hk,a8,aG hk]
    obtain⟨s1,s2⟩:=st k us[k] Y S (aG hk) hp;cases hg:p us[k] with
    | false=>
      obtain⟨Y2,S1,e1,r1⟩:=s2 hg;refine⟨λz=>(by cases z),λ_=>⟨Y2,S1,?_,r1⟩⟩;simp only[e1,aft]
    | true=>
      obtain⟨Y2,S1,e1,p1⟩:=s1 hg;rw[dU];obtain⟨t1,t2⟩:=tS p us P R hl st f (k+1) Y2 S1 hk (by omega) p1;simp only[e1,aft];exact⟨t1,t2⟩
   .have:k=us.length:=by omega
    subst this;rw[mG,nK (ao _)];exact⟨λ_=>⟨Y,S,rfl,hp⟩,λz=>(by cases z)⟩
def lnB:MS:=aW (sIf (cOf (m2 kZ (ae 3) (ae 1))) (bO (mC .non)) bE) (dm (mML cW (ae 2) (aa (mFn oy (aa (ae 3) af)) af)))
def gdS(S:Sto)(l:List Nat)(ws:List aq):Sto:=S++[.lst (((av 24).map wd).map U.str),.lst (aV l),.lst (ws.map U.str)]
variable{l:List Nat}{ws:List aq}
theorem gd0:(gdS S l ws)[S.length]?=a_ (.lst (((av 24).map wd).map U.str)):=by unfold gdS;rw[bp (ao _)];simp
theorem gd1:(gdS S l ws)[S.length+1]?=a_ (.lst (aV l)):=by unfold gdS;rw[bp (by omega)];simp
theorem gd2:(gdS S l ws)[S.length+2]?=a_ (.lst (ws.map U.str)):=by unfold gdS;rw[bp (by omega)];simp
theorem KP{l':List Nat}:(gdS S l ws).set (S.length+1) (.lst (aV l'))=gdS S l' ws:=by unfold gdS;rw[EB _ _ (by omega)];simp
theorem Bl{n:Nat}:aV l++[.int (n:Nat)]=aV (l++[n]):=by unfold aV;simp
theorem IT{w:aq}{a0:Option U}(hl:l.length<1000000):(isS w=c_->lnB [a0,a_ (.ref S.length),a_ (.ref (S.length+1)),a_ (.str w)] (gdS S l ws)=a_ (.nx,[a0,a_ (.ref S.length),a_ (.ref (S.length+1)),a_ (.str w)],gdS S (l++[nv w]) ws)) /\
  (isS w=d_->lnB [a0,a_ (.ref S.length),a_ (.ref (S.length+1)),a_ (.str w)] (gdS S l ws)=a_ (.rt .non,[a0,a_ (.ref S.length),a_ (.ref (S.length+1)),a_ (.str w)],gdS S l ws)):=by
 have c:cOf (m2 kZ (ae 3) (ae 1)) [a0,a_ (.ref S.length),a_ (.ref (S.length+1)),a_ (.str w)] (gdS S l ws)=a_ (!isS w,gdS S l ws):=by
  refine of_eq (op2 (f:=kZ) (x:= .str w) (y:= .ref S.length) rfl rfl ?_);simp only[kZ,BS gd0,jP,ay,dJ,getL,gd0,tF,aT,Option.some_or,F8,Jq]
 refine⟨λh=>?_,λh=>?_⟩
 .rw[h]at c
  obtain⟨n,hn,rfl⟩:=vb (aQ.mp h).1;obtain⟨w1,w2,_⟩:=wdN ⟨n,hn⟩;have w1:d5 (wd n)=a_ ((n:Nat):Int):=w1;have w2:(wd n).length<=2:=w2
  have e2:mFn oy (aa (ae 3) af) [a0,a_ (.ref S.length),a_ (.ref (S.length+1)),a_ (.str (wd n))] (gdS S l ws)=a_ (.int (n:Nat),gdS S l ws):=cy (var_eq rfl) (by
   show(if tm (wd n) then(d5 (wd n)).map λn=>(U.int n,_) else b_)=_
   rw[if_pos (show tm (wd n) from aA w2 (by decide)),w1];rfl)
  rw[zl hn];refine(aE ((gw c).trans rfl)).trans ?_;have ho:ae 2 [a0,a_ (.ref S.length),a_ (.ref (S.length+1)),a_ (.str (wd n))] (gdS S l ws)=a_ (.ref (S.length+1),gdS S l ws):=rfl;have hz:(aV l).length<big:=by rw[gO];unfold big;omega
  simp only[dm,mML,ho,ak,getL,gd1,ay,lB e2,cW,if_pos hz,Bl,KP]
 .rw[h]at c
  exact dq ((iU c).trans (bP rfl))
theorem Mw(ht:Txf B t)(hB:B<=90000):∃S',dA [.str t] S=a_ (if (wsO t).all isS then .tup (aV (nums t)) else .non,S')/\Ex S S':=by
 have hb:=ht.l;have hn:=wN (t:=t) (y:=BLK) (.inl rfl)
 have e1:=ji (Y:= [a_ (.str t),b_,b_,b_]) (S:=S) (S0:=S) (a:=mC (.int 24)) (e:=mFn pZ (aa (ae 4) af)) (n:=24) c_i (by decide) (λn => .str (wd n)) (λ_ S'=>S'=S) rfl (by
  rintro j S2 hj rfl;refine⟨S2,cy (var_eq rfl) (if_pos ?_),rfl⟩;show((j:Nat):Int).natAbs.log2<1920;rw[Int.natAbs_natCast]
  exact a9 (Nat.log2_le_self j) (by omega))
 obtain⟨S1,e1,rfl⟩:=e1;have e1:bu (iR1 (aa (mC (.int 24)) af)) cTT (mFn pZ (aa (ae 4) af)) [a_ (.str t),b_,b_,b_] S1=a_ (.ref S1.length,S1++[.lst (((av 24).map wd).map U.str)]):=by
  rw[e1,dj];rfl
 have f1:=bS (i:=1) e1;have f2:bJ 2 (b0 af) [a_ (.str t),a_ (.ref S1.length),b_,b_] (S1++[.lst (((av 24).map wd).map U.str)])=a_ (.nx,[a_ (.str t),a_ (.ref S1.length),a_ (.ref (S1.length+1)),b_],S1++[.lst (((av 24).map wd).map U.str)]++[.lst []]):=by
  have:=bS (i:=2) (Y:= [a_ (.str t),a_ (.ref S1.length),b_,b_]) (my (S:=S1++[.lst (((av 24).map wd).map U.str)]) (Y:= [a_ (.str t),a_ (.ref S1.length),b_,b_]));rw[this];simp
 have e3:=o9 (S:=S1++[.lst (((av 24).map wd).map U.str)]++[.lst []]) (Y:= [a_ (.str t),a_ (.ref S1.length),a_ (.ref (S1.length+1)),b_]) ht hB rfl;have hS:S1++[.lst (((av 24).map wd).map U.str)]++[.lst []]++[.lst ((aO t BLK).map U.str)]=gdS S1 [] (wsO t):=by unfold gdS wsO aV;simp
 have hlen:(S1++[Cell.lst (((av 24).map wd).map U.str)]++[Cell.lst []]).length=S1.length+2:=by simp
 rw[hS,hlen]at e3;have hit:dh (mMS dn (ae 0) (aa (mC (.str " ")) af)) [a_ (.str t),a_ (.ref S1.length),a_ (.ref (S1.length+1)),b_] (S1 ++ [.lst (((av 24).map wd).map U.str)] ++ [.lst []])=a_ (.mut (S1.length+2),gdS S1 [] (wsO t)):=by
  simp only[dh,e3,ak,getL,gd2,aT]
 have key:=tS (i:=3) (n:=S1.length+2) (b:=lnB) (v:= .non) (λu=>match u with | .str w=>isS w |_=>d_) ((wsO t).map U.str) (λk Y S=>(∃z,Y=[a_ (.str t),a_ (.ref S1.length),a_ (.ref (S1.length+1)),z])/\S=gdS S1 ((nums t).take k) (wsO t)) (λS=>Ex S1 S)
  (by rintro k Y S ⟨_,rfl⟩;unfold getL;rw[gd2]) (by
   rintro k u Y S hu ⟨⟨z,rfl⟩,rfl⟩;rw[ba]at hu;obtain⟨w,hw,rfl⟩:=iF.mp hu;have hk:k<(wsO t).length:=(ag.mp hw).1;have hk:k<(aO t BLK).length:=hk;obtain⟨a,b⟩:=IT (S:=S1) (a0:=a_ (.str t)) (l:=(nums t).take k) (ws:=wsO t) (w:=w) (by rw[mD];omega);refine⟨λh=>⟨_,_,a h,⟨_,rfl⟩,?_⟩,λh=>⟨_,_,b h,⟨_,rfl⟩⟩⟩
   congr 1
   have:(nums t)[k]?=a_ (nv w):=by unfold nums;rw[ba,hw];rfl
   rw[List.take_add_one,this];rfl) fuel 0 [a_ (.str t),a_ (.ref S1.length),a_ (.ref (S1.length+1)),b_] (gdS S1 [] (wsO t)) (gy _) (by unfold fuel;rw[aj];show(aO t BLK).length - 0<_;omega) ⟨⟨_,rfl⟩,rfl⟩
 rw[List.drop_zero]at key;have YH:((wsO t).map U.str).all (λu=>match u with | .str w=>isS w |_=>d_)=(wsO t).all isS:=by
  rw[sh];rfl
 rw[YH]at key;have ef :∀ r,forL 3 lnB (S1.length+2) fuel 0 [a_ (.str t),a_ (.ref S1.length),a_ (.ref (S1.length+1)),b_] (gdS S1 [] (wsO t))=r->fU 3 (dh (mMS dn (ae 0) (aa (mC (.str " ")) af))) lnB [a_ (.str t),a_ (.ref S1.length),a_ (.ref (S1.length+1)),b_] (S1 ++ [.lst (((av 24).map wd).map U.str)] ++ [.lst []])=r:=fun r h=>by
  simp only[fU,hit,ak,LU,h]
 cases ha:(wsO t).all isS with
 | false=>
   obtain⟨Y4,S',e,x⟩:=key.2 ha;exact⟨S',bw (Y:=Y4) rfl (show iy [a_ (.str t),b_,b_,b_] S1=_ from(aE f1).trans ((aE f2).trans (dq (ef _ e)))),x⟩
 | true=>
   obtain⟨Y4,S',e,⟨z,rfl⟩,rfl⟩:=key.1 ha;rw[aj,BB (by unfold nums;rw[aj];exact ao _)]at e;refine⟨gdS S1 (nums t) (wsO t),bw (Y:= [a_ (.str t),a_ (.ref S1.length),a_ (.ref (S1.length+1)),z]) rfl (show iy [a_ (.str t),b_,b_,b_] S1=_ from(aE f1).trans ((aE f2).trans ((aE (ef _ e)).trans (bP (cy (x:= .ref (S1.length+1)) (var_eq rfl) ?_))))),⟨_,rfl⟩⟩;simp only[bZ,dJ,getL,gd1,aT,if_true]
end
end
section
open _L _G
def qT(φ:MF)(ψ:RF)(u:U)(o:Option U)(S:Sto):Prop:=match o with
 |some v=>∃S',φ [u] S=a_ (v,S')/\Ex S S'
 |none=>φ [u] S=b_ /\ ∃S',ψ [u] S=a_ (5,S')/\Ex S S'
def gtU(ls:List (List Nat)):U:= .tup (ls.map λl=>.tup (aV l))
theorem Im{S:Sto}{ls:List (List Nat)}:_G.eqU S (gtU ls) (gtU ls)=a_ c_:=by
 have d:toD S 40 (gtU ls)=a_ (.tuple (ls.map λl=>jb (l.map λ(x:Nat)=>bz x))):=by
  show(c9 (toD S 39) _).map _=_;rw[tw (f:=37)];rfl
 unfold _G.eqU;rw[d];simp[bL,wF]
def rws(t:aq):List aq:=aO t SLA
def og(p:aq):Bool:=(wsO p).all isN
def i4(p:aq):Bool:=(wsO p).all isS
def tbl(t:aq):List (List Nat):=(rws t).map nums
section
variable {S:Sto}{t:aq}{B:Nat}
theorem Lk:bM [.str t] S=a_ (.non,S):=rfl
theorem za:dD [.str t] S=b_:=rfl
variable{Y:Rho}
theorem pC(ht:Txf B t)(hB:B<=90000) (h0:Y[0]?=a_ (a_ (.str t))):mMS dn (ae 0) (aa (mC (.str "/")) af) Y S=a_ (.ref S.length,S ++ [.lst ((rws t).map U.str)]):=
 qP (y:=SLA) (var_eq h0) rfl (Dr (.inr rfl) ht hB)
theorem zM(ht:Txf B t):(rws t).length<=B+1:=aA (wN (t:=t) (y:=SLA) (.inr rfl)) (by have:=ht.l;omega)
theorem mm(ht:Txf B t):∀p∈rws t,Txf B p:=vc (.inr rfl) ht
theorem DN(ht:Txf B t):(nums t).length<=B+1:=by
 unfold nums wsO;rw[aj];exact aA (wN (t:=t) (y:=BLK) (.inl rfl)) (by have:=ht.l;omega)
theorem nsG{p:aq}(hp:Txf B p)(hB:B<=90000)(h:og p=c_):(∃S',aP [.str p] S=a_ (.tup (aV (nums p)),S')/\Ex S S')/\cz [.str p] S=b_:=
 K6 hp hB (zO h).1 (zO h).2
theorem nsB{p:aq}(hp:Txf B p)(hB:B<=90000)(h:og p=d_):aP [.str p] S=b_ /\ ∃S',cz [.str p] S=a_ (5,S')/\Ex S S':=LY hp hB h
def sA:U->Bool
 |.str p=>og p
 |_=>d_
theorem J1(ws:List aq):(ws.map U.str).all sA=ws.all og:=by rw[sh];rfl
theorem LW(ht:Txf B t)(hB:B<=90000)(h:(rws t).all og=c_) (h0:Y[0]?=a_ (a_ (.str t)))(hr:Y.length=2):(∃ S',mFn bZ (aa (bu (dh (mMS dn (ae 0) (aa (mC (.str "/")) af))) cTT (mFn aP (aa (ae 2) af))) af) Y S=a_ (gtU (tbl t),S')/\Ex S S') /\
  jh (mMS dn (ae 0) (aa (mC (.str "/")) af)) (mFn aP (aa (ae 2) af)) (xFn cz (aa (ae 2) af)) Y S=b_:=by
 have e1:=pC (S:=S) (Y:=Y) ht hB h0;have hv:∀u,(Y++[a_ u])[2]?=a_ (a_ u):=λu=>by rw[<-hr];exact bA _ _
 have hg:=aC.mp h;refine⟨?_,DM e1 (bA _ _) λu hu S' hx=>?_⟩
 ·obtain⟨S2,e2,x2⟩:=Io (e:=mFn aP (aa (ae 2) af)) (ys:=(tbl t).map λl => .tup (aV l)) e1 (bA _ _) (by unfold tbl;simp) (by rw[aj];have:=zM ht;omega) (by
   intro j u v S' hu YX hx;unfold tbl at YX;rw[ba]at hu YX;rw[ba]at YX;cases q:(rws t)[j]? with
   |none=>rw[q]at hu;cases hu
   | some p=>
     rw[q]at hu YX;cases hu;cases YX;have hp:=bo q;obtain⟨⟨S3,e3,x3⟩,_⟩:=nsG (S:=S') (mm ht p hp) hB (hg p hp)
     exact⟨S3,cy (f:=aP) (var_eq (hv _)) e3,x3⟩)
  exact⟨S2,e2,(Ex.push _ _).trans x2⟩
 .obtain⟨p,hp,rfl⟩:=aL.mp hu
  obtain⟨⟨S3,e3,x3⟩,e4⟩:=nsG (S:=S') (mm ht p hp) hB (hg p hp);exact⟨⟨_,S3,cy (f:=aP) (var_eq (hv _)) e3,x3⟩,oE (var_eq (hv _)) e4⟩
theorem LN(ht:Txf B t)(hB:B<=90000)(h:(rws t).all og=d_) (h0:Y[0]?=a_ (a_ (.str t)))(hr:Y.length=2):mFn bZ (aa (bu (dh (mMS dn (ae 0) (aa (mC (.str "/")) af))) cTT (mFn aP (aa (ae 2) af))) af) Y S=b_ /\
  ∃ S',jh (mMS dn (ae 0) (aa (mC (.str "/")) af)) (mFn aP (aa (ae 2) af)) (xFn cz (aa (ae 2) af)) Y S=a_ (5,S')/\Ex S S':=by
 have e1:=pC (S:=S) (Y:=Y) ht hB h0;have hv:∀u,(Y++[a_ u])[2]?=a_ (a_ u):=λu=>by rw[<-hr];exact bA _ _
 have h1:∀u∈(rws t).map U.str,sA u=c_->∀S',(∃v ZO,mFn aP (aa (ae 2) af) (Y++[a_ u]) S'=a_ (v,ZO)/\Ex S' ZO)/\xFn cz (aa (ae 2) af) (Y++[a_ u]) S'=b_:=λu hu hg S'=>by
  obtain⟨p,hp,rfl⟩:=aL.mp hu;obtain⟨⟨S3,e3,x3⟩,e4⟩:=nsG (S:=S') (mm ht p hp) hB hg;exact⟨⟨_,S3,cy (f:=aP) (var_eq (hv _)) e3,x3⟩,oE (var_eq (hv _)) e4⟩
 have h2:∀u∈(rws t).map U.str,sA u=d_->∀S',mFn aP (aa (ae 2) af) (Y++[a_ u]) S'=b_ /\ ∃ZO,xFn cz (aa (ae 2) af) (Y++[a_ u]) S'=a_ (5,ZO)/\Ex S' ZO:=λu hu hg S'=>by
  obtain⟨p,hp,rfl⟩:=aL.mp hu;obtain⟨a,S3,b,x3⟩:=nsB (S:=S') (mm ht p hp) hB hg;exact⟨cy (f:=aP) (var_eq (hv _)) a,S3,oE (var_eq (hv _)) b,x3⟩
 have hb:((rws t).map U.str).all sA=d_:=by rw[J1];exact h
 obtain⟨S2,e2,x2⟩:=Aa (g:=sA) e1 (bA _ _) (by rw[aj];have:=zM ht;omega) (λu hu hg S' _=>h1 u hu hg S') (λu hu hg S' _=>(h2 u hu hg S').2) hb;exact⟨BP (g:=sA) e1 (bA _ _) (λu hu hg S' _=>(h1 u hu hg S').1) (λu hu hg S' _=>(h2 u hu hg S').1) hb,S2,e2,(Ex.push _ _).trans x2⟩
theorem lE(h0:Y[0]?=a_ (a_ (.str t))):dm (mFn bM (aa (ae 0) af)) Y S=a_ (.nx,Y,S):=by
 simp only[dm,cy (f:=bM) (var_eq h0) Lk,ak]
variable{b:Bool}
theorem grd(ht:Txf B t)(hB:B<=90000)(h:(rws t).all og=c_)(hb:∀S,∃S',eg [gtU (tbl t)] S=a_ (.bl b,S')/\Ex S S'):qT dz dX (.str t) (if b then a_ (gtU (tbl t)) else b_) S:=by
 obtain⟨⟨S1,e1,x1⟩,e2⟩:=LW (S:=S) (Y:= [a_ (.str t),b_]) ht hB h rfl rfl;obtain⟨S2,e3,x3⟩:=hb S1;have c:=not_eq (of_eq (cy (f:=eg) (Y:= [a_ (.str t),a_ (gtU (tbl t))]) (S:=S1) (a:=ae 1) (var_eq rfl) e3));have f1:=bS (i:=1) e1;cases b with
 | true=>
   exact⟨S2,bw (Y:= [a_ (.str t),a_ (gtU (tbl t))]) rfl (show fL [a_ (.str t),b_] S=_ from(aE (lE rfl)).trans ((aE f1).trans ((aE ((gw c).trans rfl)).trans (bP (var_eq rfl))))),x1.trans x3⟩
 | false=>
   refine⟨jd (show fL [a_ (.str t),b_] S=b_ from(aE (lE rfl)).trans ((aE f1).trans (lu ((iU c).trans rfl)))),S2,i5 rfl (show gW [a_ (.str t),b_] S=a_ (5,S2) from ?_),x1.trans x3⟩;exact(n9 (oE (var_eq rfl) za) (lE rfl)).trans ((n9 e2 f1).trans (kc ((zT c).trans (kc rfl))))
theorem grn(ht:Txf B t)(hB:B<=90000)(h:(rws t).all og=d_):qT dz dX (.str t) b_ S:=by
 obtain⟨e1,S1,e2,x2⟩:=LN (S:=S) (Y:= [a_ (.str t),b_]) ht hB h rfl rfl;refine⟨jd (show fL [a_ (.str t),b_] S=b_ from(aE (lE rfl)).trans (lu ?_)),S1,i5 rfl (show gW [a_ (.str t),b_] S=a_ (5,S1) from ?_),x2⟩
 .simp only[bJ,e1,bnd]
 .exact(n9 (oE (var_eq rfl) za) (lE rfl)).trans (kc e2)
def lwR(p:aq):U:=if i4 p then .tup (aV (nums p)) else .non
theorem Hu(ht:Txf B t)(hB:B<=90000) (h0:Y[0]?=a_ (a_ (.str t)))(hr:Y.length=2) :∃ S',mFn bZ (aa (bu (dh (mMS dn (ae 0) (aa (mC (.str "/")) af))) cTT (mFn dA (aa (ae 2) af))) af) Y S=a_ (.tup ((rws t).map lwR),S')/\Ex S S':=by
 have e1:=pC (S:=S) (Y:=Y) ht hB h0;have hv:∀u,(Y++[a_ u])[2]?=a_ (a_ u):=λu=>by rw[<-hr];exact bA _ _
 obtain⟨S2,e2,x2⟩:=Io (e:=mFn dA (aa (ae 2) af)) (ys:=(rws t).map lwR) e1 (bA _ _) (by simp) (by rw[aj];have:=zM ht;omega) (by
  intro j u v S' hu YX hx;rw[ba]at hu YX;cases q:(rws t)[j]? with
  |none=>rw[q]at hu;cases hu
  | some p=>
    rw[q]at hu YX;cases hu;cases YX;obtain⟨S3,e3,x3⟩:=Mw (S:=S') (mm ht p (bo q)) hB
    exact⟨S3,cy (f:=dA) (var_eq (hv _)) e3,x3⟩)
 exact⟨S2,e2,(Ex.push _ _).trans x2⟩
def AS(p:aq):PySem.PyData:=if i4 p then .tuple ((nums p).map λ(x:Nat)=>bz x) else .none
theorem wV:∀ps:List aq,c9 (toD S 40) (ps.map lwR)=a_ (ps.map AS)
 |[]=>rfl
 | p::ps=>by
   rw[bY];unfold c9;rw[wV ps];have:toD S 40 (lwR p)=a_ (AS p):=by
    unfold lwR AS
    split
    .exact nU (f:=38)
    .rfl
   rw[this];rfl
theorem Cf(h1:Y[1]?=a_ (a_ (.tup ((rws t).map lwR)))):m2 yc (mC .non) (ae 1) Y S=a_ (.bl (!(rws t).all i4),S):=by
 refine op2 (f:=yc) (x:= .non) (y:= .tup ((rws t).map lwR)) rfl (var_eq h1) ?_;have d:toD S 40 .non=a_ .none:=rfl;simp only[yc,inT,d,ay,dJ,wV,aT]
 congr 3
 rw[BD]
 induction rws t with
 |nil=>rfl
 | cons p ps ih=>
   rw[fN,a8,ih];have:(λe=>bL e .none) (AS p) = !i4 p:=by
    unfold AS;cases i4 p<;>simp[bL]
   show((λe=>bL e .none) (AS p)||_)=_;rw[this];cases i4 p<;>simp
theorem FL(h:(rws t).all i4=c_):U.tup ((rws t).map lwR)=gtU (tbl t):=by
 unfold gtU tbl;rw[dj]
 congr 1
 exact j0 λp hp=>if_pos (aC.mp h p hp)
theorem gdN(ht:Txf B t)(hB:B<=90000)(h:(rws t).all i4=d_):∃S',dw [.str t] S=a_ (.non,S')/\Ex S S':=by
 obtain⟨S1,e1,x1⟩:=Hu (S:=S) (Y:= [a_ (.str t),b_]) ht hB rfl rfl;have c:=of_eq (Cf (S:=S1) (Y:= [a_ (.str t),a_ (.tup ((rws t).map lwR))]) rfl);rw[h]at c;exact⟨S1,bw (Y:= [a_ (.str t),a_ (.tup ((rws t).map lwR))]) rfl (show eX [a_ (.str t),b_] S=_ from(aE (bS (i:=1) e1)).trans (dq ((iU (xu c)).trans (bP rfl)))),x1⟩
theorem gdY(ht:Txf B t)(hB:B<=90000)(h:(rws t).all i4=c_)(hb:∀S,∃S',ik [gtU (tbl t)] S=a_ (.bl b,S')/\Ex S S'):∃S',dw [.str t] S=a_ (if b then gtU (tbl t) else .non,S')/\Ex S S':=by
 obtain⟨S1,e1,x1⟩:=Hu (S:=S) (Y:= [a_ (.str t),b_]) ht hB rfl rfl;have c:=of_eq (Cf (S:=S1) (Y:= [a_ (.str t),a_ (.tup ((rws t).map lwR))]) rfl);rw[FL h]at e1 c;rw[h]at c;obtain⟨S2,e2,x2⟩:=hb S1;have c2:=yi c (not_eq (of_eq (cy (f:=ik) (Y:= [a_ (.str t),a_ (gtU (tbl t))]) (S:=S1) (a:=ae 1) (var_eq rfl) e2)));cases b with
 |true=>exact⟨S2,bw (Y:= [a_ (.str t),a_ (gtU (tbl t))]) rfl (show eX [a_ (.str t),b_] S=_ from(aE (bS (i:=1) e1)).trans ((aE ((gw c2).trans rfl)).trans (bP (var_eq rfl)))),x1.trans x2⟩
 |false=>exact⟨S2,bw (Y:= [a_ (.str t),a_ (gtU (tbl t))]) rfl (show eX [a_ (.str t),b_] S=_ from(aE (bS (i:=1) e1)).trans (dq ((iU c2).trans (bP rfl)))),x1.trans x2⟩
theorem Jb{ps:List aq}(h:ps.all i4=c_):ps.all og=c_:=aC.mpr λp hp=>(zB (aC.mp h p hp)).1
theorem zo(ht:Txf B t)(hB:B<=90000):∀v∈(tbl t).map (λl=>U.tup (aV l)),Thg S v:=λv hv=>by
 obtain⟨l,hl,rfl⟩:=aL.mp hv;obtain⟨p,hp,rfl⟩:=aL.mp hl;exact Thg.nat (by have:=DN (mm ht p hp);omega)
theorem Ai(ht:Txf B t)(hB:B<=90000):((tbl t).map (λl=>U.tup (aV l))).length<100000:=by
 unfold tbl;rw[aj,aj];have:=zM ht;omega
theorem JW(ht:Txf B t)(hB:B<=90000)(h:(rws t).all og=c_)(h2:(rws t).all i4=d_):∃S',eg [gtU (tbl t)] S=a_ (.bl d_,S')/\Ex S S':=by
 refine zX (us:=(tbl t).map λl=>U.tup (aV l)) ⟨Ai ht hB,zo ht hB⟩ ?_;apply fY;intro z;rw[Bool.not_eq_false,ah]at z;obtain⟨z1,z2⟩:=z;have z1:=of_decide_eq_true z1;have z2:=aC.mp z2;have:(rws t).all i4=c_:=aC.mpr λp hp=>aC.mpr λw hw=>by
  have hN:=aC.mp (aC.mp h p hp) w hw;obtain⟨vs,e,hv,ha⟩:=xo (z2 (.tup (aV (nums p))) (aL.mpr ⟨nums p,aL.mpr ⟨p,hp,rfl⟩,rfl⟩));cases e;have:=(yd (ha (.int (nv w:Nat)) (aL.mpr ⟨nv w,aL.mpr ⟨w,hw,rfl⟩,rfl⟩))).1;have:nv w<((tbl t).map λl=>U.tup (aV l)).length:=by simpa [uN]using this
  unfold isS;rw[hN,decide_eq_true (by omega)];rfl
 rw[this]at h2;cases h2
theorem Fx(ht:Txf B t)(hB:B<=90000):∃o:Option U,(∀S,∃S',dw [.str t] S=a_ (o.getD .non,S')/\Ex S S')/\(∀S,qT dz dX (.str t) o S) /\ ∀v,o=a_ v->(∃us,v=.tup us) /\ ∀S,_G.eqU S v v=a_ c_:=by
 cases hN:(rws t).all og with
 | false=>
   have hS:(rws t).all i4=d_:=by
    cases q:(rws t).all i4 with
    |false=>rfl
    |true=>rw[Jb q]at hN;cases hN
   exact⟨b_,λS=>gdN ht hB hS,λS=>grn ht hB hN,λv z=>by cases z⟩
 | true=>
   cases hS:(rws t).all i4 with
   |false=>exact⟨b_,λS=>gdN ht hB hS,λS=>grd ht hB hN (b:=d_) λS=>JW ht hB hN hS,λv z=>by cases z⟩
   | true=>
     obtain⟨b,hb⟩:=J9 (n:=0) (S:= []) (u:=gtU (tbl t)) (.inr ⟨_,rfl,Ai ht hB,λv hv=>⟨zo ht hB v hv,λz=>by obtain⟨l,_,rfl⟩:=aL.mp hv;cases z⟩⟩);have hx:∀S:Sto,Ex [] S:=λS=>⟨S,rfl⟩;refine⟨if b then a_ (gtU (tbl t)) else b_,λS=>?_,λS=>grd ht hB hN λS=>(hb S (hx S)).1,λv z=>?_⟩
     .obtain⟨S',e,x⟩:=gdY (S:=S) ht hB hS λS=>(hb S (hx S)).2
      refine⟨S',?_,x⟩;rw[e];cases b<;>rfl
     .cases b with
      |false=>cases z
      |true=>cases z;exact⟨⟨_,rfl⟩,λS=>Im⟩
end
end
section
open _L _G
def NON:aq:=cH "none"
section
variable {S:Sto}{t:aq}{B:Nat}
variable{Y:Rho}{S1:Sto}
theorem yX{us:List U}{a:ME}(ha:a Y S=a_ (.tup us,S1)):cOf (m2 oIs a (mC .non)) Y S=a_ (d_,S1):=of_eq (op2 (f:=oIs) ha rfl rfl)
theorem yB{a:ME}(ha:a Y S=a_ (.non,S1)):cOf (m2 oIs a (mC .non)) Y S=a_ (c_,S1):=of_eq (op2 (f:=oIs) ha rfl rfl)
theorem OJ(ht:Txf B t)(hB:B<=90000)(h: ¬t=NON):∃S',eD [.str t] S=a_ (if i4 t&&decide ((nums t).length<=60) then .tup (aV (nums t)) else .non,S')/\Ex S S':=by
 have c:=of_eq (E7 (Y := [a_ (.str t),b_]) (S:=S) (a:=ae 0) (b:=mC (.str "none")) (x:=t) (y:=NON) (var_eq rfl) rfl ht.a.ok qH);rw[decide_eq_false h]at c;obtain⟨S1,e1,x1⟩:=Mw (S:=S) ht hB;have f1:=bS (i:=1) (cy (f:=dA) (Y:= [a_ (.str t),b_]) (S:=S) (a:=ae 0) (var_eq rfl) e1);have hs:(wsO t).all isS=i4 t:=rfl;rw[hs]at f1;cases ha:i4 t with
 | false=>
   rw[ha]at f1;exact⟨S1,bw (Y:= [a_ (.str t),a_ .non]) rfl (show eG [a_ (.str t),b_] S=_ from(aE ((gw c).trans rfl)).trans ((aE f1).trans (dq ((iU (xu (yB (var_eq rfl)))).trans (bP rfl))))),x1⟩
 | true=>
   rw[ha]at f1;have c2:=of_eq (DF (Y:= [a_ (.str t),a_ (.tup (aV (nums t)))]) (S:=S1) (a:=mFn cJ (aa (ae 1) af)) (b:=mC (.int 60)) (nZ (var_eq rfl)) c_i);rw[gO]at c2;have c3:=yi (yX (Y:= [a_ (.str t),a_ (.tup (aV (nums t)))]) (S:=S1) (a:=ae 1) (var_eq rfl)) c2;by_cases hl:(nums t).length<=60
   .rw[decide_eq_false (by omega)]at c3
    rw[decide_eq_true hl];exact⟨S1,bw (Y:= [a_ (.str t),a_ (.tup (aV (nums t)))]) rfl (show eG [a_ (.str t),b_] S=_ from(aE ((gw c).trans rfl)).trans ((aE f1).trans ((aE ((gw c3).trans rfl)).trans (bP (var_eq rfl))))),x1⟩
   .rw[decide_eq_true (by omega)]at c3
    rw[decide_eq_false hl];exact⟨S1,bw (Y:= [a_ (.str t),a_ (.tup (aV (nums t)))]) rfl (show eG [a_ (.str t),b_] S=_ from(aE ((gw c).trans rfl)).trans ((aE f1).trans (dq ((iU c3).trans (bP rfl))))),x1⟩
theorem Kg(h:og t=c_):(nums t).all (λx=>decide (x<24))=i4 t:=by
 unfold nums i4;rw[sh];have h:=aC.mp h;rw[fI,aC,aC];refine⟨λz w hw=>?_,λz w hw=>?_⟩
 .unfold isS;rw[h w hw];exact z w hw
 .exact(aQ.mp (z w hw)).2
theorem NF(ht:Txf B t)(hB:B<=90000)(h: ¬t=NON):qT dZ eK (.str t) (if i4 t&&decide ((nums t).length<=60) then a_ (.tup (aV (nums t))) else b_) S:=by
 have c:=of_eq (E7 (Y := [a_ (.str t),b_]) (S:=S) (a:=ae 0) (b:=mC (.str "none")) (x:=t) (y:=NON) (var_eq rfl) rfl ht.a.ok qH);rw[decide_eq_false h]at c;have c':sIf (cOf (m2 oEq (ae 0) (mC (.str "none")))) (bO (gZ af)) bE [a_ (.str t),b_] S=a_ (.nx,[a_ (.str t),b_],S):=(gw c).trans rfl;have x0:xFn dD (aa (ae 0) af) [a_ (.str t),b_] S=b_:=oE (var_eq rfl) za;cases hN:og t with
 | false=>
   have hS:i4 t=d_:=by
    cases q:i4 t with
    |false=>rfl
    |true=>rw[show og t=c_ from(zB q).1]at hN;cases hN
   rw[hS];obtain⟨a,S1,b,x1⟩:=nsB (S:=S) ht hB hN;refine⟨jd (show ft [a_ (.str t),b_] S=b_ from(aE (lE rfl)).trans ((aE c').trans (lu ?_))),S1,i5 rfl (show iL [a_ (.str t),b_] S=a_ (5,S1) from(n9 x0 (lE rfl)).trans ((n9 rfl c').trans (kc (oE (var_eq rfl) b)))),x1⟩;simp only[bJ,cy (f:=aP) (Y:= [a_ (.str t),b_]) (a:=ae 0) (var_eq rfl) a,bnd]
 | true=>
   obtain⟨⟨S1,e1,x1⟩,e2⟩:=nsG (S:=S) ht hB hN;have f1:=bS (i:=1) (cy (f:=aP) (Y:= [a_ (.str t),b_]) (S:=S) (a:=ae 0) (var_eq rfl) e1);have c1:=of_eq (DF (Y:= [a_ (.str t),a_ (.tup (aV (nums t)))]) (S:=S1) (a:=mFn cJ (aa (ae 1) af)) (b:=mC (.int 60)) (nZ (var_eq rfl)) c_i);rw[gO]at c1;obtain⟨S3,e3,x3⟩:=Jc (S:=S1) (w:=nums t) (n:=24) (by have:=DN ht;omega);rw[Kg hN]at e3;have c2:=not_eq (of_eq (dB (f:=bX) (Y:= [a_ (.str t),a_ (.tup (aV (nums t)))]) (S:=S1) (a:=ae 1) (b:=mC (.int 24)) (var_eq rfl) c_i e3));have no:∀{S2:Sto},cOr (cOf (m2 oGt (mFn cJ (aa (ae 1) af)) (mC (.int 60)))) (dk (cOf (mFn bX (aa (ae 1) (aa (mC (.int 24)) af))))) [a_ (.str t),a_ (.tup (aV (nums t)))] S1=a_ (c_,S2)->Ex S1 S2->qT dZ eK (.str t) b_ S:=λ{S2} cc xx=>
    ⟨jd (show ft [a_ (.str t),b_] S=b_ from(aE (lE rfl)).trans ((aE c').trans ((aE f1).trans (lu ((iU cc).trans rfl))))),S2,i5 rfl (show iL [a_ (.str t),b_] S=a_ (5,S2) from(n9 x0 (lE rfl)).trans ((n9 rfl c').trans ((n9 (oE (var_eq rfl) e2) f1).trans (kc ((zT cc).trans (kc rfl)))))),x1.trans xx⟩
   by_cases hl:(nums t).length<=60
   .rw[decide_eq_false (by omega)]at c1
    rw[decide_eq_true hl,eM];have c3:=yi c1 c2;cases ha:i4 t with
    |false=>rw[ha]at c3;exact no c3 x3
    | true=>
      rw[ha]at c3;exact⟨S3,bw (Y:= [a_ (.str t),a_ (.tup (aV (nums t)))]) rfl (show ft [a_ (.str t),b_] S=_ from(aE (lE rfl)).trans ((aE c').trans ((aE f1).trans ((aE ((gw c3).trans rfl)).trans (bP (var_eq rfl)))))),x1.trans x3⟩
   .rw[decide_eq_true (by omega)]at c1
    rw[decide_eq_false hl,Bool.and_false];exact no (xu c1) (Ex.refl _)
theorem Ip(ht:Txf B t)(hB:B<=90000):∃o:Option U,(∀S,∃S',eD [.str t] S=a_ (o.getD .non,S')/\Ex S S')/\(∀S,qT dZ eK (.str t) o S) /\ ∀v,o=a_ v->(∃us,v=.tup us) /\ ∀S,_G.eqU S v v=a_ c_:=by
 by_cases h:t=NON
 .subst h
  have c :∀ S,cOf (m2 oEq (ae 0) (mC (.str "none"))) [a_ (.str NON),b_] S=a_ (c_,S):=fun S=>by
   have:=of_eq (E7 (Y := [a_ (.str NON),b_]) (S:=S) (a:=ae 0) (b:=mC (.str "none")) (x:=NON) (y:=NON) (var_eq rfl) rfl qH qH);rw[decide_eq_true rfl]at this;exact this
  refine⟨a_ (.tup (aV [])),λS=>⟨S,bw (Y:= [a_ (.str NON),b_]) rfl (show eG [a_ (.str NON),b_] S=_ from dq ((iU (c S)).trans (bP rfl))),Ex.refl _⟩,λS=>⟨S,bw (Y:= [a_ (.str NON),b_]) rfl (show ft [a_ (.str NON),b_] S=_ from(aE (lE rfl)).trans (dq ((iU (c S)).trans (bP rfl)))),Ex.refl _⟩,λv z=>?_⟩;cases z;exact⟨⟨_,rfl⟩,λS=>by rw[uX,decide_eq_true rfl]⟩
 .refine⟨_,λS=>?_,λS=>NF ht hB h,λv z=>?_⟩
  .obtain⟨S',e,x⟩:=OJ (S:=S) ht hB h
   refine⟨S',?_,x⟩;rw[e]
   split<;>rfl
  .split at z
   .cases z;exact⟨⟨_,rfl⟩,λS=>by rw[uX,decide_eq_true rfl]⟩
   .cases z
end
section
variable {S:Sto}{φ:MF}{ψ:RF}{g g':hE}{u:U}{o:Option U}
theorem Kp:rgL g φ [a_ (.obj g),a_ u] S=φ [u] S:=by
 have v:ae 1 [a_ (.obj g),a_ u] S=a_ (u,S):=rfl;unfold rgL Az;show(if g=g then mFn φ (aa (ae 1) af) [a_ (.obj g),a_ u] S else b_)=_;rw[if_pos rfl];exact cy v rfl
theorem E2{d:U}:rgL g φ [a_ (.obj g),a_ u,a_ d] S=φ [u] S:=by
 have v:ae 1 [a_ (.obj g),a_ u,a_ d] S=a_ (u,S):=rfl;unfold rgL Az;show(if g=g then mFn φ (aa (ae 1) af) [a_ (.obj g),a_ u,a_ d] S else b_)=_;rw[if_pos rfl];exact cy v rfl
theorem J2:rgX g ψ [a_ (.obj g),a_ u] S=ψ [u] S:=by
 have v:ae 1 [a_ (.obj g),a_ u] S=a_ (u,S):=rfl;unfold rgX wx;show(if g=g then xFn ψ (aa (ae 1) af) [a_ (.obj g),a_ u] S else b_)=_;rw[if_pos rfl];exact oE v rfl
theorem Dk{l:Rho}(h:g'≠g):rgL g φ (a_ (.obj g')::l) S=b_/\rgX g ψ (a_ (.obj g')::l) S=b_:=by
 refine⟨?_,?_⟩
 .unfold rgL Az
  show(if g'=g then _ else b_)=_;rw[if_neg h]
 .unfold rgX wx
  show(if g'=g then _ else b_)=_;rw[if_neg h]
theorem Jk{Y:Rho}:rg5 Y S=a_ (.ref S.length,S++[.lst (aV [5])]):=rfl
theorem zy(h:qT φ ψ u o S)(hd:∀v,o=a_ v->(∃us,v=.tup us) /\ ∀S,_G.eqU S v v=a_ c_):∃S',rgF [5] g φ ψ [.obj g,u,o.getD .non] S=a_ (.bl c_,S')/\Ex S S':=by
 cases o with
 | none=>
   obtain⟨h1,S1,h2,x2⟩:=h;have c:rg1 [a_ (.obj g),a_ u,a_ .non] S=a_ (c_,S):=yB (var_eq rfl);have e1:=CV (rz:= [5]) (is:= [0,1]) (ml:=rgL g φ) (rl:=rgX g ψ) (Y:= [a_ (.obj g),a_ u,a_ .non]) (S:=S) (cs:= [.obj g,u]) (q:=5) rfl (Kp.trans h1) (J2.trans h2) (by simp);have e2:=wq (x:= [5]) (y:= [5]) e1 (Jk (Y:= [a_ (.obj g),a_ u,a_ .non])) ((Ex.push _ _).some GM) (bA _ _);rw[decide_eq_true rfl]at e2;exact⟨_,bw (Y:= [a_ (.obj g),a_ u,a_ .non]) rfl (show rgM [5] g φ ψ [a_ (.obj g),a_ u,a_ .non] S=_ from dq ((iU c).trans (bP e2))),(x2.trans (Iv _ _ _)).trans (Ex.push _ _)⟩
 | some v=>
   obtain⟨S1,h1,x1⟩:=h;obtain⟨⟨us,rfl⟩,hq⟩:=hd v rfl;have c:rg1 [a_ (.obj g),a_ u,a_ (.tup us)] S=a_ (d_,S):=yX (var_eq rfl);have e2:m2 oEq (rgL g φ) (ae 2) [a_ (.obj g),a_ u,a_ (.tup us)] S=a_ (.bl c_,S1):=op2 (f:=oEq) (E2.trans h1) (var_eq rfl) (by simp only[oEq,hq,aT]);exact⟨S1,bw (Y:= [a_ (.obj g),a_ u,a_ (.tup us)]) rfl (show rgM [5] g φ ψ [a_ (.obj g),a_ u,a_ (.tup us)] S=_ from(aE ((gw c).trans rfl)).trans (bP e2)),x1⟩
theorem Ed(h:g'≠g)(hd:∀v,o=a_ v->∃us,v=.tup us):rgF [5] g φ ψ [.obj g',u,o.getD .non] S=b_:=by
 cases o with
 | none=>
   have c:rg1 [a_ (.obj g'),a_ u,a_ .non] S=a_ (c_,S):=yB (var_eq rfl);refine jd (show rgM [5] g φ ψ [a_ (.obj g'),a_ u,a_ .non] S=b_ from lu ((iU c).trans ?_));have hc:nh [0,1] [a_ (.obj g'),a_ u,a_ .non]=a_ [.obj g',u]:=rfl;have e1:uR 0 (rgL g φ) [.obj g',u] [] S=b_:=(Dk (φ:=φ) (ψ:=ψ) (l:= [a_ u]) h).1;have e2:uO 0 (rgX g ψ) [.obj g',u] [] S=b_:=(Dk (φ:=φ) (ψ:=ψ) (l:= [a_ u]) h).2;show bnd (bnd (kD (nk [5]) [0,1] (rgL g φ) (rgX g ψ) [a_ (.obj g'),a_ u,a_ .non] S) _) _=b_;have e3:kD (nk [5]) [0,1] (rgL g φ) (rgX g ψ) [a_ (.obj g'),a_ u,a_ .non] S=b_:=by
    simp only[kD,hc,ay,nk,e1,e2]
   rw[e3];rfl
 | some v=>
   obtain⟨us,rfl⟩:=hd v rfl;have c:rg1 [a_ (.obj g'),a_ u,a_ (.tup us)] S=a_ (d_,S):=yX (var_eq rfl);refine jd (show rgM [5] g φ ψ [a_ (.obj g'),a_ u,a_ (.tup us)] S=b_ from(aE ((gw c).trans rfl)).trans ?_);simp only[bO,m2,(Dk (φ:=φ) (ψ:=ψ) (l:= [a_ u,a_ (.tup us)]) h).1,bnd]
end
section
variable {S:Sto}{a b:hE}{u:U}{o:Option U}
theorem BG(h:qT dz dX u o S)(hd:∀v,o=a_ v->(∃us,v=.tup us) /\ ∀S,_G.eqU S v v=a_ c_):∃S',cg a b [.obj a,u,o.getD .non] S=a_ (.bl c_,S')/\Ex S S':=by
 obtain⟨S1,e1,x1⟩:=zy (g:=a) h hd;exact⟨S1,by unfold cg nq;rw[e1];rfl,x1⟩
theorem Dt(Ym:a≠b)(h:qT dZ eK u o S)(hd:∀v,o=a_ v->(∃us,v=.tup us) /\ ∀S,_G.eqU S v v=a_ c_):∃S',cg a b [.obj b,u,o.getD .non] S=a_ (.bl c_,S')/\Ex S S':=by
 obtain⟨S1,e1,x1⟩:=zy (g:=b) h hd;exact⟨S1,by unfold cg nq;rw[Ed (cY Ym) λv hv=>(hd v hv).1,e1];rfl,x1⟩
theorem Hc(h:fg "str" u S=a_ (.bl d_,S)):qT dz dX u b_ S/\qT dZ eK u b_ S:=by
 have c0:m1 (fg "str") (ae 0) [a_ u] S=a_ (.bl d_,S):=by
  show bnd (a_ (u,S)) _=_;exact h
 have c:dk (cOf (m1 (fg "str") (ae 0))) [a_ u] S=a_ (c_,S):=not_eq (of_eq c0);have e1:bM [u] S=b_:=jd (show ij [a_ u] S=b_ from(iU c).trans rfl);have e2:dD [u] S=a_ (5,S):=i5 rfl (show ie [a_ u] S=a_ (5,S) from kc ((zT c).trans (kc rfl)));have e3:dm (mFn bM (aa (ae 0) af)) [a_ u,b_] S=b_:=by
  have:=cy (f:=bM) (Y:= [a_ u,b_]) (S:=S) (a:=ae 0) (var_eq rfl) e1;simp only[dm,this,bnd]
 exact⟨⟨jd (show fL [a_ u,b_] S=b_ from lu e3),S,i5 rfl (show gW [a_ u,b_] S=a_ (5,S) from kc (oE (var_eq rfl) e2)),Ex.refl _⟩,
  ⟨jd (show ft [a_ u,b_] S=b_ from lu e3),S,i5 rfl (show iL [a_ u,b_] S=a_ (5,S) from kc (oE (var_eq rfl) e2)),Ex.refl _⟩⟩
end
end
section
open _L _G
theorem FI(i j:aq):(i++j).cps.toList=i.cps.toList++j.cps.toList:=gJ
variable{z:aq}
theorem Ba{l h:Option Int}{c:Nat}(hc:c∈(bB z l h).cps.toList):c∈z.cps.toList:=by
 unfold bB at hc
 split at hc
 .exact hc
 .have hc:c∈(PySem.Builtin.Str.strSliceIndices l h 1 z.length).filterMap (z.cps[·]?):=by simpa using hc
  obtain⟨k,_,e⟩:=qI.mp hc;exact Eu.mpr (Array.mem_of_getElem? e)
variable{B:Nat}
theorem Txf.app{A:Nat}{i j:aq}(hi:Txf A i)(hj:Txf B j):Txf (A+B) (i++j):=⟨λc hc=>by
 rw[FI]at hc;exact(fE.mp hc).elim (hi.a c) (hj.a c),by
 have:=hi.l;have:=hj.l
 rw[EN];omega⟩
theorem Txf.sl(h:Txf B z)(l r:Option Int):Txf B (bB z l r):=⟨λc hc=>h.a c (Ba hc),aA (PySem.Txt.slice_le z l r) h.l⟩
theorem Txf.mono{A:Nat}(h:Txf A z)(hl:A<=B):Txf B z:=⟨h.a,aA h.l hl⟩
def SGN:aq:=cH "0123456789/ -na"
theorem KA:∀r:Fin 15,∃c,SGN.cps.toList[(r:Nat)]?=a_ c/\c<128:=by decide +kernel
theorem Gr:SGN.length=15:=by decide +kernel
structure Wds(B:Nat)(ws:List aq):Prop where
 a:∀w∈ws,Asc w
 l:(ws.map (·.length)).sum+ws.length<=B
theorem FA{t:aq}(ht:Txf B t):Wds (B+1) (wsO t)/\0<(wsO t).length:=by
 have hp:0<(wsO t).length:=PyProof.Rows.split_pos t BLK;refine⟨⟨λw hw=>(vc (.inl rfl) ht w hw).a,?_⟩,hp⟩;have:=uQ (t:=t) (y:=BLK) (.inl rfl);have:=ht.l;unfold wsO at hp ⊢;omega
theorem sum_set:∀(ws:List aq) (k:Nat) (x:aq),((ws.set k x).map (·.length)).sum<=(ws.map (·.length)).sum+x.length
 |[],k,x=>by simp
 |w::ws,0,x=>by simp only[List.set_cons_zero,bY,jt];omega
 | w::ws,k+1,x=>by
   have:=sum_set ws k x;simp only[List.set_cons_succ,bY,jt];omega
theorem tY:∀(ws:List aq) (k:Nat),((ws.eraseIdx k).map (·.length)).sum<=(ws.map (·.length)).sum
 |[],k=>by simp
 |w::ws,0=>by simp only[List.eraseIdx_cons_zero,bY,jt];omega
 | w::ws,k+1=>by
   have:=tY ws k;simp only[List.eraseIdx_cons_succ,bY,jt];omega
section
variable {A B:Nat}{ws:List aq}{x:aq}{k:Nat}
theorem Wds.set(h:Wds B ws)(hx:Txf A x):Wds (B+A) (ws.set k x):=⟨λw hw=>(List.mem_or_eq_of_mem_set hw).elim (h.a w) (λz=>z▸hx.a),by
 have:=sum_set ws k x;have:=h.l;have:=hx.l
 rw[dI];omega⟩
theorem Wds.erase(h:Wds B ws):Wds B (ws.eraseIdx k):=⟨λw hw=>h.a w (List.mem_of_mem_eraseIdx hw),by
 have:=tY ws k;have:=h.l;have:(ws.eraseIdx k).length<=ws.length:=List.length_eraseIdx_le ws k
 omega⟩
theorem Wds.ins(h:Wds B ws)(hx:Txf A x):Wds (B+A+1) (ws.take k++x::ws.drop k):=⟨λw hw=>by
 rcases fE.mp hw with z|z
 .exact h.a w (List.mem_of_mem_take z)
 .rcases bf.mp z with z|z
  .rw[z];exact hx.a
  .exact h.a w (List.mem_of_mem_drop z),by
 have e:((ws.take k).map (·.length)).sum+((ws.drop k).map (·.length)).sum=(ws.map (·.length)).sum:=by rw[<-List.sum_append,<-cN,nH]
 have e2:(ws.take k).length+(ws.drop k).length=ws.length:=by rw[<-dv,nH]
 have:=h.l;have:=hx.l;rw[cN,List.sum_append,bY,jt,dv,c8]
 omega⟩
theorem Wds.join(h:Wds B ws):Txf B (de BLK ws):=⟨λc hc=>by
 rw[nz]at hc;rcases rh hc with z|⟨p,hp,z⟩
 .omega
 .exact h.a p hp c z,by
 have e:(de BLK ws).length=(ws.map (·.length)).sum+(ws.length-1)*BLK.length:=lX _ _;have hb:BLK.length=1:=by rw[nz];rfl
 have:=h.l
 rw[e,hb];omega⟩
theorem Wds.ok(h:Wds B ws)(hB:B<=1000000):kl BLK ws:=by
 have hb:BLK.length=1:=by rw[nz];rfl
 have:=h.l;unfold kl;rw[hb];omega
theorem Wds.at(h:Wds B ws)(hk:ws[k]? = a_ x):Txf B x:=⟨h.a x (bo hk),by
 have:=uE (bo hk);have:=h.l
 omega⟩
end
section
variable {Y:Rho}{S S1 S2:Sto}{a b:ME}
variable{n:Nat}
theorem yE{m:Nat}(h:iQ n S)(hm:0<m)(Zb:m<1000000):∃r S',aH [.ref n,.int (m:Nat)] S=a_ (.int (r:Nat),S')/\r<m/\Stp n S S':=by
 obtain⟨r,S',e,h1,h2,h3,_⟩:=va (many:=(m:Int)) h (by omega) (by omega);obtain⟨r,rfl⟩:=mQ h1;exact⟨r,S',e,by omega,h3⟩
theorem Ha{x y:Nat}(ha:a Y S=a_ (.int (x:Nat),S1))(hb:b Y S1=a_ (.int (y:Nat),S2)):m2 (eN ff cK) a b Y S=a_ (.int ((x+y:Nat):Nat),S2):=op2 ha hb (by
 show a_ (U.int ((x:Int)+(y:Int)),S2)=_
 rw[nJ])
theorem wX{x y:aq}(ha:a Y S=a_ (.str x,S1))(hb:b Y S1=a_ (.str y,S2))(hl:x.length+y.length<1000000):m2 (eN ff cK) a b Y S=a_ (.str (x++y),S2):=op2 ha hb (by
 show(ff (.str x) (.str y) S2).or _=_;have:ff (.str x) (.str y) S2=a_ (.str (x++y),S2):=if_pos (show jE (x++y) from by unfold jE big;rw[EN];omega)
 rw[this];rfl)
theorem Cs{k:Nat}{ws:List aq}{w:aq}(ha:a Y S=a_ (.ref n,S1))(hb:b Y S1=a_ (.int (k:Nat),S2))(hn:S2[n]? = a_ (.lst (ws.map U.str)))(hk:ws[k]? = a_ w):m2 (eN i3 oIx) a b Y S=a_ (.str w,S2):=op2 ha hb (by
 show(i3 (.ref n) (.int (k:Nat)) S2).or (oIx (.ref n) (.int (k:Nat)) S2)=_;have e:oIx (.ref n) (.int (k:Nat)) S2=a_ (.str w,S2):=by
  have:atI (ws.map U.str) ((k:Nat):Int)=a_ (.str w):=oN (by rw[ba,hk];rfl);simp only[oIx,BS hn,dJ,getL,hn,ay,this,aT]
 rw[e];rfl)
theorem Hm{us:List U}(ha:a Y S=a_ (.ref n,S1))(hn:S1[n]? = a_ (.lst us)):mFn (nq jI cJ) (aa a af) Y S=a_ (.int (us.length:Nat),S1):=cy ha (by
 show(jI [.ref n] S1).or (cJ [.ref n] S1)=_;have e:cJ [.ref n] S1=a_ (.int (us.length:Nat),S1):=by simp only[cJ,BS hn,dJ,getL,hn,aT]
 rw[e];rfl)
theorem LK{z:aq}{k:Nat}(ha:a Y S=a_ (.str z,S))(hb:b Y S=a_ (.int (k:Nat),S))(hl:z.length<1000000):lC a b_ (a_ b) Y S=a_ (.str (bB z b_ (a_ k)),S)/\lC a (a_ b) b_ Y S=a_ (.str (bB z (a_ k) b_),S):=by
 have ok:jE z:=by unfold jE big;omega
 refine⟨?_,?_⟩<;>simp only[lC,ha,ak,tI,hb,if_pos ok]
end
end
section
open _L _G
section
variable {S:Sto}{t sg:aq}{B n:Nat}
theorem zG{k m:Nat}(h:k<m):_L.ixN m ((k:Nat):Int)=a_ k:=by
 unfold _L.ixN;simp;omega
def bcL:ME:=b0 (aa (m2 (eN ff cK) (lC (ae 1) b_ (a_ (ae 3))) (lC (ae 1) (a_ (m2 (eN ff cK) (ae 3) (mC (.int 1)))) b_)) (aa (m2 (eN ff cK) (m2 (eN ff cK) (lC (ae 1) b_ (a_ (ae 3))) (ae 4)) (lC (ae 1) (a_ (ae 3)) b_)) (aa (m2 (eN ff cK) (m2 (eN ff cK) (lC (ae 1) b_ (a_ (ae 3))) (ae 4)) (lC (ae 1) (a_ (m2 (eN ff cK) (ae 3) (mC (.int 1)))) b_)) (aa (ae 1) af))))
theorem CF{w p:Nat}{a0 a5 a6 a7:Option U}(hw:w<4)(ht:Txf B t)(hs:Txf 1 sg)(hB:B<=90000):∃t' S',m2 (eN i3 oIx) bcL (ae 2) [a0,a_ (.str t),a_ (.int (w:Nat)),a_ (.int (p:Nat)),a_ (.str sg),a5,a6,a7] S=a_ (.str t',S')/\Txf (3*B+10) t'/\Ex S S':=by
 generalize Y8: [a0,a_ (U.str t),a_ (.int (w:Nat)),a_ (.int (p:Nat)),a_ (.str sg),a5,a6,a7]=Y;have v1:ae 1 Y S=a_ (.str t,S):=by rw[<-Y8];rfl
 have v2:∀S,ae 2 Y S=a_ (.int (w:Nat),S):=λS=>by rw[<-Y8];rfl
 have v3:ae 3 Y S=a_ (.int (p:Nat),S):=by rw[<-Y8];rfl
 have v4:ae 4 Y S=a_ (.str sg,S):=by rw[<-Y8];rfl
 have hl:=ht.l;have WL:=hs.l;have v5:m2 (eN ff cK) (ae 3) (mC (.int 1)) Y S=a_ (.int ((p+1:Nat):Nat),S):=Ha v3 c_i;obtain⟨s1,s2⟩:=LK (Y:=Y) (S:=S) (a:=ae 1) (b:=ae 3) v1 v3 (by omega);obtain⟨_,s3⟩:=LK (Y:=Y) (S:=S) (a:=ae 1) (b:=m2 (eN ff cK) (ae 3) (mC (.int 1))) v1 v5 (by omega);have x1:=ht.sl b_ (a_ (p:Nat));have x2:=ht.sl (a_ (p:Nat)) b_;have x3:=ht.sl (a_ ((p+1:Nat):Nat)) b_;have y1:=x1.app x3;have y2:=(x1.app hs).app x2;have y3:=(x1.app hs).app x3;have l1:=x1.l;have l2:=x2.l;have l3:=x3.l;have l4:=(x1.app hs).l;have e1:=wX s1 s3 (by omega);have e2:=wX (wX s1 v4 (by omega)) s2 (by omega);have e3:=wX (wX s1 v4 (by omega)) s3 (by omega);have el:bcL Y S=a_ (.ref S.length,S++[.lst ([bB t b_ (a_ (p:Nat))++bB t (a_ ((p+1:Nat):Nat)) b_,bB t b_ (a_ (p:Nat))++sg++bB t (a_ (p:Nat)) b_,bB t b_ (a_ (p:Nat))++sg++bB t (a_ ((p+1:Nat):Nat)) b_,t].map U.str)]):=by
  have hz:4<=big:=by decide
  simp only[bcL,b0,aa,af,e1,e2,e3,v1,ak,c8,fH,dS,lY,if_pos hz,bY,List.map_nil]
 generalize hL: [bB t b_ (a_ (p:Nat))++bB t (a_ ((p+1:Nat):Nat)) b_,bB t b_ (a_ (p:Nat))++sg++bB t (a_ (p:Nat)) b_,bB t b_ (a_ (p:Nat))++sg++bB t (a_ ((p+1:Nat):Nat)) b_,t]=L at el;have hLl:L.length=4:=by rw[<-hL];rfl
 have RD:∀x∈L,Txf (3*B+10) x:=by
  rw[<-hL];intro x hx;simp only[bf,jc,_root_.or_false]at hx;rcases hx with rfl|rfl|rfl|rfl
  .exact y1.mono (by omega)
  .exact y2.mono (by omega)
  .exact y3.mono (by omega)
  .exact ht.mono (by omega)
 exact⟨L[w],_,Cs el (v2 _) (bA _ _) (aG (by omega)),RD _ (cQ _),Ex.push _ _⟩
def CNS:List aq := ["0","1","23","24","00","01","","none","0/1","1/1"]
theorem Kv:∀r:Fin 10,∃c,CNS[(r:Nat)]?=a_ c/\c.length<=4/\c.cps.toList.all (· < 128)=c_:=by decide +kernel
def bmS:MS:=sIf (cOf (m2 oEq (ae 2) (mC (.int 4)))) (dm (mML jS (ae 5) (aa (ae 6) af))) (sIf (cOf (m2 oEq (ae 2) (mC (.int 5)))) (dm (mML kn (ae 5) (aa (ae 7) (aa (m2 (eN i3 oIx) (ae 5) (ae 6)) af)))) (sIf (cOf (m2 oEq (ae 2) (mC (.int 6)))) (Dy (gZ (aa (m2 (eN i3 oIx) (ae 5) (ae 7)) (aa (m2 (eN i3 oIx) (ae 5) (ae 6)) af))) (gTp 2 (kA (gSb (ae 5) (ae 6)) (kA (gSb (ae 5) (ae 7)) xH)))) (jR (ae 5) (ae 6) (m2 (eN i3 oIx) (b0 (aa (mC (.str "0")) (aa (mC (.str "1")) (aa (mC (.str "23")) (aa (mC (.str "24")) (aa (mC (.str "00")) (aa (mC (.str "01")) (aa (mC (.str "")) (aa (mC (.str "none")) (aa (mC (.str "0/1")) (aa (mC (.str "1/1")) af))))))))))) (mFn aH (aa (ae 0) (aa (mC (.int 10)) af)))))))
theorem Cj{w k j r:Nat}{a1 a3 a4:Option U}{ws:List aq}(st:iQ n S)(hr:S[r]?=a_ (.lst (ws.map U.str)))(Yv:r≠n)(hW:Wds (B+1) ws)(hk:k<ws.length)(hj:j<ws.length)(hB:B<=90000):
  ∃YY S',bmS [a_ (.ref n),a1,a_ (.int (w:Nat)),a3,a4,a_ (.ref r),a_ (.int (k:Nat)),a_ (.int (j:Nat))] S=a_ (.nx,[a_ (.ref n),a1,a_ (.int (w:Nat)),a3,a4,a_ (.ref r),a_ (.int (k:Nat)),a_ (.int (j:Nat))],S')/\S'[r]?=a_ (.lst (YY.map U.str))/\Wds (3*B+10) YY/\iQ n S'/\S.length<=S'.length /\ ∀m,m<S.length->m≠n->m≠r->S'[m]?=S[m]? := by
 generalize Y8: [a_ (U.ref n),a1,a_ (.int (w:Nat)),a3,a4,a_ (.ref r),a_ (.int (k:Nat)),a_ (.int (j:Nat))]=Y;have v0:∀S,ae 0 Y S=a_ (.ref n,S):=λS=>by rw[<-Y8];rfl
 have v2:∀S,ae 2 Y S=a_ (.int (w:Nat),S):=λS=>by rw[<-Y8];rfl
 have v5:∀S,ae 5 Y S=a_ (.ref r,S):=λS=>by rw[<-Y8];rfl
 have v6:∀S,ae 6 Y S=a_ (.int (k:Nat),S):=λS=>by rw[<-Y8];rfl
 have v7:∀S,ae 7 Y S=a_ (.int (j:Nat),S):=λS=>by rw[<-Y8];rfl
 have Tr:r<S.length:=(ag.mp hr).1;have hg:getL S r=a_ (ws.map U.str):=by unfold getL;rw[hr]
 have hlen:ws.length<=B+1:=by have:=hW.l;omega
 obtain⟨wk,Wn⟩ :∃x,ws[k]?=a_ x:=⟨_,aG hk⟩;obtain⟨wj,TR⟩ :∃x,ws[j]?=a_ x:=⟨_,aG hj⟩;have tk:=hW.at Wn;have tj:=hW.at TR;have fin:∀(YY:List aq) (S1:Sto),iQ n S1->S.length<=S1.length->(∀m,m<S.length->m≠n->S1[m]?=S[m]?)->Wds (3*B+10) YY->(S1.set r (.lst (YY.map U.str)))[r]?=a_ (.lst (YY.map U.str))/\Wds (3*B+10) YY/\iQ n (S1.set r (.lst (YY.map U.str)))/\S.length<=(S1.set r (.lst (YY.map U.str))).length /\ ∀m,m<S.length->m≠n->m≠r->(S1.set r (.lst (YY.map U.str)))[m]?=S[m]? := λYY S1 h1 h2 h3 h4=>by
  refine⟨aN (by omega),h4,?_,by rw[dI];exact h2,λm g1 g2 g3=>by rw[aD (cY g3)];exact h3 m g1 g2⟩;obtain⟨s,b,e⟩:=h1;exact⟨s,b,by rw[aD Yv];exact e⟩
 have same:∀m,m<S.length->m≠n->S[m]?=S[m]? := λ_ _ _=>rfl;have c4:=of_eq (oX (Y:=Y) (S:=S) (a:=ae 2) (b:=mC (.int 4)) (x:=w) (y:=4) (v2 S) c_i);have c5:=of_eq (oX (Y:=Y) (S:=S) (a:=ae 2) (b:=mC (.int 5)) (x:=w) (y:=5) (v2 S) c_i);have c6:=of_eq (oX (Y:=Y) (S:=S) (a:=ae 2) (b:=mC (.int 6)) (x:=w) (y:=6) (v2 S) c_i);by_cases w4:w=4
 .rw[decide_eq_true w4]at c4
  refine⟨ws.eraseIdx k,S.set r (.lst ((ws.eraseIdx k).map U.str)),(iU c4).trans ?_,fin _ S st (ao _) same (⟨(hW.erase (k:=k)).a,aA (hW.erase (k:=k)).l (by omega)⟩)⟩;have ok:okR ((k:Nat):Int):=qG (by unfold big;omega);have hz:(ws.map U.str)[k]?=a_ (.str wk):=by rw[ba,Wn];rfl
  simp only[dm,mML,v5,ak,hg,ay,lB (v6 S),jS,hr,if_pos ok,aj,zG hk,hz,aT,pD]
 rw[decide_eq_false w4]at c4;by_cases w5:w=5
 .rw[decide_eq_true w5]at c5
  refine⟨ws.take j++wk::ws.drop j,S.set r (.lst ((ws.take j++wk::ws.drop j).map U.str)),(gw c4).trans ((iU c5).trans ?_),fin _ S st (ao _) same (⟨(hW.ins (k:=j) tk).a,aA (hW.ins (k:=j) tk).l (by omega)⟩)⟩;have ei:=Cs (Y:=Y) (S:=S) (a:=ae 5) (b:=ae 6) (v5 S) (v6 S) hr Wn;have ea:aa (ae 7) (aa (m2 (eN i3 oIx) (ae 5) (ae 6)) af) Y S=a_ ([.int (j:Nat),.str wk],S):=by
   simp only[aa,v7,ei,ak,af]
  have ok:0<=((j:Nat):Int)/\((j:Nat):Int)<=((ws.map U.str).length:Nat)/\(ws.map U.str).length<1000000:=by rw[aj];omega
  simp only[dm,mML,v5,ak,hg,ay,ea,kn,hr,if_pos ok,Int.toNat_natCast];simp[List.map_take,List.map_drop]
 rw[decide_eq_false w5]at c5;by_cases w6:w=6
 .rw[decide_eq_true w6]at c6
  have e7:=Cs (Y:=Y) (S:=S) (a:=ae 5) (b:=ae 7) (v5 S) (v7 S) hr TR;have e6:=Cs (Y:=Y) (S:=S) (a:=ae 5) (b:=ae 6) (v5 S) (v6 S) hr Wn;have et:gZ (aa (m2 (eN i3 oIx) (ae 5) (ae 7)) (aa (m2 (eN i3 oIx) (ae 5) (ae 6)) af)) Y S=a_ (.tup [.str wj,.str wk],S):=by
   have hz:2<=big:=by decide
   simp only[gZ,aa,af,e7,e6,ak,c8,fH,dS,lY,if_pos hz]
  refine⟨(ws.set k wj).set j wk,S.set r (.lst (((ws.set k wj).set j wk).map U.str)),(gw c4).trans ((gw c5).trans ((iU c6).trans ?_)),fin _ S st (ao _) same (⟨((hW.set (k:=k) tj).set (k:=j) tk).a,aA ((hW.set (k:=k) tj).set (k:=j) tk).l (by omega)⟩)⟩;have g1:gSb (ae 5) (ae 6) (.str wj) Y S=a_ (Y,S.set r (.lst ((ws.set k wj).map U.str))):=by
   simp only[gSb,v5,v6,ak,hr,aj,zG hk,aT,BE]
  have ZY:(S.set r (Cell.lst ((ws.set k wj).map U.str)))[r]?=a_ (.lst ((ws.set k wj).map U.str)):=aN Tr;have g2:gSb (ae 5) (ae 7) (.str wk) Y (S.set r (.lst ((ws.set k wj).map U.str)))=a_ (Y,S.set r (.lst (((ws.set k wj).set j wk).map U.str))):=by
   have VE:j<(ws.set k wj).length:=by rw[dI];exact hj
   simp only[gSb,v5,v7,ak,ZY,aj,zG VE,aT,List.set_set,<-BE]
  simp only[Dy,et,ak,gTp,c8,fH,dS,lY,if_true,kA,g1,g2,ay,xH,aT]
 .rw[decide_eq_false w6]at c6
  have el:b0 (aa (mC (.str "0")) (aa (mC (.str "1")) (aa (mC (.str "23")) (aa (mC (.str "24")) (aa (mC (.str "00")) (aa (mC (.str "01")) (aa (mC (.str "")) (aa (mC (.str "none")) (aa (mC (.str "0/1")) (aa (mC (.str "1/1")) af)))))))))) Y S=a_ (.ref S.length,S ++ [.lst (CNS.map U.str)]):=by
   have hz:10<=big:=by decide
   simp only[b0,aa,af,mC,ak,c8,fH,dS,lY,if_pos hz];rfl
  have YG:Stp n S (S++[.lst (CNS.map U.str)]):=Stp.ex st (Ex.push _ _);obtain⟨q,S1,e1,hq,Zf⟩:=ip (m:=10) YG.st (by decide) (by decide);obtain⟨cc,Wy,Tc,YO⟩:=Kv ⟨q,hq⟩;have YR:S.length≠n:=by have:=st.lt;omega
  have ec:=Cs el (dB (f:=aH) (a:=ae 0) (b:=mC (.int 10)) (v0 _) c_i e1) (Zf.some YR (bA _ _)) Wy;have ZF:=YG.trans Zf;have tc:Txf 4 cc:=⟨λc hc=>of_decide_eq_true (aC.mp YO c hc),Tc⟩;have ZY:S1[r]?=a_ (.lst (ws.map U.str)):=ZF.some Yv hr;refine⟨ws.set k cc,S1.set r (.lst ((ws.set k cc).map U.str)),(gw c4).trans ((gw c5).trans ((gw c6).trans ?_)),fin _ S1 ZF.st ZF.len (λm g1 g2=>ZF.same m g1 g2) (⟨(hW.set (k:=k) tc).a,aA (hW.set (k:=k) tc).l (by omega)⟩)⟩;simp only[jR,ec,ak,v5,v6,ZY,aj,zG hk,aT,BE]
end
end
section
open _L _G
section
variable {S:Sto}{t:aq}{B n:Nat}
theorem Ie(st:iQ n S)(ht:Txf B t)(hB:B<=90000):∃t' S',ib [.ref n,.str t] S=a_ (.str t',S')/\Txf (3*B+10) t'/\Stp n S S':=by
 have hl:=ht.l;obtain⟨w,S1,e1,hw,YG⟩:=ip (m:=9) st (by decide) (by decide);obtain⟨p,S2,e2,hp,Zf⟩:=yE (m:=t.length+1) YG.st (by omega) (by omega);obtain⟨q,S3,e3,hq,ZF⟩:=ip (m:=15) Zf.st (by decide) (by decide);obtain⟨c,hc,YO⟩:=KA ⟨q,hq⟩;have f1:=bS (i:=2) (dB (f:=aH) (Y:= [a_ (.ref n),a_ (.str t),b_,b_,b_,b_,b_,b_]) (a:=ae 0) (b:=mC (.int 9)) (var_eq rfl) c_i e1);have f2:=bS (i:=3) (dB (f:=aH) (Y:= [a_ (.ref n),a_ (.str t),a_ (.int (w:Nat)),b_,b_,b_,b_,b_]) (a:=ae 0) (var_eq rfl) (Ha (Ho (a:=ae 1) (var_eq rfl) (by omega)) (b:=mC (.int 1)) (y:=1) c_i) e2);have f3:=bS (i:=4) (LA (w:=SGN) (Y := [a_ (.ref n),a_ (.str t),a_ (.int (w:Nat)),a_ (.int (p:Nat)),b_,b_,b_,b_]) (a:=mC (.str "0123456789/ -na")) rfl (dB (f:=aH) (a:=ae 0) (b:=mC (.int 15)) (var_eq rfl) c_i e3) (by rw [Gr];decide) hc);have hs:Txf 1 (⟨#[c]⟩:aq):=⟨λx hx=>by simp at hx;rw[hx];exact YO,ao 1⟩;have c1:=of_eq (MU (Y:= [a_ (.ref n),a_ (.str t),a_ (.int (w:Nat)),a_ (.int (p:Nat)),a_ (.str ⟨#[c]⟩),b_,b_,b_]) (S:=S3) (a:=ae 2) (b:=mC (.int 4)) (x:=w) (y:=4) (var_eq rfl) c_i);have Ys:=(YG.trans Zf).trans ZF;by_cases w4:w<4
 .rw[decide_eq_true (by omega)]at c1
  obtain⟨t',S4,e4,h4,x4⟩:=CF (S:=S3) (p:=p) (a0:=a_ (.ref n)) (a5:=b_) (a6:=b_) (a7:=b_) w4 ht hs hB;exact⟨t',S4,bw (Y:= [a_ (.ref n),a_ (.str t),a_ (.int (w:Nat)),a_ (.int (p:Nat)),a_ (.str ⟨#[c]⟩),b_,b_,b_]) rfl (show kC [a_ (.ref n),a_ (.str t),b_,b_,b_,b_,b_,b_] S=_ from(aE f1).trans ((aE f2).trans ((aE f3).trans (dq ((iU c1).trans (bP e4)))))),h4,Ys.step x4⟩
 rw[decide_eq_false (by omega)]at c1;obtain⟨hW,h0⟩:=FA ht;have hWl:=hW.l;have e5:=qP (Y := [a_ (.ref n),a_ (.str t),a_ (.int (w:Nat)),a_ (.int (p:Nat)),a_ (.str ⟨#[c]⟩),b_,b_,b_]) (S:=S3) (o:=ae 1) (a:=mC (.str " ")) (z:=t) (y:=BLK) (var_eq rfl) rfl ⟨by decide +kernel,by unfold big;omega⟩;have g5:(S3++[Cell.lst ((wsO t).map U.str)])[S3.length]?=a_ (.lst ((wsO t).map U.str)):=bA _ _;have Zx:Stp n S (S3++[Cell.lst ((wsO t).map U.str)]):=Ys.step (Ex.push _ _);have YR:S3.length≠n:=by have:=Ys.st.lt;omega
 obtain⟨k,S6,e6,hk,Yy⟩:=yE (m:=((wsO t).map U.str).length) Zx.st (by rw[aj];omega) (by rw[aj];omega);have g6:=Yy.some YR g5;obtain⟨j,S7,e7,hj,Vk⟩:=yE (m:=((wsO t).map U.str).length) Yy.st (by rw[aj];omega) (by rw[aj];omega);have g7:=Vk.some YR g6;rw[aj]at hk hj;have f5:=bS (i:=5) e5;have f6:=bS (i:=6) (dB (f:=aH) (Y:= [a_ (.ref n),a_ (.str t),a_ (.int (w:Nat)),a_ (.int (p:Nat)),a_ (.str ⟨#[c]⟩),a_ (.ref S3.length),b_,b_]) (a:=ae 0) (var_eq rfl) (Hm (a:=ae 5) (var_eq rfl) g5) e6);have f7:=bS (i:=7) (dB (f:=aH) (Y:= [a_ (.ref n),a_ (.str t),a_ (.int (w:Nat)),a_ (.int (p:Nat)),a_ (.str ⟨#[c]⟩),a_ (.ref S3.length),a_ (.int (k:Nat)),b_]) (a:=ae 0) (var_eq rfl) (Hm (a:=ae 5) (var_eq rfl) g6) e7);obtain⟨YY,S8,e8,g8,W8,W9,l8,RP⟩:=Cj (w:=w) (a1:=a_ (.str t)) (a3:=a_ (.int (p:Nat))) (a4:=a_ (.str ⟨#[c]⟩)) Vk.st g7 YR hW hk hj hB;have e9:=join_eq (Y := [a_ (.ref n),a_ (.str t),a_ (.int (w:Nat)),a_ (.int (p:Nat)),a_ (.str ⟨#[c]⟩),a_ (.ref S3.length),a_ (.int (k:Nat)),a_ (.int (j:Nat))]) (S:=S8) (o:=mC (.str " ")) (a:=ae 5) (z:=BLK) rfl (var_eq rfl) g8 (W8.ok (by omega));have XT:=(Zx.trans Yy).trans Vk;refine⟨de BLK YY,S8,bw (Y:= [a_ (.ref n),a_ (.str t),a_ (.int (w:Nat)),a_ (.int (p:Nat)),a_ (.str ⟨#[c]⟩),a_ (.ref S3.length),a_ (.int (k:Nat)),a_ (.int (j:Nat))]) rfl (show kC [a_ (.ref n),a_ (.str t),b_,b_,b_,b_,b_,b_] S=_ from(aE f1).trans ((aE f2).trans ((aE f3).trans ((aE ((gw c1).trans rfl)).trans ((aE f5).trans ((aE f6).trans ((aE f7).trans ((aE e8).trans (bP e9))))))))),W8.join,⟨aA XT.len l8,λm h1 h2=>?_,W9⟩⟩;have:=XT.len;have:=Ys.len;rw[RP m (by omega) h2 (by omega)];exact XT.same m h1 h2
end
end
section
open _L _G
theorem vP{e:ME}{Y:Rho}{r:Nat}{us:List U}(P:Sto->Prop)(Q:U->Prop)(hP:∀S,P S->getL S r=a_ us)(he:∀u∈us,∀S,P S->∃v S',e (Y++[a_ u]) S=a_ (v,S')/\Q v/\P S'):
  ∀(k i:Nat) (acc:List U) (S:Sto),i<=us.length->us.length-i<k->P S->∃ys S',iY cTT e Y r k i acc S=a_ (acc++ys,S')/\ys.length=us.length-i/\(∀v∈ys,Q v)/\P S'
 |0,i,acc,S,h1,h2,_=>by omega
 | k+1,i,acc,S,h1,h2,h=>by
   unfold iY;rw[hP S h];simp only[ay];by_cases hi:i<us.length
   .obtain⟨v,S1,e1,q1,p1⟩:=he us[i] (cQ _) S h
    obtain⟨ys,S2,e2,l2,q2,p2⟩:=vP P Q hP he k (i+1) (acc++[v]) S1 hi (by omega) p1;refine⟨v::ys,S2,?_,by simp;omega,λw hw=>(bf.mp hw).elim (λz=>z▸q1) (q2 w),p2⟩;rw[aG hi];simp only[cTT,ak,if_true];rw[e1];simp only[ak];rw[e2,fX];rfl
   .rw[nK (by omega)]
    exact⟨[],S,by simp,by simp;omega,by simp,h⟩
section
variable {S:Sto}{n:Nat}{Y:Rho}
theorem KN{x y z w:Nat}:b0 (aa (mC (.int (x:Nat))) (aa (mC (.int (y:Nat))) (aa (mC (.int (z:Nat))) (aa (mC (.int (w:Nat))) af)))) Y S=a_ (.ref S.length,S++[Cell.lst (aV [x,y,z,w])]):=by
 have hz:4<=big:=by decide
 simp[b0,aa,af,mC,ak,hz,aV]
theorem t9{x y z w:Nat}(h:iQ n S)(h2:Y[2]?=a_ (a_ (.ref n))):∃v S',m2 oIx (b0 (aa (mC (.int (x:Nat))) (aa (mC (.int (y:Nat))) (aa (mC (.int (z:Nat))) (aa (mC (.int (w:Nat))) af))))) (mFn aH (aa (ae 2) (aa (mC (.int 4)) af))) Y S=a_ (.int (v:Nat),S')/\v∈[x,y,z,w]/\Stp n S S':=by
 have ZF:Stp n S (S++[Cell.lst (aV [x,y,z,w])]):=Stp.ex h (Ex.push _ _);obtain⟨r,S4,f4,hr,YQ⟩:=ip (m:=4) ZF.st (by decide) (by decide);have YR:S.length≠n:=by have:=h.lt;omega
 have g4:S4[S.length]?=a_ (Cell.lst (aV [x,y,z,w])):=YQ.some YR (bA _ _);obtain⟨v,hv⟩ :∃v,[x,y,z,w][r]?=a_ v:=⟨_,aG hr⟩;exact⟨v,S4,y9 KN (dB (var_eq h2) c_i f4) g4 (oN (by unfold aV;rw[ba,hv];rfl)),bo hv,ZF.trans YQ⟩
theorem OX(h:iQ n S)(h2:Y[2]?=a_ (a_ (.ref n))):∃m T S',mFn gz (aa (ae 2) (aa (m2 oIx (b0 (aa (mC (.int 8)) (aa (mC (.int 8)) (aa (mC (.int 8)) (aa (mC (.int 12)) af))))) (mFn aH (aa (ae 2) (aa (mC (.int 4)) af)))) af)) Y S=a_ (tab m T,S')/\Grp m T/\m<=24/\Stp n S S':=by
 obtain⟨v,S1,e1,hv,YG⟩:=t9 (x:=8) (y:=8) (z:=8) (w:=12) h h2;have Sa:8<=v/\v<=12:=by simp at hv;omega
 obtain⟨m,T,S5,f6,gr,hm,Zx⟩:=BL (most:=v) YG.st (by omega) (by omega);exact⟨m,T,S5,dB (f:=gz) (var_eq h2) e1 f6,gr,by omega,YG.trans Zx⟩
theorem OH(h:iQ n S)(h2:∀z S,ae 2 (Y++[z]) S=a_ (.ref n,S))(h3:Y[2]?=a_ (a_ (.ref n))):∃w S',mFn bZ (aa (bu (iR1 (aa (m2 oIx (b0 (aa (mC (.int 0)) (aa (mC (.int 1)) (aa (mC (.int 3)) (aa (mC (.int 60)) af))))) (mFn aH (aa (ae 2) (aa (mC (.int 4)) af)))) af)) cTT (mFn aH (aa (ae 2) (aa (mC (.int 24)) af)))) af) Y S=a_ (.tup (aV w),S')/\(∀x∈w,x<24)/\w.length<=60/\Stp n S S':=by
 obtain⟨v,S1,e1,hv,YG⟩:=t9 (x:=0) (y:=1) (z:=3) (w:=60) h h3;have Sa:v<=60:=by simp at hv;omega
 obtain⟨w,S6,f6,Yy,hw,hl⟩:=GJ (n:=n) (m:=24) (sv:=ae 2) (mv:=mC (.int 24)) e1 (by omega) YG.st (by decide) (by decide) h2 (λz S=>rfl);exact⟨w,S6,f6,hw,by omega,YG.trans Yy⟩
end
section
variable {S:Sto}{n r B:Nat}{a b:hE}{t u:aq}{a0 a1 a3 a4 a6 a7:Option U}
def t92(a b:hE):MS:=aW (sIf (dk (cOf (mFn (cg a b) (aa (mC (.obj a)) (aa (m2 oIx (ae 5) (mC (.int 0))) (aa (mFn dw (aa (m2 oIx (ae 5) (mC (.int 0))) af)) af)))))) (bO (mC (.bl d_))) bE) (aW (sIf (dk (cOf (mFn (cg a b) (aa (mC (.obj b)) (aa (m2 oIx (ae 5) (mC (.int 1))) (aa (mFn eD (aa (m2 oIx (ae 5) (mC (.int 1))) af)) af)))))) (bO (mC (.bl d_))) bE) (bJ 5 (bu (dh (ae 5)) cTT (mFn ib (aa (ae 2) (aa (ae 8) af))))))
theorem HZ(Ym:a≠b)(st:iQ n S)(hr:S[r]?=a_ (.lst [.str t,.str u]))(Yv:r≠n)(ht:Txf B t)(hu:Txf B u)(hB:B<=90000):
  ∃t' u' r' S',t92 a b [a0,a1,a_ (.ref n),a3,a4,a_ (.ref r),a6,a7] S=a_ (.nx,[a0,a1,a_ (.ref n),a3,a4,a_ (.ref r'),a6,a7],S')/\S'[r']?=a_ (.lst [.str t',.str u'])/\r'≠n/\Txf (3*B+10) t'/\Txf (3*B+10) u'/\Stp n S S':=by
 generalize Y8: [a0,a1,a_ (U.ref n),a3,a4,a_ (.ref r),a6,a7]=Y;have v5:∀S,ae 5 Y S=a_ (.ref r,S):=λS=>by rw[<-Y8];rfl
 obtain⟨o,d1,d2,d3⟩:=Fx ht hB;obtain⟨p,w1,w2,w3⟩:=Ip hu hB;have i0:=y9 (Y:=Y) (S:=S) (a:=ae 5) (b:=mC (.int 0)) (z:=0) (v5 S) c_i hr rfl;obtain⟨S1,e1,x1⟩:=d1 S;obtain⟨S2,e2,x2⟩:=BG (a:=a) (b:=b) (d2 S1) d3;have c1:=not_eq (of_eq (vI (f:=cg a b) (a:=mC (.obj a)) (x:= .obj a) rfl i0 (cy (f:=dw) i0 e1) e2));have Wq:=x1.trans x2;have ZU:=Wq.some hr;have i1:=y9 (Y:=Y) (S:=S2) (a:=ae 5) (b:=mC (.int 1)) (z:=1) (v5 S2) c_i ZU rfl;obtain⟨S3,e3,x3⟩:=w1 S2;obtain⟨S4,e4,x4⟩:=Dt Ym (w2 S3) w3;have c2:=not_eq (of_eq (vI (f:=cg a b) (a:=mC (.obj b)) (x:= .obj b) rfl i1 (cy (f:=eD) i1 e3) e4));have YQ:=Stp.ex st (Wq.trans (x3.trans x4));have Vo:=(x3.trans x4).some ZU;have hg:∀S',Stp n S4 S'->getL S' r=a_ [.str t,.str u]:=λS' x=>by unfold getL;rw[x.some Yv Vo]
 obtain⟨ys,S5,e5,l5,q5,p5⟩:=vP (e:=mFn ib (aa (ae 2) (aa (ae 8) af))) (Y:=Y) (r:=r) (us:= [.str t,.str u]) (λS'=>Stp n S4 S') (λv =>∃t',v = .str t'/\Txf (3*B+10) t') hg (λv hv S' hS=>by
  obtain⟨z,rfl,hz⟩ :∃z,v=.str z/\Txf B z:=by
   simp only[bf,jc,_root_.or_false]at hv;rcases hv with rfl|rfl
   .exact⟨t,rfl,ht⟩
   .exact⟨u,rfl,hu⟩
  obtain⟨t',S6,e6,h6,Yy⟩:=Ie hS.st hz hB
  exact⟨_,S6,dB (by rw[<- Y8];exact var_eq rfl) (by rw[<- Y8];exact var_eq rfl) e6,⟨t',rfl,h6⟩,hS.trans Yy⟩) fuel 0 [] S4 (gy _) (show 2 - 0<fuel by decide) (Stp.refl YQ.st)
 have hi:dh (ae 5) Y S4=a_ (.mut r,S4):=by simp only[dh,v5,ak,hg S4 (Stp.refl YQ.st),aT]
 have e6:bu (dh (ae 5)) cTT (mFn ib (aa (ae 2) (aa (ae 8) af))) Y S4=a_ (.ref S5.length,S5++[.lst ys]):=by
  simp only[bu,hi,ak,rA,e5,fK];exact if_pos (by rw[l5];show 2-0<big;decide)
 match ys,l5,q5 with
 | [y,z],_,q5=>
   obtain⟨t',rfl,VP⟩:=q5 y (by simp);obtain⟨u',rfl,XX⟩:=q5 z (by simp);have QZ:=(YQ.trans p5).step (Ex.push S5 (.lst [.str t',.str u']));refine⟨t',u',S5.length,S5++[.lst [.str t',.str u']],(aE ((gw c1).trans rfl)).trans ((aE ((gw c2).trans rfl)).trans ((bS e6).trans (by rw[<-Y8];rfl))),bA _ _,?_,VP,XX,QZ⟩;have:=(YQ.trans p5).st.lt;omega
def o92:ME:=m2 oIx (b0 (aa (mC .non) (aa (mC (.int 7)) (aa (gZ (aa (gZ (aa (mC (.int 0)) af)) af)) (aa (b0 (aa (mC (.str "0")) af)) (aa (mC (.bl c_)) (aa qL (aa (gZ af) af)))))))) (mFn aH (aa (ae 2) (aa (mC (.int 7)) af)))
theorem JX{Y:Rho}(st:iQ n S)(h2:Y[2]?=a_ (a_ (.ref n))) :∃ u S',o92 Y S=a_ (u,S')/\Stp n S S' /\ ∀ ZO,Ex S' ZO->fg "str" u ZO=a_ (.bl d_,ZO):=by
 have e1:b0 (aa (mC .non) (aa (mC (.int 7)) (aa (gZ (aa (gZ (aa (mC (.int 0)) af)) af)) (aa (b0 (aa (mC (.str "0")) af)) (aa (mC (.bl c_)) (aa qL (aa (gZ af) af))))))) Y S=a_ (.ref (S ++ [Cell.lst [U.str "0"]] ++ [Cell.dic []]).length,S ++ [Cell.lst [U.str "0"]] ++ [Cell.dic []] ++ [Cell.lst [.non,.int 7,.tup [.tup [.int 0]],.ref S.length,.bl c_,.ref (S ++ [Cell.lst [U.str "0"]]).length,.tup []]]):=by
  have hz:7<=big:=by decide
  have XA:1<=big:=by decide
  have SN:0<=big:=by decide
  simp only[b0,gZ,aa,af,mC,qL,ak,c8,fH,dS,lY,if_pos hz,if_pos XA,if_pos SN]
 have xa:Ex S (S ++ [.lst [.str "0"]]):=Ex.push _ _;have xb:Ex (S ++ [.lst [.str "0"]]) (S ++ [.lst [.str "0"]] ++ [.dic []]):=Ex.push _ _;have ga:(S ++ [Cell.lst [.str "0"]])[S.length]?=a_ (.lst [.str "0"]):=bA _ _;have gb:(S ++ [Cell.lst [.str "0"]] ++ [.dic []])[(S ++ [Cell.lst [.str "0"]]).length]?=a_ (.dic []):=bA _ _;have ga:=xb.some ga;have hlen:=(xa.trans xb).len;have Wl:=xa.trans xb;generalize S ++ [Cell.lst [U.str "0"]] ++ [.dic []]=S1 at *;generalize (S ++ [Cell.lst [U.str "0"]]).length=q at *;have xc:Ex S1 (S1++[.lst [.non,.int 7,.tup [.tup [.int 0]],.ref S.length,.bl c_,.ref q,.tup []]]):=Ex.push _ _;have gc:(S1++[Cell.lst [.non,.int 7,.tup [.tup [.int 0]],.ref S.length,.bl c_,.ref q,.tup []]])[S1.length]?=a_ (.lst [.non,.int 7,.tup [.tup [.int 0]],.ref S.length,.bl c_,.ref q,.tup []]):=bA _ _;have ga:=xc.some ga;have gb:=xc.some gb;have hln:=st.lt;have hq:q≠n:=λz=>by
  obtain⟨s,b,e⟩:=st.ex (Wl.trans xc);rw[<-z,gb]at e;cases e
 generalize S1++[Cell.lst [.non,.int 7,.tup [.tup [.int 0]],.ref S.length,.bl c_,.ref q,.tup []]]=S2 at *;have Zf:Stp n S S2:=Stp.ex st (Wl.trans xc);obtain⟨k,S3,e3,hk,ZF⟩:=ip (m:=7) Zf.st (by decide) (by decide);have gc:=ZF.some (by omega) gc;have ga:=ZF.some (by omega) ga;have gb:=ZF.some hq gb;obtain⟨v,hv⟩ :∃v,([.non,.int 7,.tup [.tup [.int 0]],.ref S.length,.bl c_,.ref q,.tup []]:List U)[k]?=a_ v:=⟨_,aG hk⟩;refine⟨v,S3,y9 e1 (dB (var_eq h2) c_i e3) gc (oN hv),Zf.trans ZF,λS4 x4=>?_⟩;have ga:=x4.some ga;have gb:=x4.some gb;have hm:=bo hv;simp only[bf,jc,_root_.or_false]at hm;rcases hm with rfl |rfl |rfl |rfl |rfl |rfl |rfl
 .rfl
 .rfl
 .rfl
 .simp only[fg,tyU,ga];rfl
 .rfl
 .simp only[fg,tyU,gb];rfl
 .rfl
def bd:Nat->Nat
 |0=>5000
 |k+1=>3*bd k+10
theorem M4:∀k:Fin 3,bd k<=90000:=by decide
end
end
section
open _L _G
theorem Gq{m:Nat}{T:Nat->Nat->Nat}(g:Grp m T)(hm:m<=24):Txf 5000 (gtx (mL m T)):=⟨λc hc=>by have:=Gp (uk g hm) c hc;omega,(DO (uk g hm) (uK hm) (by rw[Cm];exact hm)).2⟩
theorem Gv:Txf 5000 (cH "none"):=⟨by unfold Asc;decide +kernel,by decide +kernel⟩
theorem FS{l:List Nat}(h:∀x∈l,x<24)(hl:l.length<=60):Txf 5000 (wtx l):=by
 unfold wtx
 split
 .exact Gv
 .exact⟨λc hc=>by have:=CQ h c hc;omega,by have:=CB h;omega⟩
def Je(a b:hE):MS:=aW (bJ 2 (mFn jD (aa (ae 0) (aa (ae 1) af)))) (aW (bJ 3 (mFn gz (aa (ae 2) (aa (m2 oIx (b0 (aa (mC (.int 8)) (aa (mC (.int 8)) (aa (mC (.int 8)) (aa (mC (.int 12)) af))))) (mFn aH (aa (ae 2) (aa (mC (.int 4)) af)))) af)))) (aW (bJ 4 (mFn bZ (aa (bu (iR1 (aa (m2 oIx (b0 (aa (mC (.int 0)) (aa (mC (.int 1)) (aa (mC (.int 3)) (aa (mC (.int 60)) af))))) (mFn aH (aa (ae 2) (aa (mC (.int 4)) af)))) af)) cTT (mFn aH (aa (ae 2) (aa (mC (.int 24)) af)))) af))) (aW (bJ 5 (b0 (aa (mFn eE (aa (ae 3) af)) (aa (mFn eW (aa (ae 4) af)) af)))) (aW (fU 6 (iR1 (aa (mC (.int 3)) af)) (t92 a b)) (aW (bJ 7 o92) (sIf (cOr (dk (cOf (mFn (cg a b) (aa (mC (.obj a)) (aa (ae 7) (aa (mC .non) af)))))) (dk (cOf (mFn (cg a b) (aa (mC (.obj b)) (aa (ae 7) (aa (mC .non) af))))))) (bO (mC (.bl d_))) bE))))))
theorem BO(a b:hE)(Ym:a≠b)(ns:List Int)(hl:ns.length<=63)(S:Sto)(h1:S.length=1)(h2:getL S 0=a_ (ns.map U.int)):∃S',MZ a b [.ref 0] S=a_ (.bl c_,S'):=by
 have TB:Scr ns S:=h2;obtain⟨q,hq,eq⟩:=Cc (Y:= [a_ (.ref 0),b_,b_,b_,b_,b_,b_,b_]) (c:=8) TB rfl hl;obtain⟨Y2,S1,e1,⟨a1,a2,a3,a4,a5,a6,a7,rfl⟩,_⟩:=l9 (i:=1) (a:=mFn wK (aa (mC (.int 1)) (aa (mFn wL (aa (mFn cJ (aa (ae 0) af)) (aa (mC (.int 8)) af))) af))) (n:=q) (b:=Je a b)
  (Y:= [a_ (.ref 0),b_,b_,b_,b_,b_,b_,b_]) (S:=S) eq (by unfold big;omega)
  (λk Y S'=>(∃a b c d e f g,Y=[a_ (.ref 0),a,b,c,d,e,f,g])/\Scr ns S') ⟨⟨b_,b_,b_,b_,b_,b_,b_,rfl⟩,TB⟩
  (by
   rintro k Y S' hk ⟨⟨u1,u2,u3,u4,u5,u6,u7,rfl⟩,hs⟩;have h0:=hs.lt;obtain⟨S2,f2,x2,Zf⟩:=CC (k:=k) hs;obtain⟨m,T,S5,f6,gr,hm,Zx⟩:=OX (Y:= [a_ (.ref 0),a_ (.int k),a_ (.ref S'.length),u3,u4,u5,u6,u7]) Zf rfl;obtain⟨w,S6,f7,hw,WQ,Yy⟩:=OH (Y:= [a_ (.ref 0),a_ (.int k),a_ (.ref S'.length),a_ (tab m T),u4,u5,u6,u7]) Zx.st (λz S=>rfl) rfl;obtain⟨A2,g2,y2⟩:=Lo (S:=S6) gr hm;obtain⟨A4,g4,y4⟩:=Oe (S:=A2) hw (by omega);have f8:=bS (i:=5) (zJ (cy (f:=eE) (Y:= [a_ (.ref 0),a_ (.int k),a_ (.ref S'.length),a_ (tab m T),a_ (.tup (aV w)),u5,u6,u7]) (a:=ae 3) (var_eq rfl) g2) (cy (f:=eW) (a:=ae 4) (var_eq rfl) g4));have W9:=((Zx.trans Yy).step (y2.trans y4)).step (Ex.push A4 (.lst [.str (gtx (mL m T)),.str (wtx w)]));have hA:A4.length≠S'.length:=by have:=((Zx.trans Yy).step (y2.trans y4)).st.lt;omega
   obtain⟨Z6,B1,e9,⟨c6,c5,t,u,rfl,hc5,hn5,_,_,Ub⟩⟩:=l9 (i:=6) (a:=mC (.int 3)) (n:=3) (b:=t92 a b) (Y:= [a_ (.ref 0),a_ (.int k),a_ (.ref S'.length),a_ (tab m T),a_ (.tup (aV w)),a_ (.ref A4.length),u6,u7]) (S:=A4++[.lst [.str (gtx (mL m T)),.str (wtx w)]]) c_i (by decide)
    (λj Y B=>∃c6 c5 t u,Y=[a_ (.ref 0),a_ (.int k),a_ (.ref S'.length),a_ (tab m T),a_ (.tup (aV w)),a_ (.ref c5),c6,u7]/\B[c5]?=a_ (.lst [.str t,.str u])/\c5≠S'.length/\Txf (bd j) t/\Txf (bd j) u/\Stp S'.length S2 B)
    ⟨u6,A4.length,_,_,rfl,bA _ _,hA,Gq gr hm,FS hw WQ,W9⟩ (by
     rintro j Y B hj ⟨c6,c5,t,u,rfl,hc,hn,ht,hu,st⟩;obtain⟨t',u',r',B',e,Zs,WK,VP,XX,Zh⟩:=HZ (a0:=a_ (.ref 0)) (a1:=a_ (.int k)) (a3:=a_ (tab m T)) (a4:=a_ (.tup (aV w))) (a6:=a_ (.int j)) (a7:=u7) Ym st.st hc hn ht hu (M4 ⟨j,hj⟩)
     exact⟨_,B',e,a_ (.int j),r',t',u',rfl,Zs,WK,VP,XX,st.trans Zh⟩)
   obtain⟨v,B2,QY,W7,hv⟩:=JX (Y:= [a_ (.ref 0),a_ (.int k),a_ (.ref S'.length),a_ (tab m T),a_ (.tup (aV w)),a_ (.ref c5),c6,u7]) Ub.st rfl;obtain⟨B3,Sl,WA⟩:=BG (a:=a) (b:=b) (o:=b_) (Hc (hv B2 (Ex.refl _))).1 (λ_ h=>by cases h);obtain⟨B4,Rn,Wq⟩:=Dt (o:=b_) Ym (Hc (hv B3 WA)).2 (λ_ h=>by cases h);have SF:=not_eq (of_eq (vI (f:=cg a b) (Y:= [a_ (.ref 0),a_ (.int k),a_ (.ref S'.length),a_ (tab m T),a_ (.tup (aV w)),a_ (.ref c5),c6,a_ v]) (a:=mC (.obj a)) (b:=ae 7) (c:=mC .non) (x:= .obj a) (z:= .non) rfl (var_eq rfl) rfl Sl));have RW:=not_eq (of_eq (vI (f:=cg a b) (Y:= [a_ (.ref 0),a_ (.int k),a_ (.ref S'.length),a_ (tab m T),a_ (.tup (aV w)),a_ (.ref c5),c6,a_ v]) (a:=mC (.obj b)) (b:=ae 7) (c:=mC .non) (x:= .obj b) (z:= .non) rfl (var_eq rfl) rfl Rn));refine⟨[a_ (.ref 0),a_ (.int k),a_ (.ref S'.length),a_ (tab m T),a_ (.tup (aV w)),a_ (.ref c5),c6,a_ v],B4,(aE (bS (dB (var_eq rfl) (var_eq rfl) f2))).trans ((aE (bS f6)).trans ((aE (bS f7)).trans ((aE f8).trans ((aE e9).trans ((aE (bS QY)).trans ((gw (_W.or_false SF RW)).trans rfl)))))),⟨_,_,_,_,_,_,_,rfl⟩,?_⟩
   exact((hs.ex λc h=>x2.some h).ex λc h=>((Ub.trans W7).step (WA.trans Wq)).some (by omega) h))
 exact⟨S1,bw (Y:= [a_ (.ref 0),a1,a2,a3,a4,a5,a6,a7]) rfl (show B6 a b [a_ (.ref 0),b_,b_,b_,b_,b_,b_,b_] S=_ from(aE e1).trans (bP rfl))⟩
end
def top(i:Nat):Stmt:=PySem.Challenge.pw_groupwalks_k92_texts_that_write_none.main.body.getD i (.Pass ⟨0,0,0,0⟩)
abbrev eI:Stmt:=top 22
abbrev gL:Stmt:=top 11
abbrev fV:Stmt:=top 12
abbrev m9:Stmt:=top 13
abbrev eR:Stmt:=top 14
abbrev kG:Stmt:=top 15
abbrev jN:Stmt:=top 16
abbrev ni:Stmt:=top 17
abbrev lA:Stmt:=top 23
abbrev gd:Stmt:=top 24
abbrev fo:Stmt:=top 25
abbrev gM:Stmt:=top 26
abbrev iH:Stmt:=top 27
abbrev jO:Stmt:=top 29
abbrev lg:Stmt:=top 30
abbrev nr:Stmt:=top 31
abbrev lM:Stmt:=top 32
abbrev lU:Stmt:=top 33
abbrev jT:Stmt:=top 35
abbrev ny:Stmt:=top 34
abbrev lL:Stmt:=top 37
abbrev lh:Stmt:=top 36
abbrev lI:Stmt:=top 38
abbrev iq:Stmt:=top 40
abbrev iV:Stmt:=top 41
abbrev eY:Stmt:=top 42
abbrev cP:Stmt:=top 49
abbrev m8:Stmt:=top 48
abbrev jW:Stmt:=top 45
abbrev la:Stmt:=top 43
abbrev pH:Stmt:=top 44
abbrev iS:Stmt:=top 46
abbrev jj:Stmt:=top 47
abbrev Dn:Stmt:=top 50
abbrev N0:List Str := ["thing"]
abbrev N1:List Str := ["value","many"]
abbrev N2:List Str := ["value","many"]
abbrev N3:List Str := ["thing","many"]
abbrev N4:List Str := ["table","i"]
abbrev N5:List Str := ["table","i"]
abbrev N6:List Str := ["table","i","j","product"]
abbrev N7:List Str := ["thing","i"]
abbrev N8:List Str := ["word"]
abbrev N9:List Str := ["word"]
abbrev N10:List Str := ["text"]
abbrev N11:List Str := ["text","group"]
abbrev N12:List Str := ["text","walk"]
abbrev N13:List Str := ["script","k"]
abbrev N14:List Str := ["script","k","cell"]
abbrev N15:List Str := ["state","many","found","mixed"]
abbrev N16:List Str := ["n"]
abbrev N17:List Str := ["n","found","i","row","j","turn"]
abbrev N18:List Str := ["signs","kinds","found","one","row","other","sign"]
abbrev N19:List Str := ["one","other","size","found","i","row","j","ahead"]
abbrev N20:List Str := ["group","order"]
abbrev N21:List Str := ["state","many","left"]
abbrev N22:List Str := ["state","most","way","found","first","one"]
abbrev N23:List Str := ["group"]
abbrev N24:List Str := ["walk"]
abbrev N25:List Str := ["call","error","e","kinds"]
abbrev N26:List Str := ["read","text","due"]
abbrev N27:List Str := ["state","text","way","at","sign","words","k","j"]
abbrev N28:List Str := ["text","good","found","word"]
abbrev N29:List Str := ["thing"]
abbrev N30:List Str := ["thing","many","row","i","j","both"]
abbrev N31:List Str := ["text","rows"]
abbrev N32:List Str := ["text","found"]
abbrev N33:List Str := ["script","k","state","group","walk","texts","turn","odd"]
def T0(a_n Z':e_)(cl:Nat->e_):Tb:=⟨[],[("group_read",.obj a_n),("walk_read",.obj Z'),("MOST_THINGS",.int 24),("FIGURES",.str "0123456789"),("MOST_FIGURES",.int 2),("LONGEST_WALK",.int 60)],[],[],d_,⟨[],[],cl,"<lambda>"⟩⟩
def T1(a_n Z':e_)(cl:Nat->e_):Tb:=(T0 a_n Z' cl).xx "refuse_no_text" bM dD
def T2(a_n Z':e_)(cl:Nat->e_):Tb:=(T1 a_n Z' cl).dd "is_number_below" jH
def T3(a_n Z':e_)(cl:Nat->e_):Tb:=(T2 a_n Z' cl).dd "are_numbers_below" bX
def T4(a_n Z':e_)(cl:Nat->e_):Tb:=(T3 a_n Z' cl).dd "is_table" gn
def T5(a_n Z':e_)(cl:Nat->e_):Tb:=(T4 a_n Z' cl).dd "is_unchanged_by_zero" cZ
def T6(a_n Z':e_)(cl:Nat->e_):Tb:=(T5 a_n Z' cl).dd "has_undone" gQ
def T7(a_n Z':e_)(cl:Nat->e_):Tb:=(T6 a_n Z' cl).dd "binds_alike" eZ
def T8(a_n Z':e_)(cl:Nat->e_):Tb:=(T7 a_n Z' cl).dd "is_group" eg
def T9(a_n Z':e_)(cl:Nat->e_):Tb:=(T8 a_n Z' cl).dd "is_number" dY
def T10(a_n Z':e_)(cl:Nat->e_):Tb:=(T9 a_n Z' cl).xx "number_read" bF ej
def T11(a_n Z':e_)(cl:Nat->e_):Tb:=(T10 a_n Z' cl).xx "numbers_read" aP cz
def T12(a_n Z':e_)(cl:Nat->e_):Tb:=(T11 a_n Z' cl).xx "group_read" dz dX
def T13(a_n Z':e_)(cl:Nat->e_):Tb:=(T12 a_n Z' cl).xx "walk_read" dZ eK
def T14(a_n Z':e_)(cl:Nat->e_):Tb:=(T13 a_n Z' cl).dd "_law_cell_at" jU
def T15(a_n Z':e_)(cl:Nat->e_):Tb:=(T14 a_n Z' cl).dd "_law_state" jD
def T16(a_n Z':e_)(cl:Nat->e_):Tb:=(T15 a_n Z' cl).dd "_law_take" aH
def T17(a_n Z':e_)(cl:Nat->e_):Tb:=(T16 a_n Z' cl).dd "_law_clock" df
def T18(a_n Z':e_)(cl:Nat->e_):Tb:=(T17 a_n Z' cl).dd "_law_flips" fq
def T19(a_n Z':e_)(cl:Nat->e_):Tb:=(T18 a_n Z' cl).dd "_law_quarter" ix
def T20(a_n Z':e_)(cl:Nat->e_):Tb:=(T19 a_n Z' cl).dd "_law_both" kM
def T21(a_n Z':e_)(cl:Nat->e_):Tb:=(T20 a_n Z' cl).dd "_law_named" jG
def T22(a_n Z':e_)(cl:Nat->e_):Tb:=(T21 a_n Z' cl).dd "_law_order" jA
def T23(a_n Z':e_)(cl:Nat->e_):Tb:=(T22 a_n Z' cl).dd "_law_group" gz
def T24(a_n Z':e_)(cl:Nat->e_):Tb:=(T23 a_n Z' cl).dd "_law_group_text" eE
def T25(a_n Z':e_)(cl:Nat->e_):Tb:=(T24 a_n Z' cl).dd "_law_walk_text" eW
def T26(a_n Z':e_)(cl:Nat->e_):Tb:=(T25 a_n Z' cl).qq "_law_refused" (nk [5])
def T27(a_n Z':e_)(cl:Nat->e_):Tb:=(T26 a_n Z' cl).dd "_law_right" (cg a_n Z')
def T28(a_n Z':e_)(cl:Nat->e_):Tb:=(T27 a_n Z' cl).dd "_law_bent" ib
def T29(a_n Z':e_)(cl:Nat->e_):Tb:=(T28 a_n Z' cl).dd "_law_numbers" dA
def T30(a_n Z':e_)(cl:Nat->e_):Tb:=(T29 a_n Z' cl).dd "_law_whole" fB
def T31(a_n Z':e_)(cl:Nat->e_):Tb:=(T30 a_n Z' cl).dd "_law_due" ik
def T32(a_n Z':e_)(cl:Nat->e_):Tb:=(T31 a_n Z' cl).dd "_law_group_due" dw
def T33(a_n Z':e_)(cl:Nat->e_):Tb:=(T32 a_n Z' cl).dd "_law_walk_due" eD
theorem pf:∀(a_n Z':e_) (cl:Nat->e_),cD (T0 a_n Z' cl) N0 eI=a_ ij:=by intro a_n Z' cl;kernel_rfl
theorem oB :∀ (a_n Z':e_) (cl:Nat->e_),(xc 80 80).b ⟨("refuse_no_text",bM)::(T0 a_n Z' cl).D,(T0 a_n Z' cl).C,(T0 a_n Z' cl).L,(T0 a_n Z' cl).H,(T0 a_n Z' cl).mkr,(T0 a_n Z' cl).Z⟩ ⟨(T0 a_n Z' cl).Z.R,clR [5]⟩ N0 (ar eI).names (bG eI)=a_ ie:=by intro a_n Z' cl;kernel_rfl
theorem jx:aZ N0 (N0.take 1) (ar eI):=du (by decide +kernel)
theorem nW:∀(a_n Z':e_) (cl:Nat->e_),cD (T1 a_n Z' cl) N1 gL=a_ jy:=by intro a_n Z' cl;kernel_rfl
theorem ng:aZ N1 (N1.take 2) (ar gL):=du (by decide +kernel)
theorem mJ:∀(a_n Z':e_) (cl:Nat->e_),cD (T2 a_n Z' cl) N2 fV=a_ iZ:=by intro a_n Z' cl;kernel_rfl
theorem lq:aZ N2 (N2.take 2) (ar fV):=du (by decide +kernel)
theorem yv:∀(a_n Z':e_) (cl:Nat->e_),cD (T3 a_n Z' cl) N3 m9=a_ ig:=by intro a_n Z' cl;kernel_rfl
theorem we:aZ N3 (N3.take 1) (ar m9):=du (by decide +kernel)
theorem kB:∀(a_n Z':e_) (cl:Nat->e_),cD (T4 a_n Z' cl) N4 eR=a_ eO:=by intro a_n Z' cl;kernel_rfl
theorem j5:aZ N4 (N4.take 2) (ar eR):=du (by decide +kernel)
theorem uq:∀(a_n Z':e_) (cl:Nat->e_),cD (T5 a_n Z' cl) N5 kG=a_ ko:=by intro a_n Z' cl;kernel_rfl
theorem sP:aZ N5 (N5.take 2) (ar kG):=du (by decide +kernel)
theorem sj:∀(a_n Z':e_) (cl:Nat->e_),cD (T6 a_n Z' cl) N6 jN=a_ jV:=by intro a_n Z' cl;kernel_rfl
theorem q8:aZ N6 (N6.take 3) (ar jN):=du (by decide +kernel)
theorem yx:∀(a_n Z':e_) (cl:Nat->e_),cD (T7 a_n Z' cl) N7 ni=a_ il:=by intro a_n Z' cl;kernel_rfl
theorem wg:aZ N7 (N7.take 1) (ar ni):=du (by decide +kernel)
theorem vV :∀ (a_n Z':e_) (cl:Nat->e_),cD ⟨(T8 a_n Z' cl).D,(T8 a_n Z' cl).C,[],(T8 a_n Z' cl).H,d_,(T8 a_n Z' cl).Z.to "str"⟩ N8 lA=a_ iK:=by intro a_n Z' cl;kernel_rfl
theorem vk:aZ N8 (N8.take 1) (ar lA):=du (by decide +kernel)
theorem sx :∀ (a_n Z':e_) (cl:Nat->e_),cD ⟨(T9 a_n Z' cl).D,(T9 a_n Z' cl).C,[],(T9 a_n Z' cl).H,d_,(T9 a_n Z' cl).Z.to "str"⟩ N9 gd=a_ iA:=by intro a_n Z' cl;kernel_rfl
theorem rO :∀ (a_n Z':e_) (cl:Nat->e_),(xc 80 80).b ⟨("number_read",bF)::(T9 a_n Z' cl).D,(T9 a_n Z' cl).C,(T9 a_n Z' cl).L,(T9 a_n Z' cl).H,(T9 a_n Z' cl).mkr,(T9 a_n Z' cl).Z⟩ ⟨(T9 a_n Z' cl).Z.R,clR [5]⟩ N9 (ar gd).names (bG gd)=a_ fZ:=by intro a_n Z' cl;kernel_rfl
theorem ll:aZ N9 (N9.take 1) (ar gd):=du (by decide +kernel)
theorem rB:∀(a_n Z':e_) (cl:Nat->e_),cD (T10 a_n Z' cl) N10 fo=a_ fC:=by intro a_n Z' cl;kernel_rfl
theorem qg :∀ (a_n Z':e_) (cl:Nat->e_),(xc 80 80).b ⟨("numbers_read",aP)::(T10 a_n Z' cl).D,(T10 a_n Z' cl).C,(T10 a_n Z' cl).L,(T10 a_n Z' cl).H,(T10 a_n Z' cl).mkr,(T10 a_n Z' cl).Z⟩ ⟨(T10 a_n Z' cl).Z.R,clR [5]⟩ N10 (ar fo).names (bG fo)=a_ fw:=by intro a_n Z' cl;kernel_rfl
theorem kP:aZ N10 (N10.take 1) (ar fo):=du (by decide +kernel)
theorem uF:∀(a_n Z':e_) (cl:Nat->e_),cD (T11 a_n Z' cl) N11 gM=a_ fL:=by intro a_n Z' cl;kernel_rfl
theorem sH :∀ (a_n Z':e_) (cl:Nat->e_),(xc 80 80).b ⟨("group_read",dz)::(T11 a_n Z' cl).D,(T11 a_n Z' cl).C,(T11 a_n Z' cl).L,(T11 a_n Z' cl).H,(T11 a_n Z' cl).mkr,(T11 a_n Z' cl).Z⟩ ⟨(T11 a_n Z' cl).Z.R,clR [5]⟩ N11 (ar gM).names (bG gM)=a_ gW:=by intro a_n Z' cl;kernel_rfl
theorem mV:aZ N11 (N11.take 1) (ar gM):=du (by decide +kernel)
theorem wI:∀(a_n Z':e_) (cl:Nat->e_),cD (T12 a_n Z' cl) N12 iH=a_ ft:=by intro a_n Z' cl;kernel_rfl
theorem uU :∀ (a_n Z':e_) (cl:Nat->e_),(xc 80 80).b ⟨("walk_read",dZ)::(T12 a_n Z' cl).D,(T12 a_n Z' cl).C,(T12 a_n Z' cl).L,(T12 a_n Z' cl).H,(T12 a_n Z' cl).mkr,(T12 a_n Z' cl).Z⟩ ⟨(T12 a_n Z' cl).Z.R,clR [5]⟩ N12 (ar iH).names (bG iH)=a_ iL:=by intro a_n Z' cl;kernel_rfl
theorem oo:aZ N12 (N12.take 1) (ar iH):=du (by decide +kernel)
theorem sk:∀(a_n Z':e_) (cl:Nat->e_),cD (T13 a_n Z' cl) N13 jO=a_ iz:=by intro a_n Z' cl;kernel_rfl
theorem rT:aZ N13 (N13.take 2) (ar jO):=du (by decide +kernel)
theorem wR:∀(a_n Z':e_) (cl:Nat->e_),cD (T14 a_n Z' cl) N14 lg=a_ pJ:=by intro a_n Z' cl;kernel_rfl
theorem uJ:aZ N14 (N14.take 2) (ar lg):=du (by decide +kernel)
theorem yu:∀(a_n Z':e_) (cl:Nat->e_),cD (T15 a_n Z' cl) N15 nr=a_ kE:=by intro a_n Z' cl;kernel_rfl
theorem wm:aZ N15 (N15.take 2) (ar nr):=du (by decide +kernel)
theorem wO:∀(a_n Z':e_) (cl:Nat->e_),cD (T16 a_n Z' cl) N16 lM=a_ lz:=by intro a_n Z' cl;kernel_rfl
theorem uw:aZ N16 (N16.take 1) (ar lM):=du (by decide +kernel)
theorem xp:∀(a_n Z':e_) (cl:Nat->e_),cD (T17 a_n Z' cl) N17 lU=a_ pK:=by intro a_n Z' cl;kernel_rfl
theorem uu:aZ N17 (N17.take 1) (ar lU):=du (by decide +kernel)
theorem si:∀(a_n Z':e_) (cl:Nat->e_),cD (T18 a_n Z' cl) N18 jT=a_ mZ:=by intro a_n Z' cl;kernel_rfl
theorem qZ:aZ N18 (N18.take 0) (ar jT):=du (by decide +kernel)
theorem yt:∀(a_n Z':e_) (cl:Nat->e_),cD (T19 a_n Z' cl) N19 ny=a_ qW:=by intro a_n Z' cl;kernel_rfl
theorem vG:aZ N19 (N19.take 2) (ar ny):=du (by decide +kernel)
theorem xD:∀(a_n Z':e_) (cl:Nat->e_),cD (T20 a_n Z' cl) N20 lL=a_ pL:=by intro a_n Z' cl;kernel_rfl
theorem ui:aZ N20 (N20.take 2) (ar lL):=du (by decide +kernel)
theorem wo:∀(a_n Z':e_) (cl:Nat->e_),cD (T21 a_n Z' cl) N21 lh=a_ pN:=by intro a_n Z' cl;kernel_rfl
theorem uD:aZ N21 (N21.take 2) (ar lh):=du (by decide +kernel)
theorem xi:∀(a_n Z':e_) (cl:Nat->e_),cD (T22 a_n Z' cl) N22 lI=a_ k7:=by intro a_n Z' cl;kernel_rfl
theorem ve:aZ N22 (N22.take 2) (ar lI):=du (by decide +kernel)
theorem pk:∀(a_n Z':e_) (cl:Nat->e_),cD (T23 a_n Z' cl) N23 iq=a_ ic:=by intro a_n Z' cl;kernel_rfl
theorem ot:aZ N23 (N23.take 1) (ar iq):=du (by decide +kernel)
theorem qh:∀(a_n Z':e_) (cl:Nat->e_),cD (T24 a_n Z' cl) N24 iV=a_ gh:=by intro a_n Z' cl;kernel_rfl
theorem o5:aZ N24 (N24.take 1) (ar iV):=du (by decide +kernel)
def mX:Stmt:=(bG eY).getD 6 (.Pass ⟨0,0,0,0⟩)
theorem mT:bG eY=kJ 158 mX:=by kernel_rfl
theorem Mt:∀(a_n Z':e_) (cl:Nat->e_),cS (T25 a_n Z' cl) 80 oI (ar eY).names mX=a_ mzR:=by intro a_n Z' cl;kernel_rfl
theorem lb:rF (ar eY).names=c_:=by decide +kernel
theorem k8:aZ N25 (N25.take 1) (ar eY):=du (by decide +kernel)
theorem v8:bG cP=yI (F7 cP) (Bk cP) "_law_refused" (Fo cP) 229:=by kernel_rfl
theorem uW:∀(a_n Z':e_) (cl:Nat->e_),cT (T26 a_n Z' cl) 80 rgN (ar cP).names (F7 cP)=a_ rg1:=by intro a_n Z' cl;kernel_rfl
theorem vn:∀(a_n Z':e_) (cl:Nat->e_),cE (T26 a_n Z' cl) 80 rgN (ar cP).names (Bk cP)=a_ rg5:=by intro a_n Z' cl;kernel_rfl
theorem uz:rgB (ar cP).names "_law_refused" (Bk cP) (Fo cP)=c_:=by decide +kernel
theorem uG:aZ N26 (N26.take 3) (ar cP):=du (by decide +kernel)
theorem yr :∀ (a_n Z':e_) (cl:Nat->e_),cD ⟨(T27 a_n Z' cl).D,(T27 a_n Z' cl).C,[],(T27 a_n Z' cl).H,d_,(T27 a_n Z' cl).Z.to "str"⟩ N27 m8=a_ kC:=by intro a_n Z' cl;kernel_rfl
theorem xw:aZ N27 (N27.take 2) (ar m8):=du (by decide +kernel)
theorem sQ :∀ (a_n Z':e_) (cl:Nat->e_),cD ⟨(T28 a_n Z' cl).D,(T28 a_n Z' cl).C,[],(T28 a_n Z' cl).H,d_,(T28 a_n Z' cl).Z.to "str"⟩ N28 jW=a_ iy:=by intro a_n Z' cl;kernel_rfl
theorem rL:aZ N28 (N28.take 1) (ar jW):=du (by decide +kernel)
theorem vH:∀(a_n Z':e_) (cl:Nat->e_),cD (T29 a_n Z' cl) N29 la=a_ k9:=by intro a_n Z' cl;kernel_rfl
theorem ux:aZ N29 (N29.take 1) (ar la):=du (by decide +kernel)
theorem Bc:∀(a_n Z':e_) (cl:Nat->e_),cD (T30 a_n Z' cl) N30 pH=a_ gF:=by intro a_n Z' cl;kernel_rfl
theorem ze:aZ N30 (N30.take 1) (ar pH):=du (by decide +kernel)
theorem qb :∀ (a_n Z':e_) (cl:Nat->e_),cD ⟨(T31 a_n Z' cl).D,(T31 a_n Z' cl).C,[],(T31 a_n Z' cl).H,d_,(T31 a_n Z' cl).Z.to "None"⟩ N31 iS=a_ eX:=by intro a_n Z' cl;kernel_rfl
theorem pb:aZ N31 (N31.take 1) (ar iS):=du (by decide +kernel)
theorem rm:∀(a_n Z':e_) (cl:Nat->e_),cD (T32 a_n Z' cl) N32 jj=a_ eG:=by intro a_n Z' cl;kernel_rfl
theorem qf:aZ N32 (N32.take 1) (ar jj):=du (by decide +kernel)
theorem NN:∀(a_n Z':e_) (cl:Nat->e_),cD (T33 a_n Z' cl) N33 Dn=a_ (B6 a_n Z'):=by intro a_n Z' cl;kernel_rfl
theorem HL:aZ N33 (N33.take 1) (ar Dn):=du (by decide +kernel)
abbrev dL:List (Str×Stmt):=("refuse_no_text",eI)::("is_number_below",gL)::("are_numbers_below",fV)::("is_table",m9)::("is_unchanged_by_zero",eR)::("has_undone",kG)::("binds_alike",jN)::("is_group",ni)::("is_number",lA)::("number_read",gd)::("numbers_read",fo)::("group_read",gM)::("walk_read",iH)::("_law_cell_at",jO)::("_law_state",lg)::("_law_take",nr)::("_law_clock",lM)::("_law_flips",lU)::("_law_quarter",jT)::("_law_both",ny)::("_law_named",lL)::("_law_order",lh)::("_law_group",lI)::("_law_group_text",iq)::("_law_walk_text",iV)::("_law_refused",eY)::("_law_bent",m8)::("_law_numbers",jW)::("_law_whole",la)::("_law_due",pH)::("_law_group_due",iS)::("_law_walk_due",jj)::("law",Dn) :: []
variable{w:World}{h:Heap}{mg:Str->Option f_}
theorem chain{P:Program}{K:ai}{Xa YS:e_}{a_n Z':e_}{cl:Nat->e_}(X:K.In h)(Gn:h.Ns mainGlobals mg)(B :∀ x∈iI,aJ K mainGlobals x=a_ b_)(ZK:mg "group_read"=a_ (.ref a_n))(ZI:mg "walk_read"=a_ (.ref Z'))(kc0 :∃ t,aJ K mainGlobals "MOST_THINGS"=a_ (a_ (.int 24 t)))(kc1 :∃ t,aJ K mainGlobals "FIGURES"=a_ (a_ (.str "0123456789" t)))(kc2 :∃ t,aJ K mainGlobals "MOST_FIGURES"=a_ (a_ (.int 2 t)))(kc3 :∃ t,aJ K mainGlobals "LONGEST_WALK"=a_ (a_ (.int 60 t))){wA:e_}(Rk:tU K mg cl wA [5])(hC :∀ y i,(clR [5]).lookup y=a_ i->mg y=a_ (.ref (cl i))/\exB K (cl i)=c_)(Xp:mainGlobals≠YS)(nd:([YS]:List e_).Nodup)
  (DA:JJ K dL) (Wz:rV K "_law_right" cP Xa YS):Ch P w K mg [(YS,("_law_right":Str)++".<locals>."++"<lambda>")] (T33 a_n Z' cl) 39:=by
 obtain⟨D0,D1,D2,D3,D4,D5,D6,D7,D8,D9,Wf,Ws,Wj,TM,Ur,Tv,TC,TX,TF,TJ,Ui,Ts,TQ,Uk,UL,W1,Tp,Tu,TY,UP,Uq,Uu,UB,_⟩:=DA;have C0:Ch P w K mg [(YS,("_law_right":Str)++".<locals>."++"<lambda>")] (T0 a_n Z' cl) 0:=⟨fun _ _ _ _ _=>TOk.fv (TOk.fv (TOk.con (TOk.conS (TOk.con (TOk.con (TOk.nil X Gn B) X Gn kc3) X Gn kc2) X Gn kc1) X Gn kc0) ZI) ZK,(fun _ _ _ _ _ _ _ z=>by cases z),(fun _ _ _ _ _ _ _ z=>by cases z)⟩;have nd:(([(YS,("_law_right":Str)++".<locals>."++"<lambda>")]:List (e_×Str)).map (·.1)).Nodup:=by simpa using nd
 have A0:=C0.dfn C0.o rfl X Gn D0 jx (λ_ _ _ _ _ _=>us1 λ_=>rfl) (pf a_n Z' cl);have C1:Ch P w K mg _ (T1 a_n Z' cl) 2:=A0.raise (clR [5]) rfl hC X Gn D0 jx (λ_ _ _ _ _ _=>us1 λ_=>rfl) (oB a_n Z' cl);have C2:Ch P w K mg _ (T2 a_n Z' cl) 3:=C1.dfn C1.o rfl X Gn D1 ng (λ_ _ _ _ _ _=>us2 λ_ _=>rfl) (nW a_n Z' cl);have C3:Ch P w K mg _ (T3 a_n Z' cl) 4:=C2.dfn C2.o rfl X Gn D2 lq (λ_ _ _ _ _ _=>us2 λ_ _=>rfl) (mJ a_n Z' cl);have C4:Ch P w K mg _ (T4 a_n Z' cl) 5:=C3.dfn C3.o rfl X Gn D3 we (λ_ _ _ _ _ _=>us1 λ_=>rfl) (yv a_n Z' cl);have C5:Ch P w K mg _ (T5 a_n Z' cl) 6:=C4.dfn C4.o rfl X Gn D4 j5 (λ_ _ _ _ _ _=>us2 λ_ _=>rfl) (kB a_n Z' cl);have C6:Ch P w K mg _ (T6 a_n Z' cl) 7:=C5.dfn C5.o rfl X Gn D5 sP (λ_ _ _ _ _ _=>us2 λ_ _=>rfl) (uq a_n Z' cl);have C7:Ch P w K mg _ (T7 a_n Z' cl) 8:=C6.dfn C6.o rfl X Gn D6 q8 (λ_ _ _ _ _ _=>us3 λ_ _ _=>rfl) (sj a_n Z' cl);have C8:Ch P w K mg _ (T8 a_n Z' cl) 9:=C7.dfn C7.o rfl X Gn D7 wg (λ_ _ _ _ _ _=>us1 λ_=>rfl) (yx a_n Z' cl);have C9:Ch P w K mg _ (T9 a_n Z' cl) 10:=C8.dfn (T':=⟨(T8 a_n Z' cl).D,(T8 a_n Z' cl).C,[],(T8 a_n Z' cl).H,d_,(T8 a_n Z' cl).Z.to "str"⟩) (fun caps capv cds base Zy=>((C8.o caps capv cds base Zy).nm "str")) rfl X Gn D8 vk (fun _ _ _ _ _ _=>us1 fun _=>rfl) (vV a_n Z' cl);have A9:=C9.dfn (T':=⟨(T9 a_n Z' cl).D,(T9 a_n Z' cl).C,[],(T9 a_n Z' cl).H,d_,(T9 a_n Z' cl).Z.to "str"⟩) (fun caps capv cds base Zy=>((C9.o caps capv cds base Zy).nm "str")) rfl X Gn D9 ll (fun _ _ _ _ _ _=>us1 fun _=>rfl) (sx a_n Z' cl);have UO:Ch P w K mg _ (T10 a_n Z' cl) 12:=A9.raise (clR [5]) rfl hC X Gn D9 ll (λ_ _ _ _ _ _=>us1 λ_=>rfl) (rO a_n Z' cl);have Sv:=UO.dfn UO.o rfl X Gn Wf kP (λ_ _ _ _ _ _=>us1 λ_=>rfl) (rB a_n Z' cl);have UE:Ch P w K mg _ (T11 a_n Z' cl) 14:=Sv.raise (clR [5]) rfl hC X Gn Wf kP (λ_ _ _ _ _ _=>us1 λ_=>rfl) (qg a_n Z' cl);have Tg:=UE.dfn UE.o rfl X Gn Ws mV (λ_ _ _ _ _ _=>us1 λ_=>rfl) (uF a_n Z' cl);have Uw:Ch P w K mg _ (T12 a_n Z' cl) 16:=Tg.raise (clR [5]) rfl hC X Gn Ws mV (λ_ _ _ _ _ _=>us1 λ_=>rfl) (sH a_n Z' cl);have SK:=Uw.dfn Uw.o rfl X Gn Wj oo (λ_ _ _ _ _ _=>us1 λ_=>rfl) (wI a_n Z' cl);have UD:Ch P w K mg _ (T13 a_n Z' cl) 18:=SK.raise (clR [5]) rfl hC X Gn Wj oo (λ_ _ _ _ _ _=>us1 λ_=>rfl) (uU a_n Z' cl);have Uy:Ch P w K mg _ (T14 a_n Z' cl) 19:=UD.dfn UD.o rfl X Gn TM rT (λ_ _ _ _ _ _=>us2 λ_ _=>rfl) (sk a_n Z' cl);have U1:Ch P w K mg _ (T15 a_n Z' cl) 20:=Uy.dfn Uy.o rfl X Gn Ur uJ (λ_ _ _ _ _ _=>us2 λ_ _=>rfl) (wR a_n Z' cl);have Uz:Ch P w K mg _ (T16 a_n Z' cl) 21:=U1.dfn U1.o rfl X Gn Tv wm (λ_ _ _ _ _ _=>us2 λ_ _=>rfl) (yu a_n Z' cl);have Uc:Ch P w K mg _ (T17 a_n Z' cl) 22:=Uz.dfn Uz.o rfl X Gn TC uw (λ_ _ _ _ _ _=>us1 λ_=>rfl) (wO a_n Z' cl);have Ul:Ch P w K mg _ (T18 a_n Z' cl) 23:=Uc.dfn Uc.o rfl X Gn TX uu (λ_ _ _ _ _ _=>us1 λ_=>rfl) (xp a_n Z' cl);have Tq:Ch P w K mg _ (T19 a_n Z' cl) 24:=Ul.dfn Ul.o rfl X Gn TF qZ (λ_ _ _ _ _ _=>us0 rfl) (si a_n Z' cl);have TV:Ch P w K mg _ (T20 a_n Z' cl) 25:=Tq.dfn Tq.o rfl X Gn TJ vG (λ_ _ _ _ _ _=>us2 λ_ _=>rfl) (yt a_n Z' cl);have U8:Ch P w K mg _ (T21 a_n Z' cl) 26:=TV.dfn TV.o rfl X Gn Ui ui (λ_ _ _ _ _ _=>us2 λ_ _=>rfl) (xD a_n Z' cl);have UR:Ch P w K mg _ (T22 a_n Z' cl) 27:=U8.dfn U8.o rfl X Gn Ts uD (λ_ _ _ _ _ _=>us2 λ_ _=>rfl) (wo a_n Z' cl);have UQ:Ch P w K mg _ (T23 a_n Z' cl) 28:=UR.dfn UR.o rfl X Gn TQ ve (λ_ _ _ _ _ _=>us2 λ_ _=>rfl) (xi a_n Z' cl);have UK:Ch P w K mg _ (T24 a_n Z' cl) 29:=UQ.dfn UQ.o rfl X Gn Uk ot (λ_ _ _ _ _ _=>us1 λ_=>rfl) (pk a_n Z' cl);have UJ:Ch P w K mg _ (T25 a_n Z' cl) 30:=UK.dfn UK.o rfl X Gn UL o5 (λ_ _ _ _ _ _=>us1 λ_=>rfl) (qh a_n Z' cl);have Rl:Ch P w K mg _ (T26 a_n Z' cl) 30:=UJ.refd rfl X Gn W1 k8 (λ_ _ _ _ _ _=>us1 λ_=>rfl) lb mT (Mt a_n Z' cl) Rk;have RF:=UJ.refF rfl X Gn W1 k8 (λ_ _ _ _ _ _=>us1 λ_=>rfl) lb mT (Mt a_n Z' cl) Rk;have Um:Ch P w K mg _ (T27 a_n Z' cl) 33:=Rl.rgt rfl RF (by decide) (by simp) nd Xp X Gn Wz uG (fun _ _ _ _ _ _=>us3 fun _ _ _=>rfl) v8 (uW a_n Z' cl) (vn a_n Z' cl) uz (y:="group_read") (φ:=dz) (ψ:=dX) rfl rfl ZK (y':="walk_read") (φ':=dZ) (ψ':=eK) rfl rfl ZI;have Us:Ch P w K mg _ (T28 a_n Z' cl) 34:=Um.dfn (T':=⟨(T27 a_n Z' cl).D,(T27 a_n Z' cl).C,[],(T27 a_n Z' cl).H,d_,(T27 a_n Z' cl).Z.to "str"⟩) (fun caps capv cds base Zy=>((Um.o caps capv cds base Zy).nm "str")) rfl X Gn Tp xw (fun _ _ _ _ _ _=>us2 fun _ _=>rfl) (yr a_n Z' cl);have TU:Ch P w K mg _ (T29 a_n Z' cl) 35:=Us.dfn (T':=⟨(T28 a_n Z' cl).D,(T28 a_n Z' cl).C,[],(T28 a_n Z' cl).H,d_,(T28 a_n Z' cl).Z.to "str"⟩) (fun caps capv cds base Zy=>((Us.o caps capv cds base Zy).nm "str")) rfl X Gn Tu rL (fun _ _ _ _ _ _=>us1 fun _=>rfl) (sQ a_n Z' cl);have UH:Ch P w K mg _ (T30 a_n Z' cl) 36:=TU.dfn TU.o rfl X Gn TY ux (λ_ _ _ _ _ _=>us1 λ_=>rfl) (vH a_n Z' cl);have UU:Ch P w K mg _ (T31 a_n Z' cl) 37:=UH.dfn UH.o rfl X Gn UP ze (λ_ _ _ _ _ _=>us1 λ_=>rfl) (Bc a_n Z' cl);have U9:Ch P w K mg _ (T32 a_n Z' cl) 38:=UU.dfn (T':=⟨(T31 a_n Z' cl).D,(T31 a_n Z' cl).C,[],(T31 a_n Z' cl).H,d_,(T31 a_n Z' cl).Z.to "None"⟩) (fun caps capv cds base Zy=>((UU.o caps capv cds base Zy).nm "None")) rfl X Gn Uq pb (fun _ _ _ _ _ _=>us1 fun _=>rfl) (qb a_n Z' cl);have Rb:Ch P w K mg _ (T33 a_n Z' cl) 39:=U9.dfn U9.o rfl X Gn Uu qf (λ_ _ _ _ _ _=>us1 λ_=>rfl) (rm a_n Z' cl);exact Rb
variable{q:Program}
theorem all_mk{l:mH}{K:ai}{fa:e_}{Xa YS:e_}(X:K.In h)(Gn:h.Ns mainGlobals mg)(Wa:mg "law"=a_ (.ref fa))(B :∀ x∈iI,aJ K mainGlobals x=a_ b_)(kc0 :∃ t,aJ K mainGlobals "MOST_THINGS"=a_ (a_ (.int 24 t)))(kc1 :∃ t,aJ K mainGlobals "FIGURES"=a_ (a_ (.str "0123456789" t)))(kc2 :∃ t,aJ K mainGlobals "MOST_FIGURES"=a_ (a_ (.int 2 t)))(kc3 :∃ t,aJ K mainGlobals "LONGEST_WALK"=a_ (a_ (.int 60 t))){c0 c1 c2 c3 c4 c5 c6 wA:e_}(Vt:aJ K mainGlobals "TooMany"=a_ (a_ (.ref c0)))(Vl:aJ K mainGlobals "NotLevel"=a_ (a_ (.ref c1)))(V0:aJ K mainGlobals "NoLift"=a_ (a_ (.ref c2)))(Vh:aJ K mainGlobals "NotPlain"=a_ (a_ (.ref c3)))(V':aJ K mainGlobals "NoName"=a_ (a_ (.ref c4)))(W4:aJ K mainGlobals "BadNote"=a_ (a_ (.ref c5)))(V5:aJ K mainGlobals "NoTwist"=a_ (a_ (.ref c6)))(Vf:aJ K mainGlobals "WalkError"=a_ (a_ (.ref wA)))(rb:Kh K [c0,c1,c2,c3,c4,c5,c6] wA [5]=c_)(Xp:mainGlobals≠YS)(nd:([YS]:List e_).Nodup)
  (DA:JJ K dL) (Wz:rV K "_law_right" cP Xa YS) {Sd:DefRec} (VI:K.lookup YS=b_) (Wb:(mI q).find? (fun e=>e.name==("_law_right":Str))=a_ Sd) :
  ∃ (tabs:List (e_×Str)) (fd:FuncData) (sp:Sp),(∀ r∈tabs,K.lookup r.1=b_ /\ ∃ x d c,(mI q).find? (fun e=>e.name==x)=a_ d/\PySem.W.tabIn K x=a_ (c,r.1))/\(∀ (s:g_) (v:f_),BindsTo s fd ⟨[v],[]⟩ [("script",v)]) /\
   (∀ base:Heap,K.In base->base.Ns mainGlobals mg->f9 mg base->g9 l.prog w K mg base CX0 40 fa fd ["script"] sp) /\ ∀ (H:Hp) (a:e_) (ns:List Int),ns.length<=63->(∀ r∈tabs,yD H r.1 r.2)->SqL K H a (ns.map V.int)->sp [.ref a] H (fun v _=>v=.bl c_) fun _ _ _=>False:=by
 have DB:=DA;obtain⟨D0,D1,D2,D3,D4,D5,D6,D7,D8,D9,Wf,Ws,Wj,TM,Ur,Tv,TC,TX,TF,TJ,Ui,Ts,TQ,Uk,UL,W1,Tp,Tu,TY,UP,Uq,Uu,UB,_⟩:=DA;have DA:=DB;obtain⟨a_n,_,Zu,Zv⟩:=Ws.ex;obtain⟨Z',_,Zp,Zo⟩:=Wj.ex;obtain⟨Rk,hC⟩:=Kr (rz:= [5]) X Gn Vt Vl V0 Vh V' W4 V5 Vf rb;have CH:=chain (P:=l.prog) (w:=w) X Gn B (bK X Gn Zu) (bK X Gn Zp) kc0 kc1 kc2 kc3 Rk hC Xp nd DA Wz;obtain⟨fd,h1,h2⟩:=JV (l:=l) (w:=w) (tabs := [(YS,("_law_right":Str)++".<locals>."++"<lambda>")]) X Gn Wa UB HL (fun _ _ _ _ _ _=>us1 fun _=>rfl) rfl (fun base Zy=>CH.o [] [] [] base Zy) (NN a_n Z' _);refine⟨[(YS,("_law_right":Str)++".<locals>."++"<lambda>")],fd,_,?_,h1,h2,fun H a ns hl hT hS=>Mn hT hS fun S h1 h2=>BO a_n Z' (Kw Zv Zo (by decide +kernel)) ns hl S h1 h2⟩;intro r hr;simp only[bf,jc,_root_.or_false]at hr;rcases hr with rfl
 .exact⟨VI,_,_,_,Wb,Wz.tab⟩
theorem walk{l:mH}{loose:List Str}{XP:(Str->Option f_)->Heap->Prop}{YP:World->Heap->Prop}{d:DefRec}{K:Params->ai}(hn:l.most=a_ 63)(Xw:d.params.defaults=[])
  (hY:∀(w:World) (h:Heap),YP w h->(K w.params).In h)
  (F: ∀(w:World) (mg:Str->Option f_) (fa:e_) (h:Heap),(K w.params).In h->h.Ns mainGlobals mg->mg d.name=a_ (.ref fa) -> ∃(tabs:List (e_×Str)) (fd:FuncData) (sp:Sp),
   (∀ r∈tabs,(K w.params).lookup r.1=b_ /\ ∃ x d c,(mI q).find? (fun e=>e.name==x)=a_ d/\PySem.W.tabIn (K w.params) x=a_ (c,r.1))/\(∀ (s:g_) (v:f_),BindsTo s fd ⟨[v],[]⟩ [("script",v)]) /\
   (∀ base:Heap,(K w.params).In base->base.Ns mainGlobals mg->f9 mg base->g9 l.prog w (K w.params) mg base CX0 40 fa fd ["script"] sp) /\ ∀ (H:Hp) (a:e_) (ns:List Int),ns.length<=63->(∀ r∈tabs,yD H r.1 r.2)->SqL (K w.params) H a (ns.map V.int)->sp [.ref a] H (fun v _=>v = .bl c_) fun _ _ _=>False) :
  PySem.W.WalkO q loose XP YP l.row.toRowW d [] (λf vs=>PySem.call f vs):=
 DX (n:=63) (k:=40) (x:="script") hn (by decide) Xw ⟨rfl,by decide,by decide,rfl⟩ hY F
end _W
open PySem PySem.W PyProof.Rows
namespace PySem.W.Fast
theorem tw12285112251045808662:True:=trivial
theorem tw2348543323512467566:True:=trivial
theorem tw13109018490135862035:True:=trivial
theorem tw1801491645019064591:True:=trivial
theorem tw12083783639381436931:True:=trivial
theorem tw1804571513013614626:True:=trivial
theorem tw13250601676735816099:True:=trivial
theorem tw1682668279343294161:True:=trivial
theorem tw12086328715718068136:True:=trivial
theorem tw6032925030388482106:True:=trivial
theorem tw11518841299840461668:True:=trivial
theorem tw8911201593404288275:True:=trivial
theorem tw12876182239755419349:True:=trivial
theorem tw16300589565406765968:True:=trivial
theorem tw9538044811189289141:True:=trivial
theorem tw8397813321762012480:True:=trivial
theorem tw14244007710184743894:True:=trivial
theorem tw13240519967747747865:True:=trivial
theorem tw12184570982588507026:True:=trivial
theorem tw17185003177581910137:True:=trivial
theorem tw12777236541217963899:True:=trivial
theorem tw680527215057926082:True:=trivial
theorem tw1455042571221335634:True:=trivial
theorem tw17063197445326887904:True:=trivial
theorem tw17670579721074460617:True:=trivial
theorem tw9985705494653372163:True:=trivial
theorem tw8642065000345220154:True:=trivial
theorem tw18113416428267189743:True:=trivial
theorem tw989243781330940998:True:=trivial
theorem tw13122936879711849516:True:=trivial
theorem tw12426204008186025296:True:=trivial
theorem tw12613413466059795119:True:=trivial
theorem tw15936719976993271501:True:=trivial
theorem tw4538858493325518499:True:=trivial
theorem tw13955554863567241546:True:=trivial
theorem tw9684939009636859861:True:=trivial
theorem tw13786668205164249877:True:=trivial
theorem tw3799642524152216016:True:=trivial
theorem tw9297843476681682525:True:=trivial
theorem tw5567663938809138506:True:=trivial
theorem tw13675717623752867498:True:=trivial
theorem tw15847962152736687225:True:=trivial
theorem tw3848415697644656850:True:=trivial
theorem tw596694776458197123:True:=trivial
theorem tw16501309285204913074:True:=trivial
theorem tw14421822769375243633:True:=trivial
theorem tw17187395228994126543:True:=trivial
theorem tw10412457808665272767:True:=trivial
theorem tw10816036736117709756:True:=trivial
theorem tw17502498398221983009:True:=trivial
theorem tw3069550903841080560:True:=trivial
theorem tw8609149708866913231:True:=trivial
theorem tw16848549282033592577:True:=trivial
theorem tw16946225493947587724:True:=trivial
theorem tw5174161905068411307:True:=trivial
theorem tw16058439735737876344:True:=trivial
theorem tw14749124846959036628:True:=trivial
theorem tw577531260287779419:True:=trivial
theorem tw6756693355282131270:True:=trivial
theorem tw15305368464487684028:True:=trivial
theorem tw11298327144755553285:True:=trivial
theorem tw12142394689425053866:True:=trivial
theorem tw14237850413944913998:True:=trivial
theorem tw8524959755861228905:True:=trivial
theorem tw16051792350722579262:True:=trivial
theorem tw4587091847200893912:True:=trivial
theorem tw149777611754522417:True:=trivial
theorem tw16518095510497808489:True:=trivial
theorem tw7654962592924754671:True:=trivial
theorem tw8834510500910671293:True:=trivial
theorem tw1816991985783857195:True:=trivial
theorem tw15683830126471452722:True:=trivial
theorem tw5569088975193463962:True:=trivial
theorem tw532305041117072571:True:=trivial
theorem tw6769018781543275125:True:=trivial
theorem tw13164391947109334089:True:=trivial
theorem tw12712037756129299252:True:=trivial
theorem tw14537311948015544821:True:=trivial
theorem tw11963833970398419156:True:=trivial
theorem tw11227334531858906422:True:=trivial
theorem tw3334511210373117072:True:=trivial
theorem tw8432345542102227050:True:=trivial
theorem tw8871319383009688917:True:=trivial
theorem tw13519453514882187850:True:=trivial
theorem tw8521123276367054449:True:=trivial
theorem tw7805807308375920140:True:=trivial
theorem tw16453201371424352004:True:=trivial
theorem tw7238431339634587151:True:=trivial
theorem tw6416594153978175773:True:=trivial
theorem tw2827376233380584883:True:=trivial
theorem tw6385849818090880495:True:=trivial
theorem tw2607635072261855197:True:=trivial
theorem tw13355428727378447:True:=trivial
theorem tw14331525301733986888:True:=trivial
theorem tw16561718244739761445:True:=trivial
theorem tw12885370391470043312:True:=trivial
theorem tw11077792622051260057:True:=trivial
theorem tw11095004688814419630:True:=trivial
theorem tw4532636690420964008:True:=trivial
theorem tw7464864238820118486:True:=trivial
theorem tw12463203224452758379:True:=trivial
theorem tw8366196004341116633:True:=trivial
theorem tw8513821619634481562:True:=trivial
theorem tw4932580860260071048:True:=trivial
theorem tw10271432625009356464:True:=trivial
theorem tw7149327071196923946:True:=trivial
theorem tw82337844617169275:True:=trivial
theorem tw17663083917882158270:True:=trivial
theorem tw347698109346958033:True:=trivial
theorem tw1450219320130492469:True:=trivial
theorem tw2905065224450766451:True:=trivial
theorem tw15904030599495992130:True:=trivial
theorem tw3235167259246839477:True:=trivial
theorem tw14863196488900006530:True:=trivial
theorem tw7166974937999111029:True:=trivial
theorem tw11140094194888417150:True:=trivial
theorem tw4540551767891155796:True:=trivial
theorem tw7627898376779013795:True:=trivial
theorem tw8630620352482564736:True:=trivial
theorem tw15628522452125733563:True:=trivial
theorem tw8085975138488830601:True:=trivial
theorem tw1671690439142416501:True:=trivial
theorem tw9695247837036006608:True:=trivial
theorem tw15383386565332790999:True:=trivial
theorem tw9276535069785509191:True:=trivial
theorem tw640804853531465123:True:=trivial
theorem tw16645893021730927746:True:=trivial
theorem tw17755844855045668195:True:=trivial
theorem tw5790315054370123955:True:=trivial
theorem tw6298752986591536595:True:=trivial
theorem tw4780079178056374111:True:=trivial
theorem tw2095850395925190814:True:=trivial
theorem tw460838212750521029:True:=trivial
theorem tw12131912586517569299:True:=trivial
theorem tw2340092181286599331:True:=trivial
theorem tw5039141138176168786:True:=trivial
theorem tw2851724346453917425:True:=trivial
theorem tw6915518912776659631:True:=trivial
theorem tw4893401634707708720:True:=trivial
theorem tw7739735232263844892:True:=trivial
theorem tw7239549503561272393:True:=trivial
theorem tw14354676983967399951:True:=trivial
theorem tw18342178046114935354:True:=trivial
theorem tw9609781023123860085:True:=trivial
theorem tw3580237635814000201:True:=trivial
theorem tw9997398654901183105:True:=trivial
theorem tw4185852094136982010:True:=trivial
theorem tw14017125762749789258:True:=trivial
theorem tw10294042458776979594:True:=trivial
theorem tw8883486446826787843:True:=trivial
theorem tw1391394909685262062:True:=trivial
theorem tw18227302316188915329:True:=trivial
theorem tw2950927828880740993:True:=trivial
theorem tw17331717374139717565:True:=trivial
theorem tw5293866719373088741:True:=trivial
theorem tw3178801275279133010:True:=trivial
theorem tw15549910847488708802:True:=trivial
theorem tw7015821252573874179:True:=trivial
theorem tw7600220549153924860:True:=trivial
theorem tw15350820633246449763:True:=trivial
theorem tw4206838242080312451:True:=trivial
theorem tw94033411195480657:True:=trivial
theorem tw12917758416057576580:True:=trivial
theorem tw16560408953252031583:True:=trivial
theorem tw5404251287445913947:True:=trivial
theorem tw16192203530531386993:True:=trivial
theorem tw13157983210111770670:True:=trivial
theorem tw4420621492000487663:True:=trivial
theorem tw12758724840597072717:True:=trivial
theorem tw10074175806217187322:True:=trivial
theorem tw8344463049116600885:True:=trivial
theorem tw701388094973811759:True:=trivial
theorem tw16202532674876674536:True:=trivial
theorem tw408871770102436369:True:=trivial
theorem tw14977107616631920145:True:=trivial
theorem tw3185697302290062907:True:=trivial
theorem tw8845282485373387704:True:=trivial
theorem tw6506629660400055013:True:=trivial
theorem tw11803063204853981214:True:=trivial
theorem tw12091771256515568925:True:=trivial
theorem tw9119775200108405409:True:=trivial
theorem tw13661561486989520546:True:=trivial
theorem tw4330782979296125350:True:=trivial
theorem tw15534926283382152547:True:=trivial
theorem tw12625477114250250907:True:=trivial
theorem tw15946532985299995885:True:=trivial
theorem tw5479843913782104218:True:=trivial
theorem tw12498963292543892548:True:=trivial
theorem tw2699019088688620294:True:=trivial
theorem tw18299449751710729159:True:=trivial
theorem tw13365702084450493246:True:=trivial
theorem tw15211295118601230037:True:=trivial
theorem tw720826649676719712:True:=trivial
theorem tw158493964318585388:True:=trivial
theorem tw15429101303555453782:True:=trivial
theorem tw3500100325452968818:True:=trivial
theorem tw3158896719092807832:True:=trivial
theorem tw16222975247855775811:True:=trivial
theorem tw7793357224766626269:True:=trivial
theorem tw6864428585059747099:True:=trivial
theorem tw5630423065742601989:True:=trivial
theorem tw14224721497754570186:True:=trivial
theorem tw2443062578348828462:True:=trivial
theorem tw3493012255352507730:True:=trivial
theorem tw6144956365180295427:True:=trivial
theorem tw6001286355347809574:True:=trivial
theorem tw5892609659416557556:True:=trivial
theorem tw5408345940133797410:True:=trivial
theorem tw11208751564464925294:True:=trivial
theorem tw12126468511262479972:True:=trivial
theorem tw3603190960664252065:True:=trivial
theorem tw10408831564331529607:True:=trivial
theorem tw6112386951794451770:True:=trivial
theorem tw15314195864111720736:True:=trivial
theorem tw9836840049424770074:True:=trivial
theorem tw12632183145904349865:True:=trivial
theorem tw16541053342102477242:True:=trivial
theorem tw2230096960148689804:True:=trivial
theorem tw13840307946703817664:True:=trivial
theorem tw1210967555872729907:True:=trivial
theorem tw16201339271471809048:True:=trivial
theorem tw2110457364370420216:True:=trivial
end PySem.W.Fast
set_option maxRecDepth 100000 in
set_option maxHeartbeats 0 in
theorem PySem.Challenge.cw_groupwalks_k92_texts_that_write_none_holds : PySem.Challenge.rw_groupwalks_k92_texts_that_write_none.Holds := by
 w_on;o_law;k_head;(case hw=>w_witness2)
 k_fill
 refine _W.walk (l:=PySem.Challenge.rw_groupwalks_k92_texts_that_write_none) rfl rfl (λw h u8=>PySem.W.km_in_of u8) ?F
 case F=>
  intro w mg fa h KX Gh WV;refine' _W.all_mk KX Gh WV ?B ?con0 ?con1 ?con2 ?con3 ?Vt ?Vl ?V0 ?Vh ?V' ?W4 ?V5 ?Vf ?rb ?Xp ?nd ?DA (_G.Fh ?a26 ?l26 ?c26 ?Xa ?e26 ?u26 ?v26 ?w26 ?x26 ?y26 ?z26 ?t26) ?VI ?Wb
  (case con0=>exact⟨_,by k_is⟩)
  (case con1=>exact⟨_,by k_is⟩)
  (case con2=>exact⟨_,by k_is⟩)
  (case con3=>exact⟨_,by k_is⟩)
  (case Vt=>k_is)
  (case Vl=>k_is)
  (case V0=>k_is)
  (case Vh=>k_is)
  (case V'=>k_is)
  (case W4=>k_is)
  (case V5=>k_is)
  (case Vf=>k_is)
  (case rb=>kernel_rfl)
  case B=>
   intro x hx;simp only[_G.iI,bf,jc,or_false]at hx;rcases hx with rfl|rfl|rfl|rfl|rfl|rfl|rfl|rfl|rfl|rfl|rfl|rfl|rfl|rfl|rfl|rfl|rfl|rfl|rfl|rfl
   all_goals k_is
  case DA=>
   iterate 33 (refine' And.intro (_G.JS ?a ?l ?c ?k) ?_;(case a=>k_is);(case l=>k_is);(case c=>k_is);(case k=>k_is))
   trivial
  (case a26=>k_is);(case l26=>k_is);(case c26=>k_is);(case Xa=>k_is)
  (case e26=>k_is);(case u26=>rfl);(case v26=>rfl);(case w26=>rfl);(case x26=>rfl);(case y26=>rfl);(case z26=>rfl);(case t26=>decide)
  (case Xp=>decide)
  (case nd=>decide)
  (case VI=>kernel_rfl);(case Wb=>rfl)
