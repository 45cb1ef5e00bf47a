import PyProof.Rows.All
import Wide.All
import OpenK.AllK
import Wide.FinOn
import Lean
import PyProof.EqAt
import PyProof.EqKinds
import PyProof.TupleCall
import PyProof.EnumStmt
import PyProof.EnumMake
import PyProof.EnumFor
import PyProof.ZipIter
import PyProof.CompFree
import PyProof.CompMap
import PyProof.Cells
import PyProof.ListMulRoad
import PyProof.ConsumeWalk
import PyProof.TupleOfGen
import PyProof.ListRange
import PySem.Challenge.RW_groupwalks_k44_too_many_things
set_option bootstrap.genMatcherCode false
set_option Elab.async false
set_option linter.all false
set_option maxRecDepth 100000
set_option maxHeartbeats 0
set_option compiler.postponeCompile true
set_option bootstrap.genMatcherCode false
set_option genSizeOfSpec false
set_option relaxedAutoImplicit false
set_option compiler.extract_closed false
theorem au1(h:0=0:=by rfl):0=0:=h
theorem au2(h:0=0:=by decide):0=0:=h
theorem au3(h:Nat->0=0:=by intro _;rfl):0=0:=h 0
theorem au4(h:0=0\/0=1:=by first |exact .inl rfl |exact .inr rfl |assumption):0=0:=rfl
noncomputable section
open Array renaming length_toList→gd,toList_append→CY
open Bool renaming and_eq_true→ao,false_ne_true→bE,and_eq_true_iff→ek,false_eq_true→gL,or_eq_true→ny,and_true→pR
open Classical renaming propDecidable→bJ,byContradiction→tS
open False renaming elim→bC
open ForInStep renaming yield→de
open Int renaming ofNat_lt→fi,natCast_emod→mM,natCast_nonneg→rD,emod_lt_of_pos→rH,toNat_natCast→su,natCast_ediv→uW,toNat→uX,emod_nonneg→wW,natCast_add→wX,eq_ofNat_of_zero_le→AD
open List renaming getElem?_eq_some_iff→af,replicate→aq,getElem?_append_right→ar,mem_cons_of_mem→aw,getElem?_set_ne→ay,size_toArray→aC,length_map→aE,lookup_cons→aF,getElem?_set_self→aI,mem_append_right→aL,range→aO,mem_cons_self→aP,getElem?_append_left→aQ,mem_range→aS,mem_cons→aX,map_congr_left→aY,mem_append_left→bc,append_assoc→be,length_append→bg,range'→bj,mem_map→bB,map_cons→bD,getElem?_eq_getElem→bG,map_append→bR,length_range→bT,all_cons→bX,mem_append→bZ,replicate_succ→ck,getElem?_map→cw,all_eq_true→cH,eq_nil_of_length_eq_zero→cQ,append_nil→cW,map_map→cX,getD_eq_getElem?_getD→dh,find?_cons→dn,length_cons→dv,mem_reverse→dw,nil_append→dG,filterMap_cons→dI,nodup_iff_pairwise_ne→dW,findIdx?_eq_some_iff_getElem→d6,getElem?_eq_none_iff→d7,range_succ→ee,mem_of_getElem?→eg,flatten_cons→ej,getElem?_replicate→eF,take_append_of_le_length→eO,mem_singleton→eQ,mem_filter→fj,nodup_cons→fk,length_set→fq,length_nil→ft,flatMap_append→gh,any_cons→gI,lookup_append→gM,nodup_append→iB,mem_range'_1→iC,length_replicate→iO,set_append_right→iP,length_filter_le→iQ,mem_flatMap→iS,of_mem_zip→jC,forIn_cons→jE,length_range'→ki,drop_eq_getElem_cons→kF,reverse_cons→kM,idxOf_lt_length_iff→kQ,length_take→mI,getElem_mem→mK,map_nil→mT,foldl→mU,lookup→oA,reverse_append→pC,findIdx?_cons→qj,all_nil→rK,pairwise_map→rL,nodup_range'→rM,reverse_perm→rN,range'_succ→tN,drop_length→tP,isEmpty_iff→tQ,nodup_range→tR,foldl_cons→uY,pairwise_iff_getElem→yk,range'_eq_map_range→zp,getElem?_cons_succ→Au,getElem?_cons_zero→Av,filter_cons_of_pos→Aw,filter_cons_of_neg→Ax,range_succ_eq_map→AC,drop_of_length_le→AE,take_of_length_le→AF,dropLast_eq_take→CN,getElem?_eq_none→CQ,getElem_toArray→CW,range_eq_range'→CZ,mem_of_mem_take→Dc
open List.Pairwise renaming nil→gf,imp_of_mem→jk
open List.Perm renaming trans→Da
open Nat renaming lt_of_lt_of_le→ai,le_refl→ak,le_trans→aB,lt_of_le_of_lt→aK,le_of_lt→aT,ne_of_lt→br,mod_eq_of_lt→bu,lt_irrefl→bN,le_of_not_lt→bS,le_succ→bY,add_pos_left→b9,lt_succ_self→cY,ne_of_gt→di,le_of_lt_succ→dk,lt_trans→dz,le_add_right→dU,zero_le→en,add_assoc→eC,zero_add→fh,lt_succ_of_lt→fG,mul_le_mul_right→fY,div_eq_of_lt→gg,mul_le_mul_left→gH,sub_le→gU,mul_comm→iH,le_succ_of_le→iI,min_le_left→jW,add_sub_cancel'→j0,le_of_eq→kg,lt_of_le_of_ne→kA,add_mod_right→kO,sub_sub_right→kP,sub_add_comm→mL,add_comm→nv,add_zero→nz,mod_self→nA,mod_add_mod→nB,mod_lt→rE,lt_of_lt_of_eq→rF,sub_add_cancel→rG,lt_of_succ_lt_succ→CP
open Ne renaming symm→dM
open Option renaming bind_some→ax,map_some→bx,isSome_iff_exists→cj,filter_eq_some_iff→kh,isSome_some→CV
open Option.some renaming inj→bL,injEq→eJ
open PUnit renaming unit→pQ
open PyProof.Rows renaming slot_tuple_getitem→d4,callWith_type1→eI,recsOf→fB,boot_tuple→sx
open PyProof.Rows.IsTup renaming new→oy
open PySem renaming wpAny_bind→az,wpAny_pure→aJ,wpAny→aR,wpAny_mono→bI,mem_of_lookup→bM,Addr→cm,wpAny_Call_Name_kw→dB,wpAny_newObj_type→dJ,wpAny_passesOwn→fR,wpAny_loadPart'→fT,codeAny_mono→gK,wpAny_execs_nil→iz,codeAny_builtin→iA,wpAny_truthy_bool→ja,wpAny_loadPart_at→jf,wpAny_holding→jX,codeAny→jY,PyData→rJ,wpAny_assign_Name→wN,wpAny_typeOf→wO,call→wQ,wpAny_execs_cons→yi,wpAny_call_entry→yj,wpAny_binaryOp_repeat_ref→CT
open PySem.Around renaming under_plainId→fH,frames_deeper→AA
open PySem.AutoSeq1 renaming idx_int→ql
open PySem.Builtin.List renaming listTooLong→jD
open PySem.Builtin.Range renaming rangeSize→dr,small→mj
open PySem.Builtin.Slice renaming slicePlaces→fo,sliceAdjust→jc,sliceApplied→pM
open PySem.Builtin.Tuple renaming tupleExact→dj,tupleItemsOf→pN,tupleIsExact→pO,tupleTooMany→pP
open PySem.Calls renaming spliced_cons→eN,Constant_str→gJ,spliced_nil→iy,evalArgs_plain→jd,Name_function_global→wM,callWith_builtin→Aq
open PySem.Data renaming seq→wZ
open PySem.F renaming typeOf_object_class→jj,args_tuple_add_2→kz,entry_tuple_add→kK,slot_tuple_add→md,plain_list_iadd→mJ,slot_int_rmul→oz,args_tuple_mul_2→sv,entry_tuple_mul→uT,excBase_ValueError→uU,slot_tuple_mul→wU,slot_tuple_index→wV,plainAttrs_list→w9
open PySem.Heap renaming get?_push_of_some→av,lt_size→aG,get?_push_size→aH,size_push→bA,get?_update_other→eP,FlyingW→mV,SameBut→Ay,get?_update_self→CL,ExtBut→CU
open PySem.IsL renaming update→CM
open PySem.NameKind renaming free→aN,cell→cf
open PySem.Obj renaming mapSeq→ff
open PySem.Paired renaming length→wY
open PySem.PassesOwn renaming never→kN
open PySem.PyData renaming canLay0→df,canLayAll0→d8,eqv→d9,intsShort→iK,depthAll→jg,showable→jh,depth→jF,eqv→jZ,intsShortAll→oB,showableAll→pB,int→zq
open PySem.SeqAt.EqAt renaming int_str→zm,str_int→zo
open PySem.Str renaming empty→jb,ofString→CK
open PySem.Value renaming ref→bH,builtin→pA,none→wK,bool→wL,int→zk,str→zl
open PySem.W renaming Frag→ah,nsIn→aU,mg_of→bF,hideAll→bO,keepIn→bP,fnOf→cb,kitOne→cx,emptyDict→dA,hideAll_get→et,instObj→eM,hideAll_none→fE,codeIn→fF,cellsFrom_some→gS,OpenLaw→je,of_hideAll→jU,findIn→jV,callWith_K→oZ,methodObj→pL,lookIn→uS,exmOne→uV,WalkO→wR,hideAll_size→Ap,kla_callFunE→Ar,kla_codeExpr→As,callWith_K0→Az,callWith_of→AB,mg_none_of→CO,specialIn→CS
open PySem.W.Looks renaming ld→ox
open Sum renaming inl→pz,inr→sr
open True renaming intro→qi
section
namespace _L
open PySem PySem.Spec PyProof.Rows
abbrev Key:=Sum Int Str
noncomputable def sD:Key->Value->Bool
 | .inl k,v=>Value.isInt k v
 | .inr x,v=>Value.isStrOf x v
noncomputable def LC(w:World):Key->Int
 | .inl k=>hashInt k
 | .inr x=>hashStr w x
theorem dP: ∀{k:Key}{v:Value},sD k v=true->(∃i t,k=pz i/\v=zk i t)\/(∃x t,k=sr x/\v=zl x t)
 | .inl i,v,h=>by
   obtain⟨t,e⟩:=Value.isInt_shape (k:=i) (v:=v) h
   exact .inl ⟨i,t,rfl,e⟩
 | .inr x,v,h=>by
   obtain⟨t,e⟩:=Value.isStrOf_shape (x:=x) (v:=v) h
   exact .inr ⟨x,t,rfl,e⟩
theorem zW(i:Int)(t:Tok):sD (.inl i) (.int i t)=true:=by simp[sD,Value.isInt]
theorem Am(x:Str)(t:Tok):sD (.inr x) (.str x t)=true:=by simp[sD,Value.isStrOf]
theorem ID(a b:Int):decide ((pz a:Key)=pz b)=(a==b):=by
 by_cases e:a=b
 ·subst e;simp
 ·have h: ¬(pz a:Key)=pz b:=λq=>e (Sum.inl.inj q)
  rw[decide_eq_false h]
  exact(beq_eq_false_iff_ne.mpr e).symm
theorem HH(a b:Str):decide ((sr a:Key)=sr b)=decide (a=b):=by
 by_cases e:a=b
 ·subst e;simp
 ·have h: ¬(sr a:Key)=sr b:=λq=>e (Sum.inr.inj q)
  rw[decide_eq_false h,decide_eq_false e]
theorem Gu(a:Int)(b:Str):decide ((pz a:Key)=sr b)=false:=decide_eq_false (λq=>nomatch q)
theorem F6(a:Str)(b:Int):decide ((sr a:Key)=pz b)=false:=decide_eq_false (λq=>nomatch q)
noncomputable def fw(prog:Program)(w:World):PySem.KeyKind prog w Key where
 is:=sD
 hash:=LC w
 inj:=λv a b ha hb=>by
  rcases dP ha with⟨i,t,rfl,rfl⟩ | ⟨x,t,rfl,rfl⟩
  ·rcases dP hb with⟨j,u,rfl,e⟩ | ⟨y,u,rfl,e⟩
   ·injection e with e1 _;rw[e1]
   ·exact nomatch e
  ·rcases dP hb with⟨j,u,rfl,e⟩ | ⟨y,u,rfl,e⟩
   ·exact nomatch e
   ·injection e with e1 _;rw[e1]
 byValue:=λk v h=>by
  rcases dP h with⟨i,t,rfl,rfl⟩ | ⟨x,t,rfl,rfl⟩ <;> rfl
 pyHash:=λhv h=>by
  rcases dP hv with⟨i,t,rfl,rfl⟩ | ⟨x,t,rfl,rfl⟩
  ·exact wpAny_pyHash_int h
  ·exact wpAny_pyHash_str h
 eqBool:=λhu hv h=>by
  rcases dP hu with⟨i,t,rfl,rfl⟩ | ⟨x,t,rfl,rfl⟩
  ·rcases dP hv with⟨j,u,rfl,rfl⟩ | ⟨y,u,rfl,rfl⟩
   ·rw[ID]at h;exact wpAny_eqBool_int h
   ·rw[Gu]at h;exact zm i t y u _ _ _ _ h
  ·rcases dP hv with⟨j,u,rfl,rfl⟩ | ⟨y,u,rfl,rfl⟩
   ·rw[F6]at h;exact zo x t j u _ _ _ _ h
   ·rw[HH]at h;exact wpAny_eqBool_str h
 «strs»:=λk x t v h=>by
  rcases dP h with⟨i,u,rfl,e⟩ | ⟨y,u,rfl,e⟩
  ·exact nomatch e
  ·injection e with e1 _
   subst e1
   cases v <;> rfl
theorem v8(prog:Program)(w:World)(i:Int)(t:Tok):(fw prog w).is (.inl i) (.int i t)=true:=zW i t
theorem wc(prog:Program)(w:World)(x:Str)(t:Tok):(fw prog w).is (.inr x) (.str x t)=true:=Am x t
end _L
namespace _L
open PySem PySem.Spec PyProof.Rows
inductive V where
 | non |bl (b:Bool) |int (i:Int) |str (x:Str) |byt (b:Array UInt8) |flt (b:UInt64) |ref (a:Addr) |ty (n:String)
noncomputable def RelV:V->Value->Prop
 | .non,u=>u=wK
 | .bl b,u=>u=wL b
 | .int i,u =>∃t,u=zk i t
 | .str x,u =>∃t,u=zl x t
 | .byt b,u =>∃t,u=Value.bytes b t
 | .flt b,u =>∃t,u=Value.float b t
 | .ref a,u=>u=bH a
 | .ty n,u=>u=Value.type n
abbrev bK:List V->List Value->Prop:=Paired RelV
theorem bK.length{xs:List V}{us:List Value}(r:bK xs us):xs.length=us.length:=wY r
theorem bK.get: ∀{xs:List V}{us:List Value}{i:Nat}{x:V},bK xs us->xs[i]? = some x -> ∃u,us[i]? = some u/\RelV x u
 | _,_,_,_,.nil,e=>by simp at e
 | _,_,0,_,.cons r _,e=>by simp at e;subst e;exact⟨_,rfl,r⟩
 | _,_,i+1,x,.cons _ t,e=>by
   obtain⟨u,h1,h2⟩:=bK.get (i:=i) (x:=x) t (by simpa using e)
   exact⟨u,by simpa using h1,h2⟩
theorem bK.set{x:V}{u:Value}(r:RelV x u): ∀{xs:List V}{us:List Value} (i:Nat),bK xs us->bK (xs.set i x) (us.set i u)
 | _,_,_,.nil => .nil
 | _,_,0,.cons _ t => .cons r t
 | _,_,i+1,.cons q t => .cons q (bK.set r i t)
theorem bK.append: ∀{xs ys:List V}{us ws:List Value},bK xs us->bK ys ws->bK (xs++ys) (us++ws)
 | _,_,_,_,.nil,s=>s
 | _,_,_,_,.cons r t,s => .cons r (bK.append t s)
theorem bK.take: ∀{xs:List V}{us:List Value} (n:Nat),bK xs us->bK (xs.take n) (us.take n)
 | _,_,0,_ => .nil
 | _,_,_+1,.nil => .nil
 | _,_,n+1,.cons r t => .cons r (bK.take n t)
theorem bK.drop: ∀{xs:List V}{us:List Value} (n:Nat),bK xs us->bK (xs.drop n) (us.drop n)
 | _,_,0,r=>r
 | _,_,_+1,.nil => .nil
 | _,_,n+1,.cons _ t=>bK.drop n t
theorem bK.none_of: ∀{xs:List V}{us:List Value}{i:Nat},bK xs us->xs[i]? = none->us[i]? = none:=λ{xs us i} r e=>by
 have h1:=r.length
 have h2:xs.length<=i:=d7.mp e
 exact d7.mpr (by omega)
noncomputable def om:Option V->Option Value->Prop
 | some v,some u=>RelV v u
 | none,none=>True
 | _,_=>False
noncomputable def KV{κ:Type}:List (κ×V)->List (κ×Value)->Prop:=Paired λ(p:κ×V) (q:κ×Value)=>p.1=q.1/\RelV p.2 q.2
noncomputable def kV:Key->V
 | .inl i => .int i
 | .inr x => .str x
inductive HO where
 | lst (xs:List V)
 | tup (xs:List V)
 | dK (kvs:List (Key×V)) |dT (kvs:List (List Key×V))
 | set (S:Int->Bool) (n:Nat)
 | ins (C dx:Addr) (fs:List (Str×V))
 | own (x:Addr)
 | xd (fs:List (Str×V))
 | met (f x:Addr)
 | rng (lo hi:Int)
 | frz (o:Obj) (u:HO)
 | tbl (ps:Array Value)
 | ext (φ:Heap->Prop)
abbrev Hp:=Addr->Option HO
noncomputable def upd(H:Hp)(a:Addr)(o:HO):Hp:=λb=>if b=a then some o else H b
theorem cq{H:Hp}{a:Addr}{o:HO}:upd H a o a=some o:=by unfold upd;rw[if_pos rfl]
theorem aZ{H:Hp}{a b:Addr}{o:HO}(h:b≠a):upd H a o b=H b:=by unfold upd;rw[if_neg h]
theorem og{H:Hp}{a b:Addr}{o u:HO}(h:H a=some o)(h':H b=some u)(d:o≠u):a≠b:=by
 intro e;subst e;rw[h]at h';exact d (bL h')
theorem aW{H:Hp}{a b:Addr}{o:HO}(h:H a=some o)(h':H b=none):a≠b:=by
 intro e;subst e;rw[h]at h';cases h'
section
variable (P:Program) (w:World)
noncomputable def eZ(H:Hp)(h:Heap)(a:Addr):HO->Prop
 | .lst xs=>xs.length<=sizeLine /\ ∃ (its:List Value) (n:Nat),bK xs its/\h.get? a=some { cls := .type "list",data := .seq its.toArray n }
 | .tup xs=>xs.length<=sizeLine /\ ∃its:List Value,bK xs its/\IsTup h a its.toArray /\ ∃o,h.get? a=some o/\o.dict=none
 | .dK kvs=>kvs.length<=sizeLine/\(a==sysModules)=false /\ ∃vs,KV kvs vs/\h.DictOf (fw P w) a vs
 | .dT kvs=>kvs.length<=sizeLine/\(a==sysModules)=false /\ ∃xs:List (List Key×Addr×Value),
   Paired (λ(p:List Key×V) (q:List Key×Addr×Value)=>p.1=q.1/\H q.2.1=some (.tup (p.1.map kV))/\RelV p.2 q.2.2) kvs xs /\
   ∃o es ep,h.get? a=some o/\o.ExactDict/\o.data = .dict es ep/\es.toList=xs.map (entryOfKey (tupleKind (fw P w)))/\(xs.map (·.1)).Nodup
 | .set S n=>h.SetOf (intKind P w) a S n
 | .ins C dx fs=>H dx=some (.own a)/\fs.length<=1000/\dx≠a/\h.get? a=some (eM C dx) /\
   ∃mA,h.Ns1 dx mA/\(∀f,om (fs.lookup f) (mA f))/\PySem.Within mA (fs.map (·.1))
 | .own _ =>∃o,h.get? a=some o
 | .xd fs =>∃mA,h.Ns1 a mA /\ ∀f,om (fs.lookup f) (mA f)
 | .rng lo hi => ∃ t u v,h.get? a=some { cls := .type "range",data := .fields #[.int lo t,.int hi u,.int 1 v] }
 | .frz o u=>h.get? a=some o/\eZ H h a u
 | .tbl ps=>h.get? a=some { cls:= .none,data:= .fields ps }
 | .met f x=>h.get? a=some (pL (.ref f) (.ref x))
 | .ext φ=>φ h/\(∃o,h.get? a=some o) /\ ∀h1 h2:Heap,φ h1->(∀o,h1.get? a=some o->h2.get? a=some o)->φ h2
noncomputable def HOk(H:Hp)(h:Heap):Prop:= ∀a o,H a=some o->eZ P w H h a o
end
section
variable {P:Program}{w:World}{H H':Hp}{h h':Heap}{a:Addr}{o:HO}
theorem eZ.lt(x:eZ P w H h a o):a<h.objs.size:=by
 cases o with
 | lst xs=>obtain⟨_,_,_,_,e⟩:=x;exact aG e
 | tup xs=>obtain⟨_,_,_,p⟩:=x;exact p.1.lt
 | dK kvs=>obtain⟨_,_,_,_,o,_,_,e,_⟩:=x;exact aG e
 | dT kvs=>obtain⟨_,_,_,_,o,_,_,e,_⟩:=x;exact aG e
 | set S n=>obtain⟨o,_,_,_,e,_⟩:=x;exact aG e
 | ins C dx fs=>obtain⟨_,_,_,e,_⟩:=x;exact aG e
 | own y=>obtain⟨_,e⟩:=x;exact aG e
 | xd fs=>obtain⟨_,⟨_,_,_,e,_⟩,_⟩:=x;exact aG e
 | rng lo hi=>obtain⟨_,_,_,e⟩:=x;exact aG e
 | frz ob u=>obtain⟨e,_⟩:=x;exact aG e
 | tbl ps=>exact aG (show h.get? a=some _ from x)
 | met f y=>exact aG (show h.get? a=some _ from x)
 | ext φ=>obtain⟨_,⟨_,e⟩,_⟩:=x;exact aG e
theorem Paired.mapP{α β:Type}{F G:α->β->Prop}: ∀{l₁:List α}{l₂:List β},Paired F l₁ l₂->(∀a b,F a b->G a b)->Paired G l₁ l₂:=by
 intro l m h f
 induction h with
 | nil=>exact .nil
 | cons r t ih=>exact .cons (f _ _ r) ih
theorem eZ.stay(x:eZ P w H h a o)(k: ∀b u,(b=a\/H b=some (.own a))->h.get? b=some u->h'.get? b=some u)
  (ho: ∀b,H b=some (.own a)->H' b=some (.own a)) (ht: ∀b xs,H b=some (.tup xs)->H' b=some (.tup xs)):eZ P w H' h' a o:=by
 induction o with
 | lst xs=>obtain⟨z,its,n,r,e⟩:=x;exact⟨z,its,n,r,k _ _ (.inl rfl) e⟩
 | tup xs=>obtain⟨z,its,r,⟨ob,e,c⟩,o2,e2,c2⟩:=x;exact⟨z,its,r,⟨ob,k _ _ (.inl rfl) e,c⟩,o2,k _ _ (.inl rfl) e2,c2⟩
 | dK kvs=>obtain⟨z,y,vs,r,ob,es,ep,e,c⟩:=x;exact⟨z,y,vs,r,ob,es,ep,k _ _ (.inl rfl) e,c⟩
 | dT kvs=>
   obtain⟨z,y,xs,r,ob,es,ep,e,c⟩:=x
   exact⟨z,y,xs,Paired.mapP r λp q z=>⟨z.1,ht _ _ z.2.1,z.2.2⟩,ob,es,ep,k _ _ (.inl rfl) e,c⟩
 | set S n=>obtain⟨ob,es,ep,t,e,c⟩:=x;exact⟨ob,es,ep,t,k _ _ (.inl rfl) e,c⟩
 | ins C dx fs=>
   obtain⟨d,z,ne,e,mA,⟨od,es,ep,e2,c⟩,r⟩:=x
   exact⟨ho _ d,z,ne,k _ _ (.inl rfl) e,mA,⟨od,es,ep,k _ _ (.inr d) e2,c⟩,r⟩
 | own y=>obtain⟨ob,e⟩:=x;exact⟨ob,k _ _ (.inl rfl) e⟩
 | xd fs=>obtain⟨mA,⟨od,es,ep,e,c⟩,r⟩:=x;exact⟨mA,⟨od,es,ep,k _ _ (.inl rfl) e,c⟩,r⟩
 | rng lo hi=>obtain⟨t,u,v,e⟩:=x;exact⟨t,u,v,k _ _ (.inl rfl) e⟩
 | frz ob u ih=>obtain⟨e,q⟩:=x;exact⟨k _ _ (.inl rfl) e,ih q⟩
 | tbl ps=>
   have e:h.get? a=some { cls:= .none,data:= .fields ps }:=x
   show h'.get? a=some { cls:= .none,data:= .fields ps }
   exact k a _ (.inl rfl) e
 | met f y=>
   have e:h.get? a=some (pL (.ref f) (.ref y)):=x
   show h'.get? a=some (pL (.ref f) (.ref y))
   exact k a _ (.inl rfl) e
 | ext φ=>obtain⟨p,⟨o,e⟩,st⟩:=x;exact⟨st _ _ p λo q=>k _ _ (.inl rfl) q,⟨o,k _ _ (.inl rfl) e⟩,st⟩
theorem HOk.lt(x:HOk P w H h)(e:H a=some o):a<h.objs.size:=(x a o e).lt
theorem HOk.fresh(x:HOk P w H h)(e:h.objs.size<=a):H a=none:=by
 cases q:H a with
 | none=>rfl
 | some u=>exact absurd (ai (x.lt q) e) (bN _)
theorem HOk.kept(x:HOk P w H h)(k: ∀b u,h.get? b=some u->h'.get? b=some u):HOk P w H h':=λa o e=>
 (x a o e).stay (λb u _ q=>k b u q) (λ_ q=>q) λ_ _ q=>q
theorem HOk.laid(x:HOk P w H h)(k: ∀b u,h.get? b=some u->h'.get? b=some u)(hp:h.objs.size<=a)(new:eZ P w (upd H a o) h' a o):HOk P w (upd H a o) h':=λb u e=>by
 have hn:=x.fresh hp
 by_cases hb:b=a
 ·subst hb;rw[cq]at e;cases e;exact new
 ·rw[aZ hb]at e
  exact(x b u e).stay (λc v _ q=>k c v q) (λc q=>by rw[aZ (aW q hn)];exact q) λc xs q=>by rw[aZ (aW q hn)];exact q
end
noncomputable def Rd(H:Hp)(a:Addr)(u:HO):Prop:=H a=some u \/ ∃o,H a=some (.frz o u)
theorem Rd.of{H:Hp}{a:Addr}{u:HO}(h:H a=some u):Rd H a u:= .inl h
theorem Rd.ok{P:Program}{w:World}{H:Hp}{h:Heap}{a:Addr}{u:HO}(r:Rd H a u)(x:HOk P w H h):eZ P w H h a u:=by
 rcases r with r | ⟨o,r⟩
 ·exact x a u r
 ·obtain⟨_,q⟩:=x a _ r
  exact q
noncomputable def Mut:Option HO->Prop
 | some (.lst _)=>True
 | some (.dK _)=>True
 | some (.dT _)=>True
 | some (.set _ _)=>True
 | some (.ins _ _ _)=>True
 | some (.ext _)=>True
 | _=>False
section
variable {P:Program}{w:World}{H:Hp}{h h':Heap}{x e:Addr}{o':HO}
theorem HOk.write(ok:HOk P w H h)(mu:Mut (H x))(he:e=x\/H e=some (.own x))(k: ∀b u,b≠e->h.get? b=some u->h'.get? b=some u)(heo: ∃u,h'.get? e=some u)
  (new:eZ P w (upd H x o') h' x o'):HOk P w (upd H x o') h':=λb u q=>by
 have nown: ∀c y,H c=some (.own y)->c≠x:=λc y r z=>by subst z;rw[r]at mu;exact mu
 have ntup: ∀c xs,H c=some (.tup xs)->c≠x:=λc xs r z=>by subst z;rw[r]at mu;exact mu
 by_cases hb:b=x
 ·subst hb;rw[cq]at q;cases q;exact new
 ·rw[aZ hb]at q
  by_cases hbe:b=e
  ·have q':H b=some (.own x):=by
    rcases he with z |z
    ·exact absurd (hbe.trans z) hb
    ·rw[hbe];exact z
   rw[q]at q';cases q'
   obtain⟨v,hv⟩:=heo
   exact⟨v,by rw[hbe];exact hv⟩
  ·refine(ok b u q).stay (λc v hc r=>k c v ?_ r) (λc r=>by rw[aZ (nown c b r)];exact r) λc xs r=>by rw[aZ (ntup c xs r)];exact r
   rcases hc with rfl |hc
   ·exact hbe
   ·rintro rfl
    rcases he with z |z
    ·exact nown c b hc z
    ·rw[hc]at z;cases z;exact hb rfl
end
structure Un(fs ex:List Addr)(H H':Hp)(h h':Heap):Prop where
 keep: ∀b o,h.get? b=some o->H b=none->b∉fs->b∉ex->h'.get? b=some o
 slot: ∀b o,h.get? b=some o->H b=none->b∈fs->b∉ex -> ∃sl,h'.get? b=some { o with slots:=sl }
 free: ∀b o,h.get? b=some o->H b=none->b∉ex->H' b=none
 there: ∀b o,h.get? b=some o->b∉ex -> ∃o',h'.get? b=some o'
 tups: ∀b xs,H b=some (.tup xs)->H' b=some (.tup xs)
 frzs: ∀b o u,H b=some (.frz o u)->H' b=some (.frz o u)
 tbls: ∀b ps,H b=some (.tbl ps) -> ∃more,H' b=some (.tbl (ps++more))
section
variable {fs fs' ex ex':List Addr}{H H1 H2:Hp}{h h1 h2 h':Heap}{a x e:Addr}{o:HO}
theorem Un.any(u:Un fs ex H H1 h h1){b:Addr}{ob:Obj}(q:h.get? b=some ob)(n:H b=none)(hx:b∉ex): ∃sl,h1.get? b=some { ob with slots:=sl }:=by
 by_cases hb:b∈fs
 ·exact u.slot b ob q n hb hx
 ·exact⟨ob.slots,u.keep b ob q n hb hx⟩
theorem Un.trans(a:Un fs ex H H1 h h1)(b:Un fs ex H1 H2 h1 h2):Un fs ex H H2 h h2 where
 keep:=λc ob q n hc hx=>b.keep c ob (a.keep c ob q n hc hx) (a.free c ob q n hx) hc hx
 slot:=λc ob q n hc hx=>by
  obtain⟨sl,e1⟩:=a.slot c ob q n hc hx
  obtain⟨sl',e2⟩:=b.slot c _ e1 (a.free c ob q n hx) hc hx
  exact⟨sl',e2⟩
 free:=λc ob q n hx=>by
  obtain⟨o',e1⟩:=a.there c ob q hx
  exact b.free c o' e1 (a.free c ob q n hx) hx
 there:=λc ob q hx=>by
  obtain⟨o',e1⟩:=a.there c ob q hx
  exact b.there c o' e1 hx
 tups:=λc xs q=>b.tups c xs (a.tups c xs q)
 frzs:=λc ob xs q=>b.frzs c ob xs (a.frzs c ob xs q)
 tbls:=λc ps q=>by
  obtain⟨m1,e1⟩:=a.tbls c ps q
  obtain⟨m2,e2⟩:=b.tbls c _ e1
  exact⟨m1++m2,by rw[e2,Array.append_assoc]⟩
theorem Un.kept(k: ∀b u,h.get? b=some u->h'.get? b=some u):Un fs ex H H h h':=
 ⟨λb ob q _ _ _=>k b ob q,λb ob q _ _ _=>⟨ob.slots,k b ob q⟩,λ_ _ _ n _=>n,λb ob q _=>⟨ob,k b ob q⟩,λ_ _ q=>q,λ_ _ _ q=>q,λ_ ps q=>⟨#[],by rw[q];simp⟩⟩
theorem Un.refl:Un fs ex H H h h:=Un.kept λ_ _ q=>q
theorem Un.laid(k: ∀b u,h.get? b=some u->h'.get? b=some u)(hp:h.objs.size<=a)(hn:H a=none):Un fs ex H (upd H a o) h h' where
 keep:=λb u q _ _ _=>k b u q
 slot:=λb u q _ _ _=>⟨u.slots,k b u q⟩
 free:=λb u q n _=>by rw[aZ (br (ai (aG q) hp))];exact n
 there:=λb u q _=>⟨u,k b u q⟩
 tups:=λb xs q=>by rw[aZ (aW q hn)];exact q
 frzs:=λb u xs q=>by rw[aZ (aW q hn)];exact q
 tbls:=λb ps q=>⟨#[],by rw[aZ (aW q hn),q];simp⟩
theorem Un.write(mu:Mut (H x))(he:e=x\/H e=some (.own x))(k: ∀b u,b≠e->h.get? b=some u->h'.get? b=some u)(heo: ∃u,h'.get? e=some u):Un fs ex H (upd H x o) h h':=by
 have hx: ∀b,H b=none->b≠x:=λb n z=>by subst z;rw[n]at mu;exact mu
 have hb: ∀b,H b=none->b≠e:=λb n z=>by
  subst z
  rcases he with r |r
  ·exact hx b n r
  ·rw[n]at r;cases r
 have hm: ∀b u,H b=some u -> ¬Mut (some u)->b≠x:=λb u q nm z=>by subst z;rw[q]at mu;exact nm mu
 refine⟨λb u q n _ _=>k b u (hb b n) q,λb u q n _ _=>⟨u.slots,k b u (hb b n) q⟩,λb u q n _=>by rw[aZ (hx b n)];exact n,λb u q _ =>?_,
  λb xs q=>by rw[aZ (hm b _ q λz=>z)];exact q,λb u xs q=>by rw[aZ (hm b _ q λz=>z)];exact q,λb ps q=>⟨#[],by rw[aZ (hm b _ q λz=>z),q];simp⟩⟩
 by_cases hbe:b=e
 ·subst hbe;exact heo
 ·exact⟨u,k b u hbe q⟩
theorem Un.mono(u:Un fs ex H H1 h h1)(hs: ∀b∈fs,b∈fs')(hx: ∀b∈ex,b∈ex'):Un fs' ex' H H1 h h1:=
 ⟨λb ob q n hb he=>u.keep b ob q n (λz=>hb (hs b z)) λz=>he (hx b z),λ_ _ q n _ he=>u.any q n λz=>he (hx _ z),λb ob q n he=>u.free b ob q n λz=>he (hx b z),λb ob q he=>u.there b ob q λz=>he (hx b z),u.tups,u.frzs,u.tbls⟩
end
noncomputable def trk(h:Heap)(H:Hp):List Addr:=(aO h.objs.size).filter λa=>(H a).isSome
noncomputable def nk(h:Heap)(H:Hp):Heap:=bO h (trk h H)
theorem oG(h:Heap)(H:Hp):(nk h H).objs.size=h.objs.size:=Ap _ _
theorem lY{h:Heap}{H:Hp}{b:Addr}{o:Obj}(e:h.get? b=some o)(n:H b=none):(nk h H).get? b=some o:=
 et _ e λhm=>by
  have q:(H b).isSome=true:=(fj.mp hm).2
  rw[n]at q;simp at q
theorem uy{h:Heap}{H:Hp}{b:Addr}{o:Obj}(e:(nk h H).get? b=some o):h.get? b=some o/\H b=none:=by
 have e':h.get? b=some o:=jU (trk h H) e
 refine⟨e',?_⟩
 cases q:H b with
 | none=>rfl
 | some x=>
   have hm:b∈trk h H:=fj.mpr ⟨aS.mpr (aG e'),by simp[q]⟩
   have z:(nk h H).get? b=none:=fE (trk h H) hm
   rw[z]at e;cases e
noncomputable def De(g h:Heap)(L:Addr):List (Addr×Obj):=(aO h.objs.size).filterMap λa=>if a=L\/(g.get? a).isSome=true then none else(h.get? a).map λo=>(a,o)
noncomputable def rest(g h:Heap)(L d:Addr):List (Addr×Obj):=(De g h L).filter λp=>decide (p.1≠d)
end _L
namespace _L
open PySem PySem.Spec PyProof.Rows
structure Mod(K:ah)(mg:Str->Option Value)(base:Heap):Prop where
 kin:K.In base
 glob:base.Ns mainGlobals mg
 blt : ∃ mb,base.Ns builtinsNs mb /\ ∀ x:Str,x≠"__name__"->mb x=bootBuiltins x
 nolimit:base.NoLimit
set_option genInjectivity false in
structure Cx where
 prog:Program
 w:World
 K:ah
 mg:Str->Option Value
 base:Heap
 A:Around
 N:List Str
 s₀:Shared
 H₀:Hp
 env:Env
 outer:List Env
 stack:List Env
 ex:List Addr
 fn:Str->Bool
 calm:Bool
 pn:List (Addr×Obj)
 xe:Value->Shared->Prop
noncomputable def frs(l:List Env):List Addr:=l.filterMap (·.frame)
abbrev Cx.fs(X:Cx):List Addr:=frs X.outer
noncomputable def Vis(sc:Scope)(x:Str):Prop:=sc.names.lookup x=some .local\/sc.names.lookup x=some .cell\/sc.names.lookup x=some .free
noncomputable def Loc(sc:Scope)(x:Str):Prop:=sc.names.lookup x=some .local\/sc.names.lookup x=some .cell
noncomputable def Look(env:Env)(h:Heap)(m:Str->Option Value)(x:Str)(u:Value):Prop:=
 (env.kindOf x=some .local/\m x=some u)\/((env.kindOf x=some .cell\/env.kindOf x=some .free) /\ ∃c,env.cells.lookup x=some c/\h.IsCell c (some u))
structure Cx.Ok(X:Cx):Prop where
 mod:Mod X.K X.mg X.base
 kind:X.env.scope.kind = .function
 glob:X.env.globals=mainGlobals
 blt:X.env.builtins=builtinsNs
 above:X.s₀.heap.objs.size<=X.env.locals
 inj: ∀x y c,X.env.cells.lookup x=some c->X.env.cells.lookup y=some c->x=y
 has: ∀x,(X.env.kindOf x=some .cell\/X.env.kindOf x=some .free) -> ∃c,X.env.cells.lookup x=some c
 cab: ∀x c,X.fn x=true->X.env.cells.lookup x=some c->X.s₀.heap.objs.size<=c
 hd:X.calm=true->X.A.handled=none
 frames:X.A.frames=some X.stack
 stk:X.stack=X.outer\/(X.stack=X.env::X.outer/\X.env.frame=some X.env.locals)
 exf: ∀b∈X.ex,b≠X.env.locals /\ ∀x c,X.env.cells.lookup x=some c->c≠b
 bs: ∀b o,X.base.get? b=some o->X.s₀.heap.get? b=some o/\X.H₀ b=none
 bsz:X.base.objs.size<=X.s₀.heap.objs.size
 noex: ∀b o,X.base.get? b=some o->b∉X.ex
 exfs: ∀b∈X.ex,b∉X.fs
 funs:X.s₀.heap.FunFrames X.base X.outer
 frf: ∀b∈X.fs,X.H₀ b=none
structure Inv(X:Cx)(pins:List (Addr×Obj))(σ:List (Option V))(H:Hp)(s:Shared):Prop where
 ok:X.Ok
 os:s.os=X.s₀.os
 bare:AllBare s.gens
 base:Un X.fs X.ex X.H₀ H X.s₀.heap s.heap
 loc: ∃m,s.heap.Ns X.env.locals m /\ ∀(i:Nat) (x:Str) (v:V),X.N[i]? = some x->σ[i]? = some (some v)->Vis X.env.scope x -> ∃u,RelV v u/\Look X.env s.heap m x u
 cell: ∀x c,X.env.cells.lookup x=some c -> ∃v,s.heap.IsCell c v
 free:H X.env.locals=none
 freeC: ∀x c,X.env.cells.lookup x=some c->H c=none
 pin: ∀p∈X.pn++pins,s.heap.get? p.1=some p.2/\H p.1=none/\p.1≠X.env.locals/\p.1∉X.fs /\ ∀v,p.2.data≠.cell v
 hok:HOk X.prog X.w H s.heap
 len:σ.length=X.N.length
section
variable {X:Cx}{pins:List (Addr×Obj)}{σ:List (Option V)}{H H':Hp}{s:Shared}{h':Heap}
theorem Cx.Ok.nofr(ok:X.Ok){b:Addr}{o:Obj}(e:X.base.get? b=some o):b∉X.fs:=λhb=>by
 have:=(ok.funs.mem hb).1
 rw[e]at this;cases this
theorem Inv.bs(I:Inv X pins σ H s): ∀b o,X.base.get? b=some o->s.heap.get? b=some o/\H b=none:=λb o e=>
 ⟨I.base.keep b o (I.ok.bs b o e).1 (I.ok.bs b o e).2 (I.ok.nofr e) (I.ok.noex b o e),I.base.free b o (I.ok.bs b o e).1 (I.ok.bs b o e).2 (I.ok.noex b o e)⟩
theorem Inv.bk(I:Inv X pins σ H s): ∀b o,X.base.get? b=some o->s.heap.get? b=some o:=λb o e=>(I.bs b o e).1
theorem Inv.mod(I:Inv X pins σ H s):Mod X.K X.mg X.base:=I.ok.mod
theorem Inv.kIn(I:Inv X pins σ H s):X.K.In s.heap:=I.ok.mod.kin.keeps I.bk
theorem Inv.nolimit(I:Inv X pins σ H s):s.heap.NoLimit:=I.ok.mod.nolimit.keeps I.bk
theorem Inv.fr(I:Inv X pins σ H s): ∃m,Fr X.base X.env.locals s.heap m:=
 let ⟨m,hn,_⟩:=I.loc
 ⟨m,hn,I.bk,aB I.ok.bsz I.ok.above⟩
theorem Inv.lt(I:Inv X pins σ H s):X.env.locals<s.heap.objs.size:=let ⟨_,hn,_⟩:=I.loc;hn.lt
theorem Inv.sz(I:Inv X pins σ H s):X.s₀.heap.objs.size<=s.heap.objs.size:=aB I.ok.above (aT I.lt)
theorem Inv.nofs(I:Inv X pins σ H s){a:Addr}(h:s.heap.objs.size<=a):a∉X.fs:=λhb=>by
 obtain⟨_,o,ho,_⟩:=I.ok.funs.mem hb
 exact absurd (ai (aG ho) (aB I.sz h)) (bN _)
theorem Inv.cne(I:Inv X pins σ H s): ∀x c,X.env.cells.lookup x=some c->c≠X.env.locals:=λx c e z=>by
 obtain⟨v,o,ho,hd⟩:=I.cell x c e
 obtain⟨m,⟨o',es,ep,ho',hd',_⟩,_⟩:=I.loc
 rw[z,ho']at ho;cases ho;rw[hd']at hd;cases hd
theorem Inv.funs(I:Inv X pins σ H s):s.heap.FunFrames X.base X.outer:=by
 have all: ∀(l:List Env),(∀b∈frs l,b∈X.fs)->X.s₀.heap.FunFrames X.base l->s.heap.FunFrames X.base l:=by
  intro l
  induction l with
  | nil=>intro _ _;trivial
  | cons env r ih=>
    intro hs hl
    obtain⟨hk,⟨L,o,hf,hn,ho,hd⟩,hr⟩:=hl
    have hL:L∈X.fs:=hs L (by unfold frs;rw[dI,hf];exact aP)
    obtain⟨sl,e⟩:=I.base.slot L o ho (I.ok.frf L hL) hL λz=>I.ok.exfs L z hL
    exact⟨hk,⟨L,_,hf,hn,e,hd⟩,ih (λb hb=>hs b (by unfold frs;rw[dI,hf];exact aw _ hb)) hr⟩
 exact all X.outer (λ_ hb=>hb) I.ok.funs
theorem Inv.stack(I:Inv X pins σ H s):s.heap.FunFrames X.base X.stack:=by
 rcases I.ok.stk with e | ⟨e,hf⟩
 ·rw[e];exact I.funs
 ·rw[e]
  obtain⟨m,hn,_⟩:=I.loc
  refine .cons (by rw[I.ok.kind];decide) hf hn ?_ I.funs
  exact Heap.get?_none_of_le (aB I.ok.bsz I.ok.above)
theorem Inv.stkSub(I:Inv X pins σ H s): ∀b∈frs X.stack,b∈X.env.locals::X.fs:=λb hb=>by
 rcases I.ok.stk with e | ⟨e,hf⟩
 ·rw[e]at hb;exact aw _ hb
 ·rw[e]at hb
  unfold frs at hb
  rw[dI,hf]at hb
  exact hb
theorem Inv.stkFree(I:Inv X pins σ H s): ∀b∈frs X.stack,H b=none:=λb hb=>by
 rcases aX.mp (I.stkSub b hb) with e |hb
 ·rw[e];exact I.free
 ·obtain⟨_,o,ho,_⟩:=I.ok.funs.mem hb
  exact I.base.free b o ho (I.ok.frf b hb) λz=>I.ok.exfs b z hb
theorem Inv.step{g':Array GenState}{t':Nat}{d':Drawn}{ch:List Addr}(I:Inv X pins σ H s)
  (hch: ∀b∈ch,(b∈X.ex\/X.s₀.heap.objs.size<=b)/\b≠X.env.locals/\(∀x c,X.env.cells.lookup x=some c->c≠b) /\ ∀p∈X.pn++pins,p.1≠b)
  (keep: ∀b o,b≠X.env.locals->b∉X.fs->b∉ch->s.heap.get? b=some o->H b=none->h'.get? b=some o)
  (slot: ∀b o,b≠X.env.locals->b∈X.fs->b∉ch->s.heap.get? b=some o->H b=none -> ∃sl,h'.get? b=some { o with slots:=sl }) (free: ∀b o,b∉ch->s.heap.get? b=some o->H b=none->H' b=none)
  (there: ∀b o,b∉ch->s.heap.get? b=some o -> ∃o',h'.get? b=some o')
  (tups: ∀b xs,H b=some (.tup xs)->H' b=some (.tup xs)) (frzs: ∀b o u,H b=some (.frz o u)->H' b=some (.frz o u)) (tbls: ∀b ps,H b=some (.tbl ps) -> ∃more,H' b=some (.tbl (ps++more)))
  (ns: ∀m,s.heap.Ns X.env.locals m->h'.Ns X.env.locals m) (hok:HOk X.prog X.w H' h') (hg:AllBare g'):
  Inv X pins σ H' { s with heap:=h',gens:=g',drawn:=d',toks:=t' }:=by
 have neL: ∀b o,X.s₀.heap.get? b=some o->b≠X.env.locals:=λb o e=>br (ai (aG e) I.ok.above)
 have neC: ∀b o,X.s₀.heap.get? b=some o->b∉X.ex->b∉ch:=λb o e hx hb=>by
  rcases (hch b hb).1 with z |z
  ·exact hx z
  ·exact absurd (ai (aG e) z) (bN _)
 have cellK: ∀x c,X.env.cells.lookup x=some c -> ∀v,s.heap.IsCell c v->h'.IsCell c v:=λx c e v ⟨o,ho,hd⟩=>by
  have nch:c∉ch:=λz=>(hch c z).2.2.1 x c e rfl
  by_cases hc:c∈X.fs
  ·obtain⟨sl,q⟩:=slot c o (I.cne x c e) hc nch ho (I.freeC x c e)
   exact⟨_,q,hd⟩
  ·exact⟨o,keep c o (I.cne x c e) hc nch ho (I.freeC x c e),hd⟩
 refine⟨I.ok,I.os,hg,⟨λb o e n hb hx =>?_,λb o e n hb hx =>?_,λb o e n hx =>?_,λb o e hx =>?_,λb xs e=>tups b xs (I.base.tups b xs e),λb o xs e=>frzs b o xs (I.base.frzs b o xs e),λb ps e =>?_⟩,?_,λx c e =>?_,?_,λx c e =>?_,λp hp =>?_,hok,I.len⟩
 ·exact keep b o (neL b o e) hb (neC b o e hx) (I.base.keep b o e n hb hx) (I.base.free b o e n hx)
 ·obtain⟨sl,e1⟩:=I.base.slot b o e n hb hx
  obtain⟨sl',e2⟩:=slot b _ (neL b o e) hb (neC b o e hx) e1 (I.base.free b o e n hx)
  exact⟨sl',e2⟩
 ·obtain⟨o',e1⟩:=I.base.there b o e hx
  exact free b o' (neC b o e hx) e1 (I.base.free b o e n hx)
 ·obtain⟨o',e1⟩:=I.base.there b o e hx
  exact there b o' (neC b o e hx) e1
 ·obtain⟨m1,e1⟩:=I.base.tbls b ps e
  obtain⟨m2,e2⟩:=tbls b _ e1
  exact⟨m1++m2,by rw[e2,Array.append_assoc]⟩
 ·obtain⟨m,hn,hl⟩:=I.loc
  refine⟨m,ns m hn,λi x v e1 e2 e3 =>?_⟩
  obtain⟨u,r,l⟩:=hl i x v e1 e2 e3
  refine⟨u,r,?_⟩
  rcases l with l | ⟨k,c,e,z⟩
  ·exact .inl l
  ·exact .inr ⟨k,c,e,cellK x c e _ z⟩
 ·obtain⟨v,z⟩:=I.cell x c e
  exact⟨v,cellK x c e v z⟩
 ·obtain⟨m,⟨o,_,_,ho,_⟩,_⟩:=I.loc
  exact free _ o (λz=>(hch _ z).2.1 rfl) ho I.free
 ·obtain⟨v,o,ho,hd⟩:=I.cell x c e
  exact free c o (λz=>(hch c z).2.2.1 x c e rfl) ho (I.freeC x c e)
 ·obtain⟨e,n,ne,nf,d⟩:=I.pin p hp
  have nch:p.1∉ch:=λz=>(hch p.1 z).2.2.2 p hp rfl
  exact⟨keep p.1 p.2 ne nf nch e n,free p.1 p.2 nch e n,ne,nf,d⟩
theorem Inv.un{t':Nat}(I:Inv X pins σ H s)(u:Un X.fs [] H H' s.heap h')(hok:HOk X.prog X.w H' h'):Inv X pins σ H' { s with heap:=h',toks:=t' }:=by
 obtain⟨m,⟨o,es,ep,ho,r⟩,_⟩:=id I.loc
 obtain⟨sl,hL⟩:=u.any ho I.free (by simp)
 exact I.step (g':=s.gens) (d':=s.drawn) (ch:= []) (λ_ z=>nomatch z) (λb o _ hb _ e n=>u.keep b o e n hb (by simp)) (λb o _ hb _ e n=>u.slot b o e n hb (by simp)) (λb o _ e n=>u.free b o e n (by simp)) (λb o _ e=>u.there b o e (by simp)) u.tups u.frzs u.tbls (λm' hm=>by
  obtain⟨o',es',ep',ho',r'⟩:=hm
  rw[ho]at ho';cases ho'
  exact⟨_,es',ep',hL,r'⟩) hok I.bare
theorem Inv.call{g':Array GenState}{t':Nat}{d':Drawn}{ch:List Addr}(I:Inv X pins σ H s)(u:Un (frs X.stack) ch H H' s.heap h')(hok:HOk X.prog X.w H' h')(hg:AllBare g')
  (hch: ∀b∈ch,(b∈X.ex\/X.s₀.heap.objs.size<=b)/\b≠X.env.locals/\(∀x c,X.env.cells.lookup x=some c->c≠b) /\ ∀p∈X.pn++pins,p.1≠b):
  Inv X pins σ H' { s with heap:=h',gens:=g',drawn:=d',toks:=t' }:=by
 obtain⟨m,⟨o,es,ep,ho,r⟩,_⟩:=id I.loc
 obtain⟨sl,hL⟩:=u.any ho I.free λz=>(hch _ z).2.1 rfl
 exact I.step (ch:=ch) hch (λb o hL hb hc e n=>u.keep b o e n (λz=>(aX.mp (I.stkSub b z)).elim hL hb) hc) (λb o _ _ hc e n=>u.any e n hc) (λb o hc e n=>u.free b o e n hc) (λb o hc e=>u.there b o e hc) u.tups u.frzs u.tbls (λm' hm=>by
  obtain⟨o',es',ep',ho',r'⟩:=hm
  rw[ho]at ho';cases ho'
  exact⟨_,es',ep',hL,r'⟩) hok hg
theorem Inv.turned{t':Nat}{it:Addr}(I:Inv X pins σ H s)(k: ∀b o,b≠it->s.heap.get? b=some o->h'.get? b=some o)(hn:H it=none)(hL:it≠X.env.locals)
  (h1:it∈X.ex\/X.s₀.heap.objs.size<=it) (h2: ∀x c,X.env.cells.lookup x=some c->c≠it) (h3: ∀p∈X.pn++pins,p.1≠it):Inv X pins σ H { s with heap:=h',toks:=t' }:=by
 have nit: ∀b u,H b=some u->b≠it:=λb u e z=>by rw[z,hn]at e;cases e
 refine I.step (g':=s.gens) (d':=s.drawn) (ch:= [it]) (λb hb =>?_) (λb o _ _ hc e _=>k b o (λz=>hc (by simp[z])) e) (λb o _ _ hc e _=>⟨o.slots,k b o (λz=>hc (by simp[z])) e⟩) (λ_ _ _ _ n=>n)
  (λb o hc e=>⟨o,k b o (λz=>hc (by simp[z])) e⟩) (λ_ _ e=>e) (λ_ _ _ e=>e) (λb ps e=>⟨#[],by rw[e];simp⟩) (λm hm =>?_) (λb u e =>?_) I.bare
 ·have e:b=it:=by simpa using hb
  subst e
  exact⟨h1,hL,h2,h3⟩
 ·obtain⟨o,es,ep,ho,r⟩:=hm
  exact⟨o,es,ep,k _ o (dM hL) ho,r⟩
 ·refine(I.hok b u e).stay (λc v hc q=>k c v ?_ q) (λ_ q=>q) λ_ _ q=>q
  rcases hc with z |z
  ·rw[z];exact nit b u e
  ·exact nit c _ z
theorem Inv.tok(I:Inv X pins σ H s)(t:Nat):Inv X pins σ H { s with toks:=t }:=I.un (h':=s.heap) (t':=t) Un.refl I.hok
theorem Inv.kept{t':Nat}(I:Inv X pins σ H s)(k: ∀b u,s.heap.get? b=some u->h'.get? b=some u):Inv X pins σ H { s with heap:=h',toks:=t' }:=I.un (Un.kept k) (I.hok.kept k)
theorem Inv.laid{a:Addr}{o:HO}{t':Nat}(I:Inv X pins σ H s)(k: ∀b u,s.heap.get? b=some u->h'.get? b=some u)(hp:s.heap.objs.size<=a)(new:eZ X.prog X.w (upd H a o) h' a o):
  Inv X pins σ (upd H a o) { s with heap:=h',toks:=t' }:=I.un (Un.laid k hp (I.hok.fresh hp)) (I.hok.laid k hp new)
theorem Inv.write{x e:Addr}{o:HO}{t':Nat}(I:Inv X pins σ H s)(mu:Mut (H x))(he:e=x\/H e=some (.own x))(k: ∀b u,b≠e->s.heap.get? b=some u->h'.get? b=some u)(heo: ∃u,h'.get? e=some u)
  (new:eZ X.prog X.w (upd H x o) h' x o):Inv X pins σ (upd H x o) { s with heap:=h',toks:=t' }:=I.un (Un.write mu he k heo) (I.hok.write mu he k heo new)
theorem Inv.weak{σ':List (Option V)}(I:Inv X pins σ H s)(hl:σ'.length=σ.length)(w: ∀(i:Nat) v,σ'[i]? = some (some v)->σ[i]? = some (some v)):Inv X pins σ' H s:=
 ⟨I.ok,I.os,I.bare,I.base,let ⟨m,hn,hl'⟩:=I.loc;⟨m,hn,λi x v e1 e2 e3=>hl' i x v e1 (w i v e2) e3⟩,I.cell,I.free,I.freeC,I.pin,I.hok,hl.trans I.len⟩
theorem Inv.pins_of{pins':List (Addr×Obj)}(I:Inv X pins σ H s)(h: ∀p∈pins',s.heap.get? p.1=some p.2/\H p.1=none/\p.1≠X.env.locals/\p.1∉X.fs /\ ∀v,p.2.data≠.cell v):Inv X pins' σ H s:=
 ⟨I.ok,I.os,I.bare,I.base,I.loc,I.cell,I.free,I.freeC,λp hp=>(bZ.mp hp).elim (λz=>I.pin p (bc _ z)) (h p),I.hok,I.len⟩
theorem rA{N:List Str}(hN:N.Nodup){i j:Nat}{x:Str}(a:N[i]? = some x)(b:N[j]? = some x):i=j:=by
 obtain⟨h1,e1⟩:=af.mp a
 obtain⟨h2,e2⟩:=af.mp b
 exact(List.getElem_inj hN).mp (e1.trans e2.symm)
theorem tw{M:Model}{A:Around}{E:Value->Shared->Prop}{i:Nat}{x:Str}{v:V}{u:Value}{Q:Unit->Shared->Prop}(I:Inv X pins σ H s)(hN:X.N.Nodup)(hi:X.N[i]? = some x)(hx:Loc X.env.scope x)(r:RelV v u)
  (h: ∀s',Inv X pins (σ.set i (some v)) H s'->(∃a,Ay a s.heap s'.heap/\(a=X.env.locals\/X.env.cells.lookup x=some a))->Q () s') (hf:autoParam (X.fn x=true\/X.env.scope.names.lookup x=some .local) au4._auto_1):aR M A (storeName X.env x u) Q E s:=by
 obtain⟨m,hn,hl⟩:=id I.loc
 have hcls:(X.env.scope.kind==.class||(X.env.scope.kind==.module&&X.env.locals != X.env.globals))=false:=by rw[I.ok.kind];rfl
 have hiσ:i<σ.length:=by rw[I.len];exact(af.mp hi).1
 have cne:=I.cne
 have tracked: ∀{a:Addr}{h':Heap},(∃o,s.heap.get? a=some o/\H a=none)->Ay a s.heap h'->HOk X.prog X.w H h':=λ{a h'} ha hs b ob e=>by
  obtain⟨_,_,hfree⟩:=ha
  refine(I.hok b ob e).stay (λc w' hc q=>(hs.2 c ?_).trans q) (λ_ q=>q) λ_ _ q=>q
  rintro rfl
  rcases hc with rfl |hc
  ·rw[hfree]at e;cases e
  ·rw[hfree]at hc;cases hc
 rcases hx with hk |hk
 ·refine wpAny_storeName_local hk hn (λh' hn' hs =>?_) hcls
  obtain⟨oL,_,_,hoL,_⟩:=id hn
  refine h _ ⟨I.ok,I.os,I.bare,⟨λb o e n hb hx =>?_,λb o e n hb hx =>?_,I.base.free,λb o e hx =>?_,I.base.tups,I.base.frzs,I.base.tbls⟩,⟨_,hn',λj y v' e1 e2 e3 =>?_⟩,λy c e =>?_,I.free,I.freeC,λp hp =>?_,tracked ⟨oL,hoL,I.free⟩ hs,by simpa using I.len⟩ ⟨_,hs,.inl rfl⟩
  ·exact(hs.2 b (br (ai (aG e) I.ok.above))).trans (I.base.keep b o e n hb hx)
  ·obtain⟨sl,e1⟩:=I.base.slot b o e n hb hx
   exact⟨sl,(hs.2 b (br (ai (aG e) I.ok.above))).trans e1⟩
  ·obtain⟨o',e1⟩:=I.base.there b o e hx
   exact⟨o',(hs.2 b (br (ai (aG e) I.ok.above))).trans e1⟩
  ·by_cases hj:j=i
   ·subst hj
    rw[hi]at e1;cases e1
    rw[aI hiσ]at e2
    cases e2
    exact⟨u,r,.inl ⟨hk,by simp⟩⟩
   ·rw[ay (dM hj)]at e2
    obtain⟨u',r',q⟩:=hl j y v' e1 e2 e3
    refine⟨u',r',?_⟩
    rcases q with⟨k,e⟩ | ⟨k,c,e,z⟩
    ·refine .inl ⟨k,?_⟩
     have:y≠x:=λe=>hj (rA hN e1 (e▸hi))
     simp[this,e]
    ·exact .inr ⟨k,c,e,z.sameBut hs (cne y c e)⟩
  ·obtain⟨w',z⟩:=I.cell y c e
   exact⟨w',z.sameBut hs (cne y c e)⟩
  ·obtain⟨e,n,ne,nf,d⟩:=I.pin p hp
   exact⟨(hs.2 p.1 ne).trans e,n,ne,nf,d⟩
 ·have hfn:X.fn x=true:=by
   rcases hf with z |z
   ·exact z
   ·rw[z]at hk;cases hk
  obtain⟨c,hc⟩:=I.ok.has x (.inl hk)
  obtain⟨w',z⟩:=I.cell x c hc
  refine wpAny_storeName_cell I.ok.kind hk hc z (λh' hc' hs =>?_)
  obtain⟨oc,hoc,hocd⟩:=id z
  refine h { s with heap:=h' } ⟨I.ok,I.os,I.bare,⟨λb o e n hb hx =>?_,λb o e n hb hx =>?_,I.base.free,λb o e hx =>?_,I.base.tups,I.base.frzs,I.base.tbls⟩,⟨m,hn.sameBut hs (dM (cne x c hc)),λj y v' e1 e2 e3 =>?_⟩,λy c' e =>?_,I.free,I.freeC,λp hp =>?_,tracked ⟨oc,hoc,I.freeC x c hc⟩ hs,by simpa using I.len⟩ ⟨c,hs,.inr hc⟩
  ·exact(hs.2 b (br (ai (aG e) (I.ok.cab x c hfn hc)))).trans (I.base.keep b o e n hb hx)
  ·obtain⟨sl,e1⟩:=I.base.slot b o e n hb hx
   exact⟨sl,(hs.2 b (br (ai (aG e) (I.ok.cab x c hfn hc)))).trans e1⟩
  ·obtain⟨o',e1⟩:=I.base.there b o e hx
   exact⟨o',(hs.2 b (br (ai (aG e) (I.ok.cab x c hfn hc)))).trans e1⟩
  ·by_cases hj:j=i
   ·subst hj
    rw[hi]at e1;cases e1
    rw[aI hiσ]at e2
    cases e2
    exact⟨u,r,.inr ⟨.inl hk,c,hc,hc'⟩⟩
   ·rw[ay (dM hj)]at e2
    obtain⟨u',r',q⟩:=hl j y v' e1 e2 e3
    refine⟨u',r',?_⟩
    rcases q with q | ⟨k,c',e,z'⟩
    ·exact .inl q
    ·refine .inr ⟨k,c',e,z'.sameBut hs ?_⟩
     rintro rfl
     exact hj (rA hN e1 (I.ok.inj _ _ _ e hc▸hi))
  ·by_cases hcc:c'=c
   ·subst hcc;exact⟨_,hc'⟩
   ·obtain⟨w2,z2⟩:=I.cell y c' e
    exact⟨w2,z2.sameBut hs hcc⟩
  ·obtain⟨e,n,ne,nf,d⟩:=I.pin p hp
   refine⟨(hs.2 p.1 ?_).trans e,n,ne,nf,d⟩
   intro q
   rw[q,hoc]at e
   have q':oc=p.2:=bL e
   exact d w' (by rw[<- q'];exact hocd)
theorem nY{M:Model}{A:Around}{E:Value->Shared->Prop}{i:Nat}{x:Str}{v:V}{u:Value}{Q:Unit->Shared->Prop}(I:Inv X pins σ H s)(hN:X.N.Nodup)(hi:X.N[i]? = some x)(hx:Loc X.env.scope x)(r:RelV v u)
  (h: ∀s',Inv X pins (σ.set i (some v)) H s'->Q () s') (hf:autoParam (X.fn x=true\/X.env.scope.names.lookup x=some .local) au4._auto_1):aR M A (storeName X.env x u) Q E s:=
 tw I hN hi hx r (λs' I' _=>h s' I') hf
theorem Inv.call'{s':Shared}{ch:List Addr}(I:Inv X pins σ H s)(ho:s'.os=s.os)(u:Un (frs X.stack) ch H H' s.heap s'.heap)(hok:HOk X.prog X.w H' s'.heap)(hg:AllBare s'.gens)
  (hch: ∀b∈ch,(b∈X.ex\/X.s₀.heap.objs.size<=b)/\b≠X.env.locals/\(∀x c,X.env.cells.lookup x=some c->c≠b) /\ ∀p∈X.pn++pins,p.1≠b):Inv X pins σ H' s':=by
 obtain⟨h',g',d',t',o'⟩:=s'
 have e:o'=s.os:=ho
 subst e
 exact I.call (g':=g') (t':=t') (d':=d') u hok hg hch
end
abbrev XK:=Value->Option Addr->Hp->Prop
abbrev St:=List (Option V)
abbrev VK:=V->Hp->Prop
abbrev TE:=St->Hp->VK->Prop
abbrev TT:=St->Hp->(Bool->Hp->Prop)->Prop
abbrev TA:=St->Hp->(List V->Hp->Prop)->Prop
structure Ends where
 nx:St->Hp->Prop
 rt:VK
 bk:St->Hp->Prop:=λ_ _=>False
 ct:St->Hp->Prop:=λ_ _=>False
abbrev TS:=Ends->St->Hp->Prop
noncomputable def EP(X:Cx)(pins:List (Addr×Obj))(σ:St)(Q:VK)(u:Value)(s':Shared):Prop:= ∃v H',Inv X pins σ H' s'/\RelV v u/\Q v H'
noncomputable def TP(X:Cx)(pins:List (Addr×Obj))(σ:St)(Q:Bool->Hp->Prop)(b:Bool)(s':Shared):Prop:= ∃H',Inv X pins σ H' s'/\Q b H'
noncomputable def AP(X:Cx)(pins:List (Addr×Obj))(σ:St)(Q:List V->Hp->Prop)(us:List Value)(s':Shared):Prop:= ∃vs H',Inv X pins σ H' s'/\bK vs us/\Q vs H'
noncomputable def SP(X:Cx)(pins:List (Addr×Obj))(D:Ends)(f:Flow)(s':Shared):Prop:=
 match f with
 | .next =>∃σ' H',Inv X pins σ' H' s'/\D.nx σ' H'
 | .brk =>∃σ' H',Inv X pins σ' H' s'/\D.bk σ' H'
 | .cont =>∃σ' H',Inv X pins σ' H' s'/\D.ct σ' H'
 | .ret u =>∃v σ' H',Inv X pins σ' H' s'/\RelV v u/\D.rt v H'
noncomputable def PE(X:Cx)(e:Expr)(t:TE):Prop:=
 ∀(pins:List (Addr×Obj)) (s:Shared) (σ:St) (H:Hp) (Q:VK),Inv X pins σ H s->t σ H Q->aR (model X.prog X.w) X.A (eval e X.env) (EP X pins σ Q) X.xe s
noncomputable def PT(X:Cx)(e:Expr)(t:TT):Prop:=
 ∀(pins:List (Addr×Obj)) (s:Shared) (σ:St) (H:Hp) (Q:Bool->Hp->Prop),Inv X pins σ H s->t σ H Q->aR (model X.prog X.w) X.A (isTrue e X.env (eval e X.env)) (TP X pins σ Q) X.xe s
noncomputable def PW(X:Cx)(e:Expr)(t:TT):Prop:=
 ∀(whole:Sem Value) (pins:List (Addr×Obj)) (s:Shared) (σ:St) (H:Hp) (Q:Bool->Hp->Prop),Inv X pins σ H s->t σ H Q->aR (model X.prog X.w) X.A (isTrue e X.env whole) (TP X pins σ Q) X.xe s
theorem PW.pt{X:Cx}{e:Expr}{t:TT}(h:PW X e t):PT X e t:=h _
noncomputable def PA(X:Cx)(es:List Expr)(t:TA):Prop:=
 ∀(pos:Pos) (pins:List (Addr×Obj)) (s:Shared) (σ:St) (H:Hp) (Q:List V->Hp->Prop),Inv X pins σ H s->t σ H Q->aR (model X.prog X.w) X.A (spliced (backTo pos (starEach es X.env))) (AP X pins σ Q) X.xe s
noncomputable def PS(X:Cx)(st:Stmt)(t:TS):Prop:=
 ∀(pins:List (Addr×Obj)) (s:Shared) (σ:St) (H:Hp) (D:Ends),Inv X pins σ H s->t D σ H->aR (model X.prog X.w) X.A (exec st X.env) (SP X pins D) X.xe s
noncomputable def PSs(X:Cx)(st:List Stmt)(t:TS):Prop:=
 ∀(pins:List (Addr×Obj)) (s:Shared) (σ:St) (H:Hp) (D:Ends),Inv X pins σ H s->t D σ H->aR (model X.prog X.w) X.A (execs st X.env) (SP X pins D) X.xe s
theorem thn{α:Type}{t:Sem α}{Q Q':α->Shared->Prop}{M:Model}{A:Around}{E:Value->Shared->Prop}{s:Shared}(h:aR M A t Q E s)(hQ: ∀a s,Q a s->Q' a s):aR M A t Q' E s:=bI h hQ λ_ _ x=>x
end _L
namespace _L
open PySem PySem.Spec PyProof.Rows
section
variable {X:Cx}
noncomputable def EO(i:Nat):TE:=λσ H Q =>∃v,σ[i]? = some (some v)/\Q v H
noncomputable def tC(v:V):TE:=λ_ H Q=>Q v H
theorem mY {i:Nat}{x:Str}{pos:Pos} (hN:X.N[i]? = some x) (hv:Vis X.env.scope x) (hd:autoParam ((x == ("__debug__":Str))=false) au2._auto_1) (hcd:autoParam ((x == ("__classdict__":Str))=false) au2._auto_1):PE X (.Name x pos) (EO i):=by
 intro pins s σ H Q I h
 obtain⟨v,e,h⟩:=h
 obtain⟨m,hn,hl⟩:=I.loc
 obtain⟨u,r,l⟩:=hl i x v hN e hv
 have fin:EP X pins σ Q u s:=⟨v,H,I,r,h⟩
 rcases l with⟨hk,hm⟩ | ⟨hk,c,hc,hcell⟩
 ·exact wpAny_Name (wpAny_loadName_local I.ok.kind hk hn hm fin) hd
 ·rcases hk with hk |hk
  ·exact wpAny_Name (wpAny_loadName_cell I.ok.kind hk hc hcell fin) hd
  ·exact wpAny_Name (wpAny_loadName_free I.ok.kind hk hc hcell fin hcd) hd
theorem Hh{i j pos}:PE X (.Constant (.int i) j pos) (tC (.int i)):=λ_ _ _ H _ I h=>wpAny_Constant_int ⟨.int i,H,I.tok _,⟨_,rfl⟩,h⟩
theorem IV{b j pos}:PE X (.Constant (.bool b) j pos) (tC (.bl b)):=λ_ _ _ H _ I h=>Constant_bool ⟨.bl b,H,I,rfl,h⟩
theorem GO{j pos}:PE X (.Constant .none j pos) (tC .non):=λ_ _ _ H _ I h=>Constant_none ⟨.non,H,I,rfl,h⟩
theorem CF{x j pos}:PE X (.Constant (.str x) j pos) (tC (.str x)):=λ_ _ _ H _ I h=>gJ ⟨.str x,H,I.tok _,⟨_,rfl⟩,h⟩
noncomputable def Gl(X:Cx)(x:Str):Prop:=X.env.kindOf x=some .globalImplicit
theorem jw{E:Value->Shared->Prop}{pins:List (Addr×Obj)}{s:Shared}{σ:St}{H:Hp}{x:Str}{u:Value}{pos:Pos}{Q:Value->Shared->Prop}(I:Inv X pins σ H s)(hg:Gl X x)(hm:X.mg x=some u)(h:Q u s)
  (hd:autoParam ((x == ("__debug__":Str))=false) au2._auto_1):aR (model X.prog X.w) X.A (eval (.Name x pos) X.env) Q E s:=
 wM I.ok.kind hg (Calls.loadGlobal_global (by rw[I.ok.glob];exact I.mod.glob.keeps I.bk) hm h) hd
theorem nr{E:Value->Shared->Prop}{pins:List (Addr×Obj)}{s:Shared}{σ:St}{H:Hp}{x:Str}{u:Value}{pos:Pos}{Q:Value->Shared->Prop}(I:Inv X pins σ H s)(hg:Gl X x)(hm:X.mg x=none)(hv:bootBuiltins x=some u)(h:Q u s)
  (hn:autoParam (x≠"__name__") au2._auto_1) (hd:autoParam ((x == ("__debug__":Str))=false) au2._auto_1):aR (model X.prog X.w) X.A (eval (.Name x pos) X.env) Q E s:=by
 obtain⟨mb,h1,h2⟩:=I.mod.blt
 exact wM I.ok.kind hg (Calls.loadGlobal_builtin (by rw[I.ok.glob];exact I.mod.glob.keeps I.bk) hm (by rw[I.ok.blt];exact h1.keeps I.bk) ((h2 x hn).trans hv) h) hd
theorem Ec {x:Str}{v:V}{u:Value}{pos:Pos} (hg:Gl X x) (hm:X.mg x=some u) (r:RelV v u) (hd:autoParam ((x == ("__debug__":Str))=false) au2._auto_1):PE X (.Name x pos) (tC v):=
 λ_ _ _ H _ I h=>jw I hg hm ⟨v,H,I,r,h⟩ hd
variable {a b:Expr}{ta tb:TE}{pos:Pos}
noncomputable def tB(t:TE):TT:=λσ H Q=>t σ H λx H1 =>∃c,x = .bl c/\Q c H1
theorem FS{e:Expr}{t:TE}(h:PE X e t)(he:autoParam (∀whole,isTrue e X.env whole=(do let v <- whole;standAt e.pos;holding [v] (truthy v))) au3._auto_1):PT X e (tB t):=by
 intro pins s σ H Q I hw
 refine isTrue_plain (thn (h pins s σ H _ I hw) λv s1 ⟨x,H1,I1,r1,q1⟩ =>?_) (he _)
 obtain⟨d,rfl,q⟩:=q1
 cases r1
 exact ja ⟨H1,I1,q⟩
variable {tA tB':TT}{rest:List Expr}
noncomputable def Jj(t u:TT):TT:=λσ H Q=>t σ H λc H1=>if c=true then u σ H1 Q else Q false H1
noncomputable def tOr(t u:TT):TT:=λσ H Q=>t σ H λc H1=>if c=true then Q true H1 else u σ H1 Q
noncomputable def Jt(t:TT):TT:=λσ H Q=>t σ H λc H1=>Q (!c) H1
theorem Ej(ha:PT X a tA):PW X (.BoolOp .And [a] pos) tA:=by
 intro wh pins s σ H Q I h
 refine isTrue_and (thn (ha pins s σ H Q I h) λc s1 e =>?_)
 cases c with
 | true=>exact isTrue_and_nil e
 | false=>exact e
theorem G9(ha:PT X a tA):PW X (.BoolOp .Or [a] pos) tA:=by
 intro wh pins s σ H Q I h
 refine isTrue_or (thn (ha pins s σ H Q I h) λc s1 e =>?_)
 cases c with
 | false=>exact isTrue_or_nil e
 | true=>exact e
theorem Ht(ha:PT X a tA)(hb:PW X (.BoolOp .And (b::rest) pos) tB'):PW X (.BoolOp .And (a::b::rest) pos) (Jj tA tB'):=by
 intro wh pins s σ H Q I h
 refine isTrue_and (thn (ha pins s σ H _ I h) λc s1 ⟨H1,I1,q1⟩ =>?_)
 cases c with
 | true=>exact hb wh pins s1 σ H1 Q I1 q1
 | false=>exact⟨H1,I1,q1⟩
theorem JH(ha:PT X a tA)(hb:PW X (.BoolOp .Or (b::rest) pos) tB'):PW X (.BoolOp .Or (a::b::rest) pos) (tOr tA tB'):=by
 intro wh pins s σ H Q I h
 refine isTrue_or (thn (ha pins s σ H _ I h) λc s1 ⟨H1,I1,q1⟩ =>?_)
 cases c with
 | true=>exact⟨H1,I1,q1⟩
 | false=>exact hb wh pins s1 σ H1 Q I1 q1
theorem GF(ha:PT X a tA):PT X (.UnaryOp .Not a pos) (Jt tA):=by
 intro pins s σ H Q I h
 exact isTrue_not (ha pins s σ H (λc H1=>Q (!c) H1) I h)
noncomputable def Ff(ta tb:TE):TE:=λσ H Q=>ta σ H λx H1 =>∃c,x = .bl c/\if c=true then tb σ H1 Q else Q (.bl false) H1
noncomputable def IR(ta tb:TE):TE:=λσ H Q=>ta σ H λx H1 =>∃c,x = .bl c/\if c=true then Q (.bl true) H1 else tb σ H1 Q
noncomputable def Fz(ta:TE):TE:=λσ H Q=>ta σ H λx H1 =>∃c,x = .bl c/\Q (.bl (!c)) H1
theorem GT{op}{t:TE}(h:PE X a t):PE X (.BoolOp op [a] pos) t:=λpins s σ H Q I hw=>BoolOp_one (h pins s σ H Q I hw)
theorem Ii(ha:PE X a ta)(hb:PE X (.BoolOp .And (b::rest) pos) tb):PE X (.BoolOp .And (a::b::rest) pos) (Ff ta tb):=by
 intro pins s σ H Q I h
 refine BoolOp_and (thn (ha pins s σ H _ I h) λv s1 ⟨x,H1,I1,r1,q1⟩ =>?_)
 obtain⟨c,rfl,q1⟩:=q1
 cases r1
 refine ja ?_
 cases c with
 | true=>exact hb pins s1 σ H1 Q I1 q1
 | false=>exact⟨.bl false,H1,I1,rfl,q1⟩
theorem Ka(ha:PE X a ta)(hb:PE X (.BoolOp .Or (b::rest) pos) tb):PE X (.BoolOp .Or (a::b::rest) pos) (IR ta tb):=by
 intro pins s σ H Q I h
 refine BoolOp_or (thn (ha pins s σ H _ I h) λv s1 ⟨x,H1,I1,r1,q1⟩ =>?_)
 obtain⟨c,rfl,q1⟩:=q1
 cases r1
 refine ja ?_
 cases c with
 | false=>exact hb pins s1 σ H1 Q I1 q1
 | true=>exact⟨.bl true,H1,I1,rfl,q1⟩
theorem IB(ha:PE X a ta):PE X (.UnaryOp .Not a pos) (Fz ta):=by
 intro pins s σ H Q I h
 refine UnaryOp_ (thn (ha pins s σ H _ I h) λv s1 ⟨x,H1,I1,r1,q1⟩ =>?_)
 obtain⟨c,rfl,q1⟩:=q1
 cases r1
 exact not_of (ja ⟨.bl (!c),H1,I1,rfl,q1⟩)
noncomputable def tIf(t:TT)(ta tb:TE):TE:=λσ H Q=>t σ H λc H1=>if c=true then ta σ H1 Q else tb σ H1 Q
theorem Ba{c:Expr}(hc:PT X c tA)(ha:PE X a ta)(hb:PE X b tb):PE X (.IfExp c a b pos) (tIf tA ta tb):=by
 intro pins s σ H Q I h
 refine wpAny_IfExp (thn (hc pins s σ H _ I h) λd s1 ⟨H1,I1,q1⟩ =>?_)
 cases d with
 | true=>exact ha pins s1 σ H1 Q I1 q1
 | false=>exact hb pins s1 σ H1 Q I1 q1
end
end _L
namespace _L
open PySem PySem.Spec PyProof.Rows
noncomputable def SqL(K:ah)(H:Hp)(a:Addr)(xs:List V):Prop:=
 Rd H a (.lst xs) \/
  ∃ (o:Obj) (its:Array Value) (n:Nat),K.lookup a=some o/\o.cls = .type "list"/\o.dict=none/\o.data = .seq its n/\its.size<=sizeLine/\bK xs its.toList
noncomputable def SqT(K:ah)(H:Hp)(a:Addr)(xs:List V):Prop:=
 Rd H a (.tup xs) \/
  ∃ (o:Obj) (its:Array Value) (n:Nat),K.lookup a=some o/\o.cls = .type "tuple"/\o.data = .seq its n/\its.size<=sizeLine/\bK xs its.toList
noncomputable def Lx:Value->Option V
 | .none=>some .non
 | .bool b=>some (.bl b)
 | .int i _=>some (.int i)
 | .str x _=>some (.str x)
 | .bytes b _=>some (.byt b)
 | .float b _=>some (.flt b)
 | .ref a=>some (.ref a)
 | .type n=>some (.ty n)
 | _=>none
theorem RelV.abs{x:V}{u:Value}(r:RelV x u):Lx u=some x:=by
 cases x with
 | non=>cases r;rfl
 | bl _=>cases r;rfl
 | int _=>obtain⟨t,rfl⟩:=r;rfl
 | str _=>obtain⟨t,rfl⟩:=r;rfl
 | byt _=>obtain⟨t,rfl⟩:=r;rfl
 | flt _=>obtain⟨t,rfl⟩:=r;rfl
 | ref _=>cases r;rfl
 | ty _=>cases r;rfl
theorem RelV.inj{x y:V}{u:Value}(r:RelV x u)(q:RelV y u):x=y:=bL (r.abs.symm.trans q.abs)
theorem bK.inj: ∀{xs ys:List V}{us:List Value},bK xs us->bK ys us->xs=ys:=by
 intro xs ys us h
 induction h generalizing ys with
 | nil=>intro q;cases q;rfl
 | cons r t ih=>intro q;cases q with |cons r' t'=>rw[r.inj r',ih t']
section
variable {X:Cx}{pins:List (Addr×Obj)}{σ:St}{H:Hp}{s:Shared}{a:Addr}{xs ys:List V}
theorem SqL.of{K:ah}(h:H a=some (.lst xs)):SqL K H a xs:= .inl (.inl h)
theorem SqT.of{K:ah}(h:H a=some (.tup xs)):SqT K H a xs:= .inl (.inl h)
theorem Inv.list(I:Inv X pins σ H s)(h:SqL X.K H a xs): ∃its:List Value,bK xs its/\PlainL s.heap a its.toArray/\xs.length<=sizeLine:=by
 rcases h with h | ⟨o,its,n,hk,hc,hd,hs,hz,r⟩
 ·obtain⟨z,its,n,r,e⟩:=h.ok I.hok
  exact⟨its,r,⟨_,n,e,rfl,rfl,rfl⟩,z⟩
 ·refine⟨its.toList,r,⟨o,n,I.kIn a o hk,hc,hd,by simpa using hs⟩,?_⟩
  have e:=r.length
  simp only[gd]at e
  omega
theorem Inv.tuple(I:Inv X pins σ H s)(h:SqT X.K H a xs): ∃its:List Value,bK xs its/\IsTup s.heap a its.toArray/\xs.length<=sizeLine:=by
 rcases h with h | ⟨o,its,n,hk,hc,hs,hz,r⟩
 ·obtain⟨z,its,r,p⟩:=h.ok I.hok
  exact⟨its,r,p.1,z⟩
 ·refine⟨its.toList,r,⟨o,I.kIn a o hk,hc,n,by simpa using hs⟩,?_⟩
  have e:=r.length
  simp only[gd]at e
  omega
theorem Inv.list_inj(I:Inv X pins σ H s)(h:SqL X.K H a xs)(h':SqL X.K H a ys):xs=ys:=by
 obtain⟨its,r,⟨o,n,e,_,_,d⟩,_⟩:=I.list h
 obtain⟨its',r',⟨o',n',e',_,_,d'⟩,_⟩:=I.list h'
 rw[e]at e';cases e'
 rw[d]at d'
 injection d' with d1 _
 have:its=its':=by simpa using congrArg Array.toList d1
 subst this
 exact r.inj r'
theorem Inv.tuple_inj(I:Inv X pins σ H s)(h:SqT X.K H a xs)(h':SqT X.K H a ys):xs=ys:=by
 obtain⟨its,r,⟨o,e,_,n,d⟩,_⟩:=I.tuple h
 obtain⟨its',r',⟨o',e',_,n',d'⟩,_⟩:=I.tuple h'
 rw[e]at e';cases e'
 rw[d]at d'
 injection d' with d1 _
 have:its=its':=by simpa using congrArg Array.toList d1
 subst this
 exact r.inj r'
end
abbrev Cx.wish(X:Cx)(E:Value->Shared->Prop):Cx:={ X with xe:=E }
abbrev Cx.nox(X:Cx):Cx:=X.wish λ_ _=>False
theorem Cx.Ok.wish{X:Cx}(ok:X.Ok)(E:Value->Shared->Prop):(X.wish E).Ok:=
 ⟨ok.mod,ok.kind,ok.glob,ok.blt,ok.above,ok.inj,ok.has,ok.cab,ok.hd,ok.frames,ok.stk,ok.exf,ok.bs,ok.bsz,ok.noex,ok.exfs,ok.funs,ok.frf⟩
theorem Cx.Ok.unwish{X:Cx}{E:Value->Shared->Prop}(ok:(X.wish E).Ok):X.Ok:=
 ⟨ok.mod,ok.kind,ok.glob,ok.blt,ok.above,ok.inj,ok.has,ok.cab,ok.hd,ok.frames,ok.stk,ok.exf,ok.bs,ok.bsz,ok.noex,ok.exfs,ok.funs,ok.frf⟩
section
variable {X:Cx}{pins:List (Addr×Obj)}{σ:St}{H:Hp}{s:Shared}{E:Value->Shared->Prop}
theorem Inv.wish(I:Inv X pins σ H s)(E:Value->Shared->Prop):Inv (X.wish E) pins σ H s:=⟨I.ok.wish E,I.os,I.bare,I.base,I.loc,I.cell,I.free,I.freeC,I.pin,I.hok,I.len⟩
theorem Inv.unwish(I:Inv (X.wish E) pins σ H s):Inv X pins σ H s:=⟨I.ok.unwish,I.os,I.bare,I.base,I.loc,I.cell,I.free,I.freeC,I.pin,I.hok,I.len⟩
theorem SP.unwish{D:Ends}{f:Flow}{s':Shared}(h:SP (X.wish E) pins D f s'):SP X pins D f s':=by
 cases f with
 | next=>obtain⟨σ',H',I,q⟩:=h;exact⟨σ',H',I.unwish,q⟩
 | brk=>obtain⟨σ',H',I,q⟩:=h;exact⟨σ',H',I.unwish,q⟩
 | cont=>obtain⟨σ',H',I,q⟩:=h;exact⟨σ',H',I.unwish,q⟩
 | ret u=>obtain⟨v,σ',H',I,r,q⟩:=h;exact⟨v,σ',H',I.unwish,r,q⟩
theorem PE.nox{e:Expr}{t:TE}(h:PE X.nox e t):PE X e t:=λpins s σ H Q I hw=>
 bI (h pins s σ H Q (I.wish _) hw) (λ_ _ ⟨v,H',I',r,q⟩=>⟨v,H',I'.unwish,r,q⟩) λ_ _ z=>bC z
theorem PT.nox{e:Expr}{t:TT}(h:PT X.nox e t):PT X e t:=λpins s σ H Q I hw=>
 bI (h pins s σ H Q (I.wish _) hw) (λ_ _ ⟨H',I',q⟩=>⟨H',I'.unwish,q⟩) λ_ _ z=>bC z
theorem PSs.nox{st:List Stmt}{t:TS}(h:PSs X.nox st t):PSs X st t:=λpins s σ H D I hw=>
 bI (h pins s σ H D (I.wish _) hw) (λ_ _ q=>q.unwish) λ_ _ z=>bC z
end
section
variable {X:Cx}{st:Stmt}{rest:List Stmt}{t u:TS}{e:Expr}{te:TE}{pos:Pos}
noncomputable def Cb:TS:=λD σ H=>D.nx σ H
noncomputable def Lc(t u:TS):TS:=λD σ H=>t { D with nx:=u D } σ H
theorem DN:PSs X [] Cb:=λ_ _ σ H _ I h=>iz ⟨σ,H,I,h⟩
theorem lq(h1:PS X st t)(h2:PSs X rest u):PSs X (st::rest) (Lc t u):=by
 intro pins s σ H D I h
 refine yi (thn (h1 pins s σ H { D with nx:=u D } I h) λf s1 q =>?_)
 cases f with
 | next=>
   obtain⟨σ',H',I',q⟩:=q
   exact h2 pins s1 σ' H' D I' q
 | ret v=>exact q
 | brk=>exact q
 | cont=>exact q
theorem yu(h1:PS X st t):PSs X [st] t:=by
 intro pins s σ H D I h
 refine yi (thn (h1 pins s σ H D I h) λf s1 q =>?_)
 cases f with
 | next=>exact iz q
 | ret v=>exact q
 | brk=>exact q
 | cont=>exact q
noncomputable def HV:TS:=λD σ H=>D.bk σ H
noncomputable def Jv:TS:=λD σ H=>D.ct σ H
theorem DC:PS X (.Pass pos) Cb:=λ_ _ σ H _ I h=>wpAny_Pass ⟨σ,H,I,h⟩
theorem Bc:PS X (.Break pos) HV:=λ_ _ σ H _ I h=>wpAny_Break ⟨σ,H,I,h⟩
theorem vA:PS X (.Continue pos) Jv:=λ_ _ σ H _ I h=>wpAny_Continue ⟨σ,H,I,h⟩
theorem Inv.quiet{pins:List (Addr×Obj)}{σ:St}{H:Hp}{s:Shared}(I:Inv X pins σ H s):interactive X.env=false:=by simp[interactive,I.ok.kind]
noncomputable def Fu(te:TE):TS:=λD σ H=>te σ H λ_ H1=>D.nx σ H1
theorem yx(he:PE X e te)(hs:autoParam (swapsWith e none pos.line X.env=pure false) au1._auto_1):PS X (.Expr e pos) (Fu te):=by
 intro pins s σ H D I h
 exact wpAny_Expr_any (thn (he pins s σ H _ I h) λv s1 ⟨x,H1,I1,r1,q1⟩=>⟨σ,H1,I1,q1⟩) I.quiet hs
noncomputable def K6(te:TE):TS:=λD σ H=>te σ H D.rt
theorem BO(he:PE X e te):PS X (.Return (some e) pos) (K6 te):=by
 intro pins s σ H D I h
 exact wpAny_Return_some (thn (he pins s σ H _ I h) λv s1 ⟨x,H1,I1,r1,q1⟩=>⟨x,σ,H1,I1,r1,q1⟩)
noncomputable def JE:TS:=λD _ H=>D.rt .non H
theorem DV:PS X (.Return none pos) JE:=λ_ _ σ H _ I h=>wpAny_Return_none ⟨.non,σ,H,I,rfl,h⟩
noncomputable def JV(c:TT)(t u:TS):TS:=λD σ H=>c σ H λb H1=>if b=true then t D σ H1 else u D σ H1
theorem E9{c:Expr}{a b:List Stmt}{tc:TT}(hc:PT X c tc)(ha:PSs X a t)(hb:PSs X b u):PS X (.If c a b pos) (JV tc t u):=by
 intro pins s σ H D I h
 refine wpAny_If (thn (hc pins s σ H _ I h) λd s1 ⟨H1,I1,q1⟩ =>?_)
 cases d with
 | true=>exact ha pins s1 σ H1 D I1 q1
 | false=>exact hb pins s1 σ H1 D I1 q1
end
abbrev TG:=V->St->Hp->(St->Hp->Prop)->Prop
abbrev TGs:=List V->St->Hp->(St->Hp->Prop)->Prop
noncomputable def PG(X:Cx)(target:Expr)(t:TG):Prop:=
 ∀(pins:List (Addr×Obj)) (s:Shared) (σ:St) (H:Hp) (v:V) (u:Value) (Q:St->Hp->Prop),Inv X pins σ H s->RelV v u->t v σ H Q ->
  aR (model X.prog X.w) X.A (assign target X.env u) (λ_ s' =>∃σ' H',Inv X pins σ' H' s'/\Q σ' H') X.xe s
noncomputable def PGs(X:Cx)(ts:List Expr)(t:TGs):Prop:=
 ∀(pins:List (Addr×Obj)) (s:Shared) (σ:St) (H:Hp) (vs:List V) (us:List Value) (Q:St->Hp->Prop),Inv X pins σ H s->bK vs us->t vs σ H Q ->
  aR (model X.prog X.w) X.A (assignInOrder ((assignEach ts X.env).map (·.2)) us) (λ_ s' =>∃σ' H',Inv X pins σ' H' s'/\Q σ' H') X.xe s
abbrev BQ:=V->V->V->Hp->(Hp->Prop)->Prop
noncomputable def GZ(X:Cx)(t:BQ):Prop:=
 ∀(pins:List (Addr×Obj)) (s:Shared) (σ:St) (H:Hp) (o i v:V) (ov iv u:Value) (Q:Hp->Prop),Inv X pins σ H s->RelV o ov->RelV i iv->RelV v u->t o i v H Q ->
  aR (model X.prog X.w) X.A (setItem ov iv u) (λ_ s' =>∃H',Inv X pins σ H' s'/\Q H') X.xe s
section
variable {X:Cx}{pos:Pos}
noncomputable def jA(i:Nat):TG:=λv σ H Q=>Q (σ.set i (some v)) H
theorem yR{i:Nat}{x:Str}(hN:X.N.Nodup)(hi:X.N[i]? = some x)(hx:Loc X.env.scope x)(hf:autoParam (X.fn x=true\/X.env.scope.names.lookup x=some .local) au4._auto_1):PG X (.Name x pos) (jA i):=by
 intro pins s σ H v u Q I r h
 exact wN (nY I hN hi hx r (λs' I'=>⟨_,H,I',h⟩) hf)
noncomputable def IU:TGs:=λvs σ H Q=>vs = []/\Q σ H
noncomputable def Fx(t:TG)(u:TGs):TGs:=λvs σ H Q =>∃v r,vs=v::r/\t v σ H λσ' H'=>u r σ' H' Q
theorem Em:PGs X [] IU:=by
 intro pins s σ H vs us Q I r h
 obtain⟨e,h⟩:=h
 subst e
 cases r
 exact assignInOrder_nil ⟨σ,H,I,h⟩
theorem A7{e:Expr}{es:List Expr}{t:TG}{u:TGs}(h1:PG X e t)(h2:PGs X es u)
  (hs:autoParam ((assignEach (e::es) X.env).map (·.2)=assign e X.env::(assignEach es X.env).map (·.2)) au1._auto_1):PGs X (e::es) (Fx t u):=by
 intro pins s σ H vs us Q I r h
 obtain⟨v,vr,e1,h⟩:=h
 subst e1
 cases r with
 | cons r rr=>
   rw[hs]
   refine assignInOrder_cons (thn (h1 pins s σ H _ _ _ I r h) λ_ s1 ⟨σ1,H1,I1,q1⟩ =>?_)
   exact h2 pins s1 σ1 H1 _ _ Q I1 rr q1
noncomputable def JA(K:ah)(n:Nat)(t:TGs):TG:=λv σ H Q =>∃a xs,v = .ref a/\SqT K H a xs/\xs.length=n/\t xs σ H Q
theorem Iq{es:List Expr}{k:Nat}{t:TGs}{n:Nat}(hc:X.calm=true)(h:PGs X es t)
  (hn:autoParam ((assignEach es X.env).length=n) au1._auto_1) (hst:autoParam ((assignEach es X.env).findIdx? (·.1)=none) au1._auto_1):PG X (.Tuple es k pos) (JA X.K n t):=by
 intro pins s σ H v u Q I r hw
 obtain⟨a,xs,e1,hq,hl,hw⟩:=hw
 subst e1
 cases r
 obtain⟨its,rv,ht,hz⟩:=I.tuple hq
 refine assign_Tuple_tuple (I.ok.hd hc) ht (by simp[hn,<- hl,rv.length]) hst λh' hx =>?_
 have I1:Inv X pins σ H { s with heap:=h' }:=I.kept (t':=s.toks) λb o e=>hx b o (br (aG e)) e
 exact h pins _ σ H xs _ Q I1 (by simpa using rv) hw
noncomputable def J9(to ti:TE)(t:BQ):TG:=λv σ H Q=>to σ H λo H1=>ti σ H1 λi H2=>t o i v H2 λH3=>Q σ H3
theorem Il{o i:Expr}{to ti:TE}{t:BQ}(ho:PE X o to)(hi:PE X i ti)(hs:GZ X t)
  (ha:autoParam (∀v,assign (.Subscript o i pos) X.env v=(do
   let ov <- holding [v] (eval o X.env)
   let iv <- holding [v,ov] (eval i X.env)
   standAt pos
   holding [v,ov,iv] (setItem ov iv v)
   release [v,ov,iv] [])) au3._auto_1):PG X (.Subscript o i pos) (J9 to ti t):=by
 intro pins s σ H v u Q I r h
 rw[ha]
 refine az (jX (thn (ho pins s σ H _ I h) λov s1 ⟨x,H1,I1,r1,q1⟩ =>?_))
 refine az (jX (thn (hi pins s1 σ H1 _ I1 q1) λiv s2 ⟨y,H2,I2,r2,q2⟩ =>?_))
 refine az (wpAny_standAt (az (jX (thn (hs pins s2 σ H2 x y v ov iv u _ I2 r1 r2 r q2) λ_ s3 ⟨H3,I3,q3⟩ =>?_))))
 exact wpAny_release ⟨σ,H3,I3,q3⟩
noncomputable def AJ(te:TE)(g:TG):TS:=λD σ H=>te σ H λx H1=>g x σ H1 D.nx
theorem Gv{tg e:Expr}{te:TE}{g:TG}(he:PE X e te)(hg:PG X tg g)(hs:autoParam (swapsWithSole [tg] e pos.line X.env=pure false) au1._auto_1)(hw:autoParam (swappedStores [tg] e X.env=pure none) au1._auto_1)
  (h1:autoParam ((assignEach [tg] X.env).map (·.2) = [assign tg X.env]) au1._auto_1):PS X (.Assign [tg] e pos) (AJ te g):=by
 intro pins s σ H D I h
 refine wpAny_Assign_stores (thn (he pins s σ H _ I h) λv s1 ⟨x,H1,I1,r1,q1⟩ =>?_) hs hw
 rw[h1]
 exact thn (hg pins s1 σ H1 x v _ I1 r1 q1) λ_ s2 q=>q
theorem xw{i:Nat}{x:Str}{e:Expr}{te:TE}{pos':Pos}(hN:X.N.Nodup)(hi:X.N[i]? = some x)(hx:Loc X.env.scope x)(he:PE X e te)(hs:autoParam (swapsWith e (some (.Name x pos')) pos.line X.env=pure false) au1._auto_1)(hf:autoParam (X.fn x=true\/X.env.scope.names.lookup x=some .local) au4._auto_1):
  PS X (.Assign [.Name x pos'] e pos) (AJ te (jA i)):=by
 intro pins s σ H D I h
 refine wpAny_Assign_Name (thn (he pins s σ H _ I h) λv s1 ⟨y,H1,I1,r1,q1⟩ =>?_) hs
 exact nY I1 hN hi hx r1 (λs2 I2=>⟨_,H1,I2,q1⟩) hf
end
section
variable {X:Cx}{pos:Pos}
noncomputable def BH(c:TT)(tb:TS):TS:=λD σ H =>∃W:Nat->St->Hp->Prop,(∃m,W m σ H) /\ ∀m σ H,W m σ H ->
 c σ H λb H1=>if b=true then ∃N:St->Hp->Prop,(∀σ' H',N σ' H' -> ∃m',m'<m/\W m' σ' H')/\tb { D with nx:=N,ct:=N,bk:=D.nx } σ H1 else D.nx σ H1
theorem B4{c:Expr}{body:List Stmt}{tc:TT}{tb:TS}(hp:PassesOwn (model X.prog X.w) X.A X.env X.xe)(hc:PT X c tc)(hb:PSs X body tb):PS X (.While c body [] pos) (BH tc tb):=by
 intro pins s σ H D I h
 obtain⟨W,⟨m0,w0⟩,turn⟩:=h
 refine wpAny_While (codeAny_whileLoop (λn s' =>∃σ' H',Inv X pins σ' H' s'/\W n σ' H') ?_ m0 ⟨σ,H,I,w0⟩)
 rintro n s1 ⟨σ1,H1,I1,w1⟩
 refine fR hp (thn (hc pins s1 σ1 H1 _ I1 (turn n σ1 H1 w1)) λb s2 ⟨H2,I2,q2⟩ =>?_)
 cases b with
 | true=>
   obtain⟨N,hN,q2⟩:=q2
   rw[if_pos rfl]
   refine fR hp (thn (hb pins s2 σ1 H2 _ I2 q2) λf s3 q3 =>?_)
   cases f with
   | next=>
     obtain⟨σ3,H3,I3,n3⟩:=q3
     obtain⟨m',hm,w3⟩:=hN σ3 H3 n3
     exact⟨m',hm,σ3,H3,I3,w3⟩
   | cont=>
     obtain⟨σ3,H3,I3,n3⟩:=q3
     obtain⟨m',hm,w3⟩:=hN σ3 H3 n3
     exact⟨m',hm,σ3,H3,I3,w3⟩
   | brk=>exact q3
   | ret v=>exact q3
 | false=>
   rw[if_neg bE]
   exact iz ⟨σ1,H2,I2,q2⟩
end
structure It where
 go:Nat->Hp->Prop
 yld:Nat->Hp->V->Hp->Prop
 stop:Nat->Hp->Prop
noncomputable def uB(X:Cx)(pins:List (Addr×Obj))(H:Hp)(b:Addr):Prop:=
 H b=none/\b≠X.env.locals/\b∉X.fs/\(b∈X.ex\/X.s₀.heap.objs.size<=b)/\(∀x c,X.env.cells.lookup x=some c->c≠b) /\ ∀p∈X.pn++pins,p.1≠b
theorem Inv.fpOk{X:Cx}{pins:List (Addr×Obj)}{σ:St}{H H':Hp}{s:Shared}{b:Addr}(I:Inv X pins σ H s)(hb:s.heap.objs.size<=b)(hn:H' b=none):uB X pins H' b:=by
 refine⟨hn,di (ai I.lt hb),I.nofs hb,.inr (aB I.sz hb),λx c e z =>?_,λp hp z =>?_⟩
 ·obtain⟨v,q⟩:=I.cell x c e
  exact absurd (ai q.lt (by rw[z];exact hb)) (bN _)
 ·exact absurd (ai (aG (I.pin p hp).1) (by rw[z];exact hb)) (bN _)
structure Turn(P:Program)(w:World)(K:ah)(tg:Expr)(J:It)(fp:List Addr)(it:Addr)(tn:Nat->Heap->Prop):Prop where
 mem:it∈fp
 obj: ∀i h,tn i h -> ∀b∈fp,∃o,h.get? b=some o /\ ∀v,o.data≠.cell v
 keep: ∀i h h',tn i h->(∀b∈fp,∀o,h.get? b=some o->h'.get? b=some o)->tn i h'
 item: ∀(X:Cx),X.prog=P->X.w=w->X.K=K->X.calm=true -> ∀(i:Nat) (pins:List (Addr×Obj)) (s:Shared) (σ:St) (H:Hp) (E:Value->Shared->Prop),Inv X pins σ H s->(∀b∈fp,uB X pins H b)->tn i s.heap->J.go i H ->
  aR (model P w) X.A (pyNext (.ref it)) (λr s1 =>∃u,r=some u /\
   aR (model P w) X.A (letOwnedTupleGo tg (.ref it) u) (λ_ s2 =>∃x H',Inv X pins σ H' s2/\RelV x u/\J.yld i H x H'/\tn (i+1) s2.heap /\ ∀b∈fp,H' b=none) E s1) E s
 done: ∀(X:Cx),X.prog=P->X.w=w->X.K=K->X.calm=true -> ∀(i:Nat) (pins:List (Addr×Obj)) (s:Shared) (σ:St) (H:Hp) (E:Value->Shared->Prop),Inv X pins σ H s->(∀b∈fp,uB X pins H b)->tn i s.heap->J.stop i H ->
  aR (model P w) X.A (pyNext (.ref it)) (λr s1=>r=none/\Inv X pins σ H s1) E s
 self: ∀(A:Around) (i:Nat) (s:Shared) (Q:Value->Shared->Prop) (E:Value->Shared->Prop),tn i s.heap->Q (.ref it) s->aR (model P w) A (pyIter (.ref it)) Q E s
abbrev TI:=St->Hp->(It->Hp->Prop)->Prop
noncomputable def PIE(X:Cx)(pins:List (Addr×Obj))(σ:St)(tg:Expr)(R:It->Hp->Prop)(itv:Value)(s2:Shared):Prop:=
 ∃(it:Addr) (fp:List Addr) (tn:Nat->Heap->Prop) (J:It) (H':Hp),itv = .ref it/\Inv X pins σ H' s2/\Turn X.prog X.w X.K tg J fp it tn/\tn 0 s2.heap/\(∀b∈fp,uB X pins H' b)/\R J H'
noncomputable def PI(X:Cx)(tg iter:Expr)(wi:TI):Prop:=
 ∀(pins:List (Addr×Obj)) (s:Shared) (σ:St) (H:Hp) (R:It->Hp->Prop),Inv X pins σ H s->wi σ H R ->
  aR (model X.prog X.w) X.A (eval iter X.env) (λv s1=>aR (model X.prog X.w) X.A (pyIter v) (PIE X pins σ tg R) X.xe s1) X.xe s
theorem Bj{M:Model}{A:Around}{E:Value->Shared->Prop}{s:Shared}{tg:Expr}{it:Addr}{u:Value}{o:Obj}{n:String}{vs:Array Value}{Q:Unit->Shared->Prop}(ho:s.heap.get? it=some o)(hc:o.cls = .type n)(hd:o.data = .fields vs)
  (hn : ["enumerate","zip","dict_itemiterator","dict_reverseitemiterator","odict_iterator","itertools.zip_longest","itertools.pairwise"].contains n=false) (hQ:Q () s):aR M A (letOwnedTupleGo tg (.ref it) u) Q E s:=by
 unfold letOwnedTupleGo
 cases tg <;> first
  | exact aJ hQ
  | (cases u <;> first
    | exact aJ hQ
    | (refine az (wpAny_load ho ?_)
       rw[hc,hd]
       show aR M A (if (["enumerate","zip","dict_itemiterator","dict_reverseitemiterator","odict_iterator","itertools.zip_longest","itertools.pairwise"].contains n&&vs[0]? == some (rawInt _))=true then _ else _) Q E s
       rw[if_neg (by intro h;rw[hn,Bool.false_and]at h;cases h)]
       exact aJ hQ))
noncomputable def Itl(K:ah)(a:Addr):It:=
 ⟨λi H =>∃xs x,SqL K H a xs/\xs[i]? = some x,λi H x H'=>H'=H /\ ∀xs,SqL K H a xs->xs[i]? = some x,λi H =>∃xs,SqL K H a xs/\xs.length<=i⟩
noncomputable def Itt(K:ah)(a:Addr):It:=
 ⟨λi H =>∃xs x,SqT K H a xs/\xs[i]? = some x,λi H x H'=>H'=H /\ ∀xs,SqT K H a xs->xs[i]? = some x,λi H =>∃xs,SqT K H a xs/\xs.length<=i⟩
noncomputable def Itr(lo:Int)(n:Nat):It:=⟨λi _=>i<n,λi H x H'=>H'=H/\x = .int (lo+i),λi _=>n<=i⟩
theorem zP{P:Program}{w:World}{K:ah}{tg:Expr}(a it:Addr):Turn P w K tg (Itl K a) [it] it (λi h=>h.IsListIter it a i) where
 mem:=by simp
 obj:=λi h st b hb=>by
  have e:b=it:=by simpa using hb
  subst e
  obtain⟨o,e,c,d⟩:=st
  exact⟨o,e,λv z=>by rw[d]at z;cases z⟩
 keep:=λi h h' st k=>st.at λo e=>k it (by simp) o e
 item:=by
  intro X hP hw hK hc i pins s σ H E I hf st hg
  subst hP hw hK
  obtain⟨xs,x,hq,hx⟩:=hg
  obtain⟨its,rv,p,hz⟩:=I.list hq
  obtain⟨u,hu,ru⟩:=rv.get hx
  obtain⟨f0,f1,f2,f3,f4,f5⟩:=hf it (by simp)
  refine wpAny_pyNext_list_item st p.isList (x:=u) (by simpa using hu) λh' st' sb =>?_
  have I1:Inv X pins σ H { s with heap:=h' }:=I.turned (t':=s.toks) (λb o hb e=>(sb.2 b hb).trans e) f0 f1 f3 f4 f5
  obtain⟨o,e,c,d⟩:=id st'
  exact⟨u,rfl,Bj (s:={ s with heap:=h' }) e c d (by decide) ⟨x,H,I1,ru,⟨rfl,λys hy=>by rw[I.list_inj hy hq];exact hx⟩,st',λb hb=>(hf b hb).1⟩⟩
 done:=by
  intro X hP hw hK hc i pins s σ H E I hf st hg
  subst hP hw hK
  obtain⟨xs,hq,hx⟩:=hg
  obtain⟨its,rv,p,hz⟩:=I.list hq
  obtain⟨f0,f1,f2,f3,f4,f5⟩:=hf it (by simp)
  have hl:=rv.length
  exact wpAny_pyNext_list_end (I.ok.hd hc) st p.isList (by simp;omega) λh' eb=>⟨rfl,I.turned (t':=s.toks) (λb o hb e=>eb b o hb e) f0 f1 f3 f4 f5⟩
 self:=λ_ _ _ _ _ st h=>wpAny_pyIter_listiter st h
theorem xH{P:Program}{w:World}{K:ah}{tg:Expr}(a it:Addr):Turn P w K tg (Itt K a) [it] it (λi h=>h.IsTupleIter it a i) where
 mem:=by simp
 obj:=λi h st b hb=>by
  have e:b=it:=by simpa using hb
  subst e
  obtain⟨o,e,c,d⟩:=st
  exact⟨o,e,λv z=>by rw[d]at z;cases z⟩
 keep:=λi h h' st k=>st.at λo e=>k it (by simp) o e
 item:=by
  intro X hP hw hK hc i pins s σ H E I hf st hg
  subst hP hw hK
  obtain⟨xs,x,hq,hx⟩:=hg
  obtain⟨its,rv,p,hz⟩:=I.tuple hq
  obtain⟨u,hu,ru⟩:=rv.get hx
  obtain⟨f0,f1,f2,f3,f4,f5⟩:=hf it (by simp)
  refine wpAny_pyNext_tuple_item st (show s.heap.IsTuple a its.toArray from p) (x:=u) (by simpa using hu) λh' st' sb =>?_
  have I1:Inv X pins σ H { s with heap:=h' }:=I.turned (t':=s.toks) (λb o hb e=>(sb.2 b hb).trans e) f0 f1 f3 f4 f5
  obtain⟨o,e,c,d⟩:=id st'
  exact⟨u,rfl,Bj (s:={ s with heap:=h' }) e c d (by decide) ⟨x,H,I1,ru,⟨rfl,λys hy=>by rw[I.tuple_inj hy hq];exact hx⟩,st',λb hb=>(hf b hb).1⟩⟩
 done:=by
  intro X hP hw hK hc i pins s σ H E I hf st hg
  subst hP hw hK
  obtain⟨xs,hq,hx⟩:=hg
  obtain⟨its,rv,p,hz⟩:=I.tuple hq
  obtain⟨f0,f1,f2,f3,f4,f5⟩:=hf it (by simp)
  have hl:=rv.length
  exact wpAny_pyNext_tuple_end (I.ok.hd hc) st (show s.heap.IsTuple a its.toArray from p) (by simp;omega) λh' eb=>⟨rfl,I.turned (t':=s.toks) (λb o hb e=>eb b o hb e) f0 f1 f3 f4 f5⟩
 self:=λ_ _ _ _ _ st h=>wpAny_pyIter_tupleiter st h
theorem xr{P:Program}{w:World}{K:ah}{tg:Expr}(it:Addr)(lo:Int)(n:Nat):Turn P w K tg (Itr lo n) [it] it (λi h=>IsRangeIter h it (lo+(i:Nat)*1) ((n:Int) - (i:Nat)) 1) where
 mem:=by simp
 obj:=λi h st b hb=>by
  have e:b=it:=by simpa using hb
  subst e
  exact⟨_,st,λv z=>by
   have z':Data.fields _=Data.cell v:=z
   cases z'⟩
 keep:=λi h h' st k=>k it (by simp) _ st
 item:=by
  intro X hP hw hK hc i pins s σ H E I hf st hg
  subst hP hw hK
  obtain⟨f0,f1,f2,f3,f4,f5⟩:=hf it (by simp)
  have W:=Walks.range (prog:=X.prog) (w:=X.w) (I.ok.hd hc) it lo 1 n
  refine W.item i s _ _ hg st λv h' tk hv st' kk =>?_
  obtain⟨t,rfl⟩:=hv
  have I1:Inv X pins σ H { s with heap:=h',toks:=tk }:=I.turned (λb o hb e=>kk b o (by simpa using hb) e) f0 f1 f3 f4 f5
  refine⟨_,rfl,Bj (s:={ s with heap:=h',toks:=tk }) (n:="range_iterator") st' rfl rfl (by decide) ⟨.int (lo+i),H,I1,⟨t,?_⟩,⟨rfl,rfl⟩,st',fun b hb=>(hf b hb).1⟩⟩
  rw[Int.mul_one]
 done:=by
  intro X hP hw hK hc i pins s σ H E I hf st hg
  subst hP hw hK
  obtain⟨f0,f1,f2,f3,f4,f5⟩:=hf it (by simp)
  exact wpAny_pyNext_range_end (I.ok.hd hc) st (by have:n<=i:=hg;omega) λh' eb=>⟨rfl,I.turned (t':=s.toks) (λb o hb e=>eb b o hb e) f0 f1 f3 f4 f5⟩
 self:=λ_ _ _ _ _ st h=>wpAny_pyIter_rangeiter st h
end _L
namespace _L
open PySem PySem.Spec PyProof.Rows
section
variable {X:Cx}{tg:Expr}
noncomputable def tE(K:ah)(tl:TE):TI:=λσ H R=>tl σ H λx H1 =>∃a,x = .ref a/\(∃xs,SqL K H1 a xs)/\R (Itl K a) H1
noncomputable def Ac(K:ah)(tl:TE):TI:=λσ H R=>tl σ H λx H1 =>∃a,x = .ref a/\(∃xs,SqT K H1 a xs)/\R (Itt K a) H1
theorem Dy{l:Expr}{tl:TE}(hl:PE X l tl):PI X tg l (tE X.K tl):=by
 intro pins s σ H R I h
 refine thn (hl pins s σ H _ I h) λv s1 ⟨x,H1,I1,r1,q1⟩ =>?_
 obtain⟨a,e,⟨xs,hq⟩,q⟩:=q1
 subst e
 cases r1
 obtain⟨its,rv,p,hz⟩:=I1.list hq
 refine wpAny_pyIter_list p.isList ?_
 refine⟨s1.heap.objs.size,[s1.heap.objs.size],_,_,H1,rfl,I1.kept (t':=s1.toks) λb o e=>av _ e,zP a _,⟨_,aH _ rfl,rfl,rfl⟩,λb hb =>?_,q⟩
 have e:b=s1.heap.objs.size:=by simpa using hb
 subst e
 exact I1.fpOk (ak _) (I1.hok.fresh (ak _))
theorem GS{l:Expr}{tl:TE}(hl:PE X l tl):PI X tg l (Ac X.K tl):=by
 intro pins s σ H R I h
 refine thn (hl pins s σ H _ I h) λv s1 ⟨x,H1,I1,r1,q1⟩ =>?_
 obtain⟨a,e,⟨xs,hq⟩,q⟩:=q1
 subst e
 cases r1
 obtain⟨its,rv,p,hz⟩:=I1.tuple hq
 refine wpAny_pyIter_tuple (show s1.heap.IsTuple a its.toArray from p) ?_
 refine⟨s1.heap.objs.size,[s1.heap.objs.size],_,_,H1,rfl,I1.kept (t':=s1.toks) λb o e=>av _ e,xH a _,⟨_,aH _ rfl,rfl,rfl⟩,λb hb =>?_,q⟩
 have e:b=s1.heap.objs.size:=by simpa using hb
 subst e
 exact I1.fpOk (ak _) (I1.hok.fresh (ak _))
theorem u7{pins:List (Addr×Obj)}{σ:St}{H:Hp}{s:Shared}{R:It->Hp->Prop}{E:Value->Shared->Prop}{lo hi:Int}{t u v:Tok}{tk:Nat}(I:Inv X pins σ H s)(h1: -(2 ^ 62)<=lo)(h2:lo<2 ^ 62)(h3: -(2 ^ 62)<=hi)(h4:hi<2 ^ 62)
  (q:R (Itr lo (hi - lo).toNat) H):aR (model X.prog X.w) X.A (pyIter (.ref s.heap.objs.size)) (PIE X pins σ tg R) E { s with heap:=s.heap.push { cls := .type "range",data := .fields #[.int lo t,.int hi u,.int 1 v] },toks:=tk }:=by
 refine wpAny_pyIter_range (IsRange.new ..) (small_one h1 h2 h3 h4) ?_
 have I1:Inv X pins σ H { s with heap:=s.heap.push { cls := .type "range",data := .fields #[.int lo t,.int hi u,.int 1 v] },toks:=tk }:=I.kept fun b o e=>av _ e
 refine⟨(s.heap.push { cls := .type "range",data := .fields #[.int lo t,.int hi u,.int 1 v] }).objs.size,[(s.heap.push { cls := .type "range",data := .fields #[.int lo t,.int hi u,.int 1 v] }).objs.size],_,_,H,rfl,
  I1.kept (t':=tk) λb o e=>av _ e,xr _ lo (hi - lo).toNat,?_,λb hb =>?_,q⟩
 ·have e1:lo+((0:Nat):Int)*1=lo:=by simp
  have e2:(((hi - lo).toNat:Nat):Int) - ((0:Nat):Int)=dr lo hi 1:=by rw[rangeSize_one];split <;> omega
  show IsRangeIter _ _ (lo+((0:Nat):Int)*1) ((((hi - lo).toNat:Nat):Int) - ((0:Nat):Int)) 1
  rw[e1,e2]
  exact aH _ rfl
 ·have e:b=(s.heap.push { cls := .type "range",data := .fields #[.int lo t,.int hi u,.int 1 v] }).objs.size:=by simpa using hb
  subst e
  exact I1.fpOk (ak _) (I1.hok.fresh (ak _))
noncomputable def vB(ta:TA):TI:=λσ H R=>ta σ H λvs H1 =>∃j:Int,vs = [.int j] /\ -(2 ^ 62)<=j/\j<2 ^ 62/\R (Itr 0 j.toNat) H1
noncomputable def wz(ta:TA):TI:=λσ H R=>ta σ H λvs H1 =>∃i j:Int,vs = [.int i,.int j]/\(-(2 ^ 62)<=i/\i<2 ^ 62 /\ -(2 ^ 62)<=j/\j<2 ^ 62)/\R (Itr i (j - i).toNat) H1
theorem zQ {a:Expr}{ta:TA}{p pos:Pos} (hg:Gl X "range") (hm:X.mg "range"=none) (ha:PA X [a] ta) (hs:autoParam (starEach [a] X.env = [(false,eval a X.env)]) au1._auto_1):PI X tg (.Call (.Name "range" p) [a] [] pos) (vB ta):=by
 intro pins s σ H R I h
 refine Call_ (nr I hg hm boot_range (eI (thn (ha pos pins s σ H _ I h) λus s1 ⟨vs,H1,I1,r1,q1⟩ =>?_) hs rfl))
 obtain⟨j,e,q1,q2,q⟩:=q1
 subst e
 cases r1 with
 | cons r rr=>
   cases rr
   obtain⟨t,rfl⟩:=r
   exact call_range_1 (u7 I1 (by decide) (by decide) q1 q2 (by simpa using q))
theorem zw {a b:Expr}{ta:TA}{p pos:Pos} (hg:Gl X "range") (hm:X.mg "range"=none) (ha:PA X [a,b] ta) (hs:autoParam (starEach [a,b] X.env = [(false,eval a X.env),(false,eval b X.env)]) au1._auto_1) (hs2:autoParam (starEach [b] X.env = [(false,eval b X.env)]) au1._auto_1) :
  PI X tg (.Call (.Name "range" p) [a,b] [] pos) (wz ta):=by
 intro pins s σ H R I h
 refine Call_ (nr I hg hm boot_range (eI (thn (ha pos pins s σ H _ I h) λus s1 ⟨vs,H1,I1,r1,q1⟩ =>?_) (by rw[hs,hs2]) (by rw[hs2];rfl)))
 obtain⟨i,j,e,⟨q1,q2,q3,q4⟩,q⟩:=q1
 subst e
 cases r1 with
 | cons r rr=>
   cases rr with
   | cons r' rr=>
     cases rr
     obtain⟨t,rfl⟩:=r
     obtain⟨t',rfl⟩:=r'
     exact call_range_2 (u7 I1 q1 q2 q3 q4 q)
noncomputable def vv(wi:TI)(g:TG)(tb:TS):TS:=λD σ H=>wi σ H λJ H1 =>∃W:Nat->Nat->St->Hp->Prop,(∃m,W 0 m σ H1) /\ ∀i m σ H,W i m σ H ->
 (J.stop i H/\D.nx σ H)\/(J.go i H /\ ∃N:St->Hp->Prop,(∀σ' H',N σ' H' -> ∃m',m'<m/\W (i+1) m' σ' H') /\ ∀x H',J.yld i H x H'->g x σ H' λσ2 H2=>tb { D with nx:=N,ct:=N,bk:=D.nx } σ2 H2)
noncomputable def qp(fp:List Addr)(h:Heap):List (Addr×Obj):=fp.filterMap λb=>(h.get? b).map λo=>(b,o)
theorem kj{fp:List Addr}{h:Heap}{b:Addr}{o:Obj}(hb:b∈fp)(e:h.get? b=some o):(b,o)∈qp fp h:=List.mem_filterMap.mpr ⟨b,hb,by rw[e];rfl⟩
theorem zu{fp:List Addr}{h:Heap}{p:Addr×Obj}(hp:p∈qp fp h):p.1∈fp/\h.get? p.1=some p.2:=by
 obtain⟨b,hb,e⟩:=List.mem_filterMap.mp hp
 cases q:h.get? b with
 | none=>rw[q]at e;cases e
 | some o=>
   rw[q]at e
   have e':(b,o)=p:=bL e
   subst e'
   exact⟨hb,q⟩
theorem Inv.pinned{pins:List (Addr×Obj)}{σ:St}{H:Hp}{s:Shared}{fp:List Addr}(I:Inv X pins σ H s)(hf: ∀b∈fp,uB X pins H b)(ho: ∀b∈fp,∃o,s.heap.get? b=some o /\ ∀v,o.data≠.cell v):Inv X (pins++qp fp s.heap) σ H s:=
 I.pins_of λp hp=>(bZ.mp hp).elim (λz=>I.pin p (aL _ z)) λz=>by
  obtain⟨hb,e⟩:=zu z
  obtain⟨f0,f1,f2,_⟩:=hf p.1 hb
  obtain⟨o,e',d⟩:=ho p.1 hb
  rw[e]at e';cases e'
  exact⟨e,f0,f1,f2,d⟩
theorem Inv.unpinned{pins pl:List (Addr×Obj)}{σ:St}{H:Hp}{s:Shared}(I:Inv X (pins++pl) σ H s):Inv X pins σ H s:=I.pins_of λp hp=>I.pin p (aL _ (bc _ hp))
theorem Bz{iter:Expr}{body:List Stmt}{wi:TI}{g:TG}{tb:TS}{pos:Pos}(hp:PassesOwn (model X.prog X.w) X.A X.env X.xe)(hc:X.calm=true)(hi:PI X tg iter wi)(hg:PG X tg g)(hb:PSs X body tb)
  (hs:autoParam (∀x,foldedSetIterable iter X.env x=pure x) au3._auto_1):PS X (.For tg iter body [] pos) (vv wi g tb):=by
 intro pins s σ H D I h
 refine wpAny_For (thn (hi pins s σ H _ I h) λv s1 h1=>thn h1 λitv s2 h2 =>?_) hs
 obtain⟨it,fp,tn,J,H2,e,I2,T,st2,f2,W,⟨m0,w0⟩,turn⟩:=h2
 subst e
 have stat: ∀{H':Hp},(∀b∈fp,H' b=none) -> ∀b∈fp,uB X pins H' b:=λhn b hb=>⟨hn b hb,(f2 b hb).2⟩
 refine codeAny_forLoop_any (λn s' =>∃i σ' H',Inv X pins σ' H' s'/\tn i s'.heap/\(∀b∈fp,H' b=none)/\W i n σ' H') ?_ m0 ⟨0,σ,H2,I2,st2,λb hb=>(f2 b hb).1,w0⟩
 rintro n s3 ⟨i,σ3,H3,I3,st3,fr3,w3⟩
 rcases turn i n σ3 H3 w3 with⟨stop,qn⟩ | ⟨go,N,hN,step⟩
 ·refine fR hp (thn (T.done X rfl rfl rfl hc i pins s3 σ3 H3 X.xe I3 (stat fr3) st3 stop) λr s4 ⟨hr,I4⟩ =>?_)
  subst hr
  exact iz ⟨σ3,H3,I4,qn⟩
 ·refine fR hp (thn (T.item X rfl rfl rfl hc i pins s3 σ3 H3 X.xe I3 (stat fr3) st3 go) λr s4 ⟨u,hr,h4⟩ =>?_)
  subst hr
  refine fR hp (thn h4 λ_ s5 ⟨x,H5,I5,r5,y5,st5,fr5⟩ =>?_)
  have I5':=I5.pinned (stat fr5) (T.obj _ _ st5)
  refine fR hp (thn (hg _ s5 σ3 H5 x u _ I5' r5 (step x H5 y5)) λ_ s6 ⟨σ6,H6,I6,q6⟩ =>?_)
  refine fR hp (thn (hb _ s6 σ6 H6 _ I6 q6) λf s7 q7 =>?_)
  have again: ∀{σ7:St}{H7:Hp},Inv X (pins++qp fp s5.heap) σ7 H7 s7->N σ7 H7 -> ∃m,m<n /\ ∃i σ' H',Inv X pins σ' H' s7/\tn i s7.heap/\(∀b∈fp,H' b=none)/\W i m σ' H':=λ{σ7 H7} I7 n7=>by
   obtain⟨m',hm,w7⟩:=hN σ7 H7 n7
   refine⟨m',hm,i+1,σ7,H7,I7.unpinned,T.keep _ _ _ st5 λb hb o e=>(I7.pin (b,o) (aL _ (aL _ (kj hb e)))).1,λb hb =>?_,w7⟩
   obtain⟨o,e,d⟩:=T.obj _ _ st5 b hb
   exact(I7.pin (b,o) (aL _ (aL _ (kj hb e)))).2.1
  cases f with
  | next=>obtain⟨σ7,H7,I7,n7⟩:=q7;exact again I7 n7
  | cont=>obtain⟨σ7,H7,I7,n7⟩:=q7;exact again I7 n7
  | brk=>obtain⟨σ7,H7,I7,q7⟩:=q7;exact⟨σ7,H7,I7.unpinned,q7⟩
  | ret v=>obtain⟨x7,σ7,H7,I7,r7,q7⟩:=q7;exact⟨x7,σ7,H7,I7.unpinned,r7,q7⟩
end
theorem Eb{K:ah}{a:Addr}{xs:List V}{g:TG}{tb:TS}{D:Ends}{σ:St}{H:Hp}(Pv:Nat->St->Hp->Prop)(h0:Pv 0 σ H)(hl: ∀i σ H,i<=xs.length->Pv i σ H->SqT K H a xs)
  (hs: ∀i x σ H,xs[i]? = some x->Pv i σ H->g x σ H λσ2 H2=>tb { D with nx:=Pv (i+1),ct:=Pv (i+1),bk:=D.nx } σ2 H2) (hd: ∀σ H,Pv xs.length σ H->D.nx σ H):
  ∃W:Nat->Nat->St->Hp->Prop,(∃m,W 0 m σ H) /\ ∀i m σ H,W i m σ H ->
   ((Itt K a).stop i H/\D.nx σ H)\/((Itt K a).go i H /\ ∃N:St->Hp->Prop,(∀σ' H',N σ' H' -> ∃m',m'<m/\W (i+1) m' σ' H') /\ ∀x H',(Itt K a).yld i H x H'->g x σ H' λσ2 H2=>tb { D with nx:=N,ct:=N,bk:=D.nx } σ2 H2):=by
 refine⟨λi m σ H=>m=xs.length - i/\i<=xs.length/\Pv i σ H,⟨xs.length,by simp,en _,h0⟩,?_⟩
 rintro i m σ H ⟨rfl,hi,p⟩
 have q:=hl i σ H hi p
 by_cases hlt:i<xs.length
 ·refine .inr ⟨⟨xs,xs[i],q,by simp[hlt]⟩,Pv (i+1),λσ' H' p'=>⟨xs.length - (i+1),by omega,rfl,hlt,p'⟩,λx H' y =>?_⟩
  obtain⟨e,y⟩:=y
  subst e
  exact hs i x σ _ (y xs q) p
 ·have e:i=xs.length:=by omega
  subst e
  exact .inl ⟨⟨xs,q,ak _⟩,hd σ H p⟩
theorem Aa{lo:Int}{n:Nat}{g:TG}{tb:TS}{D:Ends}{σ:St}{H:Hp}(Pv:Nat->St->Hp->Prop)(h0:Pv 0 σ H)
  (hs: ∀i σ H,i<n->Pv i σ H->g (.int (lo+i)) σ H λσ2 H2=>tb { D with nx:=Pv (i+1),ct:=Pv (i+1),bk:=D.nx } σ2 H2) (hd: ∀σ H,Pv n σ H->D.nx σ H):
  ∃W:Nat->Nat->St->Hp->Prop,(∃m,W 0 m σ H) /\ ∀i m σ H,W i m σ H ->
   ((Itr lo n).stop i H/\D.nx σ H)\/((Itr lo n).go i H /\ ∃N:St->Hp->Prop,(∀σ' H',N σ' H' -> ∃m',m'<m/\W (i+1) m' σ' H') /\ ∀x H',(Itr lo n).yld i H x H'->g x σ H' λσ2 H2=>tb { D with nx:=N,ct:=N,bk:=D.nx } σ2 H2):=by
 refine⟨λi m σ H=>m=n - i/\i<=n/\Pv i σ H,⟨n,by simp,en _,h0⟩,?_⟩
 rintro i m σ H ⟨rfl,hi,p⟩
 by_cases hlt:i<n
 ·refine .inr ⟨hlt,Pv (i+1),λσ' H' p'=>⟨n - (i+1),by omega,rfl,hlt,p'⟩,λx H' y =>?_⟩
  obtain⟨e,y⟩:=y
  subst e y
  exact hs i σ _ hlt p
 ·have e:i=n:=by omega
  subst e
  exact .inl ⟨ak _,hd σ H p⟩
end _L
namespace _L
open PySem PySem.Spec PyProof.Rows
abbrev R2:=V->V->Hp->VK->Prop
noncomputable def OpR(X:Cx)(f:Value->Value->Sem Value)(r:R2):Prop:=
 ∀(pins:List (Addr×Obj)) (s:Shared) (σ:St) (H:Hp) (x y:V) (v u:Value) (Q:VK),Inv X pins σ H s->RelV x v->RelV y u->r x y H Q ->
  aR (model X.prog X.w) X.A (f v u) (EP X pins σ Q) X.xe s
noncomputable def UnR(X:Cx)(f:Value->Sem Value)(r:V->Hp->VK->Prop):Prop:=
 ∀(pins:List (Addr×Obj)) (s:Shared) (σ:St) (H:Hp) (x:V) (v:Value) (Q:VK),Inv X pins σ H s->RelV x v->r x H Q ->
  aR (model X.prog X.w) X.A (f v) (EP X pins σ Q) X.xe s
noncomputable def iJ(X:Cx)(f:Value)(r:List V->Hp->VK->Prop):Prop:=
 ∀(pins:List (Addr×Obj)) (s:Shared) (σ:St) (H:Hp) (xs:List V) (us:List Value) (Q:VK),Inv X pins σ H s->bK xs us->r xs H Q ->
  aR (model X.prog X.w) X.A (call f us) (EP X pins σ Q) X.xe s
noncomputable def tOp(r:R2)(ta tb:TE):TE:=λσ H Q=>ta σ H λx H1=>tb σ H1 λy H2=>r x y H2 Q
noncomputable def tUn(r:V->Hp->VK->Prop)(ta:TE):TE:=λσ H Q=>ta σ H λx H1=>r x H1 Q
noncomputable def rI(C:Int->Int->Prop)(g:Int->Int->V):R2:=λx y H Q =>∃i j,x = .int i/\y = .int j/\C i j/\Q (g i j) H
noncomputable def rI0(g:Int->Int->V):R2:=λx y H Q =>∃i j,x = .int i/\y = .int j/\Q (g i j) H
noncomputable def rU(g:Int->V):V->Hp->VK->Prop:=λx H Q =>∃i,x = .int i/\Q (g i) H
section
variable {X:Cx}{a b c:Expr}{ta tb tc:TE}{pos:Pos}
theorem Iz(ha:PE X a ta)(hb:PE X b tb){pins:List (Addr×Obj)}{s:Shared}{σ:St}{H:Hp}{R:V->V->Hp->Prop}(I:Inv X pins σ H s)
  (h:ta σ H λx H1=>tb σ H1 λy H2=>R x y H2) {Q:Value->Shared->Prop}{f:Value->Value->Sem Value}
  (hf: ∀v u s2 x y H2,Inv X pins σ H2 s2->RelV x v->RelV y u->R x y H2->aR (model X.prog X.w) X.A (f v u) Q X.xe s2):
  aR (model X.prog X.w) X.A (eval a X.env) (λv s₁=>aR (model X.prog X.w) X.A (eval b X.env) (λu s₂=>aR (model X.prog X.w) X.A (f v u) Q X.xe s₂) X.xe s₁) X.xe s:=by
 refine thn (ha pins s σ H _ I h) λv s1 ⟨x,H1,I1,r1,q1⟩ =>?_
 refine thn (hb pins s1 σ H1 _ I1 q1) λu s2 ⟨y,H2,I2,r2,q2⟩ =>?_
 exact hf v u s2 x y H2 I2 r1 r2 q2
theorem sU{op:Operator}{r:R2}(ho:OpR X (binaryOp op) r)(ha:PE X a ta)(hb:PE X b tb):PE X (.BinOp a op b pos) (tOp r ta tb):=by
 intro pins s σ H Q I h
 exact wpAny_BinOp (Iz ha hb I h λv u s2 x y H2 I2 rx ry q=>ho pins s2 σ H2 x y v u Q I2 rx ry q)
theorem Kf{op:UnaryOp}{r:V->Hp->VK->Prop}(ho:UnR X (unaryOp op) r)(ha:PE X a ta):PE X (.UnaryOp op a pos) (tUn r ta):=by
 intro pins s σ H Q I h
 exact UnaryOp_ (thn (ha pins s σ H _ I h) λv s1 ⟨x,H1,I1,r1,q1⟩=>ho pins s1 σ H1 x v Q I1 r1 q1)
theorem opI{f:Value->Value->Sem Value}{C:Int->Int->Prop}{g:Int->Int->Int}
  (rule: ∀(i j:Int) (t u:Tok) (s:Shared) (Q:Value->Shared->Prop) (E:Value->Shared->Prop),C i j->Q (.int (g i j) s.toks) { s with toks:=s.toks+1 }->aR (model X.prog X.w) X.A (f (.int i t) (.int j u)) Q E s):
  OpR X f (rI C λi j => .int (g i j)):=by
 intro pins s σ H x y v u Q I rx ry h
 obtain⟨i,j,rfl,rfl,hc,q⟩:=h
 obtain⟨t,rfl⟩:=rx
 obtain⟨t',rfl⟩:=ry
 exact rule i j t t' s _ _ hc ⟨.int (g i j),H,I.tok _,⟨_,rfl⟩,q⟩
theorem Kk{f:Value->Value->Sem Value}{g:Int->Int->Int}
  (rule: ∀(i j:Int) (t u:Tok) (s:Shared) (Q:Value->Shared->Prop) (E:Value->Shared->Prop),Q (.int (g i j) s.toks) { s with toks:=s.toks+1 }->aR (model X.prog X.w) X.A (f (.int i t) (.int j u)) Q E s):
  OpR X f (rI0 λi j => .int (g i j)):=by
 intro pins s σ H x y v u Q I rx ry h
 obtain⟨i,j,rfl,rfl,q⟩:=h
 obtain⟨t,rfl⟩:=rx
 obtain⟨t',rfl⟩:=ry
 exact rule i j t t' s _ _ ⟨.int (g i j),H,I.tok _,⟨_,rfl⟩,q⟩
theorem Dw{f:Value->Value->Sem Value}{g:Int->Int->Bool}
  (rule: ∀(i j:Int) (t u:Tok) (s:Shared) (Q:Value->Shared->Prop) (E:Value->Shared->Prop),Q (.bool (g i j)) s->aR (model X.prog X.w) X.A (f (.int i t) (.int j u)) Q E s):
  OpR X f (rI0 λi j => .bl (g i j)):=by
 intro pins s σ H x y v u Q I rx ry h
 obtain⟨i,j,rfl,rfl,q⟩:=h
 obtain⟨t,rfl⟩:=rx
 obtain⟨t',rfl⟩:=ry
 exact rule i j t t' s _ _ ⟨.bl (g i j),H,I,rfl,q⟩
noncomputable def K4(i j:Int):Prop:=0<j/\j<1073741824
noncomputable def Jp(i j:Int):Prop:=0<=j/\j<=1000000/\i.natAbs<2 ^ 64
noncomputable def Ed(i j:Int):Prop:=(-(2 ^ 64)<i/\i<2 ^ 64)\/(-(2 ^ 64)<j/\j<2 ^ 64)
theorem Ed.ok{i j:Int}(h:Ed i j):IntMulOk i j:=by
 rcases h with⟨h1,h2⟩ | ⟨h1,h2⟩
 ·exact .of_left (intBits_le_64 h1 h2)
 ·exact .of_right (intBits_le_64 h1 h2)
theorem F4:OpR X (binaryOp .Add) (rI0 λi j => .int (i+j)):=Kk λ_ _ _ _ _ _ _ q=>add_int q
theorem Ig:OpR X (binaryOp .Sub) (rI0 λi j => .int (i - j)):=Kk λ_ _ _ _ _ _ _ q=>sub_int q
theorem GK:OpR X (binaryOp .Mult) (rI Ed λi j => .int (i*j)):=opI λ_ _ _ _ _ _ _ hc q=>mul_int q hc.ok
theorem DP:OpR X (binaryOp .FloorDiv) (rI K4 λi j => .int (i / j)):=opI λi j _ _ _ _ _ hc q=>by
 have h1:(0:Int)<j:=hc.1
 have h2:j<1073741824:=hc.2
 exact floordiv_int (by omega) (by rw[Int.fdiv_eq_ediv_of_nonneg i (by omega)];exact q) (.inl (PyProof.noPylong_small (by omega)))
theorem Gx:OpR X (binaryOp .Mod) (rI (λ_ j=>0<j) λi j => .int (i % j)):=opI λi j _ _ _ _ _ hc q=>by
 have h1:(0:Int)<j:=hc
 exact mod_int' (by omega) (by rw[Int.fmod_eq_emod_of_nonneg i (by omega)];exact q)
theorem G2:OpR X (binaryOp .Pow) (rI Jp λi j => .int (i ^ j.toNat)):=opI λ_ _ _ _ _ _ _ hc q=>pow_int_small hc.1 hc.2.1 hc.2.2 q
theorem unI{f:Value->Sem Value}{g:Int->Int}
  (rule: ∀(i:Int) (t:Tok) (s:Shared) (Q:Value->Shared->Prop) (E:Value->Shared->Prop),Q (.int (g i) s.toks) { s with toks:=s.toks+1 }->aR (model X.prog X.w) X.A (f (.int i t)) Q E s):
  UnR X f (rU λi => .int (g i)):=by
 intro pins s σ H x v Q I rx h
 obtain⟨i,rfl,q⟩:=h
 obtain⟨t,rfl⟩:=rx
 exact rule i t s _ _ ⟨.int (g i),H,I.tok _,⟨_,rfl⟩,q⟩
theorem Gp:UnR X (unaryOp .USub) (rU λi => .int (-i)):=unI λ_ _ _ _ _ q=>neg_int q
end
section
variable {X:Cx}{a b c:Expr}{ta tb tc:TE}{pos:Pos}
theorem IM:OpR X (compareOp .Lt) (rI0 λi j => .bl (decide (i<j))):=Dw λ_ _ _ _ _ _ _ q=>lt_int q
theorem IK:OpR X (compareOp .LtE) (rI0 λi j => .bl (decide (i<=j))):=Dw λ_ _ _ _ _ _ _ q=>le_int q
theorem KD:OpR X (compareOp .Gt) (rI0 λi j => .bl (decide (j<i))):=Dw λ_ _ _ _ _ _ _ q=>gt_int q
theorem IE:OpR X (compareOp .GtE) (rI0 λi j => .bl (decide (j<=i))):=Dw λ_ _ _ _ _ _ _ q=>ge_int q
theorem OpR.or{f:Value->Value->Sem Value}{r r':R2}(h:OpR X f r)(h':OpR X f r'):OpR X f (λx y H Q=>r x y H Q\/r' x y H Q):=by
 intro pins s σ H x y v u Q I rx ry q
 rcases q with q |q
 ·exact h pins s σ H x y v u Q I rx ry q
 ·exact h' pins s σ H x y v u Q I rx ry q
theorem LZ(b:Expr){op:CmpOp}(h:autoParam (op≠.In) au2._auto_1)(h2:autoParam (op≠.NotIn) au2._auto_1):behindInMarks op b=false:=by
 have e1:(op==CmpOp.In)=false:=by cases op <;> first |rfl |exact absurd rfl h
 have e2:(op==CmpOp.NotIn)=false:=by cases op <;> first |rfl |exact absurd rfl h2
 cases b <;> simp[behindInMarks,e1,e2]
theorem DA{op:CmpOp}{r:R2}(ho:OpR X (compareOp op) r)(ha:PE X a ta)(hb:PE X b tb)(hm:behindInMarks op b=false):PE X (.Compare a [op] [b] pos) (tOp r ta tb):=by
 intro pins s σ H Q I h
 exact wpAny_Compare1 (Iz ha hb I h λv u s2 x y H2 I2 rx ry q=>ho pins s2 σ H2 x y v u Q I2 rx ry q) hm
noncomputable def FE(t:TE):TT:=λσ H Q=>t σ H λx H' =>∃k,x = .bl k/\Q k H'
theorem EA{op:CmpOp}{r:R2}(ho:OpR X (compareOp op) r)(ha:PE X a ta)(hb:PE X b tb)(hm:behindInMarks op b=false):PT X (.Compare a [op] [b] pos) (FE (tOp r ta tb)):=by
 intro pins s σ H Q I h
 refine wpAny_isTrue_Compare1 (thn (ha pins s σ H _ I h) λv s1 ⟨x,H1,I1,r1,q1⟩=>thn (hb pins s1 σ H1 _ I1 q1) λu s2 ⟨y,H2,I2,r2,q2⟩=>
  thn (ho pins s2 σ H2 x y v u _ I2 r1 r2 q2) λc s3 ⟨z,H3,I3,r3,k,e,q3⟩ =>?_) hm
 subst e
 cases r3
 exact ja ⟨H3,I3,q3⟩
theorem qu:(sizeLine:Nat)<2 ^ 63:=by rw[sizeLine_eq];decide
theorem vals1{x:V}{us:List Value}(r:bK [x] us): ∃u,us = [u]/\RelV x u:=by
 cases r with
 | cons r1 r2=>cases r2;exact⟨_,rfl,r1⟩
theorem vals2{x y:V}{us:List Value}(r:bK [x,y] us): ∃u w',us = [u,w']/\RelV x u/\RelV y w':=by
 cases r with
 | cons r1 r2=>
   cases r2 with
   | cons r3 r4=>cases r4;exact⟨_,_,rfl,r1,r3⟩
theorem zt (hc:X.calm=true):iJ X (.builtin "max") (fun xs H Q => ∃ i j,xs = [.int i,.int j]/\Q (.int (if j > i then j else i)) H):=by
 intro pins s σ H xs us Q I r h
 obtain⟨i,j,rfl,q⟩:=h
 obtain⟨u,w',rfl,⟨t,rfl⟩,⟨t',rfl⟩⟩:=vals2 r
 refine max_two_ints (I.ok.hd hc) λh' tk k=>⟨_,H,I.kept k,?_,q⟩
 by_cases hj:j > i
 ·rw[if_pos hj,if_pos hj];exact⟨_,rfl⟩
 ·rw[if_neg hj,if_neg hj];exact⟨_,rfl⟩
theorem Ab (hc:X.calm=true):iJ X (.builtin "min") (fun xs H Q => ∃ i j,xs = [.int i,.int j]/\Q (.int (if j < i then j else i)) H):=by
 intro pins s σ H xs us Q I r h
 obtain⟨i,j,rfl,q⟩:=h
 obtain⟨u,w',rfl,⟨t,rfl⟩,⟨t',rfl⟩⟩:=vals2 r
 refine min_two_ints (I.ok.hd hc) λh' tk k=>⟨_,H,I.kept k,?_,q⟩
 by_cases hj:j<i
 ·rw[if_pos hj,if_pos hj];exact⟨_,rfl⟩
 ·rw[if_neg hj,if_neg hj];exact⟨_,rfl⟩
end
end _L
namespace _L
open PySem PySem.Spec PyProof.Rows
structure Ku(h:Heap)(x dx C:Addr)(mA:Str->Option Value):Prop where
 obj:h.get? x=some (eM C dx)
 ns:h.Ns1 dx mA
 ne:dx≠x
theorem Ao{h:Heap}{dx:Addr}{mA:Str->Option Value}(n:h.Ns1 dx mA): ∃od,h.get? dx=some od /\ ∀name,uS name od=some (mA name):=by
 obtain⟨o,es,ep,ho,hd,hk,_,hm⟩:=n
 refine⟨o,ho,λname =>?_⟩
 have e:=hm name
 unfold nsFind findBy at e
 rw[<- Array.find?_toList]at e
 unfold uS
 rw[hd]
 dsimp only
 split
 ·rename_i y q
  rw[q]at e
  exact congrArg some e
 ·rename_i q
  rw[q]at e
  have a:es.toList.any (·.refKey)=false:=by
   rw[List.any_eq_false]
   intro y hy
   obtain⟨z,t,hkey⟩:=hk y (Array.mem_toList_iff.mp hy)
   simp[DictEntry.refKey,hkey]
  have a': ¬es.toList.any (·.refKey)=true:=by rw[a];exact bE
  rw[if_neg a']
  exact congrArg some e
theorem Ku.look{h:Heap}{x dx C:Addr}{mA:Str->Option Value}(I:Ku h x dx C mA): ∃od,PySem.W.InstAt h x (eM C dx) C (some od) /\ ∀name,uS name od=some (mA name):=
 let ⟨od,ho,hl⟩:=Ao I.ns
 ⟨od,⟨I.obj,rfl,rfl,ho⟩,hl⟩
section
variable {prog:Program}{w:World}{A:Around}{E:Value->Shared->Prop}{s:Shared}{K:ah}{x dx C f:Addr}{mA:Str->Option Value}{name:Str}{v:Value}
end
theorem om.some_of{v:V}{o:Option Value}(r:om (some v) o): ∃u,o=some u/\RelV v u:=by
 cases o with
 | none=>exact(show False from r).elim
 | some u=>exact⟨u,rfl,r⟩
theorem om.none_of{o:Option Value}(r:om none o):o=none:=by
 cases o with
 | none=>rfl
 | some u=>exact(show False from r).elim
section
variable {P:Program}{w:World}{H H':Hp}{h h':Heap}{a C dx:Addr}{fs fs':List (Str×V)}
end
structure Cls(K:ah)(C:Addr):Prop where
 pg:PySem.W.plainGet K C jb=true
 hd:PySem.W.hasDictIn K C=true
 po:PySem.W.plainOver K C=true
 sa:jV K (.ref C) "__setattr__"=some (some (.builtin "object.__setattr__"))
theorem Cls.get{K:ah}{C:Addr}(c:Cls K C)(f:Str):PySem.W.plainGet K C f=true:=c.pg
structure Con(K:ah)(C:Addr)(f:Str)(v:V)(u:Value):Prop where
 at_:jV K (.ref C) f=some (some u)
 rel:RelV v u
 get:CS K u "__get__"=some none
 cp:PySem.W.copiedNames.contains f=false
structure L5(K:ah)(C:Addr)(m:Str)(f:Addr):Prop where
 at_:jV K (.ref C) m=some (some (.ref f))
 fn:PySem.W.isFn K (.ref f)=true
 kp:bP K (.ref f)=true
section
variable {X:Cx}{pins:List (Addr×Obj)}{σ:St}{H:Hp}{s:Shared}{a C dx:Addr}{fs:List (Str×V)}{f:Str}{v:V}{A:Around}{E:Value->Shared->Prop}
theorem Inv.made(I:Inv X pins σ H s):Inv X pins σ (upd (upd H s.heap.objs.size (.own (s.heap.objs.size+1))) (s.heap.objs.size+1) (.ins C s.heap.objs.size []))
  { s with heap:=(s.heap.push dA).push (eM C s.heap.objs.size) }:=by
 have e1:(s.heap.push dA).get? s.heap.objs.size=some dA:=aH s.heap rfl
 have e2:((s.heap.push dA).push (eM C s.heap.objs.size)).get? (s.heap.objs.size+1)=some (eM C s.heap.objs.size):=by
  have:=aH (s.heap.push dA) (o:=eM C s.heap.objs.size) rfl
  rwa[bA]at this
 have e3:(s.heap.push dA).Ns s.heap.objs.size (λ_=>none):=⟨dA,#[],_,e1,rfl,(λe he=>absurd he (by simp)),λ_=>rfl⟩
 have I1:=I.laid (a:=s.heap.objs.size) (o:= .own (s.heap.objs.size+1)) (h':=s.heap.push dA) (t':=s.toks) (λb u q=>av _ q) (ak _) ⟨_,e1⟩
 refine I1.laid (a:=s.heap.objs.size+1) (o:= .ins C s.heap.objs.size []) (t':=s.toks) (λb u q=>av _ q) (kg (bA _ _)) ?_
 have ne:s.heap.objs.size≠s.heap.objs.size+1:=br (cY _)
 refine⟨by rw[aZ ne,cq],en _,ne,e2,λ_=>none,(Heap.Ns1.of_empty e3).at λo q=>av _ q,λ_=>qi,λy hy=>absurd rfl hy⟩
end
section
variable {X:Cx}{o e value:Expr}{f:Str}{pos pos' tpos:Pos}{ta tv:TE}
end
section
variable {X:Cx}{pins:List (Addr×Obj)}{σ:St}{H:Hp}{s:Shared}{A:Around}{E:Value->Shared->Prop}{Q:Value->Shared->Prop}{c:Value}{b:Bool}
inductive rq(K:ah)(H:Hp):V->Value->Prop where
 | non:rq K H .non (.type "NoneType")
 | bl (x:Bool):rq K H (.bl x) (.type "bool")
 | int (i:Int):rq K H (.int i) (.type "int")
 | str (x:Str):rq K H (.str x) (.type "str")
 | flt (x:UInt64):rq K H (.flt x) (.type "float")
 | lst {a:Addr}{xs:List V} (e:H a=some (.lst xs)):rq K H (.ref a) (.type "list")
 | frz {a:Addr}{o:Obj}{xs:List V} (e:H a=some (.frz o (.lst xs))):rq K H (.ref a) (.type "list")
 | tup {a:Addr}{xs:List V} (e:H a=some (.tup xs)):rq K H (.ref a) (.type "tuple")
 | dK {a:Addr}{kvs:List (Key×V)} (e:H a=some (.dK kvs)):rq K H (.ref a) (.type "dict")
 | dT {a:Addr}{kvs:List (List Key×V)} (e:H a=some (.dT kvs)):rq K H (.ref a) (.type "dict")
 | ins {a C dx:Addr}{fs:List (Str×V)} (e:H a=some (.ins C dx fs)) (cl:Cls K C) (ha:jV K (.ref C) "__class__"=some (some (.builtin "object.__class__")))
   (hn:CS K (.builtin "object.__class__") "__get__"=some (some (.builtin "getset_descriptor.__get__"))) (htk:PySem.W.takesIn K (.builtin "object.__class__")=some true)
   (hm:PySem.W.mroIn K C (.type "object")=some true):rq K H (.ref a) (.ref C)
end
end _L
namespace _L
open PySem PySem.Spec PyProof.Rows
structure iG(k:Nat)(A:Around):Prop where
 hd:A.handled=none
 dp:A.depth+3*k+5<recursionLimit
 un:A.units+16*k+200<cLine
 gu:A.guards=some []
theorem iG.mono{j k:Nat}{A:Around}(r:iG k A)(h:j<=k):iG j A:=⟨r.hd,by have:=r.dp;omega,by have:=r.un;omega,r.gu⟩
theorem iG.deeper{k:Nat}{A:Around}(r:iG (k+1) A)(env:Env):iG k (A.deeper env):=
 ⟨r.hd,by have:=r.dp;show A.depth+1+3*k+5<_;omega,by have:=r.un;show A.units+3+16*k+200<_;omega,r.gu⟩
theorem iG.in1{k:Nat}{A:Around}(r:iG (k+1) A):iG k A.in1:=
 ⟨r.hd,by have:=r.dp;show A.depth+3*k+5<_;omega,by have:=r.un;show A.units+1+16*k+200<_;omega,r.gu⟩
theorem iG.depth{k:Nat}{A:Around}(r:iG k A):A.depth<recursionLimit:=by have:=r.dp;omega
theorem iG.units{k:Nat}{A:Around}(r:iG k A):A.units+64<cLine:=by have:=r.un;omega
noncomputable def Bb:TA:=λ_ H Q=>Q [] H
noncomputable def yw(ta:TE)(tr:TA):TA:=λσ H Q=>ta σ H λx H1=>tr σ H1 λxs H2=>Q (x::xs) H2
section
variable {X:Cx}{e:Expr}{es:List Expr}{te:TE}{t:TA}{pos:Pos}
theorem yb:PA X [] Bb:=λ_ _ _ _ H Q I h=>iy ⟨[],H,I,.nil,h⟩
theorem nZ(ha:PE X e te)(hr:PA X es t)(hs:autoParam (starEach (e::es) X.env=(false,eval e X.env)::starEach es X.env) au1._auto_1):PA X (e::es) (yw te t):=by
 intro pos pins s σ H Q I h
 rw[hs]
 show aR _ _ (spliced ((false,eval e X.env)::backTo pos (starEach es X.env))) _ _ s
 refine eN (thn (ha pins s σ H _ I h) λu s1 ⟨x,H1,I1,r1,q1⟩ =>?_)
 exact thn (hr pos pins s1 σ H1 _ I1 q1) λus s2 ⟨xs,H2,I2,r2,q2⟩=>⟨x::xs,H2,I2,.cons r1 r2,q2⟩
noncomputable def JX(t:TA):TE:=λσ H Q=>t σ H λxs H1=>xs.length<=sizeLine /\ ∀p,H1 p=none->Q (.ref p) (upd H1 p (.tup xs))
noncomputable def Ke(t:TA):TE:=λσ H Q=>t σ H λxs H1=>xs.length<=sizeLine /\ ∀p,H1 p=none->Q (.ref p) (upd H1 p (.lst xs))
theorem Hv{x1}(h:PA X es t):PE X (.Tuple es x1 pos) (JX t):=by
 intro pins s σ H Q I hq
 refine wpAny_Tuple_spliced (thn (h pos pins s σ H _ I hq) λus s1 ⟨xs,H1,I1,r,z,q⟩=>⟨by rw[<- r.length];exact z,?_⟩)
 have hf:H1 s1.heap.objs.size=none:=I1.hok.fresh (ak _)
 refine⟨.ref s1.heap.objs.size,upd H1 s1.heap.objs.size (.tup xs),I1.laid (t':=s1.toks) (λb u e=>av _ e) (ak _) ?_,rfl,q _ hf⟩
 exact⟨z,us,r,⟨_,aH _ rfl,rfl,_,rfl⟩,_,aH _ rfl,rfl⟩
theorem Gg(h:PA X es t):PE X (.List es pos) (Ke t):=by
 intro pins s σ H Q I hq
 refine wpAny_List_spliced (thn (h pos pins s σ H _ I hq) λus s1 ⟨xs,H1,I1,r,z,q⟩=>⟨by rw[<- r.length];exact z,?_⟩)
 have hf:H1 s1.heap.objs.size=none:=I1.hok.fresh (ak _)
 refine⟨.ref s1.heap.objs.size,upd H1 s1.heap.objs.size (.lst xs),I1.laid (t':=s1.toks) (λb u e=>av _ e) (ak _) ?_,rfl,q _ hf⟩
 exact⟨z,us,0,r,aH _ rfl⟩
end
abbrev Sp:=List V->Hp->VK->XK->Prop
abbrev CXT:=List Env->Hp->Shared->XK->Value->Shared->Prop
structure sk(P:Program)(w:World)(K:ah)(mg:Str->Option Value)(base:Heap)(A:Around)(outer:List Env)(s:Shared)(H:Hp):Prop where
 frames:A.frames=some outer
 mod:Mod K mg base
 bs: ∀b o,base.get? b=some o->s.heap.get? b=some o/\H b=none
 bsz:base.objs.size<=s.heap.objs.size
 funs:s.heap.FunFrames base outer
 frf: ∀b∈frs outer,H b=none
 hok:HOk P w H s.heap
 bare:AllBare s.gens
noncomputable def CE(outer:List Env)(P:Program)(w:World)(H:Hp)(s:Shared)(Q:VK)(u:Value)(s':Shared):Prop:=
 ∃v H',s'.os=s.os/\AllBare s'.gens/\Un (frs outer) [] H H' s.heap s'.heap/\HOk P w H' s'.heap/\RelV v u/\Q v H'
noncomputable def CR(CX:CXT)(outer:List Env)(P:Program)(w:World)(H:Hp)(s:Shared)(Q:VK)(E:XK)(r:Result)(s':Shared):Prop:=
 match r with
 | .ok (.ret u)=>CE outer P w H s Q u s'
 | .ok _=>False
 | .error e=>CX outer H s E e s'
structure gy(P:Program)(w:World)(K:ah)(mg:Str->Option Value)(base:Heap)(CX:CXT)(k:Nat)(f:Addr)(fd:FuncData)(ps:List Str)(sp:Sp):Prop where
 len: ∀vs H Q E,sp vs H Q E->vs.length=ps.length
 run: ∀(A:Around) (outer:List Env) (s:Shared) (H:Hp) (args:Args) (us:List Value) (vs:List V) (Q:VK) (E:XK),iG k A->sk P w K mg base A outer s H->BindsTo s fd args (ps.zip us)->bK vs us->sp vs H Q E ->
  jY (model P w) A (.call (.ref f) args) (CR CX outer P w H s Q E) s
theorem gy.mono{P:Program}{w:World}{K:ah}{mg:Str->Option Value}{base:Heap}{CX:CXT}{j k:Nat}{f:Addr}{fd:FuncData}{ps:List Str}{sp:Sp}(F:gy P w K mg base CX j f fd ps sp)(h:j<=k):
  gy P w K mg base CX k f fd ps sp:=⟨F.len,λA outer s H args us vs Q E hr=>F.run A outer s H args us vs Q E (hr.mono h)⟩
theorem gy.imp{P:Program}{w:World}{K:ah}{mg:Str->Option Value}{base:Heap}{CX:CXT}{k:Nat}{f:Addr}{fd:FuncData}{ps:List Str}{sp sp':Sp}(F:gy P w K mg base CX k f fd ps sp)
  (h: ∀vs H Q E,sp' vs H Q E->sp vs H Q E):gy P w K mg base CX k f fd ps sp':=
 ⟨λvs H Q E q=>F.len vs H Q E (h _ _ _ _ q),λA outer s H args us vs Q E hr he hb hv hs=>F.run A outer s H args us vs Q E hr he hb hv (h _ _ _ _ hs)⟩
theorem sk.in1{P:Program}{w:World}{K:ah}{mg:Str->Option Value}{base:Heap}{A:Around}{outer:List Env}{s:Shared}{H:Hp}(e:sk P w K mg base A outer s H):
  sk P w K mg base A.in1 outer s H:=⟨e.frames,e.mod,e.bs,e.bsz,e.funs,e.frf,e.hok,e.bare⟩
section
variable {X:Cx}{pins:List (Addr×Obj)}{σ:St}{H:Hp}{s s':Shared}
theorem Inv.env0(I:Inv X pins σ H s):sk X.prog X.w X.K X.mg X.base X.A X.stack s H:=
 ⟨I.ok.frames,I.ok.mod,I.bs,aB I.ok.bsz I.sz,I.stack,I.stkFree,I.hok,I.bare⟩
theorem Inv.after{Q:VK}{u:Value}(I:Inv X pins σ H s)(h:CE X.stack X.prog X.w H s Q u s'):EP X pins σ Q u s':=by
 obtain⟨v,H',os,bare,un,hok,r,q⟩:=h
 obtain⟨hh,g,d,t,os'⟩:=s'
 obtain rfl:os'=s.os:=os
 exact⟨v,H',I.call (h':=hh) (g':=g) (d':=d) (t':=t) (ch:= []) un hok bare (λb z=>absurd z (by simp)),r,q⟩
end
noncomputable def zf(sp:Sp)(dvs:List V)(E:XK)(t:TA):TE:=λσ H Q=>t σ H λvs H1=>sp (vs++dvs) H1 Q E
noncomputable def Binds(K:ah)(fd:FuncData)(ps:List Str)(ds:List Value):Prop:=
 ∀(s:Shared) (us:List Value),K.In s.heap->(us++ds).length=ps.length->BindsTo s fd ⟨us,[]⟩ (ps.zip (us++ds))
theorem Binds.all{K:ah}{fd:FuncData}{ps:List Str}(h: ∀us:List Value,us.length=ps.length->bindArgs fd ⟨us,[]⟩=pure (ps.zip us)):Binds K fd ps []:=λs us _ hl=>by
 rw[cW]at hl ⊢
 exact .of_eq (h us hl)
noncomputable def rk(CX:CXT)(X:Cx)(E:XK):Prop:= ∀(pins:List (Addr×Obj)) (σ:St) (H:Hp) (s:Shared) (e:Value) (s':Shared),Inv X pins σ H s->CX X.stack H s E e s'->X.xe e s'
section
variable {X:Cx}{CX:CXT}{k:Nat}{f C:Addr}{fd:FuncData}{ps:List Str}{sp:Sp}{dvs:List V}{ds:List Value}{E:XK}{x m:Str}{p pos apos:Pos}{e o:Expr}{es:List Expr}{ta:TE}{t:TA}
theorem qG{pins:List (Addr×Obj)}{σ:St}{H:Hp}{s:Shared}{Q:VK}{us:List Value}{vs:List V}(F:gy X.prog X.w X.K X.mg X.base CX k f fd ps sp)(hr:iG k X.A)(hb:Binds X.K fd ps ds)(hd:bK dvs ds)(hx:rk CX X E)
  (I:Inv X pins σ H s) (r:bK vs us) (h:sp (vs++dvs) H Q E):aR (model X.prog X.w) X.A (call (.ref f) us) (EP X pins σ Q) X.xe s:=by
 have r2:bK (vs++dvs) (us++ds):=r.append hd
 have hl:(us++ds).length=ps.length:=by rw[<- r2.length];exact F.len _ _ _ _ h
 refine wpAny_call (gK (F.run X.A X.stack s H ⟨us,[]⟩ (us++ds) (vs++dvs) Q E hr I.env0 (hb s us I.kIn hl) r2 h) λr s' hq =>?_)
 cases r with
 | error e=>exact hx pins σ H s e s' I hq
 | ok fl=>
   cases fl with
   | ret u=>exact I.after hq
   | next=>exact bC hq
   | brk=>exact bC hq
   | cont=>exact bC hq
theorem uO(F:gy X.prog X.w X.K X.mg X.base CX k f fd ps sp)(hr:iG k X.A)(hg:Gl X x)(hm:X.mg x=some (.ref f))(hk:bP X.K (.ref f)=true)(hb:Binds X.K fd ps ds)(hd:bK dvs ds)(hx:rk CX X E)
  (ha:PA X (e::es) t) (hdb:autoParam ((x == ("__debug__":Str))=false) au2._auto_1) (he:autoParam (starEach (e::es) X.env=(false,eval e X.env)::starEach es X.env) au1._auto_1) (hpl:autoParam ((backTo pos (starEach es X.env)).any (·.1)=false) au1._auto_1) :
  PE X (.Call (.Name x p) (e::es) [] pos) (zf sp dvs E t):=by
 intro pins s σ H Q I h
 refine dB (jw I hg hm ?_ hdb)
 refine oZ (h₀:=X.base) I.ok.mod.kin hk (thn (ha pos pins s σ H _ I h) λus s1 ⟨vs,H1,I1,r,q⟩=>⟨I1.kIn,?_⟩) he hpl
 exact qG F hr hb hd hx I1 r q
theorem Bo(F:gy X.prog X.w X.K X.mg X.base CX k f fd ps sp)(hr:iG k X.A)(hg:Gl X x)(hm:X.mg x=some (.ref f))(hk:bP X.K (.ref f)=true)(hb:Binds X.K fd ps ds)(hd:bK dvs ds)(hx:rk CX X E)
  (hdb:autoParam ((x == ("__debug__":Str))=false) au2._auto_1):PE X (.Call (.Name x p) [] [] pos) (zf sp dvs E Bb):=by
 intro pins s σ H Q I h
 refine dB (jw I hg hm ?_ hdb)
 exact Az I.kIn hk (qG (us:= []) F hr hb hd hx I .nil h)
structure Mk(K:ah)(C f:Addr):Prop where
 makes:PySem.W.makesIn K C=true
 init:jV K (.ref C) "__init__"=some (some (.ref f))
 fn:PySem.W.isFn K (.ref f)=true
 kp:bP K (.ref C)=true
end
section
variable {X:Cx}{CX:CXT}{k:Nat}{f C:Addr}{fd:FuncData}{ps ks:List Str}{sp:Sp}{E:XK}{x m:Str}{p pos apos kpos:Pos}{e o:Expr}{es:List Expr}{kws:List Keyword}{te ta:TE}{t tk:TA}{nm:Option Str}
structure LW(K:ah)(fd:FuncData)(ps ks:List Str)(g:List Value->List Value->List Value)(gV:List V->List V->List V):Prop where
 to: ∀(s:Shared) (us ws:List Value),K.In s.heap->(g us ws).length=ps.length->BindsTo s fd ⟨us,ks.zip ws⟩ (ps.zip (g us ws))
 rel: ∀{vs:List V}{us:List Value}{zs:List V}{ws:List Value},bK vs us->bK zs ws->bK (gV vs zs) (g us ws)
variable {g:List Value->List Value->List Value}{gV:List V->List V->List V}
end
structure aV(N P:List Str)(sc:Scope):Prop where
 kind:sc.kind = .function
 co:sc.isCoroutine=false
 gen:sc.isGenerator=false
 nd:N.Nodup
 pre:N.take P.length=P
 par: ∀x∈P,sc.names.lookup x=some .local\/sc.names.lookup x=some .cell
 nofree: ∀y∈sc.names,y.2≠.free
theorem sR{kindOf:Str->Option NameKind}{x:Str}: ∀{binds:List (Str×Value)}{m:Str->Option Value},(∀v,(x,v)∉binds)->bindL kindOf binds m x=m x
 | [],_,_=>rfl
 | (n,v)::r,m,h=>by
   unfold bindL
   rw[sR λw hw=>h w (aw _ hw)]
   split
   ·have:x≠n:=by rintro rfl;exact h v aP
    simp[this]
   ·rfl
theorem sM{kindOf:Str->Option NameKind}{x:Str}: ∀{binds:List (Str×Value)}{m:Str->Option Value},(∀v,(x,v)∉binds)->bindC kindOf binds m x=m x
 | [],_,_=>rfl
 | (n,v)::r,m,h=>by
   unfold bindC
   rw[sM λw hw=>h w (aw _ hw)]
   split
   ·rfl
   ·have:x≠n:=by rintro rfl;exact h v aP
    simp[this]
theorem oN{kindOf:Str->Option NameKind}{x:Str}{v:Value}: ∀{P:List Str}{vs:List Value}{i:Nat}{m:Str->Option Value},P.Nodup->P[i]? = some x->vs[i]? = some v->kindOf x=some .local ->
  bindL kindOf (P.zip vs) m x=some v
 | [],_,_,_,_,h,_,_=>by simp at h
 | _::_,[],_,_,_,_,h,_=>by simp at h
 | p::P,w::vs,0,m,nd,h1,h2,hk=>by
   simp at h1 h2;subst h1;subst h2
   show bindL kindOf ((p,w)::P.zip vs) m p=_
   unfold bindL
   rw[sR λv hv=>(fk.mp nd).1 (jC hv).1,if_pos hk]
   simp
 | p::P,w::vs,i+1,m,nd,h1,h2,hk=>by
   show bindL kindOf ((p,w)::P.zip vs) m x=_
   unfold bindL
   exact oN (i:=i) (fk.mp nd).2 (by simpa using h1) (by simpa using h2) hk
theorem oQ{kindOf:Str->Option NameKind}{x:Str}{v:Value}: ∀{P:List Str}{vs:List Value}{i:Nat}{m:Str->Option Value},P.Nodup->P[i]? = some x->vs[i]? = some v->kindOf x≠some .local ->
  bindC kindOf (P.zip vs) m x=some v
 | [],_,_,_,_,h,_,_=>by simp at h
 | _::_,[],_,_,_,_,h,_=>by simp at h
 | p::P,w::vs,0,m,nd,h1,h2,hk=>by
   simp at h1 h2;subst h1;subst h2
   show bindC kindOf ((p,w)::P.zip vs) m p=_
   unfold bindC
   rw[sM λv hv=>(fk.mp nd).1 (jC hv).1,if_neg hk]
   simp
 | p::P,w::vs,i+1,m,nd,h1,h2,hk=>by
   show bindC kindOf ((p,w)::P.zip vs) m x=_
   unfold bindC
   exact oQ (i:=i) (fk.mp nd).2 (by simpa using h1) (by simpa using h2) hk
noncomputable def start(N:List Str)(vs:List V):St:=vs.map some++aq (N.length - vs.length) none
noncomputable def qH(CX:CXT)(P:Program)(w:World)(K:ah)(mg:Str->Option Value)(base:Heap)(N:List Str)(qual:Str)(scope:Scope)(f:Addr)(cd:Value)(A:Around)(outer:List Env)(s:Shared)(H:Hp)(E:XK):Cx where
 prog:=P
 w:=w
 K:=K
 mg:=mg
 base:=base
 A:=A.deeper (envOfC qual scope s.heap.objs.size f cd)
 N:=N
 s₀:=s
 H₀:=H
 env:=envOfC qual scope s.heap.objs.size f cd
 outer:=outer
 stack:=envOfC qual scope s.heap.objs.size f cd::outer
 ex:= []
 calm:=true
 fn:=λ_=>true
 pn:= []
 xe:=λe s'=>aR (model P w) (A.deeper (envOfC qual scope s.heap.objs.size f cd)) (leaving (envOfC qual scope s.heap.objs.size f cd) e) (λ_ s''=>CX outer H s E e s'') (λe' s''=>CX outer H s E e' s'') s'
theorem iX{sc:Scope}{n:Nat}{x:Str}(h:sc.names.lookup x=some .cell): ∃c,(cellsFrom n sc.names []).lookup x=some c:=by
 have q:=gS sc.names n [] (.inl h)
 exact cj.mp q
theorem zy{CX:CXT}{P:Program}{w:World}{K:ah}{mg:Str->Option Value}{base:Heap}{N ps:List Str}{qual:Str}{scope:Scope}{f:Addr}{cd:Value}{A:Around}{outer:List Env}{s s1:Shared}{H:Hp}{E:XK}{us:List Value}{vs:List V}
  (S:aV N ps scope) (hd:A.handled=none) (e0:sk P w K mg base A outer s H) (hl:vs.length=ps.length) (r:bK vs us)
  (x:InCallC s s.heap.objs.size (bindL (envOfC qual scope s.heap.objs.size f cd).kindOf (ps.zip us) λ_=>none) (cellsFrom (s.heap.objs.size+1) scope.names []) (bindC (envOfC qual scope s.heap.objs.size f cd).kindOf (ps.zip us) λ_=>none) s1):
  Inv (qH CX P w K mg base N qual scope f cd A outer s H E) [] (start N vs) H s1:=by
 have hpl:ps.length<=N.length:=by have:=congrArg List.length S.pre;rw[mI]at this;omega
 obtain⟨h1,tk,rfl,hk⟩:=x.done
 have noA: ∀b:Addr,b∉(qH CX P w K mg base N qual scope f cd A outer s H E).ex:=λb z=>absurd (show b∈([]:List Addr) from z) (by simp)
 refine⟨⟨e0.mod,S.kind,rfl,rfl,ak _,λy z c h1 h2 =>?_,λy hy =>?_,λy c _ h =>?_,λ_=>hd,AA e0.frames,.inr ⟨rfl,rfl⟩,λb z=>absurd z (noA b),e0.bs,e0.bsz,λb _ _=>noA b,λb z=>absurd z (noA b),e0.funs,e0.frf⟩,
  rfl,e0.bare,Un.kept hk,⟨_,x.toInCall.ns,λi y v h1 h2 h3 =>?_⟩,λy c h=>⟨_,x.cell y c h⟩,e0.hok.fresh (ak _),λy c h =>?_,λp hp=>absurd (show p∈([]:List (Addr×Obj)) from hp) (by simp),e0.hok.kept hk,?_⟩
 ·exact name_of_addr x.apart (bM h1) (bM h2)
 ·have hy:scope.names.lookup y=some .cell\/scope.names.lookup y=some .free:=hy
  rcases hy with hy |hy
  ·exact iX hy
  ·exact absurd rfl (S.nofree _ (bM hy))
 ·exact aT (x.above y c (bM h))
 ·have hi:i<vs.length:=by
   unfold start at h2
   by_cases hi:i<vs.length
   ·exact hi
   ·rw[ar (by simpa using hi)]at h2
    rw[eF]at h2
    split at h2 <;> cases h2
  have ha:vs[i]? = some v:=by
   unfold start at h2
   rw[aQ (by simpa using hi),cw]at h2
   cases e:vs[i]? with
   | none=>rw[e]at h2;cases h2
   | some a=>rw[e]at h2;cases h2;rfl
  obtain⟨u,hu,rv⟩:=r.get ha
  have hp:ps[i]? = some y:=by
   rw[<- S.pre,List.getElem?_take_of_lt (by omega)];exact h1
  have ndP:ps.Nodup:=by rw[<- S.pre];exact S.nd.sublist (List.take_sublist _ _)
  refine⟨u,rv,?_⟩
  rcases S.par y (eg hp) with k |k
  ·exact .inl ⟨k,oN ndP hp hu k⟩
  ·obtain⟨c,e⟩:=iX (n:=s.heap.objs.size+1) k
   refine .inr ⟨.inl k,c,e,?_⟩
   have q:=x.cell y c e
   rw[oQ ndP hp hu (by show scope.names.lookup y≠_;rw[k];decide)]at q
   exact q
 ·exact e0.hok.fresh (aT (x.above y c (bM h)))
 ·unfold start
  show _=N.length
  rw[bg,aE,iO]
  omega
theorem vS{CX:CXT}{P:Program}{w:World}{K:ah}{mg:Str->Option Value}{base:Heap}{k:Nat}{f:Addr}{name qual:Str}{params:Arguments}{body:List Stmt}{scope:Scope}{dV kV doc pm cdv ct oc:Value}{an od:Option Addr}
  {osl:Array (Option Value)}{N ps:List Str}{sp:Sp} (lk:K.lookup f=some ⟨oc,od,.func (cb name qual params body scope dV kV doc pm an cdv ct),osl⟩) (hcd:fF K cdv qual=true) (S:aV N ps scope)
  (len: ∀vs H Q E,sp vs H Q E->vs.length=ps.length)
  (hbody: ∀(A:Around) (outer:List Env) (s:Shared) (H:Hp) (vs:List V) (Q:VK) (E:XK),iG k (A.deeper (envOfC qual scope s.heap.objs.size f cdv))->sp vs H Q E ->
   ∃t,PSs (qH CX P w K mg base N qual scope f cdv A outer s H E) body t/\t { nx:=λ_ H'=>Q .non H',rt:=Q } (start N vs) H):
  gy P w K mg base CX (k+1) f (cb name qual params body scope dV kV doc pm an cdv ct) ps sp:=by
 refine⟨len,λA outer s H args us vs Q E hr e0 hb r hsp =>?_⟩
 have hl:=len _ _ _ _ hsp
 have KX:K.In s.heap:=e0.mod.kin.keeps λb o e=>(e0.bs b o e).1
 have lim:s.heap.NoLimit:=e0.mod.nolimit.keeps λb o e=>(e0.bs b o e).1
 have hkind: ∀y∈ps.zip us,scope.names.lookup y.1=some .local\/(scope.names.lookup y.1=some .cell/\((cellsFrom (s.heap.objs.size+1) scope.names []).lookup y.1).isSome=true):=fun⟨n,v⟩ hy=>by
  rcases S.par n (jC hy).1 with q |q
  ·exact .inl q
  ·exact .inr ⟨q,gS _ _ _ (.inl q)⟩
 refine codeAny_call_function hr.depth (KX _ _ lk) rfl S.co S.gen rfl (PySem.W.codeRec_of KX hcd) (hb _ _ _ _ ?_)
 refine wpAny_newFunctionEnv_cells S.kind hkind λenv he s1 x =>?_
 subst he
 refine⟨lim.keeps x.toInCall.keep,codeAny_func ?_⟩
 obtain⟨t,ht,hq⟩:=hbody A outer s H vs Q E (hr.deeper _) hsp
 have I:Inv (qH CX P w K mg base N qual scope f cdv A outer s H E) [] (start N vs) H s1:=zy S hr.hd e0 hl r x
 refine bI (ht [] s1 (start N vs) H _ I hq) (λfl s' hs =>?_) λe s' hs=>hs
 have fin: ∀{σ':St}{H':Hp}{v:V}{u:Value},Inv (qH CX P w K mg base N qual scope f cdv A outer s H E) [] σ' H' s'->RelV v u->Q v H'->CE outer P w H s Q u s':=
  λ{σ' H' v u} J rv q=>⟨v,H',J.os,J.bare,J.base,J.hok,rv,q⟩
 cases fl with
 | ret u=>
   obtain⟨v,σ',H',J,rv,q⟩:=hs
   exact fin J rv q
 | next=>
   obtain⟨σ',H',J,q⟩:=hs
   exact fin (v:=V.non) (u:=wK) J rfl q
 | brk=>
   obtain⟨_,_,_,q⟩:=hs
   exact bC q
 | cont=>
   obtain⟨_,_,_,q⟩:=hs
   exact bC q
end _L
namespace _L
open PySem PySem.Spec PyProof.Rows
section
variable {X:Cx}{x:Str}{p pos:Pos}{e:Expr}{es:List Expr}{t:TA}{id T:String}{r:List V->Hp->VK->Prop}
noncomputable def tCB(r:List V->Hp->VK->Prop)(t:TA):TE:=λσ H Q=>t σ H λvs H1=>r vs H1 Q
theorem nN (hc:iJ X (.builtin id) r) (hg:Gl X x) (hm:X.mg x=none) (hv:bootBuiltins x=some (.builtin id)) (ha:PA X (e::es) t) (hn:autoParam (x≠"__name__") au2._auto_1) (hdb:autoParam ((x == ("__debug__":Str))=false) au2._auto_1)
  (he:autoParam (starEach (e::es) X.env=(false,eval e X.env)::starEach es X.env) au1._auto_1) (hpl:autoParam ((backTo pos (starEach es X.env)).any (·.1)=false) au1._auto_1):PE X (.Call (.Name x p) (e::es) [] pos) (tCB r t):=by
 intro pins s σ H Q I h
 refine dB (nr I hg hm hv ?_ hn hdb)
 exact PyProof.Rows.callWith_builtin1 (thn (ha pos pins s σ H _ I h) λus s1 ⟨vs,H1,I1,r1,q1⟩=>hc pins s1 σ H1 vs us Q I1 r1 q1) he hpl
theorem oK (hc:iJ X (.type T) r) (hg:Gl X x) (hm:X.mg x=none) (hv:bootBuiltins x=some (.type T)) (ha:PA X (e::es) t) (hn:autoParam (x≠"__name__") au2._auto_1) (hdb:autoParam ((x == ("__debug__":Str))=false) au2._auto_1)
  (he:autoParam (starEach (e::es) X.env=(false,eval e X.env)::starEach es X.env) au1._auto_1) (hpl:autoParam ((backTo pos (starEach es X.env)).any (·.1)=false) au1._auto_1):PE X (.Call (.Name x p) (e::es) [] pos) (tCB r t):=by
 intro pins s σ H Q I h
 refine dB (nr I hg hm hv ?_ hn hdb)
 exact eI (thn (ha pos pins s σ H _ I h) λus s1 ⟨vs,H1,I1,r1,q1⟩=>hc pins s1 σ H1 vs us Q I1 r1 q1) he hpl
end
end _L
namespace HT
open PySem PyProof.Rows
section
open PySem.SeqAt
open PySem.AutoSeq1 (wpAny_loadPart')
open PySem.MeetsSeq PySem.MeetsSeq2 PySem.MeetsSeq3
end
section
variable {prog:Program}{w:World}{A:Around}{E:Value->Shared->Prop}{s:Shared}
theorem cat_tup{t b:Addr}{vs ws:List Value}{Q:Value->Shared->Prop}(ht:IsTup s.heap t vs.toArray)(hb:IsTup s.heap b ws.toArray)(hv:vs≠[])
  (h1:ws = []->Q (.ref t) s) (h2:ws ≠ []->Q (.ref s.heap.objs.size) { s with heap:=s.heap.push { cls := .type "tuple",data := .seq (vs++ws).toArray } })
  (hsz:vs.length+ws.length<=sizeLine):aR (model prog w) A (binaryOp .Add (.ref t) (.ref b)) Q E s:=by
 obtain⟨⟨cls,dd,data,sl⟩,ho,hc,n,hd⟩:=id ht
 obtain⟨⟨cls2,dd2,data2,sl2⟩,ho2,hc2,n2,hd2⟩:=id hb
 simp only at hc hd hc2 hd2
 subst hc hd hc2 hd2
 have e:vs.toArray++ws.toArray=(vs++ws).toArray:=by simp
 by_cases hw:ws = []
 ·exact concat_meets ⟨_,ho,rfl⟩ ⟨_,ho2,rfl⟩ noFill_tuple_add seq_tuple_add md kK (kz _ _)
   (tuple_addW1 t b vs.toArray ws.toArray n n2 dd dd2 sl sl2 (by simpa using hv) (by simp[hw])) ⟨ho,ho2,h1 hw⟩
 ·refine concat_meets ⟨_,ho,rfl⟩ ⟨_,ho2,rfl⟩ noFill_tuple_add seq_tuple_add md kK (kz _ _)
   (tuple_addW2 t b vs.toArray ws.toArray n n2 dd dd2 sl sl2 (by simpa using hv) (by simpa using hw) (by rw[aC,aC];exact hsz)) ⟨ho,ho2,?_⟩
  rw[e]
  exact h2 hw
noncomputable def sIx(n d:Nat):Option Int->Nat
 | none=>d
 | some v=>if v<0 then(v+(n:Int)).toNat else min v.toNat n
theorem sIx_nat(n d k:Nat):sIx n d (some (k:Int))=min k n:=by
 show(if (k:Int)<0 then((k:Int)+(n:Int)).toNat else min (k:Int).toNat n)=min k n
 rw[if_neg (by omega),su]
theorem IA(n d:Nat)(hd:d<=n)(o:Option Int):sIx n d o<=n:=by
 cases o with
 | none=>exact hd
 | some v=>
   show(if v<0 then(v+(n:Int)).toNat else min v.toNat n)<=n
   by_cases hv:v<0
   ·rw[if_pos hv];omega
   ·rw[if_neg hv];exact Nat.min_le_right _ _
theorem yD(v:Int)(n d:Nat):(if v<0 then max (v+(n:Int)) 0 else min v (n:Int))=((sIx n d (some v):Nat):Int):=by
 show(if v<0 then max (v+(n:Int)) 0 else min v (n:Int))=(((if v<0 then(v+(n:Int)).toNat else min v.toNat n):Nat):Int)
 by_cases hv:v<0
 ·simp only[if_pos hv];omega
 ·simp only[if_neg hv];omega
theorem yh(lo hi:Option Int)(n:Nat):jc lo hi 1 (n:Int)=(((sIx n 0 lo:Nat):Int),((sIx n n hi:Nat):Int)):=by
 have h1: ¬((1:Int)<0):=by decide
 unfold jc
 simp only[h1,if_false]
 refine Prod.ext ?_ ?_
 ·cases lo with
  | none=>rfl
  | some v=>exact yD v n 0
 ·cases hi with
  | none=>rfl
  | some v=>exact yD v n n
theorem xp(i j:Nat):fo (i:Int) (j:Int) 1=j - i:=by
 unfold fo
 have h1:(1:Int) > 0:=by decide
 simp only[h1,if_true,Int.ediv_one]
 split <;> omega
theorem qM{v:Value}{o:Option Int}{Q:Option Int->Shared->Prop}(p:IsPart v o)(h:Q o s):aR (model prog w) A (Builtin.Slice.slicePartIndex v) Q E s:=by
 cases p with
 | none=>exact slicePart_none h
 | int i t=>exact slicePart_int h
theorem j9{sl:Addr}{vl vu:Value}{lo hi:Option Int}{n:Nat}{Q:Int×Int×Nat->Shared->Prop}(hs:s.heap.IsSliceOf sl vl vu .none)(pl:IsPart vl lo)(pu:IsPart vu hi)
  (h:Q (((sIx n 0 lo:Nat):Int),1,sIx n n hi - sIx n 0 lo) s):aR (model prog w) A (pM (.ref sl) (pure (n:Int))) Q E s:=by
 obtain⟨os,hos,hcs,hds⟩:=id hs
 unfold pM Builtin.Slice.sliceFields
 refine az (az (wpAny_field hos hds (x:=vl) rfl (az (wpAny_field hos hds (x:=vu) rfl (az (wpAny_field hos hds (x:= .none) rfl (aJ ?_)))))))
 refine az (slicePart_none ?_)
 show aR _ _ (if ((1:Int)==0)=true then _ else _) _ _ s
 rw[if_neg (by decide)]
 refine az (qM pl (az (qM pu (az (aJ ?_)))))
 show aR _ _ (match jc lo hi 1 (n:Int) with | (lo,hi)=>pure (lo,(1:Int),fo lo hi 1)) _ _ s
 rw[yh lo hi n]
 show aR _ _ (pure (((sIx n 0 lo:Nat):Int),(1:Int),fo ((sIx n 0 lo:Nat):Int) ((sIx n n hi:Nat):Int) 1)) _ _ s
 rw[xp]
 exact aJ h
theorem AZ(xs:Array Value)(i k:Nat):((aO k).filterMap λ(m:Nat)=>xs[((i:Int)+(m:Int)*1).toNat]?).toArray=((xs.toList.drop i).take k).toArray:=by
 have e:(λ(m:Nat)=>xs[((i:Int)+(m:Int)*1).toNat]?)=λm=>xs[i+m]? := by
  funext m
  have:((i:Int)+(m:Int)*1).toNat=i+m:=by omega
  rw[this]
 rw[e]
 have:=pick_run xs i k
 rw[List.filterMap_map]at this
 have e2:((λx=>xs[x]?)∘λx=>i+x)=λm=>xs[i+m]? := rfl
 rw[e2]at this
 rw[this]
theorem getItem_tuple_cut{t sl:Addr}{items:Array Value}{vl vu:Value}{lo hi:Option Int}{Q:Value->Shared->Prop}(ht:IsTup s.heap t items)(hs:s.heap.IsSliceOf sl vl vu .none)(pl:IsPart vl lo)(pu:IsPart vu hi)
  (hw: ¬(sIx items.size 0 lo=0/\sIx items.size items.size hi=items.size))
  (h:Q (.ref s.heap.objs.size) { s with heap:=s.heap.push { cls := .type "tuple",data := .seq ((items.toList.drop (sIx items.size 0 lo)).take (sIx items.size items.size hi - sIx items.size 0 lo)).toArray } })
  (hsz:items.size<=sizeLine):aR (model prog w) A (getItem (.ref t) (.ref sl)) Q E s:=by
 have htake:sizeOk (.seq ((items.toList.drop (sIx items.size 0 lo)).take (sIx items.size items.size hi - sIx items.size 0 lo)).toArray):=by
  show((items.toList.drop (sIx items.size 0 lo)).take (sIx items.size items.size hi - sIx items.size 0 lo)).toArray.size<=sizeLine
  rw[aC,mI,List.length_drop,gd]
  omega
 have hj:sIx items.size items.size hi<=items.size:=IA _ _ (ak _) hi
 obtain⟨os,hos,hcs,hds⟩:=id hs
 have hTs:s.TypeIs (.ref sl) "slice":=⟨os,hos,hcs⟩
 unfold getItem
 try with_reducible refine jX ?_
 first |refine az (aJ ?_) |skip
 refine az (wpAny_sequenceKey ht.typeIs (by decide) ?_)
 refine az (wpAny_callSpecial?_slot (name:=CK "__getitem__") ht.typeIs d4
  (yj d4 ht.typeIs entry_tuple_getitem ?_ (args_tuple_getitem _ _)))
 show aR _ _ (pN (.ref t) >>= _) _ _ s
 refine az (tupleItemsOf_ ht ?_)
 refine az (wO hTs ?_)
 rw[if_pos (by decide)]
 refine az (j9 hs pl pu ?_)
 have hno: ¬((((sIx items.size 0 lo:Nat):Int)==0&&(1:Int)==1&&(sIx items.size items.size hi - sIx items.size 0 lo)==items.size)=true):=by
  intro q
  rw[ao,ao]at q
  have q1:((sIx items.size 0 lo:Nat):Int)=0:=eq_of_beq q.1.1
  have q2:sIx items.size items.size hi - sIx items.size 0 lo=items.size:=eq_of_beq q.2
  exact hw ⟨by omega,by omega⟩
 show aR _ _ (if (((sIx items.size 0 lo:Nat):Int)==0&&(1:Int)==1&&(sIx items.size items.size hi - sIx items.size 0 lo)==items.size)=true then _ else _) _ _ s
 rw[if_neg hno,AZ]
 first
  | exact az (m:=dj _) (dJ (aJ ⟨_,rfl,aJ h⟩) htake)
  | exact az (m:=dj _) (dJ (az (aJ (aJ ⟨_,rfl,aJ h⟩))) htake)
  | exact az (az (m:=dj _) (dJ (aJ (aJ ⟨_,rfl,aJ h⟩)) htake))
  | exact az (az (m:=dj _) (dJ (aJ ⟨_,rfl,aJ h⟩) htake))
end
end HT
namespace _L
open PySem PySem.Spec PyProof.Rows
abbrev TO:=St->Hp->(Option Int->Hp->Prop)->Prop
noncomputable def PO(X:Cx)(e:Option Expr)(t:TO):Prop:=
 ∀(pins:List (Addr×Obj)) (s:Shared) (σ:St) (H:Hp) (Q:Option Int->Hp->Prop),Inv X pins σ H s->t σ H Q ->
  aR (model X.prog X.w) X.A (evalPart e X.env) (λu s' =>∃o H',Inv X pins σ H' s'/\IsPart u o/\Q o H') X.xe s
noncomputable def y9:TO:=λ_ H Q=>Q none H
noncomputable def E3(t:TE):TO:=λσ H Q=>t σ H λx H1 =>∃i,x = .int i/\Q (some i) H1
theorem intsAre_of{ns:List Int}: ∀{us:List Value},bK (ns.map V.int) us->IntsAre us ns:=by
 induction ns with
 | nil=>intro us r;rw[mT]at r;cases r;exact .nil
 | cons n ns ih=>
   intro us r
   rw[bD]at r
   cases r with
   | cons r1 r2=>
     obtain⟨t,e⟩:=r1
     subst e
     exact .cons n t (ih r2)
section
variable {X:Cx}{e:Expr}{te:TE}{lo hi:Option Expr}{tl th:TO}{pos p2:Pos}
theorem Dx:PO X none y9:=by
 intro pins s σ H Q I h
 rw[evalPart_none]
 exact aJ ⟨none,H,I,.none,h⟩
theorem Dh(h:PE X e te):PO X (some e) (E3 te):=by
 intro pins s σ H Q I hw
 rw[evalPart_some]
 refine thn (h pins s σ H _ I hw) λu s1 ⟨x,H1,I1,r1,q1⟩ =>?_
 obtain⟨i,rfl,q⟩:=q1
 obtain⟨t,rfl⟩:=r1
 exact⟨some i,H1,I1,.int i t,q⟩
noncomputable def SlR(X:Cx)(r:V->Option Int->Option Int->Hp->VK->Prop):Prop:=
 ∀(pins:List (Addr×Obj)) (s:Shared) (σ:St) (H:Hp) (x:V) (v vl vu:Value) (lo hi:Option Int) (sl:Addr) (Q:VK),Inv X pins σ H s->RelV x v->s.heap.IsSliceOf sl vl vu .none->IsPart vl lo->IsPart vu hi->r x lo hi H Q ->
  ∃ T id,typeLookup (.type T) "__getitem__"=pure (some (.builtin id))/\s.TypeIs v T/\aR (model X.prog X.w) X.A (getItem v (.ref sl)) (EP X pins σ Q) X.xe s
theorem SlR.or{r r':V->Option Int->Option Int->Hp->VK->Prop}(h:SlR X r)(h':SlR X r'):SlR X (λx lo hi H Q=>r x lo hi H Q\/r' x lo hi H Q):=by
 intro pins s σ H x v vl vu lo hi sl Q I rx hs pl pu q
 rcases q with q |q
 ·exact h pins s σ H x v vl vu lo hi sl Q I rx hs pl pu q
 ·exact h' pins s σ H x v vl vu lo hi sl Q I rx hs pl pu q
noncomputable def tSl(r:V->Option Int->Option Int->Hp->VK->Prop)(te:TE)(tl th:TO):TE:=λσ H Q=>te σ H λx H1=>tl σ H1 λl H2=>th σ H2 λu H3=>r x l u H3 Q
theorem Cz{r:V->Option Int->Option Int->Hp->VK->Prop}(hr:SlR X r)(he:PE X e te)(hl:PO X lo tl)(hu:PO X hi th):PE X (.Subscript e (.Slice lo hi none p2) pos) (tSl r te tl th):=by
 intro pins s σ H Q I h
 refine Subscript_ (thn (he pins s σ H _ I h) λv s1 ⟨x,H1,I1,r1,q1⟩ =>?_)
 refine wpAny_Slice (thn (hl pins s1 σ H1 _ I1 q1) λvl s2 ⟨l,H2,I2,pl,q2⟩=>thn (hu pins s2 σ H2 _ I2 q2) λvu s3 ⟨u,H3,I3,pu,q3⟩ =>?_)
 rw[evalPart_none]
 refine aJ ?_
 have I4:Inv X pins σ H3 { s3 with heap:=s3.heap.push { cls := .type "slice",data := .fields #[vl,vu,.none] } }:=I3.kept (t':=s3.toks) fun b ob q=>av _ q
 obtain⟨T,id,hT,ht,hg⟩:=hr pins { s3 with heap:=s3.heap.push { cls := .type "slice",data := .fields #[vl,vu,.none] } } σ H3 x v vl vu l u s3.heap.objs.size Q I4 r1 (Heap.IsSliceOf.new ..) pl pu q3
 show aR (model X.prog X.w) X.A (subscriptTail e (.Slice lo hi none p2) v (.ref s3.heap.objs.size)) (EP X pins σ Q) X.xe { s3 with heap:=s3.heap.push { cls := .type "slice",data := .fields #[vl,vu,.none] } }
 exact tail_any (ops:= [.ref s3.heap.objs.size,v]) ht hT hg (by with_unfolding_all rfl)
noncomputable def we(xs:List V)(lo hi:Option Int):List V:=(xs.drop (HT.sIx xs.length 0 lo)).take (HT.sIx xs.length xs.length hi - HT.sIx xs.length 0 lo)
theorem pf(xs:List V)(lo hi:Option Int):(we xs lo hi).length<=xs.length:=by
 unfold we
 rw[mI,List.length_drop]
 omega
noncomputable def JY(K:ah):V->Option Int->Option Int->Hp->VK->Prop:=λx lo hi H Q =>∃a xs,x = .ref a/\SqT K H a xs /\
 ¬(HT.sIx xs.length 0 lo=0/\HT.sIx xs.length xs.length hi=xs.length) /\ ∀p,H p=none->Q (.ref p) (upd H p (.tup (we xs lo hi)))
theorem GH:SlR X (JY X.K):=by
 intro pins s σ H x v vl vu lo hi sl Q I rx hs pl pu h
 obtain⟨a,xs,rfl,hx,hw,q⟩:=h
 cases rx
 obtain⟨its,r,ht,hz⟩:=I.tuple hx
 have hlen:its.toArray.size=xs.length:=by rw[aC];exact r.length.symm
 refine⟨"tuple",_,PyProof.Rows.slot_tuple_getitem.lookup,ht.typeIs,?_⟩
 refine HT.getItem_tuple_cut ht hs pl pu (by rw[hlen];exact hw) ?_ (by rw[hlen];exact hz)
 rw[hlen]
 refine⟨.ref s.heap.objs.size,_,I.laid (t':=s.toks) (o:= .tup (we xs lo hi)) (λb ob q=>av _ q) (ak _) ?_,rfl,q _ (I.hok.fresh (ak _))⟩
 exact⟨aB (pf xs lo hi) hz,_,(r.drop (HT.sIx xs.length 0 lo)).take (HT.sIx xs.length xs.length hi - HT.sIx xs.length 0 lo),oy _ _,_,aH _ rfl,rfl⟩
noncomputable def E6(K:ah):R2:=λx y H Q =>∃a b xs ys,x = .ref a/\y = .ref b/\SqT K H a xs/\SqT K H b ys/\xs≠[]/\xs.length+ys.length<=sizeLine /\
 (ys = []->Q (.ref a) H)/\(ys≠[] -> ∀p,H p=none->Q (.ref p) (upd H p (.tup (xs++ys))))
theorem bK.nil_iff{xs:List V}{us:List Value}(r:bK xs us):us = []↔xs = []:=by
 cases r with
 | nil=>simp
 | cons _ _=>simp
theorem El:OpR X (binaryOp .Add) (E6 X.K):=by
 intro pins s σ H x y v u Q I rx ry h
 obtain⟨a,b,xs,ys,rfl,rfl,ha,hb,hx,hz,q1,q2⟩:=h
 cases rx
 cases ry
 obtain⟨its,r1,p1,_⟩:=I.tuple ha
 obtain⟨its2,r2,p2,_⟩:=I.tuple hb
 refine HT.cat_tup p1 p2 (λz=>hx (r1.nil_iff.mp z)) (λz=>⟨.ref a,H,I,rfl,q1 (r2.nil_iff.mp z)⟩) (λz =>?_) (by rw[<- r1.length,<- r2.length];exact hz)
 refine⟨.ref s.heap.objs.size,_,I.laid (t':=s.toks) (o:= .tup (xs++ys)) (λb ob q=>av _ q) (ak _) ?_,rfl,q2 (λw=>z (r2.nil_iff.mpr w)) _ (I.hok.fresh (ak _))⟩
 exact⟨by rw[bg];exact hz,_,r1.append r2,oy _ _,_,aH _ rfl,rfl⟩
end
end _L
namespace _L
open PySem PySem.Spec PyProof.Rows
noncomputable def ixN(n:Nat)(i:Int):Option Nat:=if 0<=i then(if i<n then some i.toNat else none) else if -(n:Int)<=i then some (i+n).toNat else none
noncomputable def atI{α:Type}(xs:List α)(i:Int):Option α:=(ixN xs.length i).bind λj=>xs[j]?
theorem yM{n:Nat}{i:Int}{j:Nat}(h:ixN n i=some j):seqIndex? i n=some j/\j<n /\ -(n:Int)<=i/\i<n:=by
 unfold ixN at h
 by_cases h0:0<=i
 ·rw[if_pos h0]at h
  by_cases h1:i<n
  ·rw[if_pos h1]at h
   have e:i.toNat=j:=bL h
   exact⟨by rw[seqIndex_of h0 h1,e],by omega,by omega,h1⟩
  ·rw[if_neg h1]at h;cases h
 ·rw[if_neg h0]at h
  by_cases h1: -(n:Int)<=i
  ·rw[if_pos h1]at h
   have e:(i+n).toNat=j:=bL h
   exact⟨by rw[seqIndex_neg (by omega) h1,e],by omega,h1,by omega⟩
  ·rw[if_neg h1]at h;cases h
theorem ue{α:Type}{xs:List α}{i:Int}{v:α}(h:atI xs i=some v): ∃j,seqIndex? i xs.length=some j/\xs[j]? = some v/\j<xs.length /\ -(xs.length:Int)<=i/\i<xs.length:=by
 unfold atI at h
 cases e:ixN xs.length i with
 | none=>rw[e]at h;cases h
 | some j=>
   rw[e]at h
   obtain⟨h1,h2,h3,h4⟩:=yM e
   exact⟨j,h1,h,h2,h3,h4⟩
theorem yA{α:Type}{xs:List α}{j:Nat}{v:α}(h:xs[j]? = some v):atI xs (j:Int)=some v:=by
 have hj:j<xs.length:=(af.mp h).1
 have e:ixN xs.length (j:Int)=some j:=by
  unfold ixN
  rw[if_pos (by exact rD _),if_pos (by omega)];simp
 unfold atI;rw[e];exact h
noncomputable def uK(b:Expr):Prop:= ∀o i,subscripted b false o i=operate [o,i] (getItem o i)
noncomputable def IxR(X:Cx)(r:R2):Prop:=
 ∀(value slice:Expr) (pins:List (Addr×Obj)) (s:Shared) (σ:St) (H:Hp) (x y:V) (v u:Value) (Q:VK),Inv X pins σ H s->RelV x v->RelV y u->r x y H Q ->
  subscripted slice false v u=operate [v,u] (getItem v u)->aR (model X.prog X.w) X.A (subscriptTail value slice v u) (EP X pins σ Q) X.xe s
noncomputable def MtR(X:Cx)(id:String)(r:V->List V->Hp->VK->Prop):Prop:=
 ∀(pins:List (Addr×Obj)) (s:Shared) (σ:St) (H:Hp) (x:V) (xs:List V) (v:Value) (us:List Value) (Q:VK),Inv X pins σ H s->RelV x v->bK xs us->r x xs H Q ->
  aR (model X.prog X.w) X.A (call (.builtin id) (v::us)) (EP X pins σ Q) X.xe s
section
variable {X:Cx}{a b:Expr}{ta tb:TE}{pos:Pos}
theorem IxR.or{r r':R2}(h:IxR X r)(h':IxR X r'):IxR X (λx y H Q=>r x y H Q\/r' x y H Q):=by
 intro value slice pins s σ H x y v u Q I rx ry q hs
 rcases q with q |q
 ·exact h value slice pins s σ H x y v u Q I rx ry q hs
 ·exact h' value slice pins s σ H x y v u Q I rx ry q hs
theorem MtR.or{id:String}{r r':V->List V->Hp->VK->Prop}(h:MtR X id r)(h':MtR X id r'):MtR X id (λx xs H Q=>r x xs H Q\/r' x xs H Q):=by
 intro pins s σ H x xs v us Q I rx rs q
 rcases q with q |q
 ·exact h pins s σ H x xs v us Q I rx rs q
 ·exact h' pins s σ H x xs v us Q I rx rs q
theorem Fo{r:R2}(hr:IxR X r)(ha:PE X a ta)(hb:PE X b tb)(hs:uK b):PE X (.Subscript a b pos) (tOp r ta tb):=by
 intro pins s σ H Q I h
 exact Subscript_ (Iz ha hb I h λv u s2 x y H2 I2 rx ry q=>hr a b pins s2 σ H2 x y v u Q I2 rx ry q (hs _ _))
noncomputable def KA(K:ah):R2:=λx y H Q =>∃p xs i v,x = .ref p/\y = .int i/\SqL K H p xs/\atI xs i=some v/\Q v H
noncomputable def Kp(K:ah):R2:=λx y H Q =>∃p xs i v,x = .ref p/\y = .int i/\SqT K H p xs/\atI xs i=some v/\Q v H
noncomputable def KL:R2:=λx y H Q =>∃z i c,x = .str z/\y = .int i/\z.length<=sizeLine/\atI z.cps.toList i=some c/\Q (.str ⟨#[c]⟩) H
theorem EM:IxR X (KA X.K):=by
 intro value slice pins s σ H x y v u Q I rx ry h hs
 obtain⟨p,xs,i,z,rfl,rfl,hq,he,q⟩:=h
 cases rx
 obtain⟨t,rfl⟩:=ry
 obtain⟨its,r,pl,hz⟩:=I.list hq
 obtain⟨j,h1,h2,h3,h4,h5⟩:=ue he
 obtain⟨w,ew,rw'⟩:=r.get h2
 have hl:=r.length
 have hn:=qu
 have fin:EP X pins σ Q w s:=⟨z,H,I,rw',q⟩
 by_cases h0:0<=i
 ·have hj:i.toNat=j:=by
   rw[seqIndex_of h0 h5]at h1
   exact bL h1
  exact item_listR pl.isList h0 (by omega) (by rw[hj];simpa using ew) fin hs
 ·have hj:(i+(its.toArray.size:Int)).toNat=j:=by
   rw[seqIndex_neg (by omega) h4]at h1
   rw[aC,<- hl]
   exact bL h1
  exact subscriptTail_builtinR (x:=w) pl.isList.typeIs slot_list_getitem.lookup
   (wpAny_getItem_list_neg (Q:=λr s'=>r=w/\EP X pins σ Q r s') pl.isList (by omega) (by rw[aC] <;> omega) (by omega) (by rw[hj];simpa using ew) ⟨rfl,fin⟩) hs
theorem GN:IxR X (Kp X.K):=by
 intro value slice pins s σ H x y v u Q I rx ry h hs
 obtain⟨p,xs,i,z,rfl,rfl,hq,he,q⟩:=h
 cases rx
 obtain⟨t,rfl⟩:=ry
 obtain⟨its,r,pl,hz⟩:=I.tuple hq
 obtain⟨j,h1,h2,h3,h4,h5⟩:=ue he
 obtain⟨w,ew,rw'⟩:=r.get h2
 have hl:=r.length
 have hn:=qu
 have fin:EP X pins σ Q w s:=⟨z,H,I,rw',q⟩
 exact subscriptTail_builtinR (x:=w) pl.typeIs slot_tuple_getitem.lookup
  (getItem_tuple (j:=j) (Q:=λr s'=>r=w/\EP X pins σ Q r s') pl (by omega) (by omega) (by rw[aC,<- hl];exact h1) (by simpa using ew) ⟨rfl,fin⟩) hs
theorem Gj:IxR X KL:=by
 intro value slice pins s σ H x y v u Q I rx ry h hs
 obtain⟨z,i,c,rfl,rfl,hz,he,q⟩:=h
 obtain⟨t,rfl⟩:=rx
 obtain⟨t',rfl⟩:=ry
 obtain⟨j,h1,h2,h3,h4,h5⟩:=ue he
 have hl:z.cps.toList.length=z.length:=by simp[Str.length]
 rw[hl]at h1 h4 h5
 have hn:=qu
 exact tail_any (typeIs_str s z t) slot_str_getitem.lookup (getItem_str (c:=c) (by
  have e1:decide (i < -(2 ^ 63:Int))=false:=decide_eq_false (by omega)
  have e2:decide (i >= 2 ^ 63)=false:=decide_eq_false (by omega)
  rw[e1,e2,Bool.or_false]) (by rw[h1];simpa using h2) ⟨.str ⟨#[c]⟩,H,I.tok _,⟨_,rfl⟩,q⟩) hs
noncomputable def rIx(K:ah):R2:=λx y H Q=>KA K x y H Q\/Kp K x y H Q\/KL x y H Q
theorem G3:IxR X (rIx X.K):=EM.or (GN.or Gj)
theorem xY (its:List Value) (n j:Nat) (u:Value):ff (·.setIfInBounds j u) { cls := .type "list",data := .seq its.toArray n }={ cls := .type "list",data := .seq (its.set j u).toArray n }:=by
 simp[ff]
theorem Inv.lst{pins:List (Addr×Obj)}{σ:St}{H:Hp}{s:Shared}{p:Addr}{xs:List V}(I:Inv X pins σ H s)(h:H p=some (.lst xs)):
  ∃ (its:List Value) (n:Nat),bK xs its/\s.heap.get? p=some { cls := .type "list",data := .seq its.toArray n }/\xs.length<=sizeLine:=by
 obtain⟨z,its,n,r,e⟩:=I.hok p _ h
 exact⟨its,n,r,e,z⟩
theorem Inv.lstUpd{pins:List (Addr×Obj)}{σ:St}{H:Hp}{s:Shared}{p:Addr}{xs ys:List V}{its its':List Value}{n n':Nat}{f:Obj->Obj}(I:Inv X pins σ H s)(h:H p=some (.lst xs))
  (ho:s.heap.get? p=some { cls := .type "list",data := .seq its.toArray n }) (hf:f { cls := .type "list",data := .seq its.toArray n }={ cls := .type "list",data := .seq its'.toArray n' }) (r:bK ys its') (hz:ys.length<=sizeLine) (t:Nat) :
  Inv X pins σ (upd H p (.lst ys)) { s with heap:=s.heap.update p f,toks:=t }:=by
 have e:(s.heap.update p f).get? p=some { cls := .type "list",data := .seq its'.toArray n' }:=by
  rw[CL f ho (by rw[hf] <;> rfl),hf]
 refine I.write (x:=p) (e:=p) (by rw[h];trivial) (.inl rfl) (λb u hb q=>(eP _ _ (dM hb)).trans q) ⟨_,e⟩ ?_
 exact⟨hz,its',n',r,e⟩
noncomputable def FH:V->V->V->Hp->(Hp->Prop)->Prop:=λo i v H Q =>∃p xs k j,o = .ref p/\i = .int k/\H p=some (.lst xs)/\ixN xs.length k=some j/\Q (upd H p (.lst (xs.set j v)))
theorem set_list:GZ X FH:=by
 intro pins s σ H o i v ov iv u Q I ro ri rv h
 obtain⟨p,xs,k,j,rfl,rfl,hp,hj,q⟩:=h
 cases ro
 obtain⟨t,rfl⟩:=ri
 obtain⟨its,n,r,ho,hz⟩:=I.lst hp
 obtain⟨h1,h2,h3,h4⟩:=yM hj
 have hl:=r.length
 have hn:=qu
 have I':Inv X pins σ (upd H p (.lst (xs.set j v))) { s with heap:=s.heap.update p (ff (·.setIfInBounds j u)) }:=
  I.lstUpd hp ho (xY its n j u) (r.set rv j) (by rw[fq];exact hz) s.toks
 by_cases h0:0<=k
 ·have hk:k.toNat=j:=by
   rw[seqIndex_of h0 h4]at h1
   exact bL h1
  exact PySem.W.ki_setAt ho h0 (by omega) (by rw[aC,<- hl];exact h4) (by rw[hk];exact⟨_,I',q⟩)
 ·have hk:(k+(its.toArray.size:Int)).toNat=j:=by
   rw[seqIndex_neg (by omega) h3]at h1
   rw[aC,<- hl]
   exact bL h1
  exact PySem.W.ki_setBack ho (by omega) (by rw[aC,<- hl];exact h3) (by omega) (by rw[hk];exact⟨_,I',q⟩)
theorem ug(lo hi:Option Int)(n:Nat):(sliceBounds lo hi none n).1=((HT.sIx n 0 lo:Nat):Int)/\(sliceBounds lo hi none n).2.1=((HT.sIx n n hi:Nat):Int)/\(sliceBounds lo hi none n).2.2=1:=by
 refine⟨?_,?_,rfl⟩
 ·cases lo with
  | none=>simp[sliceBounds,HT.sIx]
  | some i=>
    simp only[sliceBounds,HT.sIx,Option.getD_none,show(1:Int) > 0 by decide,if_true]
    by_cases h:i<0
    ·simp only[h,if_true] <;> omega
    ·simp only[h,if_false] <;> omega
 ·cases hi with
  | none=>simp[sliceBounds,HT.sIx]
  | some i=>
    simp only[sliceBounds,HT.sIx,Option.getD_none,show(1:Int) > 0 by decide,if_true]
    by_cases h:i<0
    ·simp only[h,if_true] <;> omega
    ·simp only[h,if_false] <;> omega
theorem sj(its:List Value)(lo hi:Option Int):slicePick its.toArray lo hi none=((its.drop (HT.sIx its.length 0 lo)).take (HT.sIx its.length its.length hi - HT.sIx its.length 0 lo)).toArray:=by
 obtain⟨h1,h2,h3⟩:=ug lo hi its.toArray.size
 unfold slicePick
 rw[h1,h2,h3]
 simp only[sliceRange_one,pick_run,aC] <;> rfl
noncomputable def KU(K:ah):V->Option Int->Option Int->Hp->VK->Prop:=λx lo hi H Q =>∃a xs,x = .ref a/\SqL K H a xs /\ ∀p,H p=none->Q (.ref p) (upd H p (.lst (we xs lo hi)))
theorem DY:SlR X (KU X.K):=by
 intro pins s σ H x v vl vu lo hi sl Q I rx hs pl pu h
 obtain⟨a,xs,rfl,hx,q⟩:=h
 cases rx
 obtain⟨its,r,ht,hz⟩:=I.list hx
 have hlen:=r.length
 refine⟨"list",_,slot_list_getitem.lookup,ht.isList.typeIs,?_⟩
 refine wpAny_getItem_list_slice ht.isList hs pl pu .none (by simp) ?_ (by rw[aC] <;> omega)
 rw[sj,<- hlen]
 refine⟨.ref s.heap.objs.size,_,I.laid (t':=s.toks) (o:= .lst (we xs lo hi)) (λb ob q=>av _ q) (ak _) ?_,rfl,q _ (I.hok.fresh (ak _))⟩
 exact⟨aB (pf xs lo hi) hz,_,0,(r.drop (HT.sIx xs.length 0 lo)).take (HT.sIx xs.length xs.length hi - HT.sIx xs.length 0 lo),aH _ rfl⟩
noncomputable def mP:V->Bool
 | .non=>true
 | .bl _=>true
 | .int _=>true
 | .str _=>true
 | _=>false
noncomputable def eqV:V->V->Bool
 | .non,.non=>true
 | .bl a,.bl b=>a==b
 | .bl a,.int b=>(if a then 1 else 0)==b
 | .int a,.bl b=>a==(if b then 1 else 0)
 | .int a,.int b=>a==b
 | .str a,.str b=>a==b
 | _,_=>false
theorem FZ{A:Around}{s:Shared}{y x:V}{u v:Value}(ry:RelV y u)(rx:RelV x v)(fy:mP y=true)(fx:mP x=true):SeqAt.EqAt A s u v (eqV y x):=by
 cases y with
 | non=>
   cases ry
   cases x with
   | non=>cases rx;exact SeqAt.EqAt.same _
   | bl b=>cases rx;exact SeqAt.EqAt.none_bool b
   | int b=>obtain⟨t,rfl⟩:=rx;exact SeqAt.EqAt.none_int b t
   | str b=>obtain⟨t,rfl⟩:=rx;exact SeqAt.EqAt.none_str b t
   | _=>exact absurd (show false=true from fx) bE
 | bl a=>
   cases ry
   cases x with
   | non=>cases rx;exact SeqAt.EqAt.bool_none a
   | bl b=>cases rx;exact SeqAt.EqAt.bool_bool a b
   | int b=>obtain⟨t,rfl⟩:=rx;exact SeqAt.EqAt.bool_int a b t
   | str b=>obtain⟨t,rfl⟩:=rx;exact SeqAt.EqAt.bool_str a b t
   | _=>exact absurd (show false=true from fx) bE
 | int a=>
   obtain⟨t',rfl⟩:=ry
   cases x with
   | non=>cases rx;exact SeqAt.EqAt.int_none a t'
   | bl b=>cases rx;exact SeqAt.EqAt.int_bool a t' b
   | int b=>obtain⟨t,rfl⟩:=rx;exact SeqAt.EqAt.int_int a t' b t
   | str b=>obtain⟨t,rfl⟩:=rx;exact zm a t' b t
   | _=>exact absurd (show false=true from fx) bE
 | str a=>
   obtain⟨t',rfl⟩:=ry
   cases x with
   | non=>cases rx;exact SeqAt.EqAt.str_none a t'
   | bl b=>cases rx;exact SeqAt.EqAt.str_bool a t' b
   | int b=>obtain⟨t,rfl⟩:=rx;exact zo a t' b t
   | str b=>obtain⟨t,rfl⟩:=rx;exact SeqAt.EqAt.str_str a t' b t
   | _=>exact absurd (show false=true from fx) bE
 | _=>exact absurd (show false=true from fy) bE
noncomputable def eqU(x:V)(u:Value):Bool:=match u with
 | .none=>eqV .non x
 | .bool b=>eqV (.bl b) x
 | .int i _=>eqV (.int i) x
 | .str z _=>eqV (.str z) x
 | _=>false
theorem AU{x y:V}{u:Value}(r:RelV y u)(f:mP y=true):eqU x u=eqV y x:=by
 cases y with
 | non=>cases r;rfl
 | bl b=>cases r;rfl
 | int i=>obtain⟨t,rfl⟩:=r;rfl
 | str z=>obtain⟨t,rfl⟩:=r;rfl
 | _=>exact absurd (show false=true from f) bE
theorem ur{x:V}: ∀{xs:List V}{us:List Value},bK xs us->xs.all mP=true->us.any (eqU x)=xs.any λy=>eqV y x
 | _,_,.nil,_=>rfl
 | y::xs,u::us,.cons r t,f=>by
   rw[bX,ao]at f
   rw[gI,gI,AU r f.1,ur t f.2]
theorem qD{A:Around}{s:Shared}{x:V}{v:Value}(rx:RelV x v)(fx:mP x=true): ∀{xs:List V}{us:List Value},bK xs us->xs.all mP=true -> ∀u∈us,SeqAt.EqAt A s u v (eqU x u)
 | _,_,.nil,_=>λu hu=>by cases hu
 | y::xs,u::us,.cons r t,f=>λu' hu=>by
   rw[bX,ao]at f
   rcases aX.mp hu with rfl |hu
   ·rw[AU r f.1];exact FZ r rx f.1 fx
   ·exact qD rx fx t f.2 u' hu
noncomputable def inV(x:V)(xs:List V):Bool:=xs.any λy=>eqV y x
noncomputable def rIn(K:ah)(neg:Bool):R2:=λx y H Q =>∃p xs,y = .ref p/\(SqL K H p xs\/SqT K H p xs)/\mP x=true/\xs.all mP=true/\Q (.bl (if neg then !inV x xs else inV x xs)) H
theorem zZ:OpR X (compareOp .In) (rIn X.K false):=by
 intro pins s σ H x y v u Q I rx ry h
 obtain⟨p,xs,rfl,hq,fx,fs,q⟩:=h
 cases ry
 rcases hq with hq |hq
 ·obtain⟨its,r,pl,hz⟩:=I.list hq
  refine SeqAt.in_listAt (eqU x) pl.isList (λw hw=>qD rx fx r fs w (by simpa using hw)) ⟨.bl _,H,I,rfl,?_⟩
  rw[show its.toArray.any (eqU x)=its.any (eqU x) by simp,ur r fs]
  exact q
 ·obtain⟨its,r,pl,hz⟩:=I.tuple hq
  refine SeqAt.in_tupleAt (eqU x) pl (λw hw=>qD rx fx r fs w (by simpa using hw)) ⟨.bl _,H,I,rfl,?_⟩
  rw[show its.toArray.any (eqU x)=its.any (eqU x) by simp,ur r fs]
  exact q
theorem uu:iJ X (.builtin "len") (fun xs H Q => ∃ p ys,xs = [.ref p]/\(SqL X.K H p ys\/SqT X.K H p ys)/\Q (.int ys.length) H):=by
 intro pins s σ H xs us Q I r h
 obtain⟨p,ys,rfl,hq,q⟩:=h
 obtain⟨u,rfl,rx⟩:=vals1 r
 cases rx
 have hn:=qu
 rcases hq with hq |hq
 ·obtain⟨its,r',pl,hz⟩:=I.list hq
  have hlen:=r'.length
  exact Calls.call_len_list pl.isList (by simp only[aC] <;> omega) ⟨.int ys.length,H,I.tok _,⟨s.toks+1,by rw[aC,hlen]⟩,q⟩
 ·obtain⟨its,r',pl,hz⟩:=I.tuple hq
  have hlen:=r'.length
  exact len_tuple pl (by simp only[aC] <;> omega) ⟨.int ys.length,H,I.tok _,⟨s.toks+1,by rw[aC,hlen]⟩,q⟩
theorem iJ.or{f:Value}{r r':List V->Hp->VK->Prop}(h:iJ X f r)(h':iJ X f r'):iJ X f (λxs H Q=>r xs H Q\/r' xs H Q):=by
 intro pins s σ H xs us Q I rs q
 rcases q with q |q
 ·exact h pins s σ H xs us Q I rs q
 ·exact h' pins s σ H xs us Q I rs q
theorem rO:iJ X (.type "tuple") (fun xs H Q => ∃ p ys,xs = [.ref p]/\((SqL X.K H p ys /\ ∀ l,H l=none->Q (.ref l) (upd H l (.tup ys)))\/(SqT X.K H p ys/\Q (.ref p) H))):=by
 intro pins s σ H xs us Q I r h
 obtain⟨p,ys,rfl,h⟩:=h
 obtain⟨u,rfl,rx⟩:=vals1 r
 cases rx
 rcases h with⟨hq,q⟩ | ⟨hq,q⟩
 ·obtain⟨its,r',pl,hz⟩:=I.list hq
  have hlen:=r'.length
  refine call_tuple_list pl.isList (λh' kp =>?_) (by simp only[aC] <;> omega)
  have I1:Inv X pins σ H { s with heap:=h' }:=I.kept (t':=s.toks) kp
  have I2:Inv X pins σ (upd H h'.objs.size (.tup ys)) { s with heap:=h'.push { cls := .type "tuple",data := .seq its.toArray } }:=
   I1.laid (t':=s.toks) (λb o e=>av _ e) (ak _) (show eZ X.prog X.w _ _ _ (.tup ys) from⟨hz,its,r',oy _ _,_,aH _ rfl,rfl⟩)
  exact⟨.ref h'.objs.size,_,I2,rfl,q _ (I1.hok.fresh (ak _))⟩
 ·obtain⟨its,r',pl,hz⟩:=I.tuple hq
  exact call_tuple_same pl ⟨.ref p,H,I,rfl,q⟩
noncomputable def tyV(K:ah)(T:String)(x:V)(H:Hp):Prop:=match x with
 | .str _=>T="str"
 | .int _=>T="int"
 | .ref p=>(T="list" /\ ∃ xs,SqL K H p xs)\/(T="tuple" /\ ∃ o,K.lookup p=some o/\o.cls = .type "tuple"/\o.dict=none) \/
   (T="dict"/\((∃ kvs,H p=some (.dK kvs)) \/ ∃ kvs,H p=some (.dT kvs)))\/(T="set" /\ ∃ S n,H p=some (.set S n))
 | _=>False
theorem IC{pins:List (Addr×Obj)}{σ:St}{H:Hp}{s:Shared}{T:String}{x:V}{v:Value}(I:Inv X pins σ H s)(r:RelV x v)(ty:tyV X.K T x H):
  s.TypeIs v T /\ ∀a,v = .ref a -> ∃ob,s.heap.get? a=some ob/\ob.dict=none:=by
 cases x with
 | str z=>
   obtain⟨t,rfl⟩:=r
   cases (show T="str" from ty)
   exact⟨typeIs_str s z t,λ_ e=>nomatch e⟩
 | int i=>
   obtain⟨t,rfl⟩:=r
   cases (show T="int" from ty)
   exact⟨typeIs_int s i t,λ_ e=>nomatch e⟩
 | ref p=>
   cases r
   rcases ty with⟨rfl,xs,hq⟩ | ⟨rfl,o,hk,hc,hd⟩ | ⟨rfl,hk⟩ | ⟨rfl,S,n,hk⟩
   ·obtain⟨its,_,pl,_⟩:=I.list hq
    refine⟨pl.isList.typeIs,λa e =>?_⟩
    cases e
    obtain⟨o,n,e,c,hd,_⟩:=pl
    exact⟨o,e,hd⟩
   ·refine⟨⟨o,I.kIn p o hk,hc⟩,λa e =>?_⟩
    cases e
    exact⟨o,I.kIn _ o hk,hd⟩
   ·have z: ∃o,s.heap.get? p=some o/\o.ExactDict:=by
     rcases hk with⟨kvs,hk⟩ | ⟨kvs,hk⟩
     ·obtain⟨_,_,_,_,o,_,_,e,ex,_⟩:=I.hok p _ hk
      exact⟨o,e,ex⟩
     ·obtain⟨_,_,_,_,o,_,_,e,ex,_⟩:=I.hok p _ hk
      exact⟨o,e,ex⟩
    obtain⟨o,e,ex⟩:=z
    refine⟨⟨o,e,ex.1⟩,λa e2 =>?_⟩
    cases e2
    exact⟨o,e,ex.2.1⟩
   ·obtain⟨o,_,_,_,e,ex,_⟩:=I.hok p _ hk
    refine⟨⟨o,e,ex.1⟩,λa e2 =>?_⟩
    cases e2
    exact⟨o,e,ex.2.1⟩
 | _=>exact bC ty
noncomputable def tBM(K:ah)(T:String)(r:V->List V->Hp->VK->Prop)(to:TE)(t:TA):TE:=λσ H Q=>to σ H λx H1=>tyV K T x H1/\t σ H1 λxs H2=>r x xs H2 Q
variable {o e:Expr}{es:List Expr}{to:TE}{t:TA}{name:Str}{apos cpos:Pos}{T id:String}{r:V->List V->Hp->VK->Prop}
theorem Fj (pa:PlainAttrs T) (slot:Slot T name id) (hty:typeOf (.builtin id)=pure (.type "method_descriptor")) (hm:MtR X id r) (ho:PE X o to) (ha:PA X (e::es) t)
  (hbase:autoParam (attributeBase o name X.env (eval o X.env)=eval o X.env) au1._auto_1)
  (hfew:autoParam (((backTo cpos (starEach (e::es) X.env)).all (λx => !x.1)&&(backToKw cpos (keywordEach [] X.env)).all (λx=>x.1.isSome)
   && decide ((e::es).length+([]:List Keyword).length+(if ([]:List Keyword).isEmpty then 0 else 1)<30))=true) au1._auto_1)
  (hline:autoParam ((apos.endLine==cpos.line)=true) au1._auto_1) (hs:autoParam (starEach (e::es) X.env=(false,eval e X.env)::starEach es X.env) au1._auto_1) (hplain:autoParam ((backTo cpos (starEach es X.env)).any (·.1)=false) au1._auto_1):
  PE X (.Call (.Attribute o name apos) (e::es) [] cpos) (tBM X.K T r to t):=by
 intro pins s σ H Q I h
 refine wpAny_Call_method_late hbase hfew hline rfl (thn (ho pins s σ H _ I h) λv s1 ⟨x,H1,I1,r1,ty,q1⟩ =>?_)
 obtain⟨h1,h2⟩:=IC I1 r1 ty
 refine⟨T,id,pa,slot,hty,h1,h2,?_⟩
 have hA:=ha cpos pins s1 σ H1 _ I1 q1
 rw[hs]at hA ⊢
 refine Aq (by show(false||(backTo cpos (starEach es X.env)).any (·.1))=false;rw[hplain] <;> rfl) (jd ?_)
 exact thn hA λus s2 ⟨vs,H2,I2,r2,q2⟩=>hm pins s2 σ H2 x vs v us Q I2 r1 r2 q2
end
end _L
namespace _L
open PySem PySem.Spec PyProof.Rows
noncomputable def MtM(X:Cx)(id:String)(r:V->List V->Hp->VK->Prop):Prop:=
 ∀(pins:List (Addr×Obj)) (s:Shared) (σ:St) (H:Hp) (x:V) (xs:List V) (v:Value) (us:List Value) (Q:VK),Inv X pins σ H s->RelV x v->bK xs us->r x xs H Q ->
  aR (model X.prog X.w) X.A (call (.builtin id) (v::us)) (EP X pins σ Q) X.xe s
theorem bK.one: ∀{x:V}{us:List Value},bK [x] us -> ∃u,us = [u]/\RelV x u:=by
 intro x us h
 cases h with |cons r t=>cases t;exact⟨_,rfl,r⟩
theorem bK.two: ∀{x y:V}{us:List Value},bK [x,y] us -> ∃u v,us = [u,v]/\RelV x u/\RelV y v:=by
 intro x y us h
 cases h with |cons r t=>cases t with |cons q t=>cases t;exact⟨_,_,rfl,r,q⟩
theorem bK.zero: ∀{us:List Value},bK [] us->us = []
 | _,.nil=>rfl
theorem bK.dropLast{xs:List V}{us:List Value}(h:bK xs us):bK xs.dropLast us.dropLast:=by
 induction h with
 | nil=>exact .nil
 | cons r t ih=>
   cases t with
   | nil=>exact .nil
   | cons q t'=>exact .cons r ih
theorem bK.eraseIdx: ∀{xs:List V}{us:List Value} (i:Nat),bK xs us->bK (xs.eraseIdx i) (us.eraseIdx i)
 | _,_,_,.nil => .nil
 | _,_,0,.cons _ t=>t
 | _,_,i+1,.cons r t => .cons r (bK.eraseIdx i t)
theorem bK.reverse{xs:List V}{us:List Value}(h:bK xs us):bK xs.reverse us.reverse:=by
 induction h with
 | nil=>exact .nil
 | cons r t ih=>rw[kM,kM];exact bK.append ih (.cons r .nil)
theorem bK.rep{xs:List V}{us:List Value}(h:bK xs us): ∀k:Nat,bK (aq k xs).flatten (aq k us).flatten
 | 0 => .nil
 | k+1=>by
   rw[ck,ck,ej,ej]
   exact bK.append h (bK.rep h k)
theorem tF{α:Type}: ∀(l:List α) (i:Nat),(l.eraseIdx i).length<=l.length
 | [],_=>ak _
 | _::_,0=>bY _
 | _::r,i+1=>Nat.succ_le_succ (tF r i)
theorem foldl_rep(its:List Value): ∀(k:Nat) (acc:List Value),
  mU (λx1 x2=>x1++x2) acc.toArray (aq k its.toArray)=(acc++(aq k its).flatten).toArray
 | 0,acc=>by simp
 | k+1,acc=>by
   have e:acc.toArray++its.toArray=(acc++its).toArray:=by simp
   have e2:(acc++its)++(aq k its).flatten=acc++(aq (k+1) its).flatten:=by
    rw[ck,ej,be]
   rw[<- e2,<- foldl_rep its k (acc++its),<- e,ck,uY]
section
variable {X:Cx}{pins:List (Addr×Obj)}{σ:St}{H:Hp}{s:Shared}{l b:Addr}{xs ys zs:List V}
theorem Inv.lset{its its':List Value}{n:Nat}{f:Array Value->Array Value}{t':Nat}(I:Inv X pins σ H s)(hH:H l=some (.lst xs))
  (e:s.heap.get? l=some { cls := .type "list",data := .seq its.toArray n }) (hf:f its.toArray=its'.toArray) (hv:bK ys its') (hz:ys.length<=sizeLine) :
  Inv X pins σ (upd H l (.lst ys)) { s with heap:=s.heap.update l (ff f),toks:=t' }:=by
 have q:=CM e f
 rw[hf]at q
 refine I.write (x:=l) (e:=l) (by rw[hH];exact trivial) (.inl rfl) (λb' u hb hu=>(eP s.heap (ff f) (dM hb)).trans hu) ⟨_,q⟩ ?_
 exact⟨hz,its',_,hv,q⟩
theorem Inv.lnew{its:List Value}{t':Nat}(I:Inv X pins σ H s)(hv:bK ys its)(hz:ys.length<=sizeLine):
  Inv X pins σ (upd H s.heap.objs.size (.lst ys)) { s with heap:=s.heap.push { cls := .type "list",data := .seq its.toArray },toks:=t' }:=
 I.laid (λ_ _ q=>av _ q) (ak _) ⟨hz,its,0,hv,aH _ rfl⟩
theorem Inv.fresh(I:Inv X pins σ H s):H s.heap.objs.size=none:=I.hok.fresh (ak _)
theorem Inv.lstM (I:Inv X pins σ H s) (hH:H l=some (.lst xs)):xs.length<=sizeLine /\ ∃ (its:List Value) (n:Nat),bK xs its/\xs.length=its.length/\s.heap.get? l=some { cls := .type "list",data := .seq its.toArray n }:=by
 obtain⟨z,its,n,r,e⟩:=I.hok l _ hH
 exact⟨z,its,n,r,r.length,e⟩
theorem Ci{n:Nat}(h:n<=sizeLine):jD n=false:=by
 unfold jD
 exact decide_eq_false (by omega)
end
section
variable {X:Cx}
noncomputable def yE:V->List V->Hp->VK->Prop:=λx vs H Q =>∃l xs y,x = .ref l/\vs = [y]/\H l=some (.lst xs)/\xs.length<sizeLine/\Q .non (upd H l (.lst (xs++[y])))
theorem zF:MtM X "list.append" yE:=by
 intro pins s σ H x vs v us Q I rx rv h
 obtain⟨l,xs,y,rfl,rfl,hH,hz,q⟩:=h
 cases rx
 obtain⟨u,rfl,ru⟩:=rv.one
 obtain⟨z,its,n,r,hl,e⟩:=I.lstM hH
 refine call_meets F.slot_list_append ⟨_,e,rfl⟩ F.entry_list_append (F.args_list_append_2 _ _) (PySem.list_append l its.toArray n u (by rw[aC];omega)) ⟨e,?_⟩
 refine⟨.non,_,I.lset (its':=its++[u]) hH e (by simp) (r.append (.cons ru .nil)) ?_,rfl,q⟩
 rw[bg,List.length_singleton]
 assumption
noncomputable def BC:V->List V->Hp->VK->Prop:=λx vs H Q =>∃l xs i k y,x = .ref l/\vs = [.int i]/\H l=some (.lst xs) /\ -(2 ^ 63)<=i/\i<2 ^ 63/\seqIndex? i xs.length=some k/\xs[k]? = some y/\Q y (upd H l (.lst (xs.eraseIdx k)))
theorem BK:MtM X "list.pop" BC:=by
 intro pins s σ H x vs v us Q I rx rv h
 obtain⟨l,xs,i,k,y,rfl,rfl,hH,h1,h2,hk,hy,q⟩:=h
 cases rx
 obtain⟨u,rfl,ru⟩:=rv.one
 obtain⟨t,rfl⟩:=ru
 obtain⟨z,its,n,r,hl,e⟩:=I.lstM hH
 obtain⟨w,hw,rw'⟩:=r.get hy
 refine call_meets F.slot_list_pop ⟨_,e,rfl⟩ F.entry_list_pop (F.args_list_pop_2 _ _)
  (MeetsSeq.list_pop_at l its.toArray n i t k w (fitsIndex_both h1 h2) (by rw[aC,<- hl];exact hk) (by rw[<- Array.getElem?_toList];exact hw) (by rw[aC];omega)) ⟨e,?_⟩
 refine⟨y,_,I.lset (its':=its.eraseIdx k) hH e ?_ (r.eraseIdx k) ?_,rw',q⟩
 ·show its.toArray.eraseIdxIfInBounds k=(its.eraseIdx k).toArray
  rw[List.eraseIdxIfInBounds_toArray]
 ·have:=tF xs k
  exact aB (by assumption) (by assumption)
noncomputable def JS:R2:=λx y H Q =>∃l b xs zs,x = .ref l/\y = .ref b/\H l=some (.lst xs)/\H b=some (.lst zs)/\xs.length+zs.length<=sizeLine /\ ∀p,H p=none->Q (.ref p) (upd H p (.lst (xs++zs)))
theorem GC:OpR X (binaryOp .Add) JS:=by
 intro pins s σ H x y v u Q I rx ry h
 obtain⟨l,b,xs,zs,rfl,rfl,hH,hB,hz,q⟩:=h
 cases rx
 cases ry
 obtain⟨z,its,n,r,hl,e⟩:=I.lstM hH
 obtain⟨z2,its2,n2,r2,hl2,e2⟩:=I.lstM hB
 refine PySem.P.add_list e e2 ?_ (by rw[aC,aC];omega)
 have ea:its.toArray++its2.toArray=(its++its2).toArray:=by simp
 rw[ea]
 exact⟨.ref _,_,I.lnew (t':=s.toks) (r.append r2) (by rw[bg];assumption),rfl,q _ I.fresh⟩
noncomputable def IX:R2:=λx y H Q =>∃l k xs,x = .ref l/\y = .int k/\H l=some (.lst xs) /\ -(2 ^ 63)<=k/\k<2 ^ 63/\xs.length*k.toNat<=sizeLine /\
 ∀p,H p=none->Q (.ref p) (upd H p (.lst (aq k.toNat xs).flatten))
theorem len_rep{α:Type}(xs:List α)(k:Nat):(aq k xs).flatten.length=k*xs.length:=by
 induction k with
 | zero=>simp
 | succ k ih=>rw[ck,ej,bg,ih,Nat.succ_mul,nv]
theorem Hb:OpR X (binaryOp .Mult) IX:=by
 intro pins s σ H x y v u Q I rx ry h
 obtain⟨l,k,xs,rfl,rfl,hH,h1,h2,hz,q⟩:=h
 cases rx
 obtain⟨t,rfl⟩:=ry
 obtain⟨z,its,n,r,hl,e⟩:=I.lstM hH
 have hlen:its.toArray.size*k.toNat<=sizeLine:=by rw[aC,<- hl];exact hz
 have hcap: ¬its.toArray.size*k.toNat > (2 ^ 63 - 1) / 8:=by
  have:(sizeLine:Nat)<=(2 ^ 63 - 1) / 8:=by decide
  omega
 have hfit: ¬(!Builtin.List.listFitsIndex k)=true:=by
  rw[fitsIndex_both h1 h2]
  exact bE
 have hlong: ¬jD (its.toArray.size*k.toNat)=true:=by
  rw[Ci hlen]
  exact bE
 have hnew:mU (λx1 x2=>x1++x2) #[] (aq (if its.toArray.isEmpty=true then 0 else k.toNat) its.toArray)=(aq k.toNat its).flatten.toArray:=by
  have f0: ∀m:Nat,mU (λx1 x2=>x1++x2) #[] (aq m its.toArray)=(aq m its).flatten.toArray:=λm=>by
   have:=foldl_rep its m []
   rw[dG]at this
   exact this
  rw[f0]
  cases its with
  | nil=>simp
  | cons a r'=>rw[if_neg (by simp)]
 refine CT (T:="list") (U:="int") (by decide) ⟨_,e,rfl⟩ (fun s'=>typeIs_int s' k t) noFill_list_mul F.fills_int_mul oz repeat_list F.slot_int_index.lookup
  (call_meets oz (typeIs_int s k t) F.entry_int_rmul (F.args_int_rmul_2 _ _) (int___rmul___int_list k t l its.toArray n)
   ⟨e,rfl,⟨_,e,rfl⟩,call_meets F.slot_list_mul ⟨_,e,rfl⟩ F.entry_list_mul (F.args_list_mul_2 _ _) (AutoListH.list___mul___list_int_3 l its.toArray n k t hfit hcap hlong) ⟨e,?_⟩⟩)
 rw[hnew]
 exact⟨.ref _,_,I.lnew (t':=s.toks) (r.rep k.toNat) (by rw[len_rep,iH];exact hz),rfl,q _ I.fresh⟩
end
section
variable {prog:Program}{w:World}{A:Around}{E:Value->Shared->Prop}{s:Shared}
end
section
variable {X:Cx}
end
end _L
namespace Att
open PySem PySem.W PySem.Calls PyProof.Rows
theorem pJ{P:Params}{h:Heap}: ∀(ns:List Int) (vs:List Value),WellAll P h vs (ns.map WData.int)->IntsAre vs ns:=by
 intro ns
 induction ns with
 | nil=>
   intro vs w
   rw[mT]at w
   cases w
   exact .nil
 | cons n ns ih=>
   intro vs w
   rw[bD]at w
   cases w with
   | cons a b=>
     cases a
     exact .cons _ _ (ih _ b)
theorem zE{l:OpenLaw}{n:Nat}(hn:l.most=some n){P:Params}{h:Heap}{args:List WData}{vals:List Value}
  (hpre:l.row.toRowW.claim.pre args=true) (hwl:WellAll P h vals args):
  ∃ a vs ns,vals = [bH a]/\args = [WData.list (ns.map WData.int)]/\h.get? a=some { cls := .type "list",data := .seq vs.toArray }/\IntsAre vs ns/\ns.length<=n:=by
 have hsh:WShape.hasAll [] args [.list .int]=true:=(pre_splitW hpre).1
 have hc:l.pre.holds [] { args:=args }=true:=(pre_splitW hpre).2
 obtain⟨d,r,rfl,h1,h2⟩:=hasAllW_cons hsh
 obtain rfl:=hasAllW_nil h2
 obtain⟨xs,rfl,h3⟩:=hasW_list h1
 obtain⟨ns,rfl⟩:=items_int h3
 have hlen:ns.length<=n:=by
  unfold OpenLaw.pre at hc
  have h4:(WTm.not (.lt (.lit (.int (n:Int))) (.len (.arg 0)))).holds [] { args:= [.list (ns.map .int)] }=true:=by
   have h4:=(holds_andW hc).1
   rw[hn]at h4
   exact h4
  have h5:=condW_of h4 (w_not (w_lt w_lit (w_len_list (w_arg rfl))))
  rw[aE]at h5
  refine bS λq =>?_
  have q':(n:Int)<((ns.length:Nat):Int):=by omega
  first
   | (rw[decide_eq_true q']at h5;exact absurd h5 (by decide))
   | (simp at h5;omega)
 cases hwl with
 | cons w1 w2=>
   cases w2
   cases w1 with
   | list ho hall=>exact⟨_,_,ns,rfl,rfl,ho,pJ ns _ hall,hlen⟩
theorem zC(l:OpenLaw)(args:List WData):l.row.toRowW.claim.post args (.bool true) args=true:=
 postW_of (r:=l.row.toRowW) (X:=(true==true))
  (show WShape.has [] (.bool true) .bool=true by first |rfl |decide |simp[WShape.has,WShape.arms,WShape.armsAll])
  (show(WTm.eq .res (.lit (.bool true))).value [] { args:=args,res:=some (.bool true),after:=args }=some (.bool (true==true)) from w_eq_bool (w_res rfl) w_lit) rfl
theorem attach_call{l:OpenLaw}{n:Nat}{q:Program}{loose:List Str}{XP:(Str->Option Value)->Heap->Prop}{YP:World->Heap->Prop}{d:DefRec}
  (hn:l.most=some n) (hdf:d.params.defaults = [])
  (call: ∀(w:World) (s₀ s₁:Shared) (mg mb:Str->Option Value) (fa:Addr) (o:Obj) (pm cd doc:Value) (a:Addr) (vs:List Value) (ns:List Int),
   Ground q loose [] XP w s₀ mg mb s₁.heap->YP w s₁.heap ->
   s₁.heap.get? fa=some o->o.data = .func (docDef d.name d.params d.body d.scope pm cd doc)->s₁.heap.CodeRec cd d.name->mg d.name=some (.ref fa) ->
   s₁.heap.get? a=some { cls := .type "list",data := .seq vs.toArray }->IntsAre vs ns->ns.length<=n->s₁.gens = #[] ->
   jY (model l.prog w) callerA (.call (.ref fa) ⟨[.ref a],[]⟩) (λr s'=>r = .ok (.ret (.bool true))/\OldK s₁.heap s'.heap/\s'.os=s₁.os/\AllBare s'.gens) s₁):
  WalkO q loose XP YP l.row.toRowW d [] (λf vs=>wQ f vs):=by
 intro w s₀ s₁ mg mb G Y fa o pm cd doc dV kV ho hd hcd hD hmg hg args vals as hpre hlay hrd hwl hlo
 obtain rfl:dV = .none:=Dflts.none hD hdf
 obtain rfl:kV = .none:=Dflts.noKw hD
 obtain⟨a,vs,ns,rfl,rfl,hobj,hints,hlen⟩:=zE hn hpre hwl
 refine enter_call (gK (call w s₀ s₁ mg mb fa o pm cd doc a vs ns G Y ho (fd_plain hd) hcd hmg hobj hints hlen hg) λr s' hq =>?_)
 obtain⟨rfl,h2,h3,h4⟩:=hq
 exact⟨.inl ⟨.bool true,.bool true,[],rfl,λ_=>rfl,.bool true,zC l _,λ_=>⟨gf,λ_ hm=>(nomatch hm)⟩⟩,h2,h3,h4⟩
section
variable {prog:Program}{w:World}{A:Around}{E:Value->Shared->Prop}{s:Shared}{K:Frag}
noncomputable def ledger(h:Heap)(L d:Addr):List (Addr×Obj):=(aO h.objs.size).filterMap λa=>if a=L\/a=d then none else(h.get? a).map λo=>(a,o)
end
end Att
namespace _L
open PySem PySem.Spec PyProof.Rows
theorem iR: ∀{vs:List Value}{ns:List Int},IntsAre vs ns->bK (ns.map V.int) vs
 | _,_,.nil => .nil
 | _,_,.cons n t h => .cons ⟨t,rfl⟩ (iR h)
noncomputable def G5(H:Hp):Prop:= ∀b,H b=none \/ ∃o xs,H b=some (.frz o (.lst xs))
theorem BV{P:Program}{w:World}{K:ah}{mg mb:Str->Option Value}{CX:CXT}{k:Nat}{fa a:Addr}{fd:FuncData}{x:Str}{sp:Sp}{s₁:Shared}{vs:List Value}{ns:List Int}
  (KX:K.In s₁.heap) (hns:s₁.heap.Ns mainGlobals mg) (hb:s₁.heap.Ns builtinsNs mb) (hbb : ∀ x:Str,x≠"__name__"->mb x=bootBuiltins x) (hlim:s₁.heap.NoLimit) (hg:s₁.gens = #[])
  (ha:s₁.heap.get? a=some { cls := .type "list",data := .seq vs.toArray }) (hi:IntsAre vs ns) (hl:ns.length<=sizeLine) (hr:iG k callerA)
  (F: ∀base:Heap,K.In base->base.Ns mainGlobals mg->gy P w K mg base CX k fa fd [x] sp) (hbind: ∀(s:Shared) (u:Value),BindsTo s fd ⟨[u],[]⟩ [(x,u)])
  (hsp: ∀H:Hp,G5 H->SqL K H a (ns.map V.int)->sp [.ref a] H (λv _=>v = .bl true) λ_ _ _=>False)
  (hCX: ∀H e s',CX [] H s₁ (λ_ _ _=>False) e s'->False):
  jY (model P w) callerA (.call (.ref fa) ⟨[.ref a],[]⟩) (λr s'=>r = .ok (.ret (.bool true))/\OldK s₁.heap s'.heap/\s'.os=s₁.os/\AllBare s'.gens) s₁:=by
 have rv:=iR hi
 have lenV:=hi.length
 have core: ∀H:Hp,G5 H->SqL K H a (ns.map V.int)->HOk P w H s₁.heap->(∀b,H b≠none->b=a)->(H a≠none->K.lookup a=none) ->
   jY (model P w) callerA (.call (.ref fa) ⟨[.ref a],[]⟩) (λr s'=>r = .ok (.ret (.bool true))/\OldK s₁.heap s'.heap/\s'.os=s₁.os/\AllBare s'.gens) s₁:=by
  intro H hO hS hok hA hK
  have base_of: ∀{b:Addr}{o:Obj},s₁.heap.get? b=some o->H b=none->(nk s₁.heap H).get? b=some o:=λe n=>lY e n
  have noA: ∀{b:Addr}{o:Obj}{es:Array DictEntry}{ep:Nat},s₁.heap.get? b=some o->o.data = .dict es ep->H b=none:=λ{b o es ep} e d=>by
   cases q:H b with
   | none=>rfl
   | some u=>
     have e':b=a:=hA b (by rw[q];simp)
     subst e'
     rw[ha]at e;cases e
     have d':wZ vs.toArray _=Data.dict es ep:=d
     cases d'
  have nsK: ∀{b:Addr}{m:Str->Option Value},s₁.heap.Ns b m->(nk s₁.heap H).Ns b m:=λ{b m} ⟨o,es,ep,e,d,r⟩=>⟨o,es,ep,base_of e (noA e d),d,r⟩
  have hKb:K.In (nk s₁.heap H):=λb o e=>base_of (KX b o e) (by
   cases q:H b with
   | none=>rfl
   | some u=>
     have e':b=a:=hA b (by rw[q];simp)
     subst e'
     rw[hK (by rw[q];simp)]at e;cases e)
  have hM:Mod K mg (nk s₁.heap H):=⟨hKb,nsK hns,⟨mb,nsK hb,hbb⟩,let ⟨mc,h1,h2⟩:=hlim;⟨mc,nsK h1,h2⟩⟩
  have e0:sk P w K mg (nk s₁.heap H) callerA [] s₁ H:=⟨rfl,hM,λb o e=>uy e,kg (oG _ _),trivial,λb hb=>absurd (show b∈([]:List Addr) from hb) (by simp),hok,.of_eq hg⟩
  refine gK ((F _ hKb (nsK hns)).run callerA [] s₁ H ⟨[.ref a],[]⟩ [.ref a] [.ref a] _ _ hr e0 (hbind s₁ (.ref a)) (.cons rfl .nil) (hsp H hO hS)) λr s' h =>?_
  cases r with
  | error e=>exact(hCX H e s' h).elim
  | ok fl=>
    cases fl with
    | next=>exact bC h
    | brk=>exact bC h
    | cont=>exact bC h
    | ret u=>
      obtain⟨v,H',os,bare,un,hok',r',q⟩:=h
      have q':v = .bl true:=q
      subst q'
      obtain rfl:u=wL true:=r'
      refine⟨rfl,OldK.of_keep λb o e =>?_,os,bare⟩
      cases q:H b with
      | none=>exact un.keep b o e q (by intro z;exact absurd (show b∈([]:List Addr) from z) (by simp)) (by simp)
      | some u=>
        rcases hO b with z | ⟨ob,xs,z⟩
        ·rw[q]at z;cases z
        ·have z2:=un.frzs b ob _ z
         obtain⟨e1,_⟩:=hok b _ z
         obtain⟨e2,_⟩:=hok' b _ z2
         rw[e]at e1;cases e1
         exact e2
 cases hk:K.lookup a with
 | some o=>
   have e:=KX a o hk
   rw[ha]at e
   cases e
   refine core (λ_=>none) (λ_ => .inl rfl) (.inr ⟨_,vs.toArray,_,hk,rfl,rfl,rfl,by rw[aC,lenV];exact hl,by simpa using rv⟩) (λb u z=>by have z':(none:Option HO)=some u:=z;cases z') (λb z=>absurd rfl z) λz=>absurd rfl z
 | none=>
   refine core (fun b=>if b=a then some (.frz { cls := .type "list",data := .seq vs.toArray } (.lst (ns.map V.int))) else none) (fun b => ?_) (.inl (.inr ⟨{ cls := .type "list",data := .seq vs.toArray },if_pos rfl⟩)) (fun b u z => ?_) (fun b z => ?_) fun _=>hk
   ·by_cases hb:b=a
    ·exact .inr ⟨_,_,if_pos hb⟩
    ·exact .inl (if_neg hb)
   ·by_cases hb:b=a
    ·have z':=(if_pos hb).symm.trans z
     cases z'
     subst hb
     exact⟨ha,by rw[aE];exact hl,vs,_,rv,ha⟩
    ·have z':=(if_neg hb).symm.trans z
     cases z'
   ·by_cases hb:b=a
    ·exact hb
    ·exact absurd (if_neg hb) z
end _L
namespace _L
open PySem PySem.Spec PyProof.Rows
abbrev KOf{K:ah}{h:Heap}(_:K.In h):ah:=K
theorem Lm{l:je}{n k:Nat}{q:Program}{loose:List Str}{XP:(Str->Option Value)->Heap->Prop}{YP:World->Heap->Prop}{d:DefRec}{K:Params->ah}{CX:World->CXT}{sp:World->Sp}{x:Str}
  (hn:l.most=some n) (hn2:n<=sizeLine) (hdf:d.params.defaults = []) (hr:iG k callerA)
  (hY: ∀(w:World) (h:Heap),YP w h->(K w.params).In h)
  (F: ∀(w:World) (mg:Str->Option Value) (fa:Addr) (h:Heap),(K w.params).In h->h.Ns mainGlobals mg->mg d.name=some (.ref fa) ->
   ∃fd:FuncData,(∀(s:Shared) (u:Value),BindsTo s fd ⟨[u],[]⟩ [(x,u)]) /\
    ∀base:Heap,(K w.params).In base->base.Ns mainGlobals mg->gy l.prog w (K w.params) mg base (CX w) k fa fd [x] (sp w))
  (hsp: ∀(w:World) (H:Hp) (a:Addr) (ns:List Int),ns.length<=n->G5 H->SqL (K w.params) H a (ns.map V.int)->sp w [.ref a] H (λv _=>v = .bl true) λ_ _ _=>False)
  (hCX: ∀(w:World) (H:Hp) (s:Shared) (e:Value) (s':Shared),CX w [] H s (λ_ _ _=>False) e s'->False):
  wR q loose XP YP l.row.toRowW d [] (λf vs=>wQ f vs):=by
 refine Att.attach_call hn hdf λw s₀ s₁ mg mb fa o pm cd doc a vs ns G Y ho hd hcd hmg hobj hints hlen hg =>?_
 have KX:=hY w _ Y
 obtain⟨fd,hb,hF⟩:=F w mg fa _ KX G.T.g hmg
 exact BV KX G.T.g G.T.b G.T.builtins G.T.nolimit hg hobj hints (aB hlen hn2) hr hF hb (λH hO hS=>hsp w H a ns hlen hO hS) λH e s'=>hCX w H s₁ e s'
end _L
namespace _L
open PySem PySem.Spec PyProof.Rows
noncomputable def eA(s:Stmt):Arguments:=match s with
 | .FunctionDef _ a _ _ _ _ _ _ _ _=>a
 | _=>{ posonlyargs:= [],args:= [],vararg:=none,kwonlyargs:= [],kw_defaults:= [],kwarg:=none,defaults:= [] }
noncomputable def aM(s:Stmt):List Stmt:=match s with
 | .FunctionDef _ _ b _ _ _ _ _ _ _=>b
 | _ =>[]
noncomputable def aj(s:Stmt):Scope:=match s with
 | .FunctionDef _ _ _ _ _ _ sc _ _ _=>sc
 | _=>{ kind:= .function,names:= [],isGenerator:=false,isCoroutine:=false }
abbrev CX0:CXT:=λ_ _ _ _ _ _=>False
abbrev E0:XK:=λ_ _ _=>False
theorem tJ{X:Cx}:rk CX0 X E0:=λ_ _ _ _ _ _ _ h=>h.elim
structure Fun(K:ah)(x qual:Str)(st:Stmt)(f:Addr)(fd:FuncData):Prop where
 ex: ∃(oc:Value) (od:Option Addr) (kV doc pm:Value) (an:Option Addr) (cdv ct:Value) (osl:Array (Option Value)),
  fd=cb x qual (eA st) (aM st) (aj st) .none kV doc pm an cdv ct/\K.lookup f=some ⟨oc,od,.func fd,osl⟩/\fF K cdv qual=true
 kp:bP K (.ref f)=true
section
variable {P:Program}{w:World}{K:ah}{mg:Str->Option Value}{base:Heap}
theorem Fun.ok{x qual:Str}{st:Stmt}{f:Addr}{fd:FuncData}{N ps:List Str}{k:Nat}{sp:Sp}(F:Fun K x qual st f fd)(S:aV N ps (aj st))(len: ∀vs H Q E,sp vs H Q E->vs.length=ps.length)
  (hbody: ∀(cdv:Value) (A:Around) (outer:List Env) (s:Shared) (H:Hp) (vs:List V) (Q:VK) (E:XK),iG k (A.deeper (envOfC qual (aj st) s.heap.objs.size f cdv))->sp vs H Q E ->
   ∃t,PSs (qH CX0 P w K mg base N qual (aj st) f cdv A outer s H E).nox (aM st) t/\t { nx:=λ_ H'=>Q .non H',rt:=Q } (start N vs) H):gy P w K mg base CX0 (k+1) f fd ps sp:=by
 obtain⟨oc,od,kV,doc,pm,an,cdv,ct,osl,rfl,lk,hcd⟩:=F.ex
 refine vS lk hcd S len λA outer s H vs Q E hr hsp =>?_
 obtain⟨t,h,q⟩:=hbody cdv A outer s H vs Q E hr hsp
 exact⟨t,h.nox,q⟩
theorem Fun.binds{x qual:Str}{st:Stmt}{f:Addr}{fd:FuncData}{ps:List Str}(F:Fun K x qual st f fd)
  (h: ∀(kV doc pm:Value) (an:Option Addr) (cdv ct:Value) (us:List Value),us.length=ps.length->bindArgs (cb x qual (eA st) (aM st) (aj st) .none kV doc pm an cdv ct) ⟨us,[]⟩=pure (ps.zip us)):Binds K fd ps []:=by
 obtain⟨oc,od,kV,doc,pm,an,cdv,ct,osl,rfl,lk,hcd⟩:=F.ex
 exact .all (h kV doc pm an cdv ct)
theorem BN{x qual:Str}{st:Stmt}{f:Addr}{oc:Value}{od an:Option Addr}{osl:Array (Option Value)}{kV doc pm cdv ct:Value}(l:K.lookup f=some ⟨oc,od,.func (cb x qual (eA st) (aM st) (aj st) .none kV doc pm an cdv ct),osl⟩)
  (c:fF K cdv qual=true) (k:bP K (.ref f)=true):Fun K x qual st f (cb x qual (eA st) (aM st) (aj st) .none kV doc pm an cdv ct):=⟨⟨oc,od,kV,doc,pm,an,cdv,ct,osl,rfl,l,c⟩,k⟩
end
section
variable {X:Cx}
theorem pv (i:Nat) {x:Str}{pos:Pos} (hN:autoParam (X.N[i]? = some x) au1._auto_1) (hv:Vis X.env.scope x:=by first | exact Or.inl rfl | exact Or.inr (Or.inl rfl) | exact Or.inr (Or.inr rfl)) (hd:autoParam ((x == ("__debug__":Str))=false) au2._auto_1)
  (hcd:autoParam ((x == ("__classdict__":Str))=false) au2._auto_1):PE X (.Name x pos) (EO i):=mY hN hv hd hcd
end
theorem Lz{A B:Prop}(h:B):if false=true then A else B:=by
 rw[if_neg bE]
 exact h
theorem Lo{A B:Prop}(h:A):if true=true then A else B:=by
 rw[if_pos rfl]
 exact h
noncomputable def rS(H H':Hp):Prop:= ∀b o,H b=some o->H' b=some o
theorem rS.refl(H:Hp):rS H H:=λ_ _ h=>h
theorem rS.trans{H H1 H2:Hp}(a:rS H H1)(b:rS H1 H2):rS H H2:=λc o h=>b c o (a c o h)
theorem rS.free{H H':Hp}(e:rS H H'){l:Addr}(h:H' l=Option.none):H l=Option.none:=by
 cases q:H l with
 | none=>rfl
 | some o=>
   rw[e l o q]at h
   cases h
theorem rS.seq{K:ah}{H H':Hp}{a:Addr}{xs:List V}(e:rS H H')(h:SqL K H a xs):SqL K H' a xs:=by
 rcases h with (h | ⟨o,h⟩) |h
 ·exact .inl (.inl (e _ _ h))
 ·exact .inl (.inr ⟨o,e _ _ h⟩)
 ·exact .inr h
end _L
end
section
namespace PySem
namespace GR
noncomputable def qI (h:Heap) (a t:Addr) (i:Int):Prop := ∃ o,h.get? a=some o/\o.cls = .type "reversed"/\o.data = .fields #[.ref t,rawInt i]
theorem qI.typeIs {s:Shared}{a t:Addr}{i:Int} (x:qI s.heap a t i):s.TypeIs (.ref a) "reversed":=let ⟨o,ho,hc,_⟩:=x;⟨o,ho,hc⟩
theorem qI.at{h h':Heap}{a t:Addr}{i:Int}(x:qI h a t i)(e: ∀o,h.get? a=some o->h'.get? a=some o):qI h' a t i:=let ⟨o,ho,r⟩:=x;⟨o,e _ ho,r⟩
open PyProof.Rows in
section
variable {prog:Program}{w:World}{A:Around}{E:Value->Shared->Prop}{s:Shared}
open PyProof.Rows
end
end GR
end PySem
namespace _L
open PySem PySem.Spec PyProof.Rows
section
variable {X:Cx}{tg:Expr}
end
end _L
end
section
namespace PySem
namespace GE
open AutoSeq1 (wpAny_loadPart')
section
variable {prog:Program}{w:World}{A:Around}{E:Value->Shared->Prop}{s:Shared}
end
end GE
end PySem
namespace _L
open PySem PySem.Spec PyProof.Rows
section
variable {X:Cx}
end
end _L
end
section
namespace PySem
namespace GE
section
variable {prog:Program}{w:World}{A:Around}{E:Value->Shared->Prop}{s:Shared}
noncomputable def qW:Bool->Heap->Addr->Addr->Nat->Prop
 | true,h,i,l,k=>h.IsListIter i l k
 | false,h,i,l,k=>h.IsTupleIter i l k
noncomputable def Bs:Bool->Heap->Addr->Array Value->Prop
 | true,h,l,xs=>h.IsList l xs
 | false,h,l,xs=>h.IsTuple l xs
theorem Ij{b:Bool}{h h':Heap}{i l:Addr}{k:Nat}(x:qW b h i l k)(f: ∀o,h.get? i=some o->h'.get? i=some o):qW b h' i l k:=by
 cases b <;> (obtain⟨o,e,r⟩:=x;exact⟨o,f o e,r⟩)
theorem qW.extBut{b:Bool}{h h':Heap}{i l c:Addr}{k:Nat}(x:qW b h i l k)(f:CU c h h')(n:i≠c):qW b h' i l k:=Ij x λo e=>f _ o n e
theorem Bs.extBut{b:Bool}{h h':Heap}{l c:Addr}{xs:Array Value}(x:Bs b h l xs)(f:CU c h h')(n:l≠c):Bs b h' l xs:=by
 cases b <;> (obtain⟨o,e,r⟩:=x;exact⟨o,f _ o n e,r⟩)
theorem qW.lt{b:Bool}{h:Heap}{i l:Addr}{k:Nat}(x:qW b h i l k):i<h.objs.size:=by
 cases b <;> (obtain⟨o,e,_⟩:=x;exact aG e)
end
section
variable {prog:Program}{w:World}{A:Around}{E:Value->Shared->Prop}{s:Shared}
end
end GE
end PySem
namespace _L
open PySem PySem.Spec PyProof.Rows
section
variable {X:Cx}
end
end _L
end
section
namespace _L
open PySem PySem.Spec PyProof.Rows
section
variable {κ:Type} [DecidableEq κ]
noncomputable def lK(kvs:List (κ×V))(k:κ):Option V:=(kvs.find? λkv=>decide (kv.1=k)).map (·.2)
noncomputable def putK(kvs:List (κ×V))(k:κ)(v:V):List (κ×V):=
 if (kvs.any λkv=>decide (kv.1=k))=true then kvs.map (λkv=>if kv.1=k then(kv.1,v) else kv) else kvs++[(k,v)]
noncomputable def FL(kvs:List (κ×V))(k:κ):List (κ×V):=kvs.filter λkv=>decide (kv.1≠k)
theorem lX{p:κ×V}{r:List (κ×V)}{k:κ}(e:p.1=k):lK (p::r) k=some p.2:=by simp[lK,dn,e]
theorem lO{p:κ×V}{r:List (κ×V)}{k:κ}(e: ¬p.1=k):lK (p::r) k=lK r k:=by simp[lK,dn,e]
theorem vZ(k:κ): ∀kvs:List (κ×V),(kvs.any λkv=>decide (kv.1=k))=(lK kvs k).isSome
 | []=>rfl
 | p::r=>by
   rw[gI]
   by_cases e:p.1=k
   ·simp only[lX e,decide_eq_true e,Bool.true_or,CV]
   ·rw[lO e,decide_eq_false e,Bool.false_or];exact vZ k r
theorem o4(kvs:List (κ×V))(k:κ)(v:V):(putK kvs k v).length<=kvs.length+1:=by
 unfold putK
 split
 ·rw[aE];exact bY _
 ·rw[bg,dv,ft];exact ak _
theorem om.isSome_eq{o:Option V}{u:Option Value}(r:om o u):o.isSome=u.isSome:=by
 cases o with
 | none=>cases u with
   | none=>rfl
   | some _=>exact(show False from r).elim
 | some _=>cases u with
   | none=>exact(show False from r).elim
   | some _=>rfl
theorem om.getD{o:Option V}{u:Option Value}{d:V}{d':Value}(r:om o u)(rd:RelV d d'):RelV (o.getD d) (u.getD d'):=by
 cases o with
 | none=>cases u with
   | none=>exact rd
   | some _=>exact(show False from r).elim
 | some _=>cases u with
   | none=>exact(show False from r).elim
   | some _=>exact r
theorem KV.val{kvs:List (κ×V)}{vs:List (κ×Value)}(r:KV kvs vs)(k:κ):om (lK kvs k) (valueAt vs k):=by
 unfold KV at r
 induction r with
 | nil=>exact qi
 | @cons p q ps qs h t ih=>
   obtain⟨h1,h2⟩:=h
   by_cases e:p.1=k
   ·have e':q.1=k:=h1.symm.trans e
    have b:valueAt (q::qs) k=some q.2:=by simp[valueAt,dn,e']
    rw[lX e,b];exact h2
   ·have e': ¬q.1=k:=λz=>e (h1.trans z)
    have b:valueAt (q::qs) k=valueAt qs k:=by simp[valueAt,dn,e']
    rw[lO e,b];exact ih
theorem KV.any{kvs:List (κ×V)}{vs:List (κ×Value)}(r:KV kvs vs)(k:κ):(kvs.any λkv=>decide (kv.1=k))=vs.any λkv=>decide (kv.1=k):=by
 unfold KV at r
 induction r with
 | nil=>rfl
 | cons h t ih=>rw[gI,gI,ih,h.1]
theorem KV.repl{kvs:List (κ×V)}{vs:List (κ×Value)}(r:KV kvs vs)(k:κ){y:V}{u:Value}(ry:RelV y u):
  KV (kvs.map λkv=>if kv.1=k then(kv.1,y) else kv) (vs.map λkv=>if kv.1=k then(kv.1,u) else kv):=by
 unfold KV at r ⊢
 induction r with
 | nil=>exact .nil
 | @cons p q ps qs h t ih=>
   rw[bD,bD]
   refine .cons ?_ ih
   obtain⟨h1,h2⟩:=h
   by_cases e:p.1=k
   ·rw[if_pos e,if_pos (h1.symm.trans e)];exact⟨h1,ry⟩
   ·rw[if_neg e,if_neg (λz=>e (h1.trans z))];exact⟨h1,h2⟩
theorem KV.put{kvs:List (κ×V)}{vs:List (κ×Value)}(r:KV kvs vs)(k:κ){y:V}{u:Value}(ry:RelV y u):KV (putK kvs k y) (stored vs k u):=by
 unfold putK stored
 rw[r.any k]
 by_cases e:(vs.any λkv=>decide (kv.1=k))=true
 ·rw[if_pos e,if_pos e];exact r.repl k ry
 ·rw[if_neg e,if_neg e];exact Paired.snoc r ⟨rfl,ry⟩
theorem KV.drop{kvs:List (κ×V)}{vs:List (κ×Value)}(r:KV kvs vs)(k:κ):KV (FL kvs k) (without vs k):=by
 unfold KV at r ⊢
 unfold FL without
 induction r with
 | nil=>exact .nil
 | @cons p q ps qs h t ih=>
   obtain⟨h1,h2⟩:=h
   rw[List.filter_cons,List.filter_cons]
   by_cases e:p.1=k
   ·have a: ¬decide (p.1≠k)=true:=by simp[e]
    have b: ¬decide (q.1≠k)=true:=by simp[h1.symm.trans e]
    rw[if_neg a,if_neg b];exact ih
   ·have e': ¬q.1=k:=λz=>e (h1.trans z)
    have a:decide (p.1≠k)=true:=by simp[e]
    have b:decide (q.1≠k)=true:=by simp[e']
    rw[if_pos a,if_pos b];exact .cons ⟨h1,h2⟩ ih
theorem KV.keys{kvs:List (κ×V)}{vs:List (κ×Value)}(r:KV kvs vs):kvs.map (·.1)=vs.map (·.1):=by
 unfold KV at r
 induction r with
 | nil=>rfl
 | cons h t ih=>rw[bD,bD,ih,h.1]
theorem KV.length{kvs:List (κ×V)}{vs:List (κ×Value)}(r:KV kvs vs):kvs.length=vs.length:=wY r
end
theorem yZ{P:Program}{w:World}{k:Key}{u:Value}(r:RelV (kV k) u):(fw P w).is k u=true:=by
 cases k with
 | inl i=>obtain⟨t,e⟩:=(show ∃t,u=zk i t from r);subst e;exact v8 P w i t
 | inr x=>obtain⟨t,e⟩:=(show ∃t,u=zl x t from r);subst e;exact wc P w x t
theorem tH{P:Program}{w:World}: ∀{ks:List Key}{us:List Value},bK (ks.map kV) us->ItemsAre (fw P w) ks us
 | [],_,r=>by rw[mT]at r;cases r;exact .nil
 | k::ks,_,r=>by
   rw[bD]at r
   cases r with
   | cons h t=>exact .cons (yZ h) (tH t)
abbrev KT(H:Hp):List (List Key×V)->List (List Key×Addr×Value)->Prop:=Paired λp q=>p.1=q.1/\H q.2.1=some (.tup (p.1.map kV))/\RelV p.2 q.2.2
theorem KT.val{H:Hp}{kvs:List (List Key×V)}{xs:List (List Key×Addr×Value)}(r:KT H kvs xs)(k:List Key):om (lK kvs k) ((atKey xs k).map (·.2)):=by
 induction r with
 | nil=>exact qi
 | @cons p q ps qs h t ih=>
   obtain⟨h1,_,h2⟩:=h
   by_cases e:p.1=k
   ·have e':q.1=k:=h1.symm.trans e
    have b:atKey (q::qs) k=some q.2:=by simp[atKey,dn,e']
    rw[lX e,b];exact h2
   ·have e': ¬q.1=k:=λz=>e (h1.trans z)
    have b:atKey (q::qs) k=atKey qs k:=by simp[atKey,dn,e']
    rw[lO e,b];exact ih
theorem KT.repl{H:Hp}{kvs:List (List Key×V)}{xs:List (List Key×Addr×Value)}(r:KT H kvs xs)(k:List Key){y:V}{u:Value}(ry:RelV y u):
  KT H (kvs.map λkv=>if kv.1=k then(kv.1,y) else kv) (xs.map (putAt k u)):=by
 induction r with
 | nil=>exact .nil
 | @cons p q ps qs h t ih=>
   rw[bD,bD]
   refine .cons ?_ ih
   obtain⟨h1,h2,h3⟩:=h
   unfold putAt
   by_cases e:p.1=k
   ·rw[if_pos e,if_pos (h1.symm.trans e)];exact⟨h1,h2,ry⟩
   ·rw[if_neg e,if_neg (λz=>e (h1.trans z))];exact⟨h1,h2,h3⟩
theorem KT.put{H:Hp}{kvs:List (List Key×V)}{xs:List (List Key×Addr×Value)}(r:KT H kvs xs)(k:List Key){b:Addr}{y:V}{u:Value}(hb:H b=some (.tup (k.map kV)))(ry:RelV y u):
  KT H (putK kvs k y) (storedH xs k b u):=by
 have e:(kvs.any λkv=>decide (kv.1=k))=(atKey xs k).isSome:=by
  rw[vZ,(r.val k).isSome_eq,Option.isSome_map]
 unfold putK storedH
 rw[e]
 by_cases q:(atKey xs k).isSome=true
 ·rw[if_pos q,if_pos q];exact r.repl k ry
 ·rw[if_neg q,if_neg q];exact Paired.snoc r ⟨rfl,hb,ry⟩
theorem KT.keeps{H H':Hp}{kvs:List (List Key×V)}{xs:List (List Key×Addr×Value)}(r:KT H kvs xs)(ht: ∀b ys,H b=some (.tup ys)->H' b=some (.tup ys)):KT H' kvs xs:=
 Paired.mapP r λ_ _ z=>⟨z.1,ht _ _ z.2.1,z.2.2⟩
section
variable {P:Program}{w:World}{H:Hp}{h:Heap}{a:Addr}
theorem Fq{u:HO}(ok:HOk P w H h)(e:Rd H a u):eZ P w H h a u:=e.ok ok
theorem ve{kvs:List (Key×V)}(ok:HOk P w H h)(e:Rd H a (.dK kvs)):kvs.length<=sizeLine/\(a==sysModules)=false /\ ∃vs,KV kvs vs/\h.DictOf (fw P w) a vs:=
 show eZ P w H h a (.dK kvs) from Fq ok e
theorem JP{kvs:List (Key×V)}(ok:HOk P w H h)(e:H a=some (.dK kvs)):kvs.length<=sizeLine/\(a==sysModules)=false /\ ∃vs,KV kvs vs/\h.DictOf (fw P w) a vs:=ve ok (.inl e)
theorem uj{ks:List Key}(ok:HOk P w H h)(e:H a=some (.tup (ks.map kV))):(tupleKind (fw P w)).is h ks a:=by
 obtain⟨_,its,r,⟨o,h1,h2,n,h3⟩,_⟩:=(show eZ P w H h a (.tup (ks.map kV)) from ok a _ e)
 exact⟨o,its.toArray,n,h1,h2,h3,by simpa using tH r⟩
theorem yV{kvs:List (List Key×V)}(ok:HOk P w H h)(e:Rd H a (.dT kvs)):kvs.length<=sizeLine/\(a==sysModules)=false /\
  ∃xs,KT H kvs xs/\h.DictOfH (tupleKind (fw P w)) a xs:=by
 obtain⟨z,y,xs,r,o,es,ep,h1,h2,h3,h4,h5⟩:=(show eZ P w H h a (.dT kvs) from Fq ok e)
 refine⟨z,y,xs,r,o,es,ep,h1,h2,h3,h4,λx hx =>?_,h5⟩
 have all: ∀{l:List (List Key×V)}{m:List (List Key×Addr×Value)},KT H l m -> ∀x∈m,(tupleKind (fw P w)).is h x.1 x.2.1:=by
  intro l m q
  induction q with
  | nil=>intro x hx;exact nomatch hx
  | @cons p q ps qs hq t ih=>
    intro x hx
    rcases aX.mp hx with e |hx
    ·subst e
     exact uj ok (by rw[<- hq.1];exact hq.2.1)
    ·exact ih x hx
 exact all r x hx
theorem Ld{kvs:List (List Key×V)}(ok:HOk P w H h)(e:H a=some (.dT kvs)):kvs.length<=sizeLine/\(a==sysModules)=false /\
  ∃xs,KT H kvs xs/\h.DictOfH (tupleKind (fw P w)) a xs:=yV ok (.inl e)
end
noncomputable def t8(H:Hp)(a:Addr)(y:V)(r:Option V):Prop:=
 (∃kvs k,Rd H a (.dK kvs)/\y=kV k/\r=lK kvs k) \/ ∃kvs k b,Rd H a (.dT kvs)/\y = .ref b/\H b=some (.tup (k.map kV))/\r=lK kvs k
noncomputable def zv(H:Hp)(a:Addr)(y v:V)(H':Hp):Prop:=
 (∃kvs k,H a=some (.dK kvs)/\y=kV k/\kvs.length<sizeLine/\H'=upd H a (.dK (putK kvs k v))) \/
 ∃kvs k b,H a=some (.dT kvs)/\y = .ref b/\H b=some (.tup (k.map kV))/\kvs.length<sizeLine/\H'=upd H a (.dT (putK kvs k v))
theorem t8.k{H:Hp}{a:Addr}{kvs:List (Key×V)}{k:Key}(e:H a=some (.dK kvs)):t8 H a (kV k) (lK kvs k):= .inl ⟨kvs,k,.inl e,rfl,rfl⟩
theorem t8.t{H:Hp}{a b:Addr}{kvs:List (List Key×V)}{k:List Key}(e:H a=some (.dT kvs))(eb:H b=some (.tup (k.map kV))):t8 H a (.ref b) (lK kvs k):= .inr ⟨kvs,k,b,.inl e,rfl,eb,rfl⟩
theorem zv.k{H:Hp}{a:Addr}{kvs:List (Key×V)}{k:Key}{v:V}(e:H a=some (.dK kvs))(hl:kvs.length<sizeLine):zv H a (kV k) v (upd H a (.dK (putK kvs k v))):= .inl ⟨kvs,k,e,rfl,hl,rfl⟩
theorem zv.t{H:Hp}{a b:Addr}{kvs:List (List Key×V)}{k:List Key}{v:V}(e:H a=some (.dT kvs))(eb:H b=some (.tup (k.map kV)))(hl:kvs.length<sizeLine):
  zv H a (.ref b) v (upd H a (.dT (putK kvs k v))):= .inr ⟨kvs,k,b,e,rfl,eb,hl,rfl⟩
section
variable {X:Cx}{pins:List (Addr×Obj)}{σ:St}{H:Hp}{s:Shared}{a:Addr}{y v:V}{u r:Value}{o:Option V}{A:Around}{E:Value->Shared->Prop}
theorem Inv.big(I:Inv X pins σ H s):sysModules<s.heap.objs.size:=by
 have h:mainGlobals<s.heap.objs.size:=(I.mod.glob.keeps I.bk).lt
 exact dz (by decide) h
theorem zB{Q:Value->Shared->Prop}(hu:A.units+1<cLine)(I:Inv X pins σ H s)(g:t8 H a y (some v))(ry:RelV y u)(h: ∀w' s',Inv X pins σ H s'->RelV v w'->Q w' s'):
  aR (model X.prog X.w) A (getItem (.ref a) u) Q E s:=by
 rcases g with⟨kvs,k,e,ey,l⟩ | ⟨kvs,k,b,e,ey,eb,l⟩
 ·subst ey
  obtain⟨z,hd,vs,rel,dd⟩:=ve I.hok e
  obtain⟨w',hw,rw'⟩:=om.some_of (v:=v) (o:=valueAt vs k) (by rw[l];exact rel.val k)
  exact wpAny_getItem_of (yZ ry) dd.mapOf hw (h w' _ (I.tok _) rw')
 ·subst ey
  cases (show u=bH b from ry)
  obtain⟨z,hd,xs,rel,dd⟩:=yV I.hok e
  obtain⟨w',hw,rw'⟩:=om.some_of (v:=v) (o:=(atKey xs k).map (·.2)) (by rw[l];exact rel.val k)
  obtain⟨p,hp,hp2⟩:=Option.map_eq_some_iff.mp hw
  refine wpAny_getItem_heap (tupleKind_room_in1 hu) (uj I.hok eb) dd hp ?_
  rw[hp2]
  exact h w' _ (I.tok _) rw'
theorem LF{Q:Value->Shared->Prop}(hu:A.units+1<cLine)(I:Inv X pins σ H s)(g:t8 H a y o)(ry:RelV y u)(h: ∀s',Inv X pins σ H s'->Q (.bool o.isSome) s'):
  aR (model X.prog X.w) A (compareOp .In u (.ref a)) Q E s:=by
 rcases g with⟨kvs,k,e,ey,l⟩ | ⟨kvs,k,b,e,ey,eb,l⟩
 ·subst ey
  obtain⟨z,hd,vs,rel,dd⟩:=ve I.hok e
  refine wpAny_in_of (yZ ry) hd dd.mapOf ?_
  rw[<- (rel.val k).isSome_eq,<- l]
  exact h _ (I.tok _)
 ·subst ey
  cases (show u=bH b from ry)
  obtain⟨z,hd,xs,rel,dd⟩:=yV I.hok e
  refine wpAny_in_heap (tupleKind_room_in1 hu) (uj I.hok eb) hd dd ?_
  have q:=(rel.val k).isSome_eq
  rw[Option.isSome_map]at q
  rw[<- q,<- l]
  exact h _ (I.tok _)
theorem yO{h':Heap}{t':Nat}{ob:HO}(I:Inv X pins σ H s)(mu:Mut (H a))(hs:Ay a s.heap h')(he: ∃q,h'.get? a=some q)(new:eZ X.prog X.w (upd H a ob) h' a ob):
  Inv X pins σ (upd H a ob) { s with heap:=h',toks:=t' }:=
 I.write (x:=a) (e:=a) mu (.inl rfl) (λb q hb z=>(hs.2 b hb).trans z) he new
theorem Hz{P:Program}{w:World}{H':Hp}{h':Heap}{kvs:List (Key×V)}{vs:List (Key×Value)}(z:kvs.length<=sizeLine)(hd:(a==sysModules)=false)(rel:KV kvs vs)(dd:h'.DictOf (fw P w) a vs):
  eZ P w H' h' a (.dK kvs):=⟨z,hd,vs,rel,dd⟩
theorem z0{H':Hp}{Q:Unit->Shared->Prop}(hu:A.units+1<cLine)(I:Inv X pins σ H s)(g:zv H a y v H')(ry:RelV y u)(rv:RelV v r)(h: ∀s',Inv X pins σ H' s'->Q () s'):
  aR (model X.prog X.w) A (setItem (.ref a) u r) Q E s:=by
 rcases g with⟨kvs,k,e,ey,l,eH⟩ | ⟨kvs,k,b,e,ey,eb,l,eH⟩
 ·subst ey eH
  obtain⟨z,hd,vs,rel,dd⟩:=JP I.hok e
  have hz:vs.length<=sizeLine:=by rw[<- rel.length];exact z
  have hl:(putK kvs k v).length<=sizeLine:=by have:=o4 kvs k v;exact aB (by assumption) (by assumption)
  refine wpAny_setItem_pairs (hsz:=hz) (yZ ry) dd λh' dd' hs=>h _ ?_
  have he: ∃q,h'.get? a=some q:=let ⟨q,_,_,hq,_⟩:=dd';⟨q,hq⟩
  exact yO I (by rw[e];exact qi) hs he (Hz hl hd (rel.put k rv) dd')
 ·subst ey eH
  cases (show u=bH b from ry)
  obtain⟨z,hd,xs,rel,dd⟩:=Ld I.hok e
  have hz:xs.length<=sizeLine:=by rw[<- wY rel];exact z
  have hl:(putK kvs k v).length<=sizeLine:=by have:=o4 kvs k v;exact aB (by assumption) (by assumption)
  refine wpAny_setItem_heap (hsz:=hz) (tupleKind_room_in1 hu) (uj I.hok eb) dd λh' dd' hs=>h _ ?_
  obtain⟨q,es,ep,hq,h2,h3,h4,_,h5⟩:=dd'
  refine yO I (by rw[e];exact qi) hs ⟨q,hq⟩ ⟨hl,hd,_,(rel.put k eb rv).keeps λc ys ec =>?_,q,es,ep,hq,h2,h3,h4,h5⟩
  rw[aZ (og ec e (λz=>nomatch z))]
  exact ec
end
section
variable {X:Cx}{pins:List (Addr×Obj)}{σ:St}{H:Hp}{s:Shared}{a:Addr}{kvs:List (Key×V)}{k:Key}{u:Value}{A:Around}{E:Value->Shared->Prop}
theorem BJ {Q:Value->Shared->Prop} (I:Inv X pins σ H s) (e:Rd H a (.dK kvs)) (h : ∀ t s',Inv X pins σ H s'->Q (.int kvs.length t) s'):aR (model X.prog X.w) A (call (.builtin "len") [.ref a]) Q E s:=by
 obtain⟨z,hd,vs,rel,dd⟩:=ve I.hok e
 refine call_len_dict hd dd (by rw[<- rel.length];rw[sizeLine_eq]at z;omega) ?_
 rw[<- rel.length]
 exact h _ _ (I.tok _)
end
theorem vg {X:Cx}{pins:List (Addr×Obj)}{σ:St}{H:Hp}{s:Shared}{a:Addr}{y:V}{o:Option V} (I:Inv X pins σ H s) (g:t8 H a y o):s.TypeIs (.ref a) "dict":=by
 rcases g with⟨kvs,k,e,_,_⟩ | ⟨kvs,k,b,e,_,_,_⟩
 ·obtain⟨_,_,vs,_,dd⟩:=ve I.hok e
  exact dd.typeIs
 ·obtain⟨_,_,xs,_,dd⟩:=yV I.hok e
  exact dd.typeIs
section
variable {X:Cx}{o i e value:Expr}{pos pos' tpos:Pos}{td ty tv:TE}
end
section
variable {X:Cx}{pos:Pos}
end
structure M1(X:Cx)(o:Expr)(m:Str)(apos:Pos)(e:Expr)(cpos:Pos):Prop where
 base:attributeBase o m X.env (eval o X.env)=eval o X.env
 few:((backTo cpos (starEach [e] X.env)).all (λx => !x.1)&&(backToKw cpos (keywordEach [] X.env)).all (λx=>x.1.isSome)
  && decide (([e]:List Expr).length+([]:List Keyword).length+(if ([]:List Keyword).isEmpty then 0 else 1)<30))=true
 line:(apos.endLine==cpos.line)=true
 trees:backTo cpos (starEach [e] X.env) = [(false,eval e X.env)]
structure M2(X:Cx)(o:Expr)(m:Str)(apos:Pos)(e f:Expr)(cpos:Pos):Prop where
 base:attributeBase o m X.env (eval o X.env)=eval o X.env
 few:((backTo cpos (starEach [e,f] X.env)).all (λx => !x.1)&&(backToKw cpos (keywordEach [] X.env)).all (λx=>x.1.isSome)
  && decide (([e,f]:List Expr).length+([]:List Keyword).length+(if ([]:List Keyword).isEmpty then 0 else 1)<30))=true
 line:(apos.endLine==cpos.line)=true
 trees:backTo cpos (starEach [e,f] X.env) = [(false,eval e X.env),(false,eval f X.env)]
section
variable {X:Cx}{pins:List (Addr×Obj)}{σ:St}{H:Hp}{s:Shared}{a:Addr}{y d:V}{u r:Value}{o:Option V}{A:Around}{E:Value->Shared->Prop}
end
section
variable {X:Cx}{o e f:Expr}{apos cpos:Pos}{td ty tx:TE}
end
section
variable {X:Cx}{pins:List (Addr×Obj)}{σ:St}{H:Hp}{s:Shared}{a:Addr}{kvs:List (Key×V)}{A:Around}{E:Value->Shared->Prop}
end
section
variable {X:Cx}{pins:List (Addr×Obj)}{σ:St}{H:Hp}{s:Shared}{a:Addr}{y:V}{u:Value}{A:Around}{E:Value->Shared->Prop}
end
end _L
namespace _L
open PySem PySem.Spec PyProof.Rows
section
variable {X:Cx}
theorem zV:iJ X (.builtin "len") (fun xs H Q => ∃ a kvs,xs = [V.ref a]/\H a=some (.dK kvs)/\Q (.int kvs.length) H):=by
 intro pins s σ H xs us Q I r h
 obtain⟨a,kvs,rfl,ha,q⟩:=h
 obtain⟨u,rfl,ru⟩:=vals1 r
 cases ru
 exact BJ I (.inl ha) λt s' I'=>⟨.int kvs.length,H,I',⟨t,rfl⟩,q⟩
end
section
variable {κ:Type} [DecidableEq κ]
end
end _L
end
section
namespace PySem
open Sem (wp)
noncomputable def ji(env:Env):List (Str×NameKind)->List (Str×Addr)->List (Str×Addr)
 | [],acc=>acc
 | (n,k)::r,acc=>if k==.free then ji env r ((n,(env.cells.lookup n).getD 0)::acc) else ji env r acc
theorem kE{scope:Scope}{env:Env}(h: ∀y∈scope.names,y.2 = .free -> ∃c,env.cells.lookup y.1=some c):closureFor scope env=pure (ji env scope.names []):=by
 simp only[closureFor]
 have go: ∀(names:List (Str×NameKind)) (acc:List (Str×Addr)),(∀y∈names,y.2 = .free -> ∃c,env.cells.lookup y.1=some c) ->
   (forIn (m:=Sem) names acc λx r=>if (x.2==aN)=true then cellOf env x.1 >>= λa=>pure (de ((x.1,a)::r)) else pure (de r))=pure (ji env names acc):=by
  intro names
  induction names with
  | nil=>intro acc _;rfl
  | cons y r ih=>
    intro acc hy
    obtain⟨n,k⟩:=y
    rw[jE]
    by_cases hk:k = .free
    ·subst hk
     obtain⟨c,hc⟩:=hy (n,.free) aP rfl
     have e1:cellOf env n=pure c:=by unfold cellOf;rw[hc]
     have e2:ji env ((n,aN)::r) acc=ji env r ((n,c)::acc):=by
      show(if (aN==aN)=true then _ else _)=_
      rw[if_pos (by decide),hc];rfl
     rw[e2,<- ih _ λz hz=>hy z (aw _ hz)]
     simp only[beq_self_eq_true,if_true,e1]
     rfl
    ·have hb:(k==aN)=false:=by simpa using hk
     have e2:ji env ((n,k)::r) acc=ji env r acc:=by
      show(if (k==aN)=true then _ else _)=_
      rw[if_neg (by rw[hb];decide)]
     rw[e2,<- ih _ λz hz=>hy z (aw _ hz)]
     simp only[hb,gL,if_false]
     rfl
 exact(congrArg (λz=>z >>= pure) (go scope.names [] h)).trans rfl
theorem ot{env:Env}: ∀(names:List (Str×NameKind)) (acc:List (Str×Addr)),(∀y∈names,y.2 = .free -> ∃c,env.cells.lookup y.1=some c) -> ∀x c,(ji env names acc).lookup x=some c->env.cells.lookup x=some c\/acc.lookup x=some c
 | [],_,_,_,_,h => .inr h
 | (n,k)::r,acc,hy,x,c,h=>by
   unfold ji at h
   split at h
   ·rename_i hk
    have hk':k = .free:=by simpa using hk
    subst hk'
    obtain⟨d,hd⟩:=hy (n,.free) aP rfl
    rcases ot r _ (λz hz=>hy z (aw _ hz)) x c h with e |e
    ·exact .inl e
    ·rw[aF]at e
     cases hb:x==n with
     | true=>
       rw[hb]at e
       rw[beq_iff_eq.mp hb,hd]
       rw[hd]at e
       exact .inl e
     | false=>rw[hb]at e;exact .inr e
   ·exact ot r acc (λz hz=>hy z (aw _ hz)) x c h
theorem nE{env:Env}{x:Str}: ∀(names:List (Str×NameKind)) (acc:List (Str×Addr)),(names.lookup x=some .free\/(acc.lookup x).isSome=true)->((ji env names acc).lookup x).isSome=true
 | [],_,h=>h.elim (λe=>by cases e) id
 | (y,k)::r,acc,h=>by
   unfold ji
   by_cases hk:(k==.free)=true
   ·rw[if_pos hk]
    refine nE r ((y,(env.cells.lookup y).getD 0)::acc) ?_
    by_cases hy:(x==y)=true
    ·exact .inr (by rw[aF,hy];rfl)
    ·refine h.imp (λe =>?_) λe =>?_
     ·rw[aF]at e;simpa only [hy]using e
     ·rw[aF];simpa only [hy]using e
   ·rw[if_neg hk]
    refine nE r acc ?_
    refine h.imp (λe =>?_) id
    rw[aF]at e
    cases hb:x==y with
    | true=>rw[hb]at e;cases e;exact absurd rfl hk
    | false=>rw[hb]at e;exact e
theorem eD: ∀(names:List (Str×NameKind)) (n:Nat) (acc:List (Str×Addr)),cellsFrom n names acc=cellsFrom n names []++acc
 | [],_,_=>rfl
 | (y,k)::r,n,acc=>by
   unfold cellsFrom
   split
   ·rw[eD r (n+1) ((y,n)::acc),eD r (n+1) [(y,n)],be];rfl
   ·exact eD r n acc
theorem jG{x:Str}: ∀(names:List (Str×NameKind)) (n:Nat) (acc:List (Str×Addr)) (c:Addr),(cellsFrom n names acc).lookup x=some c->(∃k∈names,k.1=x/\k.2 = .cell)\/acc.lookup x=some c
 | [],_,_,_,h => .inr h
 | (y,k)::r,n,acc,c,h=>by
   unfold cellsFrom at h
   split at h
   ·rename_i hk
    rcases jG r _ _ c h with⟨z,hz,e⟩ |e
    ·exact .inl ⟨z,aw _ hz,e⟩
    ·rw[aF]at e
     cases hb:x==y with
     | true=>exact .inl ⟨(y,k),aP,(beq_iff_eq.mp hb).symm,by simpa using hk⟩
     | false=>rw[hb]at e;exact .inr e
   ·rcases jG r _ _ c h with⟨z,hz,e⟩ |e
    ·exact .inl ⟨z,aw _ hz,e⟩
    ·exact .inr e
section
variable {M:Model}{A:Around}{E:Value->Shared->Prop}{s:Shared}
theorem nF{scope:Scope}{globals:Addr}{cl:List (Str×Addr)}{qual:Str}{env:Env}{Q:Env->Shared->Prop}
  (hQ:Q { scope:=scope,locals:=s.heap.objs.size,globals:=globals,cells:=cellsFrom (s.heap.objs.size+1) scope.names cl,qual:=qual,func:=none,code:=env.code,frame:=env.frame,builtins:=env.builtins }
   { s with heap:=pushCells (s.heap.push { cls := .type "dict",data := .dict #[] }) scope.names }) :
  aR M A (newFunctionEnv scope globals cl [] qual none .none (some env)) Q E s:=by
 simp only[newFunctionEnv,CV,if_true]
 refine az (wpAny_alloc ?_)
 refine az (wpAny_layCells _ (λname kind cells=>by cases hkc:kind==cf <;> simp[hkc]) _ _ _ _ ?_)
 rw [show ({ s with heap:=s.heap.push { cls := .type "dict",data := .dict #[] } }:Shared).heap.objs.size=s.heap.objs.size+1 from bA ..]
 exact aJ hQ
end
section
variable {prog:Program}{w:World}{A:Around}{R:Result->Shared->Prop}{s:Shared}
theorem kZ{elt target iter:Expr}{ifs:List Expr}{scope:Scope}{pos:Pos}{it acc:Value}{env:Env}(I:Nat->Shared->Prop)
  (turn: ∀n s,I n s->aR (model prog w) A (pyNext it) (λr s₁=>match r with
   | none=>R (.ok .next) s₁
   | some v=>aR (model prog w) A (letOwnedTupleGo target it v) (λ_ s₁=>aR (model prog w) A (assign target env v) (λ_ s₂=>
     aR (model prog w) A (forIn ifs true λc r=>if r=true then do let ok <- isTrue c env (eval c env);pure (de ok) else pure (de r)) (λok s₃=>
      if ok=true then aR (model prog w) A (eval elt env) (λx s₄=>
       aR (model prog w) A (call (.builtin "list.append") [acc,x]) (fun _ s₅ => ∃ m,m < n/\I m s₅) (fun _ _=>False) s₄) (fun _ _=>False) s₃
      else ∃m,m<n/\I m s₃) (λ_ _=>False) s₂) (λ_ _=>False) s₁) (λ_ _=>False) s₁) (λ_ _=>False) s)
  (n:Nat) (h:I n s):
  jY (model prog w) A (.compLoop (.ListComp elt [⟨target,iter,ifs,0⟩] scope pos) 0 it acc env) R s:=by
 refine codeAny_loop rfl I (λn s hI =>?_) n h
 show aR _ A ((compTurn (.ListComp elt [⟨target,iter,ifs,0⟩] scope pos) 0 it acc env).onRaise (λx=>do noteFrame x env;theTreesLotGoes x)) _ _ s
 refine wpAny_noted ?_
 rw[compTurn_list]
 refine az (wpAny_standAt (az (bI (turn n s hI) (λr s₁ h₁ =>?_) λ_ _ h'=>h'.elim)))
 cases r with
 | none=>exact aJ h₁
 | some v=>
   refine az (bI h₁ (λ_ s₁ h₁ =>?_) λ_ _ h'=>h'.elim)
   refine az (bI h₁ (λ_ s₂ h₂=>az (bI h₂ (λok s₃ h₃ =>?_) λ_ _ h'=>h'.elim)) λ_ _ h'=>h'.elim)
   cases ok with
   | false=>exact aJ ⟨rfl,h₃⟩
   | true=>
     exact az (az (bI h₃ (λx s₄ h₄=>az (bI h₄ (λ_ s₅ h₅=>aJ (aJ ⟨rfl,h₅⟩)) λ_ _ h'=>h'.elim)) λ_ _ h'=>h'.elim))
end
end PySem
end
section
namespace _G
open PySem
section
inductive U where
 | non |bl (b:Bool) |int (i:Int) |str (x:Str) |tup (us:List U) |ref (n:Nat) |obj (a:Addr)
 deriving Inhabited
inductive Cell where
 | lst (us:List U)
 | frz (us:List U)
 | dic (kvs:List (_L.Key×U))
 | dit (f:Bool) (kvs:List (List _L.Key×U))
 deriving Inhabited
abbrev Sto:=List Cell
abbrev Rho:=List (Option U)
abbrev Res(α:Type):=Option (α×Sto)
abbrev ME:=Rho->Sto->Res U
abbrev MT:=Rho->Sto->Res Bool
abbrev MA:=Rho->Sto->Res (List U)
abbrev MF:=List U->Sto->Res U
noncomputable def bnd{α β:Type}(r:Option (α×Sto))(k:α->Sto->Option β):Option β:=match r with
 | none=>none
 | some p=>k p.1 p.2
theorem aD{α β:Type}{a:α}{S:Sto}{k:α->Sto->Option β}:bnd (some (a,S)) k=k a S:=rfl
theorem bq{α β:Type}{r:Option (α×Sto)}{k:α->Sto->Option β}{b:β}(h:bnd r k=some b): ∃a S,r=some (a,S)/\k a S=some b:=by
 cases r with
 | none=>cases h
 | some p=>exact⟨p.1,p.2,rfl,h⟩
noncomputable def big:Nat:=16777216
noncomputable def getL(S:Sto)(n:Nat):Option (List U):=match S[n]? with
 | some (.lst us)=>some us
 | some (.frz us)=>some us
 | some (.dic _)=>none
 | some (.dit _ _)=>none
 | none=>none
noncomputable def cut{α:Type}(xs:List α)(lo hi:Option Int):List α:=(xs.drop (HT.sIx xs.length 0 lo)).take (HT.sIx xs.length xs.length hi - HT.sIx xs.length 0 lo)
abbrev F2:=U->U->Sto->Res U
noncomputable def cU:F2:=λx y S=>match x,y with
 | .int i,.int j=>some (.int (i+j),S)
 | .tup xs,.tup ys=>if xs.length+ys.length<=big then some (.tup (xs++ys),S) else none
 | .ref n,.ref m=>match S[n]?,S[m]? with
   | some (.lst xs),some (.lst ys)=>if xs.length+ys.length<=big then some (.ref S.length,S++[.lst (xs++ys)]) else none
   | _,_=>none
 | _,_=>none
noncomputable def uM:F2:=λx y S=>match x,y with
 | .int i,.int j=>some (.int (i - j),S)
 | _,_=>none
noncomputable def jl(i j:Int):Prop:=(-(2 ^ 64)<i/\i<2 ^ 64)\/(-(2 ^ 64)<j/\j<2 ^ 64)
noncomputable instance(i j:Int):Decidable (jl i j):=bJ _
noncomputable def rB(n:Nat)(k:Int):Prop:=0<=k/\k<1000/\0<n/\n<1000
noncomputable instance(n:Nat)(k:Int):Decidable (rB n k):=bJ _
noncomputable def ed:F2:=λx y S=>match x,y with
 | .int i,.int j=>if jl i j then some (.int (i*j),S) else none
 | .tup xs,.int k=>if rB xs.length k then some (.tup (aq k.toNat xs).flatten,S) else none
 | .ref n,.int k=>match S[n]? with
   | some (.lst xs)=>if rB xs.length k then some (.ref S.length,S++[.lst (aq k.toNat xs).flatten]) else none
   | _=>none
 | _,_=>none
noncomputable def qP(j:Int):Prop:=0<j/\j<1073741824
noncomputable instance(j:Int):Decidable (qP j):=bJ _
noncomputable def oDiv:F2:=λx y S=>match x,y with
 | .int i,.int j=>if qP j then some (.int (i / j),S) else none
 | _,_=>none
noncomputable def oMod:F2:=λx y S=>match x,y with
 | .int i,.int j=>if 0<j then some (.int (i % j),S) else none
 | _,_=>none
noncomputable def Fh(i j:Int):Prop:=0<=j/\j<=1000000/\i.natAbs<2 ^ 64
noncomputable instance(i j:Int):Decidable (Fh i j):=bJ _
noncomputable def tY:F2:=λx y S=>match x,y with
 | .int i,.int j=>if Fh i j then some (.int (i ^ j.toNat),S) else none
 | _,_=>none
noncomputable def z8(p:Int->Int->Bool):F2:=λx y S=>match x,y with
 | .int i,.int j=>some (.bl (p i j),S)
 | _,_=>none
abbrev oLt:F2:=z8 λi j=>decide (i<j)
abbrev oLe:F2:=z8 λi j=>decide (i<=j)
abbrev oGt:F2:=z8 λi j=>decide (j<i)
abbrev oGe:F2:=z8 λi j=>decide (j<=i)
noncomputable def dR(S:Sto):U->Option (List U)
 | .tup us=>some us
 | .ref n=>getL S n
 | _=>none
noncomputable def d5{α β:Type}(f:α->Option β):List α->Option (List β)
 | []=>some []
 | x::xs=>(f x).bind λy=>(d5 f xs).map λys=>y::ys
noncomputable def toD(S:Sto):Nat->U->Option PyData
 | 0,_=>none
 | _+1,.non=>some .none
 | _+1,.bl b=>some (.bool b)
 | _+1,.int i=>some (.int i)
 | _+1,.str x=>if df (.str x)=true then some (.str x) else none
 | f+1,.tup us=>(d5 (toD S f) us).map .tuple
 | f+1,.ref n=>(getL S n).bind λus=>(d5 (toD S f) us).map .list
 | _+1,.obj _=>none
noncomputable def eqU(S:Sto)(x y:U):Option Bool:=(toD S 40 x).bind λa=>(toD S 40 y).map λb=>jZ a b
noncomputable def oEq:F2:=λx y S=>(eqU S x y).map λb=>(.bl b,S)
noncomputable def oNe:F2:=λx y S=>(eqU S x y).map λb=>(.bl (!b),S)
noncomputable def keyOf:U->Option _L.Key
 | .int i=>some (.inl i)
 | .str x=>some (.inr x)
 | _=>none
noncomputable def qT{κ:Type} [DecidableEq κ] (kvs:List (κ×U)) (k:κ):Option U:=(kvs.find? λkv=>decide (kv.1=k)).map (·.2)
noncomputable def DD{κ:Type} [DecidableEq κ] (kvs:List (κ×U)) (k:κ) (u:U):List (κ×U):=
 if (kvs.any λkv=>decide (kv.1=k))=true then kvs.map (λkv=>if kv.1=k then(kv.1,u) else kv) else kvs++[(k,u)]
noncomputable def gp(S:Sto):U->Option (List (_L.Key×U))
 | .ref n=>match S[n]? with
   | some (.dic kvs)=>some kvs
   | _=>none
 | _=>none
noncomputable def oIx:F2:=λx y S=>match gp S x with
 | some kvs=>(keyOf y).bind λk=>(qT kvs k).map λu=>(u,S)
 | none=>match y with
   | .int i=>((dR S x).bind λus=>_L.atI us i).map λu=>(u,S)
   | _=>none
noncomputable def ae(i:Nat):ME:=λρ S=>match ρ[i]? with
 | some (some u)=>some (u,S)
 | _=>none
noncomputable def mC(u:U):ME:=λ_ S=>some (u,S)
noncomputable def m1(f:U->Sto->Res U)(a:ME):ME:=λρ S=>bnd (a ρ S) λx S1=>f x S1
noncomputable def m2(f:F2)(a b:ME):ME:=λρ S=>bnd (a ρ S) λx S1=>bnd (b ρ S1) λy S2=>f x y S2
noncomputable def ag:MA:=λ_ S=>some ([],S)
noncomputable def aa(a:ME)(r:MA):MA:=λρ S=>bnd (a ρ S) λx S1=>bnd (r ρ S1) λxs S2=>some (x::xs,S2)
noncomputable def jI(a:MA):ME:=λρ S=>bnd (a ρ S) λxs S1=>if xs.length<=big then some (.tup xs,S1) else none
noncomputable def bU(a:MA):ME:=λρ S=>bnd (a ρ S) λxs S1=>if xs.length<=big then some (.ref S1.length,S1++[.lst xs]) else none
noncomputable def mFn(f:MF)(a:MA):ME:=λρ S=>bnd (a ρ S) λxs S1=>f xs S1
noncomputable def xM:U->Sto->Res U:=λx S=>match x with
 | .int i=>some (.int (-i),S)
 | _=>none
noncomputable def EB(c:MT)(a b:ME):ME:=λρ S=>bnd (c ρ S) λk S1=>if k then a ρ S1 else b ρ S1
noncomputable def yv:Option ME->Rho->Sto->Res (Option Int)
 | none=>λ_ S=>some (none,S)
 | some a=>λρ S=>bnd (a ρ S) λx S1=>match x with
   | .int i=>some (some i,S1)
   | _=>none
noncomputable def mSl(a:ME)(lo hi:Option ME):ME:=λρ S=>bnd (a ρ S) λx S1=>bnd (yv lo ρ S1) λl S2=>bnd (yv hi ρ S2) λh S3=>match x with
 | .tup us=>some (.tup (cut us l h),S3)
 | .ref n=>(getL S3 n).map λus=>(.ref S3.length,S3++[.lst (cut us l h)])
 | _=>none
noncomputable def cOf(a:ME):MT:=λρ S=>bnd (a ρ S) λx S1=>match x with
 | .bl b=>some (b,S1)
 | _=>none
noncomputable def jH(a b:MT):MT:=λρ S=>bnd (a ρ S) λk S1=>if k then b ρ S1 else some (false,S1)
noncomputable def cOr(a b:MT):MT:=λρ S=>bnd (a ρ S) λk S1=>if k then some (true,S1) else b ρ S1
noncomputable def ya(a:MT):MT:=λρ S=>bnd (a ρ S) λk S1=>some (!k,S1)
noncomputable def cTT:MT:=λ_ S=>some (true,S)
inductive Src where
 | imm (us:List U)
 | mut (n:Nat)
 | enl (n:Nat)
 | zlt (n:Nat) (us:List U)
abbrev MI:=Rho->Sto->Option (Src×Sto)
noncomputable def okR(i:Int):Prop:= -(2 ^ 62)<=i/\i<2 ^ 62
noncomputable instance(i:Int):Decidable (okR i):=bJ _
noncomputable def bh(i:Int)(n:Nat):List U:=(aO n).map λ(k:Nat) => .int (i+k)
noncomputable def iR1(a:MA):MI:=λρ S=>bnd (a ρ S) λxs S1=>match xs with
 | [.int j]=>if okR j then some (.imm (bh 0 j.toNat),S1) else none
 | _=>none
noncomputable def iR2(a:MA):MI:=λρ S=>bnd (a ρ S) λxs S1=>match xs with
 | [.int i,.int j]=>if okR i/\okR j then some (.imm (bh i (j - i).toNat),S1) else none
 | _=>none
noncomputable def eK(a:ME):MI:=λρ S=>bnd (a ρ S) λx S1=>match x with
 | .tup us=>some (.imm us,S1)
 | .ref n=>(getL S1 n).map λ_=>(.mut n,S1)
 | _=>none
noncomputable def fA(t:MT)(e:ME)(ρ:Rho):List U->List U->Sto->Res (List U)
 | [],acc,S=>some (acc,S)
 | x::xs,acc,S=>bnd (t (ρ++[some x]) S) λk S1=>if k then bnd (e (ρ++[some x]) S1) λy S2=>fA t e ρ xs (acc++[y]) S2 else fA t e ρ xs acc S1
noncomputable def jo(t:MT)(e:ME)(ρ:Rho)(n:Nat):Nat->Nat->List U->Sto->Res (List U)
 | 0,_,_,_=>none
 | f+1,i,acc,S=>(getL S n).bind λus=>match us[i]? with
   | none=>some (acc,S)
   | some x=>bnd (t (ρ++[some x]) S) λk S1=>if k then bnd (e (ρ++[some x]) S1) λy S2=>jo t e ρ n f (i+1) (acc++[y]) S2 else jo t e ρ n f (i+1) acc S1
noncomputable def fuel:Nat:=100000
noncomputable def v5(t:MT)(e:ME)(ρ:Rho):Src->Sto->Res (List U)
 | .imm us,S=>fA t e ρ us [] S
 | .mut n,S=>jo t e ρ n fuel 0 [] S
 | _,_=>none
noncomputable def dg(it:MI)(t:MT)(e:ME):ME:=λρ S=>bnd (it ρ S) λsrc S1=>bnd (v5 t e ρ src S1) λys S2=>if ys.length<big then some (.ref S2.length,S2++[.lst ys]) else none
inductive Fl where
 | nx |rt (u:U) |bk |ct
abbrev MS:=Rho->Sto->Option (Fl×Rho×Sto)
noncomputable def cN:MS:=λρ S=>some (.nx,ρ,S)
noncomputable def bo(a b:MS):MS:=λρ S=>match a ρ S with
 | some (.nx,ρ1,S1)=>b ρ1 S1
 | r=>r
noncomputable def bV(i:Nat)(e:ME):MS:=λρ S=>bnd (e ρ S) λx S1=>some (.nx,ρ.set i (some x),S1)
noncomputable def lQ(o i e:ME):MS:=λρ S=>bnd (e ρ S) λx S1=>bnd (o ρ S1) λp S2=>bnd (i ρ S2) λj S3=>match p with
 | .ref n=>match S3[n]? with
   | some (.lst us)=>(match j with
     | .int k=>(_L.ixN us.length k).map λm=>(.nx,ρ,S3.set n (.lst (us.set m x)))
     | _=>none)
   | some (.dic kvs)=>(keyOf j).bind λk=>if kvs.length<big then some (.nx,ρ,S3.set n (.dic (DD kvs k x))) else none
   | _=>none
 | _=>none
noncomputable def cy(e:ME):MS:=λρ S=>bnd (e ρ S) λ_ S1=>some (.nx,ρ,S1)
noncomputable def cK(e:ME):MS:=λρ S=>bnd (e ρ S) λx S1=>some (.rt x,ρ,S1)
noncomputable def sIf(c:MT)(a b:MS):MS:=λρ S=>bnd (c ρ S) λk S1=>if k then a ρ S1 else b ρ S1
noncomputable def aft(r:Option (Fl×Rho×Sto))(k:MS):Option (Fl×Rho×Sto):=match r with
 | some (.nx,ρ1,S1)=>k ρ1 S1
 | some (.ct,ρ1,S1)=>k ρ1 S1
 | some (.bk,ρ1,S1)=>some (.nx,ρ1,S1)
 | r=>r
noncomputable def uG(i:Nat)(b:MS):List U->MS
 | [],ρ,S=>some (.nx,ρ,S)
 | x::xs,ρ,S=>aft (b (ρ.set i (some x)) S) (uG i b xs)
noncomputable def forL(i:Nat)(b:MS)(n:Nat):Nat->Nat->MS
 | 0,_,_,_=>none
 | f+1,k,ρ,S=>(getL S n).bind λus=>match us[k]? with
   | none=>some (.nx,ρ,S)
   | some x=>aft (b (ρ.set i (some x)) S) (forL i b n f (k+1))
noncomputable def LK(i:Nat)(b:MS):Src->MS
 | .imm us=>uG i b us
 | .mut n=>forL i b n fuel 0
 | _=>λ_ _=>none
noncomputable def iM(i:Nat)(it:MI)(b:MS):MS:=λρ S=>bnd (it ρ S) λsrc S1=>LK i b src ρ S1
noncomputable def whl(c:MT)(b:MS):Nat->MS
 | 0,_,_=>none
 | f+1,ρ,S=>bnd (c ρ S) λk S1=>if k then aft (b ρ S1) (whl c b f) else some (.nx,ρ,S1)
noncomputable def qz(c:MT)(b:MS):MS:=whl c b fuel
noncomputable def run(k n:Nat)(b:MS):MF:=λus S=>if us.length=k then match b (us.map some++aq (n - k) none) S with
  | some (.rt u,_,S1)=>some (u,S1)
  | some (.nx,_,S1)=>some (.non,S1)
  | _=>none
 else none
noncomputable def cg:MF:=λus S=>match us with
 | [x]=>(match gp S x with
   | some kvs=>some (.int kvs.length,S)
   | none=>(dR S x).map λxs=>(.int xs.length,S))
 | _=>none
noncomputable def cD:MF:=λus S=>match us with
 | [x]=>(dR S x).map λxs=>(.tup xs,S)
 | _=>none
noncomputable def vz:MF:=λus S=>match us with
 | [.int i,.int j]=>some (.int (if j > i then j else i),S)
 | _=>none
noncomputable def pD:MF:=λus S=>match us with
 | [.int i,.int j]=>some (.int (if j<i then j else i),S)
 | _=>none
noncomputable def jL(it:MI):ME:=λρ S=>bnd (it ρ S) λsrc S1=>match src with
 | .imm us=>if us.length<=big then some (.ref S1.length,S1++[.lst us]) else none
 | _=>none
noncomputable def qL(it:MI):ME:=λρ S=>bnd (it ρ S) λsrc S1=>match src with
 | .imm us=>if us.length<=big then some (.tup us,S1) else none
 | _=>none
noncomputable def Bn(d:PyData):Prop:=d.showable=true/\d.shown.length<=sizeLine
noncomputable instance(d:PyData):Decidable (Bn d):=bJ _
noncomputable def mML(f:Nat->List U->Sto->Res U)(o:ME)(a:MA):ME:=λρ S=>bnd (o ρ S) λp S1=>match p with
 | .ref n=>(getL S1 n).bind λ_=>bnd (a ρ S1) λxs S2=>f n xs S2
 | _=>none
noncomputable def b0:Nat->List U->Sto->Res U:=λn xs S=>match xs with
 | [x]=>match S[n]? with
   | some (.lst us)=>if us.length<big then some (.non,S.set n (.lst (us++[x]))) else none
   | _=>none
 | _=>none
noncomputable def jJ:Nat->List U->Sto->Res U:=λn xs S=>match xs with
 | [.int i]=>match S[n]? with
   | some (.lst us)=>if okR i then(_L.ixN us.length i).bind λj=>us[j]?.map λy=>(y,S.set n (.lst (us.eraseIdx j))) else none
   | _=>none
 | _=>none
noncomputable def LP:Nat->List U->Sto->Res U:=λn xs S=>match xs with
 | []=>match S[n]? with
   | some (.lst us)=>us[us.length - 1]?.map λy=>(y,S.set n (.lst us.dropLast))
   | _=>none
 | _=>none
noncomputable def mMT(f:List U->List U->Sto->Res U)(o:ME)(a:MA):ME:=λρ S=>bnd (o ρ S) λp S1=>match p with
 | .tup us=>bnd (a ρ S1) λxs S2=>f us xs S2
 | _=>none
noncomputable def idxOf(S:Sto)(x:U):Nat->List U->Option Nat
 | _,[]=>none
 | k,y::ys=>(eqU S y x).bind λb=>if b then some k else idxOf S x (k+1) ys
end
end _G
end
section
namespace _L
open PySem PySem.Spec PyProof.Rows
noncomputable def blk(X:Cx)(N':List Str)(scope:Scope)(s₂:Shared)(H₂:Hp)(fp:List Addr):Cx:=
 { X with
  N:=N'
  s₀:=s₂
  H₀:=H₂
  env:={ scope:=relabel scope X.env,locals:=s₂.heap.objs.size+1,globals:=X.env.globals,cells:=cellsFrom (s₂.heap.objs.size+2) scope.names (ji X.env scope.names []),qual:=X.env.qual,func:=none,code:=X.env.code,frame:=X.env.frame,builtins:=X.env.builtins }
  outer:=X.stack
  ex:=fp
  fn:=λx=>scope.names.lookup x==some .cell
  pn:= []
  xe:=λ_ _=>False }
structure iF(X:Cx)(N':List Str)(scope:Scope)(xs:List Str):Prop where
 kind:scope.kind = .function
 nd:(scope.names.map (·.1)).Nodup
 free: ∀y∈scope.names,y.2 = .free->X.env.kindOf y.1=some .cell\/X.env.kindOf y.1=some .free
 own: ∀x∈xs,scope.names.lookup x=some .local\/scope.names.lookup x=some .cell
 ndN:N'.Nodup
 len:N'.length=X.N.length+xs.length
 last: ∀(j:Nat) (x:Str),xs[j]? = some x->N'[X.N.length+j]? = some x
 vis: ∀(i:Nat) (y:Str),i<X.N.length->N'[i]? = some y->(scope.names.lookup y=some .local\/scope.names.lookup y=some .cell\/scope.names.lookup y=some .free)->X.N[i]? = some y/\scope.names.lookup y=some .free
theorem gm{env:Env}: ∀{names:List (Str×NameKind)}{x:Str}{k:NameKind},
  (names.map λ(n,k)=>if (k==aN&&env.scope.kind==.function&&env.kindOf n==some .cell) then(n,cf) else(n,k)).lookup x=some k ->
  names.lookup x=some k\/(names.lookup x=some .free/\k = .cell)
 | [],_,_,h=>by simp at h
 | (n,k')::r,x,k,h=>by
   have ih:= @gm env r x k
   have h':oA x ((if (k'==aN&&env.scope.kind==.function&&env.kindOf n==some .cell)=true then(n,cf) else(n,k'))::(r.map λ(n,k)=>if (k==aN&&env.scope.kind==.function&&env.kindOf n==some .cell) then(n,cf) else(n,k)))=some k:=h
   by_cases hc:(k'==aN&&env.scope.kind==.function&&env.kindOf n==some .cell)=true
   ·rw[if_pos hc]at h'
    rw[aF]at h' ⊢
    cases hx:x==n with
    | true=>
      rw[hx]at h'
      have hk:k' = .free:=by
       rw[ao,ao]at hc
       simpa using hc.1.1
      subst hk
      exact .inr ⟨rfl,(bL h').symm⟩
    | false=>rw[hx]at h';exact ih h'
   ·rw[if_neg hc]at h'
    rw[aF]at h' ⊢
    cases hx:x==n with
    | true=>rw[hx]at h';exact .inl h'
    | false=>rw[hx]at h';exact ih h'
theorem ky{env:Env}: ∀{names:List (Str×NameKind)}{x:Str},names.lookup x=some .cell ->
  (names.map λ(n,k)=>if (k==aN&&env.scope.kind==.function&&env.kindOf n==some .cell) then(n,cf) else(n,k)).lookup x=some .cell
 | [],_,h=>by simp at h
 | (n,k')::r,x,h=>by
   have ih:= @ky env r x
   show oA x ((if (k'==aN&&env.scope.kind==.function&&env.kindOf n==some .cell)=true then(n,cf) else(n,k'))::_)=_
   rw[aF]at h
   cases hx:x==n with
   | true=>
     rw[hx]at h
     cases h
     simp[aF,hx]
   | false=>
     rw[hx]at h
     by_cases hc:(k'==aN&&env.scope.kind==.function&&env.kindOf n==some .cell)=true
     ·rw[if_pos hc];simp only[aF,hx];exact ih h
     ·rw[if_neg hc];simp only[aF,hx];exact ih h
theorem kl{env:Env}: ∀{names:List (Str×NameKind)}{x:Str},names.lookup x=some .free ->
  (names.map λ(n,k)=>if (k==aN&&env.scope.kind==.function&&env.kindOf n==some .cell) then(n,cf) else(n,k)).lookup x=some .cell \/
  (names.map λ(n,k)=>if (k==aN&&env.scope.kind==.function&&env.kindOf n==some .cell) then(n,cf) else(n,k)).lookup x=some .free
 | [],_,h=>by simp at h
 | (n,k')::r,x,h=>by
   have ih:= @kl env r x
   show oA x ((if (k'==aN&&env.scope.kind==.function&&env.kindOf n==some .cell)=true then(n,cf) else(n,k'))::_)=_\/oA x ((if (k'==aN&&env.scope.kind==.function&&env.kindOf n==some .cell)=true then(n,cf) else(n,k'))::_)=_
   rw[aF]at h
   by_cases hc:(k'==aN&&env.scope.kind==.function&&env.kindOf n==some .cell)=true
   ·rw[if_pos hc]
    cases hx:x==n with
    | true=>exact .inl (by simp[aF,hx])
    | false=>
      rw[hx]at h
      simp only[aF,hx];exact ih h
   ·rw[if_neg hc]
    cases hx:x==n with
    | true=>rw[hx]at h;cases h;exact .inr (by simp[aF,hx])
    | false=>
      rw[hx]at h
      simp only[aF,hx];exact ih h
theorem oh{env:Env}: ∀{names:List (Str×NameKind)}{x:Str},names.lookup x=some .globalImplicit ->
  (names.map λ(n,k)=>if (k==aN&&env.scope.kind==.function&&env.kindOf n==some .cell) then(n,cf) else(n,k)).lookup x=some .globalImplicit
 | [],_,h=>by simp at h
 | (n,k')::r,x,h=>by
   have ih:= @oh env r x
   show oA x ((if (k'==aN&&env.scope.kind==.function&&env.kindOf n==some .cell)=true then(n,cf) else(n,k'))::_)=_
   rw[aF]at h
   cases hx:x==n with
   | true=>
     rw[hx]at h
     cases h
     simp[aF,hx]
   | false=>
     rw[hx]at h
     by_cases hc:(k'==aN&&env.scope.kind==.function&&env.kindOf n==some .cell)=true
     ·rw[if_pos hc];simp only[aF,hx];exact ih h
     ·rw[if_neg hc];simp only[aF,hx];exact ih h
theorem mF: ∀{names:List (Str×NameKind)}{x:Str}{k:NameKind},(names.map (·.1)).Nodup->(x,k)∈names->names.lookup x=some k
 | [],_,_,_,h=>by simp at h
 | (n,k')::r,x,k,nd,h=>by
   rw[bD,fk]at nd
   rw[aF]
   rcases aX.mp h with e |h2
   ·cases e;simp
   ·have hne:x≠n:=by
     intro e
     subst e
     exact nd.1 (bB.mpr ⟨(x,k),h2,rfl⟩)
    have hb:(x==n)=false:=beq_eq_false_iff_ne.mpr hne
    rw[hb]
    exact mF nd.2 h2
theorem j6{X:Cx}{scope:Scope}{n:Nat}(hf: ∀y∈scope.names,y.2 = .free -> ∃c,X.env.cells.lookup y.1=some c){x:Str}{c:Addr}
  (h:(cellsFrom n scope.names (ji X.env scope.names [])).lookup x=some c):(cellsFrom n scope.names []).lookup x=some c\/X.env.cells.lookup x=some c:=by
 rw[eD,gM]at h
 cases q:(cellsFrom n scope.names []).lookup x with
 | some d=>rw[q]at h;exact .inl h
 | none=>
   rw[q]at h
   have h':(ji X.env scope.names []).lookup x=some c:=h
   rcases ot scope.names [] hf x c h' with e |e
   ·exact .inr e
   ·cases e
section
variable {X:Cx}{pins:List (Addr×Obj)}{σ:St}{H₂:Hp}{s₂:Shared}{N':List Str}{scope:Scope}{xs:List Str}{fp:List Addr}
theorem iF.frees(C:iF X N' scope xs)(ok:X.Ok): ∀y∈scope.names,y.2 = .free -> ∃c,X.env.cells.lookup y.1=some c:=λy hy e=>ok.has y.1 (C.free y hy e)
theorem EV(C:iF X N' scope xs){y:Str}{n:Nat}(h:scope.names.lookup y=some .cell\/scope.names.lookup y=some .free): ∃c,(cellsFrom n scope.names (ji X.env scope.names [])).lookup y=some c:=by
 refine cj.mp (gS scope.names n _ ?_)
 rcases h with h |h
 ·exact .inl h
 ·exact .inr (nE scope.names [] (.inl h))
theorem Iy(I:Inv X pins σ H₂ s₂)(C:iF X N' scope xs)(hfp: ∀b∈fp,uB X pins H₂ b)(hlt: ∀b∈fp,b<s₂.heap.objs.size):(blk X N' scope s₂ H₂ fp).Ok:=by
 have own: ∀y c,(cellsFrom (s₂.heap.objs.size+2) scope.names []).lookup y=some c->s₂.heap.objs.size+2<=c:=λy c h=>by
  have ok:=cellsFrom_ok scope.names ((s₂.heap.push default).push default) (s₂.heap.objs.size+2) [] ⟨λ_ _ hm=>(nomatch hm),gf⟩ (by rw[bA,bA];exact ak _)
  rw[bA,bA]at ok
  exact(ok.empty y c (bM h)).2
 have apart:(cellsFrom (s₂.heap.objs.size+2) scope.names []).Pairwise λx y=>x.2≠y.2:=by
  have ok:=cellsFrom_ok scope.names ((s₂.heap.push default).push default) (s₂.heap.objs.size+2) [] ⟨λ_ _ hm=>(nomatch hm),gf⟩ (by rw[bA,bA];exact ak _)
  rw[bA,bA]at ok
  exact ok.apart
 have old: ∀y c,X.env.cells.lookup y=some c->c<s₂.heap.objs.size:=λy c h=>by obtain⟨v,z⟩:=I.cell y c h;exact z.lt
 refine⟨I.ok.mod,C.kind,I.ok.glob,I.ok.blt,bY _,λy z c h1 h2 =>?_,λy hy =>?_,λy c hy h =>?_,I.ok.hd,I.ok.frames,.inl rfl,λb hb=>⟨?_,λy c h z =>?_⟩,I.bs,aB I.ok.bsz I.sz,λb o e hb =>?_,λb hb z =>?_,I.stack,I.stkFree⟩
 ·rcases j6 (C.frees I.ok) h1 with a |a <;> rcases j6 (C.frees I.ok) h2 with b |b
  ·exact name_of_addr apart (bM a) (bM b)
  ·exact absurd (ai (old z c b) (aB (dU _ 2) (own y c a))) (bN _)
  ·exact absurd (ai (old y c a) (aB (dU _ 2) (own z c b))) (bN _)
  ·exact I.ok.inj y z c a b
 ·have hy:(relabel scope X.env).names.lookup y=some .cell\/(relabel scope X.env).names.lookup y=some .free:=hy
  refine EV C ?_
  rcases hy with hy |hy
  ·rcases gm hy with e | ⟨e,_⟩
   ·exact .inl e
   ·exact .inr e
  ·rcases gm hy with e | ⟨e,_⟩
   ·exact .inr e
   ·exact .inr e
 ·have hy':scope.names.lookup y=some .cell:=by simpa [blk]using hy
  have h':(cellsFrom (s₂.heap.objs.size+2) scope.names (ji X.env scope.names [])).lookup y=some c:=h
  rw[eD,gM]at h'
  have q:=cj.mp (gS scope.names (s₂.heap.objs.size+2) [] (.inl hy'))
  obtain⟨d,hd⟩:=q
  rw[hd]at h'
  have e:d=c:=bL h'
  subst e
  have:=own y d hd
  show s₂.heap.objs.size<=d
  omega
 ·have:=hlt b hb
  exact br (fG this)
 ·have:=hlt b hb
  rcases j6 (C.frees I.ok) h with a |a
  ·exact absurd (ai this (aB (dU _ 2) (z▸own y c a))) (bN _)
  ·exact(hfp b hb).2.2.2.2.1 y c a z
 ·have z:=(hfp b hb).2.2.2.1
  rcases z with z |z
  ·exact I.ok.noex b o e z
  ·exact absurd (ai (aG e) (aB I.ok.bsz z)) (bN _)
 ·rcases aX.mp (I.stkSub b z) with e |e
  ·exact(hfp b hb).2.1 e
  ·exact(hfp b hb).2.2.1 e
theorem zJ(I:Inv X pins σ H₂ s₂)(C:iF X N' scope xs)(hfp: ∀b∈fp,uB X pins H₂ b)(hlt: ∀b∈fp,b<s₂.heap.objs.size){lo do':Obj}(hdo:do'.data = .dict #[])(hdo2:do'.isFreed=false)(hlo:lo.isFreed=false):
  Inv (blk X N' scope s₂ H₂ fp) [] (σ++aq xs.length none) H₂ { s₂ with heap:=pushCells ((s₂.heap.push lo).push do') scope.names }:=by
 have sz:((s₂.heap.push lo).push do').objs.size=s₂.heap.objs.size+2:=by rw[bA,bA]
 have okc:=cellsFrom_ok scope.names ((s₂.heap.push lo).push do') (s₂.heap.objs.size+2) [] ⟨λ_ _ hm=>(nomatch hm),gf⟩ (by rw[sz];exact ak _)
 rw[sz]at okc
 have kp: ∀b o,s₂.heap.get? b=some o->(pushCells ((s₂.heap.push lo).push do') scope.names).get? b=some o:=λb o e=>pushCells_keeps _ _ b o (av _ (av _ e))
 have hL:(pushCells ((s₂.heap.push lo).push do') scope.names).get? (s₂.heap.objs.size+1)=some do':=pushCells_keeps _ _ _ _ (by
  have e:s₂.heap.objs.size+1=(s₂.heap.push lo).objs.size:=by rw[bA]
  rw[e];exact aH _ hdo2)
 refine⟨Iy I C hfp hlt,rfl,I.bare,Un.kept kp,⟨λ_=>none,⟨do',#[],_,hL,hdo,λe he=>by simp at he,λ_=>rfl⟩,λi y v h1 h2 h3 =>?_⟩,λy c h =>?_,I.hok.fresh (bY _),λy c h =>?_,λp hp=>absurd (show p∈([]:List (Addr×Obj)) from hp) (by simp),I.hok.kept kp,?_⟩
 ·have hi:i<X.N.length:=by
   by_cases hi:i<X.N.length
   ·exact hi
   ·rw[ar (by rw[I.len];exact bS (by assumption)),eF]at h2
    split at h2 <;> simp at h2
  rw[aQ (by rw[I.len];exact hi)]at h2
  have hv:scope.names.lookup y=some .local\/scope.names.lookup y=some .cell\/scope.names.lookup y=some .free:=by
   rcases h3 with h3 |h3 |h3 <;> rcases gm h3 with e | ⟨e,e'⟩
   ·exact .inl e
   ·cases e'
   ·exact .inr (.inl e)
   ·exact .inr (.inr e)
   ·exact .inr (.inr e)
   ·cases e'
  obtain⟨hN,hfr⟩:=C.vis i y hi h1 hv
  have hmem:(y,aN)∈scope.names:=bM hfr
  have hk:=C.free _ hmem rfl
  have vis:Vis X.env.scope y:= .inr hk
  obtain⟨m,hn,hl⟩:=I.loc
  obtain⟨u,r,l⟩:=hl i y v hN h2 vis
  refine⟨u,r,.inr ⟨kl hfr,?_⟩⟩
  rcases l with⟨hk',_⟩ | ⟨_,c,hc,hcell⟩
  ·rcases hk with hk |hk
   ·rw[hk]at hk';cases hk'
   ·rw[hk]at hk';cases hk'
  ·have nown:(cellsFrom (s₂.heap.objs.size+2) scope.names []).lookup y=none:=by
    cases q:(cellsFrom (s₂.heap.objs.size+2) scope.names []).lookup y with
    | none=>rfl
    | some d=>
      rcases jG scope.names _ _ d q with⟨z,hz,e1,e2⟩ |e
      ·obtain⟨z1,z2⟩:=z
       simp only at e1 e2
       subst e1;subst e2
       exact absurd (mF C.nd hz) (by rw[hfr];simp)
      ·cases e
   obtain⟨d,hd⟩:=cj.mp (nE (env:=X.env) (x:=y) scope.names [] (.inl hfr))
   have hd':X.env.cells.lookup y=some d:=by
    rcases ot scope.names [] (C.frees I.ok) y d hd with e |e
    ·exact e
    ·cases e
   rw[hc]at hd';cases hd'
   refine⟨c,?_,hcell.keeps kp⟩
   show(cellsFrom (s₂.heap.objs.size+2) scope.names (ji X.env scope.names [])).lookup y=some c
   rw[eD,gM,nown]
   exact hd
 ·rcases j6 (C.frees I.ok) h with a |a
  ·exact⟨none,(okc.empty y c (bM a)).1⟩
  ·obtain⟨v,z⟩:=I.cell y c a
   exact⟨v,z.keeps kp⟩
 ·rcases j6 (C.frees I.ok) h with a |a
  ·exact I.hok.fresh (aB (dU _ 2) (okc.empty y c (bM a)).2)
  ·exact I.freeC y c a
 ·show(σ++aq xs.length none).length=N'.length
  rw[bg,iO,I.len,C.len]
end
noncomputable def PTs(X:Cx)(ifs:List Expr)(t:TT):Prop:=
 ∀(pins:List (Addr×Obj)) (s:Shared) (σ:St) (H:Hp) (Q:Bool->Hp->Prop),Inv X pins σ H s->t σ H Q ->
  aR (model X.prog X.w) X.A (forIn ifs true λc r=>if r=true then do let ok <- isTrue c X.env (eval c X.env);pure (de ok) else pure (de r)) (TP X pins σ Q) X.xe s
theorem Er{X:Cx}:PTs X [] (λ_ H Q=>Q true H):=λpins s σ H Q I h=>by
 rw[List.forIn_nil]
 exact aJ ⟨H,I,h⟩
theorem DH{X:Cx}{c:Expr}{t:TT}(h:PT X c t):PTs X [c] t:=λpins s σ H Q I q=>by
 rw[jE]
 simp only[if_true]
 refine az (az (thn (h pins s σ H Q I q) λb s1 e=>aJ ?_))
 show aR _ _ (forIn [] b _) _ _ _
 rw[List.forIn_nil]
 exact aJ e
noncomputable def o6(wi:TI)(tt:TT)(te:TE):TE:=λσ H Q=>wi σ H λJ H1 =>∃W:Nat->Nat->List V->Hp->Prop,(∃m,W 0 m [] H1) /\ ∀i m ys H,W i m ys H->ys.length<sizeLine /\
 ((J.stop i H /\ ∀D,H D=none->Q (.ref D) (upd H D (.lst ys))) \/
  (J.go i H /\ ∀x H',J.yld i H x H'->tt (σ++[some x]) H' λb H3=>if b=true then te (σ++[some x]) H3 λy H4 =>∃m',m'<m/\W (i+1) m' (ys++[y]) H4 else ∃m',m'<m/\W (i+1) m' ys H3))
theorem HOk.track{P:Program}{w:World}{H:Hp}{h:Heap}{a:Addr}{o:HO}(x:HOk P w H h)(hn:H a=none)(new:eZ P w (upd H a o) h a o):HOk P w (upd H a o) h:=λb u e=>by
 by_cases hb:b=a
 ·subst hb;rw[cq]at e;cases e;exact new
 ·rw[aZ hb]at e
  exact(x b u e).stay (λc v _ q=>q) (λc q=>by rw[aZ (aW q hn)];exact q) λc xs q=>by rw[aZ (aW q hn)];exact q
theorem HOk.but{P:Program}{w:World}{H:Hp}{h h':Heap}{a:Addr}(x:HOk P w H h)(hn:H a=none)(k: ∀b o,b≠a->h.get? b=some o->h'.get? b=some o):HOk P w H h':=λb u e=>by
 refine(x b u e).stay (λc v hc q=>k c v ?_ q) (λ_ q=>q) λ_ _ q=>q
 rcases hc with rfl |hc
 ·exact aW e hn
 ·exact aW hc hn
noncomputable def Hg(gT:V->Hp->(St->Hp->Prop)->Prop)(wi:TI)(tt:TT)(te:TE):TE:=λσ H Q=>wi σ H λJ H1 =>∃W:Nat->Nat->List V->Hp->Prop,(∃m,W 0 m [] H1) /\ ∀i m ys H,W i m ys H->ys.length<sizeLine /\
 ((J.stop i H /\ ∀D,H D=none->Q (.ref D) (upd H D (.lst ys))) \/
  (J.go i H /\ ∀x H',J.yld i H x H'->gT x H' λτ H2=>tt (σ++τ) H2 λb H3=>if b=true then te (σ++τ) H3 λy H4 =>∃m',m'<m/\W (i+1) m' (ys++[y]) H4 else ∃m',m'<m/\W (i+1) m' ys H3))
noncomputable def gT1:V->Hp->(St->Hp->Prop)->Prop:=λv H Q=>Q [some v] H
section
variable {X:Cx}{N':List Str}{scope:Scope}{x:Str}{xs:List Str}{tg:Expr}{gT:V->Hp->(St->Hp->Prop)->Prop}{px pos:Pos}{elt iter:Expr}{ifs:List Expr}{wi:TI}{tt:TT}{te:TE}
theorem sW{use:Option (Value->Sem Unit)}{Qf:Value->Shared->Prop}(hc:X.calm=true)(C:iF X N' scope xs)(hi:PI X tg iter wi)
  (ht: ∀s₂ H₂ fp,PTs (blk X N' scope s₂ H₂ fp) ifs tt) (he: ∀s₂ H₂ fp,PE (blk X N' scope s₂ H₂ fp) elt te) {pins:List (Addr×Obj)}{s:Shared}{σ:St}{H:Hp}{Q:VK} (I:Inv X pins σ H s) (h:Hg gT wi tt te σ H Q)
  (htg: ∀(s₂:Shared) (H₂:Hp) (fp:List Addr) (pl:List (Addr×Obj)) (s:Shared) (H:Hp) (v:V) (u:Value) (Q:St->Hp->Prop),Inv (blk X N' scope s₂ H₂ fp) pl (σ++aq xs.length none) H s->RelV v u->gT v H Q ->
   aR (model X.prog X.w) X.A (assign tg (blk X N' scope s₂ H₂ fp).env u) (λ_ s' =>∃τ H',τ.length=xs.length/\Inv (blk X N' scope s₂ H₂ fp) pl (σ++τ) H' s'/\Q τ H') (λ_ _=>False) s)
  (hfin: ∀(s':Shared) (L D:Addr) (H':Hp) (ml:Str->Option Value),s'.heap.Ns L ml->Inv X pins σ H' s'->H' L=none->L≠X.env.locals->X.s₀.heap.objs.size<=L->(∀y c,X.env.cells.lookup y=some c->c≠L)->(∀p∈X.pn++pins,p.1≠L) ->
   Q (.ref D) H'->compPost (model X.prog X.w) X.A X.xe use Qf (.ref D) L (.ok .next) s'):
  aR (model X.prog X.w) X.A (eval iter X.env) (λxv s₁=>aR (model X.prog X.w) X.A (pyIter xv) (λit s₂=>aR (model X.prog X.w) X.A (newList []) (λacc s₃=>
   aR (model X.prog X.w) X.A (newFunctionEnv scope X.env.globals (ji X.env scope.names []) [] X.env.qual none .none (some X.env)) (λcenv s₄=>
    jY (model X.prog X.w) X.A (.compStart (.ListComp elt [⟨tg,iter,ifs,0⟩] scope pos) 0 it acc { cenv with scope:=relabel scope X.env }) (compPost (model X.prog X.w) X.A X.xe use Qf acc cenv.locals) s₄) X.xe s₃) X.xe s₂) X.xe s₁) X.xe s:=by
 refine thn (hi pins s σ H _ I h) λv s1 h1=>thn h1 λitv s2 h2 =>?_
 obtain⟨it,fp,tn,J,H2,e,I2,T,st2,f2,W,⟨m0,w0⟩,turn⟩:=h2
 subst e
 have hlt: ∀b∈fp,b<s2.heap.objs.size:=λb hb=>by obtain⟨o,ho,_⟩:=T.obj _ _ st2 b hb;exact aG ho
 refine dJ (nF ?_)
 dsimp only
 have I4:Inv (blk X N' scope s2 H2 fp) [] (σ++aq xs.length none) H2 { s2 with heap:=pushCells ((s2.heap.push { cls := .type "list",dict:=none,data := .seq ([]:List Value).toArray }).push { cls := .type "dict",data := .dict #[] }) scope.names }:=
  zJ I2 C f2 hlt rfl rfl rfl
 generalize hXb:blk X N' scope s2 H2 fp=Xb at I4
 have hD4:(pushCells ((s2.heap.push { cls := .type "list",dict:=none,data := .seq ([]:List Value).toArray }).push { cls := .type "dict",data := .dict #[] }) scope.names).get? s2.heap.objs.size=some { cls := .type "list",data := .seq ([]:List Value).toArray }:=
  pushCells_keeps _ _ _ _ (av _ (aH _ rfl))
 have st4:tn 0 (pushCells ((s2.heap.push { cls := .type "list",dict:=none,data := .seq ([]:List Value).toArray }).push { cls := .type "dict",data := .dict #[] }) scope.names):=
  T.keep _ _ _ st2 λb hb o e=>pushCells_keeps _ _ b o (av _ (av _ e))
 have henv:({ scope:=relabel scope X.env,locals:=(s2.heap.push { cls := .type "list",dict:=none,data := .seq ([]:List Value).toArray }).objs.size,globals:=X.env.globals,cells:=cellsFrom ((s2.heap.push { cls := .type "list",dict:=none,data := .seq ([]:List Value).toArray }).objs.size+1) scope.names (ji X.env scope.names []),qual:=X.env.qual,func:=none,code:=X.env.code,frame:=X.env.frame,builtins:=X.env.builtins }:Env)=Xb.env:=by
  rw[<- hXb,bA];rfl
 generalize hs4:({ s2 with heap:=pushCells ((s2.heap.push { cls := .type "list",dict:=none,data := .seq ([]:List Value).toArray }).push { cls := .type "dict",data := .dict #[] }) scope.names }:Shared)=s4 at I4
 have hD4':s4.heap.get? s2.heap.objs.size=some { cls := .type "list",data := .seq ([]:List Value).toArray }:=by rw [<- hs4];exact hD4
 have st4':tn 0 s4.heap:=by rw[<- hs4];exact st4
 have hL:Xb.env.locals=s2.heap.objs.size+1:=by rw[<- hXb];rfl
 have hex:Xb.ex=fp:=by rw[<- hXb];rfl
 have hs0:Xb.s₀=s2:=by rw[<- hXb];rfl
 have hH0:Xb.H₀=H2:=by rw[<- hXb];rfl
 have hfs:Xb.fs=frs X.stack:=by rw[<- hXb];rfl
 have hpn:Xb.pn = []:=by rw[<- hXb];rfl
 have hK:Xb.K=X.K:=by rw[<- hXb];rfl
 have hP:Xb.prog=X.prog:=by rw[<- hXb];rfl
 have hw:Xb.w=X.w:=by rw[<- hXb];rfl
 have hA:Xb.A=X.A:=by rw[<- hXb];rfl
 have hxe:Xb.xe=λ_ _=>False:=by rw[<- hXb];rfl
 have hcb:Xb.calm=true:=by rw[<- hXb];exact hc
 have hNb:Xb.N=N':=by rw[<- hXb];rfl
 have hfn: ∀y,scope.names.lookup y=some .cell->Xb.fn y=true:=λy hy=>by rw[<- hXb];show(scope.names.lookup y==some .cell)=true;rw[hy];rfl
 have htb:PTs Xb ifs tt:=by rw[<- hXb];exact ht _ _ _
 have heb:PE Xb elt te:=by rw[<- hXb];exact he _ _ _
 have hgb: ∀(pl:List (Addr×Obj)) (s:Shared) (H:Hp) (v:V) (u:Value) (Q:St->Hp->Prop),Inv Xb pl (σ++aq xs.length none) H s->RelV v u->gT v H Q ->
   aR (model X.prog X.w) X.A (assign tg Xb.env u) (λ_ s' =>∃τ H',τ.length=xs.length/\Inv Xb pl (σ++τ) H' s'/\Q τ H') (λ_ _=>False) s:=by
  rw[<- hXb];exact htg _ _ _
 have cellne: ∀y c,Xb.env.cells.lookup y=some c->c≠s2.heap.objs.size:=λy c e z=>by
  obtain⟨v,o,ho,hd⟩:=I4.cell y c e
  rw[z,hD4']at ho
  cases ho
  cases hd
 have stat: ∀{H':Hp}{pl:List (Addr×Obj)},(∀b∈fp,H' b=none)->(∀p∈pl,p.1=s2.heap.objs.size) -> ∀b∈fp,uB Xb pl H' b:=λ{H' pl} hn hpl b hb=>by
  refine⟨hn b hb,?_,?_,.inl (by rw[hex];exact hb),λy c e z =>?_,λp hp z =>?_⟩
  ·rw[hL];exact br (fG (hlt b hb))
  ·exact I4.ok.exfs b (by rw[hex];exact hb)
  ·exact(I4.ok.exf b (by rw[hex];exact hb)).2 y c e z
  ·rw[hpn]at hp
   have h1:=hpl p (by simpa using hp)
   have h2:=hlt b hb
   exact absurd h2 (by rw[<- z,h1];exact bN _)
 have Dfs:s2.heap.objs.size∉Xb.fs:=by
  rw[hfs]
  intro z
  rcases aX.mp (I2.stkSub _ z) with e |e
  ·exact absurd I2.lt (by rw[<- e];exact bN _)
  ·exact I2.nofs (ak _) e
 have fin : ∀ (s':Shared) (i m:Nat) (ys:List V) (its:List Value) (n:Nat) (H':Hp) (σ':St),Inv Xb [] σ' H' s'->H' s2.heap.objs.size=none->s'.heap.get? s2.heap.objs.size=some { cls := .type "list",data := .seq its.toArray n }->bK ys its->ys.length < sizeLine ->
   (∀D,H' D=none->Q (.ref D) (upd H' D (.lst ys)))->compPost (model X.prog X.w) X.A X.xe use Qf (.ref s2.heap.objs.size) Xb.env.locals (.ok .next) s':=by
  intro s' i m ys its n H' σ' I' hDn hDo rv hz q
  obtain⟨ml,hml,_⟩:=I'.loc
  have kb: ∀b o,b≠Xb.env.locals->s'.heap.get? b=some o->s'.heap.get? b=some o:=λb o _ e=>e
  have hDL:s2.heap.objs.size≠Xb.env.locals:=by rw[hL];exact br (cY _)
  have hok1:HOk X.prog X.w H' s'.heap:=by
   have:=I'.hok.but I'.free kb
   rw[hP,hw]at this;exact this
  have hok2:HOk X.prog X.w (upd H' s2.heap.objs.size (.lst ys)) s'.heap:=hok1.track hDn ⟨aT hz,its,n,rv,kb _ _ hDL hDo⟩
  have base:=I'.base
  rw[hs0,hH0,hex,hfs]at base
  have un:Un (frs X.stack) fp H2 (upd H' s2.heap.objs.size (.lst ys)) s2.heap s'.heap:=by
   have ltL: ∀b o,s2.heap.get? b=some o->b≠Xb.env.locals:=λb o e=>by rw[hL];exact br (fG (aG e))
   have ltD: ∀b o,s2.heap.get? b=some o->b≠s2.heap.objs.size:=λb o e=>br (aG e)
   refine⟨λb o e n hb hx=>kb b o (ltL b o e) (base.keep b o e n hb hx),λb o e n hb hx =>?_,λb o e n hx =>?_,λb o e hx =>?_,λb xs e =>?_,λb o u e =>?_,λb ps e =>?_⟩
   ·obtain⟨sl,q⟩:=base.slot b o e n hb hx
    exact⟨sl,kb b _ (ltL b o e) q⟩
   ·rw[aZ (ltD b o e)];exact base.free b o e n hx
   ·obtain⟨o',q⟩:=base.there b o e hx
    exact⟨o',kb b _ (ltL b o e) q⟩
   ·have q:=base.tups b xs e
    rw[aZ (aW q hDn)];exact q
   ·have q:=base.frzs b o u e
    rw[aZ (aW q hDn)];exact q
   ·obtain⟨more,q⟩:=base.tbls b ps e
    exact⟨more,by rw[aZ (aW q hDn)];exact q⟩
  have os:s'.os=s2.os:=by rw[I'.os,hs0]
  have If:=I2.call' (s':=s') os un hok2 I'.bare λb hb=>⟨(f2 b hb).2.2.2.1,(f2 b hb).2.1,(f2 b hb).2.2.2.2.1,(f2 b hb).2.2.2.2.2⟩
  refine hfin s' _ _ _ ml hml If ?_ ?_ ?_ ?_ ?_ (q _ hDn)
  ·rw[aZ (dM hDL)];exact I'.free
  ·rw[hL];exact di (fG I2.lt)
  ·rw[hL];exact iI I2.sz
  ·intro y c e z
   obtain⟨v,o,ho,_⟩:=I2.cell y c e
   have:=aG ho
   rw[z,hL]at this;exact absurd (Nat.lt_of_succ_lt this) (bN _)
  ·intro p hp z
   have:=aG (I2.pin p hp).1
   rw[z,hL]at this;exact absurd (Nat.lt_of_succ_lt this) (bN _)
 have loop: ∀it':Addr,it'=it->jY (model X.prog X.w) X.A (.compLoop (.ListComp elt [⟨tg,iter,ifs,0⟩] scope pos) 0 (.ref it') (.ref s2.heap.objs.size) Xb.env) (compPost (model X.prog X.w) X.A X.xe use Qf (.ref s2.heap.objs.size) Xb.env.locals) s4:=by
  rintro it' rfl
  refine kZ (λn s' =>∃(i:Nat) (ys:List V) (its:List Value) (nn:Nat) (H':Hp),Inv Xb [] (σ++aq xs.length none) H' s'/\tn i s'.heap/\(∀b∈fp,H' b=none)/\H' s2.heap.objs.size=none /\
   s'.heap.get? s2.heap.objs.size=some { cls := .type "list",data := .seq its.toArray nn }/\bK ys its/\W i n ys H') ?_ m0 ⟨0,[],[],_,H2,I4,st4',fun b hb=>(f2 b hb).1,I2.hok.fresh (ak _),hD4',.nil,w0⟩
  rintro n s3 ⟨i,ys,its,nn,H3,I3,st3,fr3,hD3,hDo3,rv3,w3⟩
  obtain⟨hz,turn⟩:=turn i n ys H3 w3
  have pinD: ∀{s':Shared}{H':Hp}{σ':St}{oD:Obj},Inv Xb [] σ' H' s'->H' s2.heap.objs.size=none->s'.heap.get? s2.heap.objs.size=some oD->(∀v,oD.data≠.cell v)->Inv Xb [(s2.heap.objs.size,oD)] σ' H' s':=λ{s' H' σ' oD} I' hn ho hd=>
   I'.pins_of λp hp=>by
    have e:p=(s2.heap.objs.size,oD):=by simpa using hp
    subst e
    exact⟨ho,hn,by rw[hL];show s2.heap.objs.size≠_;exact br (cY _),Dfs,hd⟩
  have I3p:=pinD I3 hD3 hDo3 (λv z=>by cases z)
  have hpl : ∀ p ∈ [(s2.heap.objs.size,({ cls := .type "list",data := .seq its.toArray nn }:Obj))],p.1=s2.heap.objs.size:=fun p hp=>by
   have e:=eQ.mp hp
   rw[e]
  rcases turn with⟨stop,qn⟩ | ⟨go,step⟩
  ·have q:=T.done Xb hP hw hK hcb i _ s3 _ H3 (λ_ _=>False) I3p (stat fr3 hpl) st3 stop
   rw[hA]at q
   refine bI q (λr s5 ⟨hr,I5⟩ =>?_) λ_ _ z=>bC z
   subst hr
   exact fin s5 i n ys its nn H3 _ (I5.pins_of λp hp=>absurd hp (by simp)) hD3 (I5.pin _ (aL _ (eQ.mpr rfl))).1 rv3 hz qn
  ·have q:=T.item Xb hP hw hK hcb i _ s3 _ H3 (λ_ _=>False) I3p (stat fr3 hpl) st3 go
   rw[hA]at q
   refine bI q (λr s45 ⟨u,hr,h5⟩ =>?_) λ_ _ z=>bC z
   subst hr
   refine bI h5 (λ_ s5 ⟨y5,H5,I5,r5,yl5,st5,fr5⟩ =>?_) λ_ _ z=>bC z
   have hD5:=(I5.pin _ (aL _ (eQ.mpr rfl)))
   have I5':=I5.pinned (stat fr5 hpl) (T.obj _ _ st5)
   refine bI (hgb _ s5 H5 y5 _ _ I5' r5 (step y5 H5 yl5)) (λ_ s6 ⟨τ,H6,hτ,I6,q6⟩ =>?_) λ_ _ z=>bC z
   have qt:=htb _ s6 _ H6 _ I6 q6
   rw[hP,hw,hA,hxe]at qt
   refine bI qt (λb s7 ⟨H7,I7,q7⟩ =>?_) λ_ _ z=>bC z
   have again : ∀ {s8:Shared}{H8:Hp}{σ8:St},Inv Xb ([(s2.heap.objs.size,({ cls := .type "list",data := .seq its.toArray nn }:Obj))]++qp fp s5.heap) σ8 H8 s8->tn (i+1) s8.heap/\(∀ b∈fp,H8 b=none)/\H8 s2.heap.objs.size=none/\s8.heap.get? s2.heap.objs.size=some { cls := .type "list",data := .seq its.toArray nn }:=fun {s8 H8 σ8} I8=>by
    refine⟨T.keep _ _ _ st5 λb hb o e=>(I8.pin (b,o) (aL _ (aL _ (kj hb e)))).1,λb hb =>?_,?_,?_⟩
    ·obtain⟨o,e,d⟩:=T.obj _ _ st5 b hb
     exact(I8.pin (b,o) (aL _ (aL _ (kj hb e)))).2.1
    ·exact(I8.pin _ (aL _ (bc _ (eQ.mpr rfl)))).2.1
    ·exact(I8.pin _ (aL _ (bc _ (eQ.mpr rfl)))).1
   have forget: ∀{s8:Shared}{H8:Hp}{pl:List (Addr×Obj)},Inv Xb pl (σ++τ) H8 s8->Inv Xb [] (σ++aq xs.length none) H8 s8:=λ{s8 H8 pl} I8=>
    (I8.pins_of (pins':= []) λp hp=>absurd hp (by simp)).weak (by simp[hτ]) λj v hj=>by
     by_cases hjs:j<σ.length
     ·rw[aQ hjs]at hj ⊢;exact hj
     ·rw[ar (by exact bS (by assumption)),eF]at hj
      split at hj <;> simp at hj
   cases b with
   | false=>
     have q7': ∃m',m'<n/\W (i+1) m' ys H7:=q7
     obtain⟨m',hm,w7⟩:=q7'
     obtain⟨a1,a2,a3,a4⟩:=again I7
     exact⟨m',hm,i+1,ys,its,nn,H7,forget I7,a1,a2,a3,a4,rv3,w7⟩
   | true=>
     have q7':te (σ++τ) H7 λy H4 =>∃m',m'<n/\W (i+1) m' (ys++[y]) H4:=q7
     have qe:=heb _ s7 _ H7 _ I7 q7'
     rw[hP,hw,hA,hxe]at qe
     refine bI qe (λuv s8 ⟨y8,H8,I8,r8,m',hm,w8⟩ =>?_) λ_ _ z=>bC z
     obtain⟨a1,a2,a3,a4⟩:=again I8
     have I9:=forget I8
     have hl3:=rv3.length
     refine call_meets F.slot_list_append ⟨_,a4,rfl⟩ F.entry_list_append (F.args_list_append_2 _ _) (PySem.list_append s2.heap.objs.size its.toArray nn uv (by rw[aC];omega)) ⟨a4,?_⟩
     have hup:=CM a4 (·.push uv)
     have e1:(its.toArray.push uv)=(its++[uv]).toArray:=by simp
     rw[e1]at hup
     have I10:Inv Xb [] (σ++aq xs.length none) H8 { s8 with heap:=s8.heap.update s2.heap.objs.size (ff (·.push uv)) }:=
      I9.turned (t':=s8.toks) (λb' u hb hu=>(eP s8.heap (ff (·.push uv)) (dM hb)).trans hu) a3 (by rw[hL];exact br (cY _)) (.inr (by rw[hs0];exact ak _)) cellne (λp hp=>by rw[hpn]at hp;exact absurd hp (by simp))
     refine⟨m',hm,i+1,ys++[y8],its++[uv],_,H8,I10,T.keep _ _ _ a1 λb hb o e =>?_,a2,a3,hup,rv3.append (.cons r8 .nil),w8⟩
     exact(eP s8.heap (ff (·.push uv)) (by first |exact di (hlt b hb) |exact br (hlt b hb))).trans e
 have start:=codeAny_compStart_list (loop it rfl) (T.self X.A 0 s4 _ _ st4' (loop it rfl))
 rw[henv]
 have eL:(s2.heap.push { cls := .type "list",dict:=none,data := .seq ([]:List Value).toArray }).objs.size=Xb.env.locals:=by rw [bA,hL]
 rw[eL]
 exact start
theorem yW(C:iF X N' scope [x]){σ:St}(s₂:Shared)(H₂:Hp)(fp:List Addr)(pl:List (Addr×Obj))(s:Shared)(H:Hp)(v:V)(u:Value)(Q:St->Hp->Prop)(I:Inv (blk X N' scope s₂ H₂ fp) pl (σ++aq [x].length none) H s)(r:RelV v u)(q:gT1 v H Q):
  aR (model X.prog X.w) X.A (assign (.Name x px) (blk X N' scope s₂ H₂ fp).env u) (λ_ s' =>∃τ H',τ.length = [x].length/\Inv (blk X N' scope s₂ H₂ fp) pl (σ++τ) H' s'/\Q τ H') (λ_ _=>False) s:=by
 have hl:σ.length=X.N.length:=by
  have:=I.len
  rw[show(blk X N' scope s₂ H₂ fp).N=N' from rfl,C.len,bg,iO]at this
  omega
 have hlocx:Loc (blk X N' scope s₂ H₂ fp).env.scope x:=by
  rcases C.own x (by simp) with e |e
  ·exact .inl (lookup_relabel_local e)
  ·exact .inr (ky e)
 have hfx:(blk X N' scope s₂ H₂ fp).fn x=true\/(blk X N' scope s₂ H₂ fp).env.scope.names.lookup x=some .local:=by
  rcases C.own x (by simp) with e |e
  ·right;exact lookup_relabel_local e
  ·left;show(scope.names.lookup x==some .cell)=true;rw[e];rfl
 refine wN (nY I C.ndN (i:=X.N.length) (C.last 0 x rfl) hlocx r (λs6 I6 =>?_) hfx)
 have hset:(σ++aq [x].length none).set X.N.length (some v)=σ++[some v]:=by
  rw[<- hl,iP _ _ (ak _)];simp
 rw[hset]at I6
 exact⟨[some v],H,rfl,I6,q⟩
theorem za(hc:X.calm=true)(C:iF X N' scope [x])(hi:PI X (.Name x px) iter wi)
  (ht: ∀s₂ H₂ fp,PTs (blk X N' scope s₂ H₂ fp) ifs tt) (he: ∀s₂ H₂ fp,PE (blk X N' scope s₂ H₂ fp) elt te)
  (hs:autoParam (∀x,foldedSetIterable iter X.env x=pure x) au3._auto_1):
  PE X (.ListComp elt [⟨.Name x px,iter,ifs,0⟩] scope pos) (o6 wi tt te):=by
 intro pins s σ H Q I h
 rw[eval_ListComp]
 refine wpAny_comprehension_free (use:=none) (cl:=ji X.env scope.names []) rfl hs (kE (C.frees I.ok)) C.kind (λy hy e=>mF C.nd (by rw[<- e];exact hy)) ?_
 refine sW (gT:=gT1) hc C hi ht he I h (yW C) λs' L D H' ml hml I' hn h1 h2 h3 h4 q =>?_
 exact⟨ml,hml,λh' hsb=>⟨.ref D,H',I'.turned (t':=s'.toks) (λb o hb e=>(hsb.2 b hb).trans e) hn h1 (.inr h2) h3 h4,rfl,q⟩⟩
theorem Dg{i:Nat}{y:Str}{py spos:Pos}(hN:X.N.Nodup)(hi':X.N[i]? = some y)(hy:Loc X.env.scope y)(hc:X.calm=true)(C:iF X N' scope [x])(hi:PI X (.Name x px) iter wi)
  (ht: ∀s₂ H₂ fp,PTs (blk X N' scope s₂ H₂ fp) ifs tt) (he: ∀s₂ H₂ fp,PE (blk X N' scope s₂ H₂ fp) elt te)
  (hsw:swapsWith (.ListComp elt [⟨.Name x px,iter,ifs,0⟩] scope pos) (some (.Name y py)) spos.line X.env=pure true)
  (hs:autoParam (∀x,foldedSetIterable iter X.env x=pure x) au3._auto_1) (hf:autoParam (X.fn y=true\/X.env.scope.names.lookup y=some .local) au4._auto_1):
  PS X (.Assign [.Name y py] (.ListComp elt [⟨.Name x px,iter,ifs,0⟩] scope pos) spos) (AJ (o6 wi tt te) (jA i)):=by
 intro pins s σ H D I h
 rw[exec_Assign_Name_used _ _ _ _ hsw]
 refine az (wpAny_standAt (az ?_))
 show aR _ X.A (do let _ <- comprehension (.ListComp elt [⟨.Name x px,iter,ifs,0⟩] scope pos) scope X.env _ (newList []) false (eval iter X.env) (some (assign (.Name y py) X.env))) _ _ s
 refine az (bI (wpAny_comprehension_free (use:=some (assign (.Name y py) X.env)) (Q:=λ_ s'=>SP X pins D .next s') (cl:=ji X.env scope.names []) rfl hs (kE (C.frees I.ok)) C.kind (λy hy e=>mF C.nd (by rw[<- e];exact hy))
  (sW (gT:=gT1) (Q:=λv H1=>jA i v σ H1 D.nx) hc C hi ht he I h (yW C) λs' L D' H' ml hml I' hn h1 h2 h3 h4 q =>?_)) (λ_ s' hq=>aJ (aJ hq)) λ_ _ e=>e)
 show aR _ X.A (assign (.Name y py) X.env (.ref D')) _ _ _
 refine wN (tw (v:= .ref D') I' hN hi' hy rfl (λs6 I6 hsb =>?_) hf)
 obtain⟨a,hsb,ha⟩:=hsb
 have haL:L≠a:=by
  rcases ha with e |e
  ·rw[e];exact h1
  ·exact dM (h3 _ _ e)
 refine⟨ml,hml.sameBut hsb haL,λh' hsb' =>?_⟩
 exact⟨_,H',I6.turned (t':=s6.toks) (λb o hb e=>(hsb'.2 b hb).trans e) hn h1 (.inr h2) h3 h4,q⟩
inductive kf:List Expr->List Str->Prop
 | nil:kf [] []
 | cons (x:Str) (p:Pos) {es xs}:kf es xs->kf (.Name x p::es) (x::xs)
theorem kf.each{env:Env}: ∀{es:List Expr}{xs:List Str},kf es xs->(assignEach es env).length=xs.length/\(assignEach es env).findIdx? (·.1)=none
 | _,_,.nil=>⟨rfl,rfl⟩
 | _,_,.cons x p r=>by
   obtain⟨a,b⟩:=kf.each (env:=env) r
   exact⟨by show(assignEach _ env).length+1=_;rw[a];rfl,by
    show(((false,_):Bool×(Value->Sem Unit))::assignEach _ env).findIdx? (·.1)=none
    rw[qj];simp[b]⟩
end
end _L
end
section
namespace HT
open PySem PyProof.Rows
open PySem.SeqAt
open PySem.AutoSeq1 (wpAny_loadPart')
open PySem.MeetsSeq PySem.MeetsSeq2 PySem.MeetsSeq3
section
variable {prog:Program}{w:World}{A:Around}{E:Value->Shared->Prop}{s:Shared}
theorem getItem_tuple_whole{t sl:Addr}{items:Array Value}{vl vu:Value}{lo hi:Option Int}{Q:Value->Shared->Prop}(ht:IsTup s.heap t items)(hs:s.heap.IsSliceOf sl vl vu .none)(pl:IsPart vl lo)(pu:IsPart vu hi)
  (hw:sIx items.size 0 lo=0/\sIx items.size items.size hi=items.size)
  (h:Q (.ref t) s):aR (model prog w) A (getItem (.ref t) (.ref sl)) Q E s:=by
 obtain⟨os,hos,hcs,hds⟩:=id hs
 have hTs:s.TypeIs (.ref sl) "slice":=⟨os,hos,hcs⟩
 unfold getItem
 try with_reducible refine jX ?_
 first |refine az (aJ ?_) |skip
 refine az (wpAny_sequenceKey ht.typeIs (by decide) ?_)
 refine az (wpAny_callSpecial?_slot (name:=CK "__getitem__") ht.typeIs d4
  (yj d4 ht.typeIs entry_tuple_getitem ?_ (args_tuple_getitem _ _)))
 show aR _ _ (pN (.ref t) >>= _) _ _ s
 refine az (tupleItemsOf_ ht ?_)
 refine az (wO hTs ?_)
 rw[if_pos (by decide)]
 refine az (j9 hs pl pu ?_)
 rw[hw.1,hw.2]
 show aR _ _ (if (((0:Nat):Int)==0&&(1:Int)==1&&(items.size - 0)==items.size)=true then _ else _) _ _ s
 rw[if_pos (by simp)]
 obtain⟨o,ho,hc,n,hd⟩:=id ht
 refine az (m:=pO _) ?_
 unfold pO
 refine az (wO ⟨o,ho,hc⟩ (aJ ?_))
 rw[if_pos (by decide)]
 refine az (wpAny_rule ?_)
 first
  | exact aJ ⟨_,rfl,aJ h⟩
  | exact az (aJ (aJ ⟨_,rfl,aJ h⟩))
theorem cat_tup0{t b:Addr}{ws:List Value}{Q:Value->Shared->Prop}(ht:IsTup s.heap t ([]:List Value).toArray)(hb:IsTup s.heap b ws.toArray)(h:Q (.ref b) s):aR (model prog w) A (binaryOp .Add (.ref t) (.ref b)) Q E s:=by
 obtain⟨⟨cls,dd,data,sl⟩,ho,hc,n,hd⟩:=id ht
 obtain⟨⟨cls2,dd2,data2,sl2⟩,ho2,hc2,n2,hd2⟩:=id hb
 simp only at hc hd hc2 hd2
 subst hc hd hc2 hd2
 exact concat_meets ⟨_,ho,rfl⟩ ⟨_,ho2,rfl⟩ noFill_tuple_add seq_tuple_add md kK (kz _ _)
   (tuple_addW0 t b #[] ws.toArray n n2 dd dd2 sl sl2 (by simp)) ⟨ho,ho2,h⟩
end
end HT
end
section
namespace _G
open PySem PySem.SeqAt
open PySem.AutoSeq1 (wpAny_loadPart')
open PySem.MeetsSeq PySem.MeetsSeq2 PySem.MeetsSeq3
theorem rQ(l:Addr)(items:Array Value)(n:Nat)(dd:Option Addr)(sl:Array (Option Value))(x:Value)(e:Value->Bool)(j:Nat)(hj:j<items.size)
  (hit:e items[j]=true) (hno: ∀m (hm:m<items.size),m<j->e items[m]=false):
  Meets (Builtin.«tuple.index» ⟨[.ref l,x],[]⟩)
   (fun A R s=>s.heap.get? l=some { cls := .type "tuple",dict:=dd,data := .seq items n,slots:=sl }/\(∀ y,y∈items->EqAt A.in1 s y x (e y))/\R (.ok (.ret (.int j s.toks))) { s with toks:=s.toks+1 }):=
 .of_wp λprog w A R s h=>by
  obtain⟨hp,g,d,tk,os⟩:=s;obtain⟨hl,he,h⟩:=h
  simp only[Builtin.«tuple.index»,Std.Legacy.Range.forIn_eq_forIn_range']
  wp_walk using fT hl,wpAny_forIn_list _ (λrest b s'=>b.1=none/\s'=⟨hp,g,d,tk,os⟩ /\ ∃i,i<=j/\rest=bj i (items.size - i)) _
  case turn=>
   rintro y rest b s' ⟨hb,rfl,i,hij,hrest⟩
   have hlt:i<items.size:=by
    rcases Nat.lt_or_ge i items.size with q |q
    ·exact q
    ·exact aK (by assumption) (by assumption)
   obtain⟨k,hk⟩ : ∃k,items.size - i=k+1:=⟨items.size - i - 1,by omega⟩
   rw[hk,tN]at hrest
   injection hrest with h1 h2
   subst h1
   have hg:items[y]? = some items[y]:=by simp[hlt]
   rw[hg]
   refine az (he _ (Array.getElem_mem hlt) prog w _ _ ?_)
   by_cases hyj:y=j
   ·subst hyj
    rw[hit]
    wp_walk
    exact⟨_,rfl,h⟩
   ·rw[hno y hlt (by exact kA (by assumption) (by assumption))]
    wp_walk
    exact⟨rfl,rfl,y+1,by exact kA (by assumption) (by assumption),by rw[h2];congr 1;omega⟩
  case fin=>
   rintro ⟨b1,b2⟩ s' ⟨hb,rfl,i,hij,hrest⟩
   exfalso
   have h3:=congrArg List.length hrest
   simp at h3
   omega
  case h=>
   exact⟨rfl,rfl,0,en _,by simp⟩
end _G
end
section
namespace _G
open PySem PySem.SeqAt
open PySem.AutoSeq1 (wpAny_loadPart')
open PySem.MeetsSeq PySem.MeetsSeq2 PySem.MeetsSeq3
theorem oP:fillsNumberSlot (.type "tuple") "mul"=pure false:=
 fillsNumberSlot_seq (id:="tuple.__mul__") (r:=some (.builtin "tuple.__rmul__")) F.slot_tuple_mul.lookup (by decide +kernel) F.slot_tuple_rmul.lookup (by decide +kernel)
theorem t9:seqRepeat? (.type "tuple")=pure (some (.builtin "tuple.__mul__")):=by
 unfold seqRepeat?
 rw [seqSlot_of (T:="tuple") (name:="__mul__") (id:="tuple.__mul__") F.slot_tuple_mul.lookup (by decide +kernel),seqSlot_of (T:="tuple") (name:="__rmul__") (id:="tuple.__rmul__") F.slot_tuple_rmul.lookup (by decide +kernel)]
 rfl
theorem rh(a:Int)(t:Tok)(l:Addr)(items:Array Value)(n:Nat)(dd:Option Addr)(sl:Array (Option Value)):
  Meets (Builtin.«int.__rmul__» ⟨[.int a t,.ref l],[]⟩) (fun _ R s=>s.heap.get? l=some { cls := .type "tuple",dict:=dd,data := .seq items n,slots:=sl }/\R (.ok (.ret Value.notImplemented)) s):=
 .of_wp λprog w A R s h=>by obtain⟨hp,g,d,tk,os⟩:=s;obtain⟨hl,h⟩:=h;wp_walk;exact⟨_,rfl,h⟩
theorem sd(l:Addr)(items:Array Value)(n:Nat)(dd:Option Addr)(sl:Array (Option Value))(t:Tok):
  Meets (Builtin.«tuple.__mul__» ⟨[.ref l,.int 1 t],[]⟩) (fun _ R s=>s.heap.get? l=some { cls := .type "tuple",dict:=dd,data := .seq items n,slots:=sl }/\R (.ok (.ret (bH l))) { s with toks:=s.toks }):=
 .of_wp λprog w A R s h=>by
  obtain⟨hp,g,d,tk,os⟩:=s;obtain⟨hl,h⟩:=h
  have f1:=ql
  have hno: ¬((decide ((1:Int) < -2 ^ 63)||decide ((1:Int) >= 2 ^ 63))=true):=by decide
  have hyes:(items.isEmpty||(1:Int)==1)=true:=by simp
  wp_walk using fT hl
  exact⟨_,rfl,h⟩
theorem yg(l:Addr)(items:Array Value)(n:Nat)(dd:Option Addr)(sl:Array (Option Value))(t:Tok)(he:items.isEmpty=false):
  Meets (Builtin.«tuple.__mul__» ⟨[.ref l,.int 0 t],[]⟩) (fun _ R s=>s.heap.get? l=some { cls := .type "tuple",dict:=dd,data := .seq items n,slots:=sl }/\R (.ok (.ret (bH s.heap.objs.size))) { s with heap:=s.heap.push { cls:=Value.type "tuple",data:=wZ #[] },toks:=s.toks }):=
 .of_wp λprog w A R s h=>by
  obtain⟨hp,g,d,tk,os⟩:=s;obtain⟨hl,h⟩:=h
  have f1:=ql
  have hno: ¬((decide ((0:Int) < -2 ^ 63)||decide ((0:Int) >= 2 ^ 63))=true):=by decide
  have hno1: ¬((items.isEmpty||(0:Int)==1)=true):=by rw[he];decide
  have hyes:(decide ((0:Int)<=0)||items.isEmpty)=true:=by simp
  wp_walk using fT hl
  exact⟨_,rfl,h⟩
theorem xJ(l:Addr)(items:Array Value)(n:Nat)(dd:Option Addr)(sl:Array (Option Value))(k:Int)(t:Tok)(h1: ¬(items.isEmpty||k==1)=true)(h0:0<k)(hk:k<1000)(hz:items.size<1000):
  Meets (Builtin.«tuple.__mul__» ⟨[.ref l,.int k t],[]⟩) (fun _ R s=>s.heap.get? l=some { cls := .type "tuple",dict:=dd,data := .seq items n,slots:=sl } /\
   R (.ok (.ret (bH s.heap.objs.size))) { s with heap:=s.heap.push { cls:=Value.type "tuple",data:=wZ ((aq k.toNat items).foldl (· ++ ·) #[]) },toks:=s.toks }):=
 .of_wp λprog w A R s h=>by
  obtain⟨hp,g,d,tk,os⟩:=s;obtain⟨hl,h⟩:=h
  have f1:=ql
  have hno: ¬((decide (k < -2 ^ 63)||decide (k >= 2 ^ 63))=true):=by
   rw[ny,decide_eq_true_eq,decide_eq_true_eq];omega
  have he:items.isEmpty=false:=by
   cases q:items.isEmpty with
   | false=>rfl
   | true=>rw[q]at h1;simp at h1
  have hno2: ¬((decide (k<=0)||items.isEmpty)=true):=by
   rw[he,Bool.or_false,decide_eq_true_eq];omega
  have hp1:(items.size:Int)*k<=1000000:=by
   have a1:(items.size:Int)*k<=1000*k:=Int.mul_le_mul_of_nonneg_right (by omega) (by omega)
   omega
  have hm1: ¬((items.size:Int)*k > (2 ^ 63 - 1) / 8):=by omega
  have hm2: ¬(pP ((items.size:Int)*k)=true):=by
   unfold pP
   simp only[sizeLine_eq,decide_eq_true_eq,gt_iff_lt]
   omega
  have hsz:(mU (λx1 x2=>x1++x2) #[] (aq k.toNat items)).size<=sizeLine:=by
   have e: ∀(m:Nat) (a:Array Value),(mU (λx1 x2=>x1++x2) a (aq m items)).size=a.size+m*items.size:=by
    intro m
    induction m with
    | zero=>intro a;simp
    | succ m ih=>intro a;rw[ck,uY,ih];simp;rw[Nat.succ_mul];omega
   rw[e]
   have a2:k.toNat*items.size<=1000*items.size:=fY _ (by omega)
   rw[sizeLine_eq]
   simp;omega
  wp_walk using fT hl
  rw[if_neg hno]
  wp_walk using fT hl
  rw[if_neg h1]
  wp_walk using fT hl
  rw[if_neg hm1]
  wp_walk using fT hl
  all_goals first |exact⟨_,rfl,h⟩ |skip
end _G
end
section
namespace _G
open PySem PySem.Spec _L
open PyProof.Rows hiding St
mutual
noncomputable def RU(H:Hp)(μ:List Addr):U->V->Prop
 | .non,v=>v = .non
 | .bl b,v=>v = .bl b
 | .int i,v=>v = .int i
 | .str x,v=>v = .str x
 | .tup us,v =>∃a vs,v = .ref a/\H a=some (.tup vs)/\RUs H μ us vs
 | .ref n,v =>∃a,v = .ref a/\μ[n]? = some a
 | .obj a,v=>v = .ref a
noncomputable def RUs(H:Hp)(μ:List Addr):List U->List V->Prop
 | [],vs=>vs = []
 | u::us,vs =>∃v r,vs=v::r/\RU H μ u v/\RUs H μ us r
end
structure bf(H H':Hp):Prop where
 t: ∀a vs,H a=some (.tup vs)->H' a=some (.tup vs)
 f: ∀a o u,H a=some (.frz o u)->H' a=some (.frz o u)
noncomputable instance{H H':Hp}:CoeFun (bf H H') λ_ =>∀a vs,H a=some (.tup vs)->H' a=some (.tup vs):=⟨bf.t⟩
noncomputable def Pre(μ μ':List Addr):Prop:= ∃t,μ'=μ++t
theorem bf.refl(H:Hp):bf H H:=⟨λ_ _ h=>h,λ_ _ _ h=>h⟩
theorem bf.trans{H H1 H2:Hp}(a:bf H H1)(b:bf H1 H2):bf H H2:=⟨λc vs h=>b c vs (a c vs h),λc o u h=>b.f c o u (a.f c o u h)⟩
theorem Pre.refl(μ:List Addr):Pre μ μ:=⟨[],by simp⟩
theorem Pre.trans{μ μ1 μ2:List Addr}(a:Pre μ μ1)(b:Pre μ1 μ2):Pre μ μ2:=by
 obtain⟨t,rfl⟩:=a
 obtain⟨u,rfl⟩:=b
 exact⟨t++u,by simp⟩
theorem Pre.get{μ μ':List Addr}(p:Pre μ μ'){n:Nat}{a:Addr}(h:μ[n]? = some a):μ'[n]? = some a:=by
 obtain⟨t,rfl⟩:=p
 have hn:n<μ.length:=(af.mp h).1
 rw[aQ hn];exact h
theorem bf.new{H:Hp}{p:Addr}{o:HO}(h:H p=none):bf H (upd H p o):=⟨λa vs e=>by rw[aZ (aW e h)];exact e,λa _ _ e=>by rw[aZ (aW e h)];exact e⟩
theorem bf.wr{H:Hp}{p:Addr}{xs ys:List V}(h:H p=some (.lst xs)):bf H (upd H p (.lst ys)):=⟨λa vs e=>by
 rw[aZ (og e h (by intro z;cases z))];exact e,λa _ _ e=>by
 rw[aZ (og e h (by intro z;cases z))];exact e⟩
mutual
theorem RU.mono{H H':Hp}{μ μ':List Addr}(k:bf H H')(p:Pre μ μ'): ∀(u:U) (v:V),RU H μ u v->RU H' μ' u v
 | .non,_,h=>by simpa [RU]using h
 | .bl _,_,h=>by simpa [RU]using h
 | .int _,_,h=>by simpa [RU]using h
 | .str _,_,h=>by simpa [RU]using h
 | .obj _,_,h=>by simpa [RU]using h
 | .ref n,v,h=>by
   simp only[RU]at h ⊢
   obtain⟨a,e,q⟩:=h
   exact⟨a,e,p.get q⟩
 | .tup us,v,h=>by
   simp only[RU]at h ⊢
   obtain⟨a,vs,e,q,r⟩:=h
   exact⟨a,vs,e,k a vs q,RUs.mono k p us vs r⟩
theorem RUs.mono{H H':Hp}{μ μ':List Addr}(k:bf H H')(p:Pre μ μ'): ∀(us:List U) (vs:List V),RUs H μ us vs->RUs H' μ' us vs
 | [],_,h=>by simpa [RUs]using h
 | u::us,vs,h=>by
   simp only[RUs]at h ⊢
   obtain⟨v,r,e,a,b⟩:=h
   exact⟨v,r,e,RU.mono k p u v a,RUs.mono k p us r b⟩
end
section
variable {H:Hp}{μ:List Addr}
theorem RUs.nil:RUs H μ [] []:=by simp[RUs]
theorem RUs.cons{u:U}{us:List U}{v:V}{vs:List V}(a:RU H μ u v)(b:RUs H μ us vs):RUs H μ (u::us) (v::vs):=by
 simp only[RUs];exact⟨v,vs,rfl,a,b⟩
theorem RUs.inv{u:U}{us:List U}{vs:List V}(h:RUs H μ (u::us) vs): ∃v r,vs=v::r/\RU H μ u v/\RUs H μ us r:=by simpa only [RUs]using h
theorem RUs.nil_inv{vs:List V}(h:RUs H μ [] vs):vs = []:=by simpa only [RUs]using h
theorem RUs.len: ∀{us:List U}{vs:List V},RUs H μ us vs->us.length=vs.length
 | [],vs,h=>by rw[h.nil_inv];rfl
 | u::us,vs,h=>by
   obtain⟨v,r,rfl,_,b⟩:=h.inv
   simp[b.len]
theorem RUs.get: ∀{us:List U}{vs:List V}{i:Nat}{u:U},RUs H μ us vs->us[i]? = some u -> ∃v,vs[i]? = some v/\RU H μ u v
 | [],vs,i,u,h,e=>by simp at e
 | x::us,vs,0,u,h,e=>by
   obtain⟨v,r,rfl,a,b⟩:=h.inv
   simp at e;subst e
   exact⟨v,rfl,a⟩
 | x::us,vs,i+1,u,h,e=>by
   obtain⟨v,r,rfl,a,b⟩:=h.inv
   obtain⟨w,h1,h2⟩:=RUs.get (i:=i) b (by simpa using e)
   exact⟨w,by simpa using h1,h2⟩
theorem RUs.append: ∀{us ws:List U}{vs xs:List V},RUs H μ us vs->RUs H μ ws xs->RUs H μ (us++ws) (vs++xs)
 | [],ws,vs,xs,h,g=>by rw[h.nil_inv];exact g
 | u::us,ws,vs,xs,h,g=>by
   obtain⟨v,r,rfl,a,b⟩:=h.inv
   exact .cons a (b.append g)
theorem RUs.set{u:U}{v:V}(q:RU H μ u v): ∀{us:List U}{vs:List V} (i:Nat),RUs H μ us vs->RUs H μ (us.set i u) (vs.set i v)
 | [],vs,i,h=>by rw[h.nil_inv];simpa using RUs.nil
 | x::us,vs,0,h=>by
   obtain⟨w,r,rfl,a,b⟩:=h.inv
   exact .cons q b
 | x::us,vs,i+1,h=>by
   obtain⟨w,r,rfl,a,b⟩:=h.inv
   exact .cons a (RUs.set q i b)
theorem RUs.eraseIdx: ∀{us:List U}{vs:List V} (i:Nat),RUs H μ us vs->RUs H μ (us.eraseIdx i) (vs.eraseIdx i)
 | [],vs,i,h=>by rw[h.nil_inv];simpa using RUs.nil
 | x::us,vs,0,h=>by
   obtain⟨w,r,rfl,a,b⟩:=h.inv
   exact b
 | x::us,vs,i+1,h=>by
   obtain⟨w,r,rfl,a,b⟩:=h.inv
   exact .cons a (RUs.eraseIdx i b)
theorem RUs.drop: ∀{us:List U}{vs:List V} (i:Nat),RUs H μ us vs->RUs H μ (us.drop i) (vs.drop i)
 | us,vs,0,h=>h
 | [],vs,i+1,h=>by rw[h.nil_inv];simpa using RUs.nil
 | x::us,vs,i+1,h=>by
   obtain⟨w,r,rfl,a,b⟩:=h.inv
   exact RUs.drop i b
theorem RUs.take: ∀{us:List U}{vs:List V} (i:Nat),RUs H μ us vs->RUs H μ (us.take i) (vs.take i)
 | us,vs,0,h=>by simpa using RUs.nil
 | [],vs,i+1,h=>by rw[h.nil_inv];simpa using RUs.nil
 | x::us,vs,i+1,h=>by
   obtain⟨w,r,rfl,a,b⟩:=h.inv
   exact .cons a (RUs.take i b)
theorem RUs.dropLast{us:List U}{vs:List V}(h:RUs H μ us vs):RUs H μ us.dropLast vs.dropLast:=by
 rw[CN,CN,h.len];exact h.take _
theorem RUs.ints: ∀(ns:List Int),RUs H μ (ns.map U.int) (ns.map V.int)
 | [] => .nil
 | n::ns => .cons (by simp[RU]) (RUs.ints ns)
end
structure KX where
 K:ah
 caps:List U
 capv:List V
 cds:List (Addr×Obj)
 tabs:List (Addr×Str)
noncomputable instance:Coe KX ah:=⟨KX.K⟩
noncomputable def fz:HO:= .ext λ_=>True
noncomputable def xW(H:Hp)(P:Addr)(q:Str):Prop:= ∃ps:Array Value,H P=some (.tbl ps)/\TriplesOk ps.toList /\
 ∀pos cv,codeAmong pos ps.toList=some cv -> ∃c oc vs t,cv = .ref c/\H c=some (.frz oc fz)/\oc.data = .fields vs/\vs[1]? = some (.str q t)
structure HX(K:KX)(μ:List Addr)(H:Hp):Prop where
 cap:RUs H μ K.caps K.capv
 cds: ∀q∈K.cds,H q.1=some (.frz q.2 fz)
 tab: ∀q∈K.tabs,xW H q.1 q.2
theorem HX.upd{K:KX}{μ μ':List Addr}{H:Hp}{p:Addr}{o':HO}(h:HX K μ H)(kp:bf H (upd H p o'))(pre:Pre μ μ')(nf: ∀o,H p=some o->(∀o' u,o≠.frz o' u) /\ ∀ps,o≠.tbl ps):HX K μ' (upd H p o'):=by
 have f: ∀a o u,H a=some (.frz o u)->_L.upd H p o' a=some (.frz o u):=λa o u e=>by
  rw[aZ]
  ·exact e
  ·rintro rfl
   exact(nf _ e).1 o u rfl
 refine⟨RUs.mono kp pre _ _ h.cap,λq hq=>f _ _ _ (h.cds q hq),λq hq =>?_⟩
 obtain⟨ps,e,tr,al⟩:=h.tab q hq
 refine⟨ps,?_,tr,λpos cv hc =>?_⟩
 ·rw[aZ]
  ·exact e
  ·intro z
   rw[z]at e
   exact(nf _ e).2 ps rfl
 ·obtain⟨c,oc,vs,t,e1,e2,e3,e4⟩:=al pos cv hc
  exact⟨c,oc,vs,t,e1,f _ _ _ e2,e3,e4⟩
noncomputable def dV{κ:Type}(kvs:List (κ×U))(vs:List V):List (κ×V):=(kvs.map (·.1)).zip vs
noncomputable def mS(K:KX)(H:Hp)(μ:List Addr)(a:Addr):Cell->Prop
 | .lst us =>∃vs,H a=some (.lst vs)/\RUs H μ us vs
 | .frz us =>∃vs,((∃o,H a=some (.frz o (.lst vs)))\/SqL K (λ_=>none) a vs)/\RUs H μ us vs
 | .dic kvs =>∃vs,H a=some (.dK (dV kvs vs))/\RUs H μ (kvs.map (·.2)) vs
 | .dit false kvs =>∃vs,H a=some (.dT (dV kvs vs))/\RUs H μ (kvs.map (·.2)) vs
 | .dit true kvs =>∃vs,(∃o,H a=some (.frz o (.dT (dV kvs vs))))/\RUs H μ (kvs.map (·.2)) vs
noncomputable def Cell.own:Cell->Bool
 | .frz _=>false
 | .dit f _ => !f
 | _=>true
structure HR(K:KX)(μ:List Addr)(S:Sto)(H:Hp):Prop where
 len:μ.length=S.length
 inj: ∀(n m:Nat) (c d:Cell),S[n]? = some c->S[m]? = some d->c.own=true->d.own=true->μ[n]? = μ[m]? -> n=m
 cell: ∀(n:Nat) (c:Cell) (a:Addr),S[n]? = some c->μ[n]? = some a->mS K H μ a c
 ext:HX K μ H
structure ER(H:Hp)(μ:List Addr)(ρ:Rho)(σ:St):Prop where
 len:ρ.length=σ.length
 get: ∀(i:Nat) (u:U),ρ[i]? = some (some u) -> ∃v,σ[i]? = some (some v)/\RU H μ u v
theorem ER.mono{H H':Hp}{μ μ':List Addr}{ρ:Rho}{σ:St}(e:ER H μ ρ σ)(k:bf H H')(p:Pre μ μ'):ER H' μ' ρ σ:=
 ⟨e.len,λi u h=>let ⟨v,a,b⟩:=e.get i u h;⟨v,a,RU.mono k p u v b⟩⟩
theorem ER.set{H:Hp}{μ:List Addr}{ρ:Rho}{σ:St}(e:ER H μ ρ σ){u:U}{v:V}(r:RU H μ u v)(i:Nat):ER H μ (ρ.set i (some u)) (σ.set i (some v)):=by
 refine⟨by simpa using e.len,λj w h =>?_⟩
 by_cases hj:i=j
 ·subst hj
  rw[List.getElem?_set]at h
  simp only[if_true]at h
  split at h
  ·rename_i hl
   cases h
   refine⟨v,?_,r⟩
   rw[aI (by rw[<- e.len];exact hl)]
  ·cases h
 ·rw[ay hj]at h
  obtain⟨x,a,b⟩:=e.get j w h
  exact⟨x,by rw[ay hj];exact a,b⟩
theorem ER.push{H:Hp}{μ:List Addr}{ρ:Rho}{σ:St}(e:ER H μ ρ σ){u:U}{v:V}(r:RU H μ u v):ER H μ (ρ++[some u]) (σ++[some v]):=by
 refine⟨by simp[e.len],λj w h =>?_⟩
 by_cases hj:j<ρ.length
 ·rw[aQ hj]at h
  obtain⟨x,a,b⟩:=e.get j w h
  exact⟨x,by rw[aQ (by rw[<- e.len];exact hj)];exact a,b⟩
 ·have hj':j=ρ.length:=by
   have:=(af.mp h).1
   simp at this;omega
  subst hj'
  rw[ar (ak _)]at h
  simp at h;subst h
  refine⟨v,?_,r⟩
  rw[e.len,ar (ak _)];simp
section
variable {K:KX}{H:Hp}{μ:List Addr}{S:Sto}
theorem mS.mono{H':Hp}{μ':List Addr}{a:Addr}{c:Cell}(h:mS K H μ a c)(k:bf H H')(p:Pre μ μ')(l:c.own=true->H' a=H a)(f: ∀o u,H a=some (.frz o u)->H' a=some (.frz o u)):mS K H' μ' a c:=by
 cases c with
 | lst us=>
   obtain⟨vs,e,r⟩:=h
   exact⟨vs,(l rfl).trans e,RUs.mono k p us vs r⟩
 | dic kvs=>
   obtain⟨vs,e,r⟩:=h
   exact⟨vs,(l rfl).trans e,RUs.mono k p _ vs r⟩
 | dit b kvs=>
   cases b with
   | false=>
     obtain⟨vs,e,r⟩:=h
     exact⟨vs,(l rfl).trans e,RUs.mono k p _ vs r⟩
   | true=>
     obtain⟨vs,⟨o,e⟩,r⟩:=h
     exact⟨vs,⟨o,f o _ e⟩,RUs.mono k p _ vs r⟩
 | frz us=>
   obtain⟨vs,e,r⟩:=h
   refine⟨vs,?_,RUs.mono k p us vs r⟩
   rcases e with⟨o,e⟩ |e
   ·exact .inl ⟨o,f o _ e⟩
   ·exact .inr e
theorem mS.has{a:Addr}{c:Cell}(h:mS K H μ a c)(ho:c.own=true): ∃o,H a=some o/\(∀vs,o≠.tup vs)/\(∀o' u,o≠.frz o' u) /\ ∀ps,o≠.tbl ps:=by
 cases c with
 | lst us=>obtain⟨vs,e,r⟩:=h;exact⟨_,e,λ_ z=>(by cases z),λ_ _ z=>(by cases z),λ_ z=>(by cases z)⟩
 | dic kvs=>obtain⟨vs,e,r⟩:=h;exact⟨_,e,λ_ z=>(by cases z),λ_ _ z=>(by cases z),λ_ z=>(by cases z)⟩
 | dit b kvs=>
   cases b with
   | false=>obtain⟨vs,e,r⟩:=h;exact⟨_,e,λ_ z=>(by cases z),λ_ _ z=>(by cases z),λ_ z=>(by cases z)⟩
   | true=>cases ho
 | frz us=>cases ho
theorem bf.wrG{H:Hp}{p:Addr}{o o':HO}(h:H p=some o)(ht: ∀vs,o≠.tup vs)(hf: ∀ob u,o≠.frz ob u):bf H (upd H p o'):=⟨λa vs e=>by
 rw[aZ (og e h (dM (ht vs)))];exact e,λa ob u e=>by
 rw[aZ (og e h (dM (hf ob u)))];exact e⟩
theorem HR.get(h:HR K μ S H){n:Nat}{c:Cell}(e:S[n]? = some c): ∃a,μ[n]? = some a/\mS K H μ a c:=by
 have hn:n<μ.length:=by rw[h.len];exact(af.mp e).1
 exact⟨μ[n],by simp[hn],h.cell n c _ e (by simp[hn])⟩
theorem HR.wrC(h:HR K μ S H){n:Nat}{c d:Cell}{a:Addr}{o':HO}(e:S[n]? = some c)(ea:μ[n]? = some a)(hc:c.own=true)(r:mS K (upd H a o') μ a d):HR K μ (S.set n d) (upd H a o'):=by
 obtain⟨o,e0,nt,nf,nb⟩:=(h.cell n _ a e ea).has hc
 have kp:bf H (upd H a o'):=bf.wrG e0 nt nf
 have hn:n<S.length:=(af.mp e).1
 have pick: ∀(m:Nat) (c':Cell),(S.set n d)[m]? = some c'->c'.own=true -> ∃c'',S[m]? = some c''/\c''.own=true:=λm c' q hq=>by
  by_cases hm:n=m
  ·subst hm;exact⟨c,e,hc⟩
  ·rw[ay hm]at q;exact⟨c',q,hq⟩
 refine⟨by rw[fq];exact h.len,λi j u1 u2 q1 q2 o1 o2 q3 =>?_,λm c' b q1 q2 =>?_,h.ext.upd kp (Pre.refl _) λo1 q=>by rw[e0]at q;cases q;exact⟨nf,nb⟩⟩
 ·obtain⟨w1,z1,y1⟩:=pick i u1 q1 o1
  obtain⟨w2,z2,y2⟩:=pick j u2 q2 o2
  exact h.inj i j w1 w2 z1 z2 y1 y2 q3
 ·by_cases hm:n=m
  ·subst hm
   rw[aI hn]at q1
   cases q1
   rw[ea]at q2;cases q2
   exact r
  ·rw[ay hm]at q1
   refine(h.cell m c' b q1 q2).mono kp (Pre.refl _) (λhc' =>?_) λo u hf =>?_
   ·refine aZ ?_
    rintro rfl
    exact hm (h.inj n m c c' e q1 hc hc' (ea.trans q2.symm))
   ·rw[aZ (og hf e0 (dM (nf o u)))];exact hf
theorem HR.wr(h:HR K μ S H){n:Nat}{us ws:List U}{vs:List V}{a:Addr}(e:S[n]? = some (.lst us))(ea:μ[n]? = some a)(r:RUs H μ ws vs):HR K μ (S.set n (.lst ws)) (upd H a (.lst vs)):=by
 obtain⟨vs0,e0,r0⟩:=h.cell n _ a e ea
 exact h.wrC e ea rfl ⟨vs,cq,RUs.mono (bf.wr e0) (Pre.refl _) ws vs r⟩
theorem HR.newC(h:HR K μ S H){d:Cell}{p:Addr}{o':HO}(hp:H p=none)(hd:d.own=true)(r:mS K (upd H p o') (μ++[p]) p d):HR K (μ++[p]) (S++[d]) (upd H p o'):=by
 have kp:bf H (upd H p o'):=bf.new hp
 have pre:Pre μ (μ++[p]):=⟨[p],rfl⟩
 have old: ∀(n:Nat) (c:Cell),n<S.length->(S++[d])[n]? = some c->S[n]? = some c:=λn c hn q=>by rwa[aQ hn]at q
 have last: ∀(n:Nat) (c:Cell),¬n<S.length->(S++[d])[n]? = some c->n=S.length:=λn c hn q=>by
  have:=(af.mp q).1
  simp at this;omega
 have fresh: ∀(n:Nat) (c:Cell),S[n]? = some c->c.own=true -> ∀a,μ[n]? = some a->a≠p:=λn c q hc a qa=>by
  obtain⟨o,e,_⟩:=(h.cell n _ a q qa).has hc
  exact aW e hp
 have mulast:(μ++[p])[S.length]? = some p:=by rw[<- h.len,ar (ak _)];simp
 have muold: ∀(n:Nat),n<S.length->(μ++[p])[n]? = μ[n]? := λn hn=>aQ (by rw[h.len];exact hn)
 refine⟨by simp[h.len],λi j u1 u2 q1 q2 o1 o2 q3 =>?_,λm c b q1 q2 =>?_,h.ext.upd kp pre λo1 q=>by rw[hp]at q;cases q⟩
 ·by_cases hi:i<S.length
  ·by_cases hj:j<S.length
   ·rw[muold i hi,muold j hj]at q3
    exact h.inj i j u1 u2 (old i _ hi q1) (old j _ hj q2) o1 o2 q3
   ·have e:=last j _ hj q2
    subst e
    obtain⟨a,ha,_⟩:=h.get (old i _ hi q1)
    rw[muold i hi,mulast,ha]at q3
    exact absurd (bL q3) (fresh i u1 (old i _ hi q1) o1 a ha)
  ·have e:=last i _ hi q1
   subst e
   by_cases hj:j<S.length
   ·obtain⟨a,ha,_⟩:=h.get (old j _ hj q2)
    rw[muold j hj,mulast,ha]at q3
    exact absurd (bL q3).symm (fresh j u2 (old j _ hj q2) o2 a ha)
   ·exact(last j _ hj q2).symm
 ·by_cases hm:m<S.length
  ·rw[muold m hm]at q2
   refine(h.cell m c b (old m c hm q1) q2).mono kp pre (λhc =>?_) λo u hf =>?_
   ·exact aZ (fresh m c (old m _ hm q1) hc b q2)
   ·rw[aZ (aW hf hp)];exact hf
  ·have e:=last m c hm q1
   subst e
   rw[mulast]at q2;cases q2
   rw[ar (ak _)]at q1
   simp at q1;subst q1
   exact r
theorem HR.new(h:HR K μ S H){us:List U}{vs:List V}{p:Addr}(hp:H p=none)(r:RUs H μ us vs):HR K (μ++[p]) (S++[.lst us]) (upd H p (.lst vs)):=
 h.newC hp rfl ⟨vs,cq,RUs.mono (bf.new hp) ⟨[p],rfl⟩ us vs r⟩
theorem HR.tup(h:HR K μ S H){vs:List V}{p:Addr}(hp:H p=none):HR K μ S (upd H p (.tup vs)):=by
 have kp:bf H (upd H p (.tup vs)):=bf.new hp
 refine⟨h.len,h.inj,λm c b q1 q2=>(h.cell m c b q1 q2).mono kp (Pre.refl _) (λhc =>?_) λo u hf =>?_,h.ext.upd kp (Pre.refl _) λo1 q=>by rw[hp]at q;cases q⟩
 ·obtain⟨o,e,_⟩:=(h.cell m _ b q1 q2).has hc
  exact aZ (aW e hp)
 ·rw[aZ (aW hf hp)];exact hf
theorem HR.sq(h:HR K μ S H){n:Nat}{us:List U}(e:getL S n=some us): ∃a vs,μ[n]? = some a/\SqL K H a vs/\RUs H μ us vs:=by
 unfold getL at e
 split at e
 ·rename_i ws q
  cases e
  obtain⟨a,ha,vs,e1,r⟩:=h.get q
  exact⟨a,vs,ha,SqL.of e1,r⟩
 ·rename_i ws q
  cases e
  obtain⟨a,ha,vs,e1,r⟩:=h.get q
  refine⟨a,vs,ha,?_,r⟩
  rcases e1 with⟨o,e1⟩ |e1
  ·exact .inl (.inr ⟨o,e1⟩)
  ·rcases e1 with (e1 | ⟨o,e1⟩) |e1
   ·cases e1
   ·cases e1
   ·exact .inr e1
 ·cases e
 ·cases e
 ·cases e
end
noncomputable def Aft(K:KX)(μ:List Addr)(H:Hp)(u:U)(S':Sto)(Q:VK):Prop:= ∀μ' v H',Pre μ μ'->bf H H'->HR K μ' S' H'->RU H' μ' u v->Q v H'
noncomputable def tM(K:KX)(m:ME):TE:=λσ H Q =>∃μ S ρ u S',HR K μ S H/\ER H μ ρ σ/\m ρ S=some (u,S')/\Aft K μ H u S' Q
noncomputable def tMT(K:KX)(m:MT):TT:=λσ H Q =>∃μ S ρ b S',HR K μ S H/\ER H μ ρ σ/\m ρ S=some (b,S') /\ ∀μ' H',Pre μ μ'->bf H H'->HR K μ' S' H'->Q b H'
noncomputable def tMA(K:KX)(m:MA):TA:=λσ H Q =>∃μ S ρ us S',HR K μ S H/\ER H μ ρ σ/\m ρ S=some (us,S') /\ ∀μ' vs H',Pre μ μ'->bf H H'->HR K μ' S' H'->RUs H' μ' us vs->Q vs H'
noncomputable def FlP(K:KX)(μ:List Addr)(H:Hp)(D:Ends):Fl×Rho×Sto->Prop
 | (.nx,ρ',S') =>∀μ' σ' H',Pre μ μ'->bf H H'->HR K μ' S' H'->ER H' μ' ρ' σ'->D.nx σ' H'
 | (.bk,ρ',S') =>∀μ' σ' H',Pre μ μ'->bf H H'->HR K μ' S' H'->ER H' μ' ρ' σ'->D.bk σ' H'
 | (.ct,ρ',S') =>∀μ' σ' H',Pre μ μ'->bf H H'->HR K μ' S' H'->ER H' μ' ρ' σ'->D.ct σ' H'
 | (.rt u,_,S')=>Aft K μ H u S' D.rt
noncomputable def tMS(K:KX)(m:MS):TS:=λD σ H =>∃μ S ρ r,HR K μ S H/\ER H μ ρ σ/\m ρ S=some r/\FlP K μ H D r
theorem Aft.mono{K:KX}{μ μ1:List Addr}{H H1:Hp}{u:U}{S':Sto}{Q:VK}(a:Aft K μ H u S' Q)(p:Pre μ μ1)(k:bf H H1):Aft K μ1 H1 u S' Q:=
 λμ' v H' p' k'=>a μ' v H' (p.trans p') (k.trans k')
theorem FlP.mono{K:KX}{μ μ1:List Addr}{H H1:Hp}{D:Ends}{r:Fl×Rho×Sto}(a:FlP K μ H D r)(p:Pre μ μ1)(k:bf H H1):FlP K μ1 H1 D r:=by
 obtain⟨f,ρ',S'⟩:=r
 cases f with
 | nx=>exact λμ' σ' H' p' k'=>a μ' σ' H' (p.trans p') (k.trans k')
 | bk=>exact λμ' σ' H' p' k'=>a μ' σ' H' (p.trans p') (k.trans k')
 | ct=>exact λμ' σ' H' p' k'=>a μ' σ' H' (p.trans p') (k.trans k')
 | rt u=>exact Aft.mono a p k
end _G
end
section
namespace _G
open PySem PySem.Spec _L
open PyProof.Rows hiding St
section
variable {K:KX}{σ:St}{H:Hp}{Q:VK}
theorem o8{A B:Prop}(h:A):if true=true then A else B:=by rw[if_pos rfl];exact h
theorem pq{A B:Prop}(h:B):if false=true then A else B:=by rw[if_neg bE];exact h
theorem Lf{i:Nat}(h:tM K (ae i) σ H Q):EO i σ H Q:=by
 obtain⟨μ,S,ρ,u,S',hr,er,e,k⟩:=h
 unfold ae at e
 split at e
 ·rename_i w q
  cases e
  obtain⟨v,hv,ru⟩:=er.get i _ q
  exact⟨v,hv,k μ v H (Pre.refl _) (bf.refl _) hr ru⟩
 ·cases e
theorem r_c{u:U}{v:V}(hv: ∀H μ,RU H μ u v)(h:tM K (mC u) σ H Q):tC v σ H Q:=by
 obtain⟨μ,S,ρ,u',S',hr,er,e,k⟩:=h
 cases e
 exact k μ v H (Pre.refl _) (bf.refl _) hr (hv _ _)
noncomputable def OpU(K:KX)(r:R2)(f:F2):Prop:= ∀(μ:List Addr) (S:Sto) (H:Hp) (x y:U) (vx vy:V) (u:U) (S':Sto) (Q:VK),HR K μ S H->RU H μ x vx->RU H μ y vy->f x y S=some (u,S')->Aft K μ H u S' Q->r vx vy H Q
theorem ua{r:R2}{f:F2}{a b:ME}(o:OpU K r f)(h:tM K (m2 f a b) σ H Q):tOp r (tM K a) (tM K b) σ H Q:=by
 obtain⟨μ,S,ρ,u,S',hr,er,e,k⟩:=h
 obtain⟨x,S1,e1,e⟩:=bq e
 obtain⟨y,S2,e2,e⟩:=bq e
 refine⟨μ,S,ρ,x,S1,hr,er,e1,λμ1 vx H1 p1 k1 hr1 rx =>?_⟩
 refine⟨μ1,S1,ρ,y,S2,hr1,er.mono k1 p1,e2,λμ2 vy H2 p2 k2 hr2 ry =>?_⟩
 exact o μ2 S2 H2 x y vx vy u S' Q hr2 (RU.mono k2 p2 x vx rx) ry e (k.mono (p1.trans p2) (k1.trans k2))
noncomputable def UnU(K:KX)(r:V->Hp->VK->Prop)(f:U->Sto->Res U):Prop:= ∀(μ:List Addr) (S:Sto) (H:Hp) (x:U) (vx:V) (u:U) (S':Sto) (Q:VK),HR K μ S H->RU H μ x vx->f x S=some (u,S')->Aft K μ H u S' Q->r vx H Q
theorem LI{r:V->Hp->VK->Prop}{f:U->Sto->Res U}{a:ME}(o:UnU K r f)(h:tM K (m1 f a) σ H Q):tUn r (tM K a) σ H Q:=by
 obtain⟨μ,S,ρ,u,S',hr,er,e,k⟩:=h
 obtain⟨x,S1,e1,e⟩:=bq e
 refine⟨μ,S,ρ,x,S1,hr,er,e1,λμ1 vx H1 p1 k1 hr1 rx =>?_⟩
 exact o μ1 S1 H1 x vx u S' Q hr1 rx e (k.mono p1 k1)
theorem Aft.now{μ:List Addr}{S:Sto}{u:U}{v:V}(k:Aft K μ H u S Q)(hr:HR K μ S H)(r:RU H μ u v):Q v H:=k μ v H (Pre.refl _) (bf.refl _) hr r
theorem eG{μ:List Addr}{i:Int}:RU H μ (.int i) (.int i):=by simp[RU]
theorem lE{μ:List Addr}{b:Bool}:RU H μ (.bl b) (.bl b):=by simp[RU]
theorem qB{μ:List Addr}:RU H μ .non .non:=by simp[RU]
theorem i9{μ:List Addr}{us:List U}{vs:List V}{a:Addr}(e:H a=some (.tup vs))(r:RUs H μ us vs):RU H μ (.tup us) (.ref a):=by
 simp only[RU];exact⟨a,vs,rfl,e,r⟩
theorem tV{μ:List Addr}{n:Nat}{a:Addr}(e:μ[n]? = some a):RU H μ (.ref n) (.ref a):=by
 simp only[RU];exact⟨a,rfl,e⟩
theorem cJ{μ:List Addr}{i:Int}{v:V}(h:RU H μ (.int i) v):v = .int i:=by simpa only [RU]using h
theorem kR{μ:List Addr}{b:Bool}{v:V}(h:RU H μ (.bl b) v):v = .bl b:=by simpa only [RU]using h
theorem iZ{μ:List Addr}{us:List U}{v:V}(h:RU H μ (.tup us) v): ∃a vs,v = .ref a/\H a=some (.tup vs)/\RUs H μ us vs:=by simpa only [RU]using h
theorem gR{μ:List Addr}{n:Nat}{v:V}(h:RU H μ (.ref n) v): ∃a,v = .ref a/\μ[n]? = some a:=by simpa only [RU]using h
theorem y0{g:Int->Int->V}{f:F2}{k:Int->Int->U}(hf: ∀x y S u S',f x y S=some (u,S') -> ∃i j,x = .int i/\y = .int j/\u=k i j/\S'=S)(hg: ∀H μ i j,RU H μ (k i j) (g i j)):OpU K (rI0 g) f:=by
 intro μ S H x y vx vy u S' Q hr rx ry e a
 obtain⟨i,j,rfl,rfl,rfl,rfl⟩:=hf x y S u S' e
 exact⟨i,j,cJ rx,cJ ry,a.now hr (hg _ _ _ _)⟩
theorem xD{C:Int->Int->Prop}{g:Int->Int->V}{f:F2}{k:Int->Int->U}(hf: ∀x y S u S',f x y S=some (u,S') -> ∃i j,x = .int i/\y = .int j/\C i j/\u=k i j/\S'=S)(hg: ∀H μ i j,RU H μ (k i j) (g i j)):OpU K (rI C g) f:=by
 intro μ S H x y vx vy u S' Q hr rx ry e a
 obtain⟨i,j,rfl,rfl,c,rfl,rfl⟩:=hf x y S u S' e
 exact⟨i,j,cJ rx,cJ ry,c,a.now hr (hg _ _ _ _)⟩
theorem GQ:OpU K (rI0 λi j => .int (i - j)) uM:=y0 (k:=λi j => .int (i - j)) (λx y S u S' h=>by
 unfold uM at h;split at h <;> simp at h;obtain⟨rfl,rfl⟩:=h;exact⟨_,_,rfl,rfl,rfl,rfl⟩) λ_ _ _ _=>eG
noncomputable def Fw(K:ah):R2:=λx y H Q =>∃l k xs,x = .ref l/\y = .int k/\H l=some (.tup xs)/\rB xs.length k/\(k=1->Q (.ref l) H)/\(k≠1 -> ∀p,H p=none->Q (.ref p) (upd H p (.tup (aq k.toNat xs).flatten)))
theorem rg(its:List Value): ∀(m:Nat) (a:List Value),mU (λx1 x2=>x1++x2) a.toArray (aq m its.toArray)=(a++(aq m its).flatten).toArray
 | 0,a=>by simp
 | m+1,a=>by
   rw[ck,uY,List.append_toArray,rg its m (a++its),ck,ej,be]
theorem RUs.rep{H:Hp}{μ:List Addr}{us:List U}{vs:List V}(r:RUs H μ us vs): ∀(m:Nat),RUs H μ (aq m us).flatten (aq m vs).flatten
 | 0=>by simpa using RUs.nil
 | m+1=>by
   rw[ck,ej,ck,ej]
   exact r.append (RUs.rep r m)
theorem EE{X:Cx}:OpR X (binaryOp .Mult) (Fw X.K):=by
 intro pins s σ H x y v u Q I rx ry h
 obtain⟨l,k,xs,rfl,rfl,hH,⟨h1,h2,h3,h4⟩,q1,q2⟩:=h
 cases (show v=bH l from rx)
 obtain⟨t,rfl⟩:=ry
 obtain⟨z,its,r,⟨⟨cls,dd,data,sl⟩,e,c,n,d⟩,_⟩:=I.hok l _ hH
 simp only at c d
 subst c d
 have hl:its.length=xs.length:=r.length.symm
 refine CT (T:="tuple") (U:="int") (by decide) ⟨_,e,rfl⟩ (fun s'=>typeIs_int s' k t) oP F.fills_int_mul oz t9 F.slot_int_index.lookup
  (call_meets oz (typeIs_int s k t) F.entry_int_rmul (F.args_int_rmul_2 _ _) (rh k t l its.toArray n dd sl) ⟨e,rfl,⟨_,e,rfl⟩,?_⟩)
 by_cases hk:k=1
 ·subst hk
  exact call_meets wU ⟨_,e,rfl⟩ uT (sv _ _) (sd l its.toArray n dd sl t) ⟨e,⟨.ref l,H,I,rfl,q1 rfl⟩⟩
 ·by_cases hk0:k=0
  ·subst hk0
   refine call_meets wU ⟨_,e,rfl⟩ uT (sv _ _) (yg l its.toArray n dd sl t ?_) ⟨e,?_⟩
   ·cases its with
    | nil=>simp at hl;omega
    | cons a b=>rfl
   ·exact⟨.ref s.heap.objs.size,_,I.laid (t':=s.toks) (o:= .tup []) (λb ob q=>av _ q) (ak _) ⟨en _,[],.nil,oy _ _,_,aH _ rfl,rfl⟩,rfl,by simpa using q2 hk _ (I.hok.fresh (ak _))⟩
  refine call_meets wU ⟨_,e,rfl⟩ uT (sv _ _) (xJ l its.toArray n dd sl k t ?_ (by omega) h2 (by rw[aC];omega)) ⟨e,?_⟩
  ·intro w
   rw[ny]at w
   rcases w with w |w
   ·have:its = []:=by simpa using w
    rw[this]at hl;simp at hl;omega
   ·exact hk (by simpa using w)
  ·rw[show(#[]:Array Value)=([]:List Value).toArray from rfl,rg its k.toNat [],dG]
   refine⟨.ref s.heap.objs.size,_,I.laid (t':=s.toks) (o:= .tup (aq k.toNat xs).flatten) (λb ob q=>av _ q) (ak _) ?_,rfl,q2 hk _ (I.hok.fresh (ak _))⟩
   refine⟨?_,_,r.rep k.toNat,oy _ _,_,aH _ rfl,rfl⟩
   rw[len_rep,sizeLine_eq]
   have:k.toNat*xs.length<=1000*xs.length:=fY _ (by omega)
   omega
theorem Ge:OpU K (λx y H Q=>rI Ed (λi j => .int (i*j)) x y H Q\/Fw K x y H Q\/IX x y H Q) ed:=by
 intro μ S H x y vx vy u S' Q hr rx ry e a
 unfold ed at e
 split at e
 ·split at e
  ·rename_i hc
   simp at e;obtain⟨rfl,rfl⟩:=e
   exact .inl ⟨_,_,cJ rx,cJ ry,hc,a.now hr eG⟩
  ·cases e
 ·rename_i xs k
  split at e
  ·rename_i hc
   simp at e;obtain⟨rfl,rfl⟩:=e
   obtain⟨p,vs,rfl,hp,r1⟩:=iZ rx
   refine .inr (.inl ⟨p,k,vs,rfl,cJ ry,hp,by rw[<- r1.len];exact hc,λhk =>?_,λhk t ht =>?_⟩)
   ·subst hk
    have e1:(aq (1:Int).toNat xs).flatten=xs:=by simp
    rw[e1]at a
    exact a.now hr (i9 hp r1)
   ·exact a μ _ _ (Pre.refl _) (bf.new ht) (hr.tup ht) (i9 cq (RUs.mono (bf.new ht) (Pre.refl _) _ _ (r1.rep _)))
  ·cases e
 ·rename_i n k
  split at e
  ·rename_i xs q1
   split at e
   ·rename_i hc
    simp at e;obtain⟨rfl,rfl⟩:=e
    obtain⟨p,rfl,hp⟩:=gR rx
    obtain⟨vs,e1,r1⟩:=hr.cell n _ p q1 hp
    obtain⟨h1,h2,h3,h4⟩:=hc
    refine .inr (.inr ⟨p,k,vs,rfl,cJ ry,e1,by omega,by omega,?_,λt ht =>?_⟩)
    ·have h5:=r1.len;rw[sizeLine_eq,<- h5]
     have:xs.length*k.toNat<=xs.length*1000:=gH _ (by omega)
     omega
    ·refine a (μ++[t]) _ _ ⟨[t],rfl⟩ (bf.new ht) (hr.new ht (r1.rep _)) (tV ?_)
     rw[<- hr.len,ar (ak _)];simp
   ·cases e
  ·cases e
 ·cases e
theorem GD:OpU K (rI K4 λi j => .int (i / j)) oDiv:=xD (k:=λi j => .int (i / j)) (λx y S u S' h=>by
 unfold oDiv at h;split at h
 ·split at h
  ·rename_i hc;simp at h;obtain⟨rfl,rfl⟩:=h;exact⟨_,_,rfl,rfl,hc,rfl,rfl⟩
  ·cases h
 ·cases h) λ_ _ _ _=>eG
theorem Hk:OpU K (rI (λ_ j=>0<j) λi j => .int (i % j)) oMod:=xD (k:=λi j => .int (i % j)) (λx y S u S' h=>by
 unfold oMod at h;split at h
 ·split at h
  ·rename_i hc;simp at h;obtain⟨rfl,rfl⟩:=h;exact⟨_,_,rfl,rfl,hc,rfl,rfl⟩
  ·cases h
 ·cases h) λ_ _ _ _=>eG
theorem H9:OpU K (rI Jp λi j => .int (i ^ j.toNat)) tY:=xD (k:=λi j => .int (i ^ j.toNat)) (λx y S u S' h=>by
 unfold tY at h;split at h
 ·split at h
  ·rename_i hc;simp at h;obtain⟨rfl,rfl⟩:=h;exact⟨_,_,rfl,rfl,hc,rfl,rfl⟩
  ·cases h
 ·cases h) λ_ _ _ _=>eG
theorem um{p:Int->Int->Bool}:OpU K (rI0 λi j => .bl (p i j)) (z8 p):=y0 (k:=λi j => .bl (p i j)) (λx y S u S' h=>by
 unfold z8 at h;split at h <;> simp at h;obtain⟨rfl,rfl⟩:=h;exact⟨_,_,rfl,rfl,rfl,rfl⟩) λ_ _ _ _=>lE
noncomputable def EX(K:ah):R2:=λx y H Q =>∃a b ys,x = .ref a/\y = .ref b/\SqT K H a []/\SqT K H b ys/\Q (.ref b) H
theorem DI{X:Cx}:OpR X (binaryOp .Add) (EX X.K):=by
 intro pins s σ H x y v u Q I rx ry h
 obtain⟨a,b,ys,rfl,rfl,h1,h2,q⟩:=h
 cases (show v=bH a from rx)
 cases (show u=bH b from ry)
 obtain⟨its,r1,p1,_⟩:=I.tuple h1
 obtain⟨its2,r2,p2,_⟩:=I.tuple h2
 cases r1
 exact HT.cat_tup0 p1 p2 ⟨.ref b,H,I,rfl,q⟩
theorem Hu:OpU K (λx y H Q=>rI0 (λi j => .int (i+j)) x y H Q\/E6 K x y H Q\/EX K x y H Q\/JS x y H Q) cU:=by
 intro μ S H x y vx vy u S' Q hr rx ry e a
 unfold cU at e
 split at e
 ·simp at e;obtain⟨rfl,rfl⟩:=e
  exact .inl ⟨_,_,cJ rx,cJ ry,a.now hr eG⟩
 ·rename_i xs ys
  split at e
  ·rename_i hc
   simp at e;obtain⟨rfl,rfl⟩:=e
   obtain⟨p,vs,rfl,hp,r1⟩:=iZ rx
   obtain⟨q,ws,rfl,hq,r2⟩:=iZ ry
   by_cases hx:xs = []
   ·subst hx
    have hv:vs = []:=by have:=r1.len;exact cQ (by simpa using this.symm)
    subst hv
    exact .inr (.inr (.inl ⟨p,q,ws,rfl,rfl,.inl (.inl hp),.inl (.inl hq),a.now hr (i9 hq r2)⟩))
   refine .inr (.inl ⟨p,q,vs,ws,rfl,rfl,.inl (.inl hp),.inl (.inl hq),?_,?_,λz =>?_,λz t ht =>?_⟩)
   ·intro z;subst z;have:=r1.len;exact hx (cQ (by simpa using this))
   ·have h1:=r1.len;have h2:=r2.len;unfold big at hc;rw[sizeLine_eq];omega
   ·subst z
    have:ys = []:=by have:=r2.len;exact cQ (by simpa using this)
    subst this
    rw[cW]at a
    exact a.now hr (i9 hp r1)
   ·refine a μ _ _ (Pre.refl _) (bf.new ht) (hr.tup ht) ?_
    have kp:bf H (upd H t (.tup (vs++ws))):=bf.new ht
    exact i9 cq ((RUs.mono kp (Pre.refl _) _ _ r1).append (RUs.mono kp (Pre.refl _) _ _ r2))
  ·cases e
 ·rename_i n m
  split at e
  ·rename_i xs ys q1 q2
   split at e
   ·rename_i hc
    simp at e;obtain⟨rfl,rfl⟩:=e
    obtain⟨p,rfl,hp⟩:=gR rx
    obtain⟨q,rfl,hq⟩:=gR ry
    obtain⟨vs,e1,r1⟩:=hr.cell n _ p q1 hp
    obtain⟨ws,e2,r2⟩:=hr.cell m _ q q2 hq
    refine .inr (.inr (.inr ⟨p,q,vs,ws,rfl,rfl,e1,e2,?_,λt ht =>?_⟩))
    ·have h1:=r1.len;have h2:=r2.len;unfold big at hc;rw[sizeLine_eq];omega
    ·refine a (μ++[t]) _ _ ⟨[t],rfl⟩ (bf.new ht) (hr.new ht (r1.append r2)) (tV ?_)
     rw[<- hr.len,ar (ak _)];simp
   ·cases e
  ·cases e
 ·cases e
theorem HR.seq{μ:List Addr}{S:Sto}{x:U}{v:V}{us:List U}(hr:HR K μ S H)(r:RU H μ x v)(e:dR S x=some us): ∃a vs,v = .ref a/\(SqL K H a vs\/SqT K H a vs)/\RUs H μ us vs:=by
 unfold dR at e
 split at e
 ·cases e
  obtain⟨a,vs,rfl,h,q⟩:=iZ r
  exact⟨a,vs,rfl,.inr (.inl (.inl h)),q⟩
 ·obtain⟨a,rfl,ha⟩:=gR r
  obtain⟨a',vs,ha',hs,q⟩:=hr.sq e
  rw[ha]at ha';cases ha'
  exact⟨a,vs,rfl,.inl hs,q⟩
 ·cases e
theorem DB{μ:List Addr}{us:List U}{vs:List V}{i:Int}{u:U}(r:RUs H μ us vs)(e:atI us i=some u): ∃v,atI vs i=some v/\RU H μ u v:=by
 unfold atI at e ⊢
 rw[<- r.len]
 cases q:ixN us.length i with
 | none=>rw[q]at e;cases e
 | some j=>
   rw[q]at e
   exact r.get e
theorem uf{μ:List Addr}{y:U}{v:V}{k:Key}(r:RU H μ y v)(e:keyOf y=some k):v=kV k:=by
 cases y <;> simp only[keyOf,eJ,reduceCtorEq]at e <;> subst e <;> (simp only[RU]at r;exact r)
theorem ze{κ:Type} [DecidableEq κ] {μ:List Addr}{k:κ}{u:U}: ∀{kvs:List (κ×U)}{vs:List V},RUs H μ (kvs.map (·.2)) vs->qT kvs k=some u -> ∃v,lK (dV kvs vs) k=some v/\RU H μ u v
 | [],vs,r,e=>by cases e
 | (j,x)::kvs,vs,r,e=>by
   obtain⟨v,r',rfl,a,b⟩:=r.inv
   show ∃w,lK ((j,v)::dV kvs r') k=some w/\_
   by_cases h:j=k
   ·rw[lX h]
    simp[qT,dn,h]at e
    subst e
    exact⟨v,rfl,a⟩
   ·rw[lO h]
    refine ze b ?_
    simpa [qT,dn,h]using e
theorem vp{κ:Type} [DecidableEq κ] {k:κ}: ∀{kvs:List (κ×U)}{vs:List V},kvs.length=vs.length->(lK (dV kvs vs) k).isSome=(qT kvs k).isSome
 | [],vs,_=>by simp[dV,lK,qT]
 | (j,x)::kvs,[],h=>by simp at h
 | (j,x)::kvs,v::vs,h=>by
   show(lK ((j,v)::dV kvs vs) k).isSome=_
   by_cases hj:j=k
   ·rw[lX hj];simp[qT,dn,hj]
   ·rw[lO hj,vp (by simpa using h)];simp[qT,dn,hj]
theorem B5{κ:Type} [DecidableEq κ] {k:κ}: ∀{kvs:List (κ×U)}{vs:List V},kvs.length=vs.length->((dV kvs vs).any λkv=>decide (kv.1=k))=kvs.any λkv=>decide (kv.1=k)
 | [],vs,_=>by simp[dV]
 | (j,x)::kvs,[],h=>by simp at h
 | (j,x)::kvs,v::vs,h=>by
   show(((j,v)::dV kvs vs).any λkv=>decide (kv.1=k))=_
   rw[gI,gI,B5 (by simpa using h)]
theorem Ca{κ:Type}{kvs:List (κ×U)}{vs:List V}(h:kvs.length=vs.length):(dV kvs vs).length=kvs.length:=by
 simp[dV,h]
theorem yH{κ:Type} [DecidableEq κ] {μ:List Addr}{k:κ}{u:U}{v:V} (ru:RU H μ u v): ∀{kvs:List (κ×U)}{vs:List V},RUs H μ (kvs.map (·.2)) vs ->
  ∃ws,dV (kvs.map λkv=>if kv.1=k then(kv.1,u) else kv) ws=(dV kvs vs).map (λkv=>if kv.1=k then(kv.1,v) else kv)/\RUs H μ ((kvs.map λkv=>if kv.1=k then(kv.1,u) else kv).map (·.2)) ws
 | [],vs,r=>⟨[],by simp[dV],.nil⟩
 | (j,x)::kvs,vs,r=>by
   obtain⟨w,r',rfl,a,b⟩:=r.inv
   obtain⟨ws,e,q⟩:=yH ru b
   show ∃ws',dV ((if j=k then(j,u) else(j,x))::kvs.map λkv=>if kv.1=k then(kv.1,u) else kv) ws'=(if j=k then(j,v) else(j,w))::(dV kvs r').map (λkv=>if kv.1=k then(kv.1,v) else kv)/\RUs H μ (((if j=k then(j,u) else(j,x))::kvs.map λkv=>if kv.1=k then(kv.1,u) else kv).map (·.2)) ws'
   by_cases h:j=k
   ·rw[if_pos h,if_pos h]
    exact⟨v::ws,by rw[<- e];rfl,.cons ru q⟩
   ·rw[if_neg h,if_neg h]
    exact⟨w::ws,by rw[<- e];rfl,.cons a q⟩
theorem DW{κ:Type} [DecidableEq κ] {μ:List Addr}{k:κ}{u:U}{v:V}{kvs:List (κ×U)}{vs:List V} (ru:RU H μ u v) (r:RUs H μ (kvs.map (·.2)) vs): ∃ws,dV (DD kvs k u) ws=putK (dV kvs vs) k v/\RUs H μ ((DD kvs k u).map (·.2)) ws:=by
 have hl:kvs.length=vs.length:=by have:=r.len;rwa[aE]at this
 unfold DD putK
 rw[B5 hl]
 split
 ·exact yH ru r
 ·refine⟨vs++[v],?_,by rw[bR];exact r.append (.cons ru .nil)⟩
  unfold dV
  rw[bR,List.zip_append (by simpa using hl)]
  rfl
theorem HR.dic{μ:List Addr}{S:Sto}{x:U}{v:V}{kvs:List (Key×U)}(hr:HR K μ S H)(r:RU H μ x v)(e:gp S x=some kvs): ∃a vs,v = .ref a/\H a=some (.dK (dV kvs vs))/\RUs H μ (kvs.map (·.2)) vs:=by
 unfold gp at e
 split at e
 ·split at e
  ·rename_i q
   cases e
   obtain⟨a,rfl,ha⟩:=gR r
   obtain⟨vs,e1,r1⟩:=hr.cell _ _ a q ha
   exact⟨a,vs,rfl,e1,r1⟩
  ·cases e
 ·cases e
noncomputable def IF:R2:=λx y H Q =>∃a v,x = .ref a/\t8 H a y (some v)/\Q v H
noncomputable def LL(K:ah):R2:=λx y H Q=>rIx K x y H Q\/IF x y H Q
theorem HU{X:Cx}(hu:X.A.units+1<cLine):IxR X IF:=by
 intro value slice pins s σ H x y v u Q I rx ry h hs
 obtain⟨a,w,rfl,g,q⟩:=h
 obtain rfl:v=bH a:=rx
 exact tail_any (vg I g) PySem.F.slot_dict_getitem.lookup (zB hu I g ry λw' s3 I3 rw'=>⟨w,H,I3,rw',q⟩) hs
theorem J7:OpU K (LL K) oIx:=by
 intro μ S H x y vx vy u S' Q hr rx ry e a
 unfold oIx at e
 split at e
 ·rename_i kvs qd
  cases qk:keyOf y with
  | none=>rw[qk]at e;cases e
  | some kk=>
    rw[qk]at e
    simp only[ax]at e
    cases qv:qT kvs kk with
    | none=>rw[qv]at e;cases e
    | some w=>
      rw[qv]at e
      simp at e;obtain⟨rfl,rfl⟩:=e
      obtain⟨p,vs,rfl,hp,r⟩:=hr.dic rx qd
      obtain⟨v,hv,rv⟩:=ze r qv
      rw[uf ry qk]
      exact .inr ⟨p,v,rfl,.inl ⟨_,kk,.inl hp,rfl,hv.symm⟩,a.now hr rv⟩
 split at e
 ·rename_i i
  refine .inl ?_
  cases q:dR S x with
  | none=>rw[q]at e;cases e
  | some us=>
    rw[q]at e
    simp only[ax]at e
    cases z:atI us i with
    | none=>rw[z]at e;cases e
    | some w=>
      rw[z]at e
      simp at e;obtain⟨rfl,rfl⟩:=e
      obtain⟨p,vs,rfl,hs,r⟩:=hr.seq rx q
      obtain⟨v,hv,rv⟩:=DB r z
      rcases hs with hs |hs
      ·exact .inl ⟨p,vs,i,v,rfl,cJ ry,hs,hv,a.now hr rv⟩
      ·exact .inr (.inl ⟨p,vs,i,v,rfl,cJ ry,hs,hv,a.now hr rv⟩)
 ·cases e
theorem HC:UnU K (rU λi => .int (-i)) xM:=by
 intro μ S H x vx u S' Q hr rx e a
 unfold xM at e
 split at e
 ·cases e
  exact⟨_,cJ rx,a.now hr eG⟩
 ·cases e
theorem Kh{Q:List V->Hp->Prop}(h:tMA K ag σ H Q):Bb σ H Q:=by
 obtain⟨μ,S,ρ,us,S',hr,er,e,k⟩:=h
 cases e
 exact k μ [] H (Pre.refl _) (bf.refl _) hr .nil
theorem F8{a:ME}{r:MA}{Q:List V->Hp->Prop}(h:tMA K (aa a r) σ H Q):yw (tM K a) (tMA K r) σ H Q:=by
 obtain⟨μ,S,ρ,us,S',hr,er,e,k⟩:=h
 obtain⟨x,S1,e1,e⟩:=bq e
 obtain⟨xs,S2,e2,e⟩:=bq e
 cases e
 refine⟨μ,S,ρ,x,S1,hr,er,e1,λμ1 vx H1 p1 k1 hr1 rx =>?_⟩
 refine⟨μ1,S1,ρ,xs,_,hr1,er.mono k1 p1,e2,λμ2 vs H2 p2 k2 hr2 rs =>?_⟩
 exact k μ2 _ H2 (p1.trans p2) (k1.trans k2) hr2 (.cons (RU.mono k2 p2 x vx rx) rs)
theorem K9{a:MA}(h:tM K (jI a) σ H Q):JX (tMA K a) σ H Q:=by
 obtain⟨μ,S,ρ,u,S',hr,er,e,k⟩:=h
 obtain⟨xs,S1,e1,e⟩:=bq e
 split at e
 ·rename_i hc
  cases e
  refine⟨μ,S,ρ,xs,_,hr,er,e1,λμ1 vs H1 p1 k1 hr1 rs=>⟨?_,λp hp =>?_⟩⟩
  ·have:=rs.len;unfold big at hc;rw[sizeLine_eq];omega
  ·exact k μ1 _ _ p1 (k1.trans (bf.new hp)) (hr1.tup hp) (i9 cq (RUs.mono (bf.new hp) (Pre.refl _) _ _ rs))
 ·cases e
theorem mH{μ:List Addr}{S:Sto}{us:List U}{vs:List V}{p:Addr}(k:Aft K μ H (.ref S.length) (S++[.lst us]) Q)(hr:HR K μ S H)(rs:RUs H μ us vs)(hp:H p=none):Q (.ref p) (upd H p (.lst vs)):=by
 refine k (μ++[p]) _ _ ⟨[p],rfl⟩ (bf.new hp) (hr.new hp rs) (tV ?_)
 rw[<- hr.len,ar (ak _)];simp
theorem Jd{a:MA}(h:tM K (bU a) σ H Q):Ke (tMA K a) σ H Q:=by
 obtain⟨μ,S,ρ,u,S',hr,er,e,k⟩:=h
 obtain⟨xs,S1,e1,e⟩:=bq e
 split at e
 ·rename_i hc
  cases e
  refine⟨μ,S,ρ,xs,S1,hr,er,e1,λμ1 vs H1 p1 k1 hr1 rs=>⟨?_,λp hp =>?_⟩⟩
  ·have:=rs.len;unfold big at hc;rw[sizeLine_eq];omega
  ·exact mH (k.mono p1 k1) hr1 rs hp
 ·cases e
noncomputable def sQ(K:KX)(r:List V->Hp->VK->Prop)(f:MF):Prop:= ∀(μ:List Addr) (S:Sto) (H:Hp) (us:List U) (vs:List V) (u:U) (S':Sto) (Q:VK),HR K μ S H->RUs H μ us vs->f us S=some (u,S')->Aft K μ H u S' Q->r vs H Q
theorem A9{r:List V->Hp->VK->Prop}{f:MF}{a:MA}(o:sQ K r f)(h:tM K (mFn f a) σ H Q):tCB r (tMA K a) σ H Q:=by
 obtain⟨μ,S,ρ,u,S',hr,er,e,k⟩:=h
 obtain⟨xs,S1,e1,e⟩:=bq e
 refine⟨μ,S,ρ,xs,S1,hr,er,e1,λμ1 vs H1 p1 k1 hr1 rs =>?_⟩
 exact o μ1 S1 H1 xs vs u S' Q hr1 rs e (k.mono p1 k1)
noncomputable def spM(K:KX)(m:MF):Sp:=λvs H Q _ =>∃μ S us u S',HR K μ S H/\RUs H μ us vs/\m us S=some (u,S')/\Aft K μ H u S' Q
theorem Cc{f:MF}{a:MA}{E:XK}(h:tM K (mFn f a) σ H Q):zf (spM K f) [] E (tMA K a) σ H Q:=by
 obtain⟨μ,S,ρ,u,S',hr,er,e,k⟩:=h
 obtain⟨xs,S1,e1,e⟩:=bq e
 refine⟨μ,S,ρ,xs,S1,hr,er,e1,λμ1 vs H1 p1 k1 hr1 rs =>?_⟩
 show spM K f (vs++[]) H1 Q E
 rw[cW]
 exact⟨μ1,S1,xs,u,S',hr1,rs,e,k.mono p1 k1⟩
theorem FP:sQ K (λxs H Q=>(∃p ys,xs = [.ref p]/\(SqL K H p ys\/SqT K H p ys)/\Q (.int ys.length) H) \/ ∃a kvs,xs = [V.ref a]/\H a=some (.dK kvs)/\Q (.int kvs.length) H) cg:=by
 intro μ S H us vs u S' Q hr rs e a
 unfold cg at e
 split at e
 ·rename_i x
  obtain⟨v,r,rfl,rx,rn⟩:=rs.inv
  rw[rn.nil_inv]
  split at e
  ·rename_i kvs qd
   cases e
   obtain⟨p,ws,rfl,hp,r'⟩:=hr.dic rx qd
   refine .inr ⟨p,_,rfl,hp,?_⟩
   have hl:kvs.length=ws.length:=by have:=r'.len;rwa[aE]at this
   rw[Ca hl]
   exact a.now hr eG
  cases q:dR S x with
  | none=>rw[q]at e;cases e
  | some ws=>
    rw[q]at e;cases e
    obtain⟨p,ys,rfl,hs,r'⟩:=hr.seq rx q
    refine .inl ⟨p,ys,rfl,hs,?_⟩
    rw[<- r'.len]
    exact a.now hr eG
 ·cases e
theorem A8:sQ K (λxs H Q =>∃p ys,xs = [.ref p]/\((SqL K H p ys /\ ∀l,H l=none->Q (.ref l) (upd H l (.tup ys)))\/(SqT K H p ys/\Q (.ref p) H))) cD:=by
 intro μ S H us vs u S' Q hr rs e a
 unfold cD at e
 split at e
 ·rename_i x
  obtain⟨v,r,rfl,rx,rn⟩:=rs.inv
  rw[rn.nil_inv]
  unfold dR at e
  split at e
  ·cases e
   obtain⟨p,ys,rfl,hp,r'⟩:=iZ rx
   exact⟨p,ys,rfl,.inr ⟨.inl (.inl hp),a.now hr (i9 hp r')⟩⟩
  ·rename_i n
   cases q:getL S n with
   | none=>rw[q]at e;cases e
   | some ws=>
     rw[q]at e;cases e
     obtain⟨p,rfl,hp⟩:=gR rx
     obtain⟨p',ys,hp',hs,r'⟩:=hr.sq q
     rw[hp]at hp';cases hp'
     refine⟨p,ys,rfl,.inl ⟨hs,λl hl =>?_⟩⟩
     exact a μ _ _ (Pre.refl _) (bf.new hl) (hr.tup hl) (i9 cq (RUs.mono (bf.new hl) (Pre.refl _) _ _ r'))
  ·cases e
 ·cases e
theorem Ib:sQ K (λxs H Q =>∃i j,xs = [.int i,.int j]/\Q (.int (if j > i then j else i)) H) vz:=by
 intro μ S H us vs u S' Q hr rs e a
 unfold vz at e
 split at e
 ·cases e
  obtain⟨v,r,rfl,rx,rs⟩:=rs.inv
  obtain⟨w,r,rfl,ry,rn⟩:=rs.inv
  rw[rn.nil_inv,cJ rx,cJ ry]
  exact⟨_,_,rfl,a.now hr eG⟩
 ·cases e
noncomputable def Kq(K:ah):List V->Hp->VK->Prop:=λxs H Q=>((∃i j,xs = [.int i,.int j]/\Q (.int (if j<i then j else i)) H))
theorem zA {X:Cx} (hc:X.calm=true) (hu:X.A.units+64 < cLine):iJ X (.builtin "min") (Kq X.K):=by
 intro pins s σ H xs us Q I rs h
 exact Ab hc pins s σ H xs us Q I rs h
theorem HN:sQ K (Kq K) pD:=by
 intro μ S H us vs u S' Q hr rs e a
 unfold pD at e
 split at e
 ·cases e
  obtain⟨v,r,rfl,rx,rs⟩:=rs.inv
  obtain⟨w,r,rfl,ry,rn⟩:=rs.inv
  rw[rn.nil_inv,cJ rx,cJ ry]
  exact⟨_,_,rfl,a.now hr eG⟩
 ·cases e
noncomputable def MtU(K:KX)(r:V->List V->Hp->VK->Prop)(f:Nat->List U->Sto->Res U):Prop:= ∀(μ:List Addr) (S:Sto) (H:Hp) (n:Nat) (p:Addr) (us:List U) (vs:List V) (u:U) (S':Sto) (Q:VK),HR K μ S H->μ[n]? = some p->RUs H μ us vs->f n us S=some (u,S')->Aft K μ H u S' Q->r (.ref p) vs H Q
theorem KZ {r:V->List V->Hp->VK->Prop}{f:Nat->List U->Sto->Res U}{o:ME}{a:MA} (m:MtU K r f) (h:tM K (mML f o a) σ H Q):tBM K "list" r (tM K o) (tMA K a) σ H Q:=by
 obtain⟨μ,S,ρ,u,S',hr,er,e,k⟩:=h
 obtain⟨x,S1,e1,e⟩:=bq e
 split at e
 ·rename_i n
  cases q:getL S1 n with
  | none=>rw[q]at e;cases e
  | some ws=>
    rw[q]at e
    obtain⟨xs,S2,e2,e⟩:=bq e
    refine⟨μ,S,ρ,_,S1,hr,er,e1,λμ1 vx H1 p1 k1 hr1 rx =>?_⟩
    obtain⟨p,rfl,hp⟩:=gR rx
    obtain⟨p',ys,hp',hs,r'⟩:=hr1.sq q
    rw[hp]at hp';cases hp'
    refine⟨.inl ⟨rfl,ys,hs⟩,μ1,S1,ρ,xs,S2,hr1,er.mono k1 p1,e2,λμ2 vs H2 p2 k2 hr2 rs =>?_⟩
    exact m μ2 S2 H2 n p xs vs u S' Q hr2 (p2.get hp) rs e (k.mono (p1.trans p2) (k1.trans k2))
 ·cases e
theorem Bk{μ:List Addr}{S:Sto}{n:Nat}{us ws:List U}{vs:List V}{p:Addr}{u:U}{v:V}(k:Aft K μ H u (S.set n (.lst ws)) Q)(hr:HR K μ S H)(e:S[n]? = some (.lst us))(hp:μ[n]? = some p)(rs:RUs H μ ws vs)(ru:RU H μ u v):
  Q v (upd H p (.lst vs)):=by
 obtain⟨vs0,e0,_⟩:=hr.cell n _ p e hp
 exact k μ _ _ (Pre.refl _) (bf.wr e0) (hr.wr e hp rs) (RU.mono (bf.wr e0) (Pre.refl _) _ _ ru)
theorem z6:MtU K yE b0:=by
 intro μ S H n p us vs u S' Q hr hp rs e a
 unfold b0 at e
 split at e
 ·split at e
  ·rename_i ws q
   split at e
   ·rename_i hc
    cases e
    obtain⟨v,r,rfl,rx,rn⟩:=rs.inv
    rw[rn.nil_inv]
    obtain⟨xs,e0,r0⟩:=hr.cell n _ p q hp
    refine⟨p,xs,v,rfl,rfl,e0,?_,Bk a hr q hp (r0.append (.cons rx .nil)) qB⟩
    have:=r0.len;unfold big at hc;rw[sizeLine_eq];omega
   ·cases e
  ·cases e
 ·cases e
theorem G6{n:Nat}{i:Int}{j:Nat}(h:ixN n i=some j):j<n /\ -(n:Int)<=i/\i<n:=by
 unfold ixN at h
 split at h
 ·split at h
  ·cases h;omega
  ·cases h
 ·split at h
  ·cases h;omega
  ·cases h
theorem Ew{n:Nat}{i:Int}{j:Nat}(h:ixN n i=some j):seqIndex? i n=some j:=by
 unfold ixN at h
 unfold seqIndex?
 split at h
 ·split at h
  ·cases h
   rename_i h0 h1
   simp only[show ¬i<0 by omega,if_false]
   first
    | (rw[if_pos (by omega)])
    | (simp;omega)
  ·cases h
 ·split at h
  ·cases h
   rename_i h0 h1
   simp only[show i<0 by omega,if_true]
   first
    | (rw[if_pos (by omega)])
    | (simp;omega)
  ·cases h
theorem B6:MtU K BC jJ:=by
 intro μ S H n p us vs u S' Q hr hp rs e a
 unfold jJ at e
 split at e
 ·rename_i i
  split at e
  ·rename_i ws q
   split at e
   rotate_left
   ·cases e
   rename_i hR
   cases z:ixN ws.length i with
   | none=>rw[z]at e;cases e
   | some j=>
     rw[z]at e
     simp only[ax]at e
     cases z2:ws[j]? with
     | none=>rw[z2]at e;cases e
     | some y=>
       rw[z2]at e;cases e
       obtain⟨v,r,rfl,rx,rn⟩:=rs.inv
       rw[rn.nil_inv,cJ rx]
       obtain⟨xs,e0,r0⟩:=hr.cell n _ p q hp
       obtain⟨w,hw,rw'⟩:=r0.get z2
       have hl:=G6 z
       have hlen:=r0.len
       refine⟨p,xs,i,j,w,rfl,rfl,e0,?_,?_,?_,hw,Bk a hr q hp (r0.eraseIdx j) rw'⟩
       ·have:=hR.1;omega
       ·have:=hR.2;omega
       ·rw[<- hlen];exact Ew z
  ·cases e
 ·cases e
theorem Bh{t:TE}{m:ME}{Q:Bool->Hp->Prop}(ht: ∀Q,tM K m σ H Q->t σ H Q)(h:tMT K (cOf m) σ H Q):FE t σ H Q:=by
 obtain⟨μ,S,ρ,b,S',hr,er,e,k⟩:=h
 obtain⟨x,S1,e1,e⟩:=bq e
 split at e
 ·cases e
  refine ht _ ⟨μ,S,ρ,_,_,hr,er,e1,λμ1 vx H1 p1 k1 hr1 rx =>?_⟩
  exact⟨_,kR rx,k μ1 H1 p1 k1 hr1⟩
 ·cases e
theorem LR{t:TE}{m:ME}{Q:Bool->Hp->Prop}(ht: ∀Q,tM K m σ H Q->t σ H Q)(h:tMT K (cOf m) σ H Q):tB t σ H Q:=Bh ht h
theorem JK{a b:MT}{Q:Bool->Hp->Prop}(h:tMT K (jH a b) σ H Q):_L.Jj (tMT K a) (tMT K b) σ H Q:=by
 obtain⟨μ,S,ρ,c,S',hr,er,e,k⟩:=h
 obtain⟨x,S1,e1,e⟩:=bq e
 refine⟨μ,S,ρ,x,S1,hr,er,e1,λμ1 H1 p1 k1 hr1 =>?_⟩
 cases x with
 | true=>exact o8 ⟨μ1,S1,ρ,c,S',hr1,er.mono k1 p1,e,λμ2 H2 p2 k2=>k μ2 H2 (p1.trans p2) (k1.trans k2)⟩
 | false=>
   have e':some (false,S1)=some (c,S'):=e
   cases e'
   exact pq (k μ1 H1 p1 k1 hr1)
theorem LG{a b:MT}{Q:Bool->Hp->Prop}(h:tMT K (cOr a b) σ H Q):_L.tOr (tMT K a) (tMT K b) σ H Q:=by
 obtain⟨μ,S,ρ,c,S',hr,er,e,k⟩:=h
 obtain⟨x,S1,e1,e⟩:=bq e
 refine⟨μ,S,ρ,x,S1,hr,er,e1,λμ1 H1 p1 k1 hr1 =>?_⟩
 cases x with
 | true=>
   have e':some (true,S1)=some (c,S'):=e
   cases e'
   exact o8 (k μ1 H1 p1 k1 hr1)
 | false=>exact pq ⟨μ1,S1,ρ,c,S',hr1,er.mono k1 p1,e,λμ2 H2 p2 k2=>k μ2 H2 (p1.trans p2) (k1.trans k2)⟩
theorem K0{a:MT}{Q:Bool->Hp->Prop}(h:tMT K (ya a) σ H Q):_L.Jt (tMT K a) σ H Q:=by
 obtain⟨μ,S,ρ,c,S',hr,er,e,k⟩:=h
 obtain⟨x,S1,e1,e⟩:=bq e
 cases e
 exact⟨μ,S,ρ,x,_,hr,er,e1,λμ1 H1 p1 k1 hr1=>k μ1 H1 p1 k1 hr1⟩
theorem Lh{c:MT}{a b:ME}(h:tM K (EB c a b) σ H Q):tIf (tMT K c) (tM K a) (tM K b) σ H Q:=by
 obtain⟨μ,S,ρ,u,S',hr,er,e,k⟩:=h
 obtain⟨x,S1,e1,e⟩:=bq e
 refine⟨μ,S,ρ,x,S1,hr,er,e1,λμ1 H1 p1 k1 hr1 =>?_⟩
 cases x with
 | true=>exact o8 ⟨μ1,S1,ρ,u,S',hr1,er.mono k1 p1,e,k.mono p1 k1⟩
 | false=>exact pq ⟨μ1,S1,ρ,u,S',hr1,er.mono k1 p1,e,k.mono p1 k1⟩
section
variable {D:Ends}
theorem BP(h:tMS K cN D σ H):Cb D σ H:=by
 obtain⟨μ,S,ρ,r,hr,er,e,k⟩:=h
 cases e
 exact k μ σ H (Pre.refl _) (bf.refl _) hr er
theorem Lb{a b:MS}(h:tMS K (bo a b) D σ H):Lc (tMS K a) (tMS K b) D σ H:=by
 obtain⟨μ,S,ρ,r,hr,er,e,k⟩:=h
 unfold bo at e
 split at e
 ·rename_i ρ1 S1 q
  refine⟨μ,S,ρ,_,hr,er,q,λμ1 σ1 H1 p1 k1 hr1 er1 =>?_⟩
  exact⟨μ1,S1,ρ1,r,hr1,er1,e,k.mono p1 k1⟩
 ·rename_i q
  refine⟨μ,S,ρ,r,hr,er,e,?_⟩
  obtain⟨f,ρ',S'⟩:=r
  cases f with
  | nx=>exact absurd e (q ρ' S')
  | bk=>exact k
  | ct=>exact k
  | rt u=>exact k
theorem E1{i:Nat}{m:ME}(h:tMS K (bV i m) D σ H):AJ (tM K m) (jA i) D σ H:=by
 obtain⟨μ,S,ρ,r,hr,er,e,k⟩:=h
 obtain⟨x,S1,e1,e⟩:=bq e
 cases e
 exact⟨μ,S,ρ,x,S1,hr,er,e1,λμ1 vx H1 p1 k1 hr1 rx=>k μ1 _ H1 p1 k1 hr1 ((er.mono k1 p1).set rx i)⟩
noncomputable def JR:BQ:=λo i v H Q =>∃a H',o = .ref a/\zv H a i v H'/\Q H'
noncomputable def Ft:BQ:=λo i v H Q=>FH o i v H Q\/JR o i v H Q
theorem DR{X:Cx}(hu:X.A.units+1<cLine):GZ X Ft:=by
 intro pins s σ H o i v ov iv u Q I ro ri rv h
 rcases h with h | ⟨a,H',rfl,g,q⟩
 ·exact set_list pins s σ H o i v ov iv u Q I ro ri rv h
 ·obtain rfl:ov=bH a:=ro
  exact z0 hu I g ri rv λs4 I4=>⟨H',I4,q⟩
theorem EC{o i m:ME}(h:tMS K (lQ o i m) D σ H):AJ (tM K m) (J9 (tM K o) (tM K i) Ft) D σ H:=by
 obtain⟨μ,S,ρ,r,hr,er,e,k⟩:=h
 obtain⟨x,S1,e1,e⟩:=bq e
 obtain⟨p,S2,e2,e⟩:=bq e
 obtain⟨j,S3,e3,e⟩:=bq e
 cases p with
 | ref n=>
   simp only at e
   split at e
   ·rename_i us q
    split at e
    rotate_left
    ·cases e
    rename_i kk
    cases z:ixN us.length kk with
    | none=>rw[z]at e;cases e
    | some m'=>
      rw[z]at e;cases e
      refine⟨μ,S,ρ,x,S1,hr,er,e1,λμ1 vx H1 p1 k1 hr1 rx =>?_⟩
      refine⟨μ1,S1,ρ,_,S2,hr1,er.mono k1 p1,e2,λμ2 vo H2 p2 k2 hr2 ro =>?_⟩
      refine⟨μ2,S2,ρ,_,S3,hr2,er.mono (k1.trans k2) (p1.trans p2),e3,λμ3 vi H3 p3 k3 hr3 ri =>?_⟩
      obtain⟨a,rfl,ha⟩:=gR ro
      have ha3:=p3.get ha
      obtain⟨vs,e0,r0⟩:=hr3.cell n _ a q ha3
      have rx3:RU H3 μ3 x vx:=RU.mono (k2.trans k3) (p2.trans p3) _ _ rx
      refine .inl ⟨a,vs,kk,m',rfl,cJ ri,e0,by rw[<- r0.len];exact z,?_⟩
      have kw:bf H3 (upd H3 a (.lst (vs.set m' vx))):=bf.wr e0
      exact k μ3 _ _ (p1.trans (p2.trans p3)) (k1.trans (k2.trans (k3.trans kw))) (hr3.wr q ha3 (r0.set rx3 m')) (er.mono (k1.trans (k2.trans (k3.trans kw))) (p1.trans (p2.trans p3)))
   ·rename_i kvs q
    cases qk:keyOf j with
    | none=>rw[qk]at e;cases e
    | some kk=>
      rw[qk]at e
      simp only[ax]at e
      split at e
      ·rename_i hz
       cases e
       refine⟨μ,S,ρ,x,S1,hr,er,e1,λμ1 vx H1 p1 k1 hr1 rx =>?_⟩
       refine⟨μ1,S1,ρ,_,S2,hr1,er.mono k1 p1,e2,λμ2 vo H2 p2 k2 hr2 ro =>?_⟩
       refine⟨μ2,S2,ρ,_,S3,hr2,er.mono (k1.trans k2) (p1.trans p2),e3,λμ3 vi H3 p3 k3 hr3 ri =>?_⟩
       obtain⟨a,rfl,ha⟩:=gR ro
       have ha3:=p3.get ha
       obtain⟨vs,e0,r0⟩:=hr3.cell n _ a q ha3
       have rx3:RU H3 μ3 x vx:=RU.mono (k2.trans k3) (p2.trans p3) _ _ rx
       have hl:kvs.length=vs.length:=by have:=r0.len;rwa[aE]at this
       obtain⟨ws,ew,rw'⟩:=DW (k:=kk) rx3 r0
       have kw:bf H3 (upd H3 a (.dK (putK (dV kvs vs) kk vx))):=bf.wrG e0 (λ_ z=>by cases z) λ_ _ z=>by cases z
       refine .inr ⟨a,_,rfl,.inl ⟨_,kk,e0,uf ri qk,by rw[Ca hl,sizeLine_eq];exact hz,rfl⟩,?_⟩
       exact k μ3 _ _ (p1.trans (p2.trans p3)) (k1.trans (k2.trans (k3.trans kw))) (hr3.wrC q ha3 rfl ⟨ws,by rw[ew];exact cq,RUs.mono kw (Pre.refl _) _ _ rw'⟩) (er.mono (k1.trans (k2.trans (k3.trans kw))) (p1.trans (p2.trans p3)))
      ·cases e
   ·cases e
 | _=>cases e
theorem Iw{m:ME}(h:tMS K (cy m) D σ H):Fu (tM K m) D σ H:=by
 obtain⟨μ,S,ρ,r,hr,er,e,k⟩:=h
 obtain⟨x,S1,e1,e⟩:=bq e
 cases e
 exact⟨μ,S,ρ,x,S1,hr,er,e1,λμ1 vx H1 p1 k1 hr1 rx=>k μ1 σ H1 p1 k1 hr1 (er.mono k1 p1)⟩
theorem IZ{m:ME}(h:tMS K (cK m) D σ H):K6 (tM K m) D σ H:=by
 obtain⟨μ,S,ρ,r,hr,er,e,k⟩:=h
 obtain⟨x,S1,e1,e⟩:=bq e
 cases e
 exact⟨μ,S,ρ,x,S1,hr,er,e1,k⟩
theorem Lp{c:MT}{a b:MS}(h:tMS K (sIf c a b) D σ H):JV (tMT K c) (tMS K a) (tMS K b) D σ H:=by
 obtain⟨μ,S,ρ,r,hr,er,e,k⟩:=h
 obtain⟨x,S1,e1,e⟩:=bq e
 refine⟨μ,S,ρ,x,S1,hr,er,e1,λμ1 H1 p1 k1 hr1 =>?_⟩
 cases x with
 | true=>exact o8 ⟨μ1,S1,ρ,r,hr1,er.mono k1 p1,e,k.mono p1 k1⟩
 | false=>exact pq ⟨μ1,S1,ρ,r,hr1,er.mono k1 p1,e,k.mono p1 k1⟩
theorem nM{b:MS}{ρ:Rho}{S:Sto}{μ μ0:List Addr}{H0:Hp}{k:MS}{r:Fl×Rho×Sto}{N:St->Hp->Prop}(hr:HR K μ S H)(er:ER H μ ρ σ)(e:aft (b ρ S) k=some r)(p:Pre μ0 μ)(kp:bf H0 H)(fl:FlP K μ0 H0 D r)
  (hN: ∀μ1 σ1 H1 ρ1 S1,Pre μ0 μ1->bf H0 H1->HR K μ1 S1 H1->ER H1 μ1 ρ1 σ1->k ρ1 S1=some r->N σ1 H1):tMS K b { D with nx:=N,ct:=N,bk:=D.nx } σ H:=by
 unfold aft at e
 split at e
 ·rename_i ρ1 S1 q
  exact⟨μ,S,ρ,_,hr,er,q,λμ1 σ1 H1 p1 k1 hr1 er1=>hN μ1 σ1 H1 ρ1 S1 (p.trans p1) (kp.trans k1) hr1 er1 e⟩
 ·rename_i ρ1 S1 q
  exact⟨μ,S,ρ,_,hr,er,q,λμ1 σ1 H1 p1 k1 hr1 er1=>hN μ1 σ1 H1 ρ1 S1 (p.trans p1) (kp.trans k1) hr1 er1 e⟩
 ·rename_i ρ1 S1 q
  cases e
  exact⟨μ,S,ρ,_,hr,er,q,λμ1 σ1 H1 p1 k1 hr1 er1=>fl μ1 σ1 H1 (p.trans p1) (kp.trans k1) hr1 er1⟩
 ·rename_i q1 q2 q3
  refine⟨μ,S,ρ,r,hr,er,e,?_⟩
  obtain⟨f,ρ',S'⟩:=r
  cases f with
  | nx=>exact absurd e (q1 ρ' S')
  | ct=>exact absurd e (q2 ρ' S')
  | bk=>exact absurd e (q3 ρ' S')
  | rt u=>exact Aft.mono fl p kp
theorem drop_cons{α:Type}{l:List α}{i:Nat}{x:α}(h:l[i]? = some x):l.drop i=x::l.drop (i+1):=by
 obtain⟨hi,e⟩:=af.mp h
 rw[kF hi,e]
theorem Hf{i:Nat}{b:MS}{us:List U}{vs:List V}{ρ:Rho}{S:Sto}{μ:List Addr}{a:Addr}{r:Fl×Rho×Sto}(hr:HR K μ S H)(er:ER H μ ρ σ)(e:uG i b us ρ S=some r)(fl:FlP K μ H D r)(ha:H a=some (.tup vs))(ru:RUs H μ us vs):
  ∃W:Nat->Nat->St->Hp->Prop,(∃m,W 0 m σ H) /\ ∀k m σ H,W k m σ H ->
   ((Itt K a).stop k H/\D.nx σ H)\/((Itt K a).go k H /\ ∃N:St->Hp->Prop,(∀σ' H',N σ' H' -> ∃m',m'<m/\W (k+1) m' σ' H') /\ ∀x H',(Itt K a).yld k H x H'->jA i x σ H' λσ2 H2=>tMS K b { D with nx:=N,ct:=N,bk:=D.nx } σ2 H2):=by
 refine Eb (xs:=vs) (λk σ1 H1 =>∃μ1 S1 ρ1,Pre μ μ1/\bf H H1/\HR K μ1 S1 H1/\ER H1 μ1 ρ1 σ1/\uG i b (us.drop k) ρ1 S1=some r) ⟨μ,S,ρ,Pre.refl _,bf.refl _,hr,er,e⟩ ?_ ?_ ?_
 ·rintro k σ1 H1 _ ⟨μ1,S1,ρ1,p1,k1,_⟩
  exact .inl (.inl (k1 a vs ha))
 ·rintro k x σ1 H1 hx ⟨μ1,S1,ρ1,p1,k1,hr1,er1,e1⟩
  have hk:k<us.length:=by rw[ru.len];exact(af.mp hx).1
  have hu:us[k]? = some us[k]:=by simp[hk]
  obtain⟨v,hv,rv⟩:=ru.get hu
  rw[hx]at hv;cases hv
  rw[drop_cons hu]at e1
  have rv1:RU H1 μ1 us[k] x:=RU.mono k1 p1 _ _ rv
  exact nM hr1 (er1.set rv1 i) e1 p1 k1 fl λμ2 σ2 H2 ρ2 S2 p2 k2 hr2 er2 e2=>⟨μ2,S2,ρ2,p2,k2,hr2,er2,e2⟩
 ·rintro σ1 H1 ⟨μ1,S1,ρ1,p1,k1,hr1,er1,e1⟩
  rw[<- ru.len,tP]at e1
  cases e1
  exact fl μ1 σ1 H1 p1 k1 hr1 er1
theorem Cu{i:Nat}{b:MS}{lo:Int}{n:Nat}{ρ:Rho}{S:Sto}{μ:List Addr}{r:Fl×Rho×Sto}(hr:HR K μ S H)(er:ER H μ ρ σ)(e:uG i b (bh lo n) ρ S=some r)(fl:FlP K μ H D r):
  ∃W:Nat->Nat->St->Hp->Prop,(∃m,W 0 m σ H) /\ ∀k m σ H,W k m σ H ->
   ((Itr lo n).stop k H/\D.nx σ H)\/((Itr lo n).go k H /\ ∃N:St->Hp->Prop,(∀σ' H',N σ' H' -> ∃m',m'<m/\W (k+1) m' σ' H') /\ ∀x H',(Itr lo n).yld k H x H'->jA i x σ H' λσ2 H2=>tMS K b { D with nx:=N,ct:=N,bk:=D.nx } σ2 H2):=by
 refine Aa (λk σ1 H1 =>∃μ1 S1 ρ1,Pre μ μ1/\bf H H1/\HR K μ1 S1 H1/\ER H1 μ1 ρ1 σ1/\uG i b ((bh lo n).drop k) ρ1 S1=some r) ⟨μ,S,ρ,Pre.refl _,bf.refl _,hr,er,e⟩ ?_ ?_
 ·rintro k σ1 H1 hk ⟨μ1,S1,ρ1,p1,k1,hr1,er1,e1⟩
  have hu:(bh lo n)[k]? = some (.int (lo+k)):=by simp[bh,hk]
  rw[drop_cons hu]at e1
  exact nM hr1 (er1.set eG i) e1 p1 k1 fl λμ2 σ2 H2 ρ2 S2 p2 k2 hr2 er2 e2=>⟨μ2,S2,ρ2,p2,k2,hr2,er2,e2⟩
 ·rintro σ1 H1 ⟨μ1,S1,ρ1,p1,k1,hr1,er1,e1⟩
  have hl:(bh lo n).length=n:=by simp[bh]
  rw[List.drop_eq_nil_of_le (by exact kg (by assumption))]at e1
  cases e1
  exact fl μ1 σ1 H1 p1 k1 hr1 er1
theorem Gb{i:Nat}{b:MS}{n f:Nat}{ρ:Rho}{S:Sto}{μ:List Addr}{a:Addr}{r:Fl×Rho×Sto}(hr:HR K μ S H)(er:ER H μ ρ σ)(e:forL i b n f 0 ρ S=some r)(fl:FlP K μ H D r)(ha:μ[n]? = some a):
  ∃W:Nat->Nat->St->Hp->Prop,(∃m,W 0 m σ H) /\ ∀k m σ H,W k m σ H ->
   ((Itl K a).stop k H/\D.nx σ H)\/((Itl K a).go k H /\ ∃N:St->Hp->Prop,(∀σ' H',N σ' H' -> ∃m',m'<m/\W (k+1) m' σ' H') /\ ∀x H',(Itl K a).yld k H x H'->jA i x σ H' λσ2 H2=>tMS K b { D with nx:=N,ct:=N,bk:=D.nx } σ2 H2):=by
 refine⟨λk m σ1 H1 =>∃μ1 S1 ρ1,Pre μ μ1/\bf H H1/\HR K μ1 S1 H1/\ER H1 μ1 ρ1 σ1/\forL i b n m k ρ1 S1=some r,⟨f,μ,S,ρ,Pre.refl _,bf.refl _,hr,er,e⟩,?_⟩
 rintro k m σ1 H1 ⟨μ1,S1,ρ1,p1,k1,hr1,er1,e1⟩
 cases m with
 | zero=>cases e1
 | succ m=>
   unfold forL at e1
   cases q:getL S1 n with
   | none=>rw[q]at e1;cases e1
   | some us=>
     rw[q]at e1
     simp only[ax]at e1
     obtain⟨a',vs,ha',hs,rs⟩:=hr1.sq q
     rw[p1.get ha]at ha';cases ha'
     cases z:us[k]? with
     | none=>
       rw[z]at e1
       cases e1
       refine .inl ⟨⟨vs,hs,?_⟩,fl μ1 σ1 H1 p1 k1 hr1 er1⟩
       rw[<- rs.len];exact d7.mp z
     | some u=>
       rw[z]at e1
       obtain⟨v,hv,rv⟩:=rs.get z
       refine .inr ⟨⟨vs,v,hs,hv⟩,λσ2 H2 =>∃μ2 S2 ρ2,Pre μ μ2/\bf H H2/\HR K μ2 S2 H2/\ER H2 μ2 ρ2 σ2/\forL i b n m (k+1) ρ2 S2=some r,λσ' H' w=>⟨m,cY _,w⟩,λx H' y =>?_⟩
       obtain⟨e',y⟩:=y
       subst e'
       have hx:=y vs hs
       rw[hv]at hx;cases hx
       exact nM hr1 (er1.set rv i) e1 p1 k1 fl λμ2 σ2 H2 ρ2 S2 p2 k2 hr2 er2 e2=>⟨μ2,S2,ρ2,p2,k2,hr2,er2,e2⟩
theorem Dv{c:MT}{b:MS}(h:tMS K (qz c b) D σ H):BH (tMT K c) (tMS K b) D σ H:=by
 obtain⟨μ,S,ρ,r,hr,er,e,fl⟩:=h
 refine⟨λm σ1 H1 =>∃μ1 S1 ρ1,Pre μ μ1/\bf H H1/\HR K μ1 S1 H1/\ER H1 μ1 ρ1 σ1/\whl c b m ρ1 S1=some r,⟨fuel,μ,S,ρ,Pre.refl _,bf.refl _,hr,er,e⟩,?_⟩
 rintro m σ1 H1 ⟨μ1,S1,ρ1,p1,k1,hr1,er1,e1⟩
 cases m with
 | zero=>cases e1
 | succ m=>
   unfold whl at e1
   obtain⟨x,S2,e2,e1⟩:=bq e1
   refine⟨μ1,S1,ρ1,x,S2,hr1,er1,e2,λμ2 H2 p2 k2 hr2 =>?_⟩
   cases x with
   | true=>
     refine o8 ⟨λσ3 H3 =>∃μ3 S3 ρ3,Pre μ μ3/\bf H H3/\HR K μ3 S3 H3/\ER H3 μ3 ρ3 σ3/\whl c b m ρ3 S3=some r,λσ' H' w=>⟨m,cY _,w⟩,?_⟩
     exact nM hr2 (er1.mono k2 p2) e1 (p1.trans p2) (k1.trans k2) fl λμ3 σ3 H3 ρ3 S3 p3 k3 hr3 er3 e3=>⟨μ3,S3,ρ3,p3,k3,hr3,er3,e3⟩
   | false=>
     have e':some (Fl.nx,ρ1,S2)=some r:=e1
     cases e'
     exact pq (fl μ2 σ1 H2 (p1.trans p2) (k1.trans k2) hr2 (er1.mono k2 p2))
end
end
end _G
end
section
namespace _G
open PySem PySem.Spec _L
open PyProof.Rows hiding St
section
variable {K:KX}{σ:St}{H:Hp}{Q:VK}{D:Ends}
theorem FB{a:MA}{R:It->Hp->Prop}{μ:List Addr}{S S1:Sto}{ρ:Rho}{src:Src}(hr:HR K μ S H)(er:ER H μ ρ σ)(e:iR1 a ρ S=some (src,S1))
  (hR: ∀μ1 H1 n,Pre μ μ1->bf H H1->HR K μ1 S1 H1->src = .imm (bh 0 n)->R (Itr 0 n) H1):vB (tMA K a) σ H R:=by
 obtain⟨xs,S2,e1,e⟩:=bq e
 split at e
 ·rename_i j
  split at e
  ·rename_i hj
   cases e
   refine⟨μ,S,ρ,_,_,hr,er,e1,λμ1 vs H1 p1 k1 hr1 rs =>?_⟩
   obtain⟨v,r,rfl,rx,rn⟩:=rs.inv
   rw[rn.nil_inv,cJ rx]
   exact⟨j,rfl,hj.1,hj.2,hR μ1 H1 _ p1 k1 hr1 rfl⟩
  ·cases e
 ·cases e
theorem EY{a:MA}{R:It->Hp->Prop}{μ:List Addr}{S S1:Sto}{ρ:Rho}{src:Src}(hr:HR K μ S H)(er:ER H μ ρ σ)(e:iR2 a ρ S=some (src,S1))
  (hR: ∀μ1 H1 lo n,Pre μ μ1->bf H H1->HR K μ1 S1 H1->src = .imm (bh lo n)->R (Itr lo n) H1):wz (tMA K a) σ H R:=by
 obtain⟨xs,S2,e1,e⟩:=bq e
 split at e
 ·rename_i i j
  split at e
  ·rename_i hj
   cases e
   refine⟨μ,S,ρ,_,_,hr,er,e1,λμ1 vs H1 p1 k1 hr1 rs =>?_⟩
   obtain⟨v,r,rfl,rx,rs⟩:=rs.inv
   obtain⟨w,r,rfl,ry,rn⟩:=rs.inv
   rw[rn.nil_inv,cJ rx,cJ ry]
   exact⟨i,j,rfl,⟨hj.1.1,hj.1.2,hj.2.1,hj.2.2⟩,hR μ1 H1 _ _ p1 k1 hr1 rfl⟩
  ·cases e
 ·cases e
theorem xy{a:ME}{R:It->Hp->Prop}{μ:List Addr}{S S1:Sto}{ρ:Rho}{src:Src}(hr:HR K μ S H)(er:ER H μ ρ σ)(e:eK a ρ S=some (src,S1))
  (hT: ∀μ1 H1 us p vs,Pre μ μ1->bf H H1->HR K μ1 S1 H1->src = .imm us->H1 p=some (.tup vs)->RUs H1 μ1 us vs->R (Itt K p) H1)
  (hL: ∀μ1 H1 n p,Pre μ μ1->bf H H1->HR K μ1 S1 H1->src = .mut n->μ1[n]? = some p->R (Itl K p) H1):tE K (tM K a) σ H R\/Ac K (tM K a) σ H R:=by
 obtain⟨x,S2,e1,e⟩:=bq e
 split at e
 ·cases e
  refine .inr ⟨μ,S,ρ,_,_,hr,er,e1,λμ1 vx H1 p1 k1 hr1 rx =>?_⟩
  obtain⟨p,vs,rfl,hp,r⟩:=iZ rx
  exact⟨p,rfl,⟨vs,.inl (.inl hp)⟩,hT μ1 H1 _ p vs p1 k1 hr1 rfl hp r⟩
 ·rename_i n
  cases q:getL S2 n with
  | none=>rw[q]at e;cases e
  | some ws=>
    rw[q]at e;cases e
    refine .inl ⟨μ,S,ρ,_,_,hr,er,e1,λμ1 vx H1 p1 k1 hr1 rx =>?_⟩
    obtain⟨p,rfl,hp⟩:=gR rx
    obtain⟨p',ys,hp',hs,r'⟩:=hr1.sq q
    rw[hp]at hp';cases hp'
    exact⟨p,rfl,⟨ys,hs⟩,hL μ1 H1 n p p1 k1 hr1 rfl hp⟩
 ·cases e
theorem KC{i:Nat}{a:MA}{b:MS}(h:tMS K (iM i (iR1 a) b) D σ H):vv (vB (tMA K a)) (jA i) (tMS K b) D σ H:=by
 obtain⟨μ,S,ρ,r,hr,er,e,fl⟩:=h
 obtain⟨src,S1,e1,e⟩:=bq e
 refine FB hr er e1 λμ1 H1 n p1 k1 hr1 hs =>?_
 subst hs
 exact Cu hr1 (er.mono k1 p1) e (fl.mono p1 k1)
theorem Ji{i:Nat}{a:MA}{b:MS}(h:tMS K (iM i (iR2 a) b) D σ H):vv (wz (tMA K a)) (jA i) (tMS K b) D σ H:=by
 obtain⟨μ,S,ρ,r,hr,er,e,fl⟩:=h
 obtain⟨src,S1,e1,e⟩:=bq e
 refine EY hr er e1 λμ1 H1 lo n p1 k1 hr1 hs =>?_
 subst hs
 exact Cu hr1 (er.mono k1 p1) e (fl.mono p1 k1)
theorem Ls{i:Nat}{a:ME}{b:MS}(h:tMS K (iM i (eK a) b) D σ H):vv (λσ H R=>tE K (tM K a) σ H R\/Ac K (tM K a) σ H R) (jA i) (tMS K b) D σ H:=by
 obtain⟨μ,S,ρ,r,hr,er,e,fl⟩:=h
 obtain⟨src,S1,e1,e⟩:=bq e
 refine xy hr er e1 (λμ1 H1 us p vs p1 k1 hr1 hs hp rs =>?_) λμ1 H1 n p p1 k1 hr1 hs hp =>?_
 ·subst hs
  exact Hf hr1 (er.mono k1 p1) e (fl.mono p1 k1) hp rs
 ·subst hs
  exact Gb hr1 (er.mono k1 p1) e (fl.mono p1 k1) hp
theorem oW{t:MT}{e:ME}{ρ:Rho}: ∀{us acc ys:List U}{S S':Sto},fA t e ρ us acc S=some (ys,S')->acc.length<=ys.length
 | [],acc,ys,S,S',h=>by cases h;exact ak _
 | x::us,acc,ys,S,S',h=>by
   obtain⟨k,S1,e1,h⟩:=bq h
   cases k with
   | true=>
     obtain⟨y,S2,e2,h⟩:=bq (show bnd (e (ρ++[some x]) S1) (λy S2=>fA t e ρ us (acc++[y]) S2)=some (ys,S') from h)
     have:=oW h
     simp at this;exact aT (by assumption)
   | false=>exact oW (show fA t e ρ us acc S1=some (ys,S') from h)
theorem oJ{t:MT}{e:ME}{ρ:Rho}{n:Nat}: ∀{f i:Nat}{acc ys:List U}{S S':Sto},jo t e ρ n f i acc S=some (ys,S')->acc.length<=ys.length
 | 0,i,acc,ys,S,S',h=>by cases h
 | f+1,i,acc,ys,S,S',h=>by
   unfold jo at h
   cases q:getL S n with
   | none=>rw[q]at h;cases h
   | some us=>
     rw[q]at h
     simp only[ax]at h
     cases z:us[i]? with
     | none=>rw[z]at h;cases h;exact ak _
     | some x=>
       rw[z]at h
       obtain⟨k,S1,e1,h⟩:=bq h
       cases k with
       | true=>
         obtain⟨y,S2,e2,h⟩:=bq (show bnd (e (ρ++[some x]) S1) (λy S2=>jo t e ρ n f (i+1) (acc++[y]) S2)=some (ys,S') from h)
         have:=oJ h
         simp at this;exact aT (by assumption)
       | false=>exact oJ (show jo t e ρ n f (i+1) acc S1=some (ys,S') from h)
noncomputable def yK(J:It)(σ:St)(tt:TT)(te:TE)(H1:Hp)(Q:VK):Prop:= ∃W:Nat->Nat->List V->Hp->Prop,(∃m,W 0 m [] H1) /\ ∀i m ys H,W i m ys H->ys.length<sizeLine /\
 ((J.stop i H /\ ∀D,H D=none->Q (.ref D) (upd H D (.lst ys))) \/
  (J.go i H /\ ∀x H',J.yld i H x H'->tt (σ++[some x]) H' λb H3=>if b=true then te (σ++[some x]) H3 λy H4 =>∃m',m'<m/\W (i+1) m' (ys++[y]) H4 else ∃m',m'<m/\W (i+1) m' ys H3))
theorem sJ{t:MT}{e:ME}{ρ':Rho}{σ':St}{H1:Hp}{μ1:List Addr}{S1 S':Sto}{au ys:List U}{acc:List V}{next:List U->Sto->Res (List U)}(W:List V->Hp->Prop)(hr1:HR K μ1 S1 H1)(er1:ER H1 μ1 ρ' σ')(ra:RUs H1 μ1 au acc)
  (e1:bnd (t ρ' S1) (λk S2=>if k then bnd (e ρ' S2) λy S3=>next (au++[y]) S3 else next au S2)=some (ys,S'))
  (hW: ∀μ2 S2 au2 acc2 H2,Pre μ1 μ2->bf H1 H2->HR K μ2 S2 H2->RUs H2 μ2 au2 acc2->next au2 S2=some (ys,S')->W acc2 H2):
  tMT K t σ' H1 λb H3=>if b=true then tM K e σ' H3 λy H4=>W (acc++[y]) H4 else W acc H3:=by
 obtain⟨b,S2,e2,e1⟩:=bq e1
 refine⟨μ1,S1,_,b,S2,hr1,er1,e2,λμ2 H2 p2 k2 hr2 =>?_⟩
 have ra2:=RUs.mono k2 p2 _ _ ra
 cases b with
 | true=>
   obtain⟨y',S3,e3,e1⟩:=bq (show bnd (e ρ' S2) (λy S2=>next (au++[y]) S2)=some (ys,S') from e1)
   exact o8 ⟨μ2,S2,_,y',S3,hr2,er1.mono k2 p2,e3,λμ3 v3 H3 p3 k3 hr3 rv3=>hW μ3 S3 _ _ H3 (p2.trans p3) (k2.trans k3) hr3 ((RUs.mono k3 p3 _ _ ra2).append (.cons rv3 .nil)) e1⟩
 | false=>exact pq (hW μ2 S2 _ _ H2 p2 k2 hr2 ra2 e1)
theorem vF{J:It}{t:MT}{e:ME}{ρ:Rho}{us ys:List U}{μ:List Addr}{S S':Sto}(hr:HR K μ S H)(er:ER H μ ρ σ)(h:fA t e ρ us [] S=some (ys,S'))(hz:ys.length<big)(k:Aft K μ H (.ref S'.length) (S'++[.lst ys]) Q)
  (hstop: ∀H',bf H H'->J.stop us.length H') (hgo: ∀(i:Nat) H',i<us.length->bf H H'->J.go i H')
  (hy: ∀(i:Nat) H' x H'' (u:U),us[i]? = some u->bf H H'->J.yld i H' x H''->H''=H'/\RU H μ u x):yK J σ (tMT K t) (tM K e) H Q:=by
 have hz':ys.length<sizeLine:=by unfold big at hz;rw[sizeLine_eq];exact hz
 refine⟨λi m acc H1=>m=us.length - i/\i<=us.length /\ ∃μ1 S1 au,Pre μ μ1/\bf H H1/\HR K μ1 S1 H1/\RUs H1 μ1 au acc/\fA t e ρ (us.drop i) au S1=some (ys,S'),⟨_,rfl,en _,μ,S,[],Pre.refl _,bf.refl _,hr,.nil,h⟩,?_⟩
 rintro i m acc H1 ⟨rfl,hi,μ1,S1,au,p1,k1,hr1,ra,e1⟩
 have hl:=oW e1
 have hl2:=ra.len
 refine⟨by omega,?_⟩
 by_cases hlt:i<us.length
 ·have hu:us[i]? = some us[i]:=by simp[hlt]
  rw[drop_cons hu]at e1
  refine .inr ⟨hgo i H1 hlt k1,λx H' y =>?_⟩
  obtain⟨rfl,rx⟩:=hy i H1 x H' us[i] hu k1 y
  have er1:ER H' μ1 (ρ++[some us[i]]) (σ++[some x]):=(er.mono k1 p1).push (RU.mono k1 p1 _ _ rx)
  exact sJ (next:=fA t e ρ (us.drop (i+1))) (λacc H1 =>∃m',m'<us.length - i/\m'=us.length - (i+1)/\i+1<=us.length /\ ∃μ1 S1 au,Pre μ μ1/\bf H H1/\HR K μ1 S1 H1/\RUs H1 μ1 au acc/\fA t e ρ (us.drop (i+1)) au S1=some (ys,S')) hr1 er1 ra e1 λμ2 S2 au2 acc2 H2 p2 k2 hr2 ra2 q=>⟨us.length - (i+1),by omega,rfl,hlt,μ2,S2,au2,p1.trans p2,k1.trans k2,hr2,ra2,q⟩
 ·have e:i=us.length:=by omega
  subst e
  rw[tP]at e1
  cases e1
  exact .inl ⟨hstop H1 k1,λD hD=>mH (k.mono p1 k1) hr1 ra hD⟩
theorem AV{t:MT}{e:ME}{ρ:Rho}{n f:Nat}{ys:List U}{μ:List Addr}{S S':Sto}{p:Addr}(hr:HR K μ S H)(er:ER H μ ρ σ)(h:jo t e ρ n f 0 [] S=some (ys,S'))(hz:ys.length<big)(k:Aft K μ H (.ref S'.length) (S'++[.lst ys]) Q)
  (hp:μ[n]? = some p):yK (Itl K p) σ (tMT K t) (tM K e) H Q:=by
 have hz':ys.length<sizeLine:=by unfold big at hz;rw[sizeLine_eq];exact hz
 refine⟨λi m acc H1 =>∃μ1 S1 au,Pre μ μ1/\bf H H1/\HR K μ1 S1 H1/\RUs H1 μ1 au acc/\jo t e ρ n m i au S1=some (ys,S'),⟨f,μ,S,[],Pre.refl _,bf.refl _,hr,.nil,h⟩,?_⟩
 rintro i m acc H1 ⟨μ1,S1,au,p1,k1,hr1,ra,e1⟩
 have hl:=oJ e1
 have hl2:=ra.len
 refine⟨by omega,?_⟩
 cases m with
 | zero=>cases e1
 | succ m=>
   unfold jo at e1
   cases q:getL S1 n with
   | none=>rw[q]at e1;cases e1
   | some us=>
     rw[q]at e1
     simp only[ax]at e1
     obtain⟨a',vs,ha',hs,rs⟩:=hr1.sq q
     rw[p1.get hp]at ha';cases ha'
     cases z:us[i]? with
     | none=>
       rw[z]at e1
       cases e1
       exact .inl ⟨⟨vs,hs,by rw[<- rs.len];exact d7.mp z⟩,λD hD=>mH (k.mono p1 k1) hr1 ra hD⟩
     | some u=>
       rw[z]at e1
       obtain⟨v,hv,rv⟩:=rs.get z
       refine .inr ⟨⟨vs,v,hs,hv⟩,λx H' y =>?_⟩
       obtain⟨e',y⟩:=y
       subst e'
       have hx:=y vs hs
       rw[hv]at hx;cases hx
       exact sJ (next:=jo t e ρ n m (i+1)) (λacc H1 =>∃m',m'<m+1 /\ ∃μ1 S1 au,Pre μ μ1/\bf H H1/\HR K μ1 S1 H1/\RUs H1 μ1 au acc/\jo t e ρ n m' (i+1) au S1=some (ys,S')) hr1 ((er.mono k1 p1).push rv) ra e1 λμ2 S2 au2 acc2 H2 p2 k2 hr2 ra2 q=>⟨m,cY _,μ2,S2,au2,p1.trans p2,k1.trans k2,hr2,ra2,q⟩
theorem vJ{lo:Int}{n:Nat}{t:MT}{e:ME}{ρ:Rho}{ys:List U}{μ:List Addr}{S S':Sto}(hr:HR K μ S H)(er:ER H μ ρ σ)(h:fA t e ρ (bh lo n) [] S=some (ys,S'))(hz:ys.length<big)(k:Aft K μ H (.ref S'.length) (S'++[.lst ys]) Q):
  yK (Itr lo n) σ (tMT K t) (tM K e) H Q:=by
 have hl:(bh lo n).length=n:=by simp[bh]
 refine vF hr er h hz k (λH' _=>by rw[hl];exact ak _) (λi H' hi _=>by rw[hl]at hi;exact hi) λi H' x H'' u hu _ y =>?_
 obtain⟨rfl,rfl⟩:=y
 have hi:i<n:=by rw[<- hl];exact(af.mp hu).1
 have e2:(bh lo n)[i]? = some (.int (lo+i)):=by simp[bh,hi]
 rw[e2]at hu;cases hu
 exact⟨rfl,eG⟩
theorem vO{us:List U}{vs:List V}{p:Addr}{t:MT}{e:ME}{ρ:Rho}{ys:List U}{μ:List Addr}{S S':Sto}(hr:HR K μ S H)(er:ER H μ ρ σ)(h:fA t e ρ us [] S=some (ys,S'))(hz:ys.length<big)(k:Aft K μ H (.ref S'.length) (S'++[.lst ys]) Q)
  (hp:H p=some (.tup vs)) (rs:RUs H μ us vs):yK (Itt K p) σ (tMT K t) (tM K e) H Q:=by
 refine vF hr er h hz k (λH' kp=>⟨vs,.inl (.inl (kp p vs hp)),by rw[rs.len];exact ak _⟩) (λi H' hi kp =>?_) λi H' x H'' u hu kp y =>?_
 ·have hi':i<vs.length:=by rw[<- rs.len];exact hi
  exact⟨vs,vs[i],.inl (.inl (kp p vs hp)),by simp[hi']⟩
 ·obtain⟨rfl,y⟩:=y
  obtain⟨v,hv,rv⟩:=rs.get hu
  have:=y vs (.inl (.inl (kp p vs hp)))
  rw[hv]at this;cases this
  exact⟨rfl,rv⟩
theorem Jw{a:MA}{t:MT}{e:ME}(h:tM K (dg (iR1 a) t e) σ H Q):o6 (vB (tMA K a)) (tMT K t) (tM K e) σ H Q:=by
 obtain⟨μ,S,ρ,u,S',hr,er,e0,k⟩:=h
 obtain⟨src,S1,e1,e0⟩:=bq e0
 obtain⟨ys,S2,e2,e0⟩:=bq e0
 split at e0
 ·rename_i hz
  cases e0
  refine FB hr er e1 λμ1 H1 n p1 k1 hr1 hs =>?_
  subst hs
  exact vJ hr1 (er.mono k1 p1) e2 hz (k.mono p1 k1)
 ·cases e0
theorem JB{a:MA}{t:MT}{e:ME}(h:tM K (dg (iR2 a) t e) σ H Q):o6 (wz (tMA K a)) (tMT K t) (tM K e) σ H Q:=by
 obtain⟨μ,S,ρ,u,S',hr,er,e0,k⟩:=h
 obtain⟨src,S1,e1,e0⟩:=bq e0
 obtain⟨ys,S2,e2,e0⟩:=bq e0
 split at e0
 ·rename_i hz
  cases e0
  refine EY hr er e1 λμ1 H1 lo n p1 k1 hr1 hs =>?_
  subst hs
  exact vJ hr1 (er.mono k1 p1) e2 hz (k.mono p1 k1)
 ·cases e0
theorem LA{a:ME}{t:MT}{e:ME}(h:tM K (dg (eK a) t e) σ H Q):o6 (λσ H R=>tE K (tM K a) σ H R\/Ac K (tM K a) σ H R) (tMT K t) (tM K e) σ H Q:=by
 obtain⟨μ,S,ρ,u,S',hr,er,e0,k⟩:=h
 obtain⟨src,S1,e1,e0⟩:=bq e0
 obtain⟨ys,S2,e2,e0⟩:=bq e0
 split at e0
 ·rename_i hz
  cases e0
  refine xy hr er e1 (λμ1 H1 us p vs p1 k1 hr1 hs hp rs =>?_) λμ1 H1 n p p1 k1 hr1 hs hp =>?_
  ·subst hs
   exact vO hr1 (er.mono k1 p1) e2 hz (k.mono p1 k1) hp rs
  ·subst hs
   exact AV hr1 (er.mono k1 p1) e2 hz (k.mono p1 k1) hp
 ·cases e0
end
end _G
end
section
namespace _G
open PySem PySem.Spec _L
open PyProof.Rows hiding St
section
variable {K:KX}{σ:St}{H:Hp}{Q:VK}{D:Ends}
end
end _G
end
section
namespace _G
open PySem PySem.Spec _L
open PyProof.Rows hiding St
theorem PE.con{X:Cx}{e:Expr}{t t':TE}(h:PE X e t)(hm: ∀σ H Q,t' σ H Q->t σ H Q):PE X e t':=λpins s σ H Q I q=>h pins s σ H Q I (hm σ H Q q)
theorem PT.con{X:Cx}{e:Expr}{t t':TT}(h:PT X e t)(hm: ∀σ H Q,t' σ H Q->t σ H Q):PT X e t':=λpins s σ H Q I q=>h pins s σ H Q I (hm σ H Q q)
theorem PW.con{X:Cx}{e:Expr}{t t':TT}(h:PW X e t)(hm: ∀σ H Q,t' σ H Q->t σ H Q):PW X e t':=λwh pins s σ H Q I q=>h wh pins s σ H Q I (hm σ H Q q)
theorem PA.con{X:Cx}{e:List Expr}{t t':TA}(h:PA X e t)(hm: ∀σ H Q,t' σ H Q->t σ H Q):PA X e t':=λpos pins s σ H Q I q=>h pos pins s σ H Q I (hm σ H Q q)
theorem PS.con{X:Cx}{e:Stmt}{t t':TS}(h:PS X e t)(hm: ∀D σ H,t' D σ H->t D σ H):PS X e t':=λpins s σ H D I q=>h pins s σ H D I (hm D σ H q)
theorem PSs.con{X:Cx}{e:List Stmt}{t t':TS}(h:PSs X e t)(hm: ∀D σ H,t' D σ H->t D σ H):PSs X e t':=λpins s σ H D I q=>h pins s σ H D I (hm D σ H q)
theorem PTs.con{X:Cx}{e:List Expr}{t t':TT}(h:PTs X e t)(hm: ∀σ H Q,t' σ H Q->t σ H Q):PTs X e t':=λpins s σ H Q I q=>h pins s σ H Q I (hm σ H Q q)
theorem PI.or{X:Cx}{tg it:Expr}{w1 w2:TI}(h1:PI X tg it w1)(h2:PI X tg it w2):PI X tg it (λσ H R=>w1 σ H R\/w2 σ H R):=λpins s σ H R I q=>by
 rcases q with q |q
 ·exact h1 pins s σ H R I q
 ·exact h2 pins s σ H R I q
structure Mo where
 P:Program
 w:World
 K:KX
 mg:Str->Option Value
 base:Heap
 mkr:Option (Addr×Str)
noncomputable def lu(ns:List (Str×NameKind))(x:Str):Bool:=match ns.lookup x with
 | some .local=>true
 | some .cell=>true
 | some .free=>true
 | _=>false
noncomputable def lG(ns:List (Str×NameKind))(x:Str):Bool:=match ns.lookup x with
 | some .local=>true
 | some .cell=>true
 | _=>false
noncomputable def dF(ns:List (Str×NameKind))(x:Str):Bool:=match ns.lookup x with
 | some .globalImplicit=>true
 | _=>false
structure Sc(M:Mo)(X:Cx)(k:Nat)(N:List Str)(ns:List (Str×NameKind)):Prop where
 hP:X.prog=M.P
 hw:X.w=M.w
 hK:X.K=M.K
 hm:X.mg=M.mg
 hb:X.base=M.base
 hN:X.N=N
 nd:N.Nodup
 calm:X.calm=true
 loc: ∀y,ns.lookup y=some .local->X.env.scope.names.lookup y=some .local
 cel: ∀y,ns.lookup y=some .cell->X.env.scope.names.lookup y=some .cell/\X.fn y=true
 fre: ∀y,ns.lookup y=some .free->X.env.scope.names.lookup y=some .cell\/X.env.scope.names.lookup y=some .free
 glo: ∀y,ns.lookup y=some .globalImplicit->X.env.scope.names.lookup y=some .globalImplicit
 room:iG k X.A
 own:PassesOwn (model X.prog X.w) X.A X.env X.xe
 cod: ∀c q,M.mkr=some (c,q)->X.env.code = .ref c/\X.env.qual=q
section
variable {M:Mo}{X:Cx}{k:Nat}{N:List Str}{ns:List (Str×NameKind)}
theorem Sc.vis(S:Sc M X k N ns){x:Str}(h:lu ns x=true):Vis X.env.scope x:=by
 unfold lu at h
 split at h
 ·rename_i e;exact .inl (S.loc x e)
 ·rename_i e;exact .inr (.inl (S.cel x e).1)
 ·rename_i e;exact .inr (S.fre x e)
 ·cases h
theorem Sc.lo(S:Sc M X k N ns){x:Str}(h:lG ns x=true):Loc X.env.scope x/\(X.fn x=true\/X.env.scope.names.lookup x=some .local):=by
 unfold lG at h
 split at h
 ·rename_i e;exact⟨.inl (S.loc x e),.inr (S.loc x e)⟩
 ·rename_i e;exact⟨.inr (S.cel x e).1,.inl (S.cel x e).2⟩
 ·cases h
theorem Sc.gl(S:Sc M X k N ns){x:Str}(h:dF ns x=true):Gl X x:=by
 unfold dF at h
 split at h
 ·rename_i e;exact S.glo x e
 ·cases h
variable {a b c e:Expr}{es:List Expr}{ma mb mc:ME}{mt:MT}{mas:MA}{pos p1 p2:Pos}{x:Str}
theorem E4 (S:Sc M X k N ns) (i:Nat) (hi:N[i]? = some x) (hv:lu ns x=true) (hd:(x == ("__debug__":Str))=false) (hcd:(x == ("__classdict__":Str))=false):PE X (.Name x pos) (tM M.K (ae i)):=
 PE.con (mY (by rw[S.hN];exact hi) (S.vis hv) hd hcd) λ_ _ _ h=>Lf h
theorem Jr{i:Int}{j}:PE X (.Constant (.int i) j pos) (tM M.K (mC (.int i))):=PE.con Hh λ_ _ _ h=>r_c (λ_ _=>eG) h
theorem L4{i:Bool}{j}:PE X (.Constant (.bool i) j pos) (tM M.K (mC (.bl i))):=PE.con IV λ_ _ _ h=>r_c (λ_ _=>lE) h
theorem B8{j}:PE X (.Constant .none j pos) (tM M.K (mC .non)):=PE.con GO λ_ _ _ h=>r_c (λ_ _=>qB) h
theorem Gq {u:U}{v:V}{g:Value} (S:Sc M X k N ns) (hg:dF ns x=true) (hm:M.mg x=some g) (r:RelV v g) (hv : ∀ H μ,RU H μ u v) (hd:(x == ("__debug__":Str))=false):PE X (.Name x pos) (tM M.K (mC u)):=
 PE.con (Ec (S.gl hg) (by rw[S.hm];exact hm) r hd) λ_ _ _ h=>r_c hv h
theorem FM(S:Sc M X k N ns)(ha:PE X a (tM M.K ma))(hb:PE X b (tM M.K mb)):PE X (.BinOp a .Add b pos) (tM M.K (m2 cU ma mb)):=
 PE.con (sU (F4.or (OpR.or (S.hK▸El) (OpR.or (S.hK▸DI) GC))) ha hb) λ_ _ _ h=>ua Hu h
theorem Km(ha:PE X a (tM M.K ma))(hb:PE X b (tM M.K mb)):PE X (.BinOp a .Sub b pos) (tM M.K (m2 uM ma mb)):=PE.con (sU Ig ha hb) λ_ _ _ h=>ua GQ h
theorem KI(S:Sc M X k N ns)(ha:PE X a (tM M.K ma))(hb:PE X b (tM M.K mb)):PE X (.BinOp a .Mult b pos) (tM M.K (m2 ed ma mb)):=PE.con (sU (GK.or ((S.hK▸EE).or Hb)) ha hb) λ_ _ _ h=>ua Ge h
theorem JW(ha:PE X a (tM M.K ma))(hb:PE X b (tM M.K mb)):PE X (.BinOp a .FloorDiv b pos) (tM M.K (m2 oDiv ma mb)):=PE.con (sU DP ha hb) λ_ _ _ h=>ua GD h
theorem IW(ha:PE X a (tM M.K ma))(hb:PE X b (tM M.K mb)):PE X (.BinOp a .Mod b pos) (tM M.K (m2 oMod ma mb)):=PE.con (sU Gx ha hb) λ_ _ _ h=>ua Hk h
theorem JG(ha:PE X a (tM M.K ma))(hb:PE X b (tM M.K mb)):PE X (.BinOp a .Pow b pos) (tM M.K (m2 tY ma mb)):=PE.con (sU G2 ha hb) λ_ _ _ h=>ua H9 h
theorem Ki(ha:PE X a (tM M.K ma)):PE X (.UnaryOp .USub a pos) (tM M.K (m1 xM ma)):=PE.con (Kf Gp ha) λ_ _ _ h=>LI HC h
theorem LO(S:Sc M X k N ns)(ha:PE X a (tM M.K ma))(hb:PE X b (tM M.K mb))(hs:uK b):PE X (.Subscript a b pos) (tM M.K (m2 oIx ma mb)):=
 PE.con (Fo (IxR.or (S.hK▸G3) (HU (by have:=S.room.units;omega))) ha hb hs) λ_ _ _ h=>ua J7 h
theorem KO(hc:PT X c (tMT M.K mt))(ha:PE X a (tM M.K ma))(hb:PE X b (tM M.K mb)):PE X (.IfExp c a b pos) (tM M.K (EB mt ma mb)):=PE.con (Ba hc ha hb) λ_ _ _ h=>Lh h
theorem zj:PA X [] (tMA M.K ag):=PA.con yb λ_ _ _ h=>Kh h
theorem kY(ha:PE X a (tM M.K ma))(hr:PA X es (tMA M.K mas))(hs:autoParam (starEach (a::es) X.env=(false,eval a X.env)::starEach es X.env) au1._auto_1):PA X (a::es) (tMA M.K (aa ma mas)):=
 PA.con (nZ ha hr hs) λ_ _ _ h=>F8 h
theorem JN{x1}(h:PA X es (tMA M.K mas)):PE X (.Tuple es x1 pos) (tM M.K (jI mas)):=PE.con (Hv h) λ_ _ _ h=>K9 h
theorem Bi(h:PA X es (tMA M.K mas)):PE X (.List es pos) (tM M.K (bU mas)):=PE.con (Gg h) λ_ _ _ h=>Jd h
theorem Kr(ha:PT X a (tMT M.K mt)){mt':MT}(hb:PW X (.BoolOp .And (b::es) pos) (tMT M.K mt')):PW X (.BoolOp .And (a::b::es) pos) (tMT M.K (jH mt mt')):=PW.con (Ht ha hb) λ_ _ _ h=>JK h
theorem LX(ha:PT X a (tMT M.K mt)){mt':MT}(hb:PW X (.BoolOp .Or (b::es) pos) (tMT M.K mt')):PW X (.BoolOp .Or (a::b::es) pos) (tMT M.K (cOr mt mt')):=PW.con (JH ha hb) λ_ _ _ h=>LG h
theorem FY(ha:PT X a (tMT M.K mt)):PW X (.BoolOp .And [a] pos) (tMT M.K mt):=Ej ha
theorem JU(ha:PT X a (tMT M.K mt)):PW X (.BoolOp .Or [a] pos) (tMT M.K mt):=G9 ha
theorem E8(ha:PT X a (tMT M.K mt)):PT X (.UnaryOp .Not a pos) (tMT M.K (ya mt)):=PT.con (GF ha) λ_ _ _ h=>K0 h
theorem Fb(ha:PE X a (tM M.K ma))(he:autoParam (∀whole,isTrue a X.env whole=(do let v <- whole;standAt a.pos;holding [v] (truthy v))) au3._auto_1):PT X a (tMT M.K (cOf ma)):=PT.con (FS ha he) λ_ _ _ h=>LR (λ_ q=>q) h
theorem BJ (S:Sc M X k N ns) (hg:dF ns "len"=true) (hm:M.mg "len"=none) (ha:PA X (e::es) (tMA M.K mas)) (he:autoParam (starEach (e::es) X.env=(false,eval e X.env)::starEach es X.env) au1._auto_1) (hpl:autoParam ((backTo pos (starEach es X.env)).any (·.1)=false) au1._auto_1) :
  PE X (.Call (.Name "len" p1) (e::es) [] pos) (tM M.K (mFn cg mas)):=
 PE.con (nN (iJ.or (S.hK▸uu) zV) (S.gl hg) (by rw[S.hm];exact hm) PySem.boot_len ha (by decide) (by decide) he hpl) λ_ _ _ h=>A9 FP h
theorem Dk (S:Sc M X k N ns) (hg:dF ns "tuple"=true) (hm:M.mg "tuple"=none) (ha:PA X (e::es) (tMA M.K mas)) (he:autoParam (starEach (e::es) X.env=(false,eval e X.env)::starEach es X.env) au1._auto_1) (hpl:autoParam ((backTo pos (starEach es X.env)).any (·.1)=false) au1._auto_1) :
  PE X (.Call (.Name "tuple" p1) (e::es) [] pos) (tM M.K (mFn cD mas)):=
 PE.con (oK (S.hK▸rO) (S.gl hg) (by rw[S.hm];exact hm) sx ha (by decide) (by decide) he hpl) λ_ _ _ h=>A9 A8 h
theorem KB (S:Sc M X k N ns) (hg:dF ns "max"=true) (hm:M.mg "max"=none) (ha:PA X (e::es) (tMA M.K mas)) (he:autoParam (starEach (e::es) X.env=(false,eval e X.env)::starEach es X.env) au1._auto_1) (hpl:autoParam ((backTo pos (starEach es X.env)).any (·.1)=false) au1._auto_1) :
  PE X (.Call (.Name "max" p1) (e::es) [] pos) (tM M.K (mFn vz mas)):=
 PE.con (nN (zt S.calm) (S.gl hg) (by rw[S.hm];exact hm) PyProof.Rows.boot_max ha (by decide) (by decide) he hpl) λ_ _ _ h=>A9 Ib h
theorem JQ (S:Sc M X k N ns) (hg:dF ns "min"=true) (hm:M.mg "min"=none) (ha:PA X (e::es) (tMA M.K mas)) (he:autoParam (starEach (e::es) X.env=(false,eval e X.env)::starEach es X.env) au1._auto_1) (hpl:autoParam ((backTo pos (starEach es X.env)).any (·.1)=false) au1._auto_1) :
  PE X (.Call (.Name "min" p1) (e::es) [] pos) (tM M.K (mFn pD mas)):=
 PE.con (nN (S.hK▸zA S.calm (by have:=S.room.units;assumption)) (S.gl hg) (by rw[S.hm];exact hm) PyProof.Rows.boot_min ha (by decide) (by decide) he hpl) λ_ _ _ h=>A9 HN h
structure Fn(M:Mo)(x:Str)(k:Nat)(ps:List Str)(m:MF):Prop where
 ex: ∃(f:Addr) (fd:FuncData),M.mg x=some (.ref f)/\bP M.K (.ref f)=true/\Binds M.K fd ps []/\gy M.P M.w M.K M.mg M.base CX0 k f fd ps (spM M.K m)
theorem Hw {mf:MF}{ps:List Str}{k':Nat} (S:Sc M X k N ns) (F:Fn M x k' ps mf) (hk:k'<=k) (hg:dF ns x=true) (ha:PA X (e::es) (tMA M.K mas)) (hd:(x == ("__debug__":Str))=false) (he:autoParam (starEach (e::es) X.env=(false,eval e X.env)::starEach es X.env) au1._auto_1) (hpl:autoParam ((backTo pos (starEach es X.env)).any (·.1)=false) au1._auto_1) :
  PE X (.Call (.Name x p1) (e::es) [] pos) (tM M.K (mFn mf mas)):=by
 obtain⟨f,fd,hm,hkp,hb,F⟩:=F.ex
 rw[<- S.hP,<- S.hw,<- S.hK,<- S.hm,<- S.hb]at F
 rw[<- S.hm]at hm
 rw[<- S.hK]at hkp hb
 exact PE.con (uO F (S.room.mono hk) (S.gl hg) hm hkp hb .nil tJ ha hd he hpl) λ_ _ _ h=>Cc h
theorem Dj {mf:MF}{ps:List Str}{k':Nat} (S:Sc M X k N ns) (F:Fn M x k' ps mf) (hk:k'<=k) (hg:dF ns x=true) (hd:(x == ("__debug__":Str))=false) :
  PE X (.Call (.Name x p1) [] [] pos) (tM M.K (mFn mf ag)):=by
 obtain⟨f,fd,hm,hkp,hb,F⟩:=F.ex
 rw[<- S.hP,<- S.hw,<- S.hK,<- S.hm,<- S.hb]at F
 rw[<- S.hm]at hm
 rw[<- S.hK]at hkp hb
 refine PE.con (Bo F (S.room.mono hk) (S.gl hg) hm hkp hb .nil tJ hd) λσ H Q h =>?_
 obtain⟨μ,S,ρ,u,S',hr,er,e,kk⟩:=h
 exact⟨μ,S,[],u,S',hr,.nil,e,kk⟩
theorem vX (S:Sc M X k N ns) (ho:PE X a (tM M.K ma)) (ha:PA X (e::es) (tMA M.K mas)) (hbase:autoParam (attributeBase a "append" X.env (eval a X.env)=eval a X.env) au1._auto_1)
  (hfew:autoParam (((backTo pos (starEach (e::es) X.env)).all (λx => !x.1)&&(backToKw pos (keywordEach [] X.env)).all (λx=>x.1.isSome)
   && decide ((e::es).length+([]:List Keyword).length+(if ([]:List Keyword).isEmpty then 0 else 1)<30))=true) au1._auto_1)
  (hline:autoParam ((p1.endLine==pos.line)=true) au1._auto_1) (hs:autoParam (starEach (e::es) X.env=(false,eval e X.env)::starEach es X.env) au1._auto_1) (hpl:autoParam ((backTo pos (starEach es X.env)).any (·.1)=false) au1._auto_1):
  PE X (.Call (.Attribute a "append" p1) (e::es) [] pos) (tM M.K (mML b0 ma mas)):=by
 exact PE.con (Fj w9 PySem.F.slot_list_append PySem.F.type_list_append zF ho ha hbase hfew hline hs hpl) λ_ _ _ h=>S.hK▸KZ z6 h
theorem DE (S:Sc M X k N ns) (ho:PE X a (tM M.K ma)) (ha:PA X (e::es) (tMA M.K mas)) (hbase:autoParam (attributeBase a "pop" X.env (eval a X.env)=eval a X.env) au1._auto_1)
  (hfew:autoParam (((backTo pos (starEach (e::es) X.env)).all (λx => !x.1)&&(backToKw pos (keywordEach [] X.env)).all (λx=>x.1.isSome)
   && decide ((e::es).length+([]:List Keyword).length+(if ([]:List Keyword).isEmpty then 0 else 1)<30))=true) au1._auto_1)
  (hline:autoParam ((p1.endLine==pos.line)=true) au1._auto_1) (hs:autoParam (starEach (e::es) X.env=(false,eval e X.env)::starEach es X.env) au1._auto_1) (hpl:autoParam ((backTo pos (starEach es X.env)).any (·.1)=false) au1._auto_1):
  PE X (.Call (.Attribute a "pop" p1) (e::es) [] pos) (tM M.K (mML jJ ma mas)):=by
 exact PE.con (Fj w9 PySem.F.slot_list_pop PySem.F.type_list_pop BK ho ha hbase hfew hline hs hpl) λ_ _ _ h=>S.hK▸KZ B6 h
theorem Jf {tg:Expr} (S:Sc M X k N ns) (hg:dF ns "range"=true) (hm:M.mg "range"=none) (ha:PA X [a] (tMA M.K mas)) (hs:autoParam (starEach [a] X.env = [(false,eval a X.env)]) au1._auto_1):PI X tg (.Call (.Name "range" p1) [a] [] pos) (vB (tMA M.K mas)):=
 zQ (S.gl hg) (by rw[S.hm];exact hm) ha hs
theorem JT {tg:Expr} (S:Sc M X k N ns) (hg:dF ns "range"=true) (hm:M.mg "range"=none) (ha:PA X [a,b] (tMA M.K mas)) (hs:autoParam (starEach [a,b] X.env = [(false,eval a X.env),(false,eval b X.env)]) au1._auto_1) (hs2:autoParam (starEach [b] X.env = [(false,eval b X.env)]) au1._auto_1):PI X tg (.Call (.Name "range" p1) [a,b] [] pos) (wz (tMA M.K mas)):=
 zw (S.gl hg) (by rw[S.hm];exact hm) ha hs hs2
theorem Kl{tg:Expr}(S:Sc M X k N ns)(ha:PE X a (tM M.K ma)):PI X tg a (λσ H R=>tE M.K (tM M.K ma) σ H R\/Ac M.K (tM M.K ma) σ H R):=by
 have h:=PI.or (Dy (tg:=tg) ha) (GS ha)
 rw[S.hK]at h
 exact h
noncomputable def uE(N N':List Str)(ns names:List (Str×NameKind))(xs:List Str):Bool:=
 decide ((names.map (·.1)).Nodup)&&names.all (λy=>if y.2==.free then(match ns.lookup y.1 with |some .cell=>true |some .free=>true |_=>false) else true)&&xs.all (lG names)&&decide N'.Nodup &&
 (N'.length==N.length+xs.length)&&((aO xs.length).all λj=>N'[N.length+j]? == xs[j]?)&&(aO N.length).all λi=>match N'[i]? with
  | none=>true
  | some y=>if lu names y then N[i]? == some y&&names.lookup y==some .free else true
noncomputable def kq(N N':List Str)(ns names:List (Str×NameKind))(x:Str):Bool:=uE N N' ns names [x]
theorem xX{N':List Str}{scope:Scope}{xs:List Str}(S:Sc M X k N ns)(hk:scope.kind = .function)(h:uE N N' ns scope.names xs=true):iF X N' scope xs:=by
 unfold uE at h
 simp only[ao]at h
 obtain⟨⟨⟨⟨⟨⟨h1,h2⟩,h3⟩,h4⟩,h5⟩,h6⟩,h7⟩:=h
 refine⟨hk,of_decide_eq_true h1,λy hy e =>?_,λx hx =>?_,of_decide_eq_true h4,?_,λj x hj =>?_,λi y hi e hv =>?_⟩
 ·have:=cH.mp h2 y hy
  rw[if_pos (by rw[e];rfl)]at this
  split at this
  ·rename_i q;exact .inl (S.cel y.1 q).1
  ·rename_i q;exact S.fre y.1 q
  ·cases this
 ·have h3:=cH.mp h3 x hx
  unfold lG at h3
  split at h3
  ·rename_i q;exact .inl q
  ·rename_i q;exact .inr q
  ·cases h3
 ·rw[S.hN];exact eq_of_beq h5
 ·have hl:=(af.mp hj).1
  have:=cH.mp h6 j (aS.mpr hl)
  rw[S.hN,eq_of_beq this];exact hj
 ·rw[S.hN]at hi ⊢
  have:=cH.mp h7 i (aS.mpr hi)
  rw[e]at this
  simp only at this
  have hvb:lu scope.names y=true:=by
   unfold lu
   rcases hv with q |q |q <;> rw[q]
  rw[if_pos hvb,ao]at this
  exact⟨eq_of_beq this.1,eq_of_beq this.2⟩
theorem oR{N':List Str}{scope:Scope}(S:Sc M X k N ns)(hk:scope.kind = .function)(h:kq N N' ns scope.names x=true):iF X N' scope [x]:=xX S hk h
theorem uo{N':List Str}{scope:Scope}{xs:List Str}(S:Sc M X k N ns)(C:iF X N' scope xs)(s₂:Shared)(H₂:Hp)(fp:List Addr):Sc M (blk X N' scope s₂ H₂ fp) k N' scope.names where
 hP:=S.hP
 hw:=S.hw
 hK:=S.hK
 hm:=S.hm
 hb:=S.hb
 hN:=rfl
 nd:=C.ndN
 calm:=S.calm
 loc:=λy h=>lookup_relabel_local h
 cel:=λy h=>⟨ky h,by show(scope.names.lookup y==some .cell)=true;rw[h];rfl⟩
 fre:=λy h=>kl h
 glo:=λy h=>oh h
 room:=S.room
 own:=kN
 cod:=S.cod
theorem AM{N':List Str}{scope:Scope}{px:Pos}{iter elt:Expr}{ifs:List Expr}{wi:TI}{mi:MI}(S:Sc M X k N ns)(hk:scope.kind = .function)(ok:kq N N' ns scope.names x=true)(hi:PI X (.Name x px) iter wi)
  (ht: ∀X',Sc M X' k N' scope.names->PTs X' ifs (tMT M.K mt)) (he: ∀X',Sc M X' k N' scope.names->PE X' elt (tM M.K mc)) (hr: ∀σ H Q,tM M.K (dg mi mt mc) σ H Q->o6 wi (tMT M.K mt) (tM M.K mc) σ H Q)
  (hs:autoParam (∀x,foldedSetIterable iter X.env x=pure x) au3._auto_1):PE X (.ListComp elt [⟨.Name x px,iter,ifs,0⟩] scope pos) (tM M.K (dg mi mt mc)):=by
 have C:=oR S hk ok
 exact PE.con (za S.calm C hi (λs₂ H₂ fp=>ht _ (uo S C s₂ H₂ fp)) (λs₂ H₂ fp=>he _ (uo S C s₂ H₂ fp)) hs) hr
theorem HS:PTs X [] (tMT M.K cTT):=PTs.con Er λσ H Q h=>by
 obtain⟨μ,S,ρ,b,S',hr,er,e,kk⟩:=h
 cases e
 exact kk μ H (Pre.refl _) (bf.refl _) hr
theorem KQ(h:PT X c (tMT M.K mt)):PTs X [c] (tMT M.K mt):=DH h
variable {st:Stmt}{sts:List Stmt}{ms ms':MS}
theorem Fk:PSs X [] (tMS M.K cN):=PSs.con DN λ_ _ _ h=>BP h
theorem vV(h1:PS X st (tMS M.K ms))(h2:PSs X sts (tMS M.K ms')):PSs X (st::sts) (tMS M.K (bo ms ms')):=PSs.con (lq h1 h2) λ_ _ _ h=>Lb h
theorem Bl(h1:PS X st (tMS M.K ms)):PSs X [st] (tMS M.K ms):=yu h1
theorem vQ(S:Sc M X k N ns)(i:Nat)(hi:N[i]? = some x)(ho:lG ns x=true)(he:PE X e (tM M.K ma))(hs:autoParam (swapsWith e (some (.Name x p1)) pos.line X.env=pure false) au1._auto_1):PS X (.Assign [.Name x p1] e pos) (tMS M.K (bV i ma)):=
 PS.con (xw (by rw[S.hN];exact S.nd) (by rw[S.hN];exact hi) (S.lo ho).1 he hs (S.lo ho).2) λ_ _ _ h=>E1 h
theorem EI(S:Sc M X k N ns)(ho:PE X a (tM M.K ma))(hi:PE X b (tM M.K mb))(he:PE X e (tM M.K mc))(hs:autoParam (swapsWithSole [.Subscript a b p1] e pos.line X.env=pure false) au1._auto_1)(hw:autoParam (swappedStores [.Subscript a b p1] e X.env=pure none) au1._auto_1)
  (h1:autoParam ((assignEach [.Subscript a b p1] X.env).map (·.2) = [assign (.Subscript a b p1) X.env]) au1._auto_1)
  (hasn:autoParam (∀v,assign (.Subscript a b p1) X.env v=(do
   let ov <- holding [v] (eval a X.env)
   let iv <- holding [v,ov] (eval b X.env)
   standAt p1
   holding [v,ov,iv] (setItem ov iv v)
   release [v,ov,iv] [])) au3._auto_1):PS X (.Assign [.Subscript a b p1] e pos) (tMS M.K (lQ ma mb mc)):=
 PS.con (Gv he (Il ho hi (DR (by have:=S.room.units;omega)) hasn) hs hw h1) λ_ _ _ h=>EC h
theorem Cg(he:PE X e (tM M.K ma))(hs:autoParam (swapsWith e none pos.line X.env=pure false) au1._auto_1):PS X (.Expr e pos) (tMS M.K (cy ma)):=PS.con (yx he hs) λ_ _ _ h=>Iw h
theorem Fe(he:PE X e (tM M.K ma)):PS X (.Return (some e) pos) (tMS M.K (cK ma)):=PS.con (BO he) λ_ _ _ h=>IZ h
theorem J0{sts':List Stmt}(hc:PT X c (tMT M.K mt))(ha:PSs X sts (tMS M.K ms))(hb:PSs X sts' (tMS M.K ms')):PS X (.If c sts sts' pos) (tMS M.K (sIf mt ms ms')):=PS.con (E9 hc ha hb) λ_ _ _ h=>Lp h
theorem IL{iter:Expr}{wi:TI}{mi:MI}(S:Sc M X k N ns)(i:Nat)(hi:N[i]? = some x)(ho:lG ns x=true)(hit:PI X (.Name x p1) iter wi)(hb:PSs X sts (tMS M.K ms))(hr: ∀D σ H,tMS M.K (iM i mi ms) D σ H->vv wi (jA i) (tMS M.K ms) D σ H)
  (hs:autoParam (∀x,foldedSetIterable iter X.env x=pure x) au3._auto_1):PS X (.For (.Name x p1) iter sts [] pos) (tMS M.K (iM i mi ms)):=
 PS.con (Bz S.own S.calm hit (yR (by rw[S.hN];exact S.nd) (by rw[S.hN];exact hi) (S.lo ho).1 (S.lo ho).2) hb hs) hr
theorem EK(S:Sc M X k N ns)(hc:PT X c (tMT M.K mt))(hb:PSs X sts (tMS M.K ms)):PS X (.While c sts [] pos) (tMS M.K (qz mt ms)):=PS.con (B4 S.own hc hb) λ_ _ _ h=>Dv h
end
theorem Sc.def {M:Mo}{N ps:List Str}{qual:Str}{scope:Scope}{f:Addr}{cdv:Value}{A:Around}{outer:List Env}{s:Shared}{H:Hp}{E:XK}{k:Nat} (S:aV N ps scope) (hr:iG k (A.deeper (envOfC qual scope s.heap.objs.size f cdv))) (h0 : ∀ c q,M.mkr=some (c,q)->cdv = .ref c/\qual++".<locals>."=q) :
  Sc M (qH CX0 M.P M.w M.K M.mg M.base N qual scope f cdv A outer s H E).nox k N scope.names:=
 ⟨rfl,rfl,rfl,rfl,rfl,rfl,S.nd,rfl,λ_ h=>h,λ_ h=>⟨h,rfl⟩,λ_ h => .inr h,λ_ h=>h,hr,kN,h0⟩
theorem mx{H:Hp}{μ:List Addr}{N:List Str}{us:List U}{vs:List V}(r:RUs H μ us vs):ER H μ (us.map some++aq (N.length - us.length) none) (_L.start N vs):=by
 unfold _L.start
 refine⟨by simp[r.len],λi u h =>?_⟩
 by_cases hi:i<us.length
 ·rw[aQ (by simpa using hi),cw]at h
  cases e:us[i]? with
  | none=>rw[e]at h;cases h
  | some w=>
    rw[e]at h;cases h
    obtain⟨v,hv,rv⟩:=r.get e
    refine⟨v,?_,rv⟩
    rw[aQ (by simpa [<- r.len]using hi),cw,hv];rfl
 ·rw[ar (by simpa using hi)]at h
  rw[eF]at h
  split at h <;> cases h
theorem yz{M:Mo}(h0:M.mkr=none){x qual:Str}{st:Stmt}{f:Addr}{fd:FuncData}{N ps:List Str}{k:Nat}{ms:MS}(F:Fun M.K x qual st f fd)(S:aV N ps (aj st))
  (hb: ∀X,Sc M X k N (aj st).names->PSs X (aM st) (tMS M.K ms)):gy M.P M.w M.K M.mg M.base CX0 (k+1) f fd ps (spM M.K (run ps.length N.length ms)):=by
 refine F.ok S (λvs H Q E h =>?_) λcdv A outer s H vs Q E hr h=>⟨tMS M.K ms,hb _ (Sc.def S hr λc q h=>by rw[h0]at h;cases h),?_⟩
 ·obtain⟨μ,S',us,u,S'',hr,rs,e,_⟩:=h
  unfold run at e
  split at e
  ·rename_i hl;rw[<- rs.len];exact hl
  ·cases e
 ·obtain⟨μ,S1,us,u,S2,hr,rs,e,ka⟩:=h
  unfold run at e
  split at e
  ·rename_i hl
   have er:=mx (N:=N) rs
   rw[hl]at er
   split at e
   ·rename_i w ρ' S3 q
    cases e
    exact⟨μ,S1,_,_,hr,er,q,ka⟩
   ·rename_i ρ' S3 q
    cases e
    exact⟨μ,S1,_,_,hr,er,q,λμ' σ' H' p' k' hr' er'=>ka μ' _ H' p' k' hr' qB⟩
   ·cases e
  ·cases e
end _G
end
section
namespace _G
open PySem PySem.Spec _L
open PyProof.Rows hiding St
mutual
inductive oC(K:ah)(H:Hp):V->PyData->Prop where
 | non:oC K H .non .none
 | bl (b:Bool):oC K H (.bl b) (.bool b)
 | int (i:Int):oC K H (.int i) (.int i)
 | str (x:Str):oC K H (.str x) (.str x)
 | tup {a:Addr}{vs:List V}{ds:List PyData}:SqT K H a vs->kB K H vs ds->oC K H (.ref a) (.tuple ds)
 | lst {a:Addr}{vs:List V}{ds:List PyData}:SqL K H a vs->kB K H vs ds->oC K H (.ref a) (.list ds)
inductive kB(K:ah)(H:Hp):List V->List PyData->Prop where
 | nil:kB K H [] []
 | cons {v:V}{vs:List V}{d:PyData}{ds:List PyData}:oC K H v d->kB K H vs ds->kB K H (v::vs) (d::ds)
end
section
variable {X:Cx}{pins:List (Addr×Obj)}{σ:St}{H:Hp}{s:Shared}
mutual
theorem oC.reads(I:Inv X pins σ H s): ∀{v:V}{d:PyData}{w:Value},oC X.K H v d->RelV v w -> ∃as,Reads s.heap w d as
 | _,_,_,.non,r=>⟨[],by cases (show _=wK from r);exact .none⟩
 | _,_,_,.bl b,r=>⟨[],by cases (show _=wL b from r);exact .bool b⟩
 | _,_,_,.int i,r=>by
   obtain⟨t,e⟩:=(show ∃t,_=zk i t from r)
   subst e;exact⟨[],.int i t⟩
 | _,_,_,.str x,r=>by
   obtain⟨t,e⟩:=(show ∃t,_=zl x t from r)
   subst e;exact⟨[],.str x t⟩
 | _,_,_,.tup (a:=a) h rs,r=>by
   cases (show _=bH a from r)
   obtain⟨its,rv,⟨o,e,c,n,dt⟩,_⟩:=I.tuple h
   obtain⟨as,q⟩:=kB.reads I rs rv
   exact⟨as,.tuple e c dt q⟩
 | _,_,_,.lst (a:=a) h rs,r=>by
   cases (show _=bH a from r)
   obtain⟨its,rv,⟨o,n,e,c,dd,dt⟩,_⟩:=I.list h
   obtain⟨as,q⟩:=kB.reads I rs rv
   exact⟨a::as,.list e c dt q⟩
theorem kB.reads(I:Inv X pins σ H s): ∀{vs:List V}{ds:List PyData}{ws:List Value},kB X.K H vs ds->bK vs ws -> ∃as,ReadsAll s.heap ws ds as
 | _,_,_,.nil,r=>by cases r;exact⟨[],.nil⟩
 | _,_,_,.cons h rs,r=>by
   cases r with
   | cons r1 r2=>
     obtain⟨as,q⟩:=oC.reads I h r1
     obtain⟨bs,q'⟩:=kB.reads I rs r2
     exact⟨as++bs,.cons q q'⟩
end
end
theorem nO{α β:Type}{f:α->Option β}{P:α->β->Prop}(hf: ∀x y,f x=some y->P x y): ∀{xs:List α}{ys:List β},d5 f xs=some ys->Paired P xs ys
 | [],ys,h=>by cases h;exact .nil
 | x::xs,ys,h=>by
   unfold d5 at h
   cases e:f x with
   | none=>rw[e]at h;cases h
   | some y=>
     rw[e]at h
     simp only[ax]at h
     cases e2:d5 f xs with
     | none=>rw[e2]at h;cases h
     | some zs=>
       rw[e2]at h;cases h
       exact .cons (hf x y e) (nO hf e2)
theorem pZ{f:Nat}: ∀{us:List U}{ds:List PyData},Paired (λ(_:U) (d:PyData)=>d.canLay0=true/\d.depth<=f) us ds->d8 ds=true/\jg ds<=f
 | _,_,.nil=>⟨by simp[d8],by simp[jg]⟩
 | _,_,.cons h t=>by
   obtain⟨a,b⟩:=pZ t
   exact⟨by simp[d8,h.1,a],by simp only[jg];exact Nat.max_le.mpr ⟨h.2,b⟩⟩
section
variable {K:KX}{H:Hp}{μ:List Addr}{S:Sto}
theorem pU{f:Nat}(hr:HR K μ S H)(ih: ∀(u:U) (d:PyData),toD S f u=some d -> ∀v,RU H μ u v->oC K H v d): ∀{us:List U}{ds:List PyData},d5 (toD S f) us=some ds -> ∀{vs:List V},RUs H μ us vs->kB K H vs ds
 | [],ds,h,vs,r=>by cases h;rw[r.nil_inv];exact .nil
 | u::us,ds,h,vs,r=>by
   unfold d5 at h
   cases e:toD S f u with
   | none=>rw[e]at h;cases h
   | some y=>
     rw[e]at h
     simp only[ax]at h
     cases e2:d5 (toD S f) us with
     | none=>rw[e2]at h;cases h
     | some zs=>
       rw[e2]at h;cases h
       obtain⟨v,r',rfl,a,b⟩:=r.inv
       exact .cons (ih u y e v a) (pU hr ih e2 b)
theorem qc(hr:HR K μ S H): ∀(f:Nat) (u:U) (d:PyData),toD S f u=some d -> ∀v,RU H μ u v->oC K H v d
 | 0,u,d,h,v,r=>by cases u <;> cases h
 | f+1,.non,d,h,v,r=>by cases h;rw[show v = .non by simpa only [RU]using r];exact .non
 | f+1,.bl b,d,h,v,r=>by cases h;rw[kR r];exact .bl b
 | f+1,.int i,d,h,v,r=>by cases h;rw[cJ r];exact .int i
 | f+1,.str x,d,h,v,r=>by
   unfold toD at h
   split at h
   ·cases h;rw[show v = .str x by simpa only [RU]using r];exact .str x
   ·cases h
 | f+1,.tup us,d,h,v,r=>by
   unfold toD at h
   cases e:d5 (toD S f) us with
   | none=>rw[e]at h;cases h
   | some ds=>
     rw[e]at h;cases h
     obtain⟨a,vs,rfl,ha,rs⟩:=iZ r
     exact .tup (.inl (.inl ha)) (pU hr (qc hr f) e rs)
 | f+1,.ref n,d,h,v,r=>by
   unfold toD at h
   cases e0:getL S n with
   | none=>rw[e0]at h;cases h
   | some us=>
     rw[e0]at h
     simp only[ax]at h
     cases e:d5 (toD S f) us with
     | none=>rw[e]at h;cases h
     | some ds=>
       rw[e]at h;cases h
       obtain⟨a,rfl,ha⟩:=gR r
       obtain⟨a',vs,ha',hs,rs⟩:=hr.sq e0
       rw[ha]at ha';cases ha'
       exact .lst hs (pU hr (qc hr f) e rs)
 | f+1,.obj a,d,h,v,r=>by cases h
end
theorem qf(S:Sto): ∀(f:Nat) (u:U) (d:PyData),toD S f u=some d->d.canLay0=true/\d.depth<=f
 | 0,u,d,h=>by cases u <;> cases h
 | f+1,.non,d,h=>by cases h;exact⟨by simp[df],by simp[jF]⟩
 | f+1,.bl b,d,h=>by cases h;exact⟨by simp[df],by simp[jF]⟩
 | f+1,.int i,d,h=>by cases h;exact⟨by simp[df],by simp[jF]⟩
 | f+1,.str x,d,h=>by
   unfold toD at h
   split at h
   ·rename_i q;cases h;exact⟨q,by simp[jF]⟩
   ·cases h
 | f+1,.tup us,d,h=>by
   unfold toD at h
   cases e:d5 (toD S f) us with
   | none=>rw[e]at h;cases h
   | some ds=>
     rw[e]at h;cases h
     obtain⟨a,b⟩:=pZ (nO (λx y q=>qf S f x y q) e)
     exact⟨by simpa [df]using a,by simp only[jF];exact Nat.lt_succ_of_le (by assumption)⟩
 | f+1,.ref n,d,h=>by
   unfold toD at h
   cases e0:getL S n with
   | none=>rw[e0]at h;cases h
   | some us=>
     rw[e0]at h
     simp only[ax]at h
     cases e:d5 (toD S f) us with
     | none=>rw[e]at h;cases h
     | some ds=>
       rw[e]at h;cases h
       obtain⟨a,b⟩:=pZ (nO (λx y q=>qf S f x y q) e)
       exact⟨by simpa [df]using a,by simp only[jF];exact Nat.lt_succ_of_le (by assumption)⟩
 | f+1,.obj a,d,h=>by cases h
noncomputable def qE(K:ah)(H:Hp)(v:V)(d:PyData):Prop:=oC K H v d/\d.canLay0=true/\d.depth<=40
noncomputable def Kx(K:ah):R2:=λx y H Q =>∃a b,qE K H x a/\qE K H y b/\Q (.bl (jZ a b)) H
noncomputable def IG(K:ah):R2:=λx y H Q =>∃a b,qE K H x a/\qE K H y b/\Q (.bl (!jZ a b)) H
theorem mz{K:ah}{H:Hp}{v:V}{d:PyData}(h:qE K H v d):SeqAt.shaped d=true:=by
 unfold SeqAt.shaped
 rw[h.2.1,decide_eq_true (aB h.2.2 (by decide))];rfl
section
variable {X:Cx}
theorem Hc(hu:X.A.units+64<cLine):OpR X (compareOp .Eq) (Kx X.K):=by
 intro pins s σ H x y v u Q I rx ry h
 obtain⟨a,b,ha,hb,q⟩:=h
 obtain⟨as,r1⟩:=ha.1.reads I rx
 obtain⟨bs,r2⟩:=hb.1.reads I ry
 exact SeqAt.compareEq_shaped r1 r2 (mz ha) (mz hb) hu ⟨.bl _,H,I,rfl,q⟩
theorem GV(hu:X.A.units+64<cLine):OpR X (compareOp .NotEq) (IG X.K):=by
 intro pins s σ H x y v u Q I rx ry h
 obtain⟨a,b,ha,hb,q⟩:=h
 obtain⟨as,r1⟩:=ha.1.reads I rx
 obtain⟨bs,r2⟩:=hb.1.reads I ry
 exact SeqAt.compareNe_shaped r1 r2 (mz ha) (mz hb) hu ⟨.bl _,H,I,rfl,q⟩
end
section
variable {K:KX}{μ:List Addr}{S:Sto}{H:Hp}
theorem u0{u:U}{v:V}{d:PyData}(hr:HR K μ S H)(r:RU H μ u v)(h:toD S 40 u=some d):qE K H v d:=⟨qc hr 40 u d h v r,qf S 40 u d h⟩
theorem yU{x y:U}{b:Bool}(h:eqU S x y=some b): ∃a c,toD S 40 x=some a/\toD S 40 y=some c/\b=jZ a c:=by
 unfold eqU at h
 cases e1:toD S 40 x with
 | none=>rw[e1]at h;cases h
 | some a=>
   rw[e1]at h
   simp only[ax]at h
   cases e2:toD S 40 y with
   | none=>rw[e2]at h;cases h
   | some c=>rw[e2]at h;cases h;exact⟨a,c,rfl,rfl,rfl⟩
theorem Jy:OpU K (Kx K) oEq:=by
 intro μ S H x y vx vy u S' Q hr rx ry e a
 unfold oEq at e
 cases q:eqU S x y with
 | none=>rw[q]at e;cases e
 | some b=>
   rw[q]at e;cases e
   obtain⟨d1,d2,e1,e2,rfl⟩:=yU q
   exact⟨d1,d2,u0 hr rx e1,u0 hr ry e2,a.now hr lE⟩
theorem K7:OpU K (IG K) oNe:=by
 intro μ S H x y vx vy u S' Q hr rx ry e a
 unfold oNe at e
 cases q:eqU S x y with
 | none=>rw[q]at e;cases e
 | some b=>
   rw[q]at e;cases e
   obtain⟨d1,d2,e1,e2,rfl⟩:=yU q
   exact⟨d1,d2,u0 hr rx e1,u0 hr ry e2,a.now hr lE⟩
end
end _G
end
section
namespace _G
open PySem PySem.Spec _L
open PyProof.Rows hiding St
section
noncomputable def KY(K:ah):V->Option Int->Option Int->Hp->VK->Prop:=λx lo hi H Q =>∃a xs,x = .ref a/\SqT K H a xs /\
 (HT.sIx xs.length 0 lo=0/\HT.sIx xs.length xs.length hi=xs.length)/\Q (.ref a) H
theorem AG{X:Cx}:SlR X (KY X.K):=by
 intro pins s σ H x v vl vu lo hi sl Q I rx hs pl pu h
 obtain⟨a,xs,rfl,hx,hw,q⟩:=h
 cases rx
 obtain⟨its,r,ht,hz⟩:=I.tuple hx
 have hlen:its.toArray.size=xs.length:=by rw[aC];exact r.length.symm
 refine⟨"tuple",_,PyProof.Rows.slot_tuple_getitem.lookup,ht.typeIs,?_⟩
 exact HT.getItem_tuple_whole ht hs pl pu (by rw[hlen];exact hw) ⟨.ref a,H,I,rfl,q⟩
noncomputable def rSl(K:ah):V->Option Int->Option Int->Hp->VK->Prop:=λx lo hi H Q=>JY K x lo hi H Q\/(KY K x lo hi H Q\/KU K x lo hi H Q)
theorem Im{X:Cx}:SlR X (rSl X.K):=SlR.or GH (SlR.or AG DY)
noncomputable def tO(K:KX):Option ME->TO
 | none=>y9
 | some m=>E3 (tM K m)
theorem yy{H:Hp}{μ:List Addr}{us:List U}{vs:List V}(r:RUs H μ us vs)(lo hi:Option Int):RUs H μ (cut us lo hi) (we vs lo hi):=by
 unfold cut we
 rw[r.len]
 exact(r.drop _).take _
section
variable {K:KX}{σ:St}{H:Hp}{Q:VK}
theorem Cn{a:Option ME}{μ:List Addr}{S S1:Sto}{ρ:Rho}{o:Option Int}{Q:Option Int->Hp->Prop}(hr:HR K μ S H)(er:ER H μ ρ σ)(e:yv a ρ S=some (o,S1))
  (k: ∀μ1 H1,Pre μ μ1->bf H H1->HR K μ1 S1 H1->Q o H1):tO K a σ H Q:=by
 cases a with
 | none=>cases e;exact k μ H (Pre.refl _) (bf.refl _) hr
 | some m=>
   obtain⟨x,S2,e1,e⟩:=bq (show bnd (m ρ S) (λx S1=>match x with
    | .int i=>some (some i,S1)
    | _=>none)=some (o,S1) from e)
   split at e
   ·cases e
    exact⟨μ,S,ρ,_,_,hr,er,e1,λμ1 v H1 p1 k1 hr1 rx=>⟨_,cJ rx,k μ1 H1 p1 k1 hr1⟩⟩
   ·cases e
theorem Eo{a:ME}{lo hi:Option ME}(h:tM K (mSl a lo hi) σ H Q):tSl (rSl K) (tM K a) (tO K lo) (tO K hi) σ H Q:=by
 obtain⟨μ,S,ρ,u,S',hr,er,e,k⟩:=h
 obtain⟨x,S1,e1,e⟩:=bq e
 obtain⟨l,S2,e2,e⟩:=bq e
 obtain⟨r,S3,e3,e⟩:=bq e
 refine⟨μ,S,ρ,x,S1,hr,er,e1,λμ1 vx H1 p1 k1 hr1 rx =>?_⟩
 refine Cn hr1 (er.mono k1 p1) e2 λμ2 H2 p2 k2 hr2 =>?_
 refine Cn hr2 (er.mono (k1.trans k2) (p1.trans p2)) e3 λμ3 H3 p3 k3 hr3 =>?_
 have k':=k.mono (p1.trans (p2.trans p3)) (k1.trans (k2.trans k3))
 have rx3:=RU.mono (k2.trans k3) (p2.trans p3) _ _ rx
 cases x with
 | tup us=>
   cases e
   obtain⟨p,vs,rfl,hp,rs⟩:=iZ rx3
   by_cases hw:HT.sIx vs.length 0 l=0/\HT.sIx vs.length vs.length r=vs.length
   ·refine .inr (.inl ⟨p,vs,rfl,.inl (.inl hp),hw,k'.now hr3 ?_⟩)
    have e4:cut us l r=us:=by
     unfold cut
     rw[rs.len,hw.1,hw.2]
     simp[<- rs.len]
    rw[e4]
    exact i9 hp rs
   ·refine .inl ⟨p,vs,rfl,.inl (.inl hp),hw,λt ht =>?_⟩
    refine k' μ3 _ _ (Pre.refl _) (bf.new ht) (hr3.tup ht) (i9 cq (RUs.mono (bf.new ht) (Pre.refl _) _ _ (yy rs l r)))
 | ref n=>
   simp only at e
   cases q:getL S3 n with
   | none=>rw[q]at e;cases e
   | some us=>
     rw[q]at e;cases e
     obtain⟨p,rfl,hp⟩:=gR rx3
     obtain⟨p',vs,hp',hs,rs⟩:=hr3.sq q
     rw[hp]at hp';cases hp'
     exact .inr (.inr ⟨p,vs,rfl,hs,λt ht=>mH k' hr3 (yy rs l r) ht⟩)
 | _=>cases e
end
section
variable {M:Mo}{X:Cx}{k:Nat}{N:List Str}{ns:List (Str×NameKind)}{a b c e:Expr}{es:List Expr}{ma mb mc:ME}{mt:MT}{mas:MA}{pos p1 p2:Pos}{x:Str}
inductive ll(M:Mo)(X:Cx):Option Expr->Option ME->Prop where
 | none:ll M X .none .none
 | some {e:Expr}{m:ME}:PE X e (tM M.K m)->ll M X (.some e) (.some m)
theorem ll.po{lo:Option Expr}{m:Option ME}(h:ll M X lo m):PO X lo (tO M.K m):=by
 cases h with
 | none=>exact Dx
 | some h=>exact Dh h
theorem Dn{lo hi:Option Expr}{ml mh:Option ME}(S:Sc M X k N ns)(ha:PE X a (tM M.K ma))(hl:ll M X lo ml)(hh:ll M X hi mh):PE X (.Subscript a (.Slice lo hi none p2) pos) (tM M.K (mSl ma ml mh)):=
 PE.con (Cz (S.hK▸Im) ha hl.po hh.po) λ_ _ _ h=>Eo h
end
noncomputable def FW(a b:ME):ME:=λρ S=>bnd (a ρ S) λx S1=>match x with
 | .bl true=>b ρ S1
 | .bl false=>some (.bl false,S1)
 | _=>none
noncomputable def mOr(a b:ME):ME:=λρ S=>bnd (a ρ S) λx S1=>match x with
 | .bl true=>some (.bl true,S1)
 | .bl false=>b ρ S1
 | _=>none
noncomputable def Dz:U->Sto->Res U:=λx S=>match x with
 | .bl b=>some (.bl (!b),S)
 | _=>none
section
variable {K:KX}{σ:St}{H:Hp}{Q:VK}
theorem Hi{a b:ME}(h:tM K (FW a b) σ H Q):Ff (tM K a) (tM K b) σ H Q:=by
 obtain⟨μ,S,ρ,u,S',hr,er,e,k⟩:=h
 obtain⟨x,S1,e1,e⟩:=bq e
 refine⟨μ,S,ρ,x,S1,hr,er,e1,λμ1 vx H1 p1 k1 hr1 rx =>?_⟩
 split at e
 ·exact⟨true,kR rx,o8 ⟨μ1,S1,ρ,u,S',hr1,er.mono k1 p1,e,k.mono p1 k1⟩⟩
 ·cases e
  exact⟨false,kR rx,pq (k μ1 _ H1 p1 k1 hr1 lE)⟩
 ·cases e
theorem K8{a b:ME}(h:tM K (mOr a b) σ H Q):IR (tM K a) (tM K b) σ H Q:=by
 obtain⟨μ,S,ρ,u,S',hr,er,e,k⟩:=h
 obtain⟨x,S1,e1,e⟩:=bq e
 refine⟨μ,S,ρ,x,S1,hr,er,e1,λμ1 vx H1 p1 k1 hr1 rx =>?_⟩
 split at e
 ·cases e
  exact⟨true,kR rx,o8 (k μ1 _ H1 p1 k1 hr1 lE)⟩
 ·exact⟨false,kR rx,pq ⟨μ1,S1,ρ,u,S',hr1,er.mono k1 p1,e,k.mono p1 k1⟩⟩
 ·cases e
theorem Gc{a:ME}(h:tM K (m1 Dz a) σ H Q):Fz (tM K a) σ H Q:=by
 obtain⟨μ,S,ρ,u,S',hr,er,e,k⟩:=h
 obtain⟨x,S1,e1,e⟩:=bq e
 refine⟨μ,S,ρ,x,S1,hr,er,e1,λμ1 vx H1 p1 k1 hr1 rx =>?_⟩
 unfold Dz at e
 split at e
 ·cases e
  exact⟨_,kR rx,k μ1 _ H1 p1 k1 hr1 lE⟩
 ·cases e
end
section
variable {X:Cx}{a b:Expr}{ta:TA}{p pos:Pos}
noncomputable def CI(ta:TA):TE:=λσ H Q=>ta σ H λvs H1 =>∃i j:Int,vs = [.int i,.int j]/\(-(2 ^ 62)<=i/\i<2 ^ 62 /\ -(2 ^ 62)<=j/\j<2 ^ 62) /\ ∀r,H1 r=none->Q (.ref r) (upd H1 r (.rng i j))
theorem BR{pins:List (Addr×Obj)}{σ:St}{H:Hp}{s:Shared}{Q:VK}{lo hi:Int}{t u v:Tok}{tk:Nat}(I:Inv X pins σ H s)(q: ∀r,H r=none->Q (.ref r) (upd H r (.rng lo hi))):
  EP X pins σ Q (.ref s.heap.objs.size) { s with heap:=s.heap.push { cls := .type "range",data := .fields #[.int lo t,.int hi u,.int 1 v] },toks:=tk }:=by
 refine⟨.ref s.heap.objs.size,_,I.laid (t':=tk) (o:= .rng lo hi) (λb ob q=>av _ q) (ak _) ?_,rfl,q _ (I.hok.fresh (ak _))⟩
 exact⟨t,u,v,aH _ rfl⟩
theorem yq (hg:Gl X "range") (hm:X.mg "range"=none) (ha:PA X [a,b] ta) (hs:autoParam (starEach [a,b] X.env = [(false,eval a X.env),(false,eval b X.env)]) au1._auto_1) (hs2:autoParam (starEach [b] X.env = [(false,eval b X.env)]) au1._auto_1) :
  PE X (.Call (.Name "range" p) [a,b] [] pos) (CI ta):=by
 intro pins s σ H Q I h
 refine Call_ (nr I hg hm boot_range (eI (thn (ha pos pins s σ H _ I h) λus s1 ⟨vs,H1,I1,r1,q1⟩ =>?_) (by rw[hs,hs2]) (by rw[hs2];rfl)))
 obtain⟨i,j,e,⟨q1,q2,q3,q4⟩,q⟩:=q1
 subst e
 cases r1 with
 | cons r rr=>
   cases rr with
   | cons r' rr=>
     cases rr
     obtain⟨t,rfl⟩:=r
     obtain⟨t',rfl⟩:=r'
     exact call_range_2 (BR I1 q)
theorem t6: ∀{xs:List V}{us:List Value},xs.length=us.length->(∀(i:Nat) (x:V) (u:Value),xs[i]? = some x->us[i]? = some u->RelV x u)->bK xs us
 | [],[],_,_ => .nil
 | [],_::_,h,_=>by simp at h
 | _::_,[],h,_=>by simp at h
 | x::xs,u::us,h,k => .cons (k 0 x u rfl rfl) (t6 (by simpa using h) λi y w h1 h2=>k (i+1) y w (by simpa using h1) (by simpa using h2))
noncomputable def kJ(i:Int)(n:Nat):List V:=(aO n).map λ(k:Nat) => .int (i+k)
theorem so (hc:X.calm=true):iJ X (.type "list") (fun xs H Q => ∃ r lo hi,xs = [.ref r]/\H r=some (.rng lo hi)/\(-(2 ^ 62)<=lo/\lo < 2 ^ 62 /\ -(2 ^ 62)<=hi/\hi < 2 ^ 62)/\(hi - lo).toNat<=sizeLine /\ ∀ l,H l=none->Q (.ref l) (upd H l (.lst (kJ lo (hi - lo).toNat)))):=by
 intro pins s σ H xs us Q I rs h
 obtain⟨r,lo,hi,rfl,hr,⟨h1,h2,h3,h4⟩,hz,q⟩:=h
 cases rs with
 | cons r1 rr=>
   cases rr
   cases (show _=bH r from r1)
   obtain⟨t,u,v,e⟩:=I.hok r _ hr
   have hn:dr lo hi 1=((hi - lo).toNat:Nat):=by rw[rangeSize_one];split <;> omega
   refine call_list_range (n:=(hi - lo).toNat) (I.ok.hd hc) e (small_one h1 h2 h3 h4) hn (by rw[sizeLine_eq]at hz;exact hz) λh' tk acc c' hk hl hacc =>?_
   obtain⟨hsz,hit⟩:=hacc
   refine⟨.ref s.heap.objs.size,_,I.laid (t':=tk) (o:= .lst (kJ lo (hi - lo).toNat)) hk (ak _) ?_,rfl,q _ (I.hok.fresh (ak _))⟩
   refine⟨by rw[kJ,aE,bT];exact hz,acc.toList,c',?_,by simpa using hl⟩
   refine t6 (by rw[kJ,aE,bT,gd,hsz]) λi x w h5 h6 =>?_
   have hlt:i<(hi - lo).toNat:=by
    have:=(af.mp h5).1
    rwa[kJ,aE,bT]at this
   have hx:(kJ lo (hi - lo).toNat)[i]? = some (.int (lo+i)):=by simp[kJ,hlt]
   rw[hx]at h5;cases h5
   obtain⟨t',e'⟩:=hit i w (by simpa using h6)
   exact⟨t',by rw[e'];simp⟩
end
end
end _G
end
section
namespace _G
open PySem PySem.Spec _L
open PyProof.Rows hiding St
section
theorem yl{H:Hp}{μ:List Addr}(i:Int)(n:Nat):RUs H μ (bh i n) (kJ i n):=by
 unfold bh kJ
 induction n with
 | zero=>simpa using RUs.nil
 | succ n ih=>rw[ee,bR,bR];exact ih.append (.cons eG .nil)
section
variable {K:KX}{σ:St}{H:Hp}{Q:VK}
noncomputable def rLR:List V->Hp->VK->Prop:=λxs H Q =>∃r lo hi,xs = [.ref r]/\H r=some (.rng lo hi)/\(-(2 ^ 62)<=lo/\lo<2 ^ 62 /\ -(2 ^ 62)<=hi/\hi<2 ^ 62)/\(hi - lo).toNat<=sizeLine /\ ∀l,H l=none->Q (.ref l) (upd H l (.lst (kJ lo (hi - lo).toNat)))
theorem HR.rng{μ:List Addr}{S:Sto}{p:Addr}{i j:Int}(h:HR K μ S H)(hp:H p=none):HR K μ S (upd H p (.rng i j)):=by
 have kp:bf H (upd H p (.rng i j)):=bf.new hp
 refine⟨h.len,h.inj,λm c b q1 q2=>(h.cell m c b q1 q2).mono kp (Pre.refl _) (λhc =>?_) λo u hf =>?_,h.ext.upd kp (Pre.refl _) λo1 q=>by rw[hp]at q;cases q⟩
 ·obtain⟨o,e,_⟩:=(h.cell m _ b q1 q2).has hc
  exact aZ (aW e hp)
 ·rw[aZ (aW hf hp)];exact hf
theorem EN{μ:List Addr}{S1:Sto}{i j:Int}{r:Addr}(hr1:HR K μ S1 H)(ho:okR i/\okR j)(hz:(bh i (j - i).toNat).length<=big)(k:Aft K μ H (.ref S1.length) (S1++[.lst (bh i (j - i).toNat)]) Q)(hrn:H r=none):rLR [.ref r] (upd H r (.rng i j)) Q:=by
 refine⟨r,i,j,rfl,cq,⟨ho.1.1,ho.1.2,ho.2.1,ho.2.2⟩,?_,λl hl =>?_⟩
 ·unfold bh big at hz;rw[aE,bT]at hz;rw[sizeLine_eq];exact hz
 ·exact mH (k.mono (Pre.refl _) (bf.new hrn)) (hr1.rng hrn) (yl _ _) hl
theorem Bu{a:MA}(h:tM K (jL (iR2 a)) σ H Q):tCB rLR (yw (CI (tMA K a)) Bb) σ H Q:=by
 obtain⟨μ,S,ρ,u,S',hr,er,e,k⟩:=h
 obtain⟨src,S1,e1,e⟩:=bq e
 obtain⟨xs,S2,e2,e1⟩:=bq e1
 refine⟨μ,S,ρ,xs,S2,hr,er,e2,λμ1 vs H1 p1 k1 hr1 rs =>?_⟩
 split at e1
 ·rename_i i j
  split at e1
  ·rename_i hj
   cases e1
   simp only at e
   split at e
   ·rename_i hz
    cases e
    obtain⟨v,r,rfl,rx,rs⟩:=rs.inv
    obtain⟨w,r,rfl,ry,rn⟩:=rs.inv
    rw[rn.nil_inv,cJ rx,cJ ry]
    exact⟨i,j,rfl,⟨hj.1.1,hj.1.2,hj.2.1,hj.2.2⟩,λr hrn=>EN hr1 hj hz (k.mono p1 k1) hrn⟩
   ·cases e
  ·cases e1
 ·cases e1
end
noncomputable def Bg(S:Sto)(x:U)(us:List U):Option Nat:=(d5 (toD S 39) us).bind λds=>(toD S 40 x).bind λd=>ds.findIdx? λy=>jZ y d
noncomputable def gE:List U->List U->Sto->Res U:=λus xs S=>match xs with
 | [x]=>(Bg S x us).map λk=>(.int k,S)
 | _=>none
noncomputable def HP(K:ah)(to:TE)(t:TA):TE:=λσ H Q=>to σ H λx H1=>(∃p ys,x = .ref p/\H1 p=some (.tup ys))/\t σ H1 λxs H2 =>∃p ys v ds d j,x = .ref p/\xs = [v]/\H2 p=some (.tup ys) /\
 kB K H2 ys ds/\d8 ds=true/\jg ds<=40/\qE K H2 v d/\ds.findIdx? (λy=>jZ y d)=some j/\Q (.int j) H2
theorem Cd{X:Cx}{o e:Expr}{es:List Expr}{to:TE}{t:TA}{apos cpos:Pos}(hu:X.A.units+64<cLine)(ho:PE X o to)(ha:PA X (e::es) t)
  (hbase:autoParam (attributeBase o "index" X.env (eval o X.env)=eval o X.env) au1._auto_1)
  (hfew:autoParam (((backTo cpos (starEach (e::es) X.env)).all (λx => !x.1)&&(backToKw cpos (keywordEach [] X.env)).all (λx=>x.1.isSome)
   && decide ((e::es).length+([]:List Keyword).length+(if ([]:List Keyword).isEmpty then 0 else 1)<30))=true) au1._auto_1)
  (hline:autoParam ((apos.endLine==cpos.line)=true) au1._auto_1) (hs:autoParam (starEach (e::es) X.env=(false,eval e X.env)::starEach es X.env) au1._auto_1) (hplain:autoParam ((backTo cpos (starEach es X.env)).any (·.1)=false) au1._auto_1):
  PE X (.Call (.Attribute o "index" apos) (e::es) [] cpos) (HP X.K to t):=by
 intro pins s σ H Q I h
 refine wpAny_Call_method_late hbase hfew hline rfl (thn (ho pins s σ H _ I h) λv s1 ⟨x,H1,I1,r1,⟨p,ys,hx,hp⟩,q1⟩ =>?_)
 subst hx
 cases (show v=bH p from r1)
 obtain⟨_,its,rv,⟨o1,e1,c1,n1,d1⟩,o2,e2,c2⟩:=I1.hok p _ hp
 refine⟨"tuple",_,PySem.F.plainAttrs_tuple,wV,PySem.F.type_tuple_index,⟨o1,e1,c1⟩,fun a ea=>by cases ea;exact⟨o2,e2,c2⟩,?_⟩
 have hA:=ha cpos pins s1 σ H1 _ I1 q1
 rw[hs]at hA ⊢
 refine Aq (by show(false||(backTo cpos (starEach es X.env)).any (·.1))=false;rw[hplain] <;> rfl) (jd ?_)
 refine thn hA λus s2 ⟨vs,H2,I2,r2,q2⟩ =>?_
 obtain⟨p',ys',v',ds,d,j,hx,hxs,hp',rd,hl,hdp,hd,hj,q⟩:=q2
 cases hx
 subst hxs
 cases r2 with
 | cons ra rr=>
   cases rr
   obtain⟨_,its2,rv2,⟨⟨cls,dd,data,sl⟩,e3,c3,n3,d3⟩,_⟩:=I2.hok p _ hp'
   simp only at c3 d3
   subst c3 d3
   obtain⟨as,rds⟩:=rd.reads I2 rv2
   obtain⟨bs,rdv⟩:=hd.1.reads I2 ra
   have hlen:its2.length=ds.length:=SeqAt.ReadsAll.length _ _ _ rds
   have hjl:j<ds.length:=by
    obtain⟨h1,_⟩:=d6.mp hj
    exact h1
   have hmap:=SeqAt.readsAll_map ds _ _ hl rds
   have hget: ∀(m:Nat) (h1:m<its2.length) (h2:m<ds.length),SeqAt.readOf s2.heap its2[m]=ds[m]:=λm h1 h2=>by
    have:=congrArg (λl=>l[m]?) hmap
    simp[h1,h2]at this
    exact this
   have heq:=SeqAt.items_eqAt (A:=X.A) (vs:=its2.toArray) (by simpa using rds) rdv hl hd.2.1 (by have:=jW (jg ds) d.depth;omega)
   obtain⟨h1,h2,h3⟩:=d6.mp hj
   refine call_meets wV ⟨_,e3,rfl⟩ PySem.F.entry_tuple_index (PySem.F.args_tuple_index_2 _ _)
    (rQ p its2.toArray n3 dd sl _ (λy=>jZ (SeqAt.readOf s2.heap y) d) j (by rw[aC];omega) ?_ ?_) ⟨e3,heq,?_⟩
   ·have:=hget j (by omega) hjl
    simp only[CW,this];exact h2
   ·intro m hm hmj
    rw[aC]at hm
    have:=hget m hm (by exact dz (by assumption) (by assumption))
    simp only[CW,this]
    simpa using h3 m hmj
   ·exact⟨.int j,H2,I2.tok _,⟨_,rfl⟩,q⟩
theorem Dl{K:KX}{σ:St}{H:Hp}{Q:VK}{o:ME}{a:MA}(h:tM K (mMT gE o a) σ H Q):HP K (tM K o) (tMA K a) σ H Q:=by
 obtain⟨μ,S,ρ,u,S',hr,er,e,k⟩:=h
 obtain⟨x,S1,e1,e⟩:=bq e
 refine⟨μ,S,ρ,x,S1,hr,er,e1,λμ1 vx H1 p1 k1 hr1 rx =>?_⟩
 cases x with
 | tup us=>
   obtain⟨xs,S2,e2,e⟩:=bq e
   obtain⟨p,vs,rfl,hp,rs⟩:=iZ rx
   refine⟨⟨p,vs,rfl,hp⟩,μ1,S1,ρ,xs,S2,hr1,er.mono k1 p1,e2,λμ2 ws H2 p2 k2 hr2 rws =>?_⟩
   unfold gE at e
   split at e
   ·rename_i x
    obtain⟨v,r,rfl,rx',rn⟩:=rws.inv
    rw[rn.nil_inv]
    cases q:Bg S2 x us with
    | none=>rw[q]at e;cases e
    | some j=>
      rw[q]at e;cases e
      unfold Bg at q
      cases q1:d5 (toD S' 39) us with
      | none=>rw[q1]at q;cases q
      | some ds=>
        rw[q1]at q
        simp only[ax]at q
        cases q2:toD S' 40 x with
        | none=>rw[q2]at q;cases q
        | some d=>
          rw[q2]at q
          simp only[ax]at q
          obtain⟨l1,l2⟩:=pZ (nO (λx y z=>qf S' 39 x y z) q1)
          exact⟨p,vs,v,ds,d,j,rfl,rfl,k2 p vs hp,pU hr2 (qc hr2 39) q1 (RUs.mono k2 p2 _ _ rs),l1,by exact aB (by assumption) (by decide),u0 hr2 rx' q2,q,k μ2 _ H2 (p1.trans p2) (k1.trans k2) hr2 eG⟩
   ·cases e
 | _=>cases e
end
end _G
end
section
namespace _G
open PySem PySem.Spec _L
open PyProof.Rows hiding St
section
section
variable {X:Cx}
end
section
variable {K:KX}
end
end
end _G
end
section
namespace _G
open PySem PySem.Spec _L
open PyProof.Rows hiding St
section
noncomputable def fV:U->Option V
 | .non=>some .non
 | .bl b=>some (.bl b)
 | .int i=>some (.int i)
 | .str x=>some (.str x)
 | _=>none
noncomputable def oIn:F2:=λx y S=>match gp S y with
 | some kvs=>(keyOf x).map λk=>(.bl (qT kvs k).isSome,S)
 | none=>(fV x).bind λvx=>(dR S y).bind λys=>(d5 fV ys).map λvs=>(.bl (inV vx vs),S)
noncomputable def HI:F2:=λx y S=>match gp S y with
 | some kvs=>(keyOf x).map λk=>(.bl (!(qT kvs k).isSome),S)
 | none=>(fV x).bind λvx=>(dR S y).bind λys=>(d5 fV ys).map λvs=>(.bl (!inV vx vs),S)
theorem zi{H:Hp}{μ:List Addr}{u:U}{v w:V}(e:fV u=some v)(r:RU H μ u w):w=v/\mP v=true:=by
 cases u <;> simp only[fV,eJ,reduceCtorEq]at e <;> subst e <;> exact⟨by simpa only [RU]using r,rfl⟩
theorem vc{H:Hp}{μ:List Addr}: ∀{us:List U}{vs ws:List V},d5 fV us=some vs->RUs H μ us ws->ws=vs/\vs.all mP=true
 | [],vs,ws,e,r=>by cases e;rw[r.nil_inv];exact⟨rfl,rfl⟩
 | u::us,vs,ws,e,r=>by
   obtain⟨v,r',rfl,a,b⟩:=r.inv
   unfold d5 at e
   cases q1:fV u with
   | none=>rw[q1]at e;cases e
   | some x=>
     cases q2:d5 fV us with
     | none=>rw[q1,q2]at e;cases e
     | some xs=>
       rw[q1,q2]at e;cases e
       obtain⟨e1,f1⟩:=zi q1 a
       obtain⟨e2,f2⟩:=vc q2 b
       exact⟨by rw[e1,e2],by rw[bX,f1,f2];rfl⟩
section
variable {K:KX}
noncomputable def Js(K:ah)(neg:Bool):R2:=λy x H Q=>rIn K neg y x H Q \/ ∃a o,x = .ref a/\t8 H a y o/\Q (.bl (if neg then !o.isSome else o.isSome)) H
theorem HD{X:Cx}(hu:X.A.units+1<cLine):OpR X (compareOp .In) (Js X.K false):=by
 intro pins s σ H x y v u Q I rx ry h
 rcases h with h | ⟨a,o,rfl,g,q⟩
 ·exact zZ pins s σ H x y v u Q I rx ry h
 ·obtain rfl:u=bH a:=ry
  exact LF hu I g rx λs3 I3=>⟨.bl o.isSome,H,I3,rfl,q⟩
theorem IH:OpU K (Js K false) oIn:=by
 intro μ S H x y vx vy u S' Q hr rx ry e a
 unfold oIn at e
 split at e
 ·rename_i kvs qd
  cases qk:keyOf x with
  | none=>rw[qk]at e;cases e
  | some kk=>
    rw[qk]at e;cases e
    obtain⟨p,vs,rfl,hp,r⟩:=hr.dic ry qd
    have hl:kvs.length=vs.length:=by have:=r.len;rwa[aE]at this
    refine .inr ⟨p,_,rfl,.inl ⟨_,kk,.inl hp,uf rx qk,rfl⟩,?_⟩
    simp only[gL,if_false]
    rw[vp hl]
    exact a.now hr lE
 refine .inl ?_
 cases q1:fV x with
 | none=>rw[q1]at e;cases e
 | some fx=>
   cases q2:dR S y with
   | none=>rw[q1,q2]at e;cases e
   | some ys=>
     cases q3:d5 fV ys with
     | none=>rw[q1,q2]at e;simp only[ax,q3]at e;cases e
     | some vs=>
       rw[q1,q2]at e;simp only[ax,q3]at e;cases e
       obtain⟨rfl,f1⟩:=zi q1 rx
       obtain⟨p,zs,rfl,hs,r'⟩:=hr.seq ry q2
       obtain⟨rfl,f2⟩:=vc q3 r'
       exact⟨p,zs,rfl,hs,f1,f2,a.now hr lE⟩
noncomputable def isU(x:U):U->Option Bool
 | .non=>(match x with
   | .non=>some true
   | .bl _=>some false
   | .tup _=>some false
   | .ref _=>some false
   | .int _=>some false
   | _=>none)
 | .bl j=>(match x with
   | .bl i=>some (i==j)
   | .non=>some false
   | _=>none)
 | _=>none
noncomputable def m6:F2:=λx y S=>(isU x y).map λb=>(.bl (!b),S)
noncomputable def rIs(neg:Bool):R2:=λx y H Q=>(∃i j,x = .bl i/\y = .bl j/\Q (.bl (if neg then i != j else i==j)) H)\/(∃i,x = .bl i/\y = .non/\Q (.bl neg) H) \/
 (∃j,x = .non/\y = .bl j/\Q (.bl neg) H)\/(x = .non/\y = .non/\Q (.bl (!neg)) H) \/
 (∃p,x = .ref p/\y = .non/\Q (.bl neg) H)\/(∃i,x = .int i/\y = .non/\Q (.bl neg) H)
theorem zD{X:Cx}:OpR X (compareOp .IsNot) (rIs true):=by
 intro pins s σ H x y v u Q I rx ry h
 rcases h with⟨i,j,rfl,rfl,q⟩ | ⟨i,rfl,rfl,q⟩ | ⟨j,rfl,rfl,q⟩ | ⟨rfl,rfl,q⟩ | ⟨p,rfl,rfl,q⟩ | ⟨i,rfl,rfl,q⟩
 ·cases rx;cases ry
  exact isnot_bool ⟨.bl _,H,I,rfl,q⟩
 ·cases rx;cases ry
  exact isnot_bool_none ⟨.bl _,H,I,rfl,q⟩
 ·cases rx;cases ry
  exact aJ ⟨.bl _,H,I,rfl,q⟩
 ·cases rx;cases ry
  exact isnot_none_none ⟨.bl _,H,I,rfl,q⟩
 ·cases rx;cases ry
  exact aJ ⟨.bl _,H,I,rfl,q⟩
 ·obtain⟨t,rfl⟩:=rx;cases ry
  exact aJ ⟨.bl _,H,I,rfl,q⟩
theorem xf{H:Hp}{μ:List Addr}{v:V}(h:RU H μ .non v):v = .non:=by simpa only [RU]using h
theorem GY{neg:Bool}{μ:List Addr}{H:Hp}{x y:U}{vx vy:V}{b:Bool}{Q:VK}(rx:RU H μ x vx)(ry:RU H μ y vy)(e:isU x y=some b)(a:Q (.bl (if neg then !b else b)) H):rIs neg vx vy H Q:=by
 have hf:(if neg then !false else false)=neg:=by cases neg <;> rfl
 have ht:(if neg then !true else true) = !neg:=by cases neg <;> rfl
 cases y with
 | non=>
   have hy:=xf ry
   subst hy
   cases x with
   | non=>cases e;rw[ht]at a;exact .inr (.inr (.inr (.inl ⟨xf rx,rfl,a⟩)))
   | bl i=>cases e;rw[hf]at a;exact .inr (.inl ⟨_,kR rx,rfl,a⟩)
   | tup us=>cases e;rw[hf]at a;obtain⟨p,_,rfl,_⟩:=iZ rx;exact .inr (.inr (.inr (.inr (.inl ⟨_,rfl,rfl,a⟩))))
   | ref n=>cases e;rw[hf]at a;obtain⟨p,rfl,_⟩:=gR rx;exact .inr (.inr (.inr (.inr (.inl ⟨_,rfl,rfl,a⟩))))
   | int i=>cases e;rw[hf]at a;exact .inr (.inr (.inr (.inr (.inr ⟨_,cJ rx,rfl,a⟩))))
   | _=>cases e
 | bl j=>
   have hy:=kR ry
   subst hy
   cases x with
   | bl i=>cases e;exact .inl ⟨_,_,kR rx,rfl,a⟩
   | non=>cases e;rw[hf]at a;exact .inr (.inr (.inl ⟨_,xf rx,rfl,a⟩))
   | _=>cases e
 | _=>cases e
theorem B0:OpU K (rIs true) m6:=by
 intro μ S H x y vx vy u S' Q hr rx ry e a
 unfold m6 at e
 cases q:isU x y with
 | none=>rw[q]at e;cases e
 | some b=>rw[q]at e;cases e;exact GY rx ry q (a.now hr lE)
end
noncomputable def pd(ns:List Int):List Int:=ns.mergeSort λi j=>decide (i<=j)
noncomputable def qX:U->Option Int
 | .int i=>some i
 | _=>none
noncomputable def xG(n:Nat):Prop:=n<64
noncomputable instance(n:Nat):Decidable (xG n):=bJ _
noncomputable def wF(S:Sto)(x:U):Option (List Int):=match gp S x with
 | some _=>none
 | none=>(dR S x).bind λxs=>d5 qX xs
noncomputable def gY:MF:=λus S=>match us with
 | [x]=>(wF S x).bind λns=>if xG ns.length then some (.ref S.length,S++[.lst ((pd ns).map U.int)]) else none
 | _=>none
theorem iT(ns:List Int):(pd ns).Perm ns:=List.mergeSort_perm _ _
theorem vN(ns:List Int):(pd ns).Pairwise (· <= ·):=by
 have h:=List.pairwise_mergeSort (le:=λ(i j:Int)=>decide (i<=j)) (λa b c h1 h2=>by simp at *;omega) (λa b=>by simp;omega) ns
 exact h.imp λh=>by simpa using h
theorem ph: ∀{as bs:List Int},as.Perm bs->as.Pairwise (· <= ·)->bs.Pairwise (· <= ·)->as=bs
 | [],bs,p,_,_=>by rw[List.nil_perm.mp p]
 | a::as,[],p,_,_=>by cases List.perm_nil.mp p
 | a::as,b::bs,p,h1,h2=>by
   rw[List.pairwise_cons]at h1 h2
   have e:a=b:=by
    have m1:a∈b::bs:=p.subset (by simp)
    have m2:b∈a::as:=p.symm.subset (by simp)
    rcases aX.mp m1 with e |m1
    ·exact e
    ·rcases aX.mp m2 with e |m2
     ·exact e.symm
     ·have:=h1.1 b m2;have:=h2.1 a m1;omega
   subst e
   rw[ph (List.perm_cons _ |>.mp p) h1.2 h2.2]
theorem vD{ns ms:List Int}(p:ms.Perm ns)(h:ms.Pairwise (· <= ·)):ms=pd ns:=ph (p.trans (iT ns).symm) h (vN ns)
theorem yP{H:Hp}{μ:List Addr}: ∀{us:List U}{vs:List V}{ns:List Int},RUs H μ us vs->d5 qX us=some ns->vs=ns.map V.int
 | [],vs,ns,r,e=>by cases e;rw[r.nil_inv];rfl
 | u::us,vs,ns,r,e=>by
   obtain⟨v,r',rfl,a,b⟩:=r.inv
   unfold d5 at e
   cases u with
   | int x=>
     simp only[qX,ax]at e
     cases q:d5 qX us with
     | none=>rw[q]at e;cases e
     | some cs=>
       rw[q]at e;cases e
       rw[cJ a,yP b q];rfl
   | _=>cases e
theorem intsAre_of: ∀{ns:List Int}{us:List Value},bK (ns.map V.int) us->IntsAre us ns
 | [],us,r=>by cases r;exact .nil
 | n::ns,us,r=>by
   cases r with
   | cons a b=>
     obtain⟨t,rfl⟩:=a
     exact .cons n t (intsAre_of b)
theorem iR: ∀{ns:List Int}{us:List Value},IntsAre us ns->bK (ns.map V.int) us
 | _,_,.nil => .nil
 | _,_,.cons n t r => .cons ⟨t,rfl⟩ (iR r)
theorem lN: ∀{ns:List Int}{us:List Value},IntsAre us ns->us.length=ns.length
 | _,_,.nil=>rfl
 | _,_,.cons n t r=>by simp[lN r]
theorem ye {prog:Program}{w:World}{A:Around}{E:Value->Shared->Prop}{s:Shared}{Q:List Value->Shared->Prop} (it:Addr) {T:String}{o:Obj}{items:Array Value}{n:Nat} (hT:T="list"\/T="tuple")
  (ho:s.heap.get? it=some o) (hc:o.cls = .type T) (hd:o.data = .seq items n) (hsz:items.size<=sizeLine)
  (hQ: ∀h',(∀b o',s.heap.get? b=some o'->h'.get? b=some o')->s.heap.objs.size<=h'.objs.size->Q items.toList { s with heap:=h' }):
  aR (model prog w) A (collect (.ref it)) Q E s:=by
 unfold collect
 refine az (wpAny_runValue (iA F.entry_proto_collect ?_))
 rw[fH F.plain_proto_collect _]
 show aR _ A.in1 (newList [] >>= fun l=>again (.builtin "list.__iadd__" ⟨[l,.ref it],[]⟩)) _ _ s
 refine az (dJ (aJ ⟨plainId_quiet mJ _,iA F.entry_list_iadd ?_⟩))
 rw[fH mJ _]
 have hS:(s.heap.push { cls := .type "list",data := .seq ([]:List Value).toArray }).get? s.heap.objs.size=some { cls := .type "list",data := .seq #[] 0 }:=aH _ rfl
 have hS₂:=CL (ff (· ++ items)) hS rfl
 refine bI (wpAny_extend_seq (hsz:=hsz) (A:=A) (R:=fun r s'=>r = .ok (.ret (.ref s.heap.objs.size))/\s'={ s with heap:=(s.heap.push { cls := .type "list",data := .seq ([]:List Value).toArray }).update s.heap.objs.size (ff (· ++ items)) })
  (s:={ s with heap:=s.heap.push { cls := .type "list",data := .seq ([]:List Value).toArray } }) _ it _ 0 hT hS (av _ ho) hc hd ⟨rfl,rfl⟩) (fun fin s' h => ?_) (fun e s' h=>absurd h.1 (by simp))
 have fin':aR (model prog w) A (match bH s.heap.objs.size with
   | bH a=>do
     match (<- load a).data with
      | wZ xs _=>pure xs.toList
      | _=>unsupported "internal:collect"
   | _=>unsupported "internal:collect") Q E { s with heap:=(s.heap.push { cls := .type "list",data := .seq ([]:List Value).toArray }).update s.heap.objs.size (ff (· ++ items)) }:=by
  show aR _ A (load s.heap.objs.size >>= _) _ _ _
  refine az (wpAny_load hS₂ (aJ ?_))
  show Q ((#[]:Array Value)++items).toList _
  rw[show((#[]:Array Value)++items).toList=items.toList by simp]
  exact hQ _ (λb o' hb=>(eP _ _ (di (aG hb))).trans (av _ hb)) (by rw[Heap.size_update,size_push'];exact bY _)
 cases fin with
 | done f=>
   obtain⟨e,rfl⟩:=h
   cases e
   exact fin'
 | again c'=>exact⟨h.1,gK h.2 λr s'' hr=>by obtain⟨rfl,rfl⟩:=hr;exact fin'⟩
theorem qV {prog:Program}{w:World}{A:Around}{E:Value->Shared->Prop}{s:Shared}{l:Addr}{T:String}{o:Obj}{n:Nat}{vs:List Value}{ns:List Int}{Q:Value->Shared->Prop} (hT:T="list"\/T="tuple")
  (ho:s.heap.get? l=some o) (hc:o.cls = .type T) (hd:o.data = .seq vs.toArray n) (hI:IntsAre vs ns) (h64:vs.length<64)
  (h: ∀(out:Array Value) (ns':List Int) (a:Addr) (e:Nat) (h':Heap),IntsAre out.toList ns'->ns'.Perm ns->ns'.Pairwise (· <= ·)->s.heap.objs.size<=a->(∀b o',s.heap.get? b=some o'->h'.get? b=some o') ->
   h'.get? a=some (seqObj "list" out e)->Q (.ref a) { s with heap:=h' }) :
  aR (model prog w) A (call (.builtin "sorted") [.ref l]) Q E s:=by
 refine Calls.call_function_entry kind_sorted plain_sorted entry_sorted (args_sorted1 _) ?_
 unfold Builtin.«sorted»
 refine az (m:=checkCount "sorted" 1 1 _) (aJ ?_)
 refine az (ye l hT ho hc hd (by rw[aC,sizeLine_eq];omega) λh1 hk hle =>?_)
 refine az (wpAny_newList ?_)
 have hoL:(h1.push (seqObj "list" vs.toArray 0)).get? h1.objs.size=some (seqObj "list" vs.toArray 0):=aH _ rfl
 show aR _ _ _ _ _ { s with heap:=h1.push (seqObj "list" vs.toArray 0) }
 refine az (jX (yj slot_list_sort ⟨_,hoL,rfl⟩ entry_list_sort (list_sort_tree hoL hI h64 λout ns' a1 a2 a3=>⟨_,rfl,?_⟩) (args_list_sort _)))
 obtain⟨e,he⟩:=sortedHeap_at (out:=out) hoL
 exact aJ ⟨_,rfl,h out ns' _ e _ a1 a2 a3 hle (λb o' hb=>by
  have hb1:=hk b o' hb
  have hlt:=aG hb1
  rw[sortedHeap_old (br hlt) (by rw[size_push'];exact fG hlt),Heap.get?_push_ne _ _ _ (br hlt)]
  exact hb1) he⟩
section
variable {X:Cx}
noncomputable def y6(K:ah):List V->Hp->VK->Prop:=λxs H Q =>∃(p:Addr) (ns:List Int),xs = [.ref p]/\((SqL K H p (ns.map V.int)\/SqT K H p (ns.map V.int))\/False)/\ns.length<64 /\ ∀l,H l=none->Q (.ref l) (upd H l (.lst ((pd ns).map V.int)))
theorem vf (hc:X.calm=true):iJ X (.builtin "sorted") (y6 X.K):=by
 intro pins s σ H xs us Q I rs h
 obtain⟨p,ns,rfl,hS,h64,q⟩:=h
 cases rs with
 | cons r1 rr=>
   cases rr
   cases (show _=bH p from r1)
   have fin: ∀(out:Array Value) (ns':List Int) (a:Addr) (e:Nat) (h':Heap) (tk:Nat),IntsAre out.toList ns'->ns'.Perm ns->ns'.Pairwise (· <= ·)->s.heap.objs.size<=a->(∀b o',s.heap.get? b=some o'->h'.get? b=some o') ->
    h'.get? a=some (seqObj "list" out e)->EP X pins σ Q (.ref a) { s with heap:=h',toks:=tk }:=by
    intro out ns' a e h' tk a1 a2 a3 hle hk he
    have e':=vD a2 a3
    subst e'
    refine⟨.ref a,_,I.laid (t':=tk) (o:= .lst ((pd ns).map V.int)) hk hle ?_,rfl,q _ (I.hok.fresh hle)⟩
    refine⟨by rw[aE,(iT ns).length_eq,sizeLine_eq];omega,out.toList,e,iR a1,?_⟩
    rw[he]
   rcases hS with (hS |hS) |hS
   ·obtain⟨its,rv,pl,_⟩:=I.list hS
    have hl:=pl.isList
    obtain⟨o,ho,hc,n,hd⟩:=hl
    have hI:=intsAre_of rv
    exact qV (.inl rfl) ho hc hd hI (by rw[lN hI];exact h64) λout ns' a e h'=>fin out ns' a e h' s.toks
   ·obtain⟨its,rv,pl,_⟩:=I.tuple hS
    obtain⟨o,ho,hc,n,hd⟩:=pl
    have hI:=intsAre_of rv
    exact qV (.inr rfl) ho hc hd hI (by rw[lN hI];exact h64) λout ns' a e h'=>fin out ns' a e h' s.toks
   ·exact hS.elim
end
section
variable {K:KX}
theorem vb{H:Hp}{μ:List Addr}: ∀ns:List Int,RUs H μ (ns.map U.int) (ns.map V.int)
 | [] => .nil
 | n::ns => .cons eG (vb ns)
theorem zN:sQ K (y6 K) gY:=by
 intro μ S H us vs u S' Q hr rs e a
 unfold gY at e
 split at e
 ·rename_i x
  obtain⟨v,r,rfl,rx,rn⟩:=rs.inv
  rw[rn.nil_inv]
  cases q:wF S x with
  | none=>rw[q]at e;cases e
  | some ns=>
    rw[q]at e;simp only[ax]at e
    split at e
    rotate_left
    ·cases e
    rename_i hc
    cases e
    unfold wF at q
    split at q
    ·cases q
    ·cases q1:dR S x with
     | none=>rw[q1]at q;cases q
     | some ws=>
       rw[q1]at q
       obtain⟨p,ys,rfl,hs,r'⟩:=hr.seq rx q1
       rw[yP r' q]at hs
       exact⟨p,ns,rfl,.inl hs,hc,λl hl=>mH a hr (vb _) hl⟩
 ·cases e
end
section
variable {X:Cx}
end
section
variable {K:KX}
end
end
end _G
end
section
namespace _G
open PySem PySem.Spec _L
open PyProof.Rows hiding St
section
section
variable {prog:Program}{w:World}{A:Around}{E:Value->Shared->Prop}{s:Shared}
end
section
variable {X:Cx}{e:Expr}{te:TE}{pos p2 p3 p4:Pos}{j:Nat}
end
section
variable {K:KX}{σ:St}{H:Hp}{Q:VK}
end
end
end _G
end
section
namespace _G
open PySem PySem.Spec _L
open PyProof.Rows hiding St
section
noncomputable def JC(k v:ME):ME:=λρ S=>bnd (k ρ (S++[.dic []])) λx S1=>bnd (v ρ S1) λy S2=>(keyOf x).bind λkk=>match S2[S.length]? with
 | some (.dic [])=>some (.ref S.length,S2.set S.length (.dic [(kk,y)]))
 | _=>none
section
variable {K:KX}{σ:St}{H:Hp}{Q:VK}
noncomputable def J5(i:Int):Prop:=i.natAbs.log2<1920
noncomputable instance(i:Int):Decidable (J5 i):=bJ _
end
end
end _G
end
section
namespace _G
open PySem PySem.Spec _L
open PyProof.Rows hiding St
section
abbrev MG:=U->Rho->Sto->Option (Rho×Sto)
abbrev MGs:=List U->Rho->Sto->Option (Rho×Sto)
noncomputable def gN(i:Nat):MG:=λu ρ S=>some (ρ.set i (some u),S)
noncomputable def sN:MGs:=λus ρ S=>match us with
 | []=>some (ρ,S)
 | _=>none
noncomputable def iD(g:MG)(r:MGs):MGs:=λus ρ S=>match us with
 | []=>none
 | u::us=>(g u ρ S).bind λp=>r us p.1 p.2
noncomputable def gTp(n:Nat)(gs:MGs):MG:=λu ρ S=>match u with
 | .tup us=>if us.length=n then gs us ρ S else none
 | _=>none
noncomputable def tG(K:KX)(g:MG):TG:=λv σ H Q =>∃μ S ρ u r,HR K μ S H/\ER H μ ρ σ/\RU H μ u v/\g u ρ S=some r /\ ∀μ' σ' H',Pre μ μ'->bf H H'->HR K μ' r.2 H'->ER H' μ' r.1 σ'->Q σ' H'
noncomputable def tGs(K:KX)(g:MGs):TGs:=λvs σ H Q =>∃μ S ρ us r,HR K μ S H/\ER H μ ρ σ/\RUs H μ us vs/\g us ρ S=some r /\ ∀μ' σ' H',Pre μ μ'->bf H H'->HR K μ' r.2 H'->ER H' μ' r.1 σ'->Q σ' H'
theorem PG.con{X:Cx}{tg:Expr}{t u:TG}(h:PG X tg t)(k: ∀v σ H Q,u v σ H Q->t v σ H Q):PG X tg u:=λpins s σ H v w Q I r q=>h pins s σ H v w Q I r (k _ _ _ _ q)
theorem PGs.con{X:Cx}{tg:List Expr}{t u:TGs}(h:PGs X tg t)(k: ∀v σ H Q,u v σ H Q->t v σ H Q):PGs X tg u:=λpins s σ H v w Q I r q=>h pins s σ H v w Q I r (k _ _ _ _ q)
section
variable {K:KX}{σ:St}{H:Hp}{Q:St->Hp->Prop}{v:V}{D:Ends}
theorem Ly{i:Nat}(h:tG K (gN i) v σ H Q):jA i v σ H Q:=by
 obtain⟨μ,S,ρ,u,r,hr,er,ru,e,k⟩:=h
 cases e
 exact k μ _ H (Pre.refl _) (bf.refl _) hr (er.set ru i)
theorem Ir{vs:List V}(h:tGs K sN vs σ H Q):IU vs σ H Q:=by
 obtain⟨μ,S,ρ,us,r,hr,er,rs,e,k⟩:=h
 cases us with
 | nil=>cases e;exact⟨rs.nil_inv,k μ _ H (Pre.refl _) (bf.refl _) hr er⟩
 | cons u us=>cases e
theorem Ez{g:MG}{gs:MGs}{vs:List V}(h:tGs K (iD g gs) vs σ H Q):Fx (tG K g) (tGs K gs) vs σ H Q:=by
 obtain⟨μ,S,ρ,us,r,hr,er,rs,e,k⟩:=h
 cases us with
 | nil=>cases e
 | cons u us=>
   obtain⟨v,vr,rfl,ra,rb⟩:=rs.inv
   cases q:g u ρ S with
   | none=>rw[show iD g gs (u::us) ρ S=(g u ρ S).bind λp=>gs us p.1 p.2 from rfl,q]at e;cases e
   | some p=>
     rw[show iD g gs (u::us) ρ S=(g u ρ S).bind λp=>gs us p.1 p.2 from rfl,q]at e
     refine⟨v,vr,rfl,μ,S,ρ,u,p,hr,er,ra,q,λμ1 σ1 H1 p1 k1 hr1 er1 =>?_⟩
     exact⟨μ1,p.2,p.1,us,r,hr1,er1,RUs.mono k1 p1 _ _ rb,e,λμ2 σ2 H2 p2 k2=>k μ2 σ2 H2 (p1.trans p2) (k1.trans k2)⟩
theorem Kw{n:Nat}{gs:MGs}(h:tG K (gTp n gs) v σ H Q):JA K n (tGs K gs) v σ H Q:=by
 obtain⟨μ,S,ρ,u,r,hr,er,ru,e,k⟩:=h
 unfold gTp at e
 split at e
 ·rename_i us
  split at e
  ·rename_i hl
   obtain⟨a,vs,rfl,ha,rs⟩:=iZ ru
   exact⟨a,vs,rfl,.inl (.inl ha),by rw[<- rs.len];exact hl,μ,S,ρ,us,r,hr,er,rs,e,k⟩
  ·cases e
 ·cases e
end
end
end _G
end
section
namespace _G
open PySem PySem.Spec _L
open PyProof.Rows hiding St
section
noncomputable def vP(g:MG)(b:MS):List U->MS
 | [],ρ,S=>some (.nx,ρ,S)
 | x::xs,ρ,S=>(g x ρ S).bind λp=>aft (b p.1 p.2) (vP g b xs)
noncomputable def o9(g:MG)(b:MS)(n:Nat):Nat->Nat->MS
 | 0,_,_,_=>none
 | f+1,k,ρ,S=>(getL S n).bind λus=>match us[k]? with
   | none=>some (.nx,ρ,S)
   | some x=>(g x ρ S).bind λp=>aft (b p.1 p.2) (o9 g b n f (k+1))
noncomputable def FI(g:MG)(b:MS)(n:Nat):Nat->Nat->MS
 | 0,_,_,_=>none
 | f+1,k,ρ,S=>(getL S n).bind λus=>match us[k]? with
   | none=>some (.nx,ρ,S)
   | some x=>(g (.tup [.int k,x]) ρ S).bind λp=>aft (b p.1 p.2) (FI g b n f (k+1))
noncomputable def Fc(g:MG)(b:MS):Src->MS
 | .imm us=>vP g b us
 | .mut n=>o9 g b n fuel 0
 | .enl n=>FI g b n fuel 0
 | _=>λ_ _=>none
noncomputable def tu(g:MG)(it:MI)(b:MS):MS:=λρ S=>bnd (it ρ S) λsrc S1=>Fc g b src ρ S1
section
variable {K:KX}{σ:St}{H:Hp}{Q:VK}{D:Ends}
theorem v9{g:MG}{b:MS}{ρ:Rho}{S:Sto}{x:U}{v:V}{μ μ0:List Addr}{H0:Hp}{k:MS}{r:Fl×Rho×Sto}{N:St->Hp->Prop}(hr:HR K μ S H)(er:ER H μ ρ σ)(rx:RU H μ x v)(e:((g x ρ S).bind λp=>aft (b p.1 p.2) k)=some r)(p:Pre μ0 μ)(kp:bf H0 H)(fl:FlP K μ0 H0 D r)
  (hN: ∀μ1 σ1 H1 ρ1 S1,Pre μ0 μ1->bf H0 H1->HR K μ1 S1 H1->ER H1 μ1 ρ1 σ1->k ρ1 S1=some r->N σ1 H1):tG K g v σ H λσ2 H2=>tMS K b { D with nx:=N,ct:=N,bk:=D.nx } σ2 H2:=by
 cases q:g x ρ S with
 | none=>rw[q]at e;cases e
 | some y=>
   rw[q]at e
   exact⟨μ,S,ρ,x,y,hr,er,rx,q,λμ1 σ1 H1 p1 k1 hr1 er1=>nM hr1 er1 e (p.trans p1) (kp.trans k1) fl hN⟩
theorem DK{g:MG}{b:MS}{us:List U}{vs:List V}{ρ:Rho}{S:Sto}{μ:List Addr}{a:Addr}{r:Fl×Rho×Sto}(hr:HR K μ S H)(er:ER H μ ρ σ)(e:vP g b us ρ S=some r)(fl:FlP K μ H D r)(ha:H a=some (.tup vs))(ru:RUs H μ us vs):
  ∃W:Nat->Nat->St->Hp->Prop,(∃m,W 0 m σ H) /\ ∀k m σ H,W k m σ H ->
   ((Itt K a).stop k H/\D.nx σ H)\/((Itt K a).go k H /\ ∃N:St->Hp->Prop,(∀σ' H',N σ' H' -> ∃m',m'<m/\W (k+1) m' σ' H') /\ ∀x H',(Itt K a).yld k H x H'->tG K g x σ H' λσ2 H2=>tMS K b { D with nx:=N,ct:=N,bk:=D.nx } σ2 H2):=by
 refine⟨λk m σ1 H1=>m+k=us.length /\ ∃μ1 S1 ρ1,Pre μ μ1/\bf H H1/\HR K μ1 S1 H1/\ER H1 μ1 ρ1 σ1/\vP g b (us.drop k) ρ1 S1=some r,⟨us.length,rfl,μ,S,ρ,Pre.refl _,bf.refl _,hr,er,e⟩,?_⟩
 rintro k m σ1 H1 ⟨hm,μ1,S1,ρ1,p1,k1,hr1,er1,e1⟩
 have hq:SqT K H1 a vs:= .inl (.inl (k1 a vs ha))
 cases m with
 | zero=>
   have hk:k=us.length:=by omega
   subst hk
   rw[tP]at e1
   cases e1
   exact .inl ⟨⟨vs,hq,by rw[ru.len];exact ak _⟩,fl μ1 σ1 H1 p1 k1 hr1 er1⟩
 | succ m=>
   have hk:k<us.length:=by omega
   have hu:us[k]? = some us[k]:=by simp[hk]
   obtain⟨v,hv,rv⟩:=ru.get hu
   rw[drop_cons hu]at e1
   refine .inr ⟨⟨vs,v,hq,hv⟩,λσ2 H2 =>∃μ2 S2 ρ2,Pre μ μ2/\bf H H2/\HR K μ2 S2 H2/\ER H2 μ2 ρ2 σ2/\vP g b (us.drop (k+1)) ρ2 S2=some r,λσ' H' w=>⟨m,cY _,by omega,w⟩,λx H' y =>?_⟩
   obtain⟨e',y⟩:=y
   subst e'
   have hx:=y vs hq
   rw[hv]at hx;cases hx
   exact v9 hr1 er1 (RU.mono k1 p1 _ _ rv) e1 p1 k1 fl λμ2 σ2 H2 ρ2 S2 p2 k2 hr2 er2 e2=>⟨μ2,S2,ρ2,p2,k2,hr2,er2,e2⟩
theorem DT{g:MG}{b:MS}{n f:Nat}{ρ:Rho}{S:Sto}{μ:List Addr}{a:Addr}{r:Fl×Rho×Sto}(hr:HR K μ S H)(er:ER H μ ρ σ)(e:o9 g b n f 0 ρ S=some r)(fl:FlP K μ H D r)(ha:μ[n]? = some a):
  ∃W:Nat->Nat->St->Hp->Prop,(∃m,W 0 m σ H) /\ ∀k m σ H,W k m σ H ->
   ((Itl K a).stop k H/\D.nx σ H)\/((Itl K a).go k H /\ ∃N:St->Hp->Prop,(∀σ' H',N σ' H' -> ∃m',m'<m/\W (k+1) m' σ' H') /\ ∀x H',(Itl K a).yld k H x H'->tG K g x σ H' λσ2 H2=>tMS K b { D with nx:=N,ct:=N,bk:=D.nx } σ2 H2):=by
 refine⟨λk m σ1 H1 =>∃μ1 S1 ρ1,Pre μ μ1/\bf H H1/\HR K μ1 S1 H1/\ER H1 μ1 ρ1 σ1/\o9 g b n m k ρ1 S1=some r,⟨f,μ,S,ρ,Pre.refl _,bf.refl _,hr,er,e⟩,?_⟩
 rintro k m σ1 H1 ⟨μ1,S1,ρ1,p1,k1,hr1,er1,e1⟩
 cases m with
 | zero=>cases e1
 | succ m=>
   unfold o9 at e1
   cases q:getL S1 n with
   | none=>rw[q]at e1;cases e1
   | some us=>
     rw[q]at e1
     simp only[ax]at e1
     obtain⟨a',vs,ha',hs,rs⟩:=hr1.sq q
     rw[p1.get ha]at ha';cases ha'
     cases z:us[k]? with
     | none=>
       rw[z]at e1
       cases e1
       refine .inl ⟨⟨vs,hs,?_⟩,fl μ1 σ1 H1 p1 k1 hr1 er1⟩
       rw[<- rs.len];exact d7.mp z
     | some u=>
       rw[z]at e1
       obtain⟨v,hv,rv⟩:=rs.get z
       refine .inr ⟨⟨vs,v,hs,hv⟩,λσ2 H2 =>∃μ2 S2 ρ2,Pre μ μ2/\bf H H2/\HR K μ2 S2 H2/\ER H2 μ2 ρ2 σ2/\o9 g b n m (k+1) ρ2 S2=some r,λσ' H' w=>⟨m,cY _,w⟩,λx H' y =>?_⟩
       obtain⟨e',y⟩:=y
       subst e'
       have hx:=y vs hs
       rw[hv]at hx;cases hx
       exact v9 hr1 er1 rv e1 p1 k1 fl λμ2 σ2 H2 ρ2 S2 p2 k2 hr2 er2 e2=>⟨μ2,S2,ρ2,p2,k2,hr2,er2,e2⟩
theorem Ll{g:MG}{a:ME}{b:MS}(h:tMS K (tu g (eK a) b) D σ H):vv (λσ H R=>tE K (tM K a) σ H R\/Ac K (tM K a) σ H R) (tG K g) (tMS K b) D σ H:=by
 obtain⟨μ,S,ρ,r,hr,er,e,fl⟩:=h
 obtain⟨src,S1,e1,e⟩:=bq e
 refine xy hr er e1 (λμ1 H1 us p vs p1 k1 hr1 hs hp rs =>?_) λμ1 H1 n p p1 k1 hr1 hs hp =>?_
 ·subst hs
  exact DK hr1 (er.mono k1 p1) e (fl.mono p1 k1) hp rs
 ·subst hs
  exact DT hr1 (er.mono k1 p1) e (fl.mono p1 k1) hp
end
end
end _G
end
section
namespace _G
open PySem PySem.Spec _L
open PyProof.Rows hiding St
section
section
variable {K:KX}{σ:St}{H:Hp}{Q:VK}
end
end
end _G
end
section
namespace _G
open PySem PySem.Spec _L
open PyProof.Rows hiding St
section
section
variable {prog:Program}{w:World}{A:Around}{E:Value->Shared->Prop}{s:Shared}
theorem rP{Q:List Value->Shared->Prop}{r:Addr}{a b c:Int}{t u v:Tok}{n:Nat}(hh:A.handled=none)(hr:IsRange s.heap r a b c t u v)(hsmall:mj a b c=true)
  (hn:dr a b c=n) (hlen:n<=2 ^ 24)
  (hQ: ∀(h':Heap) (tk:Nat) (acc:Array Value),(∀b o,s.heap.get? b=some o->h'.get? b=some o)->s.heap.objs.size<=h'.objs.size->ItemsOf (λi v =>∃t,v = .int (a+i*c) t) acc n->Q acc.toList { s with heap:=h',toks:=tk }):
  aR (model prog w) A (collect (.ref r)) Q E s:=by
 unfold collect
 refine az (wpAny_runValue (iA F.entry_proto_collect ?_))
 rw[fH F.plain_proto_collect _]
 show aR _ A.in1 (newList [] >>= fun l=>again (.builtin "list.__iadd__" ⟨[l,.ref r],[]⟩)) _ _ s
 refine az (dJ (aJ ⟨plainId_quiet mJ _,iA F.entry_list_iadd ?_⟩))
 rw[fH mJ _]
 have hS:(s.heap.push { cls := .type "list",data := .seq ([]:List Value).toArray }).get? s.heap.objs.size=some { cls := .type "list",data := .seq #[] 0 }:=aH _ rfl
 have lt: ∀b o,s.heap.get? b=some o->b≠s.heap.objs.size:=λb o e=>br (aG e)
 refine bI (wpAny_extend_range (A:=A) (R:=λx s' =>∃h' tk acc c',x = .ok (.ret (.ref s.heap.objs.size))/\s'={ s with heap:=h',toks:=tk }/\(∀b o,s.heap.get? b=some o->h'.get? b=some o) /\
   h'.get? s.heap.objs.size=some { cls := .type "list",dict:=none,data := .seq acc c',slots := #[] }/\ItemsOf (fun i v => ∃ t,v = .int (a+i*c) t) acc n)
  (s:={ s with heap:=s.heap.push { cls := .type "list",data := .seq ([]:List Value).toArray } }) hh (av _ hr) hsmall hn hlen s.heap.objs.size (.ref s.heap.objs.size) 0 hS
  λh' tk acc c' hk hS' hacc=>⟨h',tk,acc,c',rfl,rfl,λb o e=>hk b o (lt b o e) (av _ e),hS',hacc⟩) (λfin s' h =>?_) (λe s' h=>by obtain⟨_,_,_,_,h,_⟩:=h;cases h)
 have fin': ∀x s',(∃h' tk acc c',x=(.ok (.ret (.ref s.heap.objs.size)):Result)/\s'={ s with heap:=h',toks:=tk }/\(∀b o,s.heap.get? b=some o->h'.get? b=some o) /\
   h'.get? s.heap.objs.size=some { cls := .type "list",dict:=none,data := .seq acc c',slots := #[] }/\ItemsOf (fun i v => ∃ t,v = .int (a+i*c) t) acc n)->x = .ok (.ret (.ref s.heap.objs.size))/\aR (model prog w) A (match bH s.heap.objs.size with
   | bH a=>do
     match (<- load a).data with
      | wZ xs _=>pure xs.toList
      | _=>unsupported "internal:collect"
   | _=>unsupported "internal:collect") Q E s':=by
  rintro x s' ⟨h',tk,acc,c',rfl,rfl,hk,hS',hacc⟩
  refine⟨rfl,?_⟩
  show aR _ A (load s.heap.objs.size >>= _) _ _ _
  refine az (wpAny_load hS' (aJ ?_))
  exact hQ h' tk acc hk (aT (aG hS')) hacc
 cases fin with
 | done f=>
   obtain⟨e,q⟩:=fin' _ _ h
   cases e
   exact q
 | again c'=>exact⟨h.1,gK h.2 λr s'' hr=>by
   obtain⟨e,q⟩:=fin' _ _ hr
   subst e
   exact q⟩
theorem kU{Q₁:Value->Shared->Prop}{r:Addr}{a b c:Int}{t u v:Tok}{n:Nat}(hh:A.handled=none)(hr:IsRange s.heap r a b c t u v)(hsmall:mj a b c=true)
  (hn:dr a b c=n) (hlen:n<=2 ^ 24)
  (h : ∀ (h':Heap) (tk:Nat) (acc:Array Value),(∀ b o,s.heap.get? b=some o->h'.get? b=some o)->s.heap.objs.size<=h'.objs.size->ItemsOf (fun i v => ∃ t,v = .int (a+i*c) t) acc n->Q₁ (.ref h'.objs.size) { s with heap:=h'.push { cls := .type "tuple",data := .seq acc },toks:=tk }) :
  jY (model prog w) A (.call (.builtin "tuple.__new__") ⟨[.type "tuple",.ref r],[]⟩) (wants Q₁ E) s:=by
 refine codeAny_of_tree ?_
 show aR _ A.in1 (do checkBuiltinCall "tuple.__new__" ⟨[.type "tuple",.ref r],[]⟩;again (.builtin "tuple.__new__" ⟨[.type "tuple",.ref r],[]⟩)) _ _ s
 refine az (wpAny_of_eq (F.newCall_tuple_1 _) (aJ ⟨plainId_quiet F.plain_tuple_new _,iA F.entry_tuple_new ?_⟩))
 rw[fH F.plain_tuple_new _]
 have hsub:=sub_tuple_self
 have hinit:=init_tuple_lookup
 have hmh:=madeHere_tuple
 have hTI:s.TypeIs (.ref r) "range":=⟨_,hr,rfl⟩
 have hh1:A.in1.handled=none:=hh
 wp_walk using wO hTI,rP hh1 hr hsmall hn hlen
 intro h' tk acc hk hle hacc
 show aR _ _ (dj acc.toList.toArray >>= λv=>ret v) _ _ _
 unfold dj
 refine az (dJ ?_ (by show acc.toList.toArray.size<=sizeLine;simp only[Array.toArray_toList];rw[hacc.1,sizeLine_eq];exact hlen))
 refine aJ ?_
 have e:acc.toList.toArray=acc:=by simp
 rw[e]
 exact h h' tk acc hk hle hacc
theorem oO{Q:Value->Shared->Prop}{r:Addr}{a b c:Int}{t u v:Tok}{n:Nat}(hh:A.handled=none)(hr:IsRange s.heap r a b c t u v)(hsmall:mj a b c=true)
  (hn:dr a b c=n) (hlen:n<=2 ^ 24)
  (h : ∀ (h':Heap) (tk:Nat) (acc:Array Value),(∀ b o,s.heap.get? b=some o->h'.get? b=some o)->s.heap.objs.size<=h'.objs.size->ItemsOf (fun i v => ∃ t,v = .int (a+i*c) t) acc n->Q (.ref h'.objs.size) { s with heap:=h'.push { cls := .type "tuple",data := .seq acc },toks:=tk }) :
  aR (model prog w) A (call (.type "tuple") [.ref r]) Q E s:=by
 refine callType_codes (Q₁:=fun obj s₁=>s₁.TypeIs obj "tuple"/\Q obj s₁) F.called_tuple (F.typeCall_tuple_1 _) F.entry_object_init
  (kU hh hr hsmall hn hlen λh' tk acc hk hle hacc=>⟨⟨_,aH _ rfl,rfl⟩,h h' tk acc hk hle hacc⟩) λobj s₁ h₁ =>?_
 exact⟨h₁.1,F.args_object_init_2 obj _,object_init_meets F.called_tuple.init.lookup F.called_tuple.made (by decide) prog w A.in1 _ s₁ ⟨h₁.1,rfl,h₁.2⟩⟩
end
theorem qY {X:Cx} (hc:X.calm=true):iJ X (.type "tuple") (fun xs H Q => ∃ r lo hi,xs = [.ref r]/\H r=some (.rng lo hi)/\(-(2 ^ 62)<=lo/\lo < 2 ^ 62 /\ -(2 ^ 62)<=hi/\hi < 2 ^ 62)/\(hi - lo).toNat<=sizeLine /\ ∀ l,H l=none->Q (.ref l) (upd H l (.tup (kJ lo (hi - lo).toNat)))):=by
 intro pins s σ H xs us Q I rs h
 obtain⟨r,lo,hi,rfl,hr,⟨h1,h2,h3,h4⟩,hz,q⟩:=h
 cases rs with
 | cons r1 rr=>
   cases rr
   cases (show _=bH r from r1)
   obtain⟨t,u,v,e⟩:=I.hok r _ hr
   have hn:dr lo hi 1=((hi - lo).toNat:Nat):=by rw[rangeSize_one];split <;> omega
   refine oO (n:=(hi - lo).toNat) (I.ok.hd hc) e (small_one h1 h2 h3 h4) hn (by rw[sizeLine_eq]at hz;exact hz) λh' tk acc hk hle hacc =>?_
   obtain⟨hsz,hit⟩:=hacc
   refine⟨.ref h'.objs.size,_,I.laid (t':=tk) (o:= .tup (kJ lo (hi - lo).toNat)) (λb o e=>av _ (hk b o e)) hle ?_,rfl,q _ (I.hok.fresh hle)⟩
   refine⟨by rw[kJ,aE,bT];exact hz,acc.toList,?_,oy _ _,_,aH _ rfl,rfl⟩
   refine t6 (by rw[kJ,aE,bT,gd,hsz]) λi x w h5 h6 =>?_
   have hlt:i<(hi - lo).toNat:=by
    have:=(af.mp h5).1
    rwa[kJ,aE,bT]at this
   have hx:(kJ lo (hi - lo).toNat)[i]? = some (.int (lo+i)):=by simp[kJ,hlt]
   rw[hx]at h5;cases h5
   obtain⟨t',e'⟩:=hit i w (by simpa using h6)
   exact⟨t',by rw[e'];simp⟩
section
variable {K:KX}{σ:St}{H:Hp}{Q:VK}
noncomputable def rTR:List V->Hp->VK->Prop:=λxs H Q =>∃r lo hi,xs = [.ref r]/\H r=some (.rng lo hi)/\(-(2 ^ 62)<=lo/\lo<2 ^ 62 /\ -(2 ^ 62)<=hi/\hi<2 ^ 62)/\(hi - lo).toNat<=sizeLine /\ ∀l,H l=none->Q (.ref l) (upd H l (.tup (kJ lo (hi - lo).toNat)))
theorem By{μ:List Addr}{S1:Sto}{i j:Int}{r:Addr}(hr1:HR K μ S1 H)(ho:okR i/\okR j)(hz:(bh i (j - i).toNat).length<=big)(k:Aft K μ H (.tup (bh i (j - i).toNat)) S1 Q)(hrn:H r=none):rTR [.ref r] (upd H r (.rng i j)) Q:=by
 refine⟨r,i,j,rfl,cq,⟨ho.1.1,ho.1.2,ho.2.1,ho.2.2⟩,?_,λl hl =>?_⟩
 ·unfold bh big at hz;rw[aE,bT]at hz;rw[sizeLine_eq];exact hz
 ·have k2:=k.mono (Pre.refl _) (bf.new hrn (o:= .rng i j))
  exact k2 μ _ _ (Pre.refl _) (bf.new hl) ((hr1.rng hrn).tup hl) (i9 cq (RUs.mono (bf.new hl) (Pre.refl _) _ _ (yl _ _)))
theorem DL{a:MA}(h:tM K (qL (iR2 a)) σ H Q):tCB rTR (yw (CI (tMA K a)) Bb) σ H Q:=by
 obtain⟨μ,S,ρ,u,S',hr,er,e,k⟩:=h
 obtain⟨src,S1,e1,e⟩:=bq e
 obtain⟨xs,S2,e2,e1⟩:=bq e1
 refine⟨μ,S,ρ,xs,S2,hr,er,e2,λμ1 vs H1 p1 k1 hr1 rs =>?_⟩
 split at e1
 ·rename_i i j
  split at e1
  ·rename_i hj
   cases e1
   simp only at e
   split at e
   ·rename_i hz
    cases e
    obtain⟨v,r,rfl,rx,rs⟩:=rs.inv
    obtain⟨w,r,rfl,ry,rn⟩:=rs.inv
    rw[rn.nil_inv,cJ rx,cJ ry]
    exact⟨i,j,rfl,⟨hj.1.1,hj.1.2,hj.2.1,hj.2.2⟩,λr hrn=>By hr1 hj hz (k.mono p1 k1) hrn⟩
   ·cases e
  ·cases e1
 ·cases e1
end
end
end _G
end
section
namespace _G
open PySem PySem.Spec _L
open PyProof.Rows hiding St
section
noncomputable def AN(i:Nat)(f:Addr)(φ:MF)(a:MA):ME:=λρ S=>match ρ[i]? with
 | some (some (.obj g))=>if g=f then mFn φ a ρ S else none
 | _=>none
noncomputable def gO(is:List Nat)(ρ:Rho):Option (List U):=d5 (λi=>(ρ[i]?).bind id) is
noncomputable def rZ(np:Nat)(ml:ME)(cs:List U):MF:=λus S=>if us.length=np then ml (us.map some++cs.map some) S else none
end
structure Lam(M:Mo)(f:Addr)(k:Nat)(ps:List Str)(φ:MF):Prop where
 ex: ∃fd:FuncData,((∃(oc:Value) (od:Option Addr) (sl:Array (Option Value)),M.base.get? f=some ⟨oc,od,.func fd,sl⟩)\/bP M.K (.ref f)=true)/\Binds M.K fd ps []/\gy M.P M.w M.K M.mg M.base CX0 k f fd ps (spM M.K φ)
section
variable {M:Mo}{X:Cx}{k:Nat}{N:List Str}{ns:List (Str×NameKind)}{e:Expr}{es:List Expr}{mas:MA}{x:Str}{p1 pos:Pos}
theorem EG{f:Addr}{φ:MF}{ps:List Str}{k':Nat}(S:Sc M X k N ns)(F:Lam M f k' ps φ)(hk:k'<=k)(i:Nat)(hi:N[i]? = some x)(hv:lu ns x=true)(ha:PA X (e::es) (tMA M.K mas))
  (hd:(x == ("__debug__":Str))=false) (hcd:(x == ("__classdict__":Str))=false)
  (he:starEach (e::es) X.env=(false,eval e X.env)::starEach es X.env) (hpl:(backTo pos (starEach es X.env)).any (·.1)=false):
  PE X (.Call (.Name x p1) (e::es) [] pos) (tM M.K (AN i f φ mas)):=by
 obtain⟨fd,hf,hb,F⟩:=F.ex
 rw[<- S.hP,<- S.hw,<- S.hK,<- S.hm,<- S.hb]at F
 rw[<- S.hb,<- S.hK]at hf
 rw[<- S.hK]at hb
 intro pins s σ H Q I h
 obtain⟨μ,S0,ρ,u,S',hr,er,q,aft⟩:=h
 unfold AN at q
 split at q
 rotate_left
 ·cases q
 rename_i g hg
 split at q
 rotate_left
 ·cases q
 rename_i hgf
 subst hgf
 obtain⟨v,hσ,rv⟩:=er.get i _ hg
 have hv':v = .ref g:=by simpa only [RU]using rv
 subst hv'
 refine dB (thn (mY (X:=X) (by rw[S.hN];exact hi) (S.vis hv) hd hcd pins s σ H (λv H1=>v = .ref g/\H1=H) I ⟨_,hσ,rfl,rfl⟩) λw s1 ⟨v,H1,I1,r1,e1,e2⟩ =>?_)
 subst e1;subst e2
 obtain rfl:w=bH g:=r1
 have hc:zf (spM M.K φ) [] E0 (tMA M.K mas) σ H1 Q:=Cc ⟨μ,S0,ρ,u,S',hr,er,q,aft⟩
 have hA:=ha pos pins s1 σ H1 _ I1 hc
 rcases hf with⟨oc,od,sl,hf⟩ |hf
 rotate_left
 ·exact oZ (h₀:=X.base) I1.ok.mod.kin hf (thn hA λus s2 ⟨vs,H2,I2,r2,q2⟩=>⟨I2.kIn,qG F (S.room.mono hk) hb .nil tJ I2 r2 q2⟩) he hpl
 rw[he]
 refine AB (P:=λh=>h.get? g=some ⟨oc,od,.func fd,sl⟩) (by show((false||(backTo pos (starEach es X.env)).any (·.1))||false)=false;rw[hpl];rfl)
  (λh q=>⟨.frame,.inl rfl,(ox (part:=none) q).andThen .now⟩) (jd ?_)
 rw[he]at hA
 refine thn hA λus s2 ⟨vs,H2,I2,r2,q2⟩=>⟨I2.bk g _ hf,?_⟩
 exact qG F (S.room.mono hk) hb .nil tJ I2 r2 q2
end
end _G
end
section
namespace _G
open PySem PySem.Spec _L
open PySem.W (envX kla_fn kla_obj CodeHd tabObj)
open PyProof.Rows hiding St
structure kc(ps fs:List Str)(scope:Scope):Prop where
 kind:scope.kind = .function
 co:scope.isCoroutine=false
 gen:scope.isGenerator=false
 nd:(ps++fs).Nodup
 par: ∀p∈ps,scope.names.lookup p=some .local\/scope.names.lookup p=some .cell
 cel: ∀x∈scope.names,x.2 = .cell->scope.names.lookup x.1=some .cell
 fre: ∀y∈scope.names,y.2 = .free->y.1∈fs
 free: ∀y∈fs,scope.names.lookup y=some .free
theorem nh: ∀(names:List (Str×NameKind)) (n:Nat) (a b:List (Str×Addr)),cellsFrom n names (a++b)=cellsFrom n names a++b
 | [],_,_,_=>rfl
 | (x,k)::r,n,a,b=>by
   unfold cellsFrom
   cases k==cf with
   | true=>exact nh r (n+1) ((x,n)::a) b
   | false=>exact nh r n a b
theorem zI(names:List (Str×NameKind))(n:Nat)(b:List (Str×Addr)):cellsFrom n names b=cellsFrom n names []++b:=nh names n [] b
theorem oS: ∀(names:List (Str×NameKind)) (n:Nat) (a:List (Str×Addr)) {x:Str}{c:Addr},(x,c)∈cellsFrom n names a->(x,cf)∈names\/(x,c)∈a
 | [],_,_,_,_,h => .inr h
 | (y,k)::r,n,a,x,c,h=>by
   unfold cellsFrom at h
   split at h
   ·rename_i hk
    rcases oS r (n+1) _ h with h |h
    ·exact .inl (aw _ h)
    ·rcases aX.mp h with e |h
     ·cases e;rw[eq_of_beq hk];exact .inl aP
     ·exact .inr h
   ·exact(oS r n a h).imp (aw _) id
theorem fU{α:Type}{x:Str}{c:α}: ∀{a b:List (Str×α)},a.lookup x=some c->(a++b).lookup x=some c
 | a,b,h=>by rw[gM,h];rfl
theorem iE{α:Type}{x:Str}: ∀{a b:List (Str×α)},a.lookup x=none->(a++b).lookup x=b.lookup x
 | a,b,h=>by rw[gM,h];rfl
theorem gQ{α:Type}{x:Str}{c:α}{a b:List (Str×α)}(h:(a++b).lookup x=some c):a.lookup x=some c\/(a.lookup x=none/\b.lookup x=some c):=by
 cases q:a.lookup x with
 | some d=>rw[fU q]at h;exact .inl h
 | none=>rw[iE q]at h;exact .inr ⟨rfl,h⟩
theorem qO{f g:Str×Value->PUnit->Sem (ForInStep PUnit)}: ∀{l:List (Str×Value)},(∀x∈l,∀u,f x u=g x u)->forIn l pQ f=forIn l pQ g
 | [],_=>rfl
 | x::l,h=>by
   rw[jE,jE,h x aP]
   have ih:=qO (l:=l) λy hy=>h y (aw _ hy)
   congr 1
   funext r
   cases r with
   | done u=>rfl
   | yield u=>exact ih
theorem xZ{env:Env}{cs:List (Str×Addr)}{x:Str}{v:Value}(h:env.kindOf x=some .local\/env.cells.lookup x=cs.lookup x):storeName env x v=storeName { env with cells:=cs } x v:=by
 rcases h with h |h
 ·have h':Env.kindOf { env with cells:=cs } x=some .local:=h
  unfold storeName
  rw[h,h']
  rfl
 ·have e:cellOf env x=cellOf { env with cells:=cs } x:=by unfold cellOf;rw[h]
  unfold storeName
  rw[e]
  rfl
theorem zd{M:Model}{A:Around}{E:Value->Shared->Prop}{s:Shared}{scope:Scope}{g:Addr}{cl:List (Str×Addr)}{binds:List (Str×Value)}{qual:Str}{func:Option Addr}{code:Value}{bt:Addr}{Q:Env->Shared->Prop}(hk:scope.kind = .function)
  (hb: ∀x∈binds,scope.names.lookup x.1=some .local\/scope.names.lookup x.1=some .cell)
  (hQ: ∀s',InCallC s s.heap.objs.size (bindL (λx=>scope.names.lookup x) binds λ_=>none) (cellsFrom (s.heap.objs.size+1) scope.names []) (bindC (λx=>scope.names.lookup x) binds λ_=>none) s' ->
   Q (newEnv scope s.heap.objs.size g (cellsFrom (s.heap.objs.size+1) scope.names []++cl) qual func code none bt) s'):
  aR M A (newFunctionEnv scope g cl binds qual func code none bt) Q E s:=by
 have ok:CellsOk (pushCells (s.heap.push { cls := .type "frame",data := .dict #[] }) scope.names) (s.heap.objs.size+1) (cellsFrom (s.heap.push { cls := .type "frame",data := .dict #[] }).objs.size scope.names []):=
  cellsFrom_ok scope.names _ _ [] ⟨λ_ _ z=>(nomatch z),gf⟩ (by rw[bA];exact ak _)
 rw[bA]at ok
 have inC:InCallC s s.heap.objs.size (fun _=>none) (cellsFrom (s.heap.objs.size+1) scope.names []) (fun _=>none) { s with heap:=pushCells (s.heap.push { cls := .type "frame",data := .dict #[] }) scope.names }:=
  ⟨⟨⟨_,s.toks,rfl⟩,(Heap.Ns.new s.heap (.type "frame")).keeps fun b o e=>pushCells_keeps _ _ b o e,fun b o e=>pushCells_keeps _ _ b o (av _ e),ak _⟩,
   λn c hc=>(ok.empty n c (mem_of_lookup hc)).1,ok.apart,λn c hm=>Nat.lt_of_succ_le (ok.empty n c hm).2⟩
 simp only[newFunctionEnv,Option.isSome_none,gL,if_false]
 refine az (wpAny_alloc (az (wpAny_layCells _ (λnm kd cs=>by cases q:kd==cf <;> simp[q]) _ _ _ _ ?_)))
 rw [show ({ s with heap:=s.heap.push { cls := .type "frame",data := .dict #[] } }:Shared).heap.objs.size=s.heap.objs.size+1 from bA ..,zI]
 refine az ?_
 have same: ∀x∈binds,∀v:Value,storeName (newEnv scope s.heap.objs.size g (cellsFrom (s.heap.objs.size+1) scope.names []++cl) qual func code none bt) x.1 v=storeName (newEnv scope s.heap.objs.size g (cellsFrom (s.heap.objs.size+1) scope.names []) qual func code none bt) x.1 v:=λx hx v=>by
  refine xZ (env:=newEnv scope s.heap.objs.size g (cellsFrom (s.heap.objs.size+1) scope.names []++cl) qual func code none bt) ?_
  rcases hb x hx with h |h
  ·exact .inl h
  ·obtain⟨c,hc⟩:=iX (n:=s.heap.objs.size+1) h
   exact .inr (by rw[hc];exact fU hc)
 show aR M A (forIn binds pQ λx _=>(do storeName (newEnv scope s.heap.objs.size g (cellsFrom (s.heap.objs.size+1) scope.names []++cl) qual func code none bt) x.1 x.2;pure (de pQ))) _ E _
 rw[qO (g:=λx _=>(do storeName (newEnv scope s.heap.objs.size g (cellsFrom (s.heap.objs.size+1) scope.names []) qual func code none bt) x.1 x.2;pure (de pQ))) λx hx u=>by rw[same x hx]]
 refine wpAny_bindParams (s₀:=s) (env:=newEnv scope s.heap.objs.size g (cellsFrom (s.heap.objs.size+1) scope.names []) qual func code none bt) _ (λ_ _ _=>rfl) hk binds _ _ _ _ inC (λx hx =>?_) λs' x=>aJ (hQ s' x)
 rcases hb x hx with h |h
 ·exact .inl h
 ·obtain⟨c,hc⟩:=iX (n:=s.heap.objs.size+1) h
  exact .inr ⟨h,by show((cellsFrom (s.heap.objs.size+1) scope.names []).lookup x.1).isSome=true;rw[hc];rfl⟩
noncomputable def kX(base:Heap)(cl:List (Str×Addr)):List Str->List V->Prop
 | [],[]=>True
 | y::fs,v::vs=>(∃c o u,cl.lookup y=some c/\base.get? c=some o/\o.data = .cell (some u)/\RelV v u)/\kX base cl fs vs
 | _,_=>False
theorem kX.len{base:Heap}{cl:List (Str×Addr)}: ∀{fs:List Str}{vs:List V},kX base cl fs vs->fs.length=vs.length
 | [],[],_=>rfl
 | _::_,_::_,h=>by simp[kX.len h.2]
 | [],_::_,h=>h.elim
 | _::_,[],h=>h.elim
theorem kX.get{base:Heap}{cl:List (Str×Addr)}: ∀{fs:List Str}{vs:List V}{i:Nat}{y:Str}{v:V},kX base cl fs vs->fs[i]? = some y->vs[i]? = some v -> ∃c o u,cl.lookup y=some c/\base.get? c=some o/\o.data = .cell (some u)/\RelV v u
 | [],_,i,y,v,_,h1,_=>by simp at h1
 | _::_,[],i,y,v,h,_,_=>h.elim
 | _::_,_::_,0,y,v,h,h1,h2=>by
   simp at h1 h2;subst h1;subst h2
   exact h.1
 | _::_,_::_,i+1,y,v,h,h1,h2=>kX.get (i:=i) h.2 (by simpa using h1) (by simpa using h2)
noncomputable def m8(qual:Str)(scope:Scope)(L f:Addr)(cd:Value)(cl:List (Str×Addr)):Env:=envX qual scope L f cd (cellsFrom (L+1) scope.names []++cl)
noncomputable def vw(P:Program)(w:World)(K:ah)(mg:Str->Option Value)(base:Heap)(N:List Str)(qual:Str)(scope:Scope)(f:Addr)(cd:Value)(cl:List (Str×Addr))(A:Around)(outer:List Env)(s:Shared)(H:Hp):Cx where
 prog:=P
 w:=w
 K:=K
 mg:=mg
 base:=base
 A:=A.deeper (m8 qual scope s.heap.objs.size f cd cl)
 N:=N
 s₀:=s
 H₀:=H
 env:=m8 qual scope s.heap.objs.size f cd cl
 outer:=outer
 stack:=m8 qual scope s.heap.objs.size f cd cl::outer
 ex:= []
 calm:=true
 fn:=λx=>scope.names.lookup x==some .cell
 pn:= []
 xe:=λ_ _=>False
theorem yN{P:Program}{w:World}{K:ah}{mg:Str->Option Value}{base:Heap}{ps fs:List Str}{qual:Str}{scope:Scope}{f:Addr}{cd:Value}{cl:List (Str×Addr)}{A:Around}{outer:List Env}{s s1:Shared}{H:Hp}{us:List Value}{vs cv:List V}
  (S:kc ps fs scope) (hd:A.handled=none) (e0:sk P w K mg base A outer s H) (hl:vs.length=ps.length) (r:bK vs us) (C:kX base cl fs cv)
  (hcl: ∀y c,cl.lookup y=some c -> ∃o v,base.get? c=some o/\o.data = .cell v) (inj: ∀x y c,cl.lookup x=some c->cl.lookup y=some c->x=y)
  (x:InCallC s s.heap.objs.size (bindL (λy=>scope.names.lookup y) (ps.zip us) λ_=>none) (cellsFrom (s.heap.objs.size+1) scope.names []) (bindC (λy=>scope.names.lookup y) (ps.zip us) λ_=>none) s1):
  Inv (vw P w K mg base (ps++fs) qual scope f cd cl A outer s H) [] (vs.map some++cv.map some) H s1:=by
 obtain⟨h1,tk,rfl,hk⟩:=x.done
 have ndP:ps.Nodup:=(iB.mp S.nd).1
 have newc: ∀y c,(cellsFrom (s.heap.objs.size+1) scope.names []).lookup y=some c->scope.names.lookup y=some .cell/\s.heap.objs.size<c:=λy c e=>by
  have m:=mem_of_lookup e
  rcases oS _ _ _ m with z |z
  ·exact⟨S.cel _ z rfl,x.above y c m⟩
  ·simp at z
 have oldc: ∀y c,cl.lookup y=some c->c<s.heap.objs.size/\(∃v,h1.IsCell c v)/\H c=none:=λy c e=>by
  obtain⟨o,v,e1,e2⟩:=hcl y c e
  exact⟨aG (e0.bs c o e1).1,⟨v,o,hk _ _ (e0.bs c o e1).1,e2⟩,(e0.bs c o e1).2⟩
 have frc: ∀y∈fs,(cellsFrom (s.heap.objs.size+1) scope.names []).lookup y=none:=λy hy=>by
  cases q:(cellsFrom (s.heap.objs.size+1) scope.names []).lookup y with
  | none=>rfl
  | some c=>
    have:=(newc y c q).1
    rw[S.free y hy]at this;cases this
 have noA: ∀b:Addr,b∉(vw P w K mg base (ps++fs) qual scope f cd cl A outer s H).ex:=λb z=>absurd (show b∈([]:List Addr) from z) (by simp)
 refine⟨⟨e0.mod,S.kind,rfl,rfl,ak _,λy z c e1 e2 =>?_,λy hy =>?_,λy c hy e =>?_,λ_=>hd,AA e0.frames,.inr ⟨rfl,rfl⟩,λb z=>absurd z (noA b),e0.bs,e0.bsz,λb _ _=>noA b,λb z=>absurd z (noA b),e0.funs,e0.frf⟩,
  rfl,e0.bare,Un.kept hk,⟨_,x.toInCall.ns,λi y v h2 h3 h4 =>?_⟩,λy c h =>?_,e0.hok.fresh (ak _),λy c h =>?_,λp hp=>absurd (show p∈([]:List (Addr×Obj)) from hp) (by simp),e0.hok.kept hk,?_⟩
 ·rcases gQ e1 with e1 | ⟨_,e1⟩
  ·rcases gQ e2 with e2 | ⟨_,e2⟩
   ·exact name_of_addr x.apart (mem_of_lookup e1) (mem_of_lookup e2)
   ·exact absurd (dz (newc y c e1).2 (oldc z c e2).1) (bN _)
  ·rcases gQ e2 with e2 | ⟨_,e2⟩
   ·exact absurd (dz (newc z c e2).2 (oldc y c e1).1) (bN _)
   ·exact inj y z c e1 e2
 ·have hy:scope.names.lookup y=some .cell\/scope.names.lookup y=some .free:=hy
  rcases hy with hy |hy
  ·obtain⟨c,hc⟩:=iX (n:=s.heap.objs.size+1) hy
   exact⟨c,fU hc⟩
  ·have hf:=S.fre _ (mem_of_lookup hy) rfl
   obtain⟨i,hi⟩:=List.getElem?_of_mem hf
   have hi2:i<cv.length:=by rw[<- C.len];exact(af.mp hi).1
   obtain⟨c,o,u,e,_⟩:=C.get hi (bG hi2)
   exact⟨c,(iE (frc y hf)).trans e⟩
 ·rcases gQ e with e | ⟨_,e⟩
  ·exact aT (newc y c e).2
  ·have hy':scope.names.lookup y=some .cell:=eq_of_beq hy
   obtain⟨c',hc'⟩:=iX (n:=s.heap.objs.size+1) hy'
   rename_i z
   rw[hc']at z;cases z
 ·have hN:(ps++fs)[i]? = some y:=h2
  by_cases hi:i<ps.length
  ·rw[aQ hi]at hN
   rw[aQ (by simpa [hl]using hi),cw]at h3
   cases e:vs[i]? with
   | none=>rw[e]at h3;cases h3
   | some a=>
     rw[e]at h3;cases h3
     obtain⟨u,hu,rv⟩:=r.get e
     refine⟨u,rv,?_⟩
     rcases S.par y (eg hN) with kd |kd
     ·exact .inl ⟨kd,oN ndP hN hu kd⟩
     ·obtain⟨c,hc⟩:=iX (n:=s.heap.objs.size+1) kd
      refine .inr ⟨.inl kd,c,fU hc,?_⟩
      have z:=x.cell y c hc
      rw[oQ ndP hN hu (by show scope.names.lookup y≠_;rw[kd];decide)]at z
      exact z
  ·rw[ar (by exact bS (by assumption))]at hN
   rw[ar (by simp;omega),cw]at h3
   simp only[aE,hl]at h3
   cases e:cv[i - ps.length]? with
   | none=>rw[e]at h3;cases h3
   | some a=>
     rw[e]at h3;cases h3
     have hf:=eg hN
     obtain⟨c,o,u,e1,e2,e3,e4⟩:=C.get hN e
     exact⟨u,e4,.inr ⟨.inr (S.free y hf),c,(iE (frc y hf)).trans e1,o,hk _ _ (e0.bs c o e2).1,e3⟩⟩
 ·rcases gQ h with e | ⟨_,e⟩
  ·exact⟨_,x.cell y c e⟩
  ·exact(oldc y c e).2.1
 ·rcases gQ h with e | ⟨_,e⟩
  ·exact e0.hok.fresh (aT (newc y c e).2)
  ·exact(oldc y c e).2.2
 ·show(vs.map some++cv.map some).length=(ps++fs).length
  simp[hl,C.len]
theorem GM{M:Mo}(h0:M.mkr=none){name qual:Str}{params:Arguments}{body:Expr}{scope:Scope}{cl:List (Str×Addr)}{pm ctv:Value}{c f:Addr}{oc:Obj}{ws:Array Value}{t:Tok}{ps fs:List Str}{k:Nat}{ml:ME}{od:Option Addr}{fc:Value}{fsl:Array (Option Value)}
  (hf:M.base.get? f=some ⟨fc,od,.func (kla_fn name qual params body scope cl pm (.ref c) ctv),fsl⟩) (hc:(c,oc)∈M.K.cds) (hoc:oc.data = .fields ws) (hq:ws[1]? = some (.str qual t))
  (S:kc ps fs scope) (C:kX M.base cl fs M.K.capv) (hcl: ∀y c,cl.lookup y=some c -> ∃o v,M.base.get? c=some o/\o.data = .cell v) (inj: ∀x y c,cl.lookup x=some c->cl.lookup y=some c->x=y)
  (hb: ∀X,Sc M X k (ps++fs) scope.names->PE X body (tM M.K ml)):
  gy M.P M.w M.K M.mg M.base CX0 (k+1) f (kla_fn name qual params body scope cl pm (.ref c) ctv) ps (spM M.K (rZ ps.length ml M.K.caps)):=by
 have len: ∀vs H Q E,spM M.K (rZ ps.length ml M.K.caps) vs H Q E->vs.length=ps.length:=λvs H Q E h=>by
  obtain⟨μ,S',us,u,S'',hr,rs,e,_⟩:=h
  unfold rZ at e
  split at e
  ·rename_i hl;rw[<- rs.len];exact hl
  ·cases e
 refine⟨len,λA outer s H args us vs Q E hr e0 hbd r hsp =>?_⟩
 have hl:=len _ _ _ _ hsp
 obtain⟨μ,S1,zs,u,S2,hR,rs,e,ka⟩:=hsp
 have hco:s.heap.get? c=some oc:=(e0.hok c _ (hR.ext.cds _ hc)).1
 have lim:s.heap.NoLimit:=e0.mod.nolimit.keeps λb o e=>(e0.bs b o e).1
 refine Ar hr.depth (e0.bs f _ hf).1 rfl S.co S.gen rfl ⟨c,oc,ws,t,rfl,hco,hoc,hq⟩ (hbd _ _ _ _ ?_)
 refine zd S.kind (λx hx=>S.par _ (jC hx).1) λs1 x=>⟨lim.keeps x.toInCall.keep,?_⟩
 show jY _ _ (.expr body (m8 qual scope s.heap.objs.size f (.ref c) cl)) _ _
 have I:=yN (qual:=qual) (f:=f) (cd:= .ref c) S hr.hd e0 hl r C hcl inj x
 have SS:Sc M (vw M.P M.w M.K M.mg M.base (ps++fs) qual scope f (.ref c) cl A outer s H) k (ps++fs) scope.names:=
  ⟨rfl,rfl,rfl,rfl,rfl,rfl,S.nd,rfl,λ_ h=>h,λy h=>⟨h,by show(scope.names.lookup y==some .cell)=true;rw[h];rfl⟩,λ_ h => .inr h,λ_ h=>h,hr.deeper _,kN,λc q h=>by rw[h0]at h;cases h⟩
 unfold rZ at e
 split at e
 rotate_left
 ·cases e
 have er:ER H μ (zs.map some++M.K.caps.map some) (vs.map some++M.K.capv.map some):=by
  have all:=rs.append hR.ext.cap
  refine⟨by simp[rs.len,hR.ext.cap.len],λi w hw =>?_⟩
  rw[<- bR,cw]at hw
  cases q:(zs++M.K.caps)[i]? with
  | none=>rw[q]at hw;cases hw
  | some w'=>
    rw[q]at hw;cases hw
    obtain⟨v,hv,rv⟩:=all.get q
    exact⟨v,by rw[<- bR,cw,hv];rfl,rv⟩
 refine As (bI (hb _ SS [] _ _ H Q I ⟨μ,S1,_,u,S2,hR,er,e,ka⟩) (λv s' hs =>?_) λe s' hs=>hs.elim)
 obtain⟨x,H',J,rv,q⟩:=hs
 exact⟨x,H',J.os,J.bare,J.base,J.hok,rv,q⟩
noncomputable def eT(cells:List (Str×Addr)):List (Str×NameKind)->List (Str×Addr)->List (Str×Addr)
 | [],acc=>acc
 | (y,k)::r,acc=>if k==.free then(match cells.lookup y with
   | some c=>eT cells r ((y,c)::acc)
   | none=>eT cells r acc) else eT cells r acc
theorem xx{env:Env}{scope:Scope}(h: ∀y∈scope.names,y.2 = .free -> ∃c,env.cells.lookup y.1=some c):closureFor scope env=pure (eT env.cells scope.names []):=by
 unfold closureFor
 have key: ∀(l:List (Str×NameKind)) (acc:List (Str×Addr)),(∀y∈l,y.2 = .free -> ∃c,env.cells.lookup y.1=some c) ->
   (forIn l acc λ(x:Str×NameKind) (r:List (Str×Addr))=>if (x.2==aN)=true then(do let a <- cellOf env x.1;pure (de ((x.1,a)::r))) else pure (de r):Sem _)=pure (eT env.cells l acc):=by
  intro l
  induction l with
  | nil=>intro acc _;rfl
  | cons y l ih=>
    intro acc hh
    rw[jE]
    unfold eT
    cases q:y.2==aN with
    | true=>
      obtain⟨c,hc⟩:=hh y aP (eq_of_beq q)
      have e:cellOf env y.1=pure c:=by unfold cellOf;rw[hc]
      simp only[if_true,e,pure_bind,hc]
      exact ih _ λz hz=>hh z (aw _ hz)
    | false=>
      simp only[gL,if_false,pure_bind]
      exact ih _ λz hz=>hh z (aw _ hz)
 have e:=key scope.names [] h
 show(forIn scope.names ([]:List (Str×Addr)) _ >>= λr=>pure r:Sem _)=_
 rw[bind_pure]
 refine Eq.trans ?_ e
 congr 1
theorem mB{cells:List (Str×Addr)}: ∀(l:List (Str×NameKind)) (acc:List (Str×Addr)) {y:Str}{c:Addr},(y,c)∈eT cells l acc->(y,c)∈acc\/(cells.lookup y=some c/\(y,aN)∈l)
 | [],acc,y,c,h => .inl h
 | (z,k)::l,acc,y,c,h=>by
   unfold eT at h
   split at h
   ·rename_i hk
    split at h
    ·rename_i d hd
     rcases mB l _ h with h |h
     ·rcases aX.mp h with e |h
      ·cases e;exact .inr ⟨hd,by rw[eq_of_beq hk];exact aP⟩
      ·exact .inl h
     ·exact .inr ⟨h.1,aw _ h.2⟩
    ·exact(mB l _ h).imp id λh=>⟨h.1,aw _ h.2⟩
   ·exact(mB l _ h).imp id λh=>⟨h.1,aw _ h.2⟩
theorem mn{cells:List (Str×Addr)}: ∀(l:List (Str×NameKind)) (acc:List (Str×Addr)) {y:Str}{c:Addr},(y,c)∈acc->(y,c)∈eT cells l acc
 | [],acc,y,c,h=>h
 | (z,k)::l,acc,y,c,h=>by
   unfold eT
   split
   ·split
    ·exact mn l _ (aw _ h)
    ·exact mn l _ h
   ·exact mn l _ h
theorem my{cells:List (Str×Addr)}: ∀(l:List (Str×NameKind)) (acc:List (Str×Addr)) {y:Str}{c:Addr},(y,aN)∈l->cells.lookup y=some c->(y,c)∈eT cells l acc
 | [],acc,y,c,h,_=>by simp at h
 | (z,k)::l,acc,y,c,h,hc=>by
   unfold eT
   rcases aX.mp h with e |h
   ·cases e
    simp only[beq_self_eq_true,if_true,hc]
    exact mn l _ aP
   ·split
    ·split
     ·exact my l _ h hc
     ·exact my l _ h hc
    ·exact my l _ h hc
theorem lookup_mem{α:Type}: ∀{l:List (Str×α)}{y:Str}{c:α},(y,c)∈l -> ∃d,l.lookup y=some d
 | [],y,c,h=>by simp at h
 | (z,d)::l,y,c,h=>by
   rw[aF]
   cases q:y==z with
   | true=>exact⟨d,rfl⟩
   | false=>
     rcases aX.mp h with e |h
     ·cases e;simp at q
     ·exact lookup_mem h
theorem kr{cells:List (Str×Addr)}{l:List (Str×NameKind)}{y:Str}{c:Addr}(h:(eT cells l []).lookup y=some c):cells.lookup y=some c/\(y,aN)∈l:=by
 rcases mB l [] (bM h) with h |h
 ·simp at h
 ·exact h
theorem zY{cells:List (Str×Addr)}{l:List (Str×NameKind)}{y:Str}{c:Addr}(h:(y,aN)∈l)(hc:cells.lookup y=some c):(eT cells l []).lookup y=some c:=by
 obtain⟨d,hd⟩:=lookup_mem (my l [] h hc)
 have:=(kr hd).1
 rw[hc]at this;cases this
 exact hd
end _G
end
section
namespace _G
open PySem PySem.Spec _L
open PySem.W (envX kla_fn kla_obj CodeHd tabObj)
open PyProof.Rows hiding St
theorem xg{pos:Pos}{a b:Int}{c cv:Value}(l:List Value)(h:TriplesOk l)(hc:codeAmong pos (l++[rawInt a,rawInt b,c])=some cv):codeAmong pos l=some cv\/cv=c:=by
 fun_induction TriplesOk l with
 | case1=>
   simp only[dG,rawInt,codeAmong]at hc
   split at hc
   ·cases hc;exact .inr rfl
   ·cases hc
 | case2 x t y u z rest ih=>
   simp only[List.cons_append,codeAmong]at hc ⊢
   split at hc
   ·rename_i q;rw[if_pos q];exact .inl hc
   ·rename_i q;rw[if_neg q];exact ih h hc
 | case3 l h1 h2=>exact h.elim
section
variable {K:KX}{H:Hp}{μ:List Addr}{S:Sto}
theorem HR.table{P c:Addr}{ps:Array Value}{oc:Obj}{ws:Array Value}{t:Tok}{a b:Int}{q:Str}(h:HR K μ S H)(hP:H P=some (.tbl ps))(hc:H c=none)(hoc:oc.data = .fields ws)(hq:ws[1]? = some (.str q t))(un: ∀r∈K.tabs,r.1=P->r.2=q):
  bf H (upd (upd H c (.frz oc fz)) P (.tbl (ps ++ #[rawInt a,rawInt b,.ref c])))/\HR K μ S (upd (upd H c (.frz oc fz)) P (.tbl (ps ++ #[rawInt a,rawInt b,.ref c]))):=by
 have stay: ∀x o,H x=some o->(∀ps,o≠.tbl ps)->upd (upd H c (.frz oc fz)) P (.tbl (ps ++ #[rawInt a,rawInt b,.ref c])) x=some o:=λx o e n=>by
  rw[aZ (og e hP (n ps)),aZ (aW e hc)];exact e
 have kp:bf H (upd (upd H c (.frz oc fz)) P (.tbl (ps ++ #[rawInt a,rawInt b,.ref c]))):=⟨λx vs e=>stay x _ e (λ_ z=>nomatch z),λx o u e=>stay x _ e (λ_ z=>nomatch z)⟩
 have fr: ∀x o u,H x=some (.frz o u)->upd (upd H c (.frz oc fz)) P (.tbl (ps ++ #[rawInt a,rawInt b,.ref c])) x=some (.frz o u):=λx o u e=>stay x _ e λ_ z=>by cases z
 have hcP:c≠P:=(aW hP hc).symm
 refine⟨kp,h.len,h.inj,λm d x q1 q2=>(h.cell m d x q1 q2).mono kp (Pre.refl _) (λhd =>?_) λo u e=>fr x o u e,RUs.mono kp (Pre.refl _) _ _ h.ext.cap,λr hr=>fr _ _ _ (h.ext.cds r hr),λr hr =>?_⟩
 ·obtain⟨o,e,_,_,nb⟩:=(h.cell m d x q1 q2).has hd
  rw[stay x o e nb,e]
 ·obtain⟨ps',e,tr,al⟩:=h.ext.tab r hr
  by_cases hr':r.1=P
  ·rw[hr',hP]at e
   cases e
   refine⟨ps ++ #[rawInt a,rawInt b,.ref c],by rw[hr',cq],by rw[CY];exact TriplesOk_snoc _ _ _ _ tr,λpos cv hcv =>?_⟩
   rw[CY]at hcv
   rcases xg _ tr hcv with z |z
   ·obtain⟨d,od,vs,t',e1,e2,e3,e4⟩:=al pos cv z
    exact⟨d,od,vs,t',e1,fr _ _ _ e2,e3,e4⟩
   ·exact⟨c,oc,ws,t,z,by rw[aZ hcP,cq],hoc,by rw[un r hr hr'];exact hq⟩
  ·refine⟨ps',by rw[aZ hr',aZ (aW e hc)];exact e,tr,λpos cv hcv =>?_⟩
   obtain⟨d,od,vs,t',e1,e2,e3,e4⟩:=al pos cv hcv
   exact⟨d,od,vs,t',e1,fr _ _ _ e2,e3,e4⟩
end
section
variable {X:Cx}{pins:List (Addr×Obj)}{σ:St}{H:Hp}{s:Shared}
theorem zz{P c:Addr}{ps more:Array Value}{oc ob:Obj}{h':Heap}{tk:Nat}(I:Inv X pins σ H s)(hP:H P=some (.tbl ps))(hx:CU P s.heap h')(hge:s.heap.objs.size<=c)(hc:h'.get? c=some oc)(htb:h'.get? P=some (tabObj (ps++more))):
  Inv X pins σ (upd (upd H c (.frz oc fz)) P (.tbl (ps++more))) { s with heap:=h'.push ob,toks:=tk }:=by
 have hcn:H c=none:=I.hok.fresh hge
 have kp: ∀b o,b≠P->s.heap.get? b=some o->(h'.push ob).get? b=some o:=λb o n e=>av _ (hx b o n e)
 have nP: ∀b,H b=none->b≠P:=λb n z=>by rw[z,hP]at n;cases n
 have stay: ∀x o,H x=some o->(∀ps,o≠.tbl ps)->upd (upd H c (.frz oc fz)) P (.tbl (ps++more)) x=some o:=λx o e n=>by
  rw[aZ (og e hP (n ps)),aZ (aW e hcn)];exact e
 refine I.step (g':=s.gens) (d':=s.drawn) (ch:= []) (λ_ z=>nomatch z) (λb o _ _ _ e n=>kp b o (nP b n) e) (λb o _ _ _ e n=>⟨o.slots,kp b o (nP b n) e⟩)
  (λb o _ e n=>by rw[aZ (nP b n),aZ (br (ai (aG e) hge))];exact n) (λb o _ e =>?_) (λb xs e=>stay b _ e λ_ z=>by cases z) (λb o u e=>stay b _ e λ_ z=>by cases z)
  (λb qs e =>?_) (λm hm =>?_) (λb u e =>?_) I.bare
 ·by_cases hb:b=P
  ·exact⟨_,by rw[hb];exact av _ htb⟩
  ·exact⟨o,kp b o hb e⟩
 ·by_cases hb:b=P
  ·rw[hb,hP]at e
   cases e
   exact⟨more,by rw[hb,cq]⟩
  ·exact⟨#[],by rw[aZ hb,aZ (aW e hcn),e];simp⟩
 ·exact(hm.extBut hx (nP _ I.free)).push _
 ·by_cases hb:b=P
  ·rw[hb,cq]at e
   cases e
   rw[hb]
   exact av _ htb
  ·rw[aZ hb]at e
   by_cases hbc:b=c
   ·rw[hbc,cq]at e
    cases e
    rw[hbc]
    exact⟨av _ hc,trivial,⟨_,av _ hc⟩,λ_ _ _ _=>trivial⟩
   ·rw[aZ hbc]at e
    refine(I.hok b u e).stay (λd v hd q=>kp d v ?_ q) (λd q=>stay d _ q λ_ z=>by cases z) λd xs q=>stay d _ q λ_ z=>by cases z
    rcases hd with z |z
    ·rw[z];exact hb
    ·exact og z hP (by intro z;cases z)
noncomputable def baseOf(h:Heap)(H:Hp)(fr:List Addr):Heap:=bO (nk h H) fr
theorem fW{h:Heap}{H:Hp}{fr:List Addr}{b:Addr}{o:Obj}(e:h.get? b=some o)(n:H b=none)(hf:b∉fr):(baseOf h H fr).get? b=some o:=et _ (lY e n) hf
theorem Ag{h:Heap}{H:Hp}{fr:List Addr}{b:Addr}{o:Obj}(e:(baseOf h H fr).get? b=some o):h.get? b=some o/\H b=none:=uy (jU fr e)
theorem wq(I:Inv X pins σ H s): ∀b o,X.base.get? b=some o->(baseOf s.heap H (frs X.stack)).get? b=some o:=λb o e=>
 fW (I.bs b o e).1 (I.bs b o e).2 λz=>by
  have:=(I.stack.mem z).1
  rw[e]at this;cases this
theorem zH(I:Inv X pins σ H s):sk X.prog X.w X.K X.mg (baseOf s.heap H (frs X.stack)) X.A X.stack s H:=by
 have k:=wq I
 obtain⟨m1,m2,⟨mb,m3,m4⟩,m5⟩:=I.ok.mod
 refine⟨I.ok.frames,⟨m1.keeps k,m2.keeps k,⟨mb,m3.keeps k,m4⟩,m5.keeps k⟩,λb o e=>Ag e,by rw[baseOf,Ap,oG];exact ak _,?_,I.stkFree,I.hok,I.bare⟩
 have all: ∀l:List Env,(∀b∈frs l,b∈frs X.stack)->s.heap.FunFrames X.base l->s.heap.FunFrames (baseOf s.heap H (frs X.stack)) l:=by
  intro l
  induction l with
  | nil=>intro _ _;trivial
  | cons env r ih=>
    intro hs hl
    obtain⟨hk,⟨L,o,hf,hn,ho,hd⟩,hr⟩:=hl
    have hL:L∈frs X.stack:=hs L (by unfold frs;rw[dI,hf];exact aP)
    exact⟨hk,⟨L,o,hf,fE _ hL,ho,hd⟩,ih (λb hb=>hs b (by unfold frs;rw[dI,hf];exact aw _ hb)) hr⟩
 exact all X.stack (λ_ h=>h) I.stack
end
end _G
end
section
namespace _G
open PySem PySem.Spec _L
open PySem.W (envX kla_fn kla_obj CodeHd tabObj)
open PyProof.Rows hiding St
noncomputable def fD (mg:Str->Option Value) (base:Heap):Prop := ∃ bm ob,mg "__builtins__"=some (.ref bm)/\bm≠builtinsNs/\base.get? bm=some ob/\ob.cls = .type "module"/\ob.dict=some builtinsNs/\ob.data = .plain
theorem fD.keeps{mg:Str->Option Value}{b b':Heap}(h:fD mg b)(k: ∀a o,b.get? a=some o->b'.get? a=some o):fD mg b':=
 let ⟨bm,ob,e1,e2,e3,r⟩:=h;⟨bm,ob,e1,e2,k _ _ e3,r⟩
structure Mkr(M:Mo)(c P:Addr)(q:Str):Prop where
 hd: ∀h:Heap,M.K.K.In h->CodeHd h c P
 bl:fD M.mg M.base
 gP:mainGlobals≠P
 mem:(P,q)∈M.K.tabs
 un: ∀r∈M.K.tabs,r.1=P->r.2=q
noncomputable def KX.to(K:KX)(caps:List U)(capv:List V)(cds:List (Addr×Obj)):KX:=⟨K.K,caps,capv,cds,K.tabs⟩
noncomputable def Mo.to(M:Mo)(caps:List U)(capv:List V)(cds:List (Addr×Obj))(base:Heap):Mo:=⟨M.P,M.w,M.K.to caps capv cds,M.mg,base,none⟩
structure FnC(M:Mo)(x:Str)(k:Nat)(ps:List Str)(F:Addr->MF->MF):Prop where
 ex: ∃(f:Addr) (fd:FuncData),M.mg x=some (.ref f)/\bP M.K (.ref f)=true/\Binds M.K fd ps [] /\
  ∀(caps:List U) (capv:List V) (cds:List (Addr×Obj)) (base:Heap) (g:Addr) (j:Nat) (lps:List Str) (φ:MF),fD M.mg base->k<=j->Lam (M.to caps capv cds base) g j lps φ ->
   gy M.P M.w M.K M.mg base CX0 (j+1) f fd ps (spM (M.K.to caps capv cds) (F g φ))
noncomputable def uw(p:Arguments):Bool:=p.posonlyargs.isEmpty&&(p.vararg.isNone&&(p.kwonlyargs.isEmpty&&(p.kw_defaults.isEmpty&&(p.kwarg.isNone&&p.defaults.isEmpty))))
theorem xn{p:Arguments}(h:uw p=true):p=⟨[],p.args,none,[],[],none,[]⟩:=by
 obtain⟨a,b,c,d,e,f,g⟩:=p
 unfold uw at h
 simp only[ao,tQ,Option.isNone_iff_eq_none]at h
 obtain⟨rfl,rfl,rfl,rfl,rfl,rfl⟩:=h
 rfl
section
variable {M:Mo}{X:Cx}{k:Nat}{N:List Str}{ns:List (Str×NameKind)}{pins:List (Addr×Obj)}{σ:St}{H:Hp}{s:Shared}
theorem vt(S:Sc M X k N ns)(I:Inv X pins σ H s){y:Str}{c:Addr}(hy:ns.lookup y=some .cell)(hc:X.env.cells.lookup y=some c):c∉frs X.stack:=λz=>by
 have fn:=(S.cel y hy).2
 rcases aX.mp (I.stkSub c z) with e |hb
 ·exact I.cne y c hc e
 ·obtain⟨_,o,ho,_⟩:=I.ok.funs.mem hb
  exact absurd (ai (aG ho) (I.ok.cab y c fn hc)) (bN _)
theorem yI(S:Sc M X k N ns)(I:Inv X pins σ H s){μ:List Addr}{ρ:Rho}(er:ER H μ ρ σ){names:List (Str×NameKind)}: ∀{fs:List Str}{is:List Nat}{cs:List U},(∀y∈fs,ns.lookup y=some .cell/\(y,aN)∈names) ->
  d5 (λy=>N.findIdx? (· == y)) fs=some is->gO is ρ=some cs -> ∃cv,RUs H μ cs cv/\kX (baseOf s.heap H (frs X.stack)) (eT X.env.cells names []) fs cv
 | [],is,cs,_,h1,h2=>by cases h1;cases h2;exact⟨[],.nil,trivial⟩
 | y::fs,is,cs,hf,h1,h2=>by
   unfold d5 at h1
   cases e1:N.findIdx? (· == y) with
   | none=>rw[e1]at h1;cases h1
   | some i=>
     rw[e1]at h1
     simp only[ax]at h1
     cases e2:d5 (λy=>N.findIdx? (· == y)) fs with
     | none=>rw[e2]at h1;cases h1
     | some is'=>
       rw[e2]at h1;cases h1
       unfold gO d5 at h2
       cases e3:(ρ[i]?).bind id with
       | none=>rw[e3]at h2;cases h2
       | some u=>
         rw[e3]at h2
         simp only[ax]at h2
         cases e4:d5 (λi=>(ρ[i]?).bind id) is' with
         | none=>rw[e4]at h2;cases h2
         | some cs'=>
           rw[e4]at h2;cases h2
           obtain⟨cv,r1,r2⟩:=yI S I er (λz hz=>hf z (aw _ hz)) e2 (show gO is' ρ=some cs' from e4)
           have hρ:ρ[i]? = some (some u):=by
            cases q:ρ[i]? with
            | none=>rw[q]at e3;cases e3
            | some o=>rw[q]at e3;cases o with
              | none=>cases e3
              | some w=>cases e3;rfl
           obtain⟨v,hσ,rv⟩:=er.get i u hρ
           obtain⟨hi,hy,_⟩:=d6.mp e1
           have hN:X.N[i]? = some y:=by rw[S.hN,bG hi,eq_of_beq hy]
           obtain⟨m,hn,hl⟩:=I.loc
           have hcl:=(S.cel y (hf y aP).1).1
           obtain⟨w,rw',l⟩:=hl i y v hN hσ (.inr (.inl hcl))
           rcases l with⟨hk,_⟩ | ⟨_,c,hc,o,ho,hd⟩
           ·have hk':X.env.scope.names.lookup y=some .local:=hk
            rw[hcl]at hk';cases hk'
           ·refine⟨v::cv,.cons rv r1,⟨c,o,w,zY (hf y aP).2 hc,?_,hd,rw'⟩,r2⟩
            exact fW ho (I.freeC y c hc) (vt S I (hf y aP).1 hc)
end
end _G
end
section
namespace _G
open PySem PySem.Spec _L
open PyProof.Rows hiding St
noncomputable def Trc(e T:Addr)(cls:Value)(h:Heap):Prop:= ∃(oe:Obj) (vs:Array Value) (a0:Value) (oT:Obj) (ts:Array Value),h.get? e=some oe/\(oe.cls=cls/\vs[0]? = some a0)/\oe.data = .fields vs/\vs[1]? = some (.ref T)/\T≠e/\h.get? T=some oT/\oT.data = .fields ts/\ts[3]? = some .none
noncomputable def CX1(P:Program)(w:World):CXT:=λouter H s E ev s' =>∃(e T:Addr) (cls:Value) (H':Hp),ev = .ref e/\s'.os=s.os/\AllBare s'.gens/\Un (frs outer) [] H H' s.heap s'.heap/\HOk P w H' s'.heap/\Trc e T cls s'.heap/\s.heap.get? e=none/\s.heap.get? T=none/\H' e=none/\H' T=none/\E cls none H'
theorem Trc.of{base h:Heap}{e:Addr}{cls a0:Value}(t:h.TracedW base e cls a0): ∃T,Trc e T cls h/\base.get? T=none:=by
 obtain⟨oe,vs,T,oT,ts,h1,h2,h3,h4,h5,h6,h7,h8,h9⟩:=t
 exact⟨T,⟨oe,vs,a0,oT,ts,h1,h2,h3,h4,h6,h7,h8,h9⟩,h5⟩
theorem Trc.to{base h:Heap}{e T:Addr}{cls:Value}(t:Trc e T cls h)(hT:base.get? T=none): ∃a0,h.TracedW base e cls a0:=by
 obtain⟨oe,vs,a0,oT,ts,h1,h2,h3,h4,h6,h7,h8,h9⟩:=t
 exact⟨a0,oe,vs,T,oT,ts,h1,h2,h3,h4,hT,h6,h7,h8,h9⟩
theorem eZ.has{P:Program}{w:World}{H:Hp}{h:Heap}{a:Addr}{o:HO}(x:eZ P w H h a o): ∃u,h.get? a=some u:=by
 cases o with
 | lst xs=>obtain⟨_,_,_,_,e⟩:=x;exact⟨_,e⟩
 | tup xs=>obtain⟨_,_,_,_,o,e,_⟩:=x;exact⟨_,e⟩
 | dK kvs=>obtain⟨_,_,_,_,o,_,_,e,_⟩:=x;exact⟨_,e⟩
 | dT kvs=>obtain⟨_,_,_,_,o,_,_,e,_⟩:=x;exact⟨_,e⟩
 | set S n=>obtain⟨o,_,_,_,e,_⟩:=x;exact⟨_,e⟩
 | ins C dx fs=>obtain⟨_,_,_,e,_⟩:=x;exact⟨_,e⟩
 | own y=>obtain⟨_,e⟩:=x;exact⟨_,e⟩
 | xd fs=>obtain⟨_,⟨_,_,_,e,_⟩,_⟩:=x;exact⟨_,e⟩
 | rng lo hi=>obtain⟨_,_,_,e⟩:=x;exact⟨_,e⟩
 | frz ob u=>obtain⟨e,_⟩:=x;exact⟨_,e⟩
 | tbl ps=>exact⟨_,(show h.get? a=some _ from x)⟩
 | met f y=>exact⟨_,(show h.get? a=some _ from x)⟩
 | ext φ=>obtain⟨_,e,_⟩:=x;exact e
theorem HOk.none_of{P:Program}{w:World}{H:Hp}{h:Heap}{a:Addr}(x:HOk P w H h)(e:h.get? a=none):H a=none:=by
 cases q:H a with
 | none=>rfl
 | some o=>
   obtain⟨u,hu⟩:=eZ.has (x a o q)
   rw[e]at hu;cases hu
theorem oI{h g base:Heap}{S:List Addr}: ∀{l:List Env},(∀b∈frs l,b∈S)->h.FunFrames base l->h.FunFrames (bO g S) l
 | [],_,_=>trivial
 | env::r,hs,⟨hk,⟨L,o,hf,hn,ho,hd⟩,hr⟩=>by
   have hL:L∈S:=hs L (by unfold frs;rw[dI,hf];exact aP)
   exact⟨hk,⟨L,o,hf,fE _ hL,ho,hd⟩,oI (λb hb=>hs b (by unfold frs;rw[dI,hf];exact aw _ hb)) hr⟩
structure Left(fs:List Addr)(e T:Addr)(h h':Heap):Prop where
 keep: ∀b o,b∉fs->b≠e->b≠T->h.get? b=some o->h'.get? b=some o
 slot: ∀b o,b∈fs->h.get? b=some o -> ∃sl,h'.get? b=some { o with slots:=sl }
theorem Left.un{fs:List Addr}{e T:Addr}{H H':Hp}{h h1 h2:Heap}(l:Left fs e T h1 h2)(u:Un fs [] H H' h h1)(he:h.get? e=none)(hT:h.get? T=none):Un fs [] H H' h h2 where
 keep:=λb o q n hb hx=>l.keep b o hb (λz=>by rw[z,he]at q;cases q) (λz=>by rw[z,hT]at q;cases q) (u.keep b o q n hb hx)
 slot:=λb o q n hb hx=>by
  obtain⟨sl,e1⟩:=u.slot b o q n hb hx
  obtain⟨sl',e2⟩:=l.slot b _ hb e1
  exact⟨sl',e2⟩
 free:=λb o q n hx=>u.free b o q n hx
 there:=λb o q hx=>by
  obtain⟨o',e1⟩:=u.there b o q hx
  by_cases hb:b∈fs
  ·obtain⟨sl,e2⟩:=l.slot b _ hb e1
   exact⟨_,e2⟩
  ·exact⟨o',l.keep b o' hb (λz=>by rw[z,he]at q;cases q) (λz=>by rw[z,hT]at q;cases q) e1⟩
 tups:=u.tups
 frzs:=u.frzs
 tbls:=u.tbls
theorem Left.hok{P:Program}{w:World}{fs:List Addr}{e T:Addr}{H:Hp}{h h':Heap}(l:Left fs e T h h')(x:HOk P w H h)(hf: ∀b∈fs,H b=none)(he:H e=none)(hT:H T=none):HOk P w H h':=λa o q=>by
 refine(x a o q).stay (λb u hb e1 =>?_) (λ_ z=>z) λ_ _ z=>z
 have key: ∃o,H b=some o:=by
  rcases hb with rfl |z
  ·exact⟨_,q⟩
  ·exact⟨_,z⟩
 obtain⟨ob,key⟩:=key
 exact l.keep b u (λz=>by rw[hf b z]at key;cases key) (λz=>by rw[z,he]at key;cases key) (λz=>by rw[z,hT]at key;cases key) e1
section
variable {X:Cx}{pins:List (Addr×Obj)}{σ:St}{H H':Hp}{s s':Shared}
theorem flying{e T:Addr}{cls:Value}(I:Inv X pins σ H' s')(t:Trc e T cls s'.heap): ∃a0,mV (bO s'.heap (e::T::frs X.stack)) X.stack e cls a0 s'.heap:=by
 obtain⟨a0,z⟩:=t.to (base:=bO s'.heap (e::T::frs X.stack)) (fE _ (aw _ aP))
 exact⟨a0,λb o q=>jU _ q,fE _ aP,oI (λb hb=>aw _ (aw _ hb)) I.stack,z⟩
theorem uQ{e T:Addr}{h2:Heap}(I:Inv X pins σ H' s')(k:(bO s'.heap (e::T::frs X.stack)).StaysIn h2)(sl:s'.heap.UpToSlots h2):Left (frs X.stack) e T s'.heap h2:=by
 refine⟨λb o hb he hT q=>k b o (et _ q λz =>?_),λb o hb q =>?_⟩
 ·rcases aX.mp z with z |z
  ·exact he z
  ·rcases aX.mp z with z |z
   ·exact hT z
   ·exact hb z
 ·obtain⟨_,o',ho,hd⟩:=I.stack.mem hb
  rw[q]at ho;cases ho
  exact sl b o q hd
theorem Eu{e T T2:Addr}{cls:Value}{h2:Heap}(I:Inv X pins σ H' s')(t2:Trc e T2 cls h2)(hn:(bO s'.heap (e::T::frs X.stack)).get? T2=none)(sl:s'.heap.UpToSlots h2):T2=T\/s'.heap.get? T2=none:=by
 cases q:s'.heap.get? T2 with
 | none=>exact .inr rfl
 | some o=>
   left
   obtain⟨oe,vs,a0,oT,ts,h1,h2',h3,h4,h6,h7,h8,h9⟩:=t2
   by_cases hm:T2∈e::T::frs X.stack
   ·rcases aX.mp hm with z |z
    ·exact absurd z h6
    ·rcases aX.mp z with z |z
     ·exact z
     ·obtain⟨_,o',ho,hd⟩:=I.stack.mem z
      obtain⟨sl',e2⟩:=sl T2 o' ho hd
      rw[h7]at e2;cases e2
      exact absurd h8 (hd ts)
   ·rw[et _ q hm]at hn;cases hn
theorem AX{e T:Addr}{cls:Value}{E:XK}(hex:X.ex = [])(I:Inv X pins σ H s)(os:s'.os=s.os)(hg:AllBare s'.gens)(un:Un (frs X.stack) [] H H' s.heap s'.heap)(hok:HOk X.prog X.w H' s'.heap)(t:Trc e T cls s'.heap)(he:s.heap.get? e=none)(hT:s.heap.get? T=none)(ne:H' e=none)(nT:H' T=none)(q:E cls none H'):
  CX1 X.prog X.w X.outer X.H₀ X.s₀ E (.ref e) s':=by
 have I2:Inv X pins σ H' s':=I.call' os un hok hg λb z=>nomatch z
 have old: ∀a,s.heap.get? a=none->X.s₀.heap.get? a=none:=λa ha=>by
  cases q:X.s₀.heap.get? a with
  | none=>rfl
  | some o=>
    obtain⟨o',e1⟩:=I.base.there a o q (by rw[hex];simp)
    rw[ha]at e1;cases e1
 have b:=I2.base
 rw[hex]at b
 exact⟨e,T,cls,H',rfl,os.trans I.os,hg,b,hok,t,old e he,old T hT,ne,nT,q⟩
structure Lv(X:Cx)(E:XK):Prop where
 stk:X.stack=X.env::X.outer
 fr:X.env.frame=some X.env.locals
 ex:X.ex = []
 xe:X.xe=λe s'=>aR (model X.prog X.w) X.A (leaving X.env e) (λ_ s''=>CX1 X.prog X.w X.outer X.H₀ X.s₀ E e s'') (λe' s''=>CX1 X.prog X.w X.outer X.H₀ X.s₀ E e' s'') s'
theorem Lv.pass{E:XK}(L:Lv X E):rk (CX1 X.prog X.w) X E:=by
 rintro pins σ H s ev s' I ⟨e,T,cls,H',rfl,os,hg,un,hok,t,he,hT,ne,nT,q⟩
 have I1:Inv X pins σ H' s':=I.call' os un hok hg λb z=>nomatch z
 rw[L.xe]
 obtain⟨a0,fl⟩:=flying I1 t
 have fl':=fl
 rw[show mV (bO s'.heap (e::T::frs X.stack)) X.stack e cls a0 s'.heap=mV (bO s'.heap (e::T::frs X.stack)) (X.env::X.outer) e cls a0 s'.heap by rw[<- L.stk]]at fl'
 refine wpAny_leaves_onW (by rw[I.ok.frames,L.stk]) L.fr fl' λh2 fl2 sl =>?_
 obtain⟨f1,f2,f3,f4⟩:=fl2
 obtain⟨T2,t2,hn2⟩:=Trc.of f4
 have lf:=uQ I1 f1 sl
 have new:=Eu I1 t2 hn2 sl
 refine AX (s':={ s' with heap:=h2 }) L.ex I os hg (lf.un un he hT) (lf.hok hok I1.stkFree ne nT) t2 he ?_ ne ?_ q
 ·rcases new with z |z
  ·rw[z];exact hT
  ·cases q:s.heap.get? T2 with
   | none=>rfl
   | some o=>
     obtain⟨o',e1⟩:=un.there T2 o q (by simp)
     rw[z]at e1;cases e1
 ·rcases new with z |z
  ·rw[z];exact nT
  ·exact HOk.none_of hok z
theorem Lv.made{E:XK}{C:Addr}{args:List Value}{e:Addr}{h1:Heap}(L:Lv X E)(I:Inv X pins σ H s)(hx:Heap.MadeExcOf s.heap h1 e (.ref C) args)(q:E (.ref C) none H):X.xe (.ref e) { s with heap:=h1 }:=by
 rw[L.xe]
 have fs:s.heap.FunFrames (bO s.heap (frs X.stack)) (X.env::X.outer):=by
  have:=oI (g:=s.heap) (S:=frs X.stack) (λb hb=>hb) I.stack
  rwa[show s.heap.FunFrames (bO s.heap (frs X.stack)) X.stack=s.heap.FunFrames (bO s.heap (frs X.stack)) (X.env::X.outer) by rw[<- L.stk]]at this
 refine wpAny_leaves_madeW (s:={ s with heap:=h1 }) (base:=bO s.heap (frs X.stack)) (h:=s.heap) (by rw[I.ok.frames,L.stk]) L.fr (λb o q=>jU _ q) fs hx λh2 t fl2 _ _ sl =>?_
 obtain⟨f1,f2,f3,f4⟩:=fl2
 obtain⟨T2,t2,hn2⟩:=Trc.of f4
 have sl':s.heap.UpToSlots h2:=λb o q nf=>sl b o (hx.keeps b o q) nf
 have slt: ∀b o,b∈frs X.stack->s.heap.get? b=some o -> ∃sl,h2.get? b=some { o with slots:=sl }:=λb o hb q=>by
  obtain⟨_,o',ho,hd⟩:=I.stack.mem hb
  rw[q]at ho;cases ho
  exact sl' b o q hd
 have lf:Left (frs X.stack) e e s.heap h2:=⟨λb o hb _ _ q=>f1 b o (et _ q hb),slt⟩
 have ne:H e=none:=HOk.none_of I.hok hx.new
 have hT:s.heap.get? T2=none:=by
  cases q:s.heap.get? T2 with
  | none=>rfl
  | some o=>
    by_cases hm:T2∈frs X.stack
    ·obtain⟨_,o',ho,hd⟩:=I.stack.mem hm
     obtain⟨sl'',e2⟩:=sl' T2 o' ho hd
     obtain⟨oe,vs,a0,oT,ts,h1,h2',h3,h4,h6,h7,h8,h9⟩:=t2
     rw[h7]at e2;cases e2
     exact absurd h8 (hd ts)
    ·rw[et _ q hm]at hn2;cases hn2
 exact AX (s':={ s with heap:=h2 }) L.ex I rfl I.bare (lf.un Un.refl hx.new hx.new) (lf.hok I.hok I.stkFree ne ne) t2 hx.new hT ne (HOk.none_of I.hok hT) q
end
end _G
end
section
namespace _G
open PySem PySem.Spec _L
open PySem.W (envX kla_fn kla_obj CodeHd tabObj)
open PyProof.Rows hiding St
section
abbrev MX:=Rho->Sto->Option (Nat×Sto)
abbrev RF:=List U->Sto->Option (Nat×Sto)
noncomputable def xFn(r:RF)(a:MA):MX:=λρ S=>bnd (a ρ S) λus S1=>r us S1
noncomputable def ui(np:Nat)(r:MX)(cs:List U):RF:=λus S=>if us.length=np then r (us.map some++cs.map some) S else none
noncomputable def kL(b:Nat->Bool)(is:List Nat):Cell:= .lst (is.map λi => .bl (b i))
noncomputable def gc(b:Nat->Bool):Sto:= [kL b [0,1,2],kL b [3,4,5],kL b [0,1,2,3,4,5,6]]
noncomputable def bQ(q:Nat)(j:Nat):Bool:=decide (q=j)||decide (j=7)
noncomputable def Ah(rz:List Nat)(φ:MF)(ψ:RF)(S:Sto):Res U:=match φ [] S with
 | some r=>some (.non,r.2++gc λ_=>false)
 | none=>match ψ [] S with
   | some r=>if r.1∈rz then some (.ref (r.2.length+3),r.2++(gc (bQ r.1)++[.lst [.int r.1]])) else none
   | none=>none
noncomputable def Al(rz:List Nat)(g:Addr)(φ:MF)(ψ:RF):MF:=λus S=>match us with
 | [.obj a]=>if a=g then Ah rz φ ψ S else none
 | _=>none
noncomputable def eU(rz:List Nat)(is:List Nat)(ml:ME)(rl:MX):ME:=λρ S=>(gO is ρ).bind λcs=>Ah rz (rZ 0 ml cs) (ui 0 rl cs) S
end
noncomputable def Bq(cl:Nat->Addr)(K:KX)(μ:List Addr)(H:Hp)(C:Nat)(S':Sto)(E:XK):Prop:= ∀μ' H',Pre μ μ'->bf H H'->HR K μ' S' H'->E (.ref (cl C)) none H'
noncomputable def tX(cl:Nat->Addr)(K:KX)(r:MX)(E:XK)(σ:St)(H:Hp):Prop:= ∃μ S ρ C S',HR K μ S H/\ER H μ ρ σ/\r ρ S=some (C,S')/\Bq cl K μ H C S' E
noncomputable def tXE(cl:Nat->Addr)(K:KX)(r:MX)(E:XK):TE:=λσ H _=>tX cl K r E σ H
noncomputable def tXA(cl:Nat->Addr)(K:KX)(r:MX)(E:XK):TA:=λσ H _=>tX cl K r E σ H
noncomputable def tXS(cl:Nat->Addr)(K:KX)(r:MX)(E:XK):TS:=λ_ σ H=>tX cl K r E σ H
noncomputable def spX(cl:Nat->Addr)(K:KX)(r:RF):Sp:=λvs H _ E =>∃μ S us C S',HR K μ S H/\RUs H μ us vs/\r us S=some (C,S')/\Bq cl K μ H C S' E
theorem Bq.mono{cl:Nat->Addr}{K:KX}{μ μ1:List Addr}{H H1:Hp}{C:Nat}{S':Sto}{E:XK}(a:Bq cl K μ H C S' E)(p:Pre μ μ1)(k:bf H H1):Bq cl K μ1 H1 C S' E:=λμ' H' p' k'=>a μ' H' (p.trans p') (k.trans k')
abbrev vE:List Value := [.type "ValueError",.type "Exception",.type "BaseException",.type "object"]
structure FnX(M:Mo)(cl:Nat->Addr)(x:Str)(k:Nat)(ps:List Str)(r:RF):Prop where
 ex: ∃(f:Addr) (fd:FuncData),M.mg x=some (.ref f)/\bP M.K (.ref f)=true/\Binds M.K fd ps []/\gy M.P M.w M.K M.mg M.base (CX1 M.P M.w) k f fd ps (spX cl M.K r)
theorem _root_._L.PA.nox{X:Cx}{es:List Expr}{t:TA}(h:PA X.nox es t):PA X es t:=λpos pins s σ H Q I hw=>
 bI (h pos pins s σ H Q (I.wish _) hw) (λus s' ⟨vs,H',J,r,q⟩=>⟨vs,H',J.unwish,r,q⟩) λ_ _ z=>z.elim
theorem _root_._L.PS.nox{X:Cx}{st:Stmt}{t:TS}(h:PS X.nox st t):PS X st t:=λpins s σ H D I hw=>
 bI (h pins s σ H D (I.wish _) hw) (λf s' hs=>SP.unwish hs) λ_ _ z=>z.elim
theorem PE.never{X:Cx}{e:Expr}:PE X e λ_ _ _=>False:=λ_ _ _ _ _ _ h=>h.elim
theorem PSs.never{X:Cx}{e:List Stmt}:PSs X e λ_ _ _=>False:=λ_ _ _ _ _ _ h=>h.elim
structure u6(M:Mo)(cl:Nat->Addr)(f:Addr)(k:Nat)(ps:List Str)(r:RF):Prop where
 ex: ∃fd:FuncData,((∃(oc:Value) (od:Option Addr) (sl:Array (Option Value)),M.base.get? f=some ⟨oc,od,.func fd,sl⟩)\/bP M.K (.ref f)=true)/\Binds M.K fd ps []/\gy M.P M.w M.K M.mg M.base (CX1 M.P M.w) k f fd ps (spX cl M.K r)
theorem Dm{M:Mo}{cl:Nat->Addr}(h0:M.mkr=none){name qual:Str}{params:Arguments}{body:Expr}{scope:Scope}{cl':List (Str×Addr)}{pm ctv:Value}{c f:Addr}{oc:Obj}{ws:Array Value}{t:Tok}{ps fs:List Str}{k:Nat}{ml:MX}{od:Option Addr}{fc:Value}{fsl:Array (Option Value)}
  (hf:M.base.get? f=some ⟨fc,od,.func (kla_fn name qual params body scope cl' pm (.ref c) ctv),fsl⟩) (hc:(c,oc)∈M.K.cds) (hoc:oc.data = .fields ws) (hq:ws[1]? = some (.str qual t))
  (S:kc ps fs scope) (C:kX M.base cl' fs M.K.capv) (hcl: ∀y c,cl'.lookup y=some c -> ∃o v,M.base.get? c=some o/\o.data = .cell v) (inj: ∀x y c,cl'.lookup x=some c->cl'.lookup y=some c->x=y)
  (hb: ∀X E,Lv X E->Sc M X.nox k (ps++fs) scope.names->PE X body (tXE cl M.K ml E)):
  gy M.P M.w M.K M.mg M.base (CX1 M.P M.w) (k+1) f (kla_fn name qual params body scope cl' pm (.ref c) ctv) ps (spX cl M.K (ui ps.length ml M.K.caps)):=by
 have len: ∀vs H Q E,spX cl M.K (ui ps.length ml M.K.caps) vs H Q E->vs.length=ps.length:=λvs H Q E h=>by
  obtain⟨μ,S',us,u,S'',hr,rs,e,_⟩:=h
  unfold ui at e
  split at e
  ·rename_i hl;rw[<- rs.len];exact hl
  ·cases e
 refine⟨len,λA outer s H args us vs Q E hr e0 hbd r hsp =>?_⟩
 have hl:=len _ _ _ _ hsp
 obtain⟨μ,S1,zs,u,S2,hR,rs,e,ka⟩:=hsp
 have hco:s.heap.get? c=some oc:=(e0.hok c _ (hR.ext.cds _ hc)).1
 have lim:s.heap.NoLimit:=e0.mod.nolimit.keeps λb o e=>(e0.bs b o e).1
 refine Ar hr.depth (e0.bs f _ hf).1 rfl S.co S.gen rfl ⟨c,oc,ws,t,rfl,hco,hoc,hq⟩ (hbd _ _ _ _ ?_)
 refine zd S.kind (λx hx=>S.par _ (jC hx).1) λs1 x=>⟨lim.keeps x.toInCall.keep,?_⟩
 show jY _ _ (.expr body (m8 qual scope s.heap.objs.size f (.ref c) cl')) _ _
 have I:=yN (qual:=qual) (f:=f) (cd:= .ref c) S hr.hd e0 hl r C hcl inj x
 have SS:Sc M (vw M.P M.w M.K M.mg M.base (ps++fs) qual scope f (.ref c) cl' A outer s H) k (ps++fs) scope.names:=
  ⟨rfl,rfl,rfl,rfl,rfl,rfl,S.nd,rfl,λ_ h=>h,λy h=>⟨h,by show(scope.names.lookup y==some .cell)=true;rw[h];rfl⟩,λ_ h => .inr h,λ_ h=>h,hr.deeper _,kN,λc q h=>by rw[h0]at h;cases h⟩
 unfold ui at e
 split at e
 rotate_left
 ·cases e
 have er:ER H μ (zs.map some++M.K.caps.map some) (vs.map some++M.K.capv.map some):=by
  have all:=rs.append hR.ext.cap
  refine⟨by simp[rs.len,hR.ext.cap.len],λi w hw =>?_⟩
  rw[<- bR,cw]at hw
  cases q:(zs++M.K.caps)[i]? with
  | none=>rw[q]at hw;cases hw
  | some w'=>
    rw[q]at hw;cases hw
    obtain⟨v,hv,rv⟩:=all.get q
    exact⟨v,by rw[<- bR,cw,hv];rfl,rv⟩
 let X1:Cx:=(vw M.P M.w M.K M.mg M.base (ps++fs) qual scope f (.ref c) cl' A outer s H).wish λe s'=>aR (model M.P M.w) (A.deeper (m8 qual scope s.heap.objs.size f (.ref c) cl')) (leaving (m8 qual scope s.heap.objs.size f (.ref c) cl') e) (λ_ s''=>CX1 M.P M.w outer H s E e s'') (λe' s''=>CX1 M.P M.w outer H s E e' s'') s'
 refine As (bI (hb X1 E ⟨rfl,rfl,rfl,rfl⟩ SS [] _ _ H (λ_ _=>False) (I.wish _) ⟨μ,S1,_,u,S2,hR,er,e,ka⟩) (λv s' hs =>?_) λe s' hs=>hs)
 obtain⟨x,H',J,rv,q⟩:=hs
 exact q.elim
structure FnR(M:Mo)(cl:Nat->Addr)(x:Str)(k:Nat)(rz:List Nat):Prop where
 ex : ∃ (f:Addr) (fd:FuncData),M.mg x=some (.ref f)/\bP M.K (.ref f)=true/\Binds M.K fd ["call"] [] /\
  ∀(caps:List U) (capv:List V) (cds:List (Addr×Obj)) (base:Heap) (g:Addr) (j:Nat) (φ:MF) (ψ:RF),fD M.mg base->k<=j->Lam (M.to caps capv cds base) g j [] φ->u6 (M.to caps capv cds base) cl g j [] ψ ->
   gy M.P M.w M.K M.mg base CX0 (j+1) f fd ["call"] (spM (M.K.to caps capv cds) (Al rz g φ ψ))
theorem u6.imp{M:Mo}{cl:Nat->Addr}{f:Addr}{k:Nat}{ps:List Str}{r r':RF}(L:u6 M cl f k ps r)(h: ∀us S q,r' us S=some q->r us S=some q):u6 M cl f k ps r':=by
 obtain⟨fd,a,b,F⟩:=L.ex
 refine⟨fd,a,b,F.imp λvs H Q E =>?_⟩
 rintro ⟨μ,S,us,C,S',h1,h2,h3,h4⟩
 exact⟨μ,S,us,C,S',h1,h2,h _ _ _ h3,h4⟩
noncomputable def vj:Arguments:=⟨[],[],none,[],[],none,[]⟩
theorem qy{K:ah}{name qual:Str}{body:Expr}{scope:Scope}{cl:List (Str×Addr)}{pm cdv ct:Value}:Binds K (kla_fn name qual vj body scope cl pm cdv ct) [] []:= .all λus hl=>by
 match us,hl with
 | [],_=>rfl
section
variable {M:Mo}{X:Cx}{k:Nat}{N:List Str}{ns:List (Str×NameKind)}{pins:List (Addr×Obj)}{σ:St}{H:Hp}{s:Shared}{cl:Nat->Addr}{rz:List Nat}
theorem Co{f0:Addr}{fd0:FuncData}{fs:List Str}{is:List Nat}{k' j:Nat}{ml:ME}{rl:MX}{body:Expr}{scope:Scope}{qual:Str}{pm ctv:Value}{c' f:Addr}{oc:Obj}{ws:Array Value}{t:Tok}
  {μ:List Addr}{S1 S':Sto}{ρ:Rho}{u:U}{cs:List U}{Q:VK}
  (S:Sc M X k N ns) (hB:fD M.mg M.base) (hj:k'<=j+1) (hk:j+2<=k) (hbd:Binds M.K fd0 ["call"] [])
  (FF : ∀ (caps:List U) (capv:List V) (cds:List (Addr×Obj)) (base:Heap) (g:Addr) (j:Nat) (φ:MF) (ψ:RF),fD M.mg base->k'<=j->Lam (M.to caps capv cds base) g j [] φ->u6 (M.to caps capv cds base) cl g j [] ψ->gy M.P M.w M.K M.mg base CX0 (j+1) f0 fd0 ["call"] (spM (M.K.to caps capv cds) (Al rz g φ ψ)))
  (LS:kc [] fs scope) (hfs: ∀y∈fs,ns.lookup y=some .cell/\(y,aN)∈scope.names) (his:d5 (λy=>N.findIdx? (· == y)) fs=some is)
  (hb: ∀(caps:List U) (capv:List V) (cds:List (Addr×Obj)) (base:Heap),fD M.mg base -> ∀(X':Cx),Sc (M.to caps capv cds base) X' j ([]++fs) scope.names->PE X' body (tM (M.K.to caps capv cds) ml))
  (hx: ∀(caps:List U) (capv:List V) (cds:List (Addr×Obj)) (base:Heap),fD M.mg base -> ∀(X':Cx) (E:XK),Lv X' E->Sc (M.to caps capv cds base) X'.nox j ([]++fs) scope.names->PE X' body (tXE cl (M.K.to caps capv cds) rl E))
  (I:Inv X pins σ H s) (hr:HR M.K μ S1 H) (er:ER H μ ρ σ) (hcs:gO is ρ=some cs) (spec:Ah rz (rZ 0 ml cs) (ui 0 rl cs) S1=some (u,S')) (aft:Aft M.K μ H u S' Q)
  (hf:s.heap.get? f=some (kla_obj "<lambda>" qual vj body scope (eT X.env.cells scope.names []) pm c' ctv)) (hfn:H f=none) (hff:f∉frs X.stack) (hc:H c'=some (.frz oc fz)) (hoc:oc.data = .fields ws) (hq:ws[1]? = some (.str qual t)) :
  aR (model X.prog X.w) X.A (call (.ref f0) [.ref f]) (EP X pins σ Q) X.xe s:=by
 obtain⟨cv,rc,C⟩:=yI S I er hfs his hcs
 have hB':fD M.mg (baseOf s.heap H (frs X.stack)):=hB.keeps λa o e=>wq I a o (by rw[S.hb];exact e)
 have hcl: ∀y c,(eT X.env.cells scope.names []).lookup y=some c -> ∃o v,(baseOf s.heap H (frs X.stack)).get? c=some o/\o.data = .cell v:=λy c e=>by
  obtain⟨e1,e2⟩:=kr e
  obtain⟨v,o,ho,hd⟩:=I.cell y c e1
  exact⟨o,v,fW ho (I.freeC y c e1) (vt S I (hfs y (LS.fre _ e2 rfl)).1 e1),hd⟩
 have inj: ∀y z c,(eT X.env.cells scope.names []).lookup y=some c->(eT X.env.cells scope.names []).lookup z=some c->y=z:=λy z c e1 e2=>I.ok.inj y z c (kr e1).1 (kr e2).1
 have lam:Lam (M.to cs cv (M.K.cds++[(c',oc)]) (baseOf s.heap H (frs X.stack))) f (j+1) [] (rZ 0 ml cs):=
  ⟨_,.inl ⟨_,_,_,fW hf hfn hff⟩,qy,GM (M:=M.to cs cv (M.K.cds++[(c',oc)]) (baseOf s.heap H (frs X.stack))) rfl (fW hf hfn hff) (aL _ aP) hoc hq LS C hcl inj (hb _ _ _ _ hB')⟩
 have lamx:u6 (M.to cs cv (M.K.cds++[(c',oc)]) (baseOf s.heap H (frs X.stack))) cl f (j+1) [] (ui 0 rl cs):=
  ⟨_,.inl ⟨_,_,_,fW hf hfn hff⟩,qy,Dm (M:=M.to cs cv (M.K.cds++[(c',oc)]) (baseOf s.heap H (frs X.stack))) rfl (fW hf hfn hff) (aL _ aP) hoc hq LS C hcl inj (hx _ _ _ _ hB')⟩
 have FO:=FF _ _ _ _ f (j+1) _ _ hB' hj lam lamx
 rw[<- S.hP,<- S.hw,<- S.hK,<- S.hm]at FO
 have hr':HR (M.K.to cs cv (M.K.cds++[(c',oc)])) μ S1 H:=⟨hr.len,hr.inj,hr.cell,rc,λq hq=>by
  rcases bZ.mp hq with z |z
  ·exact hr.ext.cds q z
  ·have e:q=(c',oc):=by simpa using z
   rw[e];exact hc,hr.ext.tab⟩
 have hsp:spM (M.K.to cs cv (M.K.cds++[(c',oc)])) (Al rz f (rZ 0 ml cs) (ui 0 rl cs)) [.ref f] H Q E0:=by
  refine⟨μ,S1,[.obj f],u,S',hr',.cons (by simp only[RU]) .nil,(if_pos rfl).trans spec,λμ' v H' p' k' hr2 ru2 =>?_⟩
  exact aft μ' v H' p' k' ⟨hr2.len,hr2.inj,hr2.cell,RUs.mono k' p' _ _ hr.ext.cap,λq hq=>hr2.ext.cds q (bc _ hq),hr2.ext.tab⟩ ru2
 rw[<- S.hK]at hbd
 refine wpAny_call (gK (FO.run X.A X.stack s H ⟨[.ref f],[]⟩ [.ref f] [.ref f] Q E0 (S.room.mono hk) (zH I) (hbd s _ I.kIn rfl) (.cons rfl .nil) hsp) λr s' hq =>?_)
 cases r with
 | error e=>exact hq.elim
 | ok fl=>
   cases fl with
   | ret u=>exact I.after hq
   | next=>exact bC hq
   | brk=>exact bC hq
   | cont=>exact bC hq
theorem Ep{fs:List Str}{is:List Nat}{k' j:Nat}{ml:ME}{rl:MX}{g q:Str}{c P:Addr}{body:Expr}{scope:Scope}{p1 lp pos:Pos}
  (S:Sc M X k N ns) (FC:FnR M cl g k' rz) (hj:k'<=j+1) (hk:j+2<=k) (hmk:M.mkr=some (c,q)) (MK:Mkr M c P (q++"<lambda>"))
  (hg:dF ns g=true) (hgd:(g == ("__debug__":Str))=false)
  (LS:kc [] fs scope) (hfs: ∀y∈fs,ns.lookup y=some .cell/\(y,aN)∈scope.names) (his:d5 (λy=>N.findIdx? (· == y)) fs=some is)
  (hb: ∀(caps:List U) (capv:List V) (cds:List (Addr×Obj)) (base:Heap),fD M.mg base -> ∀(X':Cx),Sc (M.to caps capv cds base) X' j ([]++fs) scope.names->PE X' body (tM (M.K.to caps capv cds) ml))
  (hx: ∀(caps:List U) (capv:List V) (cds:List (Addr×Obj)) (base:Heap),fD M.mg base -> ∀(X':Cx) (E:XK),Lv X' E->Sc (M.to caps capv cds base) X'.nox j ([]++fs) scope.names->PE X' body (tXE cl (M.K.to caps capv cds) rl E)):
  PE X (.Call (.Name g p1) [.Lambda vj body scope lp] [] pos) (tM M.K (eU rz is ml rl)):=by
 intro pins s σ H Q I h
 obtain⟨μ,S1,ρ,u,S',hr1,er,qm,aft⟩:=h
 unfold eU at qm
 cases hcs:gO is ρ with
 | none=>rw[hcs]at qm;cases qm
 | some cs=>
 rw[hcs]at qm
 simp only[ax]at qm
 obtain⟨f0,fd0,hm,hkp,hbd,FF⟩:=FC.ex
 rw[<- S.hK]at hkp
 refine dB (jw I (S.gl hg) (by rw[S.hm];exact hm) ?_ hgd)
 refine oZ (h₀:=X.base) I.ok.mod.kin hkp ?_ rfl rfl
 obtain⟨hcode,hqual⟩:=S.cod c q hmk
 obtain⟨ps0,hP,tr,al⟩:=hr1.ext.tab _ MK.mem
 have hPh:s.heap.get? P=some (tabObj ps0):=I.hok P _ hP
 have kin:M.K.K.In s.heap:=by have:=I.kIn;rwa[S.hK]at this
 have C:CodeHd s.heap c P:=MK.hd _ kin
 have hgl:s.heap.Ns mainGlobals X.mg:=I.mod.glob.keeps I.bk
 obtain⟨bm,ob,b1,b2,b5,b6,b7,b8⟩:=MK.bl
 have b5':s.heap.get? bm=some ob:=I.bk bm ob (by rw[S.hb];exact b5)
 have b3:bm≠mainGlobals:=λz=>by
  obtain⟨o,es,ep,e,hd,_⟩:=hgl
  rw[<- z,b5']at e;cases e;rw[b8]at hd;cases hd
 have b4:bm≠P:=λz=>by
  rw[z,hPh]at b5';cases b5';cases b8
 have BA:s.heap.BuiltinsAt X.mg P:=⟨bm,ob,by rw[S.hm];exact b1,b2,b3,b4,b5',b6,b7,b8⟩
 have hclo:closureFor scope X.env=pure (eT X.env.cells scope.names []):=xx λy hy hyf=>I.ok.has y.1 (.inl (S.cel y.1 (hfs y.1 (LS.fre y hy hyf)).1).1)
 show aR _ _ (spliced [(false,eval (.Lambda vj body scope lp) X.env)]) _ _ s
 refine eN (PySem.W.kla_eval rfl ?_)
 have fin: ∀(H2:Hp) (s2:Shared) (c' f:Addr) (ctv:Value) (oc:Obj) (ws:Array Value) (t:Tok),Inv X pins σ H2 s2->bf H H2->HR M.K μ S1 H2 ->
   s2.heap.get? f=some (kla_obj "<lambda>" (X.env.qual++"<lambda>") vj body scope (eT X.env.cells scope.names []) ((X.mg "__name__").getD .none) c' ctv)->H2 f=none->s.heap.objs.size<=f->H2 c'=some (.frz oc fz)->oc.data = .fields ws->ws[1]? = some (.str (q++"<lambda>") t) ->
   aR (model X.prog X.w) X.A (spliced []) (λvs s₂=>X.K.In s₂.heap/\aR (model X.prog X.w) X.A (call (.ref f0) ([]++(bH f::vs))) (EP X pins σ Q) X.xe s₂) X.xe s2:=by
  intro H2 s2 c' f ctv oc ws t I2 kp2 hr2 hf hfn hfs' hc hoc hq
  have hff:f∉frs X.stack:=λz=>by
   obtain⟨_,o,ho,_⟩:=I.stack.mem z
   exact absurd (ai (aG ho) hfs') (bN _)
  rw[<- hqual]at hq
  exact iy ⟨I2.kIn,Co S MK.bl hj hk hbd FF LS hfs his hb hx I2 hr2 (er.mono kp2 (Pre.refl _)) hcs qm (aft.mono (Pre.refl _) kp2) hf hfn hff hc hoc hq⟩
 cases ham:codeAmong lp ps0.toList with
 | none=>
   refine PySem.W.kla_makeFunction (mg:=X.mg) hclo I.ok.glob hgl hcode C hPh tr ham MK.gP BA λc' ctv h' tk hx hge hlt hrec htb =>?_
   obtain⟨c2,oc,ws,t,e,hoc,hd,hq'⟩:=hrec
   cases e
   have I2:=zz (ob:=kla_obj "<lambda>" (X.env.qual++"<lambda>") vj body scope (eT X.env.cells scope.names []) ((X.mg "__name__").getD .none) c' ctv) (tk:=tk) I hP hx hge hoc htb
   rw[hqual]at hq'
   obtain⟨kp2,hr2⟩:=hr1.table (a:=(lp.line:Int)) (b:=(lp.col:Int)) hP (I.hok.fresh hge) hd hq' MK.un
   have hsz:s.heap.objs.size<=h'.objs.size:=aB hge (aT hlt)
   refine fin _ _ c' h'.objs.size ctv oc ws t I2 kp2 hr2 (aH _ rfl) ?_ hsz ?_ hd hq'
   ·rw[aZ (di (aG htb)),aZ (di hlt)]
    exact I.hok.fresh hsz
   ·rw[aZ (aW hP (I.hok.fresh hge)).symm,cq]
 | some cv=>
   obtain⟨c',oc,ws,t,rfl,hfr,hd,hq'⟩:=al lp cv ham
   refine PySem.W.kla_makeFunctionHit (mg:=X.mg) hclo I.ok.glob hgl hcode C hPh tr ham BA λctv h' tk hk hsz =>?_
   have I2:=I.kept (t':=tk) (h':=h'.push (kla_obj "<lambda>" (X.env.qual++"<lambda>") vj body scope (eT X.env.cells scope.names []) ((X.mg "__name__").getD .none) c' ctv)) (fun b o e=>av _ (hk b o e))
   exact fin H _ c' h'.objs.size ctv oc ws t I2 (bf.refl _) hr1 (aH _ rfl) (I.hok.fresh hsz) hsz hfr hd hq'
end
end _G
end
section
namespace _G
open PySem PySem.Spec _L
open PySem.W (envX fnX fnMade CodeHd tabObj)
open PyProof.Rows hiding St
section
noncomputable def fin:Option (Fl×Rho×Sto)->Res U
 | some (.rt u,_,S1)=>some (u,S1)
 | some (.nx,_,S1)=>some (.non,S1)
 | _=>none
end
theorem Inv.more{X:Cx}{pins:List (Addr×Obj)}{σ:St}{H:Hp}{s:Shared}(ls:List Str)(I:Inv X pins σ H s):Inv { X with N:=X.N++ls } pins (σ++aq ls.length none) H s:=by
 refine⟨⟨I.ok.mod,I.ok.kind,I.ok.glob,I.ok.blt,I.ok.above,I.ok.inj,I.ok.has,I.ok.cab,I.ok.hd,I.ok.frames,I.ok.stk,I.ok.exf,I.ok.bs,I.ok.bsz,I.ok.noex,I.ok.exfs,I.ok.funs,I.ok.frf⟩,I.os,I.bare,I.base,?_,I.cell,I.free,I.freeC,I.pin,I.hok,?_⟩
 ·obtain⟨m,hm,hl⟩:=I.loc
  refine⟨m,hm,λi x v e1 e2 e3 =>?_⟩
  have hi:i<σ.length:=by
   by_cases hi:i<σ.length
   ·exact hi
   ·rw[ar (by omega),eF]at e2
    split at e2 <;> cases e2
  rw[aQ hi]at e2
  have e1':(X.N++ls)[i]? = some x:=e1
  rw[aQ (by rw[<- I.len];exact hi)]at e1'
  exact hl i x v e1' e2 e3
 ·show(σ++aq ls.length none).length=(X.N++ls).length
  simp[I.len]
section
noncomputable def sml(i:Int):Prop:= -(2 ^ 64)<i/\i<2 ^ 64
noncomputable instance(i:Int):Decidable (sml i):=bJ _
end
section
variable {M:Mo}{X:Cx}{k:Nat}{N:List Str}{ns:List (Str×NameKind)}
end
section
variable {M:Mo}{X:Cx}{k:Nat}{N:List Str}{ns:List (Str×NameKind)}{pins:List (Addr×Obj)}{σ:St}{H:Hp}{s:Shared}
end
end _G
end
section
namespace _G
open PySem PySem.Spec _L
open PyProof.Rows hiding St
section
abbrev NS:=List (Str×NameKind)
structure Zt where
 R:List (Str×RF)
 F:List (Str×List Nat)
 cl:Nat->Addr
 nm:Str
noncomputable def Zt.to(z:Zt)(nm:Str):Zt:=⟨z.R,z.F,z.cl,nm⟩
structure Tb where
 D:List (Str×MF)
 C:List (Str×U)
 L:List (Str×Addr×MF)
 H:List (Str×(Addr->MF->MF))
 mkr:Bool
 Z:Zt
noncomputable def Tb.bare(T:Tb):Tb:=⟨T.D,T.C,[],T.H,false,T.Z⟩
noncomputable def frees(sc:Scope):List Str:=(sc.names.filter λy=>y.2==.free).map (·.1)
noncomputable def xO(ps:List Str)(sc:Scope)(ns:NS):Bool:=
 sc.kind==.function && !sc.isCoroutine && !sc.isGenerator&&decide ((ps++frees sc).Nodup)&&ps.all (λp=>sc.names.lookup p==some .local||sc.names.lookup p==some .cell)&&sc.names.all (λy => !(y.2==.cell)||sc.names.lookup y.1==some .cell)&&(frees sc).all λy=>sc.names.lookup y==some .free&&ns.lookup y==some .cell
noncomputable def notStar:Expr->Bool
 | .Starred _ _=>false
 | _=>true
noncomputable def iN:Expr->Bool
 | .ListComp _ _ _ _=>false
 | .SetComp _ _ _ _=>false
 | .DictComp _ _ _ _ _=>false
 | _=>true
noncomputable def jS:Expr->Bool
 | .Set _ _ _=>false
 | _=>true
noncomputable def j4:Expr->Bool
 | .Slice _ _ _ _=>false
 | _=>true
noncomputable def baseOk:Expr->Bool
 | .Call (.Name _ _) [] [] _=>false
 | _=>true
noncomputable def plainT:Expr->Bool
 | .Name _ _=>true
 | .Call _ _ _ _=>true
 | .Subscript _ _ _=>true
 | .Constant _ _ _=>true
 | _=>false
noncomputable def dummy(N:List Str):Str:=⟨#[N.length+1]⟩
noncomputable def wt(N:List Str)(x:Str):List Str:=(N.map λy=>if y==x then dummy N else y)++[x]
noncomputable def bw (x:Str):Bool := !(x == ("__debug__":Str)) && !(x == ("__classdict__":Str))
noncomputable def slot(N:List Str)(x:Str):Option Nat:=N.findIdx? (· == x)
noncomputable def Hy(g:Str):Option MF:=
 if g == ("len":Str) then some cg else if g == ("tuple":Str) then some cD
 else if g == ("max":Str) then some vz else if g == ("min":Str) then some pD
 else if g == ("sorted":Str) then some gY    else none
noncomputable def i5:List Str := ["len","tuple","list","max","min","range","isinstance","bool","int","str","dict","all","any","sorted","reversed","zip","enumerate","set","sum","repr"]
noncomputable def Gw:Operator->Option F2
 | .Add=>some cU
 | .Sub=>some uM
 | .Mult=>some ed
 | .FloorDiv=>some oDiv
 | .Mod=>some oMod
 | .Pow=>some tY
 | _=>none
noncomputable def DS:CmpOp->Option F2
 | .Lt=>some oLt
 | .LtE=>some oLe
 | .Gt=>some oGt
 | .GtE=>some oGe
 | .Eq=>some oEq
 | .NotEq=>some oNe
 | .In=>some oIn
 | .IsNot=>some m6
 | _=>none
noncomputable def sNo:MS:=λ_ _=>none
noncomputable def JO:MS:=λρ S=>some (.bk,ρ,S)
noncomputable def IT:MS:=λρ S=>some (.ct,ρ,S)
noncomputable def Ce(name:Str)(ma:ME)(mas:MA):Option ME:=
 if name == ("append":Str) then some (mML b0 ma mas) else if name == ("pop":Str) then some (mML jJ ma mas)
 else if name == ("index":Str) then some (mMT gE ma mas)
  else none
set_option genInjectivity false in
structure Rc where
 e:Tb->List Str->NS->Expr->Option ME
 c:Tb->List Str->NS->Str->List Expr->Option ME
 v:Tb->List Str->NS->Str->List Expr->Option ME
 o:Tb->List Str->NS->Option Expr->Option (Option ME)
 t:Tb->List Str->NS->Expr->Option MT
 l:Tb->List Str->NS->Bool->List Expr->Option MT
 f:Tb->List Str->NS->List Expr->Option MT
 a:Tb->List Str->NS->List Expr->Option MA
 i:Tb->List Str->NS->Expr->Option MI
 g:Tb->List Str->NS->Expr->Option MG
 gs:Tb->List Str->NS->List Expr->Option MGs
 s:Tb->List Str->NS->Stmt->Option MS
 b:Tb->List Str->NS->List Stmt->Option MS
section
variable (R:Rc) (T:Tb) (N:List Str) (ns:NS)
noncomputable def KH:Const->Option ME
 | .int i=>some (mC (.int i))
 | .bool b=>some (mC (.bl b))
 | .none=>some (mC .non)
 | .str x=>some (mC (.str x))
 | _=>none
noncomputable def eUn(a:Expr):UnaryOp->Option ME
 | .USub=>(R.e T N ns a).map (m1 xM)
 | .Not=>(R.e T N ns a).map (m1 Dz)
 | _=>none
noncomputable def eBo(op:BoolOp)(p:Pos):List Expr->Option ME
 | []=>none
 | [a]=>R.e T N ns a
 | a::b::r=>(R.e T N ns a).bind λma=>match op with
   | .And=>(R.e T N ns (.BoolOp .And (b::r) p)).map (FW ma)
   | .Or=>(R.e T N ns (.BoolOp .Or (b::r) p)).map (mOr ma)
noncomputable def eCm(a:Expr):List CmpOp->List Expr->Option ME
 | [op],[b]=>if jS b then(R.e T N ns a).bind λma=>(R.e T N ns b).bind λmb=>(DS op).map λf=>m2 f ma mb else none
 | _,_=>none
noncomputable def eSl(a:Expr)(lo hi:Option Expr):Option Expr->Option ME
 | none=>(R.e T N ns a).bind λma=>(R.o T N ns lo).bind λml=>(R.o T N ns hi).map (mSl ma ml)
 | some _=>none
noncomputable def eSb(a:Expr):Expr->Option ME
 | .Slice lo hi st _=>eSl R T N ns a lo hi st
 | b=>if j4 b then(R.e T N ns a).bind λma=>(R.e T N ns b).map (m2 oIx ma) else none
noncomputable def eLn(elt it:Expr)(ifs:List Expr)(scope:Scope)(x:Str):Option ME:=
 (R.i T N ns it).bind λmi=>(R.f T (wt N x) scope.names ifs).bind λmt=>(R.e T (wt N x) scope.names elt).map (dg mi mt)
noncomputable def eLt(elt it:Expr)(ifs:List Expr)(scope:Scope):Expr->Option ME
 | .Name x _=>if scope.kind==.function&&kq N (wt N x) ns scope.names x&&jS it then eLn R T N ns elt it ifs scope x else none
 | _=>none
noncomputable def eLc(elt:Expr)(scope:Scope):List Comprehension->Option ME
 | [c]=>if c.is_async=0 then eLt R T N ns elt c.iter c.ifs scope c.target else none
 | _=>none
noncomputable def E7(fs:List Str)(nms:NS):Expr->Option MX
 | .Call (.Name f _) (a::as) [] _=>if dF nms f&&bw f then(T.Z.R.lookup f).bind λrf=>(R.a T.bare fs nms (a::as)).map (xFn rf) else none
 | _=>none
noncomputable def Cp(p:Arguments):Bool:=uw p&&p.args.isEmpty
noncomputable def B3(g:Str)(p:Arguments)(b:Expr)(sc:Scope):Option ME:=
 if T.mkr&&T.Z.nm == ("<lambda>":Str)&&Cp p&&xO [] sc ns then (d5 (fun y=>N.findIdx? (· == y)) (frees sc)).bind fun is=>(R.e T.bare ([]++frees sc) sc.names b).bind fun ml=>(E7 R T ([]++frees sc) sc.names b).bind fun rl=>(T.Z.F.lookup g).map fun rz=>eU rz is ml rl else none
noncomputable def eRg(g:Str):List Expr->Option ME
 | [a]=>if g == ("list":Str) then none else none
 | [a,b]=>if g == ("list":Str) then (R.a T N ns [a,b]).map fun m=>jL (iR2 m) else (R.a T N ns [a,b]).map fun m=>qL (iR2 m)
 | _=>none
noncomputable def eC1(g:Str):Expr->Option ME
 | .Lambda p b sc _=>B3 R T N ns g p b sc
 | .Call (.Name r q) rs [] rp=>if (g == ("list":Str)||g == ("tuple":Str))&&r == ("range":Str) then (if dF ns r then eRg R T N ns g rs else none) else R.c T N ns g [.Call (.Name r q) rs [] rp]
 | a=>R.c T N ns g [a]
noncomputable def eIs(g t:Str)(tp:Pos)(a:Expr):Option ME:=
 if g == ("isinstance":Str) then none else R.c T N ns g [a,.Name t tp]
noncomputable def eC2(g:Str)(a:Expr):Expr->Option ME
 | .Name t tp=>eIs R T N ns g t tp a
 | .Lambda _ _ _ _=>none
 | b=>R.c T N ns g [a,b]
noncomputable def eCf(g:Str):List Expr->Option ME
 | []=>(T.D.lookup g).map λmf=>mFn mf ag
 | [a]=>eC1 R T N ns g a
 | [a,b]=>eC2 R T N ns g a b
 | a::b::c::r=>R.c T N ns g (a::b::c::r)
noncomputable def eMe(o:Expr)(name:Str)(p q:Pos):List Expr->Option ME
 | []=>none
 | [a]=>if baseOk o&&(p.endLine==q.line)&&notStar a then(R.e T N ns o).bind λmo=>(R.a T N ns [a]).bind (Ce name mo) else none
 | _=>none
noncomputable def eCa(as:List Expr)(q:Pos):Expr->Option ME
 | .Name g _=>if dF ns g&&bw g then eCf R T N ns g as else R.v T N ns g as
 | .Attribute o name p=>eMe R T N ns o name p q as
 | _=>none
end
noncomputable def sE(R:Rc)(T:Tb):List Str->NS->Expr->Option ME:=λN ns e=>match e with
  | .Name x _=>if bw x then(if lu ns x then(slot N x).map ae else if dF ns x then(T.C.lookup x).map mC else none) else none
  | .Constant c _ _=>KH c
  | .BinOp a op b _=>(R.e T N ns a).bind λma=>(R.e T N ns b).bind λmb=>(Gw op).map λf=>m2 f ma mb
  | .UnaryOp op a _=>eUn R T N ns a op
  | .BoolOp op vs p=>eBo R T N ns op p vs
  | .Compare a ops bs _=>eCm R T N ns a ops bs
  | .IfExp c a b _=>(R.t T N ns c).bind λmc=>(R.e T N ns a).bind λma=>(R.e T N ns b).map (EB mc ma)
  | .Subscript a b _=>eSb R T N ns a b
  | .Tuple es _ _=>(R.a T N ns es).map jI
  | .List es _=>(R.a T N ns es).map bU
  | .ListComp elt gens scope _=>eLc R T N ns elt scope gens
  | .Call f as kws q=>if kws.isEmpty then eCa R T N ns as q f else none
  | _=>none
noncomputable def sC(R:Rc)(T:Tb):List Str->NS->Str->List Expr->Option ME:=λN ns g as=>(R.a T N ns as).bind λmas=>match Hy g with
  | some mf=>some (mFn mf mas)
  | none=>(T.D.lookup g).map λmf=>mFn mf mas
noncomputable def sV(R:Rc)(T:Tb):List Str->NS->Str->List Expr->Option ME:=λN ns g as=>match as with
 | []=>none
 | a::as=>if lu ns g&&bw g then(T.L.lookup g).bind λq=>(slot N g).bind λi=>(R.a T N ns (a::as)).map (AN i q.1 q.2) else none
noncomputable def sO(R:Rc)(T:Tb):List Str->NS->Option Expr->Option (Option ME):=λN ns o=>match o with
  | none=>some none
  | some e=>(R.e T N ns e).map some
noncomputable def sT(R:Rc)(T:Tb):List Str->NS->Expr->Option MT:=λN ns e=>match e with
  | .UnaryOp .Not a _=>(R.t T N ns a).map ya
  | .BoolOp .And vs _=>R.l T N ns true vs
  | .BoolOp .Or vs _=>R.l T N ns false vs
  | .Compare a ops bs _=>(eCm R T N ns a ops bs).map cOf
  | e=>if plainT e then(R.e T N ns e).map cOf else none
noncomputable def sL(R:Rc)(T:Tb):List Str->NS->Bool->List Expr->Option MT:=λN ns b vs=>match vs with
  | []=>none
  | [a]=>R.t T N ns a
  | a::r=>(R.t T N ns a).bind λma=>(R.l T N ns b r).map λmr=>if b then jH ma mr else cOr ma mr
noncomputable def sF(R:Rc)(T:Tb):List Str->NS->List Expr->Option MT:=λN ns ifs=>match ifs with
  | []=>some cTT
  | [c]=>R.t T N ns c
  | _=>none
noncomputable def sA(R:Rc)(T:Tb):List Str->NS->List Expr->Option MA:=λN ns es=>match es with
  | []=>some ag
  | e::r=>if notStar e then(R.e T N ns e).bind λm=>(R.a T N ns r).map (aa m) else none
noncomputable def sI(R:Rc)(T:Tb):List Str->NS->Expr->Option MI:=λN ns e=>match e with
  | .Call (.Name g q) as [] p=>
    if g == ("range":Str) then
     if dF ns g then match as with
      | [a]=>(R.a T N ns [a]).map iR1
      | [a,b]=>(R.a T N ns [a,b]).map iR2
      | _=>none
     else none
    else(R.e T N ns (.Call (.Name g q) as [] p)).map eK
  | e=>(R.e T N ns e).map eK
noncomputable def sG(R:Rc)(T:Tb):List Str->NS->Expr->Option MG:=λN ns e=>match e with
  | .Name x _=>if lG ns x then(slot N x).map gN else none
  | .Tuple es _ _=>(R.gs T N ns es).map (gTp es.length)
  | _=>none
noncomputable def sGs(R:Rc)(T:Tb):List Str->NS->List Expr->Option MGs:=λN ns es=>match es with
  | []=>some sN
  | e::r=>if notStar e then(R.g T N ns e).bind λg=>(R.gs T N ns r).map (iD g) else none
noncomputable def eIt(R:Rc)(T:Tb)(N:List Str)(ns:NS)(e:Expr):Option MI:=match e with
  | e=>(R.e T N ns e).map eK
noncomputable def GJ(R:Rc)(T:Tb)(N:List Str)(ns:NS)(y:Str)(elt it:Expr)(ifs:List Expr)(scope:Scope):Expr->Option MS
 | .Name x _=>
   if lG ns y&&(scope.kind==.function&&kq N (wt N x) ns scope.names x&&jS it) then
    (slot N y).bind λi=>(R.i T N ns it).bind λmi=>(R.f T (wt N x) scope.names ifs).bind λmt=>(R.e T (wt N x) scope.names elt).map λme=>bV i (dg mi mt me)
   else none
 | _=>none
noncomputable def Lj(R:Rc)(T:Tb)(N:List Str)(ns:NS)(y:Str)(elt:Expr)(scope:Scope):List Comprehension->Option MS
 | [c]=>if c.is_async=0 then GJ R T N ns y elt c.iter c.ifs scope c.target else none
 | _=>none
noncomputable def Iv(R:Rc)(T:Tb)(N:List Str)(ns:NS)(x:Str):Expr->Option MS
 | .ListComp elt gens scope _=>Lj R T N ns x elt scope gens
 | e=>if lG ns x&&iN e then(slot N x).bind λi=>(R.e T N ns e).map (bV i) else none
noncomputable def HZ(R:Rc)(T:Tb)(N:List Str)(ns:NS)(e:Expr):Expr->Option MS
  | .Name x _=>Iv R T N ns x e
  | .Subscript a b _=>if iN e&&j4 b then(R.e T N ns a).bind λma=>(R.e T N ns b).bind λmb=>(R.e T N ns e).map (lQ ma mb) else none
  | .Tuple ts kt pt=>none
  | _=>none
noncomputable def sAs(R:Rc)(T:Tb)(N:List Str)(ns:NS)(e:Expr):List Expr->Option MS
 | [t]=>HZ R T N ns e t
 | _=>none
noncomputable def sAu(R:Rc)(T:Tb)(N:List Str)(ns:NS)(x:Str)(e:Expr):Operator->Option MS
  | _=>none
noncomputable def GI(R:Rc)(T:Tb)(N:List Str)(ns:NS)(op:Operator)(e:Expr):Expr->Option MS
 | .Name x _=>sAu R T N ns x e op
 | _=>none
noncomputable def sRt(R:Rc)(T:Tb)(N:List Str)(ns:NS):Option Expr->Option MS
 | some e=>(R.e T N ns e).map cK
 | none=>some (cK (mC .non))
noncomputable def sFo(R:Rc)(T:Tb)(N:List Str)(ns:NS)(it:Expr)(body:List Stmt):Expr->Option MS
  | .Name x _=>if lG ns x&&jS it then(slot N x).bind λi=>(R.i T N ns it).bind λmi=>(R.b T N ns body).map (iM i mi) else none
  | .Tuple ts kt pt=>if jS it then(R.g T N ns (.Tuple ts kt pt)).bind λg=>(eIt R T N ns it).bind λmi=>(R.b T N ns body).map (tu g mi) else none
  | _=>none
noncomputable def Ik(R:Rc)(T:Tb)(N:List Str)(ns:NS)(t it:Expr)(body:List Stmt):List Stmt->Option MS
 | []=>sFo R T N ns it body t
 | _=>none
noncomputable def sWh(R:Rc)(T:Tb)(N:List Str)(ns:NS)(c:Expr)(body:List Stmt):List Stmt->Option MS
 | []=>(R.t T N ns c).bind λmc=>(R.b T N ns body).map (qz mc)
 | _=>none
noncomputable def sS(R:Rc)(T:Tb):List Str->NS->Stmt->Option MS:=λN ns st=>match st with
  | .Assign ts e _=>sAs R T N ns e ts
  | .AugAssign t op e _=>GI R T N ns op e t
  | .Expr e _=>if iN e then(R.e T N ns e).map cy else none
  | .Return o _=>sRt R T N ns o
  | .If c a b _=>(R.t T N ns c).bind λmc=>(R.b T N ns a).bind λma=>(R.b T N ns b).map (sIf mc ma)
  | .For t it body els _=>Ik R T N ns t it body els
  | .While c body els _=>sWh R T N ns c body els
  | .Pass _=>some cN
  | .Break _=>some JO
  | .Raise _ _ _=>some sNo
  | .Continue _=>some IT
  | _=>none
section
variable (R:Rc) (T:Tb) (N:List Str) (ns:NS)
end
noncomputable def sB(R:Rc)(T:Tb):List Str->NS->List Stmt->Option MS:=λN ns sts=>match sts with
  | []=>some cN
  | [s]=>R.s T N ns s
  | s::r=>(R.s T N ns s).bind λms=>(R.b T N ns r).map (bo ms)
noncomputable def rc:Nat->Rc
 | 0=>⟨λ_ _ _ _=>none,λ_ _ _ _ _=>none,λ_ _ _ _ _=>none,λ_ _ _ _=>none,λ_ _ _ _=>none,λ_ _ _ _ _=>none,λ_ _ _ _=>none,λ_ _ _ _=>none,λ_ _ _ _=>none,λ_ _ _ _=>none,λ_ _ _ _=>none,λ_ _ _ _=>none,λ_ _ _ _=>none⟩
 | n+1=>⟨sE (rc n),sC (rc n),sV (rc n),sO (rc n),sT (rc n),sL (rc n),sF (rc n),sA (rc n),sI (rc n),sG (rc n),sGs (rc n),sS (rc n),sB (rc n)⟩
abbrev cE(T:Tb)(n:Nat):=(rc n).e T
abbrev cC(T:Tb)(n:Nat):=(rc n).c T
abbrev cV(T:Tb)(n:Nat):=(rc n).v T
abbrev cO(T:Tb)(n:Nat):=(rc n).o T
abbrev cT(T:Tb)(n:Nat):=(rc n).t T
abbrev cL(T:Tb)(n:Nat):=(rc n).l T
abbrev cF(T:Tb)(n:Nat):=(rc n).f T
abbrev cA(T:Tb)(n:Nat):=(rc n).a T
abbrev cI(T:Tb)(n:Nat):=(rc n).i T
abbrev cG(T:Tb)(n:Nat):=(rc n).g T
abbrev cGs(T:Tb)(n:Nat):=(rc n).gs T
abbrev cS(T:Tb)(n:Nat):=(rc n).s T
abbrev cB(T:Tb)(n:Nat):=(rc n).b T
end
end _G
end
section
namespace _G
open PySem PySem.Spec _L
open PyProof.Rows hiding St
section
variable {env:Env}{e a b o:Expr}{es:List Expr}{pos q:Pos}
theorem cR(h:notStar e=true)(es:List Expr)(env:Env):starEach (e::es) env=(false,eval e env)::starEach es env:=by
 cases e <;> first |rfl |cases h
theorem ng(pos:Pos)(env:Env): ∀{es:List Expr},es.all notStar=true->(backTo pos (starEach es env)).any (·.1)=false
 | [],_=>rfl
 | e::es,h=>by
   rw[bX,ao]at h
   rw[cR h.1]
   show(false||(backTo pos (starEach es env)).any (·.1))=false
   rw[ng pos env h.2];rfl
theorem Cw(h:plainT e=true)(env:Env): ∀whole,isTrue e env whole=(do let v <- whole;standAt e.pos;holding [v] (truthy v)):=by
 intro whole
 cases e <;> first |rfl |cases h
theorem oq(h:jS e=true)(env:Env): ∀x,foldedSetIterable e env x=pure x:=by
 intro x
 cases e <;> first |rfl |cases h
theorem yt(h:jS b=true)(op:CmpOp):behindInMarks op b=false:=by
 cases b <;> first |rfl |cases h
theorem Fp(h:j4 b=true):uK b:=by
 intro o i
 cases b <;> first |rfl |cases h
theorem tZ(h:baseOk o=true)(name:Str)(env:Env):attributeBase o name env (eval o env)=eval o env:=by
 cases o with
 | Call f as ks p=>
   cases f with
   | Name x p=>
     cases as with
     | nil=>cases ks with
       | nil=>cases h
       | cons k ks=>rfl
     | cons a as=>rfl
   | _=>rfl
 | _=>rfl
theorem nG(h:iN e=true)(t:Option Expr)(line:Nat)(env:Env):swapsWith e t line env=pure false:=by
 cases e <;> first |rfl |cases h
theorem DX(h:iN e=true)(t:Expr)(line:Nat)(env:Env):swapsWithSole [t] e line env=pure false:=by
 unfold swapsWithSole
 exact nG h _ _ _
theorem xl(h:notStar a=true)(q:Pos)(env:Env):((backTo q (starEach [a] env)).all (λx => !x.1)&&(backToKw q (keywordEach [] env)).all (λx=>x.1.isSome)
   && decide ([a].length+([]:List Keyword).length+(if ([]:List Keyword).isEmpty then 0 else 1)<30))=true:=by
 rw[cR h];rfl
theorem Ga(h:j4 b=true)(env:Env): ∀v,assign (.Subscript a b pos) env v=(do
   let ov <- holding [v] (eval a env)
   let iv <- holding [v,ov] (eval b env)
   standAt pos
   holding [v,ov,iv] (setItem ov iv v)
   release [v,ov,iv] []):=by
 intro v
 cases b <;> first |rfl |cases h
theorem vm(h:notStar e=true)(es:List Expr)(env:Env):assignEach (e::es) env=(false,assign e env)::assignEach es env:=by
 cases e <;> first |rfl |cases h
theorem yo(env:Env): ∀es:List Expr,es.all notStar=true->(assignEach es env).length=es.length/\(assignEach es env).findIdx? (·.1)=none
 | [],_=>⟨rfl,rfl⟩
 | e::es,h=>by
   rw[bX,ao]at h
   obtain⟨a,b⟩:=yo env es h.2
   rw[vm h.1]
   exact⟨by simp[a],by rw[qj];simp[b]⟩
theorem xQ:swappedStores [.Subscript a b pos] e env=pure none:=by
 cases e <;> rfl
end
theorem iL{T:Tb}: ∀{n:Nat}{N:List Str}{ns:NS}{es:List Expr}{m:MA},cA T n N ns es=some m->es.all notStar=true
 | 0,_,_,_,_,h=>by simp[cA,rc]at h
 | n+1,_,_,[],_,h=>rfl
 | n+1,N,ns,e::es,m,h=>by
   simp only[cA,rc,sA]at h
   split at h
   ·rename_i hs
    cases e1:(rc n).e T N ns e with
    | none=>rw[e1]at h;cases h
    | some me=>
      rw[e1]at h
      simp only[ax]at h
      cases e2:(rc n).a T N ns es with
      | none=>rw[e2]at h;cases h
      | some mr=>rw[bX,hs,iL e2];rfl
   ·cases h
theorem v7{T:Tb}: ∀{n:Nat}{N:List Str}{ns:NS}{es:List Expr}{m:MGs},cGs T n N ns es=some m->es.all notStar=true
 | 0,_,_,_,_,h=>by simp[cGs,rc]at h
 | n+1,_,_,[],_,h=>rfl
 | n+1,N,ns,e::es,m,h=>by
   simp only[cGs,rc,sGs]at h
   split at h
   ·rename_i hs
    cases e1:(rc n).g T N ns e with
    | none=>rw[e1]at h;cases h
    | some me=>
      rw[e1]at h
      simp only[ax]at h
      cases e2:(rc n).gs T N ns es with
      | none=>rw[e2]at h;cases h
      | some mr=>rw[bX,hs,v7 e2];rfl
   ·cases h
theorem slot_get{N:List Str}{x:Str}{i:Nat}(h:slot N x=some i):N[i]? = some x:=by
 unfold slot at h
 obtain⟨h1,h2,_⟩:=d6.mp h
 rw[bG h1,eq_of_beq h2]
theorem bW {x:Str} (h:bw x=true):(x == ("__debug__":Str))=false/\(x == ("__classdict__":Str))=false:=by
 unfold bw at h
 rw[ao]at h
 simpa using h
theorem bind_eq{α β:Type}{o:Option α}{f:α->Option β}{b:β}(h:o.bind f=some b): ∃a,o=some a/\f a=some b:=by
 cases o with
 | none=>cases h
 | some a=>exact⟨a,rfl,h⟩
theorem map_eq{α β:Type}{o:Option α}{f:α->β}{b:β}(h:o.map f=some b): ∃a,o=some a/\f a=b:=by
 cases o with
 | none=>cases h
 | some a=>exact⟨a,rfl,bL h⟩
section
variable {M:Mo}{X:Cx}{k:Nat}{N:List Str}{ns:NS}{a b c e:Expr}{es:List Expr}{ma mb mc:ME}{mt:MT}{mas:MA}{pos p1 p2:Pos}{x:Str}
theorem Ck (S:Sc M X k N ns) (hg:dF ns "sorted"=true) (hm:M.mg "sorted"=none) (ha:PA X (e::es) (tMA M.K mas)) (he:starEach (e::es) X.env=(false,eval e X.env)::starEach es X.env) (hpl:(backTo pos (starEach es X.env)).any (·.1)=false) :
  PE X (.Call (.Name "sorted" p1) (e::es) [] pos) (tM M.K (mFn gY mas)):=
 PE.con (nN (S.hK▸vf S.calm) (S.gl hg) (by rw[S.hm];exact hm) PyProof.Rows.boot_sorted ha (by decide) (by decide) he hpl) λ_ _ _ h=>A9 zN h
theorem KJ{op:CmpOp}{f:F2}(S:Sc M X k N ns)(h:DS op=some f): ∃r,OpR X (compareOp op) r/\OpU M.K r f:=by
 cases op <;> simp only[DS,eJ,reduceCtorEq]at h <;> subst h
 ·exact⟨_,S.hK▸Hc S.room.units,Jy⟩
 ·exact⟨_,S.hK▸GV S.room.units,K7⟩
 ·exact⟨_,IM,um⟩
 ·exact⟨_,IK,um⟩
 ·exact⟨_,KD,um⟩
 ·exact⟨_,IE,um⟩
 ·exact⟨_,zD,B0⟩
 ·exact⟨_,S.hK▸HD (by have:=S.room.units;omega),IH⟩
theorem HJ{N':List Str}{scope:Scope}{px py spos:Pos}{iter elt:Expr}{ifs:List Expr}{wi:TI}{mi:MI}{y:Str}(S:Sc M X k N ns)(i:Nat)(hy:N[i]? = some y)(ho:lG ns y=true)(hk:scope.kind = .function)(ok:kq N N' ns scope.names x=true)(hi:PI X (.Name x px) iter wi)
  (ht: ∀X',Sc M X' k N' scope.names->PTs X' ifs (tMT M.K mt)) (he: ∀X',Sc M X' k N' scope.names->PE X' elt (tM M.K mc)) (hr: ∀σ H Q,tM M.K (dg mi mt mc) σ H Q->o6 wi (tMT M.K mt) (tM M.K mc) σ H Q)
  (hs: ∀x,foldedSetIterable iter X.env x=pure x):PS X (.Assign [.Name y py] (.ListComp elt [⟨.Name x px,iter,ifs,0⟩] scope pos) spos) (tMS M.K (bV i (dg mi mt mc))):=by
 have C:=oR S hk ok
 have e: ∃b,swapsWith (.ListComp elt [⟨.Name x px,iter,ifs,0⟩] scope pos) (some (.Name y py)) spos.line X.env=pure b:=⟨_,rfl⟩
 obtain⟨b,e⟩:=e
 cases b with
 | true=>exact PS.con (Dg (by rw[S.hN];exact S.nd) (by rw[S.hN];exact hy) (S.lo ho).1 S.calm C hi (λs₂ H₂ fp=>ht _ (uo S C s₂ H₂ fp)) (λs₂ H₂ fp=>he _ (uo S C s₂ H₂ fp)) e hs (S.lo ho).2) λ_ _ _ h=>hr _ _ _ (E1 h)
 | false=>exact vQ S i hy ho (AM S hk ok hi ht he hr hs) e
theorem CJ {as bs:Expr}{q rp:Pos} (S:Sc M X k N ns) (hg:dF ns "list"=true) (hm:M.mg "list"=none) (hg2:dF ns "range"=true) (hm2:M.mg "range"=none) (ha:PA X [as,bs] (tMA M.K mas)) (hs:notStar as=true) (hs2:notStar bs=true) :
  PE X (.Call (.Name "list" p1) [.Call (.Name "range" q) [as,bs] [] rp] [] pos) (tM M.K (jL (iR2 mas))):=
 PE.con (oK (so S.calm) (S.gl hg) (by rw[S.hm];exact hm) PyProof.Rows.boot_list (nZ (yq (S.gl hg2) (by rw[S.hm];exact hm2) ha (by rw[cR hs,cR hs2];rfl) (by rw[cR hs2];rfl)) yb) (by decide) (by decide)) λ_ _ _ h=>Bu h
theorem DJ {as bs:Expr}{q rp:Pos} (S:Sc M X k N ns) (hg:dF ns "tuple"=true) (hm:M.mg "tuple"=none) (hg2:dF ns "range"=true) (hm2:M.mg "range"=none) (ha:PA X [as,bs] (tMA M.K mas)) (hs:notStar as=true) (hs2:notStar bs=true) :
  PE X (.Call (.Name "tuple" p1) [.Call (.Name "range" q) [as,bs] [] rp] [] pos) (tM M.K (qL (iR2 mas))):=
 PE.con (oK (qY S.calm) (S.gl hg) (by rw[S.hm];exact hm) sx (nZ (yq (S.gl hg2) (by rw[S.hm];exact hm2) ha (by rw[cR hs,cR hs2];rfl) (by rw[cR hs2];rfl)) yb) (by decide) (by decide)) λ_ _ _ h=>DL h
theorem DQ (S:Sc M X k N ns) (ho:PE X b (tM M.K mb)) (ha:PA X [a] (tMA M.K mas)) (hb:baseOk b=true) (hs:notStar a=true) (hl:(p1.endLine == pos.line)=true):PE X (.Call (.Attribute b "index" p1) [a] [] pos) (tM M.K (mMT gE mb mas)):=by
 refine PE.con (t:=HP M.K (tM M.K mb) (tMA M.K mas)) ?_ λ_ _ _ h=>Dl h
 rw[<- S.hK]
 exact Cd S.room.units ho ha (tZ hb _ _) (xl hs _ _) hl (cR hs _ _) rfl
section
variable {X:Cx}
end
theorem Kt{st:Stmt}:PS X st (tMS M.K sNo):=by
 intro pins s σ H D I h
 obtain⟨μ,S,ρ,r,hr,er,e,kk⟩:=h
 cases e
theorem Ju:PS X (.Break pos) (tMS M.K JO):=PS.con Bc λD σ H h=>by
 obtain⟨μ,S,ρ,r,hr,er,e,kk⟩:=h
 cases e
 exact kk μ σ H (Pre.refl _) (bf.refl _) hr er
theorem Jl:PS X (.Continue pos) (tMS M.K IT):=PS.con vA λD σ H h=>by
 obtain⟨μ,S,ρ,r,hr,er,e,kk⟩:=h
 cases e
 exact kk μ σ H (Pre.refl _) (bf.refl _) hr er
theorem HQ:PS X (.Pass pos) (tMS M.K cN):=PS.con DC λD σ H h=>BP h
theorem FT:PS X (.Return none pos) (tMS M.K (cK (mC .non))):=PS.con DV λD σ H h=>by
 obtain⟨μ,S,ρ,r,hr,er,e,kk⟩:=h
 cases e
 exact kk μ _ H (Pre.refl _) (bf.refl _) hr qB
theorem Hl(ha:PE X a (tM M.K ma))(hb:PE X (.BoolOp .And (b::es) pos) (tM M.K mb)):PE X (.BoolOp .And (a::b::es) pos) (tM M.K (FW ma mb)):=PE.con (Ii ha hb) λ_ _ _ h=>Hi h
theorem Kz(ha:PE X a (tM M.K ma))(hb:PE X (.BoolOp .Or (b::es) pos) (tM M.K mb)):PE X (.BoolOp .Or (a::b::es) pos) (tM M.K (mOr ma mb)):=PE.con (Ka ha hb) λ_ _ _ h=>K8 h
theorem FQ(ha:PE X a (tM M.K ma)):PE X (.UnaryOp .Not a pos) (tM M.K (m1 Dz ma)):=PE.con (IB ha) λ_ _ _ h=>Gc h
end
end _G
end
section
namespace _G
open PySem PySem.Spec _L
open PyProof.Rows hiding St
section
variable {M:Mo}{cl:Nat->Addr}{k n fu:Nat}{N:List Str}{ns:NS}{X:Cx}{E:XK}
theorem x_call{g:Str}{a:Expr}{as:List Expr}{p pos:Pos}{r:RF}{mas:MA}{k':Nat}{ps:List Str}(L:Lv X E)(S:Sc M X.nox k N ns)(F:FnX M cl g k' ps r)(hk:k'<=k)(hg:dF ns g=true)(hp:bw g=true)(ha:PA X.nox (a::as) (tMA M.K mas))(hs:(a::as).all notStar=true):
  PE X (.Call (.Name g p) (a::as) [] pos) (tXE cl M.K (xFn r mas) E):=by
 obtain⟨f,fd,hm,hkp,hb,F⟩:=F.ex
 have e1:X.prog=M.P:=S.hP
 have e2:X.w=M.w:=S.hw
 have e3:X.K=M.K:=S.hK
 have e4:X.mg=M.mg:=S.hm
 have e5:X.base=M.base:=S.hb
 rw[<- e1,<- e2,<- e3,<- e4,<- e5]at F
 rw[<- e4]at hm
 rw[<- e3]at hkp hb
 rw[bX,ao]at hs
 refine PE.con (uO F (S.room.mono hk) (S.gl hg) hm hkp hb .nil L.pass ha.nox (bW hp).1 (cR hs.1 _ _) (ng _ _ hs.2)) λσ H Q h =>?_
 obtain⟨μ,S0,ρ,C,S',hr,er,q,aft⟩:=h
 obtain⟨us,S1,e1,q⟩:=bq q
 refine⟨μ,S0,ρ,us,S1,hr,er,e1,λμ1 vs H1 p1 k1 hr1 rs =>?_⟩
 show spX cl M.K r (vs++[]) H1 Q E
 rw[cW]
 exact⟨μ1,S1,us,C,S',hr1,rs,q,aft.mono p1 k1⟩
end
end _G
end
section
namespace _G
open PySem PySem.Spec _L
open PyProof.Rows hiding St
structure TOk(M:Mo)(T:Tb)(k:Nat):Prop where
 D: ∀x mf,T.D.lookup x=some mf -> ∃k' ps,k'<=k/\Fn M x k' ps mf
 C: ∀x u,T.C.lookup x=some u -> ∃g v,M.mg x=some g/\RelV v g /\ ∀H μ,RU H μ u v
 B: ∀x∈i5,M.mg x=none
 L: ∀x q,T.L.lookup x=some q -> ∃k' ps,k'<=k/\Lam M q.1 k' ps q.2
 mkr:T.mkr=true -> ∃c q P,M.mkr=some (c,q)/\Mkr M c P (q++T.Z.nm)
 Z: ∀x r,T.Z.R.lookup x=some r -> ∃k' ps,k'<=k/\FnX M T.Z.cl x k' ps r
noncomputable def GOk(M:Mo)(T:Tb)(k:Nat):Prop:=TOk M T k/\(T.mkr=true -> ∃j,j+2<=k/\(∀x F,T.H.lookup x=some F -> ∃k' ps,k'<=j+1/\FnC M x k' ps F)/\(∀x rz,T.Z.F.lookup x=some rz -> ∃k',k'<=j+1/\FnR M T.Z.cl x k' rz) /\ ∀caps capv cds base,fD M.mg base->TOk (M.to caps capv cds base) T.bare j)
noncomputable def IOk(M:Mo)(X:Cx)(tg it:Expr)(mi:MI):Prop:= ∃wi,PI X tg it wi /\
 (∀i ms D σ H,tMS M.K (iM i mi ms) D σ H->vv wi (jA i) (tMS M.K ms) D σ H) /\
 (∀mt mc σ H Q,tM M.K (dg mi mt mc) σ H Q->o6 wi (tMT M.K mt) (tM M.K mc) σ H Q)
structure Snd(M:Mo)(T:Tb)(k n:Nat):Prop where
 e: ∀N ns e m,cE T n N ns e=some m -> ∀X,Sc M X k N ns->PE X e (tM M.K m)
 c: ∀N ns g as m,cC T n N ns g as=some m->dF ns g=true->bw g=true -> ∀a r,as=a::r -> ∀X p1 pos,Sc M X k N ns->PE X (.Call (.Name g p1) as [] pos) (tM M.K m)
 v: ∀N ns g as m,cV T n N ns g as=some m -> ∀a r,as=a::r -> ∀X p1 pos,Sc M X k N ns->PE X (.Call (.Name g p1) as [] pos) (tM M.K m)
 v0: ∀N ns g m,cV T n N ns g []≠some m
 o: ∀N ns o m,cO T n N ns o=some m -> ∀X,Sc M X k N ns->ll M X o m
 t: ∀N ns e m,cT T n N ns e=some m -> ∀X,Sc M X k N ns->PT X e (tMT M.K m)
 l: ∀N ns b vs m pos,cL T n N ns b vs=some m -> ∀X,Sc M X k N ns->PW X (.BoolOp (if b then .And else .Or) vs pos) (tMT M.K m)
 f: ∀N ns vs m,cF T n N ns vs=some m -> ∀X,Sc M X k N ns->PTs X vs (tMT M.K m)
 a: ∀N ns es m,cA T n N ns es=some m -> ∀X,Sc M X k N ns->PA X es (tMA M.K m)
 i: ∀N ns tg it m,cI T n N ns it=some m -> ∀X,Sc M X k N ns->IOk M X tg it m
 g: ∀N ns e m,cG T n N ns e=some m -> ∀X,Sc M X k N ns->PG X e (tG M.K m)
 gs: ∀N ns es m,cGs T n N ns es=some m -> ∀X,Sc M X k N ns->PGs X es (tGs M.K m)
 s: ∀N ns st m,cS T n N ns st=some m -> ∀X,Sc M X k N ns->PS X st (tMS M.K m)
 b: ∀N ns sts m,cB T n N ns sts=some m -> ∀X,Sc M X k N ns->PSs X sts (tMS M.K m)
theorem dH{α:Type}{x:α}{P:Prop}(h:(none:Option α)=some x):P:=by cases h
theorem LY(M:Mo)(T:Tb)(k:Nat):Snd M T k 0:=
 ⟨λ_ _ _ _ h=>dH h,λ_ _ _ _ _ h=>dH h,λ_ _ _ _ _ h=>dH h,λ_ _ _ _ h=>dH h,λ_ _ _ _ h=>dH h,λ_ _ _ _ h=>dH h,λ_ _ _ _ _ _ h=>dH h,λ_ _ _ _ h=>dH h,λ_ _ _ _ h=>dH h,λ_ _ _ _ _ h=>dH h,λ_ _ _ _ h=>dH h,λ_ _ _ _ h=>dH h,λ_ _ _ _ h=>dH h,λ_ _ _ _ h=>dH h⟩
section
variable {M:Mo}{T:Tb}{k n:Nat}
theorem HW{N:List Str}{ns:NS}{X:Cx}{a b:Expr}{ma mb:ME}{op:Operator}{f:F2}{pos:Pos}(h:Gw op=some f)(S:Sc M X k N ns)(ha:PE X a (tM M.K ma))(hb:PE X b (tM M.K mb)):PE X (.BinOp a op b pos) (tM M.K (m2 f ma mb)):=by
 cases op <;> simp only[Gw,eJ,reduceCtorEq]at h <;> subst h
 ·exact FM S ha hb
 ·exact Km ha hb
 ·exact KI S ha hb
 ·exact IW ha hb
 ·exact JG ha hb
 ·exact JW ha hb
theorem F9{N:List Str}{ns:NS}{X:Cx}{a b:Expr}{ma mb:ME}{op:CmpOp}{f:F2}{pos:Pos}(h:DS op=some f)(S:Sc M X k N ns)(ha:PE X a (tM M.K ma))(hb:PE X b (tM M.K mb))(hs:jS b=true):
  PE X (.Compare a [op] [b] pos) (tM M.K (m2 f ma mb))/\PT X (.Compare a [op] [b] pos) (tMT M.K (cOf (m2 f ma mb))):=by
 obtain⟨r,ho,ou⟩:=KJ S h
 exact⟨PE.con (DA ho ha hb (yt hs _)) λ_ _ _ h=>ua ou h,PT.con (EA ho ha hb (yt hs _)) λ_ _ _ h=>Bh (λ_ q=>ua ou q) h⟩
theorem Ek{N:List Str}{ns:NS}{X:Cx}{g:Str}{e:Expr}{es:List Expr}{mas:MA}{p1 pos:Pos}{mf:MF}(O:TOk M T k)(h:Hy g=some mf)(hg:dF ns g=true)(S:Sc M X k N ns)(ha:PA X (e::es) (tMA M.K mas))(hs:(e::es).all notStar=true):
  PE X (.Call (.Name g p1) (e::es) [] pos) (tM M.K (mFn mf mas)):=by
 rw[bX,ao]at hs
 have he:=cR hs.1 es X.env
 have hp:=ng pos X.env hs.2
 unfold Hy at h
 repeat' split at h
 all_goals first
  | (cases h;done)
  | (rename_i q
     cases h
     rw[eq_of_beq q]at hg ⊢
     first
      | exact BJ S hg (O.B _ (by decide +kernel)) ha he hp
      | exact Dk S hg (O.B _ (by decide +kernel)) ha he hp
      | exact KB S hg (O.B _ (by decide +kernel)) ha he hp
      | exact JQ S hg (O.B _ (by decide +kernel)) ha he hp
      | exact Ck S hg (O.B _ (by decide +kernel)) ha he hp)
theorem ED{N:List Str}{ns:NS}{X:Cx}{name:Str}{a o:Expr}{mo m:ME}{mas:MA}{p1 pos:Pos}(h:Ce name mo mas=some m)(S:Sc M X k N ns)(ho:PE X o (tM M.K mo))(ha:PA X [a] (tMA M.K mas))(hb:baseOk o=true)(hl:(p1.endLine==pos.line)=true)(hs:notStar a=true):
  PE X (.Call (.Attribute o name p1) [a] [] pos) (tM M.K m):=by
 unfold Ce at h
 repeat' split at h
 all_goals first
  | (cases h;done)
  | (rename_i q
     cases h
     rw[eq_of_beq q]
     first
      | exact vX S ho ha (tZ hb _ _) (xl hs _ _) hl (cR hs _ _) rfl
      | exact DE S ho ha (tZ hb _ _) (xl hs _ _) hl (cR hs _ _) rfl
      | exact DQ S ho ha hb hs hl)
end
end _G
end
section
namespace _G
open PySem PySem.Spec _L
open PyProof.Rows hiding St
section
variable {M:Mo}{T:Tb}{k n:Nat}
theorem vI{ps:List Str}{sc:Scope}{ns:NS}(h:xO ps sc ns=true):kc ps (frees sc) sc /\ ∀y∈frees sc,ns.lookup y=some .cell/\(y,aN)∈sc.names:=by
 unfold xO at h
 simp only[ao,cH,Bool.not_eq_true',decide_eq_true_eq]at h
 obtain⟨⟨⟨⟨⟨⟨h1,h2⟩,h3⟩,h4⟩,h5⟩,h6⟩,h7⟩:=h
 have fm: ∀y∈frees sc,(y,aN)∈sc.names:=λy hy=>by
  obtain⟨z,hz,e⟩:=bB.mp hy
  obtain⟨a,b⟩:=fj.mp hz
  obtain⟨z1,z2⟩:=z
  cases e
  have:z2 = .free:=eq_of_beq b
  rw[this]at a;exact a
 refine⟨⟨eq_of_beq h1,h2,h3,h4,λp hp =>?_,λx hx e =>?_,λy hy e=>bB.mpr ⟨y,fj.mpr ⟨hy,by rw[e];rfl⟩,rfl⟩,λy hy=>eq_of_beq (h7 y hy).1⟩,λy hy=>⟨eq_of_beq (h7 y hy).2,fm y hy⟩⟩
 ·have:=h5 p hp
  rw[ny]at this
  exact this.imp eq_of_beq eq_of_beq
 ·have:=h6 x hx
  rw[e]at this
  simpa using this
theorem GOk.of(O:TOk M T k)(h:T.mkr=false):GOk M T k:=⟨O,λz=>by rw[h]at z;cases z⟩
theorem Jz(O:TOk M T k)(R:Snd M T k n): ∀N ns g as m,cV T (n+1) N ns g as=some m -> ∀a r,as=a::r -> ∀X p1 pos,Sc M X k N ns->PE X (.Call (.Name g p1) as [] pos) (tM M.K m):=by
 intro N ns g as m h a r e X p1 pos S
 subst e
 simp only[cV,rc,sV]at h
 split at h
 ·rename_i hs
  rw[ao]at hs
  obtain⟨q,e1,h⟩:=bind_eq h
  obtain⟨i,e2,h⟩:=bind_eq h
  obtain⟨mas,e3,rfl⟩:=map_eq h
  obtain⟨k',ps,hk,F⟩:=O.L _ _ e1
  have hst:=iL e3
  rw[bX,ao]at hst
  obtain⟨n1,n2⟩:=bW hs.2
  exact EG S F hk i (slot_get e2) hs.1 (R.a _ _ _ _ e3 X S) n1 n2 (cR hst.1 _ _) (ng _ _ hst.2)
 ·cases h
section
variable {N:List Str}{ns:NS}{X:Cx}{m:ME}
theorem Dq{c:Const}{j}{pos:Pos}(h:KH c=some m):PE X (.Constant c j pos) (tM M.K m):=by
 cases c <;> first | (cases h;done) |skip
 all_goals cases h
 all_goals first |exact Jr |exact L4 |exact B8 |exact PE.con CF λ_ _ _ q=>r_c (λ_ _=>by simp only[RU]) q
theorem Ih(R:Snd M T k n){op:UnaryOp}{a:Expr}{pos:Pos}(h:eUn (rc n) T N ns a op=some m)(S:Sc M X k N ns):PE X (.UnaryOp op a pos) (tM M.K m):=by
 cases op <;> first | (cases h;done) |skip
 all_goals obtain⟨ma,e1,rfl⟩:=map_eq h
 all_goals first |exact Ki (R.e _ _ _ _ e1 X S) |exact FQ (R.e _ _ _ _ e1 X S)
theorem HL(R:Snd M T k n){op:BoolOp}{vs:List Expr}{p:Pos}(h:eBo (rc n) T N ns op p vs=some m)(S:Sc M X k N ns):PE X (.BoolOp op vs p) (tM M.K m):=by
 unfold eBo at h
 split at h
 ·cases h
 ·exact GT (R.e _ _ _ _ h X S)
 ·obtain⟨ma,e1,h⟩:=bind_eq h
  cases op
  ·obtain⟨mb,e2,rfl⟩:=map_eq h
   exact Hl (R.e _ _ _ _ e1 X S) (R.e _ _ _ _ e2 X S)
  ·obtain⟨mb,e2,rfl⟩:=map_eq h
   exact Kz (R.e _ _ _ _ e1 X S) (R.e _ _ _ _ e2 X S)
theorem Cs(R:Snd M T k n){a:Expr}{ops:List CmpOp}{bs:List Expr}{pos:Pos}(h:eCm (rc n) T N ns a ops bs=some m)(S:Sc M X k N ns):PE X (.Compare a ops bs pos) (tM M.K m)/\PT X (.Compare a ops bs pos) (tMT M.K (cOf m)):=by
 unfold eCm at h
 split at h
 ·split at h
  ·rename_i hs
   obtain⟨ma,e1,h⟩:=bind_eq h
   obtain⟨mb,e2,h⟩:=bind_eq h
   obtain⟨f,e3,rfl⟩:=map_eq h
   exact F9 e3 S (R.e _ _ _ _ e1 X S) (R.e _ _ _ _ e2 X S) hs
  ·cases h
 ·cases h
theorem Gy(R:Snd M T k n){a b:Expr}{pos:Pos}(h:eSb (rc n) T N ns a b=some m)(S:Sc M X k N ns):PE X (.Subscript a b pos) (tM M.K m):=by
 unfold eSb at h
 split at h
 ·rename_i lo hi st p
  cases st with
  | none=>
    obtain⟨ma,e1,h⟩:=bind_eq h
    obtain⟨ml,e2,h⟩:=bind_eq h
    obtain⟨mh,e3,rfl⟩:=map_eq h
    exact Dn S (R.e _ _ _ _ e1 X S) (R.o _ _ _ _ e2 X S) (R.o _ _ _ _ e3 X S)
  | some s=>
    cases h
 ·split at h
  ·rename_i hs
   obtain⟨ma,e1,h⟩:=bind_eq h
   obtain⟨mb,e2,rfl⟩:=map_eq h
   exact LO S (R.e _ _ _ _ e1 X S) (R.e _ _ _ _ e2 X S) (Fp hs)
  ·cases h
theorem Io(O:TOk M T k)(R:Snd M T k n){elt it:Expr}{ifs:List Expr}{scope:Scope}{x:Str}{px pos:Pos}(h:eLn (rc n) T N ns elt it ifs scope x=some m)(S:Sc M X k N ns)(hk:scope.kind = .function)(ok:kq N (wt N x) ns scope.names x=true)(hs:jS it=true):
  PE X (.ListComp elt [⟨.Name x px,it,ifs,0⟩] scope pos) (tM M.K m):=by
 unfold eLn at h
 obtain⟨mi,e1,h⟩:=bind_eq h
 obtain⟨mt,e2,h⟩:=bind_eq h
 obtain⟨mc,e3,rfl⟩:=map_eq h
 obtain⟨wi,h1,_,h3⟩:=R.i _ _ _ _ _ e1 X S
 exact AM S hk ok h1 (λX' S'=>R.f _ _ _ _ e2 X' S') (λX' S'=>R.e _ _ _ _ e3 X' S') (h3 mt mc) (oq hs _)
theorem Hj(O:TOk M T k)(R:Snd M T k n){elt:Expr}{scope:Scope}{gens:List Comprehension}{pos:Pos}(h:eLc (rc n) T N ns elt scope gens=some m)(S:Sc M X k N ns):PE X (.ListComp elt gens scope pos) (tM M.K m):=by
 unfold eLc at h
 split at h
 rotate_left
 ·cases h
 rename_i c
 obtain⟨tg,it,ifs,ia⟩:=c
 split at h
 rotate_left
 ·cases h
 rename_i h0
 have h0':ia=0:=h0
 subst h0'
 have h:eLt (rc n) T N ns elt it ifs scope tg=some m:=h
 unfold eLt at h
 split at h
 ·split at h
  ·rename_i hs
   rw[ao,ao]at hs
   exact Io O R h S (eq_of_beq hs.1.1) hs.1.2 hs.2
  ·cases h
 ·cases h
theorem F5 (O:TOk M T k) (R:Snd M T k n) {g:Str}{rs:List Expr}{p1 q rp pos:Pos} (h:eRg (rc n) T N ns g rs=some m) (S:Sc M X k N ns) (hl:g="list"\/g="tuple") (hg:dF ns g=true) (hr:dF ns "range"=true) :
  PE X (.Call (.Name g p1) [.Call (.Name "range" q) rs [] rp] [] pos) (tM M.K m):=by
 unfold eRg at h
 split at h
 ·rcases hl with rfl |rfl
  ·rw[if_pos (by decide +kernel)]at h
   cases h
  ·rw[if_neg (by decide +kernel)]at h
   cases h
 ·rcases hl with rfl |rfl
  ·rw[if_pos (by decide +kernel)]at h
   obtain⟨ma,e1,rfl⟩:=map_eq h
   have hst:=iL e1
   simp only[bX,rK,pR,ao]at hst
   exact CJ S hg (O.B _ (by decide +kernel)) hr (O.B _ (by decide +kernel)) (R.a _ _ _ _ e1 X S) hst.1 hst.2
  ·rw[if_neg (by decide +kernel)]at h
   obtain⟨ma,e1,rfl⟩:=map_eq h
   have hst:=iL e1
   simp only[bX,rK,pR,ao]at hst
   exact DJ S hg (O.B _ (by decide +kernel)) hr (O.B _ (by decide +kernel)) (R.a _ _ _ _ e1 X S) hst.1 hst.2
 ·cases h
theorem GX(Gk:GOk M T k)(RA: ∀M T k,GOk M T k->Snd M T k n){g:Str}{p:Arguments}{b:Expr}{sc:Scope}{p1 lp pos:Pos}(h:B3 (rc n) T N ns g p b sc=some m)(S:Sc M X k N ns)(hg:dF ns g=true)(hn:bw g=true):
  PE X (.Call (.Name g p1) [.Lambda p b sc lp] [] pos) (tM M.K m):=by
 unfold B3 at h
 split at h
 rotate_left
 ·cases h
 rename_i hc
 simp only[ao]at hc
 obtain⟨⟨⟨hT,hnm⟩,hp⟩,hl⟩:=hc
 have hp':p=vj:=by
  unfold Cp at hp
  rw[ao,tQ]at hp
  rw[xn hp.1,hp.2]
  rfl
 subst hp'
 obtain⟨is,e1,h⟩:=bind_eq h
 obtain⟨ml,e2,h⟩:=bind_eq h
 obtain⟨rl,e3,h⟩:=bind_eq h
 obtain⟨rz,e4,rfl⟩:=map_eq h
 obtain⟨c,q,P,hmk,MK⟩:=Gk.1.mkr hT
 rw[eq_of_beq hnm]at MK
 obtain⟨j,hj,hH,hF,hB⟩:=Gk.2 hT
 obtain⟨k',hk',FR⟩:=hF _ _ e4
 obtain⟨LS,hfs⟩:=vI hl
 refine Ep S FR hk' hj hmk MK hg (bW hn).1 LS hfs e1 (λcaps capv cds base hbb X' S'=>(RA _ _ _ (.of (hB caps capv cds base hbb) rfl)).e _ _ _ _ e2 X' S') λcaps capv cds base hbb X' E L S' =>?_
 unfold E7 at e3
 split at e3
 ·split at e3
  ·rename_i hs
   rw[ao]at hs
   obtain⟨rf,e5,e3⟩:=bind_eq e3
   obtain⟨mas,e6,rfl⟩:=map_eq e3
   obtain⟨k2,ps,hk2,FX⟩:=(hB caps capv cds base hbb).Z _ _ e5
   exact x_call L S' FX hk2 hs.1 hs.2 ((RA _ _ _ (.of (hB caps capv cds base hbb) rfl)).a _ _ _ _ e6 _ S') (iL e6)
  ·cases e3
 ·cases e3
theorem Gr(Gk:GOk M T k)(R:Snd M T k n)(RA: ∀M T k,GOk M T k->Snd M T k n){g:Str}{as:List Expr}{p1 pos:Pos}(h:eCf (rc n) T N ns g as=some m)(S:Sc M X k N ns)(hg:dF ns g=true)(hn:bw g=true):
  PE X (.Call (.Name g p1) as [] pos) (tM M.K m):=by
 have O:=Gk.1
 unfold eCf at h
 split at h
 ·obtain⟨mf,e1,rfl⟩:=map_eq h
  obtain⟨k',ps,hk,F⟩:=O.D _ _ e1
  exact Dj S F hk hg (bW hn).1
 ·unfold eC1 at h
  split at h
  ·exact GX Gk RA h S hg hn
  ·split at h
   ·rename_i hl
    rw[ao,ny]at hl
    split at h
    ·rename_i hr
     rw[eq_of_beq hl.2]at hr ⊢
     exact F5 O R h S (hl.1.imp eq_of_beq eq_of_beq) hg hr
    ·cases h
   ·exact R.c _ _ _ _ _ h hg hn _ _ rfl X _ _ S
  ·exact R.c _ _ _ _ _ h hg hn _ _ rfl X _ _ S
 ·unfold eC2 at h
  split at h
  ·unfold eIs at h
   split at h
   ·cases h
   ·exact R.c _ _ _ _ _ h hg hn _ _ rfl X _ _ S
  ·cases h
  ·exact R.c _ _ _ _ _ h hg hn _ _ rfl X _ _ S
 ·exact R.c _ _ _ _ _ h hg hn _ _ rfl X _ _ S
theorem He(R:Snd M T k n){o:Expr}{name:Str}{p q:Pos}{as:List Expr}(h:eMe (rc n) T N ns o name p q as=some m)(S:Sc M X k N ns):PE X (.Call (.Attribute o name p) as [] q) (tM M.K m):=by
 unfold eMe at h
 split at h
 ·cases h
 ·split at h
  ·rename_i hs
   rw[ao,ao]at hs
   obtain⟨mo,e1,h⟩:=bind_eq h
   obtain⟨mas,e2,h⟩:=bind_eq h
   exact ED h S (R.e _ _ _ _ e1 X S) (R.a _ _ _ _ e2 X S) hs.1.1 hs.1.2 hs.2
  ·cases h
 ·cases h
end
theorem K3(Gk:GOk M T k)(R:Snd M T k n)(RA: ∀M T k,GOk M T k->Snd M T k n): ∀N ns e m,cE T (n+1) N ns e=some m -> ∀X,Sc M X k N ns->PE X e (tM M.K m):=by
 have O:=Gk.1
 intro N ns e m h X S
 have h:sE (rc n) T N ns e=some m:=h
 cases e with
 | Name x p=>
   have h:(if bw x then(if lu ns x then(slot N x).map ae else if dF ns x then(T.C.lookup x).map mC else none) else none)=some m:=h
   split at h
   ·rename_i hn
    obtain⟨n1,n2⟩:=bW hn
    split at h
    ·rename_i hv
     obtain⟨i,e1,rfl⟩:=map_eq h
     exact E4 S i (slot_get e1) hv n1 n2
    ·split at h
     ·rename_i hg
      obtain⟨u,e1,rfl⟩:=map_eq h
      obtain⟨g,v,hm,r,hv⟩:=O.C _ _ e1
      exact Gq S hg hm r hv n1
     ·cases h
   ·cases h
 | Constant c j p=>exact Dq h
 | BinOp a op b p=>
   obtain⟨ma,e1,h⟩:=bind_eq (show((rc n).e T N ns a).bind _=some m from h)
   obtain⟨mb,e2,h⟩:=bind_eq h
   obtain⟨f,e3,rfl⟩:=map_eq h
   exact HW e3 S (R.e _ _ _ _ e1 X S) (R.e _ _ _ _ e2 X S)
 | UnaryOp op a p=>exact Ih R h S
 | BoolOp op vs p=>exact HL R h S
 | Compare a ops bs p=>exact(Cs R h S).1
 | IfExp c a b p=>
   obtain⟨mc,e1,h⟩:=bind_eq (show((rc n).t T N ns c).bind _=some m from h)
   obtain⟨ma,e2,h⟩:=bind_eq h
   obtain⟨mb,e3,rfl⟩:=map_eq h
   exact KO (R.t _ _ _ _ e1 X S) (R.e _ _ _ _ e2 X S) (R.e _ _ _ _ e3 X S)
 | Subscript a b p=>exact Gy R h S
 | Tuple es j p=>
   obtain⟨ma,e1,rfl⟩:=map_eq (show((rc n).a T N ns es).map jI=some m from h)
   exact JN (R.a _ _ _ _ e1 X S)
 | List es p=>
   obtain⟨ma,e1,rfl⟩:=map_eq (show((rc n).a T N ns es).map bU=some m from h)
   exact Bi (R.a _ _ _ _ e1 X S)
 | ListComp elt gens scope p=>exact Hj Gk.1 R h S
 | Call f as kws q=>
   have h:(if kws.isEmpty then eCa (rc n) T N ns as q f else none)=some m:=h
   cases kws with
   | cons w ws=>cases h
   | nil=>
     have h:eCa (rc n) T N ns as q f=some m:=h
     unfold eCa at h
     split at h
     ·split at h
      ·rename_i hs
       rw[ao]at hs
       exact Gr Gk R RA h S hs.1 hs.2
      ·cases as with
       | nil=>exact absurd h (R.v0 _ _ _ _)
       | cons a r=>exact R.v _ _ _ _ _ h _ _ rfl X _ _ S
     ·exact He R h S
     ·cases h
 | _=>cases h
theorem JD(O:TOk M T k)(R:Snd M T k n): ∀N ns g as m,cC T (n+1) N ns g as=some m->dF ns g=true->bw g=true -> ∀a r,as=a::r -> ∀X p1 pos,Sc M X k N ns->PE X (.Call (.Name g p1) as [] pos) (tM M.K m):=by
 intro N ns g as m h hg hn a r e X p1 pos S
 subst e
 simp only[cC,rc,sC]at h
 obtain⟨mas,e1,h⟩:=bind_eq h
 have hst:=iL e1
 split at h
 ·rename_i mf hb
  cases h
  exact Ek O hb hg S (R.a _ _ _ _ e1 X S) hst
 ·obtain⟨mf,e2,rfl⟩:=map_eq h
  obtain⟨k',ps,hk,F⟩:=O.D _ _ e2
  rw[bX,ao]at hst
  exact Hw S F hk hg (R.a _ _ _ _ e1 X S) (bW hn).1 (cR hst.1 _ _) (ng _ _ hst.2)
theorem Jg(R:Snd M T k n): ∀N ns o m,cO T (n+1) N ns o=some m -> ∀X,Sc M X k N ns->ll M X o m:=by
 intro N ns o m h X S
 simp only[cO,rc,sO]at h
 split at h
 ·cases h;exact .none
 ·obtain⟨me,e1,rfl⟩:=map_eq h
  exact .some (R.e _ _ _ _ e1 X S)
theorem JM(R:Snd M T k n): ∀N ns e m,cT T (n+1) N ns e=some m -> ∀X,Sc M X k N ns->PT X e (tMT M.K m):=by
 intro N ns e m h X S
 simp only[cT,rc,sT]at h
 split at h
 ·obtain⟨ma,e1,rfl⟩:=map_eq h
  exact E8 (R.t _ _ _ _ e1 X S)
 ·exact PW.pt (R.l _ _ true _ _ _ h X S)
 ·exact PW.pt (R.l _ _ false _ _ _ h X S)
 ·obtain⟨mc,e1,rfl⟩:=map_eq h
  exact(Cs R e1 S).2
 ·split at h
  ·rename_i hs
   obtain⟨ma,e1,rfl⟩:=map_eq h
   exact Fb (R.e _ _ _ _ e1 X S) (Cw hs _)
  ·cases h
theorem IJ(R:Snd M T k n): ∀N ns b vs m pos,cL T (n+1) N ns b vs=some m -> ∀X,Sc M X k N ns->PW X (.BoolOp (if b then .And else .Or) vs pos) (tMT M.K m):=by
 intro N ns b vs m pos h X S
 simp only[cL,rc,sL]at h
 split at h
 ·cases h
 ·cases b
  ·exact JU (R.t _ _ _ _ h X S)
  ·exact FY (R.t _ _ _ _ h X S)
 ·rename_i a r hr
  obtain⟨ma,e1,h⟩:=bind_eq h
  obtain⟨mr,e2,rfl⟩:=map_eq h
  cases r with
  | nil=>exact(hr rfl).elim
  | cons c r=>
    have h2:=R.l _ _ b _ _ pos e2 X S
    cases b
    ·exact LX (R.t _ _ _ _ e1 X S) h2
    ·exact Kr (R.t _ _ _ _ e1 X S) h2
theorem Ja(R:Snd M T k n): ∀N ns vs m,cF T (n+1) N ns vs=some m -> ∀X,Sc M X k N ns->PTs X vs (tMT M.K m):=by
 intro N ns vs m h X S
 simp only[cF,rc,sF]at h
 split at h
 ·cases h;exact HS
 ·exact KQ (R.t _ _ _ _ h X S)
 ·cases h
theorem Jo(R:Snd M T k n): ∀N ns es m,cA T (n+1) N ns es=some m -> ∀X,Sc M X k N ns->PA X es (tMA M.K m):=by
 intro N ns es m h X S
 simp only[cA,rc,sA]at h
 split at h
 ·cases h;exact zj
 ·split at h
  ·rename_i hs
   obtain⟨ma,e1,h⟩:=bind_eq h
   obtain⟨mr,e2,rfl⟩:=map_eq h
   exact kY (R.e _ _ _ _ e1 X S) (R.a _ _ _ _ e2 X S) (cR hs _ _)
  ·cases h
theorem CC{N:List Str}{ns:NS}{X:Cx}{tg e:Expr}{m:ME}(S:Sc M X k N ns)(h:PE X e (tM M.K m)):IOk M X tg e (eK m):=
 ⟨_,Kl S h,λ_ _ _ _ _ q=>Ls q,λ_ _ _ _ _ q=>LA q⟩
theorem I0(O:TOk M T k)(R:Snd M T k n): ∀N ns tg it m,cI T (n+1) N ns it=some m -> ∀X,Sc M X k N ns->IOk M X tg it m:=by
 intro N ns tg it m h X S
 simp only[cI,rc,sI]at h
 split at h
 ·split at h
  ·rename_i hr
   split at h
   ·rename_i hg
    rw[eq_of_beq hr]at hg ⊢
    split at h
    ·obtain⟨ma,e1,rfl⟩:=map_eq h
     have hst:=iL e1
     simp only[bX,rK,pR]at hst
     exact⟨_,Jf S hg (O.B _ (by decide +kernel)) (R.a _ _ _ _ e1 X S) (cR hst _ _),λ_ _ _ _ _ q=>KC q,λ_ _ _ _ _ q=>Jw q⟩
    ·obtain⟨ma,e1,rfl⟩:=map_eq h
     have hst:=iL e1
     simp only[bX,rK,pR,ao]at hst
     exact⟨_,JT S hg (O.B _ (by decide +kernel)) (R.a _ _ _ _ e1 X S) (by rw[cR hst.1,cR hst.2];rfl) (by rw[cR hst.2];rfl),λ_ _ _ _ _ q=>Ji q,λ_ _ _ _ _ q=>JB q⟩
    ·cases h
   ·cases h
  ·obtain⟨ma,e1,rfl⟩:=map_eq h
   exact CC S (R.e _ _ _ _ e1 X S)
 ·obtain⟨ma,e1,rfl⟩:=map_eq h
  exact CC S (R.e _ _ _ _ e1 X S)
theorem KS(R:Snd M T k n): ∀N ns e m,cG T (n+1) N ns e=some m -> ∀X,Sc M X k N ns->PG X e (tG M.K m):=by
 intro N ns e m h X S
 simp only[cG,rc,sG]at h
 split at h
 ·split at h
  ·rename_i hs
   obtain⟨i,e1,rfl⟩:=map_eq h
   exact PG.con (yR (by rw[S.hN];exact S.nd) (by rw[S.hN];exact slot_get e1) (S.lo hs).1 (S.lo hs).2) λ_ _ _ _ q=>Ly q
  ·cases h
 ·obtain⟨gs,e1,rfl⟩:=map_eq h
  obtain⟨h1,h2⟩:=yo X.env _ (v7 e1)
  refine PG.con (Iq S.calm (R.gs _ _ _ _ e1 X S) h1 h2) λ_ _ _ _ q =>?_
  rw[S.hK]
  exact Kw q
 ·cases h
theorem FU(R:Snd M T k n): ∀N ns es m,cGs T (n+1) N ns es=some m -> ∀X,Sc M X k N ns->PGs X es (tGs M.K m):=by
 intro N ns es m h X S
 simp only[cGs,rc,sGs]at h
 split at h
 ·cases h;exact PGs.con Em λ_ _ _ _ q=>Ir q
 ·split at h
  ·rename_i hs
   obtain⟨g,e1,h⟩:=bind_eq h
   obtain⟨gs,e2,rfl⟩:=map_eq h
   exact PGs.con (A7 (R.g _ _ _ _ e1 X S) (R.gs _ _ _ _ e2 X S) (by rw[vm hs];rfl)) λ_ _ _ _ q=>Ez q
  ·cases h
theorem Hq(O:TOk M T k)(R:Snd M T k n){N:List Str}{ns:NS}{it:Expr}{mi:MI}{X:Cx}{ts:List Expr}{kt:Nat}{pt:Pos}(h:eIt (rc n) T N ns it=some mi)(S:Sc M X k N ns):
  ∃wi,PI X (.Tuple ts kt pt) it wi /\ ∀g mb D σ H,tMS M.K (tu g mi mb) D σ H->vv wi (tG M.K g) (tMS M.K mb) D σ H:=by
 unfold eIt at h
 ·obtain⟨ma,e1,rfl⟩:=map_eq h
  exact⟨_,Kl S (R.e _ _ _ _ e1 X S),λ_ _ _ _ _ q=>Ll q⟩
theorem Dd{N:List Str}{ns:NS}{X:Cx}{m:MS}(R:Snd M T k n){y:Str}{elt it tg:Expr}{ifs:List Expr}{scope:Scope}{p1:Pos}{p2 p3:Pos}(h:GJ (rc n) T N ns y elt it ifs scope tg=some m)(S:Sc M X k N ns):
  PS X (.Assign [.Name y p1] (.ListComp elt [⟨tg,it,ifs,0⟩] scope p2) p3) (tMS M.K m):=by
 unfold GJ at h
 split at h
 ·split at h
  ·rename_i hs
   rw[ao,ao,ao]at hs
   obtain⟨i,e0,h⟩:=bind_eq h
   obtain⟨mi,e1,h⟩:=bind_eq h
   obtain⟨mt,e2,h⟩:=bind_eq h
   obtain⟨mc,e3,rfl⟩:=map_eq h
   obtain⟨wi,h1,_,h3⟩:=R.i _ _ _ _ _ e1 X S
   exact HJ S i (slot_get e0) hs.1 (eq_of_beq hs.2.1.1) hs.2.1.2 h1 (λX' S'=>R.f _ _ _ _ e2 X' S') (λX' S'=>R.e _ _ _ _ e3 X' S') (h3 mt mc) (oq hs.2.2 _)
  ·cases h
 ·cases h
theorem Ea{N:List Str}{ns:NS}{X:Cx}{m:MS}(R:Snd M T k n){x:Str}{e:Expr}{p1:Pos}{p3:Pos}(h:Iv (rc n) T N ns x e=some m)(S:Sc M X k N ns):PS X (.Assign [.Name x p1] e p3) (tMS M.K m):=by
 unfold Iv at h
 split at h
 ·unfold Lj at h
  split at h
  ·rename_i c
   obtain⟨tg,it,ifs,ia⟩:=c
   split at h
   ·rename_i h0
    have h0':ia=0:=h0
    subst h0'
    exact Dd R h S
   ·cases h
  ·cases h
 ·split at h
  ·rename_i hs
   rw[ao]at hs
   obtain⟨i,e1,h⟩:=bind_eq h
   obtain⟨me,e2,rfl⟩:=map_eq h
   exact vQ S i (slot_get e1) hs.1 (R.e _ _ _ _ e2 X S) (nG hs.2 _ _ _)
  ·cases h
theorem DU{N:List Str}{ns:NS}{X:Cx}{m:MS}(R:Snd M T k n){t e:Expr}{p3:Pos}(h:HZ (rc n) T N ns e t=some m)(S:Sc M X k N ns):PS X (.Assign [t] e p3) (tMS M.K m):=by
 unfold HZ at h
 split at h
 ·exact Ea R h S
 ·split at h
  ·rename_i hs
   rw[ao]at hs
   obtain⟨ma,e1,h⟩:=bind_eq h
   obtain⟨mb,e2,h⟩:=bind_eq h
   obtain⟨me,e3,rfl⟩:=map_eq h
   exact EI S (R.e _ _ _ _ e1 X S) (R.e _ _ _ _ e2 X S) (R.e _ _ _ _ e3 X S) (DX hs.1 _ _ _) xQ rfl (Ga hs.2 _)
  ·cases h
 ·cases h
 ·cases h
theorem HA{N:List Str}{ns:NS}{X:Cx}{m:MS}(R:Snd M T k n){x:Str}{e:Expr}{op:Operator}{p1:Pos}{p3:Pos}(h:sAu (rc n) T N ns x e op=some m)(S:Sc M X k N ns):PS X (.AugAssign (.Name x p1) op e p3) (tMS M.K m):=by
 unfold sAu at h
 cases h
theorem HK{N:List Str}{ns:NS}{X:Cx}{m:MS}(O:TOk M T k)(R:Snd M T k n){t it:Expr}{body:List Stmt}{p3:Pos}(h:sFo (rc n) T N ns it body t=some m)(S:Sc M X k N ns):PS X (.For t it body [] p3) (tMS M.K m):=by
 unfold sFo at h
 split at h
 ·split at h
  ·rename_i hs
   rw[ao]at hs
   obtain⟨i,e1,h⟩:=bind_eq h
   obtain⟨mi,e2,h⟩:=bind_eq h
   obtain⟨mb,e3,rfl⟩:=map_eq h
   obtain⟨wi,h1,h2,_⟩:=R.i _ _ _ _ _ e2 X S
   exact IL S i (slot_get e1) hs.1 h1 (R.b _ _ _ _ e3 X S) (h2 i mb) (oq hs.2 _)
  ·cases h
 ·rename_i ts kt pt
  split at h
  ·rename_i hs
   obtain⟨g,e1,h⟩:=bind_eq h
   obtain⟨mi,e2,h⟩:=bind_eq h
   obtain⟨mb,e3,rfl⟩:=map_eq h
   obtain⟨wi,h1,h2⟩:=Hq O R (ts:=ts) (kt:=kt) (pt:=pt) e2 S
   exact PS.con (Bz S.own S.calm h1 (R.g _ _ _ _ e1 X S) (R.b _ _ _ _ e3 X S) (oq hs _)) λ_ _ _ q=>h2 _ _ _ _ _ q
  ·cases h
 ·cases h
theorem J3(O:TOk M T k)(R:Snd M T k n): ∀N ns st m,cS T (n+1) N ns st=some m -> ∀X,Sc M X k N ns->PS X st (tMS M.K m):=by
 intro N ns st m h X S
 have h:sS (rc n) T N ns st=some m:=h
 cases st with
 | Assign ts e p=>
   have h:sAs (rc n) T N ns e ts=some m:=h
   unfold sAs at h
   split at h
   ·exact DU R h S
   ·cases h
 | AugAssign t op e p=>
   have h:GI (rc n) T N ns op e t=some m:=h
   unfold GI at h
   split at h
   ·exact HA R h S
   ·cases h
 | Expr e p=>
   have h:(if iN e then((rc n).e T N ns e).map cy else none)=some m:=h
   split at h
   ·rename_i hs
    obtain⟨me,e2,rfl⟩:=map_eq h
    exact Cg (R.e _ _ _ _ e2 X S) (nG hs _ _ _)
   ·cases h
 | Return o p=>
   have h:sRt (rc n) T N ns o=some m:=h
   unfold sRt at h
   split at h
   ·obtain⟨me,e2,rfl⟩:=map_eq h
    exact Fe (R.e _ _ _ _ e2 X S)
   ·cases h;exact FT
 | If c a b p=>
   obtain⟨mc,e1,h⟩:=bind_eq h
   obtain⟨ma,e2,h⟩:=bind_eq h
   obtain⟨mb,e3,rfl⟩:=map_eq h
   exact J0 (R.t _ _ _ _ e1 X S) (R.b _ _ _ _ e2 X S) (R.b _ _ _ _ e3 X S)
 | For t it body els p=>
   have h:Ik (rc n) T N ns t it body els=some m:=h
   unfold Ik at h
   split at h
   ·exact HK O R h S
   ·cases h
 | While c body els p=>
   have h:sWh (rc n) T N ns c body els=some m:=h
   unfold sWh at h
   split at h
   ·obtain⟨mc,e1,h⟩:=bind_eq h
    obtain⟨mb,e2,rfl⟩:=map_eq h
    exact EK S (R.t _ _ _ _ e1 X S) (R.b _ _ _ _ e2 X S)
   ·cases h
 | Pass p=>
   cases h;exact HQ
 | Break p=>
   cases h;exact Ju
 | Raise a b p=>
   cases h;exact Kt
 | Continue p=>
   cases h;exact Jl
 | _=>cases h
theorem Jm(Gk:GOk M T k)(R:Snd M T k n)(RA: ∀M T k,GOk M T k->Snd M T k n): ∀N ns sts m,cB T (n+1) N ns sts=some m -> ∀X,Sc M X k N ns->PSs X sts (tMS M.K m):=by
 intro N ns sts m h X S
 simp only[cB,rc,sB]at h
 split at h
 ·cases h;exact Fk
 ·exact Bl (R.s _ _ _ _ h X S)
 ·obtain⟨ma,e1,h⟩:=bind_eq h
  obtain⟨mr,e2,rfl⟩:=map_eq h
  exact vV (R.s _ _ _ _ e1 X S) (R.b _ _ _ _ e2 X S)
theorem snd: ∀n M T k,GOk M T k->Snd M T k n
 | 0,M,T,k,_=>LY M T k
 | n+1,M,T,k,Gk=>by
   have RA:=snd n
   have R:=RA M T k Gk
   exact⟨K3 Gk R RA,JD Gk.1 R,Jz Gk.1 R,λN ns g m h=>(by cases (show(none:Option ME)=some m from h)),Jg R,JM R,IJ R,Ja R,Jo R,I0 Gk.1 R,KS R,FU R,J3 Gk.1 R,Jm Gk R RA⟩
theorem vS{x qual:Str}{st:Stmt}{f:Addr}{fd:FuncData}{N ps:List Str}{ms:MS}{fu:Nat}(O:TOk M T k)(h0:M.mkr=none)(h1:T.mkr=false)(F:Fun M.K x qual st f fd)(S:aV N ps (aj st))(hm:M.mg x=some (.ref f))(hb:Binds M.K fd ps [])
  (h:cB T fu N (aj st).names (aM st)=some ms):Fn M x (k+1) ps (run ps.length N.length ms):=
 ⟨f,fd,hm,F.2,hb,yz h0 F S λX S'=>(snd fu M T k (.of O h1)).b _ _ _ _ h X S'⟩
end
end _G
end
section
namespace _G
open PySem PySem.Spec _L
open PyProof.Rows hiding St
structure Def(K:ah)(x:Str)(st:Stmt):Prop where
 ex: ∃f fd,aU K mainGlobals x=some (some (.ref f))/\Fun K x x st f fd
theorem cP{K:ah}{x:Str}{st:Stmt}{f:Addr}{od an:Option Addr}{sl:Array (Option Value)}{oc kV doc pm cd ct:Value}(a:aU K mainGlobals x=some (some (.ref f)))
  (l:K.lookup f=some ⟨oc,od,.func (cb x x (eA st) (aM st) (aj st) .none kV doc pm an cd ct),sl⟩) (c:fF K cd x=true) (k:bP K (.ref f)=true):Def K x st:=
 ⟨f,_,a,BN l c k⟩
section
variable {M:Mo}{T:Tb}{k:Nat}{h:Heap}{x:Str}{st:Stmt}{N ps:List Str}{ms:MS}{fu:Nat}
theorem Def.fn(O:TOk M T k)(h0:M.mkr=none)(h1:T.mkr=false)(X:M.K.K.In h)(Gn:h.Ns mainGlobals M.mg)(D:Def M.K x st)(S:aV N ps (aj st))
  (hb: ∀(kV doc pm:Value) (an:Option Addr) (cdv ct:Value) (us:List Value),us.length=ps.length->bindArgs (cb x x (eA st) (aM st) (aj st) .none kV doc pm an cdv ct) ⟨us,[]⟩=pure (ps.zip us))
  (hc:cB T fu N (aj st).names (aM st)=some ms):Fn M x (k+1) ps (run ps.length N.length ms):=by
 obtain⟨f,fd,a,F⟩:=D.ex
 exact vS O h0 h1 F S (bF X Gn a) (F.binds hb) hc
theorem Fn.lam{j:Nat}{a:Addr}{mf:MF}(F:Fn M x j ps mf)(ha:M.mg x=some (.ref a)):Lam M a j ps mf:=by
 obtain⟨f,fd,h1,h2,h3,h4⟩:=F.ex
 have e:f=a:=by rw[h1]at ha;injection ha with ha;injection ha
 subst e
 exact⟨fd,.inr h2,h3,h4⟩
noncomputable def pE(p n:Nat)(ms:MF->MS):Nat->MF
 | 0=>λ_ _=>none
 | i+1=>run p n (ms (pE p n ms i))
theorem Fn.mono{j:Nat}{mf:MF}(F:Fn M x j ps mf)(hj:j<=k):Fn M x k ps mf:=by
 obtain⟨f,fd,a,b,c,d⟩:=F.ex
 exact⟨f,fd,a,b,c,d.mono hj⟩
theorem FnX.mono{cl:Nat->Addr}{j:Nat}{r:RF}(F:FnX M cl x j ps r)(hj:j<=k):FnX M cl x k ps r:=by
 obtain⟨f,fd,a,b,c,d⟩:=F.ex
 exact⟨f,fd,a,b,c,d.mono hj⟩
theorem TOk.mono{j:Nat}(O:TOk M T k)(hj:k<=j):TOk M T j where
 Z:=λy r hy=>let ⟨k',ps',hk,F'⟩:=O.Z y r hy;⟨k',ps',aB hk hj,F'⟩
 D:=λy g hy=>let ⟨k',ps',hk,F'⟩:=O.D y g hy;⟨k',ps',aB hk hj,F'⟩
 C:=O.C
 B:=O.B
 L:=λy q hy=>let ⟨k',ps',hk,F'⟩:=O.L y q hy;⟨k',ps',aB hk hj,F'⟩
 mkr:=O.mkr
theorem TOk.cons{j:Nat}{mf:MF}(O:TOk M T k)(F:Fn M x j ps mf)(hj:k<=j):TOk M ⟨(x,mf)::T.D,T.C,T.L,T.H,T.mkr,T.Z⟩ j where
 D:=λy g hy=>by
  rw[aF]at hy
  cases e:y==x with
  | true=>rw[e]at hy;cases hy;rw[eq_of_beq e];exact⟨j,ps,ak _,F⟩
  | false=>
    rw[e]at hy
    obtain⟨k',ps',hk,F'⟩:=O.D y g hy
    exact⟨k',ps',aB hk hj,F'⟩
 C:=O.C
 B:=O.B
 L:=(O.mono hj).L
 mkr:=O.mkr
 Z:=(O.mono hj).Z
theorem TOk.fv{a:Addr}(O:TOk M T k)(ha:M.mg x=some (.ref a)):TOk M ⟨T.D,(x,.obj a)::T.C,T.L,T.H,T.mkr,T.Z⟩ k where
 D:=O.D
 C:=λy u hy=>by
  rw[aF]at hy
  cases e:y==x with
  | true=>
    rw[e]at hy;cases hy;rw[eq_of_beq e]
    exact⟨_,.ref a,ha,rfl,λ_ _=>by simp only[RU]⟩
  | false=>rw[e]at hy;exact O.C y u hy
 B:=O.B
 L:=O.L
 mkr:=O.mkr
 Z:=O.Z
theorem TOk.lam{j:Nat}{a:Addr}{y:Str}{φ:MF}(O:TOk M T k)(F:Lam M a j ps φ)(hj:j<=k):TOk M ⟨T.D,T.C,[(y,a,φ)],T.H,T.mkr,T.Z⟩ k where
 D:=O.D
 C:=O.C
 B:=O.B
 L:=λz q hz=>by
  rw[aF]at hz
  cases e:z==y with
  | true=>rw[e]at hz;cases hz;exact⟨j,ps,hj,F⟩
  | false=>rw[e]at hz;cases hz
 mkr:=O.mkr
 Z:=O.Z
theorem Def.fnR{msR:MF->MS}(O:TOk M T k)(h0:M.mkr=none)(h1:T.mkr=false)(X:M.K.K.In h)(Gn:h.Ns mainGlobals M.mg)(D:Def M.K x st)(S:aV N ps (aj st))
  (hb: ∀(kV doc pm:Value) (an:Option Addr) (cdv ct:Value) (us:List Value),us.length=ps.length->bindArgs (cb x x (eA st) (aM st) (aj st) .none kV doc pm an cdv ct) ⟨us,[]⟩=pure (ps.zip us))
  (hc: ∀ψ,cB ⟨(x,ψ)::T.D,T.C,T.L,T.H,T.mkr,T.Z⟩ fu N (aj st).names (aM st)=some (msR ψ)): ∀i,Fn M x (k+i) ps (pE ps.length N.length msR i)
 | 0=>by
   obtain⟨f,fd,a,F⟩:=D.ex
   refine⟨f,fd,bF X Gn a,F.2,F.binds hb,?_,?_⟩
   ·rintro vs H Q E ⟨μ,S,us,u,S',_,_,e,_⟩
    cases e
   ·rintro A outer s H args us vs Q E _ _ _ _ ⟨μ,S,us,u,S',_,_,e,_⟩
    cases e
 | i+1=>D.fn (T:=⟨(x,pE ps.length N.length msR i)::T.D,T.C,T.L,T.H,T.mkr,T.Z⟩) (k:=k+i) (O.cons (Def.fnR O h0 h1 X Gn D S hb hc i) (by omega)) h0 h1 X Gn S hb (hc _)
theorem TOk.setH{Hs:List (Str×(Addr->MF->MF))}(O:TOk M T k):TOk M ⟨T.D,T.C,T.L,Hs,T.mkr,T.Z⟩ k:=⟨O.D,O.C,O.B,O.L,O.mkr,O.Z⟩
theorem TOk.con{i:Int}(O:TOk M T k)(X:M.K.K.In h)(Gn:h.Ns mainGlobals M.mg)(a: ∃t,aU M.K mainGlobals x=some (some (.int i t))):TOk M ⟨T.D,(x,.int i)::T.C,T.L,T.H,T.mkr,T.Z⟩ k where
 D:=O.D
 C:=λy u hy=>by
  rw[aF]at hy
  cases e:y==x with
  | true=>
    rw[e]at hy;cases hy;rw[eq_of_beq e]
    obtain⟨t,a⟩:=a
    exact⟨_,.int i,bF X Gn a,⟨t,rfl⟩,λ_ _=>eG⟩
  | false=>rw[e]at hy;exact O.C y u hy
 B:=O.B
 L:=O.L
 mkr:=O.mkr
 Z:=O.Z
theorem TOk.nil{Fs:List (Str×List Nat)}{cl:Nat->Addr}{nm:Str}(X:M.K.K.In h)(Gn:h.Ns mainGlobals M.mg)(B: ∀x∈i5,aU M.K mainGlobals x=some none):TOk M ⟨[],[],[],[],false,⟨[],Fs,cl,nm⟩⟩ 0 where
 D:=λy g hy=>by cases hy
 C:=λy g hy=>by cases hy
 B:=λy hy=>CO X Gn (B y hy)
 L:=λy g hy=>by cases hy
 mkr:=λh=>by cases h
 Z:=λy g hy=>by cases hy
theorem Def.fnC{y:Str}{msC:Addr->MF->MS}(O: ∀caps capv cds base,fD M.mg base->TOk (M.to caps capv cds base) T k)(h1:T.mkr=false)(hL:T.L = [])(X:M.K.K.In h)(Gn:h.Ns mainGlobals M.mg)(D:Def M.K x st)(S:aV N ps (aj st))
  (hb: ∀(kV doc pm:Value) (an:Option Addr) (cdv ct:Value) (us:List Value),us.length=ps.length->bindArgs (cb x x (eA st) (aM st) (aj st) .none kV doc pm an cdv ct) ⟨us,[]⟩=pure (ps.zip us))
  (hc: ∀g φ,cB ⟨T.D,T.C,[(y,g,φ)],T.H,T.mkr,T.Z⟩ fu N (aj st).names (aM st)=some (msC g φ)):FnC M x k ps λg φ=>run ps.length N.length (msC g φ):=by
 obtain⟨f,fd,a,F⟩:=D.ex
 refine⟨f,fd,bF X Gn a,F.2,F.binds hb,λcaps capv cds base g j lps φ hbb hkj lam =>?_⟩
 have O':TOk (M.to caps capv cds base) ⟨T.D,T.C,[(y,g,φ)],T.H,T.mkr,T.Z⟩ j:=by
  have O1:=(O caps capv cds base hbb).mono hkj
  refine⟨O1.D,O1.C,O1.B,λz q hz =>?_,(λhm=>by rw[h1]at hm;cases hm),O1.Z⟩
  rw[aF]at hz
  cases e:z==y with
  | true=>rw[e]at hz;cases hz;exact⟨j,lps,ak _,lam⟩
  | false=>rw[e]at hz;cases hz
 exact yz (M:=M.to caps capv cds base) rfl F S λX' S'=>(snd fu _ _ _ (.of O' h1)).b _ _ _ _ (hc g φ) X' S'
end
structure kI(K:ah)(x:Str)(st:Stmt)(c P:Addr):Prop where
 ex: ∃(f:Addr) (oc:Value) (od:Option Addr) (kV doc pm:Value) (an:Option Addr) (ct:Value) (sl:Array (Option Value)),aU K mainGlobals x=some (some (.ref f)) /\
  K.lookup f=some ⟨oc,od,.func (cb x x (eA st) (aM st) (aj st) .none kV doc pm an (.ref c) ct),sl⟩/\fF K (.ref c) x=true/\bP K (.ref f)=true
 cd : ∃ (vs:Array Value) (od:Option Addr) (sl:Array (Option Value)) (file:Str) (tf:Tok) (flags:Int) (tg:Tok) (inF:Bool) (text:Int) (tt:Tok),K.lookup c=some ⟨.type "code",od,.fields vs,sl⟩/\vs[11]? = some (.ref P)/\vs.getD 11 .none = .ref P/\vs.getD 18 .none = .str file tf /\
  vs.getD 7 .none = .int flags tg/\vs.getD 9 .none = .bool inF/\vs.getD 10 .none = .int text tt/\c≠P
section
variable {M:Mo}{T:Tb}{k:Nat}{h:Heap}{x:Str}{st:Stmt}{N ps:List Str}{ms:MS}{fu:Nat}{c P:Addr}
theorem kI.mkr(D:kI M.K x st c P)(B:fD M.mg M.base)(X:M.K.K.In h)(Gn:h.Ns mainGlobals M.mg){q:Str}(hm:(P,q)∈M.K.tabs)(nd:(M.K.tabs.map (·.1)).Nodup)(hg:mainGlobals≠P):Mkr M c P q where
 hd:=λh' X'=>by
  obtain⟨vs,od,sl,file,tf,flags,tg,inF,text,tt,e,r⟩:=D.cd
  obtain⟨r1,r2,r3,r4,r5,r6,r7⟩:=r
  exact⟨_,vs,file,tf,flags,tg,inF,text,tt,X' _ _ e,rfl,rfl,r1,r2,r3,r4,r5,r6,r7⟩
 bl:=B
 gP:=hg
 mem:=hm
 un:=λr hr e=>by
  have key: ∀(l:List (Addr×Str)),(l.map (·.1)).Nodup->r∈l->(P,q)∈l->r.2=q:=by
   intro l
   induction l with
   | nil=>intro _ h;simp at h
   | cons y l ih=>
     intro nd h1 h2
     rw[bD,fk]at nd
     rcases aX.mp h1 with h1 |h1
     ·rcases aX.mp h2 with h2 |h2
      ·rw[h1,<- h2]
      ·exact absurd (bB.mpr ⟨_,h2,rfl⟩) (by rw[<- e,h1]at *;exact nd.1)
     ·rcases aX.mp h2 with h2 |h2
      ·exact absurd (bB.mpr ⟨r,h1,e⟩) (by rw[<- h2]at nd;exact nd.1)
      ·exact ih nd.2 h1 h2
  exact key _ nd hr hm
theorem kI.ok (D:kI M.K x st c P) (h0:M.mkr=none) (O : ∀ caps capv cds base,fD M.mg base->TOk (M.to caps capv cds base) T k) (O0:TOk M T k) (hL:T.L = []) (h1:T.mkr=false) (hH : ∀ y F,T.H.lookup y=some F -> ∃ k' ps,k'<=k+1/\FnC M y k' ps F) (hF : ∀ y rz,T.Z.F.lookup y=some rz -> ∃ k',k'<=k+1/\FnR M T.Z.cl y k' rz) {nm:Str} (MK:Mkr M c P (x++".<locals>."++nm))
  (S:aV N ps (aj st)) (hc:cB ⟨T.D,T.C,T.L,T.H,true,T.Z.to nm⟩ fu N (aj st).names (aM st)=some ms)
  {f:Addr}{oc kV doc pm ct:Value}{od an:Option Addr}{sl:Array (Option Value)} (lk:M.K.K.lookup f=some ⟨oc,od,.func (cb x x (eA st) (aM st) (aj st) .none kV doc pm an (.ref c) ct),sl⟩) (hcd:fF M.K.K (.ref c) x=true):
  gy M.P M.w M.K M.mg M.base CX0 (k+3) f (cb x x (eA st) (aM st) (aj st) .none kV doc pm an (.ref c) ct) ps (spM M.K (run ps.length N.length ms)):=by
 let M1:Mo:=⟨M.P,M.w,M.K,M.mg,M.base,some (c,x++".<locals>.")⟩
 have O1:TOk M1 ⟨T.D,T.C,T.L,T.H,true,T.Z.to nm⟩ (k+2):=by
  have Om:=O0.mono (show k<=k+2 by omega)
  refine⟨fun y g hy => ?_,Om.C,Om.B,fun y q hy => ?_,fun _=>⟨c,x++".<locals>.",P,rfl,MK.hd,MK.bl,MK.gP,MK.mem,MK.un⟩,fun y r hy => ?_⟩
  ·obtain⟨k',ps',hk,F'⟩:=Om.D y g hy
   exact⟨k',ps',hk,⟨F'.ex⟩⟩
  ·rw[show(⟨T.D,T.C,T.L,T.H,true,T.Z.to nm⟩:Tb).L=T.L from rfl,hL]at hy
   cases hy
  ·obtain⟨k',ps',hk,F'⟩:=Om.Z y r hy
   exact⟨k',ps',hk,⟨F'.ex⟩⟩
 have G1:GOk M1 ⟨T.D,T.C,T.L,T.H,true,T.Z.to nm⟩ (k+2):=⟨O1,λ_=>⟨k,ak _,λy F hy=>by
  obtain⟨k',ps',hk,FC⟩:=hH y F hy
  exact⟨k',ps',hk,⟨FC.ex⟩⟩,λy rz hy=>by
  obtain⟨k',hk,FC⟩:=hF y rz hy
  exact⟨k',hk,⟨FC.ex⟩⟩,λcaps capv cds base hbb=>by
   have Ob:=O caps capv cds base hbb
   exact⟨Ob.D,Ob.C,Ob.B,λy q hy=>(by cases hy),λz=>(by cases z),Ob.Z⟩⟩⟩
 have len: ∀vs H Q E,spM M.K (run ps.length N.length ms) vs H Q E->vs.length=ps.length:=λvs H Q E h=>by
  obtain⟨μ,S',us,u,S'',hr,rs,e,_⟩:=h
  unfold run at e
  split at e
  ·rename_i hl;rw[<- rs.len];exact hl
  ·cases e
 refine _L.vS lk hcd S len λA outer s H vs Q E hr h=>⟨tMS M.K ms,((snd fu M1 _ _ G1).b _ _ _ _ hc _ (Sc.def (M:=M1) S hr λc' q' hq=>by cases hq;exact⟨rfl,rfl⟩)).nox,?_⟩
 obtain⟨μ,S1,us,u,S2,hr,rs,e,ka⟩:=h
 unfold run at e
 split at e
 ·rename_i hl
  have er:=mx (N:=N) rs
  rw[hl]at er
  split at e
  ·rename_i w ρ' S3 q
   cases e
   exact⟨μ,S1,_,_,hr,er,q,ka⟩
  ·rename_i ρ' S3 q
   cases e
   exact⟨μ,S1,_,_,hr,er,q,λμ' σ' H' p' k' hr' er'=>ka μ' _ H' p' k' hr' qB⟩
  ·cases e
 ·cases e
theorem kI.fn (D:kI M.K x st c P) (h0:M.mkr=none) (O : ∀ caps capv cds base,fD M.mg base->TOk (M.to caps capv cds base) T k) (O0:TOk M T k) (hL:T.L = []) (h1:T.mkr=false) (hH : ∀ y F,T.H.lookup y=some F -> ∃ k' ps,k'<=k+1/\FnC M y k' ps F) (hF : ∀ y rz,T.Z.F.lookup y=some rz -> ∃ k',k'<=k+1/\FnR M T.Z.cl y k' rz) {nm:Str} (MK:Mkr M c P (x++".<locals>."++nm))
  (X:M.K.K.In h) (Gn:h.Ns mainGlobals M.mg) (S:aV N ps (aj st))
  (hb: ∀(kV doc pm:Value) (an:Option Addr) (cdv ct:Value) (us:List Value),us.length=ps.length->bindArgs (cb x x (eA st) (aM st) (aj st) .none kV doc pm an cdv ct) ⟨us,[]⟩=pure (ps.zip us))
  (hc:cB ⟨T.D,T.C,T.L,T.H,true,T.Z.to nm⟩ fu N (aj st).names (aM st)=some ms):Fn M x (k+3) ps (run ps.length N.length ms):=by
 obtain⟨f,oc,od,kV,doc,pm,an,ct,sl,a,lk,hcd,hkp⟩:=D.ex
 exact⟨f,_,bF X Gn a,hkp,.all (hb kV doc pm an (.ref c) ct),D.ok h0 O O0 hL h1 hH hF MK S hc lk hcd⟩
theorem kI.def(D:kI M.K x st c P):Def M.K x st:=by
 obtain⟨f,oc,od,kV,doc,pm,an,ct,sl,a,lk,hcd,hkp⟩:=D.ex
 exact⟨f,_,a,BN lk hcd hkp⟩
end
section
variable {M:Mo}
theorem ku{Hs:List (Str×(Addr->MF->MF))}{j k:Nat}(h: ∀y F,Hs.lookup y=some F -> ∃k' ps,k'<=j/\FnC M y k' ps F)(hj:j<=k): ∀y F,Hs.lookup y=some F -> ∃k' ps,k'<=k/\FnC M y k' ps F:=λy F hy=>
 let ⟨k',ps,a,b⟩:=h y F hy;⟨k',ps,aB a hj,b⟩
theorem En{Hs:List (Str×(Addr->MF->MF))}{i j k:Nat}{x:Str}{F0:Addr->MF->MF}{ps:List Str}(h: ∀y F,Hs.lookup y=some F -> ∃k' ps,k'<=j/\FnC M y k' ps F)(F1:FnC M x i ps F0)(hi:i<=k)(hj:j<=k): ∀y F,((x,F0)::Hs).lookup y=some F -> ∃k' ps,k'<=k/\FnC M y k' ps F:=λy F hy=>by
 rw[aF]at hy
 cases e:y==x with
 | true=>rw[e]at hy;cases hy;rw[eq_of_beq e];exact⟨i,ps,hi,F1⟩
 | false=>rw[e]at hy;exact ku h hj y F hy
end
theorem uR{K:ah}{x:Str}{st:Stmt}{f c P:Addr}{od an od':Option Addr}{sl sl':Array (Option Value)}{oc kV doc pm ct:Value}{vs:Array Value}{file:Str}{tf tg tt:Tok}{flags text:Int}{inF:Bool}(a:aU K mainGlobals x=some (some (.ref f)))
  (l:K.lookup f=some ⟨oc,od,.func (cb x x (eA st) (aM st) (aj st) .none kV doc pm an (.ref c) ct),sl⟩) (cc:fF K (.ref c) x=true) (k:bP K (.ref f)=true)
  (e:K.lookup c=some ⟨.type "code",od',.fields vs,sl'⟩) (r1:vs[11]? = some (.ref P)) (r2:vs.getD 11 .none = .ref P) (r3:vs.getD 18 .none = .str file tf) (r4:vs.getD 7 .none = .int flags tg) (r5:vs.getD 9 .none = .bool inF) (r6:vs.getD 10 .none = .int text tt) (r7:c≠P):kI K x st c P:=
 ⟨⟨f,oc,od,kV,doc,pm,an,ct,sl,a,l,cc,k⟩,⟨vs,od',sl',file,tf,flags,tg,inF,text,tt,e,r1,r2,r3,r4,r5,r6,r7⟩⟩
theorem Ia {l:je}{w:World}{K:ah}{h:Heap}{mg:Str->Option Value}{fa:Addr}{st:Stmt}{N:List Str}{ms:MS}{fu k:Nat}{T:Tb} (X:K.In h) (Gn:h.Ns mainGlobals mg) (hfa:mg "law"=some (.ref fa))
  (D:Def K "law" st) (S:aV N ["script"] (aj st))
  (hb : ∀ (kV doc pm:Value) (an:Option Addr) (cdv ct:Value) (us:List Value),us.length = ["script"].length->bindArgs (cb "law" "law" (eA st) (aM st) (aj st) .none kV doc pm an cdv ct) ⟨us,[]⟩=pure ((["script"]:List Str).zip us))
  {tabs:List (Addr×Str)} (h1:T.mkr=false) (hO: ∀base:Heap,fD mg base->TOk ⟨l.prog,w,⟨K,[],[],[],tabs⟩,mg,base,none⟩ T k) (hc:cB T fu N (aj st).names (aM st)=some ms):
  ∃ fd:FuncData,(∀ (s:Shared) (v:Value),BindsTo s fd ⟨[v],[]⟩ [("script",v)]) /\ ∀ base:Heap,K.In base->base.Ns mainGlobals mg->fD mg base->gy l.prog w K mg base CX0 (k+1) fa fd ["script"] (spM ⟨K,[],[],[],tabs⟩ (run 1 N.length ms)):=by
 obtain⟨f,fd,a,F⟩:=D.ex
 have e:=hfa.symm.trans (bF X Gn a)
 cases e
 refine⟨fd,λs v =>?_,λbase _ _ hbb=>yz (M:=⟨l.prog,w,⟨K,[],[],[],tabs⟩,mg,base,none⟩) rfl F S λX' S'=>(snd fu _ _ _ (.of (hO base hbb) h1)).b _ _ _ _ hc X' S'⟩
 obtain⟨oc,od,kV,doc,pm,an,cdv,ct,osl,rfl,lk,hcd⟩:=F.ex
 exact .of_eq (hb kV doc pm an cdv ct [v] rfl)
theorem Kc{K:ah}{tabs:List (Addr×Str)}{H:Hp}{a:Addr}{ns:List Int}{m:MF}(hT: ∀q∈tabs,xW H q.1 q.2)(hS:SqL K H a (ns.map V.int))(hm: ∀S:Sto,S.length=1->getL S 0=some (ns.map U.int) -> ∃S',m [.ref 0] S=some (.bl true,S')):
  spM ⟨K,[],[],[],tabs⟩ m [.ref a] H (λv _=>v = .bl true) λ_ _ _=>False:=by
 have key: ∃c:Cell,mS ⟨K,[],[],[],tabs⟩ H [a] a c/\getL [c] 0=some (ns.map U.int):=by
  rcases hS with (h | ⟨o,h⟩) |h
  ·exact⟨.lst (ns.map U.int),⟨_,h,RUs.ints ns⟩,rfl⟩
  ·exact⟨.frz (ns.map U.int),⟨_,.inl ⟨o,h⟩,RUs.ints ns⟩,rfl⟩
  ·exact⟨.frz (ns.map U.int),⟨_,.inr (.inr h),RUs.ints ns⟩,rfl⟩
 obtain⟨c,hc,hg⟩:=key
 obtain⟨S',e⟩:=hm [c] rfl hg
 refine⟨[a],[c],[.ref 0],.bl true,S',⟨rfl,λn m us ws q1 q2 _ _ _ =>?_,λn c' b q1 q2 =>?_,⟨.nil,λq hq=>(nomatch hq),hT⟩⟩,.cons (tV rfl) .nil,e,λμ' v H' _ _ _ r=>kR r⟩
 ·have h1:=(af.mp q1).1
  have h2:=(af.mp q2).1
  simp at h1 h2;omega
 ·have h1:=(af.mp q1).1
  simp at h1;subst h1
  cases q1;cases q2
  exact hc
end _G
end
section
namespace _G
open PySem PySem.Spec _L
open PySem.W (CodeHd tabObj tabIn)
open PyProof.Rows hiding St
theorem kI.tab{K:ah}{x:Str}{st:Stmt}{c P:Addr}(D:kI K x st c P):tabIn K x=some (c,P):=by
 obtain⟨f,oc,od,kV,doc,pm,an,ct,sl,e1,e2,_⟩:=D.ex
 obtain⟨vs,od',sl',file,tf,flags,tg,inF,text,tt,e3,e4,_⟩:=D.cd
 unfold tabIn
 simp only[e1,e2,e3,e4]
noncomputable def vk(K:ah)(tabs:List (Addr×Str))(a:Addr)(o:Obj)(xs:List V):Hp:=λb=>
 if b∈tabs.map (·.1) then some (.tbl #[]) else if b=a/\K.lookup a=none then some (.frz o (.lst xs)) else none
section
variable {P:Program}{w:World}{K:ah}{mg mb:Str->Option Value}{k:Nat}{fa a:Addr}{fd:FuncData}{x:Str}{sp:Sp}{s:Shared}{vs:List Value}{ns:List Int}{tabs:List (Addr×Str)}
theorem DZ (kx:K.In s.heap) (hns:s.heap.Ns mainGlobals mg) (hb:s.heap.Ns builtinsNs mb) (hbb : ∀ x:Str,x≠"__name__"->mb x=bootBuiltins x) (hlim:s.heap.NoLimit) (hbm:fD mg s.heap) (hg:s.gens = #[])
  (ha:s.heap.get? a=some { cls := .type "list",data := .seq vs.toArray }) (hi:IntsAre vs ns) (hl:ns.length<=sizeLine) (hr:iG k callerA)
  (hT: ∀r∈tabs,K.lookup r.1=none /\ ∃c,s.heap.TableAt c r.1 #[])
  (F: ∀base:Heap,K.In base->base.Ns mainGlobals mg->fD mg base->gy P w K mg base CX0 k fa fd [x] sp) (hbind: ∀(s:Shared) (u:Value),BindsTo s fd ⟨[u],[]⟩ [(x,u)])
  (hsp: ∀H:Hp,(∀r∈tabs,xW H r.1 r.2)->SqL K H a (ns.map V.int)->sp [.ref a] H (λv _=>v = .bl true) λ_ _ _=>False):
  jY (model P w) callerA (.call (.ref fa) ⟨[.ref a],[]⟩) (λr s'=>r = .ok (.ret (.bool true))/\OldK s.heap s'.heap/\s'.os=s.os/\AllBare s'.gens) s:=by
 have rv:=iR hi
 have lenV:=hi.length
 let o:Obj:={ cls := .type "list",data := .seq vs.toArray }
 let H:=vk K tabs a o (ns.map V.int)
 have hH:H=vk K tabs a o (ns.map V.int):=rfl
 have tab: ∀b,b∈tabs.map (·.1)->H b=some (.tbl #[])/\K.lookup b=none /\ ∃c,s.heap.TableAt c b #[]:=λb hb=>by
  obtain⟨r,hr,e⟩:=bB.mp hb
  subst e
  exact⟨if_pos hb,hT r hr⟩
 have anot:a∉tabs.map (·.1):=λz=>by
  obtain⟨_,_,c,ht⟩:=tab a z
  have e:=ht.2
  rw[ha]at e
  cases e
 have Hof: ∀b u,H b=some u->(b∈tabs.map (·.1)/\u = .tbl #[])\/(b=a/\K.lookup a=none/\u = .frz o (.lst (ns.map V.int))):=λb u e=>by
  rw[hH]at e
  unfold vk at e
  split at e
  ·rename_i z;cases e;exact .inl ⟨z,rfl⟩
  ·split at e
   ·rename_i z;cases e;exact .inr ⟨z.1,z.2,rfl⟩
   ·cases e
 have nodic: ∀{b:Addr}{o:Obj}{es:Array DictEntry}{ep:Nat},s.heap.get? b=some o->o.data = .dict es ep->H b=none:=λ{b o' es ep} e d=>by
  cases q:H b with
  | none=>rfl
  | some u=>
    rcases Hof b u q with⟨z,_⟩ | ⟨z,_⟩
    ·obtain⟨_,_,c,ht⟩:=tab b z
     have e2:=ht.2
     rw[e]at e2;cases e2;cases d
    ·subst z
     rw[ha]at e;cases e;cases d
 have nsK: ∀{b:Addr}{m:Str->Option Value},s.heap.Ns b m->(nk s.heap H).Ns b m:=λ{b m} ⟨o,es,ep,e,d,r⟩=>⟨o,es,ep,lY e (nodic e d),d,r⟩
 have hKb:K.In (nk s.heap H):=λb o' e=>lY (kx b o' e) (by
  cases q:H b with
  | none=>rfl
  | some u=>
    rcases Hof b u q with⟨z,_⟩ | ⟨z,z2,_⟩
    ·rw[(tab b z).2.1]at e;cases e
    ·rw[z,z2]at e;cases e)
 have hok:HOk P w H s.heap:=λb u e=>by
  rcases Hof b u e with⟨z,rfl⟩ | ⟨rfl,z2,rfl⟩
  ·obtain⟨_,_,c,ht⟩:=tab b z
   exact ht.2
  ·exact⟨ha,by rw[aE];exact hl,vs,_,rv,ha⟩
 have hS:SqL K H a (ns.map V.int):=by
  cases hk:K.lookup a with
  | some o'=>
    have e:=kx a o' hk
    rw[ha]at e
    cases e
    exact .inr ⟨_,vs.toArray,_,hk,rfl,rfl,rfl,by rw[aC,lenV];exact hl,by simpa using rv⟩
  | none=>exact .inl (.inr ⟨o,by show vk K tabs a o (ns.map V.int) a=_;unfold vk;rw[if_neg anot,if_pos ⟨rfl,hk⟩]⟩)
 have hM:Mod K mg (nk s.heap H):=⟨hKb,nsK hns,⟨mb,nsK hb,hbb⟩,let ⟨mc,h1,h2⟩:=hlim;⟨mc,nsK h1,h2⟩⟩
 have e0:sk P w K mg (nk s.heap H) callerA [] s H:=⟨rfl,hM,λb o e=>uy e,kg (oG _ _),trivial,λb hb=>absurd (show b∈([]:List Addr) from hb) (by simp),hok,.of_eq hg⟩
 have hBb:fD mg (nk s.heap H):=by
  obtain⟨bm,ob,e1,e2,e3,e4,e5,e6⟩:=hbm
  refine⟨bm,ob,e1,e2,lY e3 ?_,e4,e5,e6⟩
  cases q:H bm with
  | none=>rfl
  | some u=>
    rcases Hof bm u q with⟨z,_⟩ | ⟨z,_⟩
    ·obtain⟨_,_,c,ht⟩:=tab bm z
     have e:=ht.2
     rw[e3]at e;cases e;cases e6
    ·rw[z,ha]at e3;cases e3;cases e6
 have hTR: ∀r∈tabs,xW H r.1 r.2:=λr hr=>⟨#[],(tab r.1 (bB.mpr ⟨r,hr,rfl⟩)).1,trivial,λpos cv h=>by cases h⟩
 refine gK ((F _ hKb (nsK hns) hBb).run callerA [] s H ⟨[.ref a],[]⟩ [.ref a] [.ref a] _ _ hr e0 (hbind s (.ref a)) (.cons rfl .nil) (hsp H hTR hS)) λr s' h =>?_
 cases r with
 | error e=>exact h.elim
 | ok fl=>
   cases fl with
   | next=>exact bC h
   | brk=>exact bC h
   | cont=>exact bC h
   | ret u=>
     obtain⟨v,H',os,bare,un,hok',r',q⟩:=h
     have q':v = .bl true:=q
     subst q'
     obtain rfl:u=wL true:=r'
     refine⟨rfl,⟨λb o' e =>?_,λb o' e=>un.there b o' e (by simp)⟩,os,bare⟩
     cases q:H b with
     | none=>exact .inl (un.keep b o' e q (by intro z;exact absurd (show b∈([]:List Addr) from z) (by simp)) (by simp))
     | some u=>
       rcases Hof b u q with⟨z,rfl⟩ | ⟨rfl,_,rfl⟩
       ·obtain⟨_,_,c,ht⟩:=tab b z
        obtain⟨more,e2⟩:=un.tbls b #[] q
        have e3:s'.heap.get? b=some { cls:= .none,data:= .fields (#[]++more) }:=hok' b _ e2
        have e4:=ht.2
        rw[e]at e4
        cases e4
        exact .inr (.inl ⟨ht.isCodeTable,rfl,#[],more,rfl,e3⟩)
       ·obtain⟨e2,_⟩:=hok' b _ (un.frzs b _ _ q)
        rw[ha]at e
        cases e
        exact .inl e2
end
theorem AL{l:je}{n k:Nat}{q:Program}{loose:List Str}{XP:(Str->Option Value)->Heap->Prop}{YP:World->Heap->Prop}{d:DefRec}{K:Params->ah}{x:Str}
  (hn:l.most=some n) (hn2:n<=sizeLine) (hdf:d.params.defaults = []) (hr:iG k callerA) (hY: ∀(w:World) (h:Heap),YP w h->(K w.params).In h)
  (F: ∀(w:World) (mg:Str->Option Value) (fa:Addr) (h:Heap),(K w.params).In h->h.Ns mainGlobals mg->mg d.name=some (.ref fa) -> ∃(tabs:List (Addr×Str)) (fd:FuncData) (sp:Sp),
   (∀r∈tabs,(K w.params).lookup r.1=none /\ ∃x d c,(recsOf q).find? (λe=>e.name==x)=some d/\tabIn (K w.params) x=some (c,r.1)) /\
   (∀(s:Shared) (u:Value),BindsTo s fd ⟨[u],[]⟩ [(x,u)])/\(∀base:Heap,(K w.params).In base->base.Ns mainGlobals mg->fD mg base->gy l.prog w (K w.params) mg base CX0 k fa fd [x] sp) /\
   ∀(H:Hp) (a:Addr) (ns:List Int),ns.length<=n->(∀r∈tabs,xW H r.1 r.2)->SqL (K w.params) H a (ns.map V.int)->sp [.ref a] H (λv _=>v = .bl true) λ_ _ _=>False):
  wR q loose XP YP l.row.toRowW d [] (λf vs=>wQ f vs):=by
 refine Att.attach_call hn hdf λw s₀ s₁ mg mb fa o pm cd doc a vs ns G Y ho hd hcd hmg hobj hints hlen hg =>?_
 have kx:=hY w _ Y
 obtain⟨tabs,fd,sp,hT,hb,hF,hsp⟩:=F w mg fa _ kx G.T.g hmg
 refine DZ (tabs:=tabs) kx G.T.g G.T.b G.T.builtins G.T.nolimit G.T.bmain hg hobj hints (aB hlen hn2) hr (λr hr =>?_) hF hb λH h1 h2=>hsp H a ns hlen h1 h2
 obtain⟨h1,x',d',c,h2,h3⟩:=hT r hr
 obtain⟨h4,h5⟩:=PySem.W.tab_of G.T kx h2 h3
 exact⟨h1,c,h4.tab h5⟩
end _G
end
section
namespace _G
open PySem PySem.Spec _L
theorem usC{p:List Value->Prop}{n:Nat}(h: ∀a us,us.length=n->p (a::us)): ∀us:List Value,us.length=n+1->p us:=λus hl=>by
 cases us with
 | nil=>cases hl
 | cons a us=>exact h a us (Nat.succ.inj hl)
theorem us0{p:List Value->Prop}(h:p []): ∀us:List Value,us.length=0->p us
 | [],_=>h
theorem us1{p:List Value->Prop}(h: ∀a,p [a]): ∀us:List Value,us.length=1->p us:=usC λa us hl=>cQ hl▸h a
theorem us2{p:List Value->Prop}(h: ∀a b,p [a,b]): ∀us:List Value,us.length=2->p us:=usC λa=>us1 (h a)
theorem us3{p:List Value->Prop}(h: ∀a b c,p [a,b,c]): ∀us:List Value,us.length=3->p us:=usC λa=>us2 (h a)
theorem us4{p:List Value->Prop}(h: ∀a b c d,p [a,b,c,d]): ∀us:List Value,us.length=4->p us:=usC λa=>us3 (h a)
theorem us5{p:List Value->Prop}(h: ∀a b c d e,p [a,b,c,d,e]): ∀us:List Value,us.length=5->p us:=usC λa=>us4 (h a)
theorem TOk.nm{M:Mo}{T:Tb}{k:Nat}(h:TOk M T k)(x:Str):TOk M ⟨T.D,T.C,[],T.H,false,T.Z.to x⟩ k:=⟨h.D,h.C,h.B,λ_ _ e=>(by cases e),λz=>(by cases z),h.Z⟩
noncomputable def Bd(x:Str)(st:Stmt)(ps:List Str):Prop:= ∀(kV doc pm:Value) (an:Option Addr) (cdv ct:Value) (us:List Value),us.length=ps.length->bindArgs (cb x x (eA st) (aM st) (aj st) .none kV doc pm an cdv ct) ⟨us,[]⟩=pure (ps.zip us)
structure Ch(P:Program)(w:World)(K:ah)(mg:Str->Option Value)(tabs:List (Addr×Str))(T:Tb)(k:Nat):Prop where
 o: ∀(caps:List U) (capv:List V) (cds:List (Addr×Obj)) (base:Heap),fD mg base->TOk ⟨P,w,⟨K,caps,capv,cds,tabs⟩,mg,base,none⟩ T k
 h: ∀(caps:List U) (capv:List V) (cds:List (Addr×Obj)) (base:Heap),fD mg base -> ∀y F,T.H.lookup y=some F -> ∃k' ps,k'<=k/\FnC ⟨P,w,⟨K,caps,capv,cds,tabs⟩,mg,base,none⟩ y k' ps F
 r: ∀(caps:List U) (capv:List V) (cds:List (Addr×Obj)) (base:Heap),fD mg base -> ∀y rz,T.Z.F.lookup y=some rz -> ∃k',k'<=k/\FnR ⟨P,w,⟨K,caps,capv,cds,tabs⟩,mg,base,none⟩ T.Z.cl y k' rz
theorem mG{M:Mo}{Fs:List (Str×List Nat)}{cl:Nat->Addr}{j k:Nat}(h: ∀y rz,Fs.lookup y=some rz -> ∃k',k'<=j/\FnR M cl y k' rz)(hj:j<=k): ∀y rz,Fs.lookup y=some rz -> ∃k',k'<=k/\FnR M cl y k' rz:=λy rz hy=>
 let ⟨k',a,b⟩:=h y rz hy;⟨k',aB a hj,b⟩
section
variable {P:Program}{w:World}{K:ah}{mg:Str->Option Value}{tabs:List (Addr×Str)}{T T':Tb}{k j:Nat}{h:Heap}{x:Str}{st:Stmt}{N ps:List Str}{ms:MS}{fu:Nat}
theorem Ch.mono(c:Ch P w K mg tabs T k)(hj:k<=j):Ch P w K mg tabs T j:=⟨λa b d e f=>(c.o a b d e f).mono hj,λa b d e f=>ku (c.h a b d e f) hj,λa b d e f=>mG (c.r a b d e f) hj⟩
theorem Ch.dfn(c:Ch P w K mg tabs T k)(O: ∀(caps:List U) (capv:List V) (cds:List (Addr×Obj)) (base:Heap),fD mg base->TOk ⟨P,w,⟨K,caps,capv,cds,tabs⟩,mg,base,none⟩ T' k)(h1:T'.mkr=false)(X:K.In h)(Gn:h.Ns mainGlobals mg)(D:Def K x st)(S:aV N ps (aj st))(hb:Bd x st ps)
  (hc:cB T' fu N (aj st).names (aM st)=some ms):Ch P w K mg tabs ⟨(x,run ps.length N.length ms)::T.D,T.C,T.L,T.H,T.mkr,T.Z⟩ (k+1):=
 ⟨λa b d e f=>(c.o a b d e f).cons (D.fn (M:=⟨P,w,⟨K,a,b,d,tabs⟩,mg,e,none⟩) (O a b d e f) rfl h1 X Gn S hb hc) (bY k),λa b d e f=>ku (c.h a b d e f) (bY k),λa b d e f=>mG (c.r a b d e f) (bY k)⟩
theorem Ch.cls{y:Str}{msC:Addr->MF->MS}(c:Ch P w K mg tabs T k)(h1:T.mkr=false)(hL:T.L = [])(X:K.In h)(Gn:h.Ns mainGlobals mg)(D:Def K x st)(S:aV N ps (aj st))(hb:Bd x st ps)
  (hc: ∀g φ,cB ⟨T.D,T.C,[(y,g,φ)],T.H,T.mkr,T.Z⟩ fu N (aj st).names (aM st)=some (msC g φ)):Ch P w K mg tabs ⟨T.D,T.C,T.L,(x,λg φ=>run ps.length N.length (msC g φ))::T.H,T.mkr,T.Z⟩ k:=
 ⟨λa b d e f=>(c.o a b d e f).setH,λa b d e f=>En (c.h a b d e f) (D.fnC (M:=⟨P,w,⟨K,a,b,d,tabs⟩,mg,e,none⟩) c.o h1 hL X Gn S hb hc) (ak k) (ak k),c.r⟩
theorem Ch.lam_ {a p:Addr}{nm:Str} (c:Ch P w K mg tabs T k) (h1:T.mkr=false) (hL:T.L = []) (hm:(p,x++".<locals>."++nm)∈tabs) (nd:(tabs.map (·.1)).Nodup) (hg:mainGlobals≠p) (X:K.In h) (Gn:h.Ns mainGlobals mg) (D:kI K x st a p) (S:aV N ps (aj st)) (hb:Bd x st ps)
  (hc:cB ⟨T.D,T.C,T.L,T.H,true,T.Z.to nm⟩ fu N (aj st).names (aM st)=some ms):Ch P w K mg tabs ⟨(x,run ps.length N.length ms)::T.D,T.C,T.L,T.H,T.mkr,T.Z⟩ (k+3):=
 ⟨λa b d e f=>(c.o a b d e f).cons (D.fn (M:=⟨P,w,⟨K,a,b,d,tabs⟩,mg,e,none⟩) rfl c.o (c.o a b d e f) hL h1 (ku (c.h a b d e f) (bY k)) (mG (c.r a b d e f) (bY k)) (D.mkr (M:=⟨P,w,⟨K,a,b,d,tabs⟩,mg,e,none⟩) f X Gn hm nd hg) X Gn S hb hc) (dU k 3),λa b d e f=>ku (c.h a b d e f) (dU k 3),λa b d e f=>mG (c.r a b d e f) (dU k 3)⟩
end
end _G
end
section
namespace _G
open PySem PySem.Spec _L
open PyProof.Rows hiding St
section
noncomputable def xNo:MX:=λ_ _=>none
noncomputable def KN(m:ME)(r:MX):MX:=λρ S=>bnd (m ρ S) λ_ S1=>r ρ S1
noncomputable def BB(C:Nat):MX:=λ_ S=>some (C,S)
noncomputable def vW(z:Int):Prop:=z.natAbs.log2<1920/\(toString z:Str).length<=1000
noncomputable instance(z:Int):Decidable (vW z):=bJ _
noncomputable def nI(i C:Nat):MX:=λρ S=>match ρ[i]? with
 | some (some (.int z))=>if vW z then some (C,S) else none
 | _=>none
noncomputable def xIf(c:MT)(a b:MX):MX:=λρ S=>bnd (c ρ S) λk S1=>if k then a ρ S1 else b ρ S1
noncomputable def kG(a:MX)(m:MS)(b:MX):MX:=λρ S=>match a ρ S with
 | some r=>some r
 | none=>match m ρ S with
   | some (.nx,ρ1,S1)=>b ρ1 S1
   | _=>none
noncomputable def lJ(k n:Nat)(r:MX):RF:=λus S=>if us.length=k then r (us.map some++aq (n - k) none) S else none
structure Tx where
 R:List (Str×RF)
 Cl:List (Str×Nat)
noncomputable def HF:Const->Option Str
 | .str s=>some s
 | _=>none
noncomputable def rT:Expr->Option Str
 | .Constant c _ _=>HF c
 | _=>none
noncomputable def yf:Expr->Option Str
 | .Name y _=>some y
 | _=>none
noncomputable def zK:Expr->Option (Str×Int)
 | .FormattedValue e c o _=>if o.isNone then(yf e).map λy=>(y,c) else none
 | _=>none
noncomputable def Ie(a b:Str):U->Bool
 | .int i=>decide (i.natAbs.log2<1920)&&decide (a.length<=1000)&&decide ((toString i:Str).length<=1000)&&decide (b.length<=1000)
 | _=>false
noncomputable def Ln(T:Tb)(ns:NS):List Expr->Option U
 | [x,y,z]=>(rT x).bind λa=>(zK y).bind λq=>(rT z).bind λb=>(T.C.lookup q.1).bind λu=>if q.2 == -1&&dF ns q.1&&bw q.1&&Ie a b u then some u else none
 | _=>none
noncomputable def Kd(N:List Str)(ns:NS):List Expr->Option Nat
 | [x,y,z]=>(rT x).bind λa=>(zK y).bind λq=>(rT z).bind λb=>if q.2 == -1&&lu ns q.1&&bw q.1&&decide (a.length<=1000)&&decide (b.length<=1000) then slot N q.1 else none
 | _=>none
noncomputable def Et(N:List Str)(ns:NS):Expr->Option Nat
 | .JoinedStr es _=>Kd N ns es
 | _=>none
noncomputable def yJ(T:Tb)(ns:NS):Expr->Bool
 | .Constant c _ _=>(HF c).isSome
 | .JoinedStr es _=>(Ln T ns es).isSome
 | _=>false
noncomputable def oneOf{α:Type}:List α->Option α
 | [a]=>some a
 | _=>none
structure Xc where
 e:Tb->Tx->List Str->NS->Expr->Option MX
 a:Tb->Tx->List Str->NS->List Expr->Option MX
 s:Tb->Tx->List Str->NS->Stmt->Option MX
 b:Tb->Tx->List Str->NS->List Stmt->Option MX
section
variable (f:Nat) (R:Xc) (T:Tb) (Z:Tx) (N:List Str) (ns:NS)
noncomputable def xC(g:Str)(as:List Expr):Option MX:=match Z.R.lookup g with
 | some r=>(cA T f N ns as).map (xFn r)
 | none=>match T.D.lookup g with
   | some _=>if as.all notStar then R.a T Z N ns as else none
   | none=>none
noncomputable def xLt(it:Expr)(scope:Scope):Expr->Option MX
 | .Name x _=>if scope.kind==.function&&kq N (wt N x) ns scope.names x&&jS it then R.e T Z N ns it else none
 | _=>none
noncomputable def xLc(scope:Scope)(gens:List Comprehension):Option MX:=(oneOf gens).bind λc=>if c.is_async=0 then xLt R T Z N ns c.iter scope c.target else none
noncomputable def xE:Expr->Option MX
 | .ListComp _ gens scope _=>xLc R T Z N ns scope gens
 | .Call g as ks _=>(yf g).bind λx=>if ks.isEmpty&&(!as.isEmpty&&(dF ns x&&bw x)) then xC f R T Z N ns x as else none
 | .Subscript a b _=>if j4 b then R.e T Z N ns a else none
 | _=>none
noncomputable def xA:List Expr->Option MX
 | []=>none
 | e::r=>if notStar e then(match R.e T Z N ns e with
   | some re=>some re
   | none=>(cE T f N ns e).bind λme=>(R.a T Z N ns r).map (KN me)) else none
noncomputable def xR:Expr->Option MX
 | .Call g as ks _=>(yf g).bind λx=>(oneOf as).bind λa=>if ks.isEmpty&&dF ns x&&bw x&&notStar a&&yJ T ns a then(Z.Cl.lookup x).map BB else none
 | _=>none
noncomputable def xRL:Expr->Option MX
 | .Call g as ks _=>(yf g).bind λx=>(oneOf as).bind λa=>if ks.isEmpty&&dF ns x&&bw x&&notStar a then(Et N ns a).bind λi=>(Z.Cl.lookup x).map (nI i) else none
 | _=>none
noncomputable def xS:Stmt->Option MX
 | .Raise o c _=>if c.isNone then(match o.bind (xR T Z ns) with
   | some r=>some r
   | none=>o.bind (xRL Z N ns)) else none
 | .If c a b _=>(cT T f N ns c).bind λmc=>(R.b T Z N ns a).map λra=>xIf mc ra ((R.b T Z N ns b).getD xNo)
 | .Expr e _=>if iN e then R.e T Z N ns e else none
 | .Return o _=>o.bind λe=>R.e T Z N ns e
 | .Assign ts e _=>(oneOf ts).bind λt=>(yf t).bind λx=>if lG ns x&&iN e&&(slot N x).isSome then R.e T Z N ns e else none
 | _=>none
noncomputable def xB:List Stmt->Option MX
 | []=>none
 | s::r=>match R.s T Z N ns s with
   | some rs=>some (kG rs ((cS T f N ns s).getD sNo) ((R.b T Z N ns r).getD xNo))
   | none=>(cS T f N ns s).bind λms=>(R.b T Z N ns r).map (kG xNo ms)
end
noncomputable def xc(f:Nat):Nat->Xc
 | 0=>⟨λ_ _ _ _ _=>none,λ_ _ _ _ _=>none,λ_ _ _ _ _=>none,λ_ _ _ _ _=>none⟩
 | n+1=>⟨xE f (xc f n),xA f (xc f n),xS f (xc f n),xB f (xc f n)⟩
end
noncomputable def Dp:Data->Option ClassData
 | .cls cd=>some cd
 | _=>none
noncomputable def exC(K:ah)(C:Addr)(oc:Value)(cd:ClassData)(sl:Array (Option Value)):Bool:=
 oc == .type "type"&&(sl == #[sl.getD 0 none,sl.getD 1 none,sl.getD 2 none,sl.getD 3 none,some (.builtin "ValueError.__new__"),sl.getD 5 none]&&(cd.mro == .ref C::cd.mro.tail&&(!cd.hasDel&&(PySem.W.tailIn K vE cd.mro.tail&&(PySem.W.nsOkIn K cd.ns&&aU K cd.ns "__init__" == some none)))))
noncomputable def exB(K:ah)(C:Addr):Bool:=match K.lookup C with
 | some o=>(match Dp o.data with
   | some cd=>exC K C o.cls cd o.slots
   | none=>false)
 | none=>false
structure XOk(M:Mo)(cl:Nat->Addr)(T:Tb)(Z:Tx)(k:Nat):Prop where
 g:GOk M T k
 R: ∀x r,Z.R.lookup x=some r -> ∃k' ps,k'<=k/\FnX M cl x k' ps r
 C: ∀x c,Z.Cl.lookup x=some c->M.mg x=some (.ref (cl c))/\exB M.K.K (cl c)=true
theorem HG{d:Data}{cd:ClassData}(h:Dp d=some cd):d = .cls cd:=by
 cases d <;> first | (cases h;rfl) |cases h
theorem F7 {K:ah}{h:Heap}{mg:Str->Option Value}{x:Str}{C:Addr} (X:K.In h) (e:mg x=some (.ref C)) (q:exB K C=true):OwnCls x C vE "ValueError.__new__" mg h:=by
 refine⟨e,?_⟩
 unfold exB at q
 cases ho:K.lookup C with
 | none=>rw[ho]at q;cases q
 | some o=>
   rw[ho]at q
   obtain⟨oc,dd,da,sl⟩:=o
   have qa:(match Dp da with
    | some cd=>exC K C oc cd sl
    | none=>false)=true:=q
   clear q
   cases hd:Dp da with
   | none=>rw[hd]at qa;cases qa
   | some cd=>
     rw[hd]at qa
     have q:exC K C oc cd sl=true:=qa
     clear qa
     have hd':=HG hd
     clear hd
     subst hd'
     unfold exC at q
     obtain⟨q0,q⟩:=ek.mp q
     obtain⟨q1,q⟩:=ek.mp q
     obtain⟨q3,q⟩:=ek.mp q
     obtain⟨q4,q⟩:=ek.mp q
     obtain⟨q5,q⟩:=ek.mp q
     obtain⟨q6,q7⟩:=ek.mp q
     obtain⟨nm,bs,mro,ns,qn,hd,sn,sub,ab,col,del⟩:=cd
     have q3':mro = .ref C::mro.tail:=eq_of_beq q3
     have q4':del=false:=by
      cases del with
      | false=>rfl
      | true=>cases q4
     rw[eq_of_beq q0,q3',q4',eq_of_beq q1]at ho
     exact⟨mro.tail,ns,nm,qn,bs,hd,sn,sub,ab,col,dd,_,_,_,_,_,_,X _ _ ho,.of_isNs (PySem.W.isNs_of_in X q6),PySem.W.nsMap_none_of_in X q6 (eq_of_beq q7),PySem.W.tail_of_in X q5⟩
section
variable {M:Mo}{cl:Nat->Addr}{T:Tb}{Z:Tx}{k n fu:Nat}{N:List Str}{ns:NS}{X:Cx}{E:XK}
theorem ym{c:Const}{s:Str}(h:HF c=some s):c = .str s:=by
 cases c <;> cases h
 rfl
theorem qb{e:Expr}{s:Str}(h:rT e=some s): ∃k p,e = .Constant (.str s) k p:=by
 unfold rT at h
 split at h
 ·exact⟨_,_,by rw[ym h]⟩
 ·cases h
theorem wy{e:Expr}{s:Str}(h:yf e=some s): ∃p,e = .Name s p:=by
 unfold yf at h
 split at h
 ·cases h;exact⟨_,rfl⟩
 ·cases h
theorem yC{e:Expr}{q:Str×Int}(h:zK e=some q): ∃p p',e = .FormattedValue (.Name q.1 p) q.2 none p':=by
 unfold zK at h
 split at h
 ·rename_i e c o p
  split at h
  ·rename_i ho
   obtain⟨y,e1,rfl⟩:=map_eq h
   obtain⟨p1,rfl⟩:=wy e1
   cases o with
   | none=>exact⟨p1,p,rfl⟩
   | some _=>cases ho
  ·cases h
 ·cases h
theorem t7{α:Type}{l:List α}{a:α}(h:oneOf l=some a):l = [a]:=by
 match l,h with
 | [_],h=>cases h;rfl
theorem Ip(O:TOk M T k)(S:Sc M X.nox k N ns){a:Expr}(h:yJ T ns a=true):PE X a λσ H Q =>∀x,Q (.str x) H:=by
 unfold yJ at h
 split at h
 ·obtain⟨s,e⟩:=cj.mp h
  rw[ym e]
  exact PE.con CF λ_ _ _ q=>q _
 ·rename_i es p
  obtain⟨u,h⟩:=cj.mp h
  match es,h with
  | [x,y,z],h=>
    obtain⟨a,e1,h⟩:=bind_eq (show((rT x).bind λa=>(zK y).bind λq=>(rT z).bind λb=>(T.C.lookup q.1).bind λu=>if q.2 == -1&&dF ns q.1&&bw q.1&&Ie a b u then some u else none)=some u from h)
    obtain⟨⟨n,c⟩,e2,h⟩:=bind_eq h
    obtain⟨b,e3,h⟩:=bind_eq h
    obtain⟨u',hi,h⟩:=bind_eq h
    split at h
    rotate_left
    ·cases h
    rename_i hs
    simp only[ao]at hs
    obtain⟨⟨⟨hc,hg⟩,hp⟩,hI⟩:=hs
    obtain⟨k1,p1,rfl⟩:=qb e1
    obtain⟨p2,p3,rfl⟩:=yC e2
    obtain⟨k3,p4,rfl⟩:=qb e3
    obtain⟨i,rfl,hI⟩ : ∃i,u' = .int i/\Ie a b (.int i)=true:=by
     cases u' with
     | int i=>exact⟨i,rfl,hI⟩
     | _=>cases hI
    have h:(decide (i.natAbs.log2<1920)&&decide (a.length<=1000)&&decide ((toString i:Str).length<=1000)&&decide (b.length<=1000))=true:=hI
    simp only[ao,decide_eq_true_eq]at h
    obtain⟨⟨⟨h1,h2⟩,h3⟩,h4⟩:=h
    obtain⟨g,v,hm,rv,hu⟩:=O.C _ _ hi
    have hv:=cJ (hu (λ_=>none) [])
    subst hv
    obtain⟨t,rfl⟩ : ∃t,g = .int i t:=rv
    cases eq_of_beq hc
    intro pins s σ H Q I q
    have big:(3000:Nat)<=sizeLine:=by rw[sizeLine_eq];decide
    refine JoinedStr_many (joinParts_cons (gJ ⟨?_,?_⟩))
    ·rw[strLen_append]
     have:(jb).length=0:=rfl
     omega
    refine joinParts_cons (FormattedValue_plain (jw (I.tok _) (S.gl hg) (by have:=S.hm;exact(congrFun this _).trans hm) ?_ (bW hp).1))
    refine formatField_int_small h1 ⟨?_,?_⟩
    ·rw[strLen_append,strLen_append]
     have:(jb).length=0:=rfl
     omega
    refine joinParts_cons (gJ ⟨?_,?_⟩)
    ·rw[strLen_append,strLen_append,strLen_append]
     have:(jb).length=0:=rfl
     omega
    refine joinParts_nil ⟨.str _,H,?_,⟨_,rfl⟩,q _⟩ ?_
    ·exact I.tok _
    ·rw[strLen_append,strLen_append,strLen_append]
     have:(jb).length=0:=rfl
     omega
 ·cases h
end
theorem Du{M:Mo}{k:Nat}{N:List Str}{ns:NS}{X:Cx}(S:Sc M X.nox k N ns){a:Expr}{i:Nat}(h:Et N ns a=some i):PE X a λσ H Q=>(∃z,σ[i]? = some (some (.int z))/\vW z) /\ ∀x,Q (.str x) H:=by
 unfold Et at h
 split at h
 rotate_left
 ·cases h
 rename_i es p
 match es,h with
 | [x,y,z],h=>
   obtain⟨a,e1,g1⟩:=bind_eq (show((rT x).bind λa=>(zK y).bind λq=>(rT z).bind λb=>if q.2 == -1&&lu ns q.1&&bw q.1&&decide (a.length<=1000)&&decide (b.length<=1000) then slot N q.1 else none)=some i from h)
   obtain⟨⟨n,c⟩,e2,g2⟩:=bind_eq g1
   obtain⟨b,e3,g3⟩:=bind_eq g2
   split at g3
   rotate_left
   ·cases g3
   rename_i hs
   simp only[ao,decide_eq_true_eq]at hs
   obtain⟨⟨⟨⟨hc,hv⟩,hp⟩,h2⟩,h4⟩:=hs
   obtain⟨k1,p1,rfl⟩:=qb e1
   obtain⟨p2,p3,rfl⟩:=yC e2
   obtain⟨k3,p4,rfl⟩:=qb e3
   cases eq_of_beq hc
   obtain⟨n1,n2⟩:=bW hp
   have pv:PE X (.Name n p2) (EO i):=PE.nox (mY (by have e:=S.hN;rw[e];exact slot_get g3) (S.vis hv) n1 n2)
   intro pins s σ H Q I hq
   obtain⟨⟨w,hw,h1,h3⟩,q⟩:=hq
   have big:(3000:Nat)<=sizeLine:=by rw[sizeLine_eq];decide
   refine JoinedStr_many (joinParts_cons (gJ ⟨?_,?_⟩))
   ·rw[strLen_append]
    have:(jb).length=0:=rfl
    omega
   refine joinParts_cons (FormattedValue_plain (thn (pv pins _ σ H (λv H1=>v = .int w/\H1=H) (I.tok _) ⟨_,hw,rfl,rfl⟩) λu s1 ⟨v,H1,I1,r1,ev,eh⟩ =>?_))
   subst ev
   subst eh
   obtain⟨t,rfl⟩:=r1
   refine formatField_int_small h1 ⟨?_,?_⟩
   ·rw[strLen_append,strLen_append]
    have:(jb).length=0:=rfl
    omega
   refine joinParts_cons (gJ ⟨?_,?_⟩)
   ·rw[strLen_append,strLen_append,strLen_append]
    have:(jb).length=0:=rfl
    omega
   refine joinParts_nil ⟨.str _,H1,?_,⟨_,rfl⟩,q _⟩ ?_
   ·exact I1.tok _
   ·rw[strLen_append,strLen_append,strLen_append]
    have:(jb).length=0:=rfl
    omega
theorem Ho{Z:Tx}{N:List Str}{ns:NS}{e:Expr}{r:MX}(h:xRL Z N ns e=some r): ∃x a p1 p C i,e = .Call (.Name x p1) [a] [] p/\Z.Cl.lookup x=some C/\r=nI i C/\dF ns x=true/\bw x=true/\notStar a=true/\Et N ns a=some i:=by
 unfold xRL at h
 split at h
 ·rename_i g as ks p
  obtain⟨x,e1,hy⟩:=bind_eq h
  obtain⟨a,e2,hz⟩:=bind_eq hy
  obtain⟨p1,rfl⟩:=wy e1
  cases t7 e2
  split at hz
  ·rename_i hs
   simp only[ao]at hs
   obtain⟨i,e3,hz⟩:=bind_eq hz
   obtain⟨C,e1,rfl⟩:=map_eq hz
   have hk:=hs.1.1.1
   cases ks with
   | nil=>exact⟨x,a,p1,p,C,i,rfl,e1,rfl,hs.1.1.2,hs.1.2,hs.2,e3⟩
   | cons _ _=>cases hk
  ·cases hz
 ·cases h
theorem J2{T:Tb}{Z:Tx}{ns:NS}{e:Expr}{r:MX}(h:xR T Z ns e=some r): ∃x a p1 p C,e = .Call (.Name x p1) [a] [] p/\Z.Cl.lookup x=some C/\r=BB C/\dF ns x=true/\bw x=true/\notStar a=true/\yJ T ns a=true:=by
 unfold xR at h
 split at h
 ·rename_i g as ks p
  obtain⟨x,e1,hy⟩:=bind_eq h
  obtain⟨a,e2,hz⟩:=bind_eq hy
  obtain⟨p1,rfl⟩:=wy e1
  cases t7 e2
  split at hz
  ·rename_i hs
   simp only[ao]at hs
   obtain⟨C,e1,rfl⟩:=map_eq hz
   have hk:=hs.1.1.1.1
   cases ks with
   | nil=>exact⟨x,a,p1,p,C,rfl,e1,rfl,hs.1.1.1.2,hs.1.1.2,hs.1.2,hs.2⟩
   | cons _ _=>cases hk
  ·cases hz
 ·cases h
end _G
end
section
namespace _G
open PySem PySem.Spec _L
open PyProof.Rows hiding St
section
variable {M:Mo}{cl:Nat->Addr}{T:Tb}{Z:Tx}{k n fu:Nat}{N:List Str}{ns:NS}{X:Cx}{E:XK}
theorem x_raise{x:Str}{C:Nat}{a:Expr}{p1 p2 pos:Pos}(L:Lv X E)(S:Sc M X.nox k N ns)(O:M.mg x=some (.ref (cl C))/\exB M.K.K (cl C)=true)(hg:dF ns x=true)(hp:bw x=true)(hs:notStar a=true){r:MX}{tc:St->Hp->Prop}(ha:PE X a λσ H Q=>tc σ H /\ ∀x,Q (.str x) H)(hrr: ∀ρ S0 C' S',r ρ S0=some (C',S')->C=C'/\S0=S')(htc: ∀μ ρ S0 q σ H,ER H μ ρ σ->r ρ S0=some q->tc σ H):
  PS X (.Raise (some (.Call (.Name x p1) [a] [] p2)) none pos) (tXS cl M.K r E):=by
 intro pins s σ H D I h
 obtain⟨μ,S0,ρ,C',S',hr,er,q,aft⟩:=h
 have htc':=htc μ ρ S0 _ σ H er q
 obtain⟨rfl,rfl⟩:=hrr _ _ _ _ q
 have hb:X.base=M.base:=S.hb
 have hm:X.mg=M.mg:=S.hm
 have hK:X.K=M.K.K:=S.hK
 have O:=F7 (K:=M.K.K) (h:=X.base) (by rw[<- hK];exact I.ok.mod.kin) O.1 O.2
 obtain⟨tl,Nn,nm,q,bs,hdct,sn,sub,ab,col,dd,k0,k1,k2,k3,k5,mN,hC,hN,hni,T'⟩:=O.obj
 refine wpAny_Raise_call_subU (C:=cl C) (nm:=nm) (q:=q) (N:=Nn) (bs:=bs) (bm:=tl) (hdct:=hdct) (sn:=sn) (sub:=sub) (ab:=ab) (col:=col) (dd:=dd) (k0:=k0) (k1:=k1) (k2:=k2) (k3:=k3) (k5:=k5)
  uU (bmB:=vE) (by decide +kernel) uU (mN:=mN) (T'.hasType PySem.F.excBase_ValueError.hasBase) S.room.hd (ng _ _ (by rw[bX,hs];rfl)) hni (jw I (S.gl hg) (by rw[hm];exact O.bound) ⟨rfl,?_⟩ (bW hp).1)
 rw[cR hs]
 refine jd ?_
 refine eN (thn (ha pins s σ H (λv H1=>(∃x,v = .str x)/\H1=H) I ⟨htc',λx=>⟨⟨x,rfl⟩,rfl⟩⟩) λu s1 ⟨v,H1,I1,r1,_,e1⟩ =>?_)
 subst e1
 refine iy ⟨rfl,?_,I1.bk _ _ hC,hN.keeps I1.bk,T'.keeps I1.bk,λh' e hx =>?_⟩
 ·show 1<=sizeLine
  rw[sizeLine_eq];decide
 ·exact L.made I1 hx (aft μ H1 (Pre.refl _) (bf.refl _) hr)
theorem GA{g:Str}{a:Expr}{as:List Expr}{p pos:Pos}{mf:MF}{r:MX}{k':Nat}{ps:List Str}(S:Sc M X.nox k N ns)(F:Fn M g k' ps mf)(hk:k'<=k)(hg:dF ns g=true)(hp:bw g=true)(ha:PA X (a::as) (tXA cl M.K r E))(hs:(a::as).all notStar=true):
  PE X (.Call (.Name g p) (a::as) [] pos) (tXE cl M.K r E):=by
 obtain⟨f,fd,hm,hkp,hb,F⟩:=F.ex
 have e1:X.prog=M.P:=S.hP
 have e2:X.w=M.w:=S.hw
 have e3:X.K=M.K:=S.hK
 have e4:X.mg=M.mg:=S.hm
 have e5:X.base=M.base:=S.hb
 rw[<- e1,<- e2,<- e3,<- e4,<- e5]at F
 rw[<- e4]at hm
 rw[<- e3]at hkp hb
 rw[bX,ao]at hs
 exact PE.con (uO F (S.room.mono hk) (S.gl hg) hm hkp hb .nil tJ ha (bW hp).1 (cR hs.1 _ _) (ng _ _ hs.2)) λσ H Q h=>h
structure II(M:Mo)(cl:Nat->Addr)(T:Tb)(Z:Tx)(k fu n:Nat):Prop where
 e: ∀N ns e r,(xc fu n).e T Z N ns e=some r -> ∀X E,Lv X E->Sc M X.nox k N ns->PE X e (tXE cl M.K r E)
 a: ∀N ns es r,(xc fu n).a T Z N ns es=some r -> ∀X E,Lv X E->Sc M X.nox k N ns->PA X es (tXA cl M.K r E)
 s: ∀N ns st r,(xc fu n).s T Z N ns st=some r -> ∀X E,Lv X E->Sc M X.nox k N ns->PS X st (tXS cl M.K r E)
 b: ∀N ns sts r,(xc fu n).b T Z N ns sts=some r -> ∀X E,Lv X E->Sc M X.nox k N ns->PSs X sts (tXS cl M.K r E)
theorem Jk{R:II M cl T Z k fu n}{sts:List Stmt}(h: ∀r,(xc fu n).b T Z N ns sts=some r->PSs X sts (tXS cl M.K r E)):PSs X sts (tXS cl M.K (((xc fu n).b T Z N ns sts).getD xNo) E):=by
 cases q:(xc fu n).b T Z N ns sts with
 | some r=>exact h r q
 | none=>
   rintro pins s σ H D I ⟨μ,S0,ρ,C,S',hr,er,q,aft⟩
   cases q
theorem Lk(O:XOk M cl T Z k): ∀n,II M cl T Z k fu n
 | 0=>⟨λ_ _ _ _ h=>dH h,λ_ _ _ _ h=>dH h,λ_ _ _ _ h=>dH h,λ_ _ _ _ h=>dH h⟩
 | n+1=>by
   have R:=Lk O n
   have Sn:=snd fu M T k O.g
   refine⟨λN ns e r h X E L S =>?_,λN ns es r h X E L S =>?_,λN ns st r h X E L S =>?_,λN ns sts r h X E L S =>?_⟩
   ·replace h:xE fu (xc fu n) T Z N ns e=some r:=h
    cases e with
    | Call g as ks p=>
      obtain⟨x,hx,h2⟩:=bind_eq h
      clear h
      obtain⟨p1,rfl⟩:=wy hx
      have h:(if ks.isEmpty&&(!as.isEmpty&&(dF ns x&&bw x)) then xC fu (xc fu n) T Z N ns x as else none)=some r:=h2
      clear h2
      split at h
      ·rename_i hs
       rw[ao,ao,ao,tQ]at hs
       obtain⟨rfl,ha,hs⟩:=hs
       cases as with
       | nil=>cases ha
       | cons a as=>
       unfold xC at h
       split at h
       ·rename_i rr hr
        obtain⟨mas,e1,rfl⟩:=map_eq h
        obtain⟨k',ps,hk,F⟩:=O.R _ _ hr
        exact x_call L S F hk hs.1 hs.2 (Sn.a _ _ _ _ e1 _ S) (iL e1)
       ·split at h
        ·rename_i mf hd
         split at h
         ·rename_i hst
          obtain⟨k',ps,hk,F⟩:=O.g.1.D _ _ hd
          exact GA S F hk hs.1 hs.2 (R.a _ _ _ _ h _ _ L S) hst
         ·cases h
        ·cases h
      ·cases h
    | Subscript a b p=>
      have h:(if j4 b then(xc fu n).e T Z N ns a else none)=some r:=h
      split at h
      ·rename_i hs
       exact PE.con (Fo (r:=λ_ _ _ _=>False) (by unfold IxR;intros;contradiction) (R.e _ _ _ _ h _ _ L S) PE.never (Fp hs)) λ_ _ _ q=>q
      ·cases h
    | ListComp elt gens scope p=>
      replace h:xLc (xc fu n) T Z N ns scope gens=some r:=h
      obtain⟨c,e1,h1⟩:=bind_eq h
      clear h
      cases t7 e1
      obtain⟨tg,it,ifs,ia⟩:=c
      split at h1
      rotate_left
      ·cases h1
      rename_i h0
      have h0':ia=0:=h0
      subst h0'
      replace h1:xLt (xc fu n) T Z N ns it scope tg=some r:=h1
      unfold xLt at h1
      split at h1
      rotate_left
      ·cases h1
      split at h1
      rotate_left
      ·cases h1
      rename_i x px hs
      rw[ao,ao]at hs
      have C:=oR S (eq_of_beq hs.1.1) hs.1.2
      have hi:PI X (.Name x px) it (λσ H _=>tX cl M.K r E σ H):=λpins s σ H Rr I q=>
       thn (R.e _ _ _ _ h1 _ _ L S pins s σ H (λ_ _=>False) I q) λv s1 ⟨_,_,_,_,z⟩=>z.elim
      exact PE.con (za (tt:=λ_ _ _=>False) (te:=λ_ _ _=>False) S.calm ⟨C.kind,C.nd,C.free,C.own,C.ndN,C.len,C.last,C.vis⟩ hi (λ_ _ _=>λ_ _ _ _ _ _ z=>z.elim) (λ_ _ _=>PE.never) (oq hs.2 _)) λ_ _ _ q=>q
    | _=>cases h
   ·simp only[xc]at h
    unfold xA at h
    split at h
    ·cases h
    ·split at h
     ·rename_i e es hs
      split at h
      ·rename_i re he
       cases h
       exact λpos pins s σ H Q I q=>nZ (t:=λ_ _ _=>False) (R.e _ _ _ _ he _ _ L S) (λ_ _ _ _ _ _ _ h=>h.elim) (cR hs _ _) pos pins s σ H Q I q
      ·obtain⟨me,e1,h⟩:=bind_eq h
       obtain⟨rr,e2,rfl⟩:=map_eq h
       intro pos pins s σ H Q I q
       refine nZ (Sn.e _ _ _ _ e1 _ S).nox (R.a _ _ _ _ e2 _ _ L S) (cR hs _ _) pos pins s σ H Q I ?_
       obtain⟨μ,S0,ρ,C,S',hr,er,q,aft⟩:=q
       obtain⟨u,S1,e1,q⟩:=bq q
       exact⟨μ,S0,ρ,u,S1,hr,er,e1,λμ1 v H1 p1 k1 hr1 _=>⟨μ1,S1,ρ,C,S',hr1,er.mono k1 p1,q,aft.mono p1 k1⟩⟩
     ·cases h
   ·replace h:xS fu (xc fu n) T Z N ns st=some r:=h
    cases st with
    | Raise o c p=>
      replace h:(if c.isNone then(match o.bind (xR T Z ns) with
       | some r=>some r
       | none=>o.bind (xRL Z N ns)) else none)=some r:=h
      split at h
      ·rename_i hn
       cases c with
       | some _=>cases hn
       | none=>
       cases o with
       | none=>cases h
       | some e=>
       replace h:(match xR T Z ns e with
        | some r=>some r
        | none=>xRL Z N ns e)=some r:=h
       split at h
       ·rename_i rr hx
        cases h
        obtain⟨x,a,p1,p2,C,rfl,e1,rfl,h1,h2,h3,h4⟩:=J2 hx
        exact x_raise (tc:=λ_ _=>True) L S (O.C _ _ e1) h1 h2 h3 (PE.con (Ip O.g.1 S h4) λ_ _ _ q=>q.2) (λ_ _ _ _ q=>by cases q;exact⟨rfl,rfl⟩) λ_ _ _ _ _ _ _ _=>trivial
       ·obtain⟨x,a,p1,p2,C,i,rfl,e1,rfl,h1,h2,h3,h4⟩:=Ho h
        refine x_raise L S (O.C _ _ e1) h1 h2 h3 (Du S h4) (λρ S0 C' S' q =>?_) λμ ρ S0 w σ H er q =>?_
        ·unfold nI at q
         split at q
         ·split at q
          ·cases q;exact⟨rfl,rfl⟩
          ·cases q
         ·cases q
        ·unfold nI at q
         split at q
         ·rename_i z hz
          split at q
          ·rename_i ok
           obtain⟨v,hv,rv⟩:=er.get i _ hz
           rw[cJ rv]at hv
           exact⟨z,hv,ok⟩
          ·cases q
         ·cases q
      ·cases h
    | If c a b p=>
      obtain⟨mc,e1,h⟩:=bind_eq h
      obtain⟨ra,e2,rfl⟩:=map_eq h
      refine PS.con (E9 (Sn.t _ _ _ _ e1 _ S).nox (R.b _ _ _ _ e2 _ _ L S) (Jk (R:=R) λr q=>R.b _ _ _ _ q _ _ L S)) λD σ H q =>?_
      obtain⟨μ,S0,ρ,C,S',hr,er,q,aft⟩:=q
      obtain⟨b,S1,e1,q⟩:=bq q
      refine⟨μ,S0,ρ,b,S1,hr,er,e1,λμ1 H1 p1 k1 hr1 =>?_⟩
      cases b with
      | true=>exact Lo ⟨μ1,S1,ρ,C,S',hr1,er.mono k1 p1,q,aft.mono p1 k1⟩
      | false=>exact Lz ⟨μ1,S1,ρ,C,S',hr1,er.mono k1 p1,q,aft.mono p1 k1⟩
    | Expr e p=>
      have h:(if iN e then(xc fu n).e T Z N ns e else none)=some r:=h
      split at h
      ·rename_i hs
       exact PS.con (yx (R.e _ _ _ _ h _ _ L S) (nG hs _ _ _)) λ_ _ _ q=>q
      ·cases h
    | Return o p=>
      obtain⟨e,rfl,hx⟩:=bind_eq h
      exact PS.con (BO (R.e _ _ _ _ hx _ _ L S)) λ_ _ _ q=>q
    | Assign ts e p=>
      obtain⟨t,e1,hx⟩:=bind_eq h
      clear h
      obtain⟨x,e2,h⟩:=bind_eq hx
      clear hx
      cases t7 e1
      obtain⟨p1,rfl⟩:=wy e2
      split at h
      ·rename_i hs
       simp only[ao]at hs
       obtain⟨i,hi⟩:=cj.mp hs.2
       have hl:=S.lo hs.1.1
       exact PS.con (xw (i:=i) (by have:=S.nd;have e:=S.hN;exact e▸this) (by have e:X.N=N:=S.hN;rw[e];exact slot_get hi) hl.1 (R.e _ _ _ _ h _ _ L S) (nG hs.1.2 _ _ _) hl.2) λ_ _ _ q=>q
      ·cases h
    | _=>cases h
   ·simp only[xc]at h
    unfold xB at h
    split at h
    ·cases h
    ·rename_i st rest
     have two: ∀(rs:MX) (ms:MS) (rr:MX),PS X st (tXS cl M.K rs E)->PS X st (tMS M.K ms)->PSs X rest (tXS cl M.K rr E)->PSs X (st::rest) (tXS cl M.K (kG rs ms rr) E):=by
      rintro rs ms rr h1 h2 h3 pins s σ H D I ⟨μ,S0,ρ,C,S',hr,er,q,aft⟩
      unfold kG at q
      split at q
      ·rename_i r e1
       cases q
       exact(lq h1 (PSs.never (e:=rest))) pins s σ H D I ⟨μ,S0,ρ,C,S',hr,er,e1,aft⟩
      ·split at q
       ·rename_i ρ1 S1 e2
        exact(lq h2 h3) pins s σ H D I ⟨μ,S0,ρ,_,hr,er,e2,λμ1 σ1 H1 p1 k1 hr1 er1=>⟨μ1,S1,ρ1,C,S',hr1,er1,q,aft.mono p1 k1⟩⟩
       ·cases q
     split at h
     ·rename_i rs e1
      cases h
      refine two _ _ _ (R.s _ _ _ _ e1 _ _ L S) ?_ (Jk (R:=R) λr q=>R.b _ _ _ _ q _ _ L S)
      cases e2:cS T fu N ns st with
      | some ms=>exact(Sn.s _ _ _ _ e2 _ S).nox
      | none=>exact Kt
     ·obtain⟨ms,e1,h⟩:=bind_eq h
      obtain⟨rr,e2,rfl⟩:=map_eq h
      refine two _ _ _ ?_ (Sn.s _ _ _ _ e1 _ S).nox (R.b _ _ _ _ e2 _ _ L S)
      rintro pins s σ H D I ⟨μ,S0,ρ,C,S',hr,er,q,aft⟩
      cases q
end
section
variable {M:Mo}{cl:Nat->Addr}{T:Tb}{Z:Tx}{k:Nat}{h:Heap}{x:Str}{st:Stmt}{N ps:List Str}{r:MX}{fu n:Nat}
theorem Def.fnX(O:XOk M cl T Z k)(h0:M.mkr=none)(X:M.K.K.In h)(Gn:h.Ns mainGlobals M.mg)(D:Def M.K x st)(S:aV N ps (aj st))
  (hb:Bd x st ps) (hc:(xc fu n).b T Z N (aj st).names (aM st)=some r):FnX M cl x (k+1) ps (lJ ps.length N.length r):=by
 obtain⟨f,fd,a,F⟩:=D.ex
 refine⟨f,fd,bF X Gn a,F.2,F.binds hb,?_⟩
 obtain⟨oc,od,kV,doc,pm,an,cdv,ct,osl,rfl,lk,hcd⟩:=F.ex
 have len: ∀vs H Q E,spX cl M.K (lJ ps.length N.length r) vs H Q E->vs.length=ps.length:=λvs H Q E h=>by
  obtain⟨μ,S',us,u,S'',hr,rs,e,_⟩:=h
  unfold lJ at e
  split at e
  ·rename_i hl;rw[<- rs.len];exact hl
  ·cases e
 refine _L.vS lk hcd S len λA outer s H vs Q E hr h=>⟨tXS cl M.K r E,(Lk O n).b _ _ _ _ hc _ E ⟨rfl,rfl,rfl,rfl⟩ (Sc.def (M:=M) (E:=E) S hr λc q h=>by rw[h0]at h;cases h),?_⟩
 obtain⟨μ,S1,us,C,S2,hR,rs,e,ka⟩:=h
 unfold lJ at e
 split at e
 ·rename_i hl
  have er:=mx (N:=N) rs
  rw[hl]at er
  exact⟨μ,S1,_,C,S2,hR,er,e,ka⟩
 ·cases e
end
end _G
end
section
namespace _G
open PySem PySem.Spec PySem.W _L
open PyProof.Rows hiding St
section
variable {prog:Program}{w:World}{A:Around}{E:Value->Shared->Prop}{K:Frag}{h:Heap}{g:Array GenState}{d:Drawn}{t:Nat}{os:OsState}{e C:Addr}{oe:Obj}
theorem Ic {tp:Value}{R:Result->Shared->Prop} (X:K.In h) (he:h.get? e=some oe) (hc:oe.cls = .ref C) (hm:mroIn K C (.type "object")=some true) (q:R (.ok (.ret (.ref C))) ⟨h,g,d,t,os⟩) :
  jY (model prog w) A (.call (.builtin "getset_descriptor.__get__") ⟨[.builtin "object.__class__",.ref e,tp],[]⟩) R ⟨h,g,d,t,os⟩:=by
 have L1:=looks_mroIn (M:=model prog w) X hm
 have ow:=PySem.F.owner_object_class
 have T5:(⟨h,g,d,t,os⟩:Shared).TypeIs (.builtin "object.__class__") "getset_descriptor":=jj
 refine codeAny_call_builtin PySem.F.slot_gs_get.plain PySem.F.entry_gs_get (PySem.F.slot_gs_get.check _ _ _ _ _ _ _ _ T5 (PySem.F.args_gs_get _ _ _) ?_)
 repeat (any_goals (first |assumption | (with_reducible refine jf he ?_;rw[hc]) | (rw[ow];with_reducible refine L1.at ?_) |with_reducible refine L1.at ?_ |wp_step))
 refine⟨Code.quiet_builtin _ (by decide +kernel),iA PySem.F.entry_object_class ?_⟩
 repeat (any_goals (first |assumption | (with_reducible refine jf he ?_;rw[hc]) |wp_step))
theorem BS {tk:Tok}{Q:Fin->Shared->Prop} (X:K.In h) (he:h.get? e=some oe) (hc:oe.cls = .ref C) (hm:mroIn K C (.type "object")=some true) (hf:findIn K (.ref C) "__class__"=some (some (.builtin "object.__class__"))) (q:Q (.done (.ret (.ref C))) ⟨h,g,d,t,os⟩) :
  aR (model prog w) A (Builtin.«object.__getattribute__» ⟨[.ref e,.str "__class__" tk],[]⟩) Q E ⟨h,g,d,t,os⟩:=by
 have L1:=looks_findIn (M:=model prog w) X hf
 have f5:(⟨h,g,d,t,os⟩:Shared).TypeIs (.builtin "object.__class__") "getset_descriptor":=jj
 have f4:=jj
 have f6:=PySem.F.slot_gs_get.lookup
 have f7:=PySem.F.slot_gs_set.lookup
 repeat (any_goals (first |assumption | (with_reducible refine jf he ?_;rw[hc]) |with_reducible refine L1.at ?_ |wp_step))
 refine Ic X he hc hm ?_
 repeat (any_goals (first |assumption |wp_step))
theorem AY {nameV:Value}{M:Model}{Q:Unit->Shared->Prop} (X:K.In h) (he:h.get? e=some oe) (hc:oe.cls = .ref C) (hb:mroIn K C (.type "BaseException")=some true) (q:Q () ⟨h,g,d,t,os⟩) :
  aR M A (checkBuiltinCall "BaseException.__getattribute__" ⟨[.ref e,nameV],[]⟩) Q E ⟨h,g,d,t,os⟩:=by
 have L1:=looks_mroIn (M:=M) X hb
 have k1:builtinKind "BaseException.__getattribute__"=some .slot:=by decide +kernel
 have k2:splitId "BaseException.__getattribute__"=some ("BaseException","__getattribute__"):=by decide +kernel
 have ha:=PySem.F.args_bexc_ga (.ref e) nameV
 simp only[checkBuiltinCall,k1,k2]
 refine az ?_
 unfold isInstance
 repeat (first | (with_reducible refine jf he ?_;rw[hc]) |with_reducible refine L1.at ?_ |wp_step)
 exact q
theorem KF {tk:Tok}{Q:Value->Shared->Prop} (X:K.In h) (he:h.get? e=some oe) (hc:oe.cls = .ref C) (hm:mroIn K C (.type "object")=some true) (hb:mroIn K C (.type "BaseException")=some true) (hf:findIn K (.ref C) "__class__"=some (some (.builtin "object.__class__")))
  (hg:findIn K (.ref C) "__getattribute__"=some (some (.builtin "BaseException.__getattribute__"))) (ha:findIn K (.ref C) "__getattr__"=some none) (q:Q (.ref C) ⟨h,g,d,t,os⟩) :
  aR (model prog w) A (getAttrBy (.ref e) (.str "__class__" tk) false) Q E ⟨h,g,d,t,os⟩:=by
 have L1:=looks_findIn (M:=model prog w) X hg
 have L2:=looks_findIn (M:=model prog w) X ha
 have f3:=PySem.F.excAttr_ValueError.ga.bind (.ref e)
 have x2:(pA "BaseException.__getattribute__" == pA "object.__getattribute__")=false:=by decide +kernel
 have x1:(onTheHeap (bH C)&&pA "BaseException.__getattribute__" == pA "object.__getattribute__")=false:=by rw [x2];rfl
 repeat (any_goals (first |assumption | (with_reducible refine jf he ?_;rw[hc]) |with_reducible refine L1.at ?_ |with_reducible refine L2.at ?_ |wp_step))
 refine codeAny_call_builtin PySem.F.excAttr_ValueError.ga.plain PySem.F.entry_bexc_ga (AY X he hc hb (BS X he hc hm hf ?_))
 repeat (any_goals (first |assumption |wp_step))
theorem DG {Q:Option Value->Shared->Prop} (X:K.In h) (he:h.get? e=some oe) (hc:oe.cls = .ref C) (hm:mroIn K C (.type "object")=some true) (hb:mroIn K C (.type "BaseException")=some true) (hf:findIn K (.ref C) "__class__"=some (some (.builtin "object.__class__")))
  (hg:findIn K (.ref C) "__getattribute__"=some (some (.builtin "BaseException.__getattribute__"))) (ha:findIn K (.ref C) "__getattr__"=some none) (q:Q (some (.ref C)) ⟨h,g,d,t+1,os⟩) :
  aR (model prog w) A (getAttr? (.ref e) "__class__") Q E ⟨h,g,d,t,os⟩:=by
 unfold getAttr? getAttrBy?
 repeat (any_goals (first |assumption |with_reducible apply KF X he hc hm hb hf hg ha |wp_step))
noncomputable def Br (K:Frag) (C:Addr):Bool:=(clsIn K C).isSome&&mroIn K C (.type "object") == some true&&mroIn K C (.type "BaseException") == some true&&findIn K (.ref C) "__class__" == some (some (.builtin "object.__class__")) &&
 findIn K (.ref C) "__getattribute__" == some (some (.builtin "BaseException.__getattribute__"))&&findIn K (.ref C) "__getattr__" == some none
theorem Cr(hB:Br K C=true):KitX K (.ref e) (.ref C) (λh =>∃oe,h.get? e=some oe/\oe.cls = .ref C):=by
 unfold Br at hB
 simp only[ao,beq_iff_eq]at hB
 obtain⟨⟨⟨⟨⟨h0,h1⟩,h2⟩,h3⟩,h4⟩,h5⟩:=hB
 obtain⟨cd,hcd⟩:=cj.mp h0
 unfold clsIn at hcd
 split at hcd
 rotate_left
 ·cases hcd
 rename_i c' d' cd' sl' ho
 refine⟨λM h X p =>?_,λM h X p =>?_,λh tp dd its n sl X htp =>?_,λ{prog w A E Q s} X p k =>?_⟩
 ·obtain⟨oe,e1,e2⟩:=p
  exact e2▸(Looks.ld e1).andThen .now
 ·intro A' Q' E' s' k q
  unfold isType loadHead
  exact az (wpAny_loadPart (k _ _ (X _ _ ho)) (aJ q))
 ·refine Bool.eq_false_iff.mpr λq =>?_
  have z:C=tp:=Value.ref.inj (beq_iff_eq.mp q)
  subst z
  have:=(X _ _ ho).symm.trans htp
  cases this
 ·obtain⟨oe,e1,e2⟩:=p
  obtain⟨h,g,d,t,os⟩:=s
  exact DG X e1 e2 h1 h2 h3 h4 h5 k
end
end _G
end
section
namespace _G
open PySem PySem.Spec _L
open PySem.W (envX kla_fn kla_obj CodeHd tabObj)
open PyProof.Rows hiding St
section
variable {X:Cx}{pins:List (Addr×Obj)}{σ:St}{H H':Hp}{s s':Shared}
theorem AR{M:Model}{A:Around}{E:Value->Shared->Prop}{j:Nat}{n:Str}{pos:Pos}{Q:Unit->Shared->Prop}(I:Inv X pins σ H s)(hN:X.N.Nodup)(hj:X.N[j]? = some n)(hn:X.env.scope.names.lookup n=some .local)
  (h: ∀s',Inv X pins (σ.set j none) H s'->Q () s'):aR M A (do bindName X.env n .none;unbindBehindTheSuite X.env n pos) Q E s:=by
 obtain⟨m,hm,hl⟩:=id I.loc
 have hcls:(X.env.scope.kind==.class||(X.env.scope.kind==.module&&X.env.locals != X.env.globals))=false:=by rw[I.ok.kind];rfl
 refine wpAny_nameGoes_keeps hn hm hcls λh' v hn' hs=>h _ ?_
 obtain⟨oL,_,_,hoL,_⟩:=id hm
 have below: ∀b o,X.s₀.heap.get? b=some o->b≠X.env.locals:=λb o e=>br (ai (aG e) I.ok.above)
 refine⟨I.ok,I.os,I.bare,⟨λb o e n hb hx=>(hs.2 b (below b o e)).trans (I.base.keep b o e n hb hx),λb o e n hb hx =>?_,I.base.free,λb o e hx =>?_,I.base.tups,I.base.frzs,I.base.tbls⟩,⟨_,hn',λi y w e1 e2 e3 =>?_⟩,λy c e =>?_,I.free,I.freeC,λp hp =>?_,λb ob e =>?_,by simpa using I.len⟩
 ·obtain⟨sl,e1⟩:=I.base.slot b o e n hb hx
  exact⟨sl,(hs.2 b (below b o e)).trans e1⟩
 ·obtain⟨o',e1⟩:=I.base.there b o e hx
  exact⟨o',(hs.2 b (below b o e)).trans e1⟩
 ·by_cases hi:i=j
  ·rw[hi]at e2
   rw[List.getElem?_set]at e2
   simp only[if_true]at e2
   split at e2 <;> cases e2
  ·rw[ay (dM hi)]at e2
   obtain⟨u',r',q⟩:=hl i y w e1 e2 e3
   refine⟨u',r',?_⟩
   rcases q with⟨k,e⟩ | ⟨k,c,e,z⟩
   ·refine .inl ⟨k,?_⟩
    have hne:y≠n:=λe=>hi (rA hN e1 (e▸hj))
    simp[hne,e]
   ·exact .inr ⟨k,c,e,z.sameBut hs (I.cne y c e)⟩
 ·obtain⟨w',z⟩:=I.cell y c e
  exact⟨w',z.sameBut hs (I.cne y c e)⟩
 ·obtain⟨e,n,ne,nf,d⟩:=I.pin p hp
  exact⟨(hs.2 p.1 ne).trans e,n,ne,nf,d⟩
 ·refine(I.hok b ob e).stay (λc w' hc q=>(hs.2 c ?_).trans q) (λ_ q=>q) λ_ _ q=>q
  rintro rfl
  rcases hc with rfl |hc
  ·rw[I.free]at e;cases e
  ·rw[I.free]at hc;cases hc
abbrev Cx.mkd(X:Cx)(e:Value):Cx:={ X with A:=X.A.mark (some e),calm:=false,xe:=λ_ _=>False }
theorem Inv.mkd{e:Value}(I:Inv X pins σ H s):Inv (Cx.mkd X e) pins σ H s:=
 ⟨⟨I.ok.mod,I.ok.kind,I.ok.glob,I.ok.blt,I.ok.above,I.ok.inj,I.ok.has,I.ok.cab,(λz=>nomatch z),I.ok.frames,I.ok.stk,I.ok.exf,I.ok.bs,I.ok.bsz,I.ok.noex,I.ok.exfs,I.ok.funs,I.ok.frf⟩,I.os,I.bare,I.base,I.loc,I.cell,I.free,I.freeC,I.pin,I.hok,I.len⟩
theorem Inv.unmkd{e:Value}(I:Inv (Cx.mkd X e) pins σ H s)(hd:X.calm=true->X.A.handled=none):Inv X pins σ H s:=
 ⟨⟨I.ok.mod,I.ok.kind,I.ok.glob,I.ok.blt,I.ok.above,I.ok.inj,I.ok.has,I.ok.cab,hd,I.ok.frames,I.ok.stk,I.ok.exf,I.ok.bs,I.ok.bsz,I.ok.noex,I.ok.exfs,I.ok.funs,I.ok.frf⟩,I.os,I.bare,I.base,I.loc,I.cell,I.free,I.freeC,I.pin,I.hok,I.len⟩
theorem HOk.frz{P:Program}{w:World}{h:Heap}{a:Addr}{o:Obj}(x:HOk P w H h)(n:H a=none)(e:h.get? a=some o):HOk P w (upd H a (.frz o fz)) h:=λb u q=>by
 by_cases hb:b=a
 ·subst hb
  rw[cq]at q;cases q
  exact⟨e,trivial,⟨_,e⟩,λ_ _ _ _=>trivial⟩
 ·rw[aZ hb]at q
  exact(x b u q).stay (λ_ _ _ z=>z) (λc z=>by rw[aZ (aW z n)];exact z) λc xs z=>by rw[aZ (aW z n)];exact z
theorem Un.frz{fs:List Addr}{h h':Heap}{a:Addr}{o:Obj}(u:Un fs [] H H' h h')(hn:h.get? a=none)(n:H' a=none):Un fs [] H (upd H' a (.frz o fz)) h h' where
 keep:=u.keep
 slot:=u.slot
 free:=λb o q m hx=>by rw[aZ (λz=>by rw[z,hn]at q;cases q)];exact u.free b o q m hx
 there:=u.there
 tups:=λb xs q=>by have:=u.tups b xs q;rw[aZ (aW this n)];exact this
 frzs:=λb ob xs q=>by have:=u.frzs b ob xs q;rw[aZ (aW this n)];exact this
 tbls:=λb ps q=>by obtain⟨m,e⟩:=u.tbls b ps q;exact⟨m,by rw[aZ (aW e n)];exact e⟩
end
end _G
end
section
namespace _G
open PySem PySem.Spec _L
open PyProof.Rows hiding St
section
variable {X:Cx}{pins:List (Addr×Obj)}{σ:St}{H H':Hp}{s s':Shared}
theorem HR.frz{K:KX}{μ:List Addr}{S:Sto}{a:Addr}{o:Obj}(h:HR K μ S H)(n:H a=none):bf H (upd H a (.frz o fz))/\HR K μ S (upd H a (.frz o fz)):=by
 have kp:bf H (upd H a (.frz o fz)):=bf.new n
 refine⟨kp,h.len,h.inj,λm c x q1 q2=>(h.cell m c x q1 q2).mono kp (Pre.refl _) (λhc =>?_) λo' u e=>by rw[aZ (aW e n)];exact e,h.ext.upd kp (Pre.refl _) λo' q=>by rw[n]at q;cases q⟩
 obtain⟨ob,e,_⟩:=(h.cell m c x q1 q2).has hc
 exact aZ (aW e n)
theorem Fm{E:Value->Shared->Prop}{Q:Value->Shared->Prop}{i:Nat}{x:Str}{g:Addr}{fd:FuncData}{p1 pos:Pos}(I:Inv X pins σ H s)(hN:X.N[i]? = some x)(hv:Vis X.env.scope x)(hp:bw x=true)(hσ:σ[i]? = some (some (.ref g)))
  (hf:(∃(oc:Value) (od:Option Addr) (sl:Array (Option Value)),X.base.get? g=some ⟨oc,od,.func fd,sl⟩)\/bP X.K (.ref g)=true)
  (h: ∀s1,Inv X pins σ H s1->aR (model X.prog X.w) X.A (call (.ref g) []) Q E s1):aR (model X.prog X.w) X.A (eval (.Call (.Name x p1) [] [] pos) X.env) Q E s:=by
 obtain⟨n1,n2⟩:=bW hp
 refine dB (thn (mY (X:=X.wish E) hN hv n1 n2 pins s σ H (λv H1=>v = .ref g/\H1=H) (I.wish E) ⟨_,hσ,rfl,rfl⟩) λw s1 ⟨v,H1,I1,r1,e1,e2⟩ =>?_)
 subst e1;subst e2
 obtain rfl:w=bH g:=r1
 have I1:=I1.unwish
 rcases hf with⟨oc,od,sl,hf⟩ |hf
 ·exact AB (P:=λh=>h.get? g=some ⟨oc,od,.func fd,sl⟩) rfl (λh q=>⟨.frame,.inl rfl,(ox (part:=none) q).andThen .now⟩) (evalArgs_nil3 ⟨I1.bk g _ hf,h s1 I1⟩)
 ·exact Az I1.kIn hf (h s1 I1)
end
noncomputable def Lu(cl:Nat->Addr)(K:KX)(i j l:Nat)(g:Addr)(φ:MF)(ψ:RF):TS:=λD σ H =>∃μ S ρ,HR K μ S H/\ER H μ ρ σ/\ρ[i]? = some (some (.obj g))/\ρ[j]? = some none /\
 ((∃u S1,φ [] S=some (u,S1) /\ ∀μ' σ' H',Pre μ μ'->bf H H'->HR K μ' S1 H'->ER H' μ' ρ σ'->D.nx σ' H') \/
  ∃q S1,ψ [] S=some (q,S1) /\ ∀e oe μ' σ' H',Pre μ μ'->bf H H'->HR K μ' S1 H'->ER H' μ' (ρ.set l (some (.obj e))) σ'->H' e=some (.frz oe fz)->oe.cls = .ref (cl q)->D.nx σ' H')
section
variable {M:Mo}{X:Cx}{k:Nat}{N:List Str}{ns:List (Str×NameKind)}{x n y W:Str}{p1 p2 p3 p4 p5 p6 p7 p8 p9:Pos}
theorem Hx{cl:Nat->Addr}{φ:MF}{ψ:RF}{g w:Addr}{k' i j l:Nat}(S:Sc M X k N ns)(stk:X.stack=X.env::X.outer)(fr:X.env.frame=some X.env.locals)(F:Lam M g k' [] φ)(F':u6 M cl g k' [] ψ)(hk:k'<=k)
  (hi:N[i]? = some x) (hx:lu ns x=true) (hp:bw x=true) (hj:N[j]? = some n) (hn:ns.lookup n=some .local) (hnp:bw n=true) (hl:N[l]? = some y) (hy:lG ns y=true) (hjl:j≠l) (hW:dF ns W=true) (hWp:bw W=true) (hw:M.mg W=some (.ref w))
  (hm: ∀S q S1,ψ [] S=some (q,S1)->uV M.K (.ref (cl q)) (.ref w)=some true):
  PS X (.Try [.Expr (.Call (.Name x p1) [] [] p2) p3] [.ExceptHandler (some (.Name W p4)) (some n) [.Assign [.Name y p5] (.Name n p6) p7] p8] [] [] p9) (Lu cl M.K i j l g φ ψ):=by
 intro pins s σ H D I h
 obtain⟨μ,S0,ρ,hr,er,hρ,hρj,h⟩:=h
 obtain⟨v,hσ,rv⟩:=er.get i _ hρ
 have hv':v = .ref g:=by simpa only [RU]using rv
 subst hv'
 have hiN:X.N[i]? = some x:=by rw[S.hN];exact hi
 refine wpAny_Try_except (yi (wpAny_Expr_any ?_ I.quiet rfl))
 rcases h with⟨u,S1,hφ,kk⟩ | ⟨q,S1,hψ,kk⟩
 ·obtain⟨fd,hf,hb,F⟩:=F.ex
  rw[<- S.hP,<- S.hw,<- S.hK,<- S.hm,<- S.hb]at F
  rw[<- S.hb,<- S.hK]at hf
  rw[<- S.hK]at hb
  refine Fm I hiN (S.vis hx) hp hσ hf λs1 I1 =>?_
  refine thn (bI (qG (X:=X.nox) F (S.room.mono hk) hb .nil tJ (I1.wish _) .nil (show spM M.K φ ([]++[]) H (λ_ H'=>D.nx σ H') E0 from⟨μ,S0,[],u,S1,hr,.nil,hφ,λμ' v H' p k hr' _=>kk μ' σ H' p k hr' (er.mono k p)⟩)) (λ_ _ z=>z) λ_ _ z=>z.elim) λu s2 ⟨v,H2,I2,r2,q2⟩ =>?_
  exact iz (iz ⟨σ,H2,I2.unwish,q2⟩)
 ·obtain⟨fd,hf,hb,F'⟩:=F'.ex
  rw[<- S.hP,<- S.hw,<- S.hK,<- S.hm,<- S.hb]at F'
  rw[<- S.hb,<- S.hK]at hf
  rw[<- S.hK]at hb
  have hM:=hm _ _ _ hψ
  refine Fm I hiN (S.vis hx) hp hσ hf λs1 I1 =>?_
  have hsp:spX cl M.K ψ [] H (λ_ _=>False) (λc _ H'=>c = .ref (cl q) /\ ∃μ',Pre μ μ'/\bf H H'/\HR M.K μ' S1 H'):=⟨μ,S0,[],q,S1,hr,.nil,hψ,λμ' H' p k hr'=>⟨rfl,μ',p,k,hr'⟩⟩
  refine wpAny_call (gK (F'.run X.A X.stack s1 H ⟨[],[]⟩ [] [] (λ_ _=>False) _ (S.room.mono hk) I1.env0 (hb s1 [] I1.kIn (by have:=F'.len _ _ _ _ hsp;simpa using this)) .nil hsp) λr s2 hq =>?_)
  cases r with
  | ok fl=>
    cases fl with
    | ret u=>obtain⟨_,_,_,_,_,_,_,z⟩:=hq;exact z.elim
    | next=>exact bC hq
    | brk=>exact bC hq
    | cont=>exact bC hq
  | error ev=>
    obtain⟨e,T,cls,H',rfl,os,hg,un,hok,t,he,hT,ne,nT,rfl,μ',pr,kp,hr'⟩:=hq
    have I2:Inv X pins σ H' s2:=I1.call' os un hok hg λb z=>nomatch z
    have fS:X.A.frames=some (X.env::X.outer):=by rw[I.ok.frames,stk]
    obtain⟨a0,fl⟩:=flying I2 t
    rw[show mV (bO s2.heap (e::T::frs X.stack)) X.stack e (.ref (cl q)) a0 s2.heap=mV (bO s2.heap (e::T::frs X.stack)) (X.env::X.outer) e (.ref (cl q)) a0 s2.heap by rw[<- stk]]at fl
    refine wpAny_looks_onW fS fr fl λh3 hd3 sl3=>wpAny_landsW hd3 λh4 fl4 sl4 =>?_
    have sl04:=sl3.trans sl4
    have lf4:=uQ I2 fl4.1 sl04
    have I4:Inv X pins σ H' { s2 with heap:=h4 }:=I1.call' (s':={ s2 with heap:=h4 }) os (lf4.un un he hT) (lf4.hok hok I2.stkFree ne nT) hg λb z=>nomatch z
    refine wpAny_handleBy_cons (codeAny_handlers_test (jw (X:=Cx.mkd X (.ref e)) (Inv.mkd I4) (S.gl hW) (by show X.mg W=_;rw[S.hm];exact hw) ?_ (bW hWp).1)) (by intro z;cases z)
    obtain⟨ob,hob,hobc⟩:=fl4.there
    have kin:M.K.K.In h4:=by have:=I4.kIn;rw[S.hK]at this;exact this
    refine(PySem.W.exm_one (M:=model X.prog X.w) kin (hobc▸(ox hob).andThen .now) hM).here ?_
    refine codeAny_handlers_suite_as (lands_againW (s:={ s2 with heap:=h4 }) fl4 λh6 fl6 sl6 =>?_)
    have sl06:=sl04.trans sl6
    have lf6:=uQ I2 fl6.1 sl06
    obtain⟨oe,e1,e2⟩:=fl6.there
    have I6:Inv X pins σ (upd H' e (.frz oe fz)) { s2 with heap:=h6 }:=I1.call' (s':={ s2 with heap:=h6 }) os (Un.frz (lf6.un un he hT) he ne) (HOk.frz (lf6.hok hok I2.stkFree ne nT) ne e1) hg λb z=>nomatch z
    obtain⟨kp6,hr6⟩:=HR.frz (o:=oe) hr' ne
    have ndN:X.N.Nodup:=by rw[S.hN];exact S.nd
    have hjN:X.N[j]? = some n:=by rw[S.hN];exact hj
    have hlN:X.N[l]? = some y:=by rw[S.hN];exact hl
    have hnl:=S.loc n hn
    refine nY I6 ndN hjN (.inl hnl) (v:= .ref e) rfl (λs7 I7 =>?_) (.inr hnl)
    have hjl':j<σ.length:=by rw[I.len];exact(af.mp hjN).1
    have ps:=yu (xw (X:=Cx.mkd X (.ref e)) (i:=l) (pos:=p7) (pos':=p5) ndN hlN (S.lo hy).1 (mY (X:=Cx.mkd X (.ref e)) (i:=j) (pos:=p6) hjN (.inl hnl) (bW hnp).1 (bW hnp).2) rfl (S.lo hy).2)
    refine bI (ps pins s7 _ _ { nx:=λσ' H''=>σ'=(σ.set j (some (.ref e))).set l (some (.ref e))/\H''=upd H' e (.frz oe fz),rt:=λ_ _=>False } (Inv.mkd I7) ⟨.ref e,aI hjl',rfl,rfl⟩) (λf s8 hs =>?_) λ_ _ z=>z.elim
    cases f with
    | ret u=>obtain⟨_,_,_,_,_,z⟩:=hs;exact z.elim
    | brk=>obtain⟨_,_,_,z⟩:=hs;exact z.elim
    | cont=>obtain⟨_,_,_,z⟩:=hs;exact z.elim
    | next=>
      obtain⟨σ',H'',I8,rfl,rfl⟩:=hs
      have I8':Inv X pins _ _ s8:=Inv.unmkd I8 I.ok.hd
      refine AR I8' ndN hjN hnl λs9 I9=>⟨_,_,I9,?_⟩
      refine kk e oe μ' _ _ pr (kp.trans kp6) hr6 ⟨by simp[er.len],λm u hu =>?_⟩ cq e2
      have er6:=er.mono (kp.trans kp6) pr
      have hll:l<σ.length:=by rw[I.len];exact(af.mp hlN).1
      by_cases hml:m=l
      ·subst hml
       rw[aI (by rw[er.len];exact hll)]at hu
       cases hu
       refine⟨.ref e,?_,by simp only[RU]⟩
       rw[ay hjl,aI (by simpa using hll)]
      ·rw[ay (dM hml)]at hu
       have hmj:m≠j:=λz=>by rw[z,hρj]at hu;cases hu
       obtain⟨v,h1,h2⟩:=er6.get m u hu
       refine⟨v,?_,h2⟩
       rw[ay (dM hmj),ay (dM hml),ay (dM hmj)]
       exact h1
end
end _G
end
section
namespace _G
open PySem PySem.Spec _L
open PyProof.Rows hiding St
noncomputable def cn:List Str := ["TooMany","NotLevel","NoLift","NotPlain","NoName","BadNote","NoTwist"]
structure wo(K:ah)(mg:Str->Option Value)(cl:Nat->Addr)(w:Addr)(rz:List Nat):Prop where
 c: ∀j t,cn[j]? = some t->mg t=some (.ref (cl j))
 W:mg "WalkError"=some (.ref w)
 V:mg "ValueError"=none
 n : ∀ j,j < 7->cx K (.type "NoneType") (.ref (cl j))=some false
 nV:cx K (.type "NoneType") (.type "ValueError")=some false
 lt: ∀q∈rz,q<7
 x: ∀q∈rz,Br K (cl q)=true
 m: ∀q∈rz,uV K (.ref (cl q)) (.ref w)=some true
 k: ∀q∈rz,∀j,j<7->cx K (.ref (cl q)) (.ref (cl j))=some (decide (q=j))
 kV : ∀ q∈rz,cx K (.ref (cl q)) (.type "ValueError")=some true
section
noncomputable def mIs(u:U)(b:Bool):ME:=λρ S=>open Classical in if ρ[1]? = some (some u) then some (.bl b,S) else none
end
noncomputable def PP(L a b c:Nat):Pos:=⟨L+a,b,L+a,c⟩
noncomputable def isi (L a b:Nat) (t:Str) (n:Nat):Expr := .Call (.Name "isinstance" (PP L a b (b+10))) [.Name "error" (PP L a (b+11) (b+16)),.Name t (PP L a (b+18) (b+18+n))] [] (PP L a b (b+19+n))
noncomputable def xq (K:KX) (u:U) (t:Value):Prop:=(u = .non/\t = .type "NoneType") \/ ∃ e oe C,u = .obj e/\t = .ref C/\(e,oe)∈K.cds/\oe.cls = .ref C/\Br K.K C=true
section
variable {M:Mo}{X:Cx}{k:Nat}{N:List Str}{ns:List (Str×NameKind)}
theorem GB{pins:List (Addr×Obj)}{σ:St}{H:Hp}{s:Shared}{E:Value->Shared->Prop}{u:U}{t c:Value}{b:Bool}{v:V}{x:Value}{Q:VK}{μ:List Addr}{S:Sto}(I:Inv X pins σ H s)(hK:X.K=M.K.K)(hr:HR M.K μ S H)(ok:xq M.K u t)(ru:RU H μ u v)(rv:RelV v x)(e:cx M.K t c=some b)(q:Q (.bl b) H):
  aR (model X.prog X.w) X.A (call (.builtin "isinstance") [x,c]) (EP X pins σ Q) E s:=by
 have kin:M.K.K.In s.heap:=by rw[<- hK];exact I.kIn
 rcases ok with⟨rfl,rfl⟩ | ⟨ea,oe,C,rfl,rfl,hm,hc,hB⟩
 ·have hv:v = .non:=by simpa only [RU]using ru
  subst hv
  obtain rfl:x=wK:=rv
  exact PySem.W.kia_one PySem.W.kitx_none kin trivial e (by intro z;cases z) λtk=>⟨.bl b,H,I.tok tk,rfl,q⟩
 ·have hv:v = .ref ea:=by simpa only [RU]using ru
  subst hv
  obtain rfl:x=bH ea:=rv
  exact PySem.W.kia_one (Cr hB) kin ⟨oe,(I.hok ea _ (hr.ext.cds _ hm)).1,hc⟩ e (by intro z;cases z) λtk=>⟨.bl b,H,I.tok tk,rfl,q⟩
theorem E2 {u:U}{t c:Value}{b:Bool}{L a bb n:Nat}{y:Str} (S:Sc M X k N ns) (ok:xq M.K u t) (h1:N[1]? = some ("error":Str)) (hv:lu ns "error"=true) (hg:dF ns "isinstance"=true) (hm:M.mg "isinstance"=none) (hy:dF ns y=true) (hp:bw y=true)
  (hc:M.mg y=some c\/(M.mg y=none/\bootBuiltins y=some c/\y≠"__name__")) (e:cx M.K t c=some b):PE X (isi L a bb y n) (tM M.K (mIs u b)):=by
 rintro pins s σ H Q I ⟨μ,S0,ρ,w,S',hr,er,q,aft⟩
 unfold mIs at q
 split at q
 rotate_left
 ·cases q
 rename_i hρ
 cases q
 obtain⟨v,hσ,ru⟩:=er.get 1 _ hρ
 have h1N:X.N[1]? = some ("error":Str):=by rw [S.hN];exact h1
 unfold isi
 refine dB (nr I (S.gl hg) (by rw[S.hm];exact hm) boot_isinstance ?_ (by decide) (by decide))
 refine callWith_builtin1 ?_ rfl rfl
 refine eN (thn (mY (X:=X) h1N (S.vis hv) (by decide +kernel) (by decide +kernel) pins s σ H (λv' H1=>v'=v/\H1=H) I ⟨_,hσ,rfl,rfl⟩) λx s1 ⟨v',H1,I1,r1,e1,e2⟩ =>?_)
 subst e1;subst e2
 have fin:aR (model X.prog X.w) X.A (call (.builtin "isinstance") [x,c]) (EP X pins σ Q) X.xe s1:=GB I1 S.hK hr ok ru r1 e (aft μ _ H1 (Pre.refl _) (bf.refl _) hr lE)
 rcases hc with hc | ⟨hc,hb,hn⟩
 ·exact eN (jw I1 (S.gl hy) (by rw[S.hm];exact hc) (iy fin) (bW hp).1)
 ·exact eN (nr I1 (S.gl hy) (by rw[S.hm];exact hc) hb (iy fin) hn (bW hp).1)
end
end _G
namespace _G
open PySem PySem.Spec _L
open PyProof.Rows hiding St
noncomputable def mE(L:Nat)(z:Stmt):List Stmt:= [
 .Assign [.Name "error" (PP L 1 4 9)] (.Constant .none 0 (PP L 1 12 16)) (PP L 1 4 16),
 .Try [.Expr (.Call (.Name "call" (PP L 3 8 12)) [] [] (PP L 3 8 14)) (PP L 3 8 14)] [.ExceptHandler (some (.Name "WalkError" (PP L 4 11 20))) (some "e") [.Assign [.Name "error" (PP L 5 8 13)] (.Name "e" (PP L 5 16 17)) (PP L 5 8 17)] ⟨L+4,4,L+5,17⟩] [] [] ⟨L+2,4,L+5,17⟩,
 .Assign [.Name "kinds" (PP L 6 4 9)] (.List [isi L 6 13 "TooMany" 7,isi L 6 41 "NotLevel" 8,isi L 6 70 "NoLift" 6] (PP L 6 12 96)) (PP L 6 4 96),
 .Assign [.Name "kinds" (PP L 7 4 9)] (.BinOp (.Name "kinds" (PP L 7 12 17)) .Add (.List [isi L 7 21 "NotPlain" 8,isi L 7 50 "NoName" 6,isi L 7 77 "BadNote" 7] (PP L 7 20 104)) (PP L 7 12 104)) (PP L 7 4 104),
 .Expr (.Call (.Attribute (.Name "kinds" (PP L 8 4 9)) "append" (PP L 8 4 16)) [isi L 8 17 "NoTwist" 7] [] (PP L 8 4 44)) (PP L 8 4 44),
 .If (.UnaryOp .Not (isi L 9 11 "ValueError" 10) (PP L 9 7 40)) [.Return (some (.Constant .none 0 (PP L 10 15 19))) (PP L 10 8 19)] [] ⟨L+9,4,L+10,19⟩,
 z]
section
noncomputable def mzR:MS:=cK (dg (iR1 (aa (mC (.int 7)) ag)) (cOf (m2 oIx (ae 3) (ae 4))) (ae 4))
noncomputable def tlR(u:U)(b:Nat->Bool):MS:=
 bo (bV 3 (bU (aa (mIs u (b 0)) (aa (mIs u (b 1)) (aa (mIs u (b 2)) ag)))))
 (bo (bV 3 (m2 cU (ae 3) (bU (aa (mIs u (b 3)) (aa (mIs u (b 4)) (aa (mIs u (b 5)) ag))))))
 (bo (cy (mML b0 (ae 3) (aa (mIs u (b 6)) ag)))
 (bo (sIf (ya (cOf (mIs u (b 7)))) (cK (mC .non)) cN) mzR)))
noncomputable def sZ (ns:NS):Bool:=lG ns "error"&&lG ns "kinds"&&lu ns "call"&&ns.lookup ("e":Str) == some .local&&dF ns "isinstance"&&dF ns "ValueError"&&dF ns "WalkError"&&cn.all (dF ns)
noncomputable def pG:List Str := ["call","error","e","kinds"]
end
theorem uH{ns:NS}{x:Str}(h:lG ns x=true):lu ns x=true:=by
 unfold lG at h
 unfold lu
 split at h <;> rename_i e <;> first | (cases h;done) |rw[e]
section
variable {M:Mo}{X:Cx}{k:Nat}{ns:List (Str×NameKind)}
theorem zh {u:U}{t:Value}{b:Nat->Bool}{c:Nat->Value}{L:Nat}{z:Stmt}{cl:Nat->Addr}{w:Addr}{rz:List Nat} (S:Sc M X k pG ns) (hns:sZ ns=true) (B : ∀ x∈i5,M.mg x=none) (Rk:wo M.K.K M.mg cl w rz) (ok:xq M.K u t) (hb : ∀ j,j < 7->cx M.K t (.ref (cl j))=some (b j)) (hV:cx M.K t (.type "ValueError")=some (b 7))
  (hz:PS X z (tMS M.K mzR)):PSs X ((mE L z).drop 2) (tMS M.K (tlR u b)):=by
 unfold sZ at hns
 simp only[ao,cH]at hns
 obtain⟨⟨⟨⟨⟨⟨⟨h1,h2⟩,h3⟩,h4⟩,h5⟩,h6⟩,h7⟩,h8⟩:=hns
 have hiB:M.mg "isinstance"=none:=B _ (by decide +kernel)
 have is: ∀(j a bb n:Nat) (y:Str),cn[j]? = some y->PE X (isi L a bb y n) (tM M.K (mIs u (b j))):=λj a bb n y hj=>by
  have hlt:j<7:=(af.mp hj).1
  have hm:y∈cn:=eg hj
  have hp:bw y=true:=by
   have: ∀y∈cn,bw y=true:=by decide +kernel
   exact this y hm
  exact E2 S ok rfl (uH h1) h5 hiB (h8 y hm) hp (.inl (Rk.c j y hj)) (hb j hlt)
 have kv : ∀ pos,PE X (.Name "kinds" pos) (tM M.K (ae 3)):=fun pos=>E4 S 3 rfl (uH h2) (by decide +kernel) (by decide +kernel)
 refine vV (vQ S 3 rfl h2 (Bi (kY (is 0 _ _ _ _ rfl) (kY (is 1 _ _ _ _ rfl) (kY (is 2 _ _ _ _ rfl) zj))))) ?_
 refine vV (vQ S 3 rfl h2 (FM S (kv _) (Bi (kY (is 3 _ _ _ _ rfl) (kY (is 4 _ _ _ _ rfl) (kY (is 5 _ _ _ _ rfl) zj)))))) ?_
 refine vV (Cg (vX S (kv _) (kY (is 6 _ _ _ _ rfl) zj) rfl rfl (by show((L+8)==(L+8))=true;simp) rfl rfl)) ?_
 refine vV (J0 (E8 (Fb (E2 S ok rfl (uH h1) h5 hiB h6 (by decide +kernel) (.inr ⟨Rk.V,by decide +kernel,by decide +kernel⟩) hV))) (Bl (Fe B8)) Fk) (Bl hz)
end
end _G
end
section
namespace _G
open PySem PySem.Spec _L
open PyProof.Rows hiding St
theorem xi{u:U}{b:Bool}{ρ:Rho}{S:Sto}(h:ρ[1]? = some (some u)):mIs u b ρ S=some (.bl b,S):=by
 unfold mIs
 rw[if_pos h]
theorem yT{u:U}{b:Nat->Bool}{x y:Option U}{S:Sto}:tlR u b [x,some u,y,none] S =
  (bo (sIf (ya (cOf (mIs u (b 7)))) (cK (mC .non)) cN) mzR) [x,some u,y,some (.ref (S.length+2))] (S++gc b):=by
 have i0: ∀(v:Option U) (c:Bool) (S:Sto),mIs u c [x,some u,y,v] S=some (.bl c,S):=λv c S=>xi rfl
 have e1:bV 3 (bU (aa (mIs u (b 0)) (aa (mIs u (b 1)) (aa (mIs u (b 2)) ag)))) [x,some u,y,none] S=some (.nx,[x,some u,y,some (.ref S.length)],S++[kL b [0,1,2]]):=by
  simp only[bV,bU,aa,ag,i0,aD]
  rw[if_pos (by simp[big])]
  rfl
 have g1:(S++[kL b [0,1,2],kL b [3,4,5]])[S.length]? = some (kL b [0,1,2]):=by simp
 have g2:(S++[kL b [0,1,2],kL b [3,4,5]])[S.length+1]? = some (kL b [3,4,5]):=by rw[ar (by omega)];simp
 have e2:bV 3 (m2 cU (ae 3) (bU (aa (mIs u (b 3)) (aa (mIs u (b 4)) (aa (mIs u (b 5)) ag))))) [x,some u,y,some (.ref S.length)] (S++[kL b [0,1,2]])=some (.nx,[x,some u,y,some (.ref (S.length+2))],S++[kL b [0,1,2],kL b [3,4,5],kL b [0,1,2,3,4,5]]):=by
  have a0:bU (aa (mIs u (b 3)) (aa (mIs u (b 4)) (aa (mIs u (b 5)) ag))) [x,some u,y,some (.ref S.length)] (S++[kL b [0,1,2]])=some (.ref (S.length+1),S++[kL b [0,1,2],kL b [3,4,5]]):=by
   simp only[bU,aa,ag,i0,aD]
   rw[if_pos (by simp[big])]
   simp[kL]
  have v0: ∀S',ae 3 [x,some u,y,some (.ref S.length)] S'=some (.ref S.length,S'):=λS'=>rfl
  have a1:cU (.ref S.length) (.ref (S.length+1)) (S++[kL b [0,1,2],kL b [3,4,5]])=some (.ref (S.length+2),S++[kL b [0,1,2],kL b [3,4,5],kL b [0,1,2,3,4,5]]):=by
   unfold cU
   simp only[g1,g2]
   simp only[kL]
   rw[if_pos (by simp[big])]
   simp
  simp only[bV,m2,v0,aD,a0,a1]
  rfl
 have g3:(S++[kL b [0,1,2],kL b [3,4,5],kL b [0,1,2,3,4,5]])[S.length+2]? = some (kL b [0,1,2,3,4,5]):=by rw[ar (by omega)];simp
 have e3:cy (mML b0 (ae 3) (aa (mIs u (b 6)) ag)) [x,some u,y,some (.ref (S.length+2))] (S++[kL b [0,1,2],kL b [3,4,5],kL b [0,1,2,3,4,5]])=some (.nx,[x,some u,y,some (.ref (S.length+2))],S++gc b):=by
  have v0: ∀S',ae 3 [x,some u,y,some (.ref (S.length+2))] S'=some (.ref (S.length+2),S'):=λS'=>rfl
  have gl:getL (S++[kL b [0,1,2],kL b [3,4,5],kL b [0,1,2,3,4,5]]) (S.length+2)=some ([0,1,2,3,4,5].map λi => .bl (b i)):=by
   unfold getL
   rw[g3]
   rfl
  have a1:b0 (S.length+2) [.bl (b 6)] (S++[kL b [0,1,2],kL b [3,4,5],kL b [0,1,2,3,4,5]])=some (.non,S++gc b):=by
   unfold b0
   simp only[g3]
   simp only[kL]
   rw[if_pos (by simp[big])]
   rw[iP _ _ (by omega)]
   have:S.length+2 - S.length=2:=by omega
   rw[this]
   rfl
  simp only[cy,mML,v0,aD,gl,ax,aa,ag,i0,a1]
 unfold tlR
 rw[show ∀(a b:MS) (ρ:Rho) (S:Sto),bo a b ρ S=(match a ρ S with |some (.nx,ρ1,S1)=>b ρ1 S1 |r=>r) from λ_ _ _ _=>rfl,e1]
 simp only[]
 rw[show ∀(a b:MS) (ρ:Rho) (S:Sto),bo a b ρ S=(match a ρ S with |some (.nx,ρ1,S1)=>b ρ1 S1 |r=>r) from λ_ _ _ _=>rfl,e2]
 simp only[]
 rw[show ∀(a b:MS) (ρ:Rho) (S:Sto),bo a b ρ S=(match a ρ S with |some (.nx,ρ1,S1)=>b ρ1 S1 |r=>r) from λ_ _ _ _=>rfl,e3]
theorem EJ{x y:Option U}{S:Sto}{u:U}{b:Nat->Bool}(hb:b 7=false):tlR u b [x,some u,y,none] S=some (.rt .non,[x,some u,y,some (.ref (S.length+2))],S++gc b):=by
 rw[yT]
 simp only[bo,sIf,ya,cOf,xi (show([x,some u,y,some (.ref (S.length+2))]:Rho)[1]? = some (some u) from rfl),aD,hb]
 rfl
theorem Lq:okR 7:=by unfold okR;omega
theorem Ei{x y:Option U}{S:Sto}{u:U}{q:Nat}(hq:q<7): ∃ρ',tlR u (bQ q) [x,some u,y,none] S=some (.rt (.ref (S.length+3)),ρ',S++(gc (bQ q)++[.lst [.int q]])):=by
 rw[yT]
 have h7:bQ q 7=true:=by unfold bQ;simp
 simp only[bo,sIf,ya,cOf,xi (show([x,some u,y,some (.ref (S.length+2))]:Rho)[1]? = some (some u) from rfl),aD,h7,Bool.not_true,gL,if_false,cN]
 refine⟨[x,some u,y,some (.ref (S.length+2))],?_⟩
 unfold mzR cK dg
 have hi:iR1 (aa (mC (.int 7)) ag) [x,some u,y,some (.ref (S.length+2))] (S++gc (bQ q))=some (.imm (bh 0 7),S++gc (bQ q)):=by
  simp only[iR1,aa,mC,ag,aD]
  rw[if_pos Lq]
  rfl
 have g3:(S++gc (bQ q))[S.length+2]? = some (kL (bQ q) [0,1,2,3,4,5,6]):=by rw[ar (by omega)];simp[gc]
 have gi: ∀i:Nat,i<7->cOf (m2 oIx (ae 3) (ae 4)) [x,some u,y,some (.ref (S.length+2)),some (.int i)] (S++gc (bQ q))=some (bQ q i,S++gc (bQ q)):=λi hi=>by
  have v3: ∀S',ae 3 [x,some u,y,some (.ref (S.length+2)),some (.int i)] S'=some (.ref (S.length+2),S'):=λS'=>rfl
  have v4: ∀S',ae 4 [x,some u,y,some (.ref (S.length+2)),some (.int i)] S'=some (.int i,S'):=λS'=>rfl
  have d0:gp (S++gc (bQ q)) (.ref (S.length+2))=none:=by
   simp only[gp,g3,kL]
  have s0:dR (S++gc (bQ q)) (.ref (S.length+2))=some ([0,1,2,3,4,5,6].map λi => .bl (bQ q i)):=by
   simp only[dR,getL,g3,kL]
  have a0:_L.atI ([0,1,2,3,4,5,6].map λi=>U.bl (bQ q i)) (i:Int)=some (.bl (bQ q i)):=by
   have:i=0\/i=1\/i=2\/i=3\/i=4\/i=5\/i=6:=by omega
   rcases this with rfl |rfl |rfl |rfl |rfl |rfl |rfl <;> rfl
  simp only[cOf,m2,v3,v4,aD,oIx,d0,s0,ax,a0,bx]
 have v4: ∀(i:Nat) S',ae 4 [x,some u,y,some (.ref (S.length+2)),some (.int i)] S'=some (.int i,S'):=λi S'=>rfl
 have key: ∀(is:List Nat) (acc:List U),(∀i∈is,i<7)->fA (cOf (m2 oIx (ae 3) (ae 4))) (ae 4) [x,some u,y,some (.ref (S.length+2))] (is.map λ(i:Nat) => .int i) acc (S++gc (bQ q))=some (acc++(is.filter (bQ q)).map (λ(i:Nat) => .int i),S++gc (bQ q)):=by
  intro is
  induction is with
  | nil=>intro acc _;simp[fA]
  | cons i is ih=>
    intro acc h
    have hi:=h i aP
    have ih':=λacc=>ih acc λj hj=>h j (aw _ hj)
    rw[bD]
    unfold fA
    rw[show([x,some u,y,some (.ref (S.length+2))]:Rho)++[some (.int i)] = [x,some u,y,some (.ref (S.length+2)),some (.int i)] from rfl,gi i hi]
    simp only[aD]
    cases hb:bQ q i with
    | true=>
      rw[if_pos rfl,v4]
      simp only[aD]
      rw[ih']
      simp[hb]
    | false=>
      rw[if_neg (by simp),ih']
      simp[hb]
 have hr:bh 0 7=([0,1,2,3,4,5,6]:List Nat).map λ(i:Nat) => .int i:=rfl
 have hf:([0,1,2,3,4,5,6]:List Nat).filter (bQ q) = [q]:=by
  have:q=0\/q=1\/q=2\/q=3\/q=4\/q=5\/q=6:=by omega
  rcases this with rfl |rfl |rfl |rfl |rfl |rfl |rfl <;> decide
 have hc:v5 (cOf (m2 oIx (ae 3) (ae 4))) (ae 4) [x,some u,y,some (.ref (S.length+2))] (.imm (bh 0 7)) (S++gc (bQ q))=some ([.int q],S++gc (bQ q)):=by
  unfold v5
  simp only[hr,key _ _ (show ∀i∈([0,1,2,3,4,5,6]:List Nat),i<7 by decide),hf]
  rfl
 simp only[hi,aD,hc]
 rw[if_pos (by simp[big])]
 simp[gc]
 rfl
end _G
end
section
namespace _G
open PySem PySem.Spec _L
open PyProof.Rows hiding St
section
variable {M:Mo}{cl:Nat->Addr}{T:Tb}{k fu L:Nat}{h:Heap}{x:Str}{st z:Stmt}{w:Addr}{rz:List Nat}
theorem Def.fnRef (O : ∀ caps capv cds base,fD M.mg base->TOk (M.to caps capv cds base) T k) (h1:T.mkr=false) (X:M.K.K.In h) (Gn:h.Ns mainGlobals M.mg) (D:Def M.K x st) (S:aV pG ["call"] (aj st)) (hb:Bd x st ["call"])
  (hns:sZ (aj st).names=true) (hbody:aM st=mE L z) (hz:cS T fu pG (aj st).names z=some mzR) (Rk:wo M.K.K M.mg cl w rz):FnR M cl x k rz:=by
 obtain⟨f,fd,a,F⟩:=D.ex
 refine⟨f,fd,bF X Gn a,F.2,F.binds hb,λcaps capv cds base g j φ ψ hbb hkj lam lamx =>?_⟩
 have len: ∀vs H Q E,spM (M.K.to caps capv cds) (Al rz g φ ψ) vs H Q E->vs.length=1:=λvs H Q E hh=>by
  obtain⟨μ,S',us,u,S'',hr,rs,e,_⟩:=hh
  unfold Al at e
  split at e
  ·rw[<- rs.len];rfl
  ·cases e
 have lx:u6 (M.to caps capv cds base) cl g j [] λus S=>(ψ us S).filter λr=>decide (r.1∈rz):=lamx.imp λus S q hq=>(kh.mp hq).1
 have hns':=hns
 unfold sZ at hns'
 simp only[ao]at hns'
 obtain⟨⟨⟨⟨⟨⟨⟨n1,n2⟩,n3⟩,n4⟩,n5⟩,n6⟩,n7⟩,n8⟩:=hns'
 refine Fun.ok (K:=M.K.K) F S (λvs H Q E hh=>len vs H Q E hh) λcdv A outer s H vs Q E hr hh =>?_
 have S0: ∀cds',Sc (M.to caps capv cds' base) (qH CX0 M.P M.w M.K M.mg base pG x (aj st) f cdv A outer s H E).nox j pG (aj st).names:=λcds'=>Sc.def (M:=M.to caps capv cds' base) S hr λc q z=>nomatch z
 have hzz: ∀cds',PS (qH CX0 M.P M.w M.K M.mg base pG x (aj st) f cdv A outer s H E).nox z (tMS (M.K.to caps capv cds') mzR):=λcds'=>(snd fu (M.to caps capv cds' base) T j (.of ((O caps capv cds' base hbb).mono hkj) h1)).s _ _ _ _ hz _ (S0 cds')
 have B: ∀y∈i5,M.mg y=none:=λy hy=>(O caps capv cds base hbb).B y hy
 have hf : ∀ j',j' < 7->cx M.K.K (.type "NoneType") (.ref (cl j'))=some ((fun _=>false) j'):=fun j' hj=>Rk.n j' hj
 have ptl:=zh (M:=M.to caps capv cds base) (L:=L) (z:=z) (c:=λ_ => .none) (S0 cds) hns B Rk (u:= .non) (.inl ⟨rfl,rfl⟩) hf Rk.nV (hzz cds)
 have ptx: ∀e oe q,q∈rz->oe.cls = .ref (cl q)->PSs (qH CX0 M.P M.w M.K M.mg base pG x (aj st) f cdv A outer s H E).nox ((mE L z).drop 2) (tMS (M.K.to caps capv (cds++[(e,oe)])) (tlR (.obj e) (bQ q))):=λe oe q hq hc=>by
  refine zh (M:=M.to caps capv (cds++[(e,oe)]) base) (L:=L) (z:=z) (c:=λ_ => .none) (S0 _) hns B Rk (.inr ⟨e,oe,cl q,rfl,rfl,aL _ aP,hc,Rk.x q hq⟩) (λj' hj =>?_) ?_ (hzz _)
  ·rw[show bQ q j'=decide (q=j') by unfold bQ;rw[show decide (j'=7)=false from decide_eq_false (by omega)];simp]
   exact Rk.k q hq j' hj
  ·rw[show bQ q 7=true by unfold bQ;simp]
   exact Rk.kV q hq
 have pT:=Hx (M:=M.to caps capv cds base) (cl:=cl) (S0 cds) rfl rfl lam lx (ak j) (i:=0) (x:="call") (j:=2) (n:="e") (l:=1) (y:="error") (W:="WalkError") (w:=w) (p1:=PP L 3 8 12) (p2:=PP L 3 8 14) (p3:=PP L 3 8 14) (p4:=PP L 4 11 20) (p5:=PP L 5 8 13) (p6:=PP L 5 16 17) (p7:=PP L 5 8 17) (p8:=⟨L+4,4,L+5,17⟩) (p9:=⟨L+2,4,L+5,17⟩)
  rfl n3 (by decide +kernel) rfl (eq_of_beq n4) (by decide +kernel) rfl n1 (by decide) n7 (by decide +kernel) Rk.W λS q S1 hq=>by
   obtain⟨_,h2⟩:=kh.mp hq
   exact Rk.m q (of_decide_eq_true h2)
 have pS:=vQ (M:=M.to caps capv cds base) (p1:=PP L 1 4 9) (pos:=PP L 1 4 16) (S0 cds) 1 rfl n1 (B8 (M:=M.to caps capv cds base) (j:=0) (pos:=PP L 1 12 16)) rfl
 let tT:TS:=λD σ H=>tMS (M.K.to caps capv cds) (tlR .non λ_=>false) D σ H \/ ∃e oe q,q∈rz/\oe.cls = .ref (cl q)/\tMS (M.K.to caps capv (cds++[(e,oe)])) (tlR (.obj e) (bQ q)) D σ H
 have pTl:PSs (qH CX0 M.P M.w M.K M.mg base pG x (aj st) f cdv A outer s H E).nox ((mE L z).drop 2) tT:=λpins s σ H D I q=>by
  rcases q with q | ⟨e,oe,q',hq,hc,q⟩
  ·exact ptl pins s σ H D I q
  ·exact ptx e oe q' hq hc pins s σ H D I q
 rw[hbody]
 refine⟨_,lq pS (lq pT pTl),?_⟩
 obtain⟨μ,S1,us,u,S2,hR,rs,e,ka⟩:=hh
 unfold Al at e
 split at e
 rotate_left
 ·cases e
 rename_i a'
 split at e
 rotate_left
 ·cases e
 rename_i ha
 subst ha
 have er:=mx (N:=pG) rs
 refine⟨μ,S1,_,_,hR,er,rfl,λμ1 σ1 H1 p1 k1 hr1 er1 =>?_⟩
 refine⟨μ1,S1,_,hr1,er1,rfl,rfl,?_⟩
 unfold Ah at e
 split at e
 ·rename_i r hφ
  cases e
  refine .inl ⟨r.1,r.2,hφ,λμ2 σ2 H2 p2 k2 hr2 er2 => .inl ⟨μ2,r.2,_,_,hr2,er2,EJ rfl,?_⟩⟩
  exact ka.mono (p1.trans p2) (k1.trans k2)
 ·split at e
  rotate_left
  ·cases e
  rename_i r hψ
  split at e
  rotate_left
  ·cases e
  rename_i hq
  cases e
  refine .inr ⟨r.1,r.2,kh.mpr ⟨hψ,decide_eq_true hq⟩,λe oe μ2 σ2 H2 p2 k2 hr2 er2 hfz hcls => .inr ⟨e,oe,r.1,hq,hcls,?_⟩⟩
  obtain⟨ρ',hv⟩:=Ei (x:=some (.obj a')) (y:=none) (S:=r.2) (u:= .obj e) (Rk.lt _ hq)
  refine⟨μ2,r.2,_,_,⟨hr2.len,hr2.inj,hr2.cell,hr2.ext.cap,λc hc =>?_,hr2.ext.tab⟩,er2,hv,λμ3 v3 H3 p3 k3 hr3 ru3 =>?_⟩
  ·rcases bZ.mp hc with z |z
   ·exact hr2.ext.cds c z
   ·have e':c=(e,oe):=by simpa using z
    rw[e'];exact hfz
  ·exact ka μ3 v3 H3 ((p1.trans p2).trans p3) ((k1.trans k2).trans k3) ⟨hr3.len,hr3.inj,hr3.cell,hr3.ext.cap,λc hc=>hr3.ext.cds c (bc _ hc),hr3.ext.tab⟩ ru3
end
end _G
end
section
namespace _G
open PySem PySem.Spec _L
section
variable {P:Program}{w:World}{K:ah}{mg:Str->Option Value}{tabs:List (Addr×Str)}{T:Tb}{k j:Nat}{h:Heap}{x:Str}{st z:Stmt}{N ps:List Str}{r:MX}{fu n L:Nat}{wA:Addr}{rz:List Nat}
theorem Def.fn0{M:Mo}{N ps:List Str}{k:Nat}{x:Str}{st:Stmt}{h:Heap}(h0:M.mkr=none)(X:M.K.K.In h)(Gn:h.Ns mainGlobals M.mg)(D:Def M.K x st)(S:aV N ps (aj st))(hb:Bd x st ps):Fn M x (k+1) ps (run ps.length N.length sNo):=by
 obtain⟨f,fd,a,F⟩:=D.ex
 exact⟨f,fd,bF X Gn a,F.2,F.binds hb,yz h0 F S λX S' pins s σ H D I h=>by
  obtain⟨μ,S,ρ,r,hr,er,e,kk⟩:=h
  cases e⟩
theorem Ch.no(c:Ch P w K mg tabs T k)(X:K.In h)(Gn:h.Ns mainGlobals mg)(D:Def K x st)(S:aV N ps (aj st))(hb:Bd x st ps):Ch P w K mg tabs ⟨(x,run ps.length N.length sNo)::T.D,T.C,T.L,T.H,T.mkr,T.Z⟩ (k+1):=
 ⟨λa b d e f=>(c.o a b d e f).cons (D.fn0 (M:=⟨P,w,⟨K,a,b,d,tabs⟩,mg,e,none⟩) rfl X Gn S hb) (bY k),λa b d e f=>ku (c.h a b d e f) (bY k),λa b d e f=>mG (c.r a b d e f) (bY k)⟩
theorem Ch.raise(c:Ch P w K mg tabs T k)(Cl:List (Str×Nat))(h1:T.mkr=false)(hC: ∀y i,Cl.lookup y=some i->mg y=some (.ref (T.Z.cl i))/\exB K (T.Z.cl i)=true)(X:K.In h)(Gn:h.Ns mainGlobals mg)(D:Def K x st)(S:aV N ps (aj st))(hb:Bd x st ps)
  (hc:(xc fu n).b T ⟨T.Z.R,Cl⟩ N (aj st).names (aM st)=some r):Ch P w K mg tabs ⟨T.D,T.C,T.L,T.H,T.mkr,⟨(x,lJ ps.length N.length r)::T.Z.R,T.Z.F,T.Z.cl,T.Z.nm⟩⟩ (k+1):=
 ⟨λa b d e f=>by
  have O:=c.o a b d e f
  have F:=D.fnX (M:=⟨P,w,⟨K,a,b,d,tabs⟩,mg,e,none⟩) (cl:=T.Z.cl) (T:=T) (Z:=⟨T.Z.R,Cl⟩) ⟨.of O h1,O.Z,hC⟩ rfl X Gn S hb hc
  have Om:=O.mono (bY k)
  refine⟨Om.D,Om.C,Om.B,Om.L,Om.mkr,λy r' hy =>?_⟩
  rw[aF]at hy
  cases q:y==x with
  | true=>rw[q]at hy;cases hy;rw[eq_of_beq q];exact⟨k+1,ps,ak _,F⟩
  | false=>rw[q]at hy;exact Om.Z y r' hy,λa b d e f=>ku (c.h a b d e f) (bY k),λa b d e f=>mG (c.r a b d e f) (bY k)⟩
theorem Ch.refd (c:Ch P w K mg tabs T k) (h1:T.mkr=false) (X:K.In h) (Gn:h.Ns mainGlobals mg) (D:Def K x st) (S:aV pG ["call"] (aj st)) (hb:Bd x st ["call"]) (hns:sZ (aj st).names=true) (hbody:aM st=mE L z) (hz:cS T fu pG (aj st).names z=some mzR) (Rk:wo K mg T.Z.cl wA rz) :
  Ch P w K mg tabs ⟨T.D,T.C,T.L,T.H,T.mkr,⟨T.Z.R,(x,rz)::T.Z.F,T.Z.cl,T.Z.nm⟩⟩ k:=
 ⟨λa b d e f=>let O:=c.o a b d e f;⟨O.D,O.C,O.B,O.L,O.mkr,O.Z⟩,c.h,λa b d e f y rz' hy=>by
  rw[aF]at hy
  cases q:y==x with
  | true=>rw[q]at hy;cases hy;rw[eq_of_beq q];exact⟨k,ak _,D.fnRef (M:=⟨P,w,⟨K,a,b,d,tabs⟩,mg,e,none⟩) c.o h1 X Gn S hb hns hbody hz Rk⟩
  | false=>rw[q]at hy;exact c.r a b d e f y rz' hy⟩
end
end _G
namespace _G
open PySem PySem.Spec _L
noncomputable def clR (rz:List Nat):List (Str×Nat):=rz.map fun q=>(cn.getD q (CK ""),q)
noncomputable def G8(K:ah)(cs:List Addr)(w:Addr)(rz:List Nat):Bool:=
 aU K mainGlobals "ValueError" == some none&&(aO 7).all (fun j=>cx K (.type "NoneType") (.ref (cs.getD j 0)) == some false)&&cx K (.type "NoneType") (.type "ValueError") == some false &&
 rz.all λq=>decide (q<7)&&Br K (cs.getD q 0)&&uV K (.ref (cs.getD q 0)) (.ref w)==some true&&(aO 7).all (λj=>cx K (.ref (cs.getD q 0)) (.ref (cs.getD j 0))==some (decide (q=j))) &&
  cx K (.ref (cs.getD q 0)) (.type "ValueError") == some true&&exB K (cs.getD q 0)
section
variable {K:ah}{h:Heap}{mg:Str->Option Value}{c0 c1 c2 c3 c4 c5 c6 w:Addr}{rz:List Nat}
theorem G0 (X:K.In h) (Gn:h.Ns mainGlobals mg) (n0:aU K mainGlobals "TooMany"=some (some (.ref c0))) (n1:aU K mainGlobals "NotLevel"=some (some (.ref c1))) (n2:aU K mainGlobals "NoLift"=some (some (.ref c2))) (n3:aU K mainGlobals "NotPlain"=some (some (.ref c3)))
  (n4:aU K mainGlobals "NoName"=some (some (.ref c4))) (n5:aU K mainGlobals "BadNote"=some (some (.ref c5))) (n6:aU K mainGlobals "NoTwist"=some (some (.ref c6))) (nw:aU K mainGlobals "WalkError"=some (some (.ref w)))
  (hb:G8 K [c0,c1,c2,c3,c4,c5,c6] w rz=true):wo K mg (λj =>[c0,c1,c2,c3,c4,c5,c6].getD j 0) w rz /\ ∀y i,(clR rz).lookup y=some i->mg y=some (.ref ([c0,c1,c2,c3,c4,c5,c6].getD i 0))/\exB K ([c0,c1,c2,c3,c4,c5,c6].getD i 0)=true:=by
 unfold G8 at hb
 simp only[ao,cH,beq_iff_eq,decide_eq_true_eq,aS]at hb
 obtain⟨⟨⟨b1,b2⟩,b3⟩,b4⟩:=hb
 have hc: ∀j t,cn[j]? = some t->mg t=some (.ref ([c0,c1,c2,c3,c4,c5,c6].getD j 0)):=λj t hj=>by
  have hl:j<7:=(af.mp hj).1
  have:j=0\/j=1\/j=2\/j=3\/j=4\/j=5\/j=6:=by omega
  rcases this with rfl |rfl |rfl |rfl |rfl |rfl |rfl <;> cases hj
  ·exact bF X Gn n0
  ·exact bF X Gn n1
  ·exact bF X Gn n2
  ·exact bF X Gn n3
  ·exact bF X Gn n4
  ·exact bF X Gn n5
  ·exact bF X Gn n6
 refine⟨⟨hc,bF X Gn nw,CO X Gn b1,b2,b3,λq hq=>(b4 q hq).1.1.1.1.1,λq hq=>(b4 q hq).1.1.1.1.2,λq hq=>(b4 q hq).1.1.1.2,λq hq=>(b4 q hq).1.1.2,λq hq=>(b4 q hq).1.2⟩,λy i hy =>?_⟩
 have hm:=mem_of_lookup hy
 unfold clR at hm
 obtain⟨q,hq,e⟩:=bB.mp hm
 cases e
 refine⟨hc i _ ?_,(b4 i hq).2⟩
 have hl:i<cn.length:=(b4 i hq).1.1.1.1.1
 rw[dh,bG hl]
 rfl
end
end _G
end
section
namespace _W
open PySem PySem.Spec _L _G
section
noncomputable def fN:MS:=bo (sIf (cOf (m2 oLt (ae 1) (mFn cg (aa (ae 0) ag)))) (cK (m2 oIx (ae 0) (ae 1))) cN) (cK (mC (.int 0)))
noncomputable def g9:MF:=run 2 2 fN
noncomputable def jz:MS:=bo (bV 2 (mFn g9 (aa (ae 0) (aa (ae 1) ag)))) (bo (sIf (cOf (m2 oGe (ae 2) (m2 tY (mC (.int 10)) (mC (.int 18))))) (cK (bU (aa (m2 uM (ae 2) (m2 tY (mC (.int 10)) (mC (.int 18)))) (aa (mC (.bl true)) ag)))) cN) (cK (bU (aa (m2 oMod (ae 2) (mC (.int 2147483647))) (aa (mC (.bl false)) ag)))))
noncomputable def jy:MF:=run 2 3 jz
noncomputable def km:MS:=bo (sIf (cOf (m2 oIx (ae 0) (mC (.int 1)))) (bo (bV 2 (m2 oMod (m2 oIx (ae 0) (mC (.int 0))) (ae 1))) (bo (lQ (ae 0) (mC (.int 0)) (m2 oDiv (m2 oIx (ae 0) (mC (.int 0))) (ae 1))) (cK (ae 2)))) cN) (bo (lQ (ae 0) (mC (.int 0)) (m2 oMod (m2 cU (m2 ed (m2 oIx (ae 0) (mC (.int 0))) (mC (.int 48271))) (mC (.int 29))) (mC (.int 2147483647)))) (bo (bV 3 (m2 oMod (m2 cU (m2 cU (m2 ed (m2 oIx (ae 0) (mC (.int 0))) (m2 oIx (ae 0) (mC (.int 0)))) (m2 ed (mC (.int 39373)) (m2 oIx (ae 0) (mC (.int 0))))) (mC (.int 7))) (mC (.int 2147483629)))) (bo (bV 3 (m2 oMod (m2 cU (m2 ed (ae 3) (ae 3)) (m2 ed (mC (.int 16807)) (ae 3))) (mC (.int 2147483587)))) (cK (m2 oMod (m2 oDiv (ae 3) (mC (.int 8))) (ae 1))))))
noncomputable def ba:MF:=run 2 4 km
noncomputable def lT:MS:=cK (mFn cD (aa (dg (iR1 (aa (ae 0) ag)) cTT (mFn cD (aa (dg (iR1 (aa (ae 0) ag)) cTT (m2 oMod (m2 cU (ae 1) (ae 2)) (ae 0))) ag))) ag))
noncomputable def cu:MF:=run 1 1 lT
noncomputable def lD:MS:=bo (bV 1 (bU ag)) (bo (iM 2 (iR1 (aa (m2 ed (mC (.int 2)) (ae 0)) ag)) (bo (bV 3 (bU ag)) (bo (iM 4 (iR1 (aa (m2 ed (mC (.int 2)) (ae 0)) ag)) (bo (bV 5 (m2 oMod (m2 cU (m2 oMod (ae 2) (ae 0)) (m2 ed (m2 oIx (bU (aa (mC (.int 1)) (aa (m1 xM (mC (.int 1))) ag))) (m2 oDiv (ae 2) (ae 0))) (m2 oMod (ae 4) (ae 0)))) (ae 0))) (cy (mML b0 (ae 3) (aa (m2 cU (ae 5) (m2 ed (ae 0) (m2 oMod (m2 cU (m2 oDiv (ae 2) (ae 0)) (m2 oDiv (ae 4) (ae 0))) (mC (.int 2))))) ag))))) (cy (mML b0 (ae 1) (aa (mFn cD (aa (ae 3) ag)) ag)))))) (cK (mFn cD (aa (ae 1) ag))))
noncomputable def eS:MF:=run 1 6 lD
noncomputable def jM:MS:=bo (bV 0 (bU (aa (bU (aa (mC (.int 0)) (aa (mC (.int 0)) (aa (mC (.int 0)) (aa (mC (.int 0)) ag))))) (aa (bU (aa (mC (.int 0)) (aa (mC (.int 1)) (aa (mC (.int 0)) (aa (mC (.int 1)) ag))))) (aa (bU (aa (mC (.int 0)) (aa (mC (.int 1)) (aa (mC (.int 1)) (aa (mC (.int 0)) ag))))) (aa (bU (aa (mC (.int 0)) (aa (mC (.int 0)) (aa (mC (.int 1)) (aa (mC (.int 1)) ag))))) ag)))))) (bo (bV 1 (bU (aa (bU (aa (mC (.int 0)) (aa (mC (.int 1)) (aa (mC (.int 2)) (aa (mC (.int 3)) ag))))) (aa (bU (aa (mC (.int 1)) (aa (mC (.int 0)) (aa (mC (.int 3)) (aa (mC (.int 2)) ag))))) (aa (bU (aa (mC (.int 2)) (aa (mC (.int 3)) (aa (mC (.int 0)) (aa (mC (.int 1)) ag))))) (aa (bU (aa (mC (.int 3)) (aa (mC (.int 2)) (aa (mC (.int 1)) (aa (mC (.int 0)) ag))))) ag)))))) (bo (bV 2 (bU ag)) (bo (iM 3 (iR1 (aa (mC (.int 8)) ag)) (bo (bV 4 (bU ag)) (bo (iM 5 (iR1 (aa (mC (.int 8)) ag)) (bo (bV 6 (m2 oMod (m2 cU (m2 cU (ae 3) (ae 5)) (m2 oIx (m2 oIx (ae 0) (m2 oDiv (ae 3) (mC (.int 2)))) (m2 oDiv (ae 5) (mC (.int 2))))) (mC (.int 2)))) (cy (mML b0 (ae 4) (aa (m2 cU (m2 ed (mC (.int 2)) (m2 oIx (m2 oIx (ae 1) (m2 oDiv (ae 3) (mC (.int 2)))) (m2 oDiv (ae 5) (mC (.int 2))))) (ae 6)) ag))))) (cy (mML b0 (ae 2) (aa (mFn cD (aa (ae 4) ag)) ag)))))) (cK (mFn cD (aa (ae 2) ag))))))
noncomputable def fJ:MF:=run 0 7 jM
noncomputable def nj:MS:=bo (bV 2 (mFn cg (aa (ae 1) ag))) (bo (bV 3 (bU ag)) (bo (iM 4 (iR1 (aa (m2 ed (mFn cg (aa (ae 0) ag)) (ae 2)) ag)) (bo (bV 5 (bU ag)) (bo (iM 6 (iR1 (aa (m2 ed (mFn cg (aa (ae 0) ag)) (ae 2)) ag)) (bo (bV 7 (m2 oIx (m2 oIx (ae 0) (m2 oDiv (ae 4) (ae 2))) (m2 oDiv (ae 6) (ae 2)))) (cy (mML b0 (ae 5) (aa (m2 cU (m2 ed (ae 7) (ae 2)) (m2 oIx (m2 oIx (ae 1) (m2 oMod (ae 4) (ae 2))) (m2 oMod (ae 6) (ae 2)))) ag))))) (cy (mML b0 (ae 3) (aa (mFn cD (aa (ae 5) ag)) ag)))))) (cK (mFn cD (aa (ae 3) ag)))))
noncomputable def fX:MF:=run 2 8 nj
noncomputable def lh:MS:=cK (mFn cD (aa (dg (eK (ae 1)) cTT (mFn cD (aa (dg (eK (ae 1)) cTT (mMT gE (ae 1) (aa (m2 oIx (m2 oIx (ae 0) (ae 2)) (ae 3)) ag))) ag))) ag))
noncomputable def jx:MF:=run 2 2 lh
noncomputable def lr:MS:=bo (bV 2 (jL (iR2 (aa (mC (.int 1)) (aa (ae 1) ag))))) (cK (m2 cU (jI (aa (mC (.int 0)) ag)) (mFn cD (aa (dg (iR1 (aa (m2 uM (ae 1) (mC (.int 1))) ag)) cTT (mML jJ (ae 2) (aa (mFn ba (aa (ae 0) (aa (mFn cg (aa (ae 2) ag)) ag))) ag))) ag))))
noncomputable def jm:MF:=run 2 3 lr
noncomputable def kW:MS:=bo (bV 2 (mFn ba (aa (ae 0) (aa (mC (.int 8)) ag)))) (bo (bV 3 (mFn cu (aa (m2 cU (mC (.int 1)) (mFn ba (aa (ae 0) (aa (ae 1) ag)))) ag))) (bo (sIf (cOr (cOf (m2 oEq (ae 2) (mC (.int 1)))) (cOf (m2 oEq (ae 2) (mC (.int 2))))) (bV 3 (mFn eS (aa (m2 cU (mC (.int 1)) (mFn ba (aa (ae 0) (aa (m2 oDiv (ae 1) (mC (.int 2))) ag)))) ag))) cN) (bo (sIf (jH (cOf (m2 oEq (ae 2) (mC (.int 3)))) (cOf (m2 oGt (ae 1) (mC (.int 7))))) (bV 3 (mFn fJ ag)) cN) (bo (sIf (cOf (m2 oGt (ae 2) (mC (.int 3)))) (bo (bV 4 (m2 cU (mC (.int 2)) (mFn ba (aa (ae 0) (aa (mC (.int 3)) ag))))) (bo (bV 5 (m2 oIx (bU (aa (mFn cu (aa (ae 4) ag)) (aa (mFn eS (aa (ae 4) ag)) ag))) (mFn ba (aa (ae 0) (aa (mC (.int 2)) ag))))) (bo (sIf (cOf (m2 oGt (mFn cg (aa (ae 5) ag)) (ae 1))) (bV 5 (mFn cu (aa (ae 4) ag))) cN) (bV 3 (mFn fX (aa (ae 5) (aa (mFn cu (aa (m2 cU (mC (.int 1)) (mFn ba (aa (ae 0) (aa (m2 oDiv (ae 1) (mFn cg (aa (ae 5) ag))) ag)))) ag)) ag))))))) cN) (bo (sIf (cOf (m2 oEq (mFn ba (aa (ae 0) (aa (mC (.int 3)) ag))) (mC (.int 0)))) (bV 3 (mFn jx (aa (ae 3) (aa (mFn jm (aa (ae 0) (aa (mFn cg (aa (ae 3) ag)) ag))) ag)))) cN) (cK (ae 3)))))))
noncomputable def jn:MF:=run 2 6 kW
end
end _W
end
section
namespace _W
structure Grp(m:Nat)(T:Nat->Nat->Nat):Prop where
 pos:0<m
 cl: ∀i j,i<m->j<m->T i j<m
 l0: ∀i,i<m->T 0 i=i
 r0: ∀i,i<m->T i 0=i
 inv: ∀i,i<m -> ∃j,j<m/\T i j=0/\T j i=0
 as: ∀i j k,i<m->j<m->k<m->T (T i j) k=T i (T j k)
theorem Grp.congr{m:Nat}{T T':Nat->Nat->Nat}(g:Grp m T)(h: ∀i j,i<m->j<m->T' i j=T i j):Grp m T' where
 pos:=g.pos
 cl:=λi j hi hj=>by rw[h i j hi hj];exact g.cl i j hi hj
 l0:=λi hi=>by rw[h 0 i g.pos hi];exact g.l0 i hi
 r0:=λi hi=>by rw[h i 0 hi g.pos];exact g.r0 i hi
 inv:=λi hi=>by
  obtain⟨j,hj,a,b⟩:=g.inv i hi
  exact⟨j,hj,by rw[h i j hi hj];exact a,by rw[h j i hj hi];exact b⟩
 as:=λi j k hi hj hk=>by
  rw[h i j hi hj,h j k hj hk,h _ k (g.cl i j hi hj) hk,h i _ hi (g.cl j k hj hk)]
  exact g.as i j k hi hj hk
noncomputable def eu(n:Nat):Nat->Nat->Nat:=λi j=>(i+j) % n
theorem j7{n:Nat}(h:0<n):Grp n (eu n) where
 pos:=h
 cl:=λi j _ _=>rE _ h
 l0:=λi hi=>by unfold eu;rw[fh];exact bu hi
 r0:=λi hi=>by unfold eu;rw[nz];exact bu hi
 inv:=λi hi=>by
  by_cases h0:i=0
  ·subst h0;exact⟨0,h,by simp[eu],by simp[eu]⟩
  ·refine⟨n - i,by omega,?_,?_⟩ <;> unfold eu
   ·rw[show i+(n - i)=n by omega,nA]
   ·rw[show n - i+i=n by omega,nA]
 as:=λi j k _ _ _=>by
  unfold eu
  rw[nB,Nat.add_mod_mod,eC]
noncomputable def fZ(n:Nat):Nat->Nat->Nat:=λi j=>
 (if i<n then(i % n+j % n) % n else(i % n+(n - j % n)) % n)+n*((i / n+j / n) % 2)
theorem half{n i:Nat}(h:i<2*n):(i<n/\i % n=i/\i / n=0)\/(n<=i/\i % n=i - n/\i / n=1):=by
 by_cases hi:i<n
 ·exact .inl ⟨hi,bu hi,gg hi⟩
 ·refine .inr ⟨by omega,?_,?_⟩
  ·rw[Nat.mod_eq_sub_mod (by omega),bu (by omega)]
  ·exact Nat.div_eq_of_lt_le (by omega) (by omega)
theorem eB{n a b:Nat}(ha:a<n)(hb:b<n):fZ n a b=(a+b) % n:=by
 unfold fZ
 rw[if_pos ha,bu ha,bu hb,gg ha,gg hb];simp
theorem EU{n a:Nat}(ha:a<n):(n+a) / n=1:=Nat.div_eq_of_lt_le (by omega) (by omega)
theorem Ds{n a:Nat}(ha:a<n):(n+a) % n=a:=by rw[Nat.add_mod_left];exact bu ha
theorem hX{n a b:Nat}(ha:a<n)(hb:b<n):fZ n a (n+b)=n+(a+b) % n:=by
 unfold fZ
 rw[if_pos ha,bu ha,Ds hb,gg ha,EU hb];simp;omega
theorem hJ{n a b:Nat}(ha:a<n)(hb:b<n):fZ n (n+a) b=n+(a+(n - b)) % n:=by
 unfold fZ
 rw[if_neg (by omega),Ds ha,bu hb,gg hb,EU ha];simp;omega
theorem hG{n a b:Nat}(ha:a<n)(hb:b<n):fZ n (n+a) (n+b)=(a+(n - b)) % n:=by
 unfold fZ
 rw[if_neg (by omega),Ds ha,Ds hb,EU ha,EU hb];simp
theorem LN{n a b:Nat}(ha:a<n)(hb:b<n):(a+b) % n=if a+b<n then a+b else a+b - n:=by
 split
 ·exact bu (by assumption)
 ·rw[Nat.mod_eq_sub_mod (by omega),bu (by omega)]
theorem LV{n a b:Nat}(ha:a<n)(hb:b<n):(a+(n - b)) % n=if b<=a then a - b else a+n - b:=by
 have e:=Nat.add_sub_assoc (aT hb) a
 split
 ·rename_i h
  rw[<- e,mL h,kO,bu (aK (gU a b) ha)]
 ·rename_i h
  rw[bu (rF (Nat.add_lt_add_right (Nat.lt_of_not_le h) (n - b)) (j0 (aT hb))),e]
theorem lL{n i:Nat}(h:i<2*n):(i<n) \/ ∃a,a<n/\i=n+a:=by
 by_cases hi:i<n
 ·exact .inl hi
 ·exact .inr ⟨i - n,by omega,by omega⟩
theorem DM{n a b c:Nat}:((a+b) % n+c) % n=(a+(b+c) % n) % n:=by rw[nB,Nat.add_mod_mod,eC]
theorem JJ{n a b c:Nat}(hb:b<n)(hc:c<n):((a+(n - b)) % n+(n - c)) % n=(a+(n - (b+c) % n)) % n:=by
 rw[nB,LN hb hc]
 split
 ·rename_i h
  have h1:n - b=n - (b+c)+c:=by rw[Nat.sub_add_eq,rG (Nat.le_sub_of_add_le' (aT h))]
  rw[h1,<- eC,eC _ c,j0 (aT hc),kO]
 ·rename_i h
  rw[<- kP b (aT hc),kP n (Nat.sub_le_of_le_add (bS h)),mL (aT hb),eC]
theorem Ky{n a b c:Nat}(hb:b<n)(hc:c<n):((a+(n - b)) % n+c) % n=(a+(n - (b+(n - c)) % n)) % n:=by
 rw[nB,LV hb hc]
 split
 ·rename_i h
  rw[kP n h,mL (aT hb),eC]
 ·rename_i h
  have h':=aT (Nat.lt_of_not_le h)
  rw[nv b n,<- kP n h',Nat.sub_sub_self (aB (gU c b) (aT hc)),<- kO (a+(c - b)) n,eC a (c - b) n,nv (c - b) n,<- Nat.add_sub_assoc h' n,mL (aT hb),eC]
theorem vY{n:Nat}(h:0<n):Grp (2*n) (fZ n):=by
 have ml: ∀x,x % n<n:=λx=>rE _ h
 have cl: ∀i j,i<2*n->j<2*n->fZ n i j<2*n:=λi j hi hj=>by
  rcases lL hi with hi | ⟨a,ha,rfl⟩ <;> rcases lL hj with hj | ⟨b,hb,rfl⟩
  ·rw[eB hi hj];have:=ml (i+j);omega
  ·rw[hX hi hb];have:=ml (i+b);omega
  ·rw[hJ ha hj];have:=ml (a+(n - j));omega
  ·rw[hG ha hb];have:=ml (a+(n - b));omega
 refine⟨by omega,cl,λi hi =>?_,λi hi =>?_,λi hi =>?_,λi j k hi hj hk =>?_⟩
 ·rcases lL hi with hi | ⟨a,ha,rfl⟩
  ·rw[eB h hi,fh,bu hi]
  ·rw[hX h ha,fh,bu ha]
 ·rcases lL hi with hi | ⟨a,ha,rfl⟩
  ·rw[eB hi h,nz,bu hi]
  ·rw[hJ ha h,Nat.sub_zero,kO,bu ha]
 ·rcases lL hi with hi | ⟨a,ha,rfl⟩
  ·by_cases h0:i=0
   ·subst h0;exact⟨0,by omega,by rw[eB h h];simp,by rw[eB h h];simp⟩
   ·have hl:n - i<n:=by omega
    refine⟨n - i,by omega,?_,?_⟩
    ·rw[eB hi hl,show i+(n - i)=n by omega,nA]
    ·rw[eB hl hi,show n - i+i=n by omega,nA]
  ·refine⟨n+a,by omega,?_,?_⟩ <;> rw[hG ha ha,show a+(n - a)=n by omega,nA]
 ·rcases lL hi with hi | ⟨a,ha,rfl⟩ <;> rcases lL hj with hj | ⟨b,hb,rfl⟩ <;> rcases lL hk with hk | ⟨c,hc,rfl⟩
  ·rw[eB hi hj,eB hj hk,eB (ml _) hk,eB hi (ml _),DM]
  ·rw[eB hi hj,hX hj hc,hX (ml _) hc,hX hi (ml _),DM]
  ·rw[hX hi hb,hJ hb hk,hJ (ml _) hk,hX hi (ml _),DM]
  ·rw[hX hi hb,hG hb hc,hG (ml _) hc,eB hi (ml _),DM]
  ·rw[hJ ha hj,eB hj hk,hJ (ml _) hk,hJ ha (ml _),JJ hj hk]
  ·rw[hJ ha hj,hX hj hc,hG (ml _) hc,hG ha (ml _),JJ hj hc]
  ·rw[hG ha hb,hJ hb hk,eB (ml _) hk,hG ha (ml _),Ky hb hk]
  ·rw[hG ha hb,hG hb hc,hX (ml _) hc,hJ ha (ml _),Ky hb hc]
noncomputable def n9(m:Nat)(A B:Nat->Nat->Nat):Nat->Nat->Nat:=λi j=>A (i / m) (j / m)*m+B (i % m) (j % m)
theorem xK{m a b:Nat}(hb:b<m):(a*m+b) / m=a/\(a*m+b) % m=b:=by
 have hm:0<m:=by omega
 constructor
 ·rw[iH,Nat.mul_add_div hm,gg hb];rfl
 ·rw[iH,Nat.mul_add_mod,bu hb]
theorem vd{k m:Nat}{A B:Nat->Nat->Nat}(ga:Grp k A)(gb:Grp m B):Grp (k*m) (n9 m A B):=by
 have hm:=gb.pos
 have dl: ∀i,i<k*m->i / m<k:=λi hi=>Nat.div_lt_of_lt_mul (by rw[iH];exact hi)
 have rl: ∀i,i % m<m:=λi=>rE _ hm
 have lt: ∀a b,a<k->b<m->a*m+b<k*m:=λa b ha hb=>by
  have:(a+1)*m<=k*m:=fY m ha
  rw[Nat.add_mul]at this;omega
 refine⟨Nat.mul_pos ga.pos hm,λi j hi hj=>lt _ _ (ga.cl _ _ (dl i hi) (dl j hj)) (gb.cl _ _ (rl i) (rl j)),λi hi =>?_,λi hi =>?_,λi hi =>?_,λi j l hi hj hl =>?_⟩
 ·unfold n9;rw[Nat.zero_div,Nat.zero_mod,ga.l0 _ (dl i hi),gb.l0 _ (rl i),iH];exact Nat.div_add_mod i m
 ·unfold n9;rw[Nat.zero_div,Nat.zero_mod,ga.r0 _ (dl i hi),gb.r0 _ (rl i),iH];exact Nat.div_add_mod i m
 ·obtain⟨a,ha,a1,a2⟩:=ga.inv _ (dl i hi)
  obtain⟨b,hb,b1,b2⟩:=gb.inv _ (rl i)
  obtain⟨p1,p2⟩:=xK (a:=a) hb
  refine⟨a*m+b,lt a b ha hb,?_,?_⟩ <;> unfold n9 <;> rw[p1,p2]
  ·rw[a1,b1];simp
  ·rw[a2,b2];simp
 ·unfold n9
  obtain⟨p1,p2⟩:=xK (a:=A (i / m) (j / m)) (gb.cl _ _ (rl i) (rl j))
  obtain⟨q1,q2⟩:=xK (a:=A (j / m) (l / m)) (gb.cl _ _ (rl j) (rl l))
  rw[p1,p2,q1,q2,ga.as _ _ _ (dl i hi) (dl j hj) (dl l hl),gb.as _ _ _ (rl i) (rl j) (rl l)]
noncomputable def La:List (List Nat):= [[0,1,2,3,4,5,6,7],[1,0,3,2,5,4,7,6],[2,3,1,0,6,7,5,4],[3,2,0,1,7,6,4,5],[4,5,7,6,1,0,2,3],[5,4,6,7,0,1,3,2],[6,7,4,5,3,2,1,0],[7,6,5,4,2,3,0,1]]
noncomputable def fC:Nat->Nat->Nat:=λi j=>(La.getD i []).getD j 0
noncomputable def q1:Bool:=(aO 8).all λi=>(fC 0 i==i)&&(fC i 0==i)&&((aO 8).any λj=>(fC i j==0)&&(fC j i==0))&&(aO 8).all λj=>decide (fC i j<8)&&(aO 8).all λk=>fC (fC i j) k==fC i (fC j k)
theorem IS:q1=true:=by decide +kernel
theorem An:Grp 8 fC:=by
 have h:=cH.mp IS
 have g: ∀i,i<8->_:=λi hi=>h i (aS.mpr hi)
 simp only[ao,cH,List.any_eq_true,aS,beq_iff_eq,decide_eq_true_eq]at g
 refine⟨by decide,λi j hi hj=>((g i hi).2 j hj).1,λi hi=>(g i hi).1.1.1,λi hi=>(g i hi).1.1.2,λi hi =>?_,λi j k hi hj hk=>((g i hi).2 j hj).2 k hk⟩
 obtain⟨j,hj,a,b⟩:=(g i hi).1.2
 exact⟨j,hj,a,b⟩
structure Ord(m:Nat)(o p:Nat->Nat):Prop where
 ol: ∀i,i<m->o i<m
 pl: ∀i,i<m->p i<m
 po: ∀i,i<m->p (o i)=i
 op: ∀i,i<m->o (p i)=i
 o0:o 0=0
noncomputable def eR(T:Nat->Nat->Nat)(o p:Nat->Nat):Nat->Nat->Nat:=λi j=>p (T (o i) (o j))
theorem zL{m:Nat}{T:Nat->Nat->Nat}{o p:Nat->Nat}(g:Grp m T)(h:Ord m o p):Grp m (eR T o p):=by
 have p0:p 0=0:=by have:=h.po 0 g.pos;rwa[h.o0]at this
 refine⟨g.pos,λi j hi hj=>h.pl _ (g.cl _ _ (h.ol i hi) (h.ol j hj)),λi hi =>?_,λi hi =>?_,λi hi =>?_,λi j k hi hj hk =>?_⟩
 ·unfold eR;rw[h.o0,g.l0 _ (h.ol i hi),h.po i hi]
 ·unfold eR;rw[h.o0,g.r0 _ (h.ol i hi),h.po i hi]
 ·obtain⟨j,hj,a,b⟩:=g.inv _ (h.ol i hi)
  refine⟨p j,h.pl j hj,?_,?_⟩ <;> unfold eR <;> rw[h.op j hj]
  ·rw[a,p0]
  ·rw[b,p0]
 ·unfold eR
  rw[h.op _ (g.cl _ _ (h.ol i hi) (h.ol j hj)),h.op _ (g.cl _ _ (h.ol j hj) (h.ol k hk)),g.as _ _ _ (h.ol i hi) (h.ol j hj) (h.ol k hk)]
end _W
end
section
namespace _W
theorem nc{α:Type}: ∀(l:List α) (i:Nat) (h:i<l.length),(l[i]::l.eraseIdx i).Perm l
 | x::l,0,_=>by simp
 | x::l,i+1,h=>by
   have h':i<l.length:=by simpa using h
   have:=nc l i h'
   simp only[List.getElem_cons_succ,List.eraseIdx_cons_succ]
   exact(List.Perm.swap _ _ _).trans (this.cons x)
theorem Dr{l:List Nat}(nd:l.Nodup){i:Nat}(h:i<l.length):l.idxOf l[i]=i:=by
 have h1:l.idxOf l[i]<l.length:=kQ.mpr (mK h)
 have h2:=List.getElem_idxOf h1
 exact(List.getElem_inj nd).mp h2
structure oX(m:Nat)(l:List Nat):Prop where
 perm:l.Perm (aO m)
 z:l[0]? = some 0
noncomputable def oF(l:List Nat):Nat->Nat:=λi=>l.getD i 0
noncomputable def pF(l:List Nat):Nat->Nat:=λx=>l.idxOf x
section
variable {m:Nat}{l:List Nat}
theorem oX.len(h:oX m l):l.length=m:=by have:=h.perm.length_eq;simpa using this
theorem oX.nd(h:oX m l):l.Nodup:=h.perm.nodup_iff.mpr tR
theorem oX.mem(h:oX m l){x:Nat}:x∈l↔x<m:=by rw[h.perm.mem_iff,aS]
theorem oX.get(h:oX m l){i:Nat}(hi:i<m):l[i]? = some (oF l i):=by
 have hl:i<l.length:=by rw[h.len];exact hi
 simp[oF,hl]
theorem oX.ord(h:oX m l):Ord m (oF l) (pF l) where
 ol:=λi hi=>h.mem.mp (eg (h.get hi))
 pl:=λx hx=>by
  have:=kQ.mpr (h.mem.mpr hx)
  rw[h.len]at this;exact this
 po:=λi hi=>by
  have hl:i<l.length:=by rw[h.len];exact hi
  have e:oF l i=l[i]:=by simp[oF,hl]
  unfold pF;rw[e];exact Dr h.nd hl
 op:=λx hx=>by
  have h1:=kQ.mpr (h.mem.mpr hx)
  have h2:=List.getElem_idxOf h1
  unfold oF pF
  rw[dh,bG h1,h2];rfl
 o0:=by
  unfold oF
  rw[dh,h.z];rfl
end
theorem zx{m:Nat}{xs:List Nat}(hm:0<m)(h:xs.Perm (bj 1 (m - 1))):oX m (0::xs):=by
 refine⟨?_,rfl⟩
 have e:aO m=0::bj 1 (m - 1):=by
  rw[CZ]
  have:m=(m - 1)+1:=by omega
  rw[this,tN]
  simp
 rw[e]
 exact h.cons 0
end _W
end
section
namespace _W
section
variable {m:Nat}{T:Nat->Nat->Nat}
theorem Grp.cancel(g:Grp m T){a b c:Nat}(ha:a<m)(hb:b<m)(hc:c<m)(h:T a b=T a c):b=c:=by
 obtain⟨i,hi,h1,h2⟩:=g.inv a ha
 have e1:T i (T a b)=b:=by rw[<- g.as i a b hi ha hb,h2,g.l0 b hb]
 have e2:T i (T a c)=c:=by rw[<- g.as i a c hi ha hc,h2,g.l0 c hc]
 rw[<- e1,<- e2,h]
theorem Grp.cancelR(g:Grp m T){a b c:Nat}(ha:a<m)(hb:b<m)(hc:c<m)(h:T b a=T c a):b=c:=by
 obtain⟨i,hi,h1,h2⟩:=g.inv a ha
 have e1:T (T b a) i=b:=by rw[g.as b a i hb ha hi,h1,g.r0 b hb]
 have e2:T (T c a) i=c:=by rw[g.as c a i hc ha hi,h1,g.r0 c hc]
 rw[<- e1,<- e2,h]
theorem Grp.inv1(g:Grp m T){i:Nat}(hi:i<m): ∃j,j<m/\T i j=0/\T j i=0 /\ ∀k,k<m->T i k=0->k=j:=by
 obtain⟨j,hj,h1,h2⟩:=g.inv i hi
 exact⟨j,hj,h1,h2,λk hk h=>g.cancel hi hk hj (h.trans h1.symm)⟩
noncomputable def pw(T:Nat->Nat->Nat)(x:Nat):Nat->Nat
 | 0=>0
 | n+1=>T (pw T x n) x
theorem j5(g:Grp m T){x:Nat}(hx:x<m): ∀n,pw T x n<m
 | 0=>g.pos
 | n+1=>g.cl _ _ (j5 g hx n) hx
theorem oU(g:Grp m T){x:Nat}(hx:x<m)(a:Nat): ∀b,pw T x (a+b)=T (pw T x a) (pw T x b)
 | 0=>by show pw T x a=T (pw T x a) 0;rw[g.r0 _ (j5 g hx a)]
 | b+1=>by
   show T (pw T x (a+b)) x=T (pw T x a) (T (pw T x b) x)
   rw[oU g hx a b,g.as _ _ _ (j5 g hx a) (j5 g hx b) hx]
theorem Es(g:Grp m T){x a b:Nat}(hx:x<m)(hab:a<=b)(h:pw T x a=pw T x b):pw T x (b - a)=0:=by
 have e:b=a+(b - a):=by omega
 rw[e,oU g hx]at h
 have e2:T (pw T x a) 0=T (pw T x a) (pw T x (b - a)):=by rw[g.r0 _ (j5 g hx a)];exact h
 exact(g.cancel (j5 g hx a) g.pos (j5 g hx _) e2).symm
end
theorem ni: ∀(m:Nat) (l:List Nat),l.Nodup->(∀x∈l,x<m)->l.length<=m
 | 0,l,_,h=>by
   cases l with
   | nil=>simp
   | cons x l=>exact absurd (h x (by simp)) (by omega)
 | m+1,l,nd,h=>by
   have h1:=ni m (l.erase m) (nd.erase m) λx hx=>by
    have hx2:=(List.Nodup.mem_erase_iff nd).mp hx
    have:=h x hx2.2
    have:=hx2.1
    omega
   have h2:l.length<=(l.erase m).length+1:=by
    rw[List.length_erase]
    split <;> omega
   omega
theorem Ha{m:Nat}{f:Nat->Nat}(h: ∀i,i<=m->f i<m): ∃i j,i<j/\j<=m/\f i=f j:=by
 apply tS
 intro no
 have inj: ∀i j,i<j->j<=m->f i≠f j:=λi j h1 h2 e=>no ⟨i,j,h1,h2,e⟩
 have nd:((aO (m+1)).map f).Nodup:=by
  rw[dW,rL]
  refine jk ?_ (List.pairwise_lt_range (n:=m+1))
  intro a b ha hb hab
  exact inj a b hab (by have:=aS.mp hb;exact dk (by assumption))
 have:=ni m _ nd (λx hx=>by
  obtain⟨i,hi,rfl⟩:=bB.mp hx
  exact h i (by have:=aS.mp hi;exact dk (by assumption)))
 simp at this
 exact absurd (by assumption) (bN _)
theorem least{P:Nat->Prop}: ∀n,P n -> ∃k,k<=n/\P k /\ ∀j,j<k -> ¬P j:=by
 intro n
 induction n using Nat.strongRecOn with
 | ind n ih=>
   intro h
   by_cases hx: ∃j,j<n/\P j
   ·obtain⟨j,hj,hp⟩:=hx
    obtain⟨k,h1,h2,h3⟩:=ih j hj hp
    exact⟨k,by omega,h2,h3⟩
   ·exact⟨n,ak _,h,λj hj hp=>hx ⟨j,hj,hp⟩⟩
theorem Grp.ord{m:Nat}{T:Nat->Nat->Nat}(g:Grp m T){x:Nat}(hx:x<m): ∃n,1<=n/\n<=m/\pw T x n=0 /\ ∀k,1<=k->k<n->pw T x k≠0:=by
 obtain⟨a,b,h1,h2,h3⟩:=Ha (m:=m) (f:=pw T x) λi _=>j5 g hx i
 have h4:=Es g hx (aT h1) h3
 obtain⟨n,k1,⟨k2,k3⟩,k4⟩:=least (P:=λn=>1<=n/\pw T x n=0) (b - a) ⟨by omega,h4⟩
 exact⟨n,k2,by omega,k3,λj j1 j2 j3=>k4 j j2 ⟨j1,j3⟩⟩
theorem idx_map{f:Nat->Nat}{x:Nat}: ∀(n s k:Nat),s<=k->k<s+n->f k=x->(∀j,s<=j->j<k->f j≠x)->((bj s n).map f).idxOf x=k - s
 | 0,s,k,h1,h2,_,_=>by omega
 | n+1,s,k,h1,h2,hp,hn=>by
   rw[tN,bD,List.idxOf_cons]
   by_cases hs:s=k
   ·subst hs;simp[hp]
   ·have hb:(f s==x)=false:=by simpa using hn s (ak _) (by exact kA (by assumption) (by assumption))
    rw[hb]
    simp only[cond_false]
    rw[idx_map n (s+1) k (by exact kA (by assumption) (by assumption)) (by omega) hp λj h1 h2=>hn j (by exact aT (by assumption)) h2]
    omega
end _W
end
section
namespace _W
open _L _G
noncomputable def Ex(S S':Sto):Prop:= ∃t,S'=S++t
theorem Ex.refl(S:Sto):Ex S S:=⟨[],by simp⟩
theorem Ex.trans{S S1 S2:Sto}(a:Ex S S1)(b:Ex S1 S2):Ex S S2:=by
 obtain⟨t,rfl⟩:=a
 obtain⟨u,rfl⟩:=b
 exact⟨t++u,by simp⟩
theorem Ex.push(S:Sto)(c:Cell):Ex S (S++[c]):=⟨[c],rfl⟩
theorem Ex.get{S S':Sto}(h:Ex S S'){n:Nat}(hn:n<S.length):S'[n]? = S[n]? := by
 obtain⟨t,rfl⟩:=h
 exact aQ hn
theorem Ex.some{S S':Sto}(h:Ex S S'){n:Nat}{c:Cell}(e:S[n]? = some c):S'[n]? = some c:=by
 rw[h.get (af.mp e).1];exact e
theorem Ex.len{S S':Sto}(h:Ex S S'):S.length<=S'.length:=by
 obtain⟨t,rfl⟩:=h
 simp
noncomputable def mX(n:Nat)(S:Sto):Prop:= ∃s b,S[n]? = some (.lst [.int s,.bl b])
structure Stp(n:Nat)(S S':Sto):Prop where
 len:S.length<=S'.length
 same: ∀m,m<S.length->m≠n->S'[m]? = S[m]?
 st:mX n S'
theorem Stp.refl{n:Nat}{S:Sto}(h:mX n S):Stp n S S:=⟨ak _,λ_ _ _=>rfl,h⟩
theorem Stp.trans{n:Nat}{S S1 S2:Sto}(a:Stp n S S1)(b:Stp n S1 S2):Stp n S S2:=
 ⟨aB a.len b.len,λm h1 h2=>(b.same m (ai h1 a.len) h2).trans (a.same m h1 h2),b.st⟩
theorem mX.lt{n:Nat}{S:Sto}(h:mX n S):n<S.length:=by
 obtain⟨s,b,e⟩:=h
 exact(af.mp e).1
theorem mX.ex{n:Nat}{S S':Sto}(h:mX n S)(e:Ex S S'):mX n S':=by
 obtain⟨s,b,q⟩:=h
 exact⟨s,b,e.some q⟩
theorem Stp.ex{n:Nat}{S S':Sto}(h:mX n S)(e:Ex S S'):Stp n S S':=⟨e.len,λm h1 _=>e.get h1,h.ex e⟩
theorem Stp.some{n:Nat}{S S':Sto}(h:Stp n S S'){m:Nat}{c:Cell}(hm:m≠n)(e:S[m]? = some c):S'[m]? = some c:=by
 rw[h.same m (af.mp e).1 hm];exact e
theorem yY{n:Nat}{S:Sto}{many:Int}(h:mX n S)(hm:0<many)(hm2:many<1073741824):
  ∃r S',ba [.ref n,.int many] S=some (.int r,S')/\0<=r/\r<many/\Stp n S S'/\S'.length=S.length:=by
 obtain⟨s,b,e⟩:=h
 have hn:=(af.mp e).1
 have hd:qP many:=⟨hm,hm2⟩
 have hd8:qP 8:=⟨by decide,by decide⟩
 cases b with
 | true=>
   refine⟨s % many,S.set n (.lst [.int (s / many),.bl true]),?_,wW _ (by omega),rH _ hm,⟨by simp,λm h1 h2=>by rw[ay (dM h2)],⟨s / many,true,by rw[aI hn]⟩⟩,by simp⟩
   simp[ba,_G.run,km,bo,sIf,cOf,m2,ae,mC,bnd,oIx,gp,dR,getL,e,atI,ixN,bV,oMod,oDiv,hm,hd,lQ,cK]
 | false=>
   have b1: ∀x m:Int,0<m->m<4294967296->jl (x % m) (x % m):=λx m h1 h2=>by
    have h3:=wW x (show m≠0 by omega)
    have h4:=rH x h1
    exact .inl ⟨by omega,by omega⟩
   have hg: ∀c:Cell,(S.set n c)[n]? = Option.some c:=λc=>aI hn
   have k1:jl s 48271:= .inr ⟨by decide,by decide⟩
   have k2:=b1 (s*48271+29) 2147483647 (by decide) (by decide)
   generalize hs1:(s*48271+29) % 2147483647=s1 at k2
   have k3:jl 39373 s1:= .inl ⟨by decide,by decide⟩
   have k4:=b1 (s1*s1+39373*s1+7) 2147483629 (by decide) (by decide)
   generalize hm1:(s1*s1+39373*s1+7) % 2147483629=m1 at k4
   have k5:jl 16807 m1:= .inl ⟨by decide,by decide⟩
   refine⟨(m1*m1+16807*m1) % 2147483587 / 8 % many,S.set n (.lst [.int s1,.bl false]),?_,wW _ (by omega),rH _ hm,⟨by simp,λm h1 h2=>by rw[ay (dM h2)],⟨s1,false,by rw[aI hn]⟩⟩,by simp⟩
   simp[ba,_G.run,km,bo,sIf,cOf,m2,ae,mC,bnd,oIx,gp,dR,getL,e,atI,ixN,bV,oMod,oDiv,cU,ed,hm,hd,lQ,cK,cN,hg,k1,k2,k3,k4,k5,hs1,hm1,hd8]
end _W
end
section
namespace _W
open _L _G
section
theorem qU{i:Nat}{b:MS}(P:Nat->Rho->Sto->Prop): ∀(us:List U) (k:Nat) (ρ:Rho) (S:Sto),P k ρ S ->
  (∀(j:Nat) (u:U) (ρ:Rho) (S:Sto),us[j]? = some u->P (k+j) ρ S -> ∃ρ' S',b (ρ.set i (some u)) S=some (.nx,ρ',S')/\P (k+j+1) ρ' S') ->
  ∃ρ' S',uG i b us ρ S=some (.nx,ρ',S')/\P (k+us.length) ρ' S'
 | [],k,ρ,S,h,_=>⟨ρ,S,rfl,h⟩
 | u::us,k,ρ,S,h,st=>by
   obtain⟨ρ1,S1,e1,h1⟩:=st 0 u ρ S rfl h
   obtain⟨ρ2,S2,e2,h2⟩:=qU P us (k+1) ρ1 S1 h1 λj v ρ S hj hp=>by
    have:=st (j+1) v ρ S (by simpa using hj) (by rw[show k+(j+1)=k+1+j by omega];exact hp)
    rw[show k+(j+1)+1=k+1+j+1 by omega]at this
    exact this
   refine⟨ρ2,S2,?_,by rw[show k+(u::us).length=k+1+us.length by simp;omega];exact h2⟩
   show aft (b (ρ.set i (some u)) S) (uG i b us)=_
   rw[e1];exact e2
theorem oE{e:ME}{ρ:Rho}(g:Nat->U)(P:Nat->Sto->Prop): ∀(us:List U) (k:Nat) (acc:List U) (S:Sto),P k S ->
  (∀(j:Nat) (u:U) (S:Sto),us[j]? = some u->P (k+j) S -> ∃S',e (ρ++[some u]) S=some (g (k+j),S')/\P (k+j+1) S') ->
  ∃S',fA cTT e ρ us acc S=some (acc++(aO us.length).map (λj=>g (k+j)),S')/\P (k+us.length) S'
 | [],k,acc,S,h,_=>⟨S,by simp[fA],h⟩
 | u::us,k,acc,S,h,st=>by
   obtain⟨S1,e1,h1⟩:=st 0 u S rfl h
   obtain⟨S2,e2,h2⟩:=oE g P us (k+1) (acc++[g k]) S1 h1 λj v S hj hp=>by
    have:=st (j+1) v S (by simpa using hj) (by rw[show k+(j+1)=k+1+j by omega];exact hp)
    rw[show k+(j+1)+1=k+1+j+1 by omega,show k+(j+1)=k+1+j by omega]at this
    exact this
   refine⟨S2,?_,by rw[show k+(u::us).length=k+1+us.length by simp;omega];exact h2⟩
   show bnd (cTT (ρ++[some u]) S) _=_
   simp only[cTT,aD,if_true]
   rw[e1]
   simp only[aD,nz]
   rw[e2]
   simp only[be,eJ,Prod.mk.injEq,and_true]
   rw[dv,AC,bD,cX]
   simp only[List.singleton_append,nz,List.append_cancel_left_eq,List.cons.injEq,true_and]
   apply aY
   intro j _
   simp only[Function.comp]
   congr 1;omega
noncomputable def Ad(n:Nat)(g:Nat->U):U:= .tup ((aO n).map g)
theorem mq{n:Nat}(h:n<big):okR (n:Int):=by
 unfold big at h
 exact⟨by exact rD _,by omega⟩
theorem mO{ρ:Rho}{S S0:Sto}{a:ME}{u:U}(ha:a ρ S=some (u,S0)):aa a ag ρ S=some ([u],S0):=by
 simp only[aa,ag,ha,aD]
theorem Hd{ρ:Rho}{S S0:Sto}{a:MA}{j:Int}(ha:a ρ S=some ([.int j],S0))(h:okR j):iR1 a ρ S=some (.imm (bh 0 j.toNat),S0):=by
 unfold iR1
 rw[ha]
 exact if_pos h
theorem pY{ρ:Rho}{S S0:Sto}{a:ME}{n:Nat}(ha:a ρ S=some (.int n,S0))(h:n<big):iR1 (aa a ag) ρ S=some (.imm (bh 0 n),S0):=by
 rw[Hd (mO ha) (mq h),su]
theorem qg{ρ:Rho}{S S0 S1:Sto}{it:MI}{t:MT}{e:ME}{us ys:List U}(hi:it ρ S=some (.imm us,S0))(h:fA t e ρ us [] S0=some (ys,S1))(hz:ys.length<big):dg it t e ρ S=some (.ref S1.length,S1++[.lst ys]):=by
 simp only[dg,hi,aD,v5,h]
 exact if_pos hz
theorem i8{ρ:Rho}{S S1:Sto}{a:ME}{ys:List U}(h:a ρ S=some (.ref S1.length,S1++[.lst ys])):mFn cD (aa a ag) ρ S=some (.tup ys,S1++[.lst ys]):=by
 unfold mFn
 rw[mO h]
 show(dR (S1++[Cell.lst ys]) (.ref S1.length)).map _=_
 have:dR (S1++[Cell.lst ys]) (.ref S1.length)=some ys:=by
  show getL (S1++[Cell.lst ys]) S1.length=_
  unfold getL
  rw[ar (ak _)]
  simp
 rw[this];rfl
theorem FK{ρ:Rho}{S S0:Sto}{a e:ME}{n:Nat}(ha:a ρ S=some (.int n,S0))(hn:n<big)(g:Nat->U)(P:Nat->Sto->Prop)(h0:P 0 S0)
  (hs: ∀(j:Nat) (S:Sto),j<n->P j S -> ∃S',e (ρ++[some (.int j)]) S=some (g j,S')/\P (j+1) S'):
  ∃S',mFn cD (aa (dg (iR1 (aa a ag)) cTT e) ag) ρ S=some (Ad n g,S'++[.lst ((aO n).map g)])/\P n S':=by
 obtain⟨S1,e1,h1⟩:=oE (e:=e) (ρ:=ρ) g P (bh 0 n) 0 [] S0 h0 λj u S hj hp=>by
  have hl:j<n:=by have:=(af.mp hj).1;simpa [bh]using this
  have hu:(bh 0 n)[j]? = some (.int j):=by simp[bh,hl]
  rw[hu]at hj;cases hj
  simpa using hs j S hl (by simpa using hp)
 have hlen:(bh 0 n).length=n:=by simp[bh]
 simp only[hlen,fh,dG]at e1 h1
 exact⟨S1,i8 (qg (pY ha hn) e1 (by rw[aE,bT];exact hn)),h1⟩
theorem Kg{ρ:Rho}{S S0:Sto}{a e:ME}{us:List U}(ha:a ρ S=some (.tup us,S0))(hn:us.length<big)(g:Nat->U)(P:Nat->Sto->Prop)(h0:P 0 S0)
  (hs: ∀(j:Nat) (u:U) (S:Sto),us[j]? = some u->P j S -> ∃S',e (ρ++[some u]) S=some (g j,S')/\P (j+1) S'):
  ∃S',mFn cD (aa (dg (eK a) cTT e) ag) ρ S=some (Ad us.length g,S'++[.lst ((aO us.length).map g)])/\P us.length S':=by
 obtain⟨S1,e1,h1⟩:=oE (e:=e) (ρ:=ρ) g P us 0 [] S0 h0 λj u S hj hp=>by
  simpa using hs j u S hj (by simpa using hp)
 simp only[fh,dG]at e1 h1
 exact⟨S1,i8 (qg (it:=eK a) (us:=us) (by unfold eK;rw[ha];rfl) e1 (by rw[aE,bT];exact hn)),h1⟩
noncomputable def nD(m:Nat)(T:Nat->Nat->Nat)(i:Nat):U:=Ad m λj => .int (T i j)
noncomputable def tab(m:Nat)(T:Nat->Nat->Nat):U:=Ad m (nD m T)
theorem mm{α:Type}{f:Nat->α}{m i:Nat}(h:i<m):atI ((aO m).map f) (i:Int)=some (f i):=by
 simp[atI,ixN,h]
theorem kS{n:Nat}{S:Sto}(h:0<n)(hn:n<big): ∃S',cu [.int n] S=some (tab n (eu n),S')/\Ex S S':=by
 have key: ∃S',mFn cD (aa (dg (iR1 (aa (ae 0) ag)) cTT (mFn cD (aa (dg (iR1 (aa (ae 0) ag)) cTT (m2 oMod (m2 cU (ae 1) (ae 2)) (ae 0))) ag))) ag) [some (.int n)] S=some (Ad n (nD n (eu n)),S'++[.lst ((aO n).map (nD n (eu n)))])/\Ex S S':=by
  refine FK (S0:=S) (by simp[ae]) hn _ (λ_ S'=>Ex S S') (Ex.refl S) λi S1 hi hx =>?_
  obtain⟨S2,e2,h2⟩:=FK (ρ:= [some (.int n),some (.int i)]) (S:=S1) (S0:=S1) (a:=ae 0) (e:=m2 oMod (m2 cU (ae 1) (ae 2)) (ae 0)) (n:=n) (by simp[ae]) hn (λj => .int (eu n i j)) (λ_ S'=>S'=S1) rfl λj S' hj hx=>by
   refine⟨S',?_,hx⟩
   have h0:(0:Int)<n:=by omega
   simp only[m2,ae,List.cons_append,dG,Au,Av,aD,cU,oMod,h0,if_true,eu,mM,wX]
  subst h2
  exact⟨S2++[_],e2,hx.trans (Ex.push _ _)⟩
 obtain⟨S',e,hx⟩:=key
 refine⟨S'++[.lst ((aO n).map (nD n (eu n)))],?_,hx.trans (Ex.push _ _)⟩
 simp only[cu,_G.run,lT,cK,dv,ft,bD,mT,Nat.sub_self,List.replicate_zero,cW,if_true,e,aD,tab]
end
end _W
end
section
namespace _W
open _L _G
section
theorem sY{n:Nat}(h:0<n)(h2:n<1000):qP (n:Int):=⟨by omega,by omega⟩
theorem qh{i j:Int}(h1: -1000000000<=i)(h2:i<=1000000000):jl i j:= .inl ⟨by omega,by omega⟩
theorem tz{n:Nat}{j:Int}(h:n<1000000):jl (n:Int) j:=qh (by exact rD _) (by omega)
noncomputable def Agr(L:List Nat)(ρ0 ρ:Rho):Prop:=ρ.length=ρ0.length /\ ∀i,i∉L->ρ[i]? = ρ0[i]?
theorem Agr.refl(L:List Nat)(ρ:Rho):Agr L ρ ρ:=⟨rfl,λ_ _=>rfl⟩
theorem Agr.set{L:List Nat}{ρ0 ρ:Rho}{i:Nat}{v:Option U}(h:Agr L ρ0 ρ)(hi:i∈L):Agr L ρ0 (ρ.set i v):=
 ⟨by rw[fq];exact h.1,λj hj=>by rw[ay (by rintro rfl;exact hj hi)];exact h.2 j hj⟩
theorem Agr.trans{L:List Nat}{ρ0 ρ1 ρ2:Rho}(a:Agr L ρ0 ρ1)(b:Agr L ρ1 ρ2):Agr L ρ0 ρ2:=⟨b.1.trans a.1,λi hi=>(b.2 i hi).trans (a.2 i hi)⟩
structure Sm(b:Nat)(S0 S:Sto):Prop where
 len:S0.length<=S.length
 same: ∀m,m<b->S[m]? = S0[m]?
theorem Sm.refl(b:Nat)(S:Sto):Sm b S S:=⟨ak _,λ_ _=>rfl⟩
theorem Sm.trans{b:Nat}{S0 S1 S2:Sto}(a:Sm b S0 S1)(c:Sm b S1 S2):Sm b S0 S2:=⟨aB a.len c.len,λm h=>(c.same m h).trans (a.same m h)⟩
theorem Sm.ex{b:Nat}{S0 S:Sto}(h:Ex S0 S)(hb:b<=S0.length):Sm b S0 S:=⟨h.len,λm hm=>h.get (ai hm hb)⟩
theorem Sm.le{b c:Nat}{S0 S:Sto}(h:Sm b S0 S)(hc:c<=b):Sm c S0 S:=⟨h.len,λm hm=>h.same m (ai hm hc)⟩
theorem Sm.some{b n:Nat}{S0 S:Sto}{c:Cell}(h:Sm b S0 S)(hn:n<b)(e:S0[n]? = some c):S[n]? = some c:=(h.same n hn).trans e
theorem Sm.set{b n:Nat}{S0 S:Sto}{c:Cell}(h:Sm b S0 S)(hn:b<=n):Sm b S0 (S.set n c):=
 ⟨by rw[fq];exact h.len,λm hm=>by rw[ay (by omega)];exact h.same m hm⟩
structure Wr(r:Nat)(S S':Sto):Prop where
 len:S.length<=S'.length
 same: ∀m,m<S.length->m≠r->S'[m]? = S[m]?
theorem Wr.trans{r:Nat}{S S1 S2:Sto}(a:Wr r S S1)(b:Wr r S1 S2):Wr r S S2:=
 ⟨aB a.len b.len,λm h1 h2=>(b.same m (ai h1 a.len) h2).trans (a.same m h1 h2)⟩
theorem Wr.refl(r:Nat)(S:Sto):Wr r S S:=⟨ak _,λ_ _ _=>rfl⟩
theorem Wr.ex{r:Nat}{S S':Sto}(h:Ex S S'):Wr r S S':=⟨h.len,λm hm _=>h.get hm⟩
theorem Wr.set(r:Nat)(S:Sto)(c:Cell):Wr r S (S.set r c):=⟨by simp,λm _ h=>ay (dM h)⟩
theorem Wr.sm{r b:Nat}{S S':Sto}(h:Wr r S S')(hb:b<=r)(hr:b<=S.length):Sm b S S':=⟨h.len,λm hm=>h.same m (by exact ai (by assumption) (by assumption)) (by omega)⟩
theorem oo{ρ:Rho}{i:Nat}{v:Option U}(h:i<ρ.length):(ρ.set i v)[i]? = some v:=aI h
theorem var_eq{ρ:Rho}{S:Sto}{i:Nat}{u:U}(h:ρ[i]? = some (some u)):ae i ρ S=some (u,S):=by simp only[ae,h]
theorem AH{ρ:Rho}{S:Sto}{i:Nat}{a:ME}{n:Nat}{b:MS}(ha:a ρ S=some (.int n,S))(h:n<big):iM i (iR1 (aa a ag)) b ρ S=uG i b (bh 0 n) ρ S:=by
 unfold iM
 rw[pY ha h]
 rfl
theorem oH{ρ:Rho}{S:Sto}{i:Nat}{a:ME}{n:Nat}{b:MS}(ha:a ρ S=some (.int n,S))(h:n<big)(P:Nat->Rho->Sto->Prop)(h0:P 0 ρ S)
  (st: ∀(j:Nat) (ρ:Rho) (S:Sto),j<n->P j ρ S -> ∃ρ' S',b (ρ.set i (some (.int j))) S=some (.nx,ρ',S')/\P (j+1) ρ' S'):
  ∃ρ' S',iM i (iR1 (aa a ag)) b ρ S=some (.nx,ρ',S')/\P n ρ' S':=by
 rw[AH ha h]
 obtain⟨ρ',S',e,q⟩:=qU (i:=i) (b:=b) P (bh 0 n) 0 ρ S h0 λj u ρ S hj hp=>by
  have hl:j<n:=by have:=(af.mp hj).1;simpa [bh]using this
  have hu:(bh 0 n)[j]? = some (.int j):=by simp[bh,hl]
  rw[hu]at hj;cases hj
  simpa using st j ρ S hl (by simpa using hp)
 have hlen:(bh 0 n).length=n:=by simp[bh]
 rw[hlen,fh]at q
 exact⟨ρ',S',e,q⟩
theorem append_eq{ρ:Rho}{S S1:Sto}{o a:ME}{r:Nat}{u:U}{row:List U}(ho:o ρ S=some (.ref r,S))(ha:a ρ S=some (u,S1))(hr:S[r]? = some (Cell.lst row))(hr1:S1[r]? = some (Cell.lst row))(hl:row.length<big):
  cy (mML b0 o (aa a ag)) ρ S=some (.nx,ρ,S1.set r (Cell.lst (row++[u]))):=by
 simp only[cy,mML,ho,aD,getL,hr,ax,mO ha,b0,hr1,hl,if_true]
theorem nR{ρ:Rho}{S:Sto}{a:ME}{r:Nat}{row:List U}(ha:a ρ S=some (.ref r,S))(hr:S[r]? = some (Cell.lst row)):mFn cD (aa a ag) ρ S=some (.tup row,S):=by
 simp only[mFn,mO ha,aD,cD,dR,getL,hr,bx]
theorem build{fs rs is js:Nat}{L:List Nat}{ρ0:Rho}{S0:Sto}{bIn:MS}{a:ME}{m:Nat}{T:Nat->Nat->Nat}(hm:m<big)(h1:rs∈L)(h2:is∈L)(h3:js∈L)(h4:fs∉L)(d1:rs≠is)(d2:js≠is)(d3:js≠rs)
  (l1:rs<ρ0.length) (l2:is<ρ0.length) (l3:js<ρ0.length) (hf:ρ0[fs]? = some (some (.ref S0.length)))
  (ha: ∀ρ S,Agr L ρ0 ρ->Sm S0.length S0 S->a ρ S=some (.int m,S))
  (hb: ∀(i j r:Nat) (ρ:Rho) (S:Sto) (row:List U),i<m->j<m->Agr L ρ0 ρ->ρ[is]? = some (some (.int i))->ρ[js]? = some (some (.int j))->ρ[rs]? = some (some (.ref r))->Sm S0.length S0 S->S0.length<r->S[r]? = some (Cell.lst row)->row.length<big ->
   ∃ρ' S',bIn ρ S=some (.nx,ρ',S')/\Agr L ρ0 ρ'/\ρ'[is]? = some (some (.int i))/\ρ'[rs]? = some (some (.ref r))/\Wr r S S'/\S'[r]? = some (Cell.lst (row++[.int (T i j)]))):
  ∃ρ' S',iM is (iR1 (aa a ag)) (bo (bV rs (bU ag)) (bo (iM js (iR1 (aa a ag)) bIn) (cy (mML b0 (ae fs) (aa (mFn cD (aa (ae rs) ag)) ag))))) ρ0 (S0++[Cell.lst []])=some (.nx,ρ',S') /\
   Agr L ρ0 ρ'/\Sm S0.length S0 S'/\S'[S0.length]? = some (Cell.lst ((aO m).map (nD m T))):=by
 have s0:Sm S0.length S0 (S0++[Cell.lst []]):=Sm.ex (Ex.push _ _) (ak _)
 refine oH (P:=λk ρ S=>Agr L ρ0 ρ/\Sm S0.length S0 S/\S0.length<S.length/\S[S0.length]? = some (Cell.lst ((aO k).map (nD m T)))) (ha _ _ (Agr.refl _ _) s0) hm ⟨Agr.refl _ _,s0,by simp,by rw[ar (ak _)];simp⟩ ?_ |>.imp λρ' h=>h.imp λS' h=>⟨h.1,h.2.1,h.2.2.1,h.2.2.2.2⟩
 rintro i ρ S hi ⟨g1,g2,g3,g4⟩
 have r0:S.length<(S++[Cell.lst ([]:List U)]).length:=by simp
 have e0:bV rs (bU ag) (ρ.set is (some (.int i))) S=some (.nx,(ρ.set is (some (.int i))).set rs (some (.ref S.length)),S++[Cell.lst []]):=by
  have hz:([]:List U).length<=big:=en _
  simp only[bV,bU,ag,aD,hz,if_true]
 have ga:Agr L ρ0 ((ρ.set is (some (.int i))).set rs (some (.ref S.length))):=(g1.set h2).set h1
 have gs:Sm S0.length S0 (S++[Cell.lst ([]:List U)]):=g2.trans (Sm.ex (Ex.push _ _) g2.len)
 obtain⟨ρ1,S1,e1,q1,q2,q3,q4,q5⟩:=oH (b:=bIn) (i:=js) (P:=λk ρ1 S1=>Agr L ρ0 ρ1/\ρ1[is]? = some (some (.int i))/\ρ1[rs]? = some (some (.ref S.length))/\Wr S.length (S++[Cell.lst ([]:List U)]) S1/\S1[S.length]? = some (Cell.lst ((aO k).map λj => .int (T i j))))
  (ha _ _ ga gs) hm ⟨ga,by rw[ay d1,oo (by rw[g1.1];exact l2)],by rw[oo (by rw[fq,g1.1];exact l1)],Wr.refl _ _,by rw[ar (ak _)];simp⟩ (by
   rintro j ρ1 S1 hj ⟨q1,q2,q3,q4,q5⟩
   have sm1:Sm S0.length S0 S1:=gs.trans (q4.sm (aT g3) (by simp;omega))
   obtain⟨ρ2,S2,f1,f2,f3,f4,f5,f6⟩:=hb i j S.length (ρ1.set js (some (.int j))) S1 _ hi hj (q1.set h3) (by rw[ay d2];exact q2) (oo (by rw[q1.1];exact l3)) (by rw[ay d3];exact q3) sm1 g3 q5 (by rw[aE,bT];exact dz (by assumption) (by assumption))
   exact⟨ρ2,S2,f1,f2,f3,f4,q4.trans f5,by rw[f6,ee,bR];rfl⟩)
 have g5:S1[S0.length]? = some (Cell.lst ((aO i).map (nD m T))):=by
  rw[q4.same _ (by simp;exact iI (by assumption)) (by exact br (by assumption)),(Ex.push S _).get g3];exact g4
 have sm1:Sm S0.length S0 S1:=gs.trans (q4.sm (aT g3) (by simp;omega))
 have hfv:ae fs ρ1 S1=some (.ref S0.length,S1):=var_eq (by rw[q1.2 fs h4];exact hf)
 have e2:=append_eq (o:=ae fs) hfv (nR (a:=ae rs) (var_eq q3) q5) g5 g5 (by rw[aE,bT];exact dz (by assumption) (by assumption))
 refine⟨ρ1,S1.set S0.length (Cell.lst ((aO (i+1)).map (nD m T))),?_,q1,sm1.set (ak _),?_,?_⟩
 ·simp only[bo,e0,e1,e2]
  rw[ee,bR];rfl
 ·rw[fq];have:=q4.len;simp at this;exact dz (by assumption) (by assumption)
 ·exact aI (by have:=q4.len;simp at this;exact dz (by assumption) (by assumption))
noncomputable def pX:MS:=bo (bV 5 (m2 oMod (m2 cU (m2 oMod (ae 2) (ae 0)) (m2 ed (m2 oIx (bU (aa (mC (.int 1)) (aa (m1 xM (mC (.int 1))) ag))) (m2 oDiv (ae 2) (ae 0))) (m2 oMod (ae 4) (ae 0)))) (ae 0))) (cy (mML b0 (ae 3) (aa (m2 cU (ae 5) (m2 ed (ae 0) (m2 oMod (m2 cU (m2 oDiv (ae 2) (ae 0)) (m2 oDiv (ae 4) (ae 0))) (mC (.int 2))))) ag)))
theorem zX{n i j c:Int}{f r:Nat}{x y:Option U}{S:Sto}{row:List U}(h0:0<n)(hd:qP n)(hc:atI [U.int 1,U.int (-1)] (i / n)=some (.int c))(k1:jl c (j % n))(k2:jl n ((i / n+j / n) % 2))
  (hr:(S++[Cell.lst [U.int 1,U.int (-1)]])[r]? = some (Cell.lst row)) (hl:row.length<big):
  pX ([some (U.int n),some (U.ref f),some (U.int i),some (U.ref r),x,y].set 4 (some (U.int j))) S =
   some (Fl.nx,[some (U.int n),some (U.ref f),some (U.int i),some (U.ref r),some (U.int j),some (U.int ((i % n+c*(j % n)) % n))],(S++[Cell.lst [U.int 1,U.int (-1)]]).set r (Cell.lst (row++[U.int ((i % n+c*(j % n)) % n+n*((i / n+j / n) % 2))]))):=by
 have hb2:2<=big:=by decide
 simp[pX,bo,bV,m2,m1,ae,mC,bU,aa,ag,bnd,oMod,cU,ed,oDiv,oIx,gp,xM,dR,getL,h0,hd,hb2,hc,k1,k2,cy,mML,b0,hr,hl]
theorem BX{n i j f r:Nat}{x y:Option U}{S:Sto}{row:List U}(hn:0<n)(hn2:n<1000)(hi:i<2*n)(hj:j<2*n)(hr:S[r]? = some (Cell.lst row))(hl:row.length<big):
  ∃z,pX ([some (U.int n),some (U.ref f),some (U.int i),some (U.ref r),x,y].set 4 (some (U.int j))) S =
   some (Fl.nx,[some (U.int n),some (U.ref f),some (U.int i),some (U.ref r),some (U.int j),z],(S++[Cell.lst [U.int 1,U.int (-1)]]).set r (Cell.lst (row++[U.int (fZ n i j:Nat)]))):=by
 have hd:=sY hn hn2
 have h0:(0:Int)<n:=by omega
 have hr2:=(Ex.push S (Cell.lst [U.int 1,U.int (-1)])).some hr
 have hk:jl (n:Int) (((i:Int) / n+j / n) % 2):=tz (by exact ai (by assumption) (by decide))
 have hc: ∃c:Int,atI [U.int 1,U.int (-1)] ((i:Int) / n)=some (.int c)/\jl c ((j:Int) % n)/\((i:Int) % n+c*((j:Int) % n)) % n+n*(((i:Int) / n+j / n) % 2)=(fZ n i j:Nat):=by
  rcases half hi with⟨h1,h2,h3⟩ | ⟨h1,h2,h3⟩
  ·refine⟨1,?_,qh (by decide) (by decide),?_⟩
   ·have:(i:Int) / n=0:=by rw[<- uW,h3];rfl
    rw[this];rfl
   ·unfold fZ
    rw[if_pos h1,Int.one_mul]
    push_cast
    rfl
  ·refine⟨-1,?_,qh (by decide) (by decide),?_⟩
   ·have:(i:Int) / n=1:=by rw[<- uW,h3];rfl
    rw[this];rfl
   ·unfold fZ
    have hjm:j % n<n:=rE _ hn
    rw[if_neg (by omega)]
    have e1:((i:Int) % n + -1*((j:Int) % n)) % n=((i % n+(n - j % n)) % n:Nat):=by
     have e2:((n - j % n:Nat):Int)=(n:Int) - (j:Int) % n:=by omega
     rw[mM,wX,e2,mM]
     rw[show(i:Int) % n+((n:Int) - (j:Int) % n)=((i:Int) % n + -1*((j:Int) % n))+n by omega,Int.add_emod_right]
    rw[e1]
    push_cast
    rfl
 obtain⟨c,c1,c2,c3⟩:=hc
 rw[<- c3]
 exact⟨_,zX h0 hd c1 c2 hk hr2 hl⟩
end
end _W
end
section
namespace _W
open _L _G
section
theorem bp{a b:MS}{ρ ρ1:Rho}{S S1:Sto}(h:a ρ S=some (.nx,ρ1,S1)):bo a b ρ S=b ρ1 S1:=by simp only[bo,h]
theorem dc{e:ME}{ρ:Rho}{S S1:Sto}{u:U}(h:e ρ S=some (u,S1)):cK e ρ S=some (.rt u,ρ,S1):=by simp only[cK,h,aD]
theorem cz{e:ME}{ρ:Rho}{S S1:Sto}{u:U}{i:Nat}(h:e ρ S=some (u,S1)):bV i e ρ S=some (.nx,ρ.set i (some u),S1):=by simp only[bV,h,aD]
theorem pW{ρ:Rho}{S:Sto}:bU ag ρ S=some (.ref S.length,S++[Cell.lst []]):=by
 have hz:([]:List U).length<=big:=en _
 simp only[bU,ag,aD,hz,if_true]
theorem cZ{k n:Nat}{b:MS}{us:List U}{S S1:Sto}{u:U}{ρ:Rho}(hl:us.length=k)(h:b (us.map some++aq (n - k) none) S=some (.rt u,ρ,S1)):_G.run k n b us S=some (u,S1):=by
 simp only[_G.run,hl,if_true,h]
theorem Sm.toEx{S S':Sto}(h:Sm S.length S S'):Ex S S':=by
 refine⟨S'.drop S.length,List.ext_getElem? λi =>?_⟩
 by_cases hi:i<S.length
 ·rw[aQ hi];exact h.same i hi
 ·rw[ar (by exact bS (by assumption)),List.getElem?_drop];congr 1;omega
theorem LQ{ρ:Rho}(h:ρ.length=6): ∃a b c d e f,ρ = [a,b,c,d,e,f]:=by
 have k: ∀{n:Nat}{l:Rho},l.length=n+1 -> ∃a r,l=a::r/\r.length=n:=λ{n l} h=>by
  cases l with
  | nil=>cases h
  | cons a r=>exact⟨a,r,rfl,Nat.succ.inj h⟩
 obtain⟨a,r1,rfl,h1⟩:=k h
 obtain⟨b,r2,rfl,h2⟩:=k h1
 obtain⟨c,r3,rfl,h3⟩:=k h2
 obtain⟨d,r4,rfl,h4⟩:=k h3
 obtain⟨e,r5,rfl,h5⟩:=k h4
 obtain⟨f,r6,rfl,h6⟩:=k h5
 cases cQ h6
 exact⟨a,b,c,d,e,f,rfl⟩
theorem wd{n:Nat}{S:Sto}(hn:0<n)(hn2:n<1000): ∃S',eS [.int n] S=some (tab (2*n) (fZ n),S')/\Ex S S':=by
 have hbig:2*n<big:=by unfold big;omega
 obtain⟨ρ1,S1,e1,q1,q2,q3⟩:=build (fs:=1) (rs:=3) (is:=2) (js:=4) (L:= [2,3,4,5]) (ρ0:= [some (.int n),some (.ref S.length),none,none,none,none]) (S0:=S) (bIn:=pX) (a:=m2 ed (mC (.int 2)) (ae 0)) (m:=2*n) (T:=fZ n)
  hbig (by decide) (by decide) (by decide) (by decide) (by decide) (by decide) (by decide) (by simp) (by simp) (by simp) rfl
  (λρ S' g s=>by
   have h0:ρ[0]? = some (some (.int n)):=g.2 0 (by decide)
   have hk:jl 2 (n:Int):=qh (by decide) (by decide)
   simp only[m2,mC,aD,var_eq h0,ed,hk,if_true]
   rfl)
  (λi j r ρ S' row hi hj g gi gj gr s hr he hl=>by
   obtain⟨a,b,c,d,e,f,rfl⟩:=LQ g.1
   have h0:some a=some (some (.int n)):=g.2 0 (by decide)
   have h1:some b=some (some (.ref S.length)):=g.2 1 (by decide)
   simp only[eJ,Au,Av]at h0 h1 gi gj gr
   subst h0 h1 gi gj gr
   obtain⟨z,ez⟩:=BX (f:=S.length) (x:=none) (y:=f) hn hn2 hi hj he hl
   refine⟨_,_,ez,⟨rfl,λk hk =>?_⟩,rfl,rfl,(Wr.ex (Ex.push _ _)).trans (Wr.set _ _ _),?_⟩
   ·match k with
    | 0=>rfl
    | 1=>rfl
    | 2=>exact absurd (by decide) hk
    | 3=>exact absurd (by decide) hk
    | 4=>exact absurd (by decide) hk
    | 5=>exact absurd (by decide) hk
    | k+6=>rfl
   ·exact aI (by have:=(af.mp he).1;simp;exact iI (by assumption)))
 have e2:mFn cD (aa (ae 1) ag) ρ1 S1=some (tab (2*n) (fZ n),S1):=nR (var_eq (by rw[q1.2 1 (by decide)];rfl)) q3
 refine⟨S1,cZ (ρ:=ρ1) rfl ?_,?_⟩
 ·show lD [some (.int n),none,none,none,none,none] S=_
  exact(bp (cz pW)).trans ((bp e1).trans (dc e2))
 ·exact q2.toEx
end
end _W
end
section
namespace _W
open _L _G
section
section
variable {ρ:Rho}{S S1 S2:Sto}{a b:ME}
theorem op2{f:F2}{x y:U}{r:Res U}(ha:a ρ S=some (x,S1))(hb:b ρ S1=some (y,S2))(h:f x y S2=r):m2 f a b ρ S=r:=by simp only[m2,ha,hb,aD,h]
theorem Iu{us:List U}{z:Int}{u:U}(ha:a ρ S=some (.tup us,S1))(hb:b ρ S1=some (.int z,S2))(h:atI us z=some u):m2 oIx a b ρ S=some (u,S2):=op2 ha hb (by simp only[oIx,gp,dR,ax,h,bx])
theorem GW{n:Nat}{us:List U}{z:Int}{u:U}(ha:a ρ S=some (.ref n,S1))(hb:b ρ S1=some (.int z,S2))(hn:S2[n]? = some (Cell.lst us))(h:atI us z=some u):m2 oIx a b ρ S=some (u,S2):=op2 ha hb (by simp only[oIx,gp,dR,getL,hn,ax,h,bx])
theorem IQ{x y:Int}(ha:a ρ S=some (.int x,S1))(hb:b ρ S1=some (.int y,S2)):m2 cU a b ρ S=some (.int (x+y),S2):=op2 ha hb rfl
theorem FG{x y:Int}(ha:a ρ S=some (.int x,S1))(hb:b ρ S1=some (.int y,S2)):m2 uM a b ρ S=some (.int (x - y),S2):=op2 ha hb rfl
theorem Kv{x y:Int}(ha:a ρ S=some (.int x,S1))(hb:b ρ S1=some (.int y,S2))(h:jl x y):m2 ed a b ρ S=some (.int (x*y),S2):=op2 ha hb (if_pos h)
theorem K1{x y:Int}(ha:a ρ S=some (.int x,S1))(hb:b ρ S1=some (.int y,S2))(h:qP y):m2 oDiv a b ρ S=some (.int (x / y),S2):=op2 ha hb (if_pos h)
theorem Fi{x y:Int}(ha:a ρ S=some (.int x,S1))(hb:b ρ S1=some (.int y,S2))(h:0<y):m2 oMod a b ρ S=some (.int (x % y),S2):=op2 ha hb (if_pos h)
theorem c_i{z:Int}:mC (.int z) ρ S=some (.int z,S):=rfl
theorem BI{us:List U}(ha:a ρ S=some (.tup us,S1)):mFn cg (aa a ag) ρ S=some (.int us.length,S1):=by
 simp only[mFn,mO ha,aD,cg,gp,dR,bx]
theorem len_tab{m:Nat}{T:Nat->Nat->Nat}(ha:a ρ S=some (tab m T,S1)):mFn cg (aa a ag) ρ S=some (.int m,S1):=by
 rw[BI (us:=(aO m).map (nD m T)) ha,aE,bT]
theorem rm{m i:Nat}{T:Nat->Nat->Nat}(hi:i<m)(ha:a ρ S=some (tab m T,S1))(hb:b ρ S1=some (.int i,S2)):m2 oIx a b ρ S=some (nD m T i,S2):=Iu ha hb (mm hi)
theorem uI{m i j:Nat}{T:Nat->Nat->Nat}(hj:j<m)(ha:a ρ S=some (nD m T i,S1))(hb:b ρ S1=some (.int j,S2)):m2 oIx a b ρ S=some (.int (T i j),S2):=Iu ha hb (mm hj)
theorem sH{x y:Nat}(ha:a ρ S=some (.int x,S1))(hb:b ρ S1=some (.int y,S2))(h:0<y)(h2:y<1000):m2 oDiv a b ρ S=some (.int (x / y:Nat),S2):=by rw[K1 ha hb (sY h h2),uW]
theorem BU{x y:Nat}(ha:a ρ S=some (.int x,S1))(hb:b ρ S1=some (.int y,S2))(h:0<y):m2 oMod a b ρ S=some (.int (x % y:Nat),S2):=by rw[Fi ha hb (by omega),mM]
theorem AI{x y:Nat}(ha:a ρ S=some (.int x,S1))(hb:b ρ S1=some (.int y,S2))(h:x<1000000):m2 ed a b ρ S=some (.int (x*y:Nat),S2):=by rw[Kv ha hb (tz h),Int.natCast_mul]
theorem add_n{x y:Nat}(ha:a ρ S=some (.int x,S1))(hb:b ρ S1=some (.int y,S2)):m2 cU a b ρ S=some (.int (x+y:Nat),S2):=by rw[IQ ha hb,wX]
end
theorem Agr.of{L:List Nat}{ρ0 ρ:Rho}{i:Nat}{v:Option U}(h:Agr L ρ0 ρ)(hi:i∉L)(e:ρ0[i]? = some v):ρ[i]? = some v:=(h.2 i hi).trans e
noncomputable def GP:MS:=bo (bV 7 (m2 oIx (m2 oIx (ae 0) (m2 oDiv (ae 4) (ae 2))) (m2 oDiv (ae 6) (ae 2)))) (cy (mML b0 (ae 5) (aa (m2 cU (m2 ed (ae 7) (ae 2)) (m2 oIx (m2 oIx (ae 1) (m2 oMod (ae 4) (ae 2))) (m2 oMod (ae 6) (ae 2)))) ag)))
theorem zb{k m:Nat}{A B:Nat->Nat->Nat}{S:Sto}(hk:0<k)(hk2:k<1000)(hm:0<m)(hm2:m<1000)(ca: ∀i j,i<k->j<k->A i j<k): ∃S',fX [tab k A,tab m B] S=some (tab (k*m) (n9 m A B),S')/\Ex S S':=by
 have hkm:k*m<1000000:=by
  calc k*m<=999*m:=fY m (by exact dk (by assumption))
   _<=999*999:=gH 999 (by exact dk (by assumption))
   _<1000000:=by decide
 have hbig:k*m<big:=by unfold big;exact ai (by assumption) (by decide)
 have dl: ∀i,i<k*m->i / m<k:=λi hi=>Nat.div_lt_of_lt_mul (by rw[iH];exact hi)
 have rl: ∀i,i % m<m:=λi=>rE _ hm
 obtain⟨ρ1,S1,e1,q1,q2,q3⟩:=build (fs:=3) (rs:=5) (is:=4) (js:=6) (L:= [4,5,6,7]) (ρ0:= [some (tab k A),some (tab m B),some (.int m),some (.ref S.length),none,none,none,none]) (S0:=S) (bIn:=GP) (a:=m2 ed (mFn cg (aa (ae 0) ag)) (ae 2)) (m:=k*m) (T:=n9 m A B)
  hbig (by decide) (by decide) (by decide) (by decide) (by decide) (by decide) (by decide) (by simp) (by simp) (by simp) rfl
  (λρ S' g s=>AI (len_tab (var_eq (g.of (by decide) rfl))) (var_eq (g.of (by decide) rfl)) (by exact ai (by assumption) (by decide)))
  (λi j r ρ S' row hi hj g gi gj gr s hr he hl=>by
   have v0: ∀S',ae 0 ρ S'=some (tab k A,S'):=λS'=>var_eq (g.of (by decide) rfl)
   have v2: ∀S',ae 2 ρ S'=some (.int m,S'):=λS'=>var_eq (g.of (by decide) rfl)
   have e7:m2 oIx (m2 oIx (ae 0) (m2 oDiv (ae 4) (ae 2))) (m2 oDiv (ae 6) (ae 2)) ρ S'=some (.int (A (i / m) (j / m)),S'):=
    uI (dl j hj) (rm (dl i hi) (v0 _) (sH (var_eq gi) (v2 _) hm hm2)) (sH (var_eq gj) (v2 _) hm hm2)
   have hlen:ρ.length=8:=g.1
   have g':Agr [4,5,6,7] _ (ρ.set 7 (some (.int (A (i / m) (j / m))))):=g.set (by decide)
   have w2: ∀S',ae 2 (ρ.set 7 (some (.int (A (i / m) (j / m))))) S'=some (.int m,S'):=λS'=>var_eq (g'.of (by decide) rfl)
   have w1: ∀S',ae 1 (ρ.set 7 (some (.int (A (i / m) (j / m))))) S'=some (tab m B,S'):=λS'=>var_eq (g'.of (by decide) rfl)
   have w7: ∀S',ae 7 (ρ.set 7 (some (.int (A (i / m) (j / m))))) S'=some (.int (A (i / m) (j / m)),S'):=λS'=>var_eq (oo (by omega))
   have n4:(ρ.set 7 (some (.int (A (i / m) (j / m)))))[4]? = some (some (.int i)):=by rw[ay (by decide)];exact gi
   have n5:(ρ.set 7 (some (.int (A (i / m) (j / m)))))[5]? = some (some (.ref r)):=by rw[ay (by decide)];exact gr
   have n6:(ρ.set 7 (some (.int (A (i / m) (j / m)))))[6]? = some (some (.int j)):=by rw[ay (by decide)];exact gj
   have hA:A (i / m) (j / m)<1000000:=dz (ca _ _ (dl i hi) (dl j hj)) (by exact ai (by assumption) (by decide))
   have ev:m2 cU (m2 ed (ae 7) (ae 2)) (m2 oIx (m2 oIx (ae 1) (m2 oMod (ae 4) (ae 2))) (m2 oMod (ae 6) (ae 2))) (ρ.set 7 (some (.int (A (i / m) (j / m))))) S'=some (.int (n9 m A B i j:Nat),S'):=
    add_n (AI (w7 _) (w2 _) hA) (uI (rl j) (rm (rl i) (w1 _) (BU (var_eq n4) (w2 _) hm)) (BU (var_eq n6) (w2 _) hm))
   exact⟨_,_,(bp (cz e7)).trans (append_eq (var_eq n5) ev he he hl),g',n4,n5,Wr.set _ _ _,aI (af.mp he).1⟩)
 have e2:mFn cD (aa (ae 3) ag) ρ1 S1=some (tab (k*m) (n9 m A B),S1):=nR (var_eq (q1.of (by decide) rfl)) q3
 refine⟨S1,cZ (ρ:=ρ1) rfl ?_,q2.toEx⟩
 show nj [some (tab k A),some (tab m B),none,none,none,none,none,none] S=_
 exact(bp (cz (len_tab (var_eq rfl)))).trans ((bp (cz pW)).trans ((bp e1).trans (dc e2)))
end
end _W
end
section
namespace _W
open _L _G
section
noncomputable def oV:Nat->Nat->Nat:=λa b=>([[0,0,0,0],[0,1,0,1],[0,1,1,0],[0,0,1,1]].getD a []).getD b 0
noncomputable def yc:Nat->Nat->Nat:=λa b=>([[0,1,2,3],[1,0,3,2],[2,3,0,1],[3,2,1,0]].getD a []).getD b 0
noncomputable def u5(i j:Nat):Nat:=2*yc (i / 2) (j / 2)+(i+j+oV (i / 2) (j / 2)) % 2
theorem CB:((aO 8).all λi=>(aO 8).all λj=>u5 i j==fC i j)=true:=by decide +kernel
theorem zG{i j:Nat}(hi:i<8)(hj:j<8):u5 i j=fC i j:=by
 have h:=cH.mp (cH.mp CB i (aS.mpr hi)) j (aS.mpr hj)
 exact eq_of_beq h
noncomputable def ET:MS:=bo (bV 6 (m2 oMod (m2 cU (m2 cU (ae 3) (ae 5)) (m2 oIx (m2 oIx (ae 0) (m2 oDiv (ae 3) (mC (.int 2)))) (m2 oDiv (ae 5) (mC (.int 2))))) (mC (.int 2)))) (cy (mML b0 (ae 4) (aa (m2 cU (m2 ed (mC (.int 2)) (m2 oIx (m2 oIx (ae 1) (m2 oDiv (ae 3) (mC (.int 2)))) (m2 oDiv (ae 5) (mC (.int 2))))) (ae 6)) ag)))
noncomputable def qF(T:Nat->Nat->Nat)(a:Nat):Cell:= .lst ((aO 4).map λb => .int (T a b))
noncomputable def Cv(s:Nat):Cell:= .lst ((aO 4).map λa => .ref (s+a))
noncomputable def ten(s:Nat):Sto:= [qF oV 0,qF oV 1,qF oV 2,qF oV 3,Cv s,qF yc 0,qF yc 1,qF yc 2,qF yc 3,Cv (s+5)]
theorem look{S S':Sto}{n k:Nat}{c:Cell}(s:Sm (S++ten S.length).length (S++ten S.length) S')(hk:(ten S.length)[k]? = some c)(hn:n=S.length+k):S'[n]? = some c:=by
 have hl:k<(ten S.length).length:=(af.mp hk).1
 rw[s.same n (by rw[bg];omega),ar (by omega),hn]
 rw[show S.length+k - S.length=k by omega];exact hk
theorem wG{S S':Sto}{ρ:Rho}{v p q x y:Nat}{T:Nat->Nat->Nat}(hv:ρ[v]? = some (some (.ref x)))(hx:S'[x]? = some (Cv y))(hy: ∀a,a<4->S'[y+a]? = some (qF T a)){i j:Nat}(hi:ρ[p]? = some (some (.int i)))(hj:ρ[q]? = some (some (.int j)))(li:i<8)(lj:j<8):
  m2 oIx (m2 oIx (ae v) (m2 oDiv (ae p) (mC (.int 2)))) (m2 oDiv (ae q) (mC (.int 2))) ρ S'=some (.int (T (i / 2) (j / 2)),S'):=
 GW (GW (var_eq hv) (sH (y:=2) (var_eq hi) c_i (by decide) (by decide)) hx (mm (by omega))) (sH (y:=2) (var_eq hj) c_i (by decide) (by decide)) (hy _ (by omega)) (mm (by omega))
theorem jB{ρ:Rho}{S:Sto}{x y z w:Int}:bU (aa (mC (.int x)) (aa (mC (.int y)) (aa (mC (.int z)) (aa (mC (.int w)) ag)))) ρ S=some (.ref S.length,S++[Cell.lst [.int x,.int y,.int z,.int w]]):=by
 have hz:4<=big:=by decide
 simp[bU,aa,mC,ag,aD,hz]
theorem wg{ρ:Rho}{S S1 S2 S3 S4:Sto}{a b c d:ME}{x y z w:U}(ha:a ρ S=some (x,S1))(hb:b ρ S1=some (y,S2))(hc:c ρ S2=some (z,S3))(hd:d ρ S3=some (w,S4)):
  bU (aa a (aa b (aa c (aa d ag)))) ρ S=some (.ref S4.length,S4++[Cell.lst [x,y,z,w]]):=by
 have hz:4<=big:=by decide
 simp only[bU,aa,ag,aD,ha,hb,hc,hd]
 simp[hz]
theorem xT{S:Sto}: ∃S',fJ [] S=some (tab 8 fC,S')/\Ex S S':=by
 have e0:=wg (ρ:= [none,none,none,none,none,none,none]) (S:=S) (jB (x:=0) (y:=0) (z:=0) (w:=0)) (jB (x:=0) (y:=1) (z:=0) (w:=1)) (jB (x:=0) (y:=1) (z:=1) (w:=0)) (jB (x:=0) (y:=0) (z:=1) (w:=1))
 have e1:=wg (ρ:= [some (.ref (S.length+4)),none,none,none,none,none,none]) (S:=S++(ten S.length).take 5) (jB (x:=0) (y:=1) (z:=2) (w:=3)) (jB (x:=1) (y:=0) (z:=3) (w:=2)) (jB (x:=2) (y:=3) (z:=0) (w:=1)) (jB (x:=3) (y:=2) (z:=1) (w:=0))
 have e0':=e0.trans (b:=_) (c:=some (U.ref (S.length+4),S++(ten S.length).take 5)) (by simp only[be,bg];rfl)
 have e1':=e1.trans (b:=_) (c:=some (U.ref (S.length+9),S++ten S.length)) (by simp only[be,bg];rfl)
 obtain⟨ρ1,S1,f1,q1,q2,q3⟩:=build (fs:=2) (rs:=4) (is:=3) (js:=5) (L:= [3,4,5,6]) (ρ0:= [some (.ref (S.length+4)),some (.ref (S.length+9)),some (.ref (S++ten S.length).length),none,none,none,none]) (S0:=S++ten S.length) (bIn:=ET) (a:=mC (.int 8)) (m:=8) (T:=fC)
  (by decide) (by decide) (by decide) (by decide) (by decide) (by decide) (by decide) (by decide) (by simp) (by simp) (by simp) rfl
  (λρ S' g s=>rfl)
  (λi j r ρ S' row hi hj g gi gj gr s hr he hl=>by
   have hlen:ρ.length=7:=g.1
   have hs: ∀a,a<4->S'[S.length+a]? = some (qF oV a):=λa ha=>look (k:=a) s (by match a,ha with | 0,_=>rfl | 1,_=>rfl | 2,_=>rfl | 3,_=>rfl) rfl
   have hkk: ∀a,a<4->S'[S.length+5+a]? = some (qF yc a):=λa ha=>look (k:=5+a) s (by match a,ha with | 0,_=>rfl | 1,_=>rfl | 2,_=>rfl | 3,_=>rfl) (by omega)
   have t1:=wG (S:=S) (T:=oV) (v:=0) (g.of (by decide) rfl) (look (k:=4) s rfl rfl) hs gi gj hi hj
   have e6:m2 oMod (m2 cU (m2 cU (ae 3) (ae 5)) (m2 oIx (m2 oIx (ae 0) (m2 oDiv (ae 3) (mC (.int 2)))) (m2 oDiv (ae 5) (mC (.int 2))))) (mC (.int 2)) ρ S'=some (.int ((i+j+oV (i / 2) (j / 2)) % 2:Nat),S'):=
    BU (y:=2) (add_n (add_n (var_eq gi) (var_eq gj)) t1) c_i (by decide)
   have g':Agr [3,4,5,6] _ (ρ.set 6 (some (.int ((i+j+oV (i / 2) (j / 2)) % 2:Nat)))):=g.set (by decide)
   have n3:(ρ.set 6 (some (.int ((i+j+oV (i / 2) (j / 2)) % 2:Nat))))[3]? = some (some (.int i)):=by rw[ay (by decide)];exact gi
   have n4:(ρ.set 6 (some (.int ((i+j+oV (i / 2) (j / 2)) % 2:Nat))))[4]? = some (some (.ref r)):=by rw[ay (by decide)];exact gr
   have n5:(ρ.set 6 (some (.int ((i+j+oV (i / 2) (j / 2)) % 2:Nat))))[5]? = some (some (.int j)):=by rw[ay (by decide)];exact gj
   have t2:=wG (S:=S) (T:=yc) (v:=1) (g'.of (by decide) rfl) (look (k:=9) s rfl rfl) hkk n3 n5 hi hj
   have ev:m2 cU (m2 ed (mC (.int 2)) (m2 oIx (m2 oIx (ae 1) (m2 oDiv (ae 3) (mC (.int 2)))) (m2 oDiv (ae 5) (mC (.int 2))))) (ae 6) (ρ.set 6 (some (.int ((i+j+oV (i / 2) (j / 2)) % 2:Nat)))) S'=some (.int (fC i j:Nat),S'):=by
    rw[<- zG hi hj]
    exact add_n (AI (x:=2) c_i t2 (by decide)) (var_eq (oo (by omega)))
   exact⟨_,_,(bp (cz e6)).trans (append_eq (var_eq n4) ev he he hl),g',n3,n4,Wr.set _ _ _,aI (af.mp he).1⟩)
 have f2:mFn cD (aa (ae 2) ag) ρ1 S1=some (tab 8 fC,S1):=nR (var_eq (q1.of (by decide) rfl)) q3
 refine⟨S1,cZ (ρ:=ρ1) rfl ?_,Ex.trans ⟨ten S.length,rfl⟩ q2.toEx⟩
 show jM [none,none,none,none,none,none,none] S=_
 exact(bp (cz e0')).trans ((bp (cz e1')).trans ((bp (cz pW)).trans ((bp f1).trans (dc f2))))
end
end _W
end
section
namespace _W
open _L _G
section
theorem tK{e:ME}{ρ:Rho}(P:List U->Sto->Prop): ∀(us acc:List U) (S:Sto),P acc S ->
  (∀(k:Nat) (acc':List U) (u:U) (S:Sto),us[k]? = some u->acc'.length=acc.length+k->P acc' S -> ∃v S',e (ρ++[some u]) S=some (v,S')/\P (acc'++[v]) S') ->
  ∃ys S',fA cTT e ρ us acc S=some (ys,S')/\P ys S'/\ys.length=acc.length+us.length
 | [],acc,S,h,_=>⟨acc,S,rfl,h,by simp⟩
 | u::us,acc,S,h,st=>by
   obtain⟨v,S1,e1,h1⟩:=st 0 acc u S rfl (by simp) h
   obtain⟨ys,S2,e2,h2,h3⟩:=tK P us (acc++[v]) S1 h1 λk acc' w S hk hl hp=>st (k+1) acc' w S (by simpa using hk) (by simp at hl;omega) hp
   refine⟨ys,S2,?_,h2,by simp at h3 ⊢;omega⟩
   show bnd (cTT (ρ++[some u]) S) _=_
   simp only[cTT,aD,if_true]
   rw[e1]
   exact e2
theorem Ak{ρ:Rho}{S S0:Sto}{a e:ME}{n:Nat}(ha:a ρ S=some (.int n,S0))(hn:n<big)(P:List U->Sto->Prop)(h0:P [] S0)
  (hs: ∀(k:Nat) (acc:List U) (S:Sto),k<n->acc.length=k->P acc S -> ∃v S',e (ρ++[some (.int k)]) S=some (v,S')/\P (acc++[v]) S'):
  ∃ys S',mFn cD (aa (dg (iR1 (aa a ag)) cTT e) ag) ρ S=some (.tup ys,S'++[.lst ys])/\P ys S'/\ys.length=n:=by
 obtain⟨ys,S1,e1,h1,h2⟩:=tK (e:=e) (ρ:=ρ) P (bh 0 n) [] S0 h0 λk acc u S hk hl hp=>by
  have hlt:k<n:=by have:=(af.mp hk).1;simpa [bh]using this
  have hu:(bh 0 n)[k]? = some (.int k):=by simp[bh,hlt]
  rw[hu]at hk;cases hk
  exact hs k acc S hlt (by simpa using hl) hp
 have hlen:(bh 0 n).length=n:=by simp[bh]
 rw[hlen]at h2
 simp only[ft,fh]at h2
 exact⟨ys,S1,i8 (qg (pY ha hn) e1 (by rw[h2];exact hn)),h1,h2⟩
theorem Stp.set{n r:Nat}{S S':Sto}{c:Cell}(h:Stp n S S')(hr:S.length<=r)(hn:r≠n):Stp n S (S'.set r c):=by
 refine⟨by rw[fq];exact h.len,λm h1 h2=>by rw[ay (by omega)];exact h.same m h1 h2,?_⟩
 obtain⟨s,b,e⟩:=h.st
 exact⟨s,b,by rw[ay hn];exact e⟩
theorem Stp.step{n:Nat}{S S1 S2:Sto}(a:Stp n S S1)(e:Ex S1 S2):Stp n S S2:=a.trans (Stp.ex a.st e)
theorem dy{f:MF}{ρ:Rho}{S S1 S2:Sto}{a b:ME}{x y:U}{r:Res U}(ha:a ρ S=some (x,S1))(hb:b ρ S1=some (y,S2))(h:f [x,y] S2=r):mFn f (aa a (aa b ag)) ρ S=r:=by
 simp only[mFn,aa,ag,ha,hb,aD,h]
theorem jt{f:MF}{ρ:Rho}{S S1:Sto}{a:ME}{x:U}{r:Res U}(ha:a ρ S=some (x,S1))(h:f [x] S1=r):mFn f (aa a ag) ρ S=r:=by
 simp only[mFn,mO ha,aD,h]
theorem CG{ρ:Rho}{S:Sto}{a:ME}{r:Nat}{us:List U}(ha:a ρ S=some (.ref r,S))(hr:S[r]? = some (Cell.lst us)):mFn cg (aa a ag) ρ S=some (.int us.length,S):=
 jt ha (by simp only[cg,gp,dR,getL,hr,bx])
theorem tm{α β:Type}(f:α->β): ∀(l:List α) (j:Nat),(l.map f).eraseIdx j=(l.eraseIdx j).map f
 | [],_=>rfl
 | _::_,0=>rfl
 | x::l,j+1=>by simp[tm f l j]
noncomputable def aA(l:List Nat):List U:=l.map λ(x:Nat)=>U.int x
theorem wC{ρ:Rho}{S S1:Sto}{o a:ME}{r:Nat}{l:List Nat}{j:Nat}(ho:o ρ S=some (.ref r,S))(ha:a ρ S=some (.int j,S1))(hr:S[r]? = some (Cell.lst (aA l)))(hr1:S1[r]? = some (Cell.lst (aA l)))(hj:j<l.length)(hl:l.length<big):
  mML jJ o (aa a ag) ρ S=some (.int l[j],S1.set r (Cell.lst (aA (l.eraseIdx j)))):=by
 have hok:okR (j:Int):=mq (by exact dz (by assumption) (by assumption))
 have hx:ixN (aA l).length (j:Int)=some j:=by
  have:(aA l).length=l.length:=by simp[aA]
  rw[this];simp[ixN,hj]
 have hg:(aA l)[j]? = some (.int l[j]):=by simp[aA,hj]
 have he:(aA l).eraseIdx j=aA (l.eraseIdx j):=tm _ _ _
 simp only[mML,ho,aD,getL,hr,ax,mO ha,jJ,hr1,hok,if_true,hx,hg,bx,he]
theorem tI{ρ:Rho}{S:Sto}{a b:ME}{i j:Int}(ha:a ρ S=some (.int i,S))(hb:b ρ S=some (.int j,S))(h1:okR i)(h2:okR j)(hz:(bh i (j - i).toNat).length<=big):jL (iR2 (aa a (aa b ag))) ρ S=some (.ref S.length,S++[Cell.lst (bh i (j - i).toNat)]):=by
 have e:iR2 (aa a (aa b ag)) ρ S=some (.imm (bh i (j - i).toNat),S):=by
  unfold iR2
  simp only[aa,ag,ha,hb,aD]
  exact if_pos ⟨h1,h2⟩
 simp only[jL,e,aD,hz,if_true]
theorem cat_t{ρ:Rho}{S S1 S2:Sto}{a b:ME}{xs ys:List U}(ha:a ρ S=some (.tup xs,S1))(hb:b ρ S1=some (.tup ys,S2))(hz:xs.length+ys.length<=big):m2 cU a b ρ S=some (.tup (xs++ys),S2):=op2 ha hb (by simp only[cU,hz,if_true])
theorem ko(m:Nat)(hm:0<m):bh 1 ((m:Int) - 1).toNat=aA (bj 1 (m - 1)):=by
 have e:((m:Int) - 1).toNat=m - 1:=by omega
 rw[e]
 unfold bh aA
 rw[zp,cX]
 apply aY
 intro k _
 simp
theorem BY{n m:Nat}{S:Sto}(h:mX n S)(hm:0<m)(hm2:m<1000): ∃l S',jm [.ref n,.int m] S=some (.tup (aA l),S')/\Stp n S S'/\oX m l:=by
 have hn:=h.lt
 have hbig:m<big:=by unfold big;exact ai (by assumption) (by decide)
 have e0:jL (iR2 (aa (mC (.int 1)) (aa (ae 1) ag))) [some (.ref n),some (.int m),none] S=some (.ref S.length,S++[Cell.lst (aA (bj 1 (m - 1)))]):=by
  rw[tI (i:=1) (j:=m) rfl (var_eq rfl) ⟨by decide,by decide⟩ (mq hbig) (by rw[ko m hm,aA,aE,ki];exact aB (gU m 1) (aT hbig)),ko m hm]
 have st0:Stp n S (S++[Cell.lst (aA (bj 1 (m - 1)))]):=Stp.ex h (Ex.push _ _)
 obtain⟨ys,S1,e1,⟨tk,rem,rfl,q1,q2,q3⟩,e2⟩:=Ak (ρ:= [some (.ref n),some (.int m),some (.ref S.length)]) (S:=S++[Cell.lst (aA (bj 1 (m - 1)))]) (S0:=S++[Cell.lst (aA (bj 1 (m - 1)))])
  (a:=m2 uM (ae 1) (mC (.int 1))) (e:=mML jJ (ae 2) (aa (mFn ba (aa (ae 0) (aa (mFn cg (aa (ae 2) ag)) ag))) ag)) (n:=m - 1)
  (by rw[FG (var_eq rfl) c_i];congr 3;exact(Int.natCast_sub hm).symm) (aK (gU m 1) hbig)
  (λacc S' =>∃tk rem:List Nat,acc=aA tk/\S'[S.length]? = some (Cell.lst (aA rem))/\(tk++rem).Perm (bj 1 (m - 1))/\Stp n S S')
  ⟨[],bj 1 (m - 1),rfl,by rw[ar (ak _)];simp,by simp,st0⟩
  (by
   rintro k acc S' hk hl ⟨tk,rem,rfl,q1,q2,q3⟩
   have htk:tk.length=k:=by simpa [aA]using hl
   have hrem:rem.length=m - 1 - k:=by
    have:=q2.length_eq
    rw[bg,ki,htk]at this
    rw[<- this,Nat.add_sub_cancel_left]
   have hr0:0<rem.length:=by rw[hrem];exact Nat.sub_pos_of_lt hk
   have hr1:rem.length<1000:=by rw[hrem];exact aK (aB (gU _ _) (gU _ _)) hm2
   obtain⟨r,S2,t1,t2,t3,t4,t5⟩:=yY (many:=(rem.length:Int)) q3.st (fi.mpr hr0) (by omega)
   obtain⟨j,rfl⟩:=AD t2
   have hj:j<rem.length:=fi.mp t3
   have ho: ∀S',ae 2 ([some (U.ref n),some (.int m),some (.ref S.length)]++[some (.int k)]) S'=some (.ref S.length,S'):=λS'=>var_eq rfl
   have hv: ∀S',ae 0 ([some (U.ref n),some (.int m),some (.ref S.length)]++[some (.int k)]) S'=some (.ref n,S'):=λS'=>var_eq rfl
   have hlen:mFn cg (aa (ae 2) ag) ([some (U.ref n),some (.int m),some (.ref S.length)]++[some (.int k)]) S'=some (.int rem.length,S'):=by
    rw[CG (ho _) q1];simp[aA]
   have q1':S2[S.length]? = some (Cell.lst (aA rem)):=t4.some (by exact di (by assumption)) q1
   refine⟨_,_,wC (ho _) (dy (hv _) hlen t1) q1 q1' hj (by unfold big;exact ai hr1 (by decide)),tk++[rem[j]],rem.eraseIdx j,by simp[aA],?_,?_,?_⟩
   ·exact aI (af.mp q1').1
   ·refine Da ?_ q2
    rw[be]
    exact(nc rem j hj).append_left tk
   ·exact(q3.trans t4).set (ak _) (by exact di (by assumption)))
 have hrem:rem = []:=by
  have:=q2.length_eq
  simp[aA]at this e2
  exact cQ (by omega)
 subst hrem
 rw[cW]at q2
 refine⟨0::tk,S1++[Cell.lst (aA tk)],cZ (ρ:= [some (.ref n),some (.int m),some (.ref S.length)]) rfl ?_,q3.step (Ex.push _ _),zx hm q2⟩
 show lr [some (.ref n),some (.int m),none] S=_
 refine(bp (cz e0)).trans (dc ?_)
 have ez:jI (aa (mC (.int 0)) ag) [some (.ref n),some (.int m),some (.ref S.length)] (S++[Cell.lst (aA (bj 1 (m - 1)))])=some (.tup [.int 0],S++[Cell.lst (aA (bj 1 (m - 1)))]):=by
  have hb1:1<=big:=by decide
  simp[jI,mO (show mC (.int 0) _ _=some (U.int 0,S++[Cell.lst (aA (bj 1 (m - 1)))]) from rfl),aD,hb1]
 exact cat_t ez e1 (by simp[aA]at e2 ⊢;omega)
theorem Do{S:Sto}{f:Nat}{i:Int}:toD S (f+1) (.int i)=some (.int i):=rfl
theorem vh{S:Sto}{f:Nat}: ∀(l:List Nat),d5 (toD S (f+1)) (aA l)=some (l.map λ(x:Nat)=>zq x)
 | []=>rfl
 | x::l=>by
   show(toD S (f+1) (.int x)).bind _=_
   rw[Do]
   simp only[ax]
   rw[show List.map (λ(x:Nat)=>U.int x) l=aA l from rfl,vh l]
   rfl
theorem wH(x:Nat): ∀(l:List Nat),x∈l->(l.map λ(x:Nat)=>zq x).findIdx? (λy=>d9 y (.int x))=some (l.idxOf x)
 | [],h=>by simp at h
 | y::l,h=>by
   have e:d9 (.int y) (.int x)=decide (y=x):=by
    simp[d9]
    by_cases hxy:y=x
    ·subst hxy;simp
    ·have: ¬((y:Int)=x):=by omega
     simp[hxy,this]
   rw[bD,qj,e,List.idxOf_cons]
   by_cases hxy:y=x
   ·subst hxy;simp
   ·have hm:x∈l:=by
     rcases aX.mp h with z |z
     ·exact absurd z.symm hxy
     ·exact z
    have hb:(y==x)=false:=by simpa using hxy
    rw[wH x l hm]
    simp[hxy,hb]
theorem DF{S:Sto}{x:Nat}{l:List Nat}(h:x∈l):Bg S (.int x) (aA l)=some (l.idxOf x):=by
 unfold Bg
 rw[vh l]
 simp only[ax]
 rw[show toD S 40 (.int x)=some (.int x) from rfl]
 exact wH x l h
theorem wI{ρ:Rho}{S S1:Sto}{o a:ME}{l:List Nat}{x:Nat}(ho:o ρ S=some (.tup (aA l),S))(ha:a ρ S=some (.int x,S1))(h:x∈l):mMT gE o (aa a ag) ρ S=some (.int (l.idxOf x:Nat),S1):=by
 simp only[mMT,ho,aD,mO ha,gE,DF h,bx]
 rfl
theorem va{l:List Nat}{j:Nat}{u:U}(h:(aA l)[j]? = some u):j<l.length/\u = .int (oF l j):=by
 have hl:j<l.length:=by have:=(af.mp h).1;simpa [aA]using this
 have:(aA l)[j]? = some (.int l[j]):=by simp[aA,hl]
 rw[this]at h;cases h
 exact⟨hl,by simp[oF,hl]⟩
theorem dN(l:List Nat):(aA l).length=l.length:=by simp[aA]
theorem Bw{m:Nat}{T:Nat->Nat->Nat}{l:List Nat}{S:Sto}(hm:m<big)(g: ∀i j,i<m->j<m->T i j<m)(ho:oX m l): ∃S',jx [tab m T,.tup (aA l)] S=some (tab m (eR T (oF l) (pF l)),S')/\Ex S S':=by
 have hlen:=ho.len
 obtain⟨S1,e1,h1⟩:=Kg (ρ:= [some (tab m T),some (.tup (aA l))]) (S:=S) (S0:=S) (a:=ae 1) (us:=aA l) (e:=mFn cD (aa (dg (eK (ae 1)) cTT (mMT gE (ae 1) (aa (m2 oIx (m2 oIx (ae 0) (ae 2)) (ae 3)) ag))) ag))
  (var_eq rfl) (by rw[dN,hlen];exact hm) (nD m (eR T (oF l) (pF l))) (λ_ S'=>Ex S S') (Ex.refl _) (by
   intro i u S' hu hx
   obtain⟨hi,rfl⟩:=va hu
   rw[hlen]at hi
   obtain⟨S2,e2,h2⟩:=Kg (ρ:= [some (tab m T),some (.tup (aA l)),some (.int (oF l i))]) (S:=S') (S0:=S') (a:=ae 1) (us:=aA l) (e:=mMT gE (ae 1) (aa (m2 oIx (m2 oIx (ae 0) (ae 2)) (ae 3)) ag))
    (var_eq rfl) (by rw[dN,hlen];exact hm) (λj => .int (eR T (oF l) (pF l) i j)) (λ_ S''=>S''=S') rfl (by
     intro j u S'' hu hx
     obtain⟨hj,rfl⟩:=va hu
     rw[hlen]at hj
     refine⟨S'',?_,hx⟩
     exact wI (var_eq rfl) (uI (ho.ord.ol j hj) (rm (ho.ord.ol i hi) (var_eq rfl) (var_eq rfl)) (var_eq rfl)) (ho.mem.mpr (g _ _ (ho.ord.ol i hi) (ho.ord.ol j hj))))
   subst h2
   rw[dN,hlen]at e2
   exact⟨_,e2,hx.trans (Ex.push _ _)⟩)
 rw[dN,hlen]at e1
 exact⟨_,cZ (ρ:= [some (tab m T),some (.tup (aA l))]) rfl (show lh [some (tab m T),some (.tup (aA l))] S=_ from dc e1),h1.trans (Ex.push _ _)⟩
end
end _W
end
section
namespace _W
open _L _G
section
theorem CD{ρ:Rho}{S S1 S2:Sto}{a b:ME}{x y:Int}(ha:a ρ S=some (.int x,S1))(hb:b ρ S1=some (.int y,S2)):m2 oEq a b ρ S=some (.bl (x==y),S2):=op2 ha hb rfl
theorem xu{ρ:Rho}{S S1 S2:Sto}{a b:ME}{x y:Int}(ha:a ρ S=some (.int x,S1))(hb:b ρ S1=some (.int y,S2)):m2 oGt a b ρ S=some (.bl (decide (y<x)),S2):=op2 ha hb rfl
theorem of_eq{ρ:Rho}{S S1:Sto}{a:ME}{b:Bool}(h:a ρ S=some (.bl b,S1)):cOf a ρ S=some (b,S1):=by simp only[cOf,h,aD]
theorem or_eq{ρ:Rho}{S S1 S2:Sto}{a b:MT}{x y:Bool}(ha:a ρ S=some (x,S1))(hb:b ρ S1=some (y,S2))(e:x=true->S2=S1):cOr a b ρ S=some (x||y,S2):=by
 cases x
 ·simp[cOr,ha,hb,aD]
 ·simp[cOr,ha,aD,e rfl]
theorem and_eq{ρ:Rho}{S S1 S2:Sto}{a b:MT}{x y:Bool}(ha:a ρ S=some (x,S1))(hb:b ρ S1=some (y,S2))(e:x=false->S2=S1):jH a b ρ S=some (x&&y,S2):=by
 cases x
 ·simp[jH,ha,aD,e rfl]
 ·simp[jH,ha,hb,aD]
theorem sf{c:MT}{a b:MS}{ρ:Rho}{S S1:Sto}(h:c ρ S=some (true,S1)):sIf c a b ρ S=a ρ S1:=by simp[sIf,h,aD]
theorem kH{c:MT}{a b:MS}{ρ:Rho}{S S1:Sto}(h:c ρ S=some (false,S1)):sIf c a b ρ S=b ρ S1:=by simp[sIf,h,aD]
theorem jQ{n m:Nat}{S:Sto}(h:mX n S)(hm:0<m)(hm2:m<1000): ∃r S',ba [.ref n,.int m] S=some (.int (r:Nat),S')/\r<m/\Stp n S S':=by
 obtain⟨r,S',e,h1,h2,h3,_⟩:=yY (many:=(m:Int)) h (by omega) (by omega)
 obtain⟨r,rfl⟩:=AD h1
 exact⟨r,S',e,by omega,h3⟩
noncomputable def gA:MS:=sIf (cOr (cOf (m2 oEq (ae 2) (mC (.int 1)))) (cOf (m2 oEq (ae 2) (mC (.int 2))))) (bV 3 (mFn eS (aa (m2 cU (mC (.int 1)) (mFn ba (aa (ae 0) (aa (m2 oDiv (ae 1) (mC (.int 2))) ag)))) ag))) cN
noncomputable def gB:MS:=sIf (jH (cOf (m2 oEq (ae 2) (mC (.int 3)))) (cOf (m2 oGt (ae 1) (mC (.int 7))))) (bV 3 (mFn fJ ag)) cN
noncomputable def gC:MS:=sIf (cOf (m2 oGt (ae 2) (mC (.int 3)))) (bo (bV 4 (m2 cU (mC (.int 2)) (mFn ba (aa (ae 0) (aa (mC (.int 3)) ag))))) (bo (bV 5 (m2 oIx (bU (aa (mFn cu (aa (ae 4) ag)) (aa (mFn eS (aa (ae 4) ag)) ag))) (mFn ba (aa (ae 0) (aa (mC (.int 2)) ag))))) (bo (sIf (cOf (m2 oGt (mFn cg (aa (ae 5) ag)) (ae 1))) (bV 5 (mFn cu (aa (ae 4) ag))) cN) (bV 3 (mFn fX (aa (ae 5) (aa (mFn cu (aa (m2 cU (mC (.int 1)) (mFn ba (aa (ae 0) (aa (m2 oDiv (ae 1) (mFn cg (aa (ae 5) ag))) ag)))) ag)) ag))))))) cN
noncomputable def gD:MS:=sIf (cOf (m2 oEq (mFn ba (aa (ae 0) (aa (mC (.int 3)) ag))) (mC (.int 0)))) (bV 3 (mFn jx (aa (ae 3) (aa (mFn jm (aa (ae 0) (aa (mFn cg (aa (ae 3) ag)) ag))) ag)))) cN
structure Gs(n most way:Nat)(S0:Sto)(ρ:Rho)(S:Sto):Prop where
 ex: ∃m T x y,ρ = [some (.ref n),some (.int most),some (.int way),some (tab m T),x,y]/\Grp m T/\m<=most
 st:Stp n S0 S
section
variable {n most way:Nat}{S0 S:Sto}{ρ:Rho}
theorem IP(h6:6<=most)(hm:most<1000)(g:Gs n most way S0 ρ S): ∃ρ' S',gA ρ S=some (.nx,ρ',S')/\Gs n most way S0 ρ' S':=by
 obtain⟨⟨m,T,x,y,rfl,gr,hle⟩,st⟩:=g
 have hc:=or_eq (of_eq (CD (ρ:= [some (.ref n),some (.int most),some (.int way),some (tab m T),x,y]) (S:=S) (a:=ae 2) (b:=mC (.int 1)) (var_eq rfl) c_i)) (of_eq (CD (a:=ae 2) (b:=mC (.int 2)) (var_eq rfl) c_i)) λ_=>rfl
 cases hb:(((way:Int)==1)||((way:Int)==2)) with
 | false=>
   rw[hb]at hc
   exact⟨_,S,kH hc,⟨m,T,x,y,rfl,gr,hle⟩,st⟩
 | true=>
   rw[hb]at hc
   obtain⟨r,S1,e1,w1,s1⟩:=jQ (m:=most / 2) st.st (by omega) (by omega)
   obtain⟨S2,e2,s2⟩:=wd (n:=1+r) (S:=S1) (by exact b9 (by decide) _) (by omega)
   refine⟨_,S2,(sf hc).trans (cz (jt (x:= .int (1+r:Nat)) (add_n (x:=1) c_i (dy (var_eq rfl) (sH (y:=2) (var_eq rfl) c_i (by decide) (by decide)) e1)) e2)),⟨_,_,x,y,rfl,vY (by exact b9 (by decide) _),by omega⟩,(st.trans s1).step s2⟩
theorem Lg(g:Gs n most way S0 ρ S): ∃ρ' S',gB ρ S=some (.nx,ρ',S')/\Gs n most way S0 ρ' S':=by
 obtain⟨⟨m,T,x,y,rfl,gr,hle⟩,st⟩:=g
 have hc:=and_eq (of_eq (CD (ρ:= [some (.ref n),some (.int most),some (.int way),some (tab m T),x,y]) (S:=S) (a:=ae 2) (b:=mC (.int 3)) (var_eq rfl) c_i)) (of_eq (xu (a:=ae 1) (b:=mC (.int 7)) (var_eq rfl) c_i)) λ_=>rfl
 cases hb:(((way:Int)==3)&&decide ((7:Int)<most)) with
 | false=>
   rw[hb]at hc
   exact⟨_,S,kH hc,⟨m,T,x,y,rfl,gr,hle⟩,st⟩
 | true=>
   rw[hb]at hc
   obtain⟨S2,e2,s2⟩:=xT (S:=S)
   have h7:(7:Int)<most:=by simp at hb;exact hb.2
   refine⟨_,S2,(sf hc).trans (cz (show mFn fJ ag _ S=_ from e2)),⟨_,_,x,y,rfl,An,by omega⟩,st.step s2⟩
theorem yp{ρ:Rho}{S S1 S2:Sto}{a b:ME}{x y:U}(ha:a ρ S=some (x,S1))(hb:b ρ S1=some (y,S2)):bU (aa a (aa b ag)) ρ S=some (.ref S2.length,S2++[Cell.lst [x,y]]):=by
 have hz:2<=big:=by decide
 simp[bU,aa,ag,aD,ha,hb,hz]
theorem Jc(h6:6<=most)(hm:most<1000)(g:Gs n most way S0 ρ S): ∃ρ' S',gC ρ S=some (.nx,ρ',S')/\Gs n most way S0 ρ' S':=by
 obtain⟨⟨m,T,x,y,rfl,gr,hle⟩,st⟩:=g
 have hbig: ∀x,x<=most->x<big:=λx hx=>by unfold big;exact aK (by assumption) (ai (by assumption) (by decide))
 have hc:=of_eq (xu (ρ:= [some (.ref n),some (.int most),some (.int way),some (tab m T),x,y]) (S:=S) (a:=ae 2) (b:=mC (.int 3)) (var_eq rfl) c_i)
 cases hb:decide ((3:Int)<way) with
 | false=>
   rw[hb]at hc
   exact⟨_,S,kH hc,⟨m,T,x,y,rfl,gr,hle⟩,st⟩
 | true=>
   rw[hb]at hc
   obtain⟨r,S1,e1,w1,s1⟩:=jQ (m:=3) st.st (by decide) (by decide)
   have f1:m2 cU (mC (.int 2)) (mFn ba (aa (ae 0) (aa (mC (.int 3)) ag))) [some (.ref n),some (.int most),some (.int way),some (tab m T),x,y] S=some (.int (2+r:Nat),S1):=
    add_n (x:=2) c_i (dy (var_eq rfl) c_i e1)
   have h24:2+r<=4:=Nat.add_le_add_left (dk w1) 2
   have h2m:2+r<=most:=aB h24 (aB (by decide) h6)
   obtain⟨S2,e2,s2⟩:=kS (n:=2+r) (S:=S1) (by exact b9 (by decide) _) (hbig _ h2m)
   obtain⟨S3,e3,s3⟩:=wd (n:=2+r) (S:=S2) (by exact b9 (by decide) _) (aK h24 (by decide))
   have st3:Stp n S0 (S3++[Cell.lst [tab (2+r) (eu (2+r)),tab (2*(2+r)) (fZ (2+r))]]):=(((st.trans s1).step s2).step s3).step (Ex.push _ _)
   obtain⟨q,S4,e4,w4,s4⟩:=jQ (m:=2) st3.st (by decide) (by decide)
   have hcell:S4[S3.length]? = some (Cell.lst [tab (2+r) (eu (2+r)),tab (2*(2+r)) (fZ (2+r))]):=by
    refine s4.some ?_ (by rw[ar (ak _)];simp)
    have:=(((st.trans s1).step s2).step s3).st.lt
    exact di (by assumption)
   have one: ∃k K,atI [tab (2+r) (eu (2+r)),tab (2*(2+r)) (fZ (2+r))] (q:Int)=some (tab k K)/\Grp k K/\k<=8:=by
    rcases q with _ |_ |q
    ·exact⟨_,_,rfl,j7 (by exact b9 (by decide) _),aB h24 (by decide)⟩
    ·exact⟨_,_,rfl,vY (by exact b9 (by decide) _),gH 2 h24⟩
    ·exact absurd (CP (CP w4)) (Nat.not_lt_zero _)
   obtain⟨k,K,hix,gk,hk8⟩:=one
   have f5:m2 oIx (bU (aa (mFn cu (aa (ae 4) ag)) (aa (mFn eS (aa (ae 4) ag)) ag))) (mFn ba (aa (ae 0) (aa (mC (.int 2)) ag))) [some (.ref n),some (.int most),some (.int way),some (tab m T),some (.int (2+r:Nat)),y] S1=some (tab k K,S4):=
    GW (yp (jt (x:= .int (2+r:Nat)) (var_eq rfl) e2) (jt (x:= .int (2+r:Nat)) (var_eq rfl) e3)) (dy (var_eq rfl) c_i e4) hcell hix
   have st4:=st3.trans s4
   have cut: ∃k' K' S5,sIf (cOf (m2 oGt (mFn cg (aa (ae 5) ag)) (ae 1))) (bV 5 (mFn cu (aa (ae 4) ag))) cN [some (.ref n),some (.int most),some (.int way),some (tab m T),some (.int (2+r:Nat)),some (tab k K)] S4 =
     some (.nx,[some (.ref n),some (.int most),some (.int way),some (tab m T),some (.int (2+r:Nat)),some (tab k' K')],S5)/\Grp k' K'/\k'<=most/\k'<=8/\Stp n S0 S5:=by
    have hc2:=of_eq (xu (ρ:= [some (.ref n),some (.int most),some (.int way),some (tab m T),some (.int (2+r:Nat)),some (tab k K)]) (S:=S4) (a:=mFn cg (aa (ae 5) ag)) (b:=ae 1) (len_tab (var_eq rfl)) (var_eq rfl))
    cases hb2:decide ((most:Int)<k) with
    | false=>
      rw[hb2]at hc2
      have: ¬((most:Int)<k):=by simpa using hb2
      exact⟨k,K,S4,kH hc2,gk,bS λz=>this (fi.mpr z),hk8,st4⟩
    | true=>
      rw[hb2]at hc2
      obtain⟨S5,e5,s5⟩:=kS (n:=2+r) (S:=S4) (by exact b9 (by decide) _) (hbig _ h2m)
      exact⟨_,_,S5,(sf hc2).trans (cz (jt (x:= .int (2+r:Nat)) (var_eq rfl) e5)),j7 (by exact b9 (by decide) _),h2m,aB h24 (by decide),st4.step s5⟩
   obtain⟨k',K',S5,f6,gk',hkm,hk8',st5⟩:=cut
   have kp:=gk'.pos
   have hdiv:0<most / k':=Nat.div_pos hkm kp
   have hdl:most / k'<=most:=Nat.div_le_self _ _
   obtain⟨t,S6,e6,w6,s6⟩:=jQ (m:=most / k') st5.st hdiv (by exact aK (by assumption) (by assumption))
   have h1t:1+t<=most / k':=by rw[nv];exact w6
   obtain⟨S7,e7,s7⟩:=kS (n:=1+t) (S:=S6) (by exact b9 (by decide) _) (hbig _ (aB h1t hdl))
   obtain⟨S8,e8,s8⟩:=zb (k:=k') (m:=1+t) (A:=K') (B:=eu (1+t)) (S:=S7) kp (by exact aK (by assumption) (by decide)) (by exact b9 (by decide) _) (aK (aB h1t hdl) hm) gk'.cl
   have hsz:k'*(1+t)<=most:=aB (gH k' h1t) (Nat.mul_div_le most k')
   refine⟨_,S8,(sf hc).trans ((bp (cz f1)).trans ((bp (cz f5)).trans ((bp f6).trans (cz (dy (var_eq rfl) (jt (x:= .int (1+t:Nat)) ?_ e7) e8))))),⟨_,_,_,_,rfl,vd gk' (j7 (by exact b9 (by decide) _)),hsz⟩,((st5.trans s6).step s7).step s8⟩
   exact add_n (x:=1) c_i (dy (var_eq rfl) (sH (var_eq rfl) (len_tab (var_eq rfl)) kp (by exact aK (by assumption) (by decide))) e6)
theorem Ks(hm:most<1000)(g:Gs n most way S0 ρ S): ∃ρ' S',gD ρ S=some (.nx,ρ',S')/\Gs n most way S0 ρ' S':=by
 obtain⟨⟨m,T,x,y,rfl,gr,hle⟩,st⟩:=g
 obtain⟨r,S1,e1,w1,s1⟩:=jQ (m:=3) st.st (by decide) (by decide)
 have hc:=of_eq (CD (ρ:= [some (.ref n),some (.int most),some (.int way),some (tab m T),x,y]) (S:=S) (a:=mFn ba (aa (ae 0) (aa (mC (.int 3)) ag))) (b:=mC (.int 0)) (dy (var_eq rfl) c_i e1) c_i)
 cases hb:((r:Int)==0) with
 | false=>
   rw[hb]at hc
   exact⟨_,S1,kH hc,⟨m,T,x,y,rfl,gr,hle⟩,st.trans s1⟩
 | true=>
   rw[hb]at hc
   obtain⟨l,S2,e2,s2,ol⟩:=BY (m:=m) s1.st gr.pos (by exact aK (by assumption) (by assumption))
   obtain⟨S3,e3,s3⟩:=Bw (m:=m) (T:=T) (S:=S2) (by unfold big;exact aK (by assumption) (ai (by assumption) (by decide))) gr.cl ol
   refine⟨_,S3,(sf hc).trans (cz (dy (var_eq rfl) (dy (var_eq rfl) (len_tab (var_eq rfl)) e2) e3)),⟨_,_,x,y,rfl,zL gr ol.ord,hle⟩,((st.trans s1).trans s2).step s3⟩
end
theorem Bm{n most:Nat}{S:Sto}(h:mX n S)(h6:6<=most)(hm:most<1000): ∃m T S',jn [.ref n,.int most] S=some (tab m T,S')/\Grp m T/\m<=most/\Stp n S S':=by
 have hbig: ∀x,x<=most->x<big:=λx hx=>by unfold big;exact aK (by assumption) (ai (by assumption) (by decide))
 obtain⟨way,S1,e1,w1,s1⟩:=jQ (m:=8) h (by decide) (by decide)
 obtain⟨r2,S2,e2,w2,s2⟩:=jQ (m:=most) s1.st (by exact Nat.zero_lt_of_lt (by assumption)) hm
 obtain⟨S3,e3,s3⟩:=kS (n:=1+r2) (S:=S2) (by exact b9 (by decide) _) (hbig _ (by omega))
 have f1:m2 cU (mC (.int 1)) (mFn ba (aa (ae 0) (aa (ae 1) ag))) [some (.ref n),some (.int most),some (.int way),none,none,none] S1=some (.int (1+r2:Nat),S2):=add_n (x:=1) (y:=r2) c_i (dy (var_eq rfl) (var_eq rfl) e2)
 have g0:Gs n most way S [some (.ref n),some (.int most),some (.int way),some (tab (1+r2) (eu (1+r2))),none,none] S3:=⟨⟨_,_,none,none,rfl,j7 (by exact b9 (by decide) _),by omega⟩,(s1.trans s2).step s3⟩
 obtain⟨ρ4,S4,e4,g4⟩:=IP h6 hm g0
 obtain⟨ρ5,S5,e5,g5⟩:=Lg g4
 obtain⟨ρ6,S6,e6,g6⟩:=Jc h6 hm g5
 obtain⟨ρ7,S7,e7,g7⟩:=Ks hm g6
 obtain⟨⟨m,T,x,y,rfl,gr,hle⟩,st⟩:=g7
 refine⟨m,T,S7,cZ (ρ:= [some (.ref n),some (.int most),some (.int way),some (tab m T),x,y]) rfl ?_,gr,hle,st⟩
 show kW [some (.ref n),some (.int most),none,none,none,none] S=_
 exact(bp (cz (dy (var_eq rfl) c_i e1))).trans ((bp (cz (jt f1 e3))).trans ((bp e4).trans ((bp e5).trans ((bp e6).trans ((bp e7).trans (dc (var_eq rfl)))))))
end
end _W
end
section
namespace _W
open _L _G
section
noncomputable def Scr(ns:List Int)(S:Sto):Prop:=getL S 0=some (ns.map U.int)
theorem Scr.ex{ns:List Int}{S S':Sto}(h:Scr ns S)(e: ∀c,S[0]? = some c->S'[0]? = some c):Scr ns S':=by
 unfold Scr getL at h ⊢
 split at h
 ·rename_i us q;rw[e _ q];exact h
 ·rename_i us q;rw[e _ q];exact h
 all_goals cases h
theorem Scr.lt{ns:List Int}{S:Sto}(h:Scr ns S):0<S.length:=by
 unfold Scr getL at h
 split at h
 ·rename_i q;exact(af.mp q).1
 ·rename_i q;exact(af.mp q).1
 all_goals cases h
theorem fQ{α:Type}(S:List α)(c:α):(S++[c])[S.length]? = some c:=by
 rw[ar (ak _)];simp
theorem Eh{ρ:Rho}{S S1 S2:Sto}{a b:ME}{x y:Int}(ha:a ρ S=some (.int x,S1))(hb:b ρ S1=some (.int y,S2)):m2 oLt a b ρ S=some (.bl (decide (x<y)),S2):=op2 ha hb rfl
theorem Lw{ρ:Rho}{S S1 S2:Sto}{a b:ME}{x y:Int}(ha:a ρ S=some (.int x,S1))(hb:b ρ S1=some (.int y,S2)):m2 oGe a b ρ S=some (.bl (decide (y<=x)),S2):=op2 ha hb rfl
theorem E5{S:Sto}{r:Nat}{us:List U}(h:getL S r=some us):gp S (.ref r)=none:=by
 unfold getL at h
 show(match S[r]? with
  | some (.dic kvs)=>some kvs
  | _=>none)=none
 split at h <;> rename_i q <;> first | (cases h;done) | (rw[q])
theorem Fd{ρ:Rho}{S:Sto}{a:ME}{r:Nat}{us:List U}(ha:a ρ S=some (.ref r,S))(hr:getL S r=some us):mFn cg (aa a ag) ρ S=some (.int us.length,S):=
 jt ha (by simp only[cg,E5 hr,dR,hr,bx])
theorem LB{ρ:Rho}{S S1 S2:Sto}{a b:ME}{n:Nat}{us:List U}{z:Int}{u:U}(ha:a ρ S=some (.ref n,S1))(hb:b ρ S1=some (.int z,S2))(hn:getL S2 n=some us)(h:atI us z=some u):m2 oIx a b ρ S=some (u,S2):=op2 ha hb (by simp only[oIx,E5 hn,dR,hn,ax,h,bx])
theorem yA{α:Type}{us:List α}{k:Nat}{u:α}(h:us[k]? = some u):atI us (k:Int)=some u:=by
 have hk:k<us.length:=(af.mp h).1
 simp[atI,ixN,hk]
 exact(af.mp h).2
theorem ES{ns:List Int}{S:Sto}{k:Nat}(h:Scr ns S): ∃z,g9 [.ref 0,.int k] S=some (.int z,S):=by
 have hc:=of_eq (Eh (ρ:= [some (.ref 0),some (.int k)]) (S:=S) (a:=ae 1) (b:=mFn cg (aa (ae 0) ag)) (var_eq rfl) (Fd (var_eq rfl) h))
 rw[aE]at hc
 cases hb:decide ((k:Int)<ns.length) with
 | true=>
   rw[hb]at hc
   have hk:k<ns.length:=by simpa using hb
   have e:=LB (ρ:= [some (.ref 0),some (.int k)]) (S:=S) (a:=ae 0) (b:=ae 1) (var_eq rfl) (var_eq rfl) h (yA (k:=k) (u:= .int ns[k]) (by simp[hk]))
   refine⟨ns[k],cZ (ρ:= [some (.ref 0),some (.int k)]) rfl ?_⟩
   show fN [some (.ref 0),some (.int k)] S=_
   unfold fN bo
   rw[sf hc,dc e]
 | false=>
   rw[hb]at hc
   refine⟨0,cZ (ρ:= [some (.ref 0),some (.int k)]) rfl ?_⟩
   show fN [some (.ref 0),some (.int k)] S=_
   exact(bp ((kH hc).trans rfl)).trans (dc c_i)
theorem Fg{ρ:Rho}{S:Sto}:m2 tY (mC (.int 10)) (mC (.int 18)) ρ S=some (.int (10 ^ (18:Int).toNat),S):=op2 rfl rfl (if_pos ⟨by decide,by decide,by decide⟩)
theorem Cm{ns:List Int}{S:Sto}{k:Nat}(h:Scr ns S): ∃S',jy [.ref 0,.int k] S=some (.ref S.length,S')/\Ex S S'/\mX S.length S':=by
 obtain⟨z,e1⟩:=ES (k:=k) h
 have e2:bV 2 (mFn g9 (aa (ae 0) (aa (ae 1) ag))) [some (.ref 0),some (.int k),none] S=some (.nx,[some (.ref 0),some (.int k),some (.int z)],S):=cz (dy (var_eq rfl) (var_eq rfl) e1)
 have hc:=of_eq (Lw (ρ:= [some (.ref 0),some (.int k),some (.int z)]) (S:=S) (a:=ae 2) (var_eq rfl) Fg)
 generalize hp:(10:Int) ^ (18:Int).toNat=p at hc
 have hpe: ∀ρ (S:Sto),m2 tY (mC (.int 10)) (mC (.int 18)) ρ S=some (.int p,S):=λρ S=>by rw[Fg,hp]
 cases hb:decide (p<=z) with
 | true=>
   rw[hb]at hc
   have e3:=yp (ρ:= [some (.ref 0),some (.int k),some (.int z)]) (S:=S) (a:=m2 uM (ae 2) (m2 tY (mC (.int 10)) (mC (.int 18)))) (b:=mC (.bl true)) (FG (var_eq rfl) (hpe _ _)) rfl
   refine⟨_,cZ (ρ:= [some (.ref 0),some (.int k),some (.int z)]) rfl ?_,Ex.push _ _,⟨z - p,true,fQ _ _⟩⟩
   show jz [some (.ref 0),some (.int k),none] S=_
   refine(bp e2).trans ?_
   unfold bo
   rw[sf hc,dc e3]
 | false=>
   rw[hb]at hc
   have e3:=yp (ρ:= [some (.ref 0),some (.int k),some (.int z)]) (S:=S) (a:=m2 oMod (ae 2) (mC (.int 2147483647))) (b:=mC (.bl false)) (Fi (var_eq rfl) c_i (by decide)) rfl
   refine⟨_,cZ (ρ:= [some (.ref 0),some (.int k),some (.int z)]) rfl ?_,Ex.push _ _,⟨z % 2147483647,false,fQ _ _⟩⟩
   show jz [some (.ref 0),some (.int k),none] S=_
   exact(bp e2).trans ((bp ((kH hc).trans rfl)).trans (dc e3))
noncomputable def dE(T:Nat->Nat->Nat)(w:List Nat):Nat:=w.foldl T 0
noncomputable def plc(T:Nat->Nat->Nat)(w:List Nat):List Nat:=(aO (w.length+1)).map λk=>dE T (w.take k)
theorem Dt{m:Nat}{T:Nat->Nat->Nat}(hp:0<m)(cl: ∀i j,i<m->j<m->T i j<m){w:List Nat}(hw: ∀x∈w,x<m):dE T w<m:=by
 unfold dE
 have: ∀(w:List Nat) (a:Nat),a<m->(∀x∈w,x<m)->w.foldl T a<m:=by
  intro w
  induction w with
  | nil=>intro a ha _;exact ha
  | cons x w ih=>intro a ha h;exact ih _ (cl a x ha (h x (by simp))) λy hy=>h y (by simp[hy])
 exact this w 0 hp hw
end
end _W
end
section
namespace _W
open _L _G
section
theorem Bv{ns:List Int}{S:Sto}{ρ:Rho}{c:Nat}(h:Scr ns S)(hv:ρ[0]? = some (some (.ref 0)))(hl:ns.length<=63): ∃q:Nat,q<1000/\mFn vz (aa (mC (.int 1)) (aa (mFn pD (aa (mFn cg (aa (ae 0) ag)) (aa (mC (.int c)) ag))) ag)) ρ S=some (.int q,S):=by
 have e1:mFn pD (aa (mFn cg (aa (ae 0) ag)) (aa (mC (.int c)) ag)) ρ S=some (.int (if (c:Int)<(ns.map U.int).length then(c:Int) else(ns.map U.int).length),S):=dy (Fd (var_eq hv) h) c_i rfl
 have e2:=dy (f:=vz) (a:=mC (.int 1)) (S:=S) (ρ:=ρ) c_i e1 rfl
 rw[aE]at e2
 refine⟨max 1 (min ns.length c),Nat.max_lt.mpr ⟨by decide,aK (aB (jW _ _) hl) (by decide)⟩,?_⟩
 rw[e2]
 show some (U.int (if (if (c:Int)<ns.length then(c:Int) else ns.length) > 1 then(if (c:Int)<ns.length then(c:Int) else ns.length) else 1),S)=_
 have:(if (if (c:Int)<ns.length then(c:Int) else ns.length) > 1 then(if (c:Int)<ns.length then(c:Int) else ns.length) else 1)=((max 1 (min ns.length c):Nat):Int):=by
  by_cases h:(c:Int)<ns.length
  ·rw[Nat.min_eq_right (aT (fi.mp h)),if_pos h]
   split
   ·rename_i h1;rw[Nat.max_eq_right (aT (fi.mp h1))]
   ·rename_i h1;rw[Nat.max_eq_left (bS λz=>h1 (fi.mpr z))];rfl
  ·rw[Nat.min_eq_left (bS λz=>h (fi.mpr z)),if_neg h]
   split
   ·rename_i h1;rw[Nat.max_eq_right (aT (fi.mp h1))]
   ·rename_i h1;rw[Nat.max_eq_left (bS λz=>h1 (fi.mpr z))];rfl
 rw[this]
theorem DO{ρ:Rho}{S:Sto}{a b:ME}{i j:Nat}(ha:a ρ S=some (.int i,S))(hb:b ρ S=some (.int j,S))(hi:i<big)(hj:j<big):iR2 (aa a (aa b ag)) ρ S=some (.imm (bh i (j - i)),S):=by
 unfold iR2
 simp only[aa,ag,ha,hb,aD]
 rw[if_pos ⟨mq hi,mq hj⟩]
 congr 4
 omega
theorem JI{ρ:Rho}{S S1 S2:Sto}{a b:ME}{x y:Nat}(ha:a ρ S=some (.int x,S1))(hb:b ρ S1=some (.int y,S2)):m2 oEq a b ρ S=some (.bl (decide (x=y)),S2):=by
 rw[CD ha hb]
 congr 3
 by_cases h:x=y
 ·subst h;simp
 ·have: ¬((x:Int)=y):=by omega
  simp[h,this]
theorem LJ{ρ:Rho}{S S1 S2:Sto}{a b:ME}{x y:Nat}(ha:a ρ S=some (.int x,S1))(hb:b ρ S1=some (.int y,S2)):m2 oNe a b ρ S=some (.bl (!decide (x=y)),S2):=by
 rw[op2 (f:=oNe) ha hb rfl]
 show some (U.bl (!((x:Int)==y)),S2)=_
 congr 4
 by_cases h:x=y
 ·subst h;simp
 ·have: ¬((x:Int)=y):=by omega
  simp[h,this]
end
end _W
end
section
namespace _W
open _L _G
section
theorem BW{a b:MS}{ρ ρ1:Rho}{S S1:Sto}{u:U}(h:a ρ S=some (.rt u,ρ1,S1)):bo a b ρ S=some (.rt u,ρ1,S1):=by simp only[bo,h]
theorem BL{m:Nat}{T:Nat->Nat->Nat}{i:Nat}:nD m T i = .tup (aA ((aO m).map (T i))):=by
 unfold nD Ad aA
 rw[cX];rfl
noncomputable def unT(m:Nat)(T:Nat->Nat->Nat)(i:Nat):Nat:=((aO m).map (T i)).idxOf 0
theorem oj{m:Nat}{T:Nat->Nat->Nat}(g:Grp m T){i:Nat}(hi:i<m):unT m T i<m/\T i (unT m T i)=0/\T (unT m T i) i=0 /\ ∀k,k<m->T i k=0->k=unT m T i:=by
 obtain⟨j,hj,h1,h2,h3⟩:=g.inv1 hi
 have e:unT m T i=j:=by
  unfold unT
  rw[CZ,idx_map (k:=j) m 0 (en _) (by omega) h1 λk _ hk h0=>by have:=h3 k (by exact dz (by assumption) (by assumption)) h0;omega]
  omega
 rw[e];exact⟨hj,h1,h2,h3⟩
theorem FV{m:Nat}{T:Nat->Nat->Nat}(g:Grp m T){i:Nat}(hi:i<m):0∈(aO m).map (T i):=by
 obtain⟨h1,h2,_⟩:=oj g hi
 exact bB.mpr ⟨unT m T i,aS.mpr h1,h2⟩
theorem KG{ρ:Rho}{S S1:Sto}{a:ME}{u:U}(ha:a ρ S=some (u,S1)):jI (aa a ag) ρ S=some (.tup [u],S1):=by
 have hb1:1<=big:=by decide
 simp[jI,mO ha,aD,hb1]
theorem or_false{ρ:Rho}{S S1 S2:Sto}{a b:MT}(ha:a ρ S=some (false,S1))(hb:b ρ S1=some (false,S2)):cOr a b ρ S=some (false,S2):=by
 rw[or_eq ha hb (by intro z;cases z)];rfl
end
end _W
end
section
namespace _W
open _L _G
section
noncomputable def lA(l:List Nat):List Int:=l.map λ(x:Nat)=>(x:Int)
noncomputable def srt(l:List Nat):List Nat:=(pd (lA l)).map uX
theorem xI(l:List Nat):(pd (lA l)).map U.int=aA (srt l):=by
 unfold aA srt
 rw[cX]
 apply aY
 intro i hi
 have hm:=(iT (lA l)).mem_iff.mp hi
 obtain⟨x,_,rfl⟩:=bB.mp hm
 rfl
theorem rj: ∀l:List Nat,(lA l).map uX=l
 | []=>rfl
 | x::l=>by
   show uX (x:Int)::(lA l).map uX=x::l
   rw[rj l];rfl
theorem nH(l:List Nat):(srt l).Perm l:=by
 have h:=(iT (lA l)).map uX
 rw[rj]at h
 exact h
theorem zT{a b:List Nat}(p:a.Perm b):srt a=srt b:=by
 unfold srt
 rw[vD ((iT (lA a)).trans (p.map _)) (vN _)]
 rfl
theorem zc{l:List Nat}{x:Nat}:x∈srt l↔x∈l:=(nH l).mem_iff
theorem uk(l:List Nat):(srt l).length=l.length:=(nH l).length_eq
theorem qq: ∀(l:List Nat),d5 qX (aA l)=some (lA l)
 | []=>rfl
 | x::l=>by
   show(qX (.int x)).bind _=_
   simp only[qX,ax]
   rw[show List.map (λ(x:Nat)=>U.int x) l=aA l from rfl,qq l]
   rfl
noncomputable def J6(l:List Nat):List (_L.Key×U):=l.map λ(x:Nat)=>(pz (x:Int),U.bl true)
theorem AQ{S:Sto}{x:U}{l:List Nat}(h:wF S x=some (lA l))(hl:l.length<64):gY [x] S=some (.ref S.length,S++[.lst (aA (srt l))]):=by
 have ok:xG (lA l).length:=by unfold lA;rw[aE];exact hl
 simp only[gY,h,ax,ok,if_true,xI]
theorem A0{ρ:Rho}{S S1:Sto}{a:ME}{n:Nat}{l:List Nat}(ha:a ρ S=some (.ref n,S1))(hn:S1[n]? = some (Cell.lst (aA l)))(hl:l.length<64):mFn gY (aa a ag) ρ S=some (.ref S1.length,S1++[.lst (aA (srt l))]):=
 jt ha (AQ (by simp only[wF,gp,hn,dR,getL,ax,qq]) hl)
section
variable {m:Nat}{T:Nat->Nat->Nat}{t n:Nat}
end
end
end _W
end
section
namespace _W
open _L _G
section
open PySem in
open PySem in
open PySem in
inductive Pl:rJ->Prop where
 | non:Pl .none
 | bl (b:Bool):Pl (.bool b)
 | int (i:Int):i.natAbs<10 ^ 12->Pl (.int i)
 | lst (xs:List rJ):(∀x∈xs,Pl x)->Pl (.list xs)
 | tup (xs:List rJ):(∀x∈xs,Pl x)->Pl (.tuple xs)
open PySem in
open PySem in
open PySem in
open PySem in
theorem qC: ∀{xs:List PyData},(∀x∈xs,x.canLay0=true)->d8 xs=true
 | [],_=>by simp[d8]
 | x::xs,h=>by simp[d8,h x (by simp),qC (xs:=xs) λy hy=>h y (aw _ hy)]
open PySem in
theorem qN: ∀{xs:List PyData},(∀x∈xs,x.showable=true)->pB xs=true
 | [],_=>by simp[pB]
 | x::xs,h=>by simp[pB,h x (by simp),qN (xs:=xs) λy hy=>h y (aw _ hy)]
open PySem in
theorem oM: ∀{xs:List PyData},(∀x∈xs,x.intsShort 13=true)->oB 13 xs=true
 | [],_=>by simp[oB]
 | x::xs,h=>by simp[oB,h x (by simp),oM (xs:=xs) λy hy=>h y (aw _ hy)]
theorem Gz{i:Int}(h:i.natAbs<10 ^ 12):i.natAbs.log2<40:=by
 by_cases h0:i.natAbs=0
 ·rw[h0];decide
 ·rw[Nat.log2_lt h0]
  exact ai h (by decide)
open PySem in
theorem Pl.lay{d:PyData}(h:Pl d):d.canLay0=true/\d.showable=true/\d.intsShort 13=true:=by
 induction h with
 | non=>exact⟨by simp[df],by simp[jh],by simp[iK]⟩
 | bl b=>exact⟨by simp[df],by simp[jh],by simp[iK]⟩
 | int i hi=>exact⟨by simp[df],by simp only[jh,decide_eq_true_eq];exact dz (Gz hi) (by decide),by simp only[iK,decide_eq_true_eq];exact PyData.shown_int_le hi⟩
 | lst xs _ ih=>exact⟨by simp only[df];exact qC λx hx=>(ih x hx).1,by simp only[jh];exact qN λx hx=>(ih x hx).2.1,by simp only[iK];exact oM λx hx=>(ih x hx).2.2⟩
 | tup xs _ ih=>exact⟨by simp only[df];exact qC λx hx=>(ih x hx).1,by simp only[jh];exact qN λx hx=>(ih x hx).2.1,by simp only[iK];exact oM λx hx=>(ih x hx).2.2⟩
open PySem in
open PySem in
open PySem in
theorem Pl.ok{d:PyData}(h:Pl d)(hd:d.depth<=64)(hw:d.weight<=1048576):Bn d:=
 ⟨h.lay.2.1,PyData.shown_fits_of_layable0 (B:=13) (by decide) (by decide) (by unfold PyData.layable0;rw[h.lay.1];simp[hd,hw]) h.lay.2.2⟩
open PySem in
open PySem in
theorem Fy{f:MF}{ρ:Rho}{S S1 S2 S3:Sto}{a b c:ME}{x y z:U}{r:Res U}(ha:a ρ S=some (x,S1))(hb:b ρ S1=some (y,S2))(hc:c ρ S2=some (z,S3))(h:f [x,y,z] S3=r):mFn f (aa a (aa b (aa c ag))) ρ S=r:=by
 simp only[mFn,aa,ag,ha,hb,hc,aD,h]
end
end _W
end
section
namespace _W
open _L _G
section
theorem yS{c:MT}{b:MS}(P:Nat->Rho->Sto->Prop)(Q:Rho->Sto->Prop)
  (hc: ∀μ ρ S,P μ ρ S -> ∃k S1,c ρ S=some (k,S1)/\(k=false->Q ρ S1)/\(k=true -> ∃ρ' S' μ',μ'<μ/\b ρ S1=some (.nx,ρ',S')/\P μ' ρ' S')):
  ∀(f μ:Nat) (ρ:Rho) (S:Sto),μ<f->P μ ρ S -> ∃ρ' S',whl c b f ρ S=some (.nx,ρ',S')/\Q ρ' S'
 | 0,μ,ρ,S,h,_=>by omega
 | f+1,μ,ρ,S,h,hp=>by
   obtain⟨k,S1,e,q1,q2⟩:=hc μ ρ S hp
   unfold whl
   rw[e]
   simp only[aD]
   cases k with
   | false=>exact⟨ρ,S1,by simp,q1 rfl⟩
   | true=>
     obtain⟨ρ1,S2,μ1,hl,e1,p1⟩:=q2 rfl
     obtain⟨ρ2,S3,e2,q⟩:=yS P Q hc f μ1 ρ1 S2 (by omega) p1
     exact⟨ρ2,S3,by simp only[if_true,aft,e1,e2],q⟩
section
variable {S x:Sto}{c e c' e':Cell}
theorem h0:(S++[c,e]++x)[S.length]? = some c:=by rw[be,ar (ak _)];simp
theorem h1:(S++[c,e]++x)[S.length+1]? = some e:=by rw[be,ar (by exact bY _)];simp
theorem t1:(S++[c,e]++x).set (S.length+1) e'=S++[c,e']++x:=by
 rw[be,iP _ _ (by exact bY _),show S.length+1 - S.length=1 by omega,be];rfl
end
inductive Rch(T:Nat->Nat->Nat)(ths:List Nat):Nat->Prop where
 | zero:Rch T ths 0
 | step {x y:Nat}:Rch T ths x->y∈ths->Rch T ths (T x y)
structure Dfs(m:Nat)(T:Nat->Nat->Nat)(ths:List Nat)(ks:List Nat)(C:Nat->Prop):Prop where
 nd:ks.Nodup
 lt: ∀x∈ks,x<m
 z:0∈ks
 rc: ∀x∈ks,Rch T ths x
 cl: ∀x∈ks,C x \/ ∀y∈ths,T x y∈ks
section
variable {m:Nat}{T:Nat->Nat->Nat}{ths ks st:List Nat}
theorem Dfs.all(d:Dfs m T ths ks λ_=>False){x:Nat}:x∈ks↔Rch T ths x:=by
 refine⟨d.rc x,λh =>?_⟩
 induction h with
 | zero=>exact d.z
 | step _ hy ih=>exact((d.cl _ ih).resolve_left id) _ hy
theorem Dfs.len(d:Dfs m T ths ks C):ks.length<=m:=ni m ks d.nd d.lt
theorem Rch.mono{a b:List Nat}(h: ∀x∈a,x∈b){x:Nat}(r:Rch T a x):Rch T b x:=by
 induction r with
 | zero=>exact .zero
 | step _ hy ih=>exact .step ih (h _ hy)
noncomputable def tryD(T:Nat->Nat->Nat)(h y:Nat)(p:List Nat×List Nat):List Nat×List Nat:=if T h y∈p.1 then p else(p.1++[T h y],p.2++[T h y])
structure Inn(m:Nat)(T:Nat->Nat->Nat)(ths:List Nat)(h k:Nat)(p:List Nat×List Nat)(μ:Nat):Prop where
 d:Dfs m T ths p.1 λx=>x∈p.2\/x=h
 sub: ∀x∈p.2,x∈p.1
 hk:h∈p.1
 hh: ∀y∈ths.take k,T h y∈p.1
 ms:2*(m - p.1.length)+p.2.length<=μ
theorem Inn.try{h k μ y:Nat}{p:List Nat×List Nat}(g:Grp m T)(ht: ∀x∈ths,x<m)(n:Inn m T ths h k p μ)(hy:ths[k]? = some y):Inn m T ths h (k+1) (tryD T h y p) μ:=by
 have hym:y∈ths:=eg hy
 have htk:ths.take (k+1)=ths.take k++[y]:=by rw[List.take_add_one,hy];rfl
 unfold tryD
 split
 ·rename_i hin
  refine⟨n.d,n.sub,n.hk,λz hz =>?_,n.ms⟩
  rw[htk]at hz
  rcases bZ.mp hz with hz |hz
  ·exact n.hh z hz
  ·simp at hz;rw[hz];exact hin
 ·rename_i hin
  have nd:(p.1++[T h y]).Nodup:=by
   rw[iB]
   exact⟨n.d.nd,by simp,λa ha b hb=>by simp at hb;rintro rfl;exact hin (hb▸ha)⟩
  have hlt:T h y<m:=g.cl _ _ (n.d.lt h n.hk) (ht y hym)
  have lt: ∀x∈p.1++[T h y],x<m:=λx hx=>by
   rcases bZ.mp hx with hx |hx
   ·exact n.d.lt x hx
   ·simp at hx;omega
  refine⟨⟨nd,lt,bc _ n.d.z,λx hx =>?_,λx hx =>?_⟩,λx hx =>?_,bc _ n.hk,λz hz =>?_,?_⟩
  ·rcases bZ.mp hx with hx |hx
   ·exact n.d.rc x hx
   ·simp at hx;rw[hx];exact .step (n.d.rc h n.hk) hym
  ·rcases bZ.mp hx with hx |hx
   ·rcases n.d.cl x hx with (c |c) |c
    ·exact .inl (.inl (bc _ c))
    ·exact .inl (.inr c)
    ·exact .inr λy hy=>bc _ (c y hy)
   ·exact .inl (.inl (aL _ hx))
  ·rcases bZ.mp hx with hx |hx
   ·exact bc _ (n.sub x hx)
   ·exact aL _ hx
  ·rw[htk]at hz
   rcases bZ.mp hz with hz |hz
   ·exact bc _ (n.hh z hz)
   ·simp at hz;rw[hz];exact aL _ (by simp)
  ·have:=ni m _ nd lt
   have:=n.ms
   simp only[bg,dv,ft]at *
   omega
structure BZ(m:Nat)(T:Nat->Nat->Nat)(ths ks st:List Nat)(μ:Nat):Prop where
 d:Dfs m T ths ks λx=>x∈st
 sub: ∀x∈st,x∈ks
 ms:2*(m - ks.length)+st.length<=μ
theorem BZ.start(hm:0<m):BZ m T ths [0] [0] (2*m):=
 ⟨⟨by simp,by simpa using hm,by simp,λx hx=>by simp at hx;rw[hx];exact .zero,λx hx => .inl hx⟩,λx hx=>hx,by simp;omega⟩
theorem BZ.pop{h μ:Nat}(s:BZ m T ths ks (st++[h]) (μ+1)):Inn m T ths h 0 (ks,st) μ:=
 ⟨⟨s.d.nd,s.d.lt,s.d.z,s.d.rc,λx hx=>(s.d.cl x hx).imp (λc=>by simpa using c) id⟩,λx hx=>s.sub x (bc _ hx),s.sub h (by simp),by simp,by have:=s.ms;simp only[bg,dv,ft]at this;show 2*(m - ks.length)+st.length<=μ;exact dk (by assumption)⟩
theorem Inn.done{h μ:Nat}{p:List Nat×List Nat}(n:Inn m T ths h ths.length p μ):BZ m T ths p.1 p.2 μ:=
 ⟨⟨n.d.nd,n.d.lt,n.d.z,n.d.rc,λx hx=>by
  rcases n.d.cl x hx with (c |c) |c
  ·exact .inl c
  ·subst c;exact .inr λy hy=>n.hh y (by rw[List.take_length];exact hy)
  ·exact .inr c⟩,n.sub,n.ms⟩
end
end
end _W
end
section
namespace _W
open _L _G
section
noncomputable def two(S:Sto)(p:List Nat×List Nat)(x:Sto):Sto:=S++[.dic (J6 p.1),.lst (aA p.2)]++x
section
variable {m:Nat}{T:Nat->Nat->Nat}{ths:List Nat}{S x:Sto}{v:U}
noncomputable def Je:MT:=cOf (m2 oGt (mFn cg (aa (ae 3) ag)) (mC (.int 0)))
theorem EH{α:Type}: ∀{l:List α},l≠[] -> ∃a b,l=a++[b]
 | l,h=>⟨l.dropLast,l.getLast h,(List.dropLast_concat_getLast h).symm⟩
theorem yF{ρ:Rho}{S S1:Sto}{a:ME}{x:U}(ha:a ρ S=some (x,S1)):bU (aa a ag) ρ S=some (.ref S1.length,S1++[Cell.lst [x]]):=by
 have hq:1<=big:=by decide
 simp[bU,aa,ag,aD,ha,hq]
end
end
end _W
end
section
namespace _W
open _L _G
section
noncomputable def tups(ls:List (List Nat)):List U:=ls.map λl=>U.tup (aA l)
open PySem in
structure Sml(ls:List (List Nat)):Prop where
 len:ls.length<=64
 each: ∀l∈ls,l.length<=64
 lt: ∀l∈ls,∀x∈l,x<1000
open PySem in
open PySem in
open PySem in
theorem EF{l:List Nat}{x:Nat}:inV (.int x) (l.map λ(y:Nat)=>V.int y)=decide (x∈l):=by
 unfold inV
 rw[List.any_map]
 by_cases h:x∈l
 ·rw[decide_eq_true h,List.any_eq_true]
  exact⟨x,h,beq_self_eq_true (x:Int)⟩
 ·rw[decide_eq_false h,List.any_eq_false]
  intro y hy
  have q:y≠x:=λe=>h (e▸hy)
  show ¬(((y:Int)==(x:Int))=true)
  exact λz=>q (Int.ofNat.inj (eq_of_beq z))
theorem tj: ∀(l:List Nat),d5 fV (aA l)=some (l.map λ(y:Nat)=>V.int y)
 | []=>rfl
 | x::l=>by
   show(fV (.int x)).bind _=_
   simp only[fV,ax]
   have:=tj l
   unfold aA at this
   rw[this];rfl
noncomputable def sdF(r:Nat->List Nat):Nat->List (List Nat)×List Nat
 | 0=>([],[])
 | k+1=>if k∈(sdF r k).2 then sdF r k else((sdF r k).1++[srt (r k)],(sdF r k).2++r k)
section
variable {m:Nat}{T:Nat->Nat->Nat}{part:List Nat}{S:Sto}
end
end
end _W
end
section
namespace _W
open _L _G
section
theorem m9{t:MT}{e:ME}{ρ:Rho}{n:Nat}{S:Sto}{us:List U}{p:U->Bool}{f:U->U}(hu:getL S n=some us)(ht: ∀u∈us,t (ρ++[some u]) S=some (p u,S))(he: ∀u∈us,p u=true->e (ρ++[some u]) S=some (f u,S)):
  ∀(k i:Nat) (acc:List U),i<=us.length->us.length - i<k->jo t e ρ n k i acc S=some (acc++((us.drop i).filter p).map f,S)
 | 0,i,acc,h1,h2=>by omega
 | k+1,i,acc,h1,h2=>by
   unfold jo
   rw[hu]
   simp only[ax]
   by_cases hi:i<us.length
   ·have hd:us.drop i=us[i]::us.drop (i+1):=kF hi
    have hm:us[i]∈us:=mK hi
    rw[bG hi]
    simp only
    rw[ht _ hm]
    simp only[aD]
    rw[hd]
    cases hp:p us[i] with
    | true=>
      rw[if_pos rfl,he _ hm hp]
      simp only[aD]
      rw[m9 hu ht he k (i+1) _ (by assumption) (by omega),Aw hp]
      simp
    | false=>
      rw[if_neg bE,m9 hu ht he k (i+1) _ (by assumption) (by omega),Ax (by rw[hp];decide)]
   ·rw[CQ (by exact bS (by assumption)),AE (by exact bS (by assumption))]
    simp
theorem zr{t:MT}{e a:ME}{ρ:Rho}{n:Nat}{S S1:Sto}{us:List U}{p:U->Bool}{f:U->U}(ha:a ρ S=some (.ref n,S1))(hu:S1[n]? = some (Cell.lst us))(hl:us.length<1000)(ht: ∀u∈us,t (ρ++[some u]) S1=some (p u,S1))(he: ∀u∈us,p u=true->e (ρ++[some u]) S1=some (f u,S1)):
  dg (eK a) t e ρ S=some (.ref S1.length,S1++[.lst ((us.filter p).map f)]):=by
 have hg:getL S1 n=some us:=by unfold getL;rw[hu]
 have hi:eK a ρ S=some (.mut n,S1):=by simp only[eK,ha,aD,hg,bx]
 have e1:=m9 hg ht he fuel 0 [] (en _) (by unfold fuel;exact ai (by assumption) (by decide))
 rw[List.drop_zero,dG]at e1
 simp only[dg,hi,aD,v5,e1]
 refine if_pos ?_
 have:=iQ p us
 rw[aE];unfold big;exact aK (by assumption) (ai (by assumption) (by decide))
theorem nu{t:MT}{e:ME}{ρ:Rho}{S:Sto}{p:U->Bool}{f:U->U}: ∀(us acc:List U),(∀u∈us,t (ρ++[some u]) S=some (p u,S))->(∀u∈us,p u=true->e (ρ++[some u]) S=some (f u,S)) ->
  fA t e ρ us acc S=some (acc++(us.filter p).map f,S)
 | [],acc,_,_=>by simp[fA]
 | u::us,acc,ht,he=>by
   unfold fA
   rw[ht u (by simp)]
   simp only[aD]
   cases hp:p u with
   | true=>
     rw[if_pos rfl,he u (by simp) hp]
     simp only[aD]
     rw[nu us _ (λv hv=>ht v (aw _ hv)) (λv hv=>he v (aw _ hv)),Aw hp]
     simp
   | false=>
     rw[if_neg bE,nu us _ (λv hv=>ht v (aw _ hv)) (λv hv=>he v (aw _ hv)),Ax (by rw[hp];decide)]
theorem sy{t:MT}{e a:ME}{ρ:Rho}{S S1:Sto}{us:List U}{p:U->Bool}{f:U->U}(ha:a ρ S=some (.tup us,S1))(hl:us.length<big)(ht: ∀u∈us,t (ρ++[some u]) S1=some (p u,S1))(he: ∀u∈us,p u=true->e (ρ++[some u]) S1=some (f u,S1)):
  dg (eK a) t e ρ S=some (.ref S1.length,S1++[.lst ((us.filter p).map f)]):=by
 have hi:eK a ρ S=some (.imm us,S1):=by simp only[eK,ha,aD]
 have e1:=nu us [] ht he
 rw[dG]at e1
 refine qg hi e1 ?_
 have:=iQ p us
 rw[aE];exact aK (by assumption) (by assumption)
theorem vO{t:MT}{e a:ME}{ρ:Rho}{S S1:Sto}{us:List U}{p:U->Bool}{f:U->U}(ha:a ρ S=some (.tup us,S1))(hl:us.length<1000)(ht: ∀u∈us,t (ρ++[some u]) S1=some (p u,S1))(he: ∀u∈us,p u=true->e (ρ++[some u]) S1=some (f u,S1)):
  dg (eK a) t e ρ S=some (.ref S1.length,S1++[.lst ((us.filter p).map f)]):=
 sy ha (by unfold big;exact ai (by assumption) (by decide)) ht he
theorem xj{t:MT}{e a:ME}{ρ:Rho}{S S1:Sto}{l:List Nat}{p:Nat->Bool}{f:Nat->U}(ha:a ρ S=some (.tup (aA l),S1))(hl:l.length<big)(ht: ∀x∈l,t (ρ++[some (.int x)]) S1=some (p x,S1))(he: ∀x∈l,p x=true->e (ρ++[some (.int x)]) S1=some (f x,S1)):
  dg (eK a) t e ρ S=some (.ref S1.length,S1++[.lst ((l.filter p).map f)]):=by
 have nat: ∀u∈aA l,∃x∈l,u = .int (x:Nat):=λu hu=>by
  obtain⟨x,hx,rfl⟩:=bB.mp hu;exact⟨x,hx,rfl⟩
 let g:U->Nat:=λu=>match u with | .int i=>i.toNat |_=>0
 have gx: ∀x:Nat,g (.int x)=x:=λx=>by simp[g]
 have h:=sy (t:=t) (e:=e) (p:=λu=>p (g u)) (f:=λu=>f (g u)) ha (by rw[dN];exact hl) (λu hu=>by
  obtain⟨x,hx,rfl⟩:=nat u hu
  rw[gx];exact ht x hx) (λu hu hp=>by
  obtain⟨x,hx,rfl⟩:=nat u hu
  rw[gx]at hp ⊢;exact he x hx hp)
 rw[h]
 have:((aA l).filter λu=>p (g u)).map (λu=>f (g u))=(l.filter p).map f:=by
  unfold aA
  rw[List.filter_map,cX]
  have e1:(λu=>p (g u))∘(λ(x:Nat)=>U.int x)=p:=by funext x;simp[gx]
  have e2:(λu=>f (g u))∘(λ(x:Nat)=>U.int x)=f:=by funext x;simp[gx]
  rw[e1,e2]
 rw[this]
theorem sX{t:MT}{e a:ME}{ρ:Rho}{S S1:Sto}{l:List Nat}{p:Nat->Bool}{f:Nat->U}(ha:a ρ S=some (.tup (aA l),S1))(hl:l.length<1000)(ht: ∀x∈l,t (ρ++[some (.int x)]) S1=some (p x,S1))(he: ∀x∈l,p x=true->e (ρ++[some (.int x)]) S1=some (f x,S1)):
  dg (eK a) t e ρ S=some (.ref S1.length,S1++[.lst ((l.filter p).map f)]):=
 xj ha (by unfold big;exact ai (by assumption) (by decide)) ht he
theorem KR{ρ:Rho}{S S1 S2:Sto}{a b:ME}{x:Nat}{l:List Nat}(ha:a ρ S=some (.int x,S1))(hb:b ρ S1=some (.tup (aA l),S2)):cOf (m2 oIn a b) ρ S=some (decide (x∈l),S2):=by
 refine of_eq (op2 ha hb ?_)
 simp only[oIn,gp,fV,ax,dR,tj,bx,EF]
theorem GG{ρ:Rho}{S S1 S2:Sto}{a b:ME}{x y:U}(ha:a ρ S=some (x,S1))(hb:b ρ S1=some (y,S2)):jI (aa a (aa b ag)) ρ S=some (.tup [x,y],S2):=by
 have hb2:2<=big:=by decide
 simp[jI,aa,ag,ha,hb,aD,hb2]
theorem xV{m:Nat}{T:Nat->Nat->Nat}{S:Sto}(g:Grp m T){i:Nat}(hi:i<m):_G.run 2 2 (cK (mMT gE (m2 oIx (ae 0) (ae 1)) (aa (mC (.int 0)) ag))) [tab m T,.int i] S=some (.int (unT m T i),S):=by
 have h0:=FV g hi
 have e:=rm (ρ:= [some (tab m T),some (.int i)]) (S:=S) (a:=ae 0) (b:=ae 1) hi (var_eq rfl) (var_eq rfl)
 rw[BL]at e
 exact cZ (ρ:= [some (tab m T),some (.int i)]) rfl (dc (wI (x:=0) e c_i h0))
section
variable {m:Nat}{T:Nat->Nat->Nat}{st left:List Nat}{S:Sto}
noncomputable def goM:MS:=bo (bV 4 (dg (eK (ae 1)) cTT (jI (aa (ae 5) (aa (m2 oIx (m2 oIx (ae 0) (ae 2)) (ae 5)) ag))))) (cK (dg (eK (ae 4)) (cOf (m2 oIn (m2 oIx (ae 5) (mC (.int 1))) (ae 3))) (ae 5)))
noncomputable def prU(T:Nat->Nat->Nat)(h s:Nat):U:= .tup [.int s,.int (T h s:Nat)]
noncomputable def gos(T:Nat->Nat->Nat)(st:List Nat)(h:Nat)(left:List Nat):List Nat:=st.filter λs=>decide (T h s∈left)
theorem xN{h:Nat}(hh:h<m)(hs: ∀s∈st,s<m)(hl:st.length<1000): ∃r S',_G.run 4 5 goM [tab m T,.tup (aA st),.int h,.tup (aA left)] S=some (.ref r,S')/\Ex S S'/\S.length<=r/\S'[r]? = some (.lst ((gos T st h left).map (prU T h))):=by
 have e1:=sX (t:=cTT) (e:=jI (aa (ae 5) (aa (m2 oIx (m2 oIx (ae 0) (ae 2)) (ae 5)) ag))) (ρ:= [some (tab m T),some (.tup (aA st)),some (.int h),some (.tup (aA left)),none]) (S:=S) (a:=ae 1) (l:=st) (p:=λ_=>true) (f:=prU T h) (var_eq rfl) hl (λx _=>rfl) (λx hx _=>GG (var_eq rfl) (uI (T:=T) (i:=h) (j:=x) (hs x hx) (rm hh (var_eq rfl) (var_eq rfl)) (var_eq rfl)))
 rw[List.filter_eq_self.mpr (λ_ _=>rfl)]at e1
 have e2:=zr (t:=cOf (m2 oIn (m2 oIx (ae 5) (mC (.int 1))) (ae 3))) (e:=ae 5) (ρ:= [some (tab m T),some (.tup (aA st)),some (.int h),some (.tup (aA left)),some (.ref S.length)]) (S:=S++[.lst (st.map (prU T h))]) (a:=ae 4) (us:=st.map (prU T h)) (p:=λu=>match u with | .tup [_,.int i]=>decide (i.toNat∈left) |_=>false) (f:=λu=>u) (var_eq rfl) (fQ _ _) (by rw[aE];exact hl) (by
  intro u hu
  obtain⟨s,hs,rfl⟩:=bB.mp hu
  have:m2 oIx (ae 5) (mC (.int 1)) ([some (tab m T),some (.tup (aA st)),some (.int h),some (.tup (aA left)),some (.ref S.length)]++[some (prU T h s)]) (S++[.lst (st.map (prU T h))])=some (.int (T h s:Nat),S++[.lst (st.map (prU T h))]):=Iu (us:= [.int s,.int (T h s:Nat)]) (var_eq rfl) c_i rfl
  rw[KR this (var_eq rfl)]
  simp[prU]) (by
  intro u hu _
  obtain⟨s,hs,rfl⟩:=bB.mp hu
  exact var_eq rfl)
 refine⟨_,_,cZ (ρ:= [some (tab m T),some (.tup (aA st)),some (.int h),some (.tup (aA left)),some (.ref S.length)]) rfl (show goM [some (tab m T),some (.tup (aA st)),some (.int h),some (.tup (aA left)),none] S=_ from(bp (cz e1)).trans (dc e2)),⟨_,by rw[be]⟩,by simp,?_⟩
 rw[fQ]
 congr 2
 unfold gos
 rw[List.map_id',List.filter_map]
 congr 1
theorem zS{h:Nat}(hh:h<m)(hs: ∀s∈st,s<m)(hl:st.length<1000): ∃r S',_G.run 4 5 goM [tab m T,.tup (aA st),.int h,.tup (aA left)] S=some (.ref r,S')/\Ex S S'/\S'[r]? = some (.lst ((gos T st h left).map (prU T h))):=let ⟨r,S',a,b,_,c⟩:=xN (left:=left) (S:=S) hh hs hl;⟨r,S',a,b,c⟩
noncomputable def abM:MS:=cK (mFn cD (aa (dg (eK (ae 0)) (cOf (m2 oNe (ae 2) (ae 1))) (ae 2)) ag))
theorem Ae{x:Nat}(hl:left.length<1000): ∃S',_G.run 2 2 abM [.tup (aA left),.int x] S=some (.tup (aA (left.filter λy => !decide (y=x))),S')/\Ex S S':=by
 have e1:=sX (t:=cOf (m2 oNe (ae 2) (ae 1))) (e:=ae 2) (ρ:= [some (.tup (aA left)),some (.int x)]) (S:=S) (a:=ae 0) (l:=left) (p:=λy => !decide (y=x)) (f:=λy => .int y) (var_eq rfl) hl (λy _=>of_eq (LJ (var_eq rfl) (var_eq rfl))) (λy _ _=>var_eq rfl)
 exact⟨_,cZ (ρ:= [some (.tup (aA left)),some (.int x)]) rfl (dc (i8 e1)),Ex.push _ _⟩
noncomputable def L0:MS:=cK (qL (iR2 (aa (mC (.int 1)) (aa (mFn cg (aa (ae 0) ag)) ag))))
theorem yr(hm:0<m)(hm2:m<1000):_G.run 1 1 L0 [tab m T] S=some (.tup (aA (bj 1 (m - 1))),S):=by
 refine cZ (ρ:= [some (tab m T)]) rfl (dc ?_)
 have e1:=DO (ρ:= [some (tab m T)]) (S:=S) (a:=mC (.int 1)) (b:=mFn cg (aa (ae 0) ag)) (i:=1) (j:=m) c_i (len_tab (var_eq rfl)) (by decide) (by unfold big;exact ai (by assumption) (by decide))
 have e2:bh (1:Nat) (m - 1)=aA (bj 1 (m - 1)):=by
  unfold bh aA
  rw[zp,cX]
  apply aY
  intro k _
  simp
 rw[e2]at e1
 have hz:(aA (bj 1 (m - 1))).length<=big:=by rw[dN,ki];unfold big;omega
 show qL (iR2 (aa (mC (.int 1)) (aa (mFn cg (aa (ae 0) ag)) ag))) [some (tab m T)] S=_
 simp only[qL,e1,aD,hz,if_true]
noncomputable def rmM:MS:=sIf (cOf (m2 oGt (mFn cg (aa (ae 0) ag)) (ae 1))) sNo cN
theorem Hr{k n:Nat}{b:MS}{us:List U}{S S1:Sto}{ρ:Rho}(hl:us.length=k)(h:b (us.map some++aq (n - k) none) S=some (.nx,ρ,S1)):_G.run k n b us S=some (.non,S1):=by
 unfold _G.run
 rw[if_pos hl,h]
theorem tq{k:Nat}(h:m<=k):_G.run 2 2 rmM [tab m T,.int (k:Nat)] S=some (.non,S):=by
 refine Hr (ρ:= [some (tab m T),some (.int (k:Nat))]) rfl ?_
 have ec:cOf (m2 oGt (mFn cg (aa (ae 0) ag)) (ae 1)) [some (tab m T),some (.int (k:Nat))] S=some (decide ((k:Int)<m),S):=of_eq (xu (len_tab (var_eq rfl)) (var_eq rfl))
 rw[decide_eq_false (by omega)]at ec
 exact kH ec
noncomputable def leF(T:Nat->Nat->Nat)(st:List Nat)(last:Nat->Option (List Nat)):Nat->Nat->List Nat->Option (List Nat)
 | 0,h,_=>last h
 | k+1,h,left=>(gos T st h left).findSome? λs=>(leF T st last k (T h s) (left.filter λy => !decide (y=T h s))).map λw=>s::w
noncomputable def zO:Option (List Nat)->U
 | none => .non
 | some l => .tup (aA l)
noncomputable def zU(ψ:MF):MS:=bo (bV 7 (mFn ψ (aa (ae 0) (aa (ae 1) (aa (ae 6) (aa (mFn (_G.run 2 2 abM) (aa (ae 3) (aa (ae 6) ag))) (aa (ae 4) ag))))))) (sIf (cOf (m2 m6 (ae 7) (mC .non))) (cK (m2 cU (jI (aa (ae 5) ag)) (ae 7))) cN)
noncomputable def leM(g:cm)(φ:MF)(ψ:MF):MS:=bo (sIf (cOf (m2 oEq (mFn cg (aa (ae 3) ag)) (mC (.int 0)))) (cK (AN 4 g φ (aa (ae 0) (aa (ae 1) (aa (ae 2) ag))))) cN) (bo (tu (gTp 2 (iD (gN 5) (iD (gN 6) sN))) (eK (mFn (_G.run 4 5 goM) (aa (ae 0) (aa (ae 1) (aa (ae 2) (aa (ae 3) ag)))))) (zU ψ)) (cK (mC .non)))
theorem BE{f:MF}{ρ:Rho}{S S1 S2 S3 S4 S5:Sto}{a b c d e:ME}{x y z v w:U}{r:Res U}(ha:a ρ S=some (x,S1))(hb:b ρ S1=some (y,S2))(hc:c ρ S2=some (z,S3))(hd:d ρ S3=some (v,S4))(he:e ρ S4=some (w,S5))(h:f [x,y,z,v,w] S5=r):mFn f (aa a (aa b (aa c (aa d (aa e ag))))) ρ S=r:=by
 simp only[mFn,aa,ag,ha,hb,hc,hd,he,aD,h]
theorem KE{f:MF}{ρ:Rho}{S S1 S2 S3 S4:Sto}{a b c d:ME}{x y z v:U}{r:Res U}(ha:a ρ S=some (x,S1))(hb:b ρ S1=some (y,S2))(hc:c ρ S2=some (z,S3))(hd:d ρ S3=some (v,S4))(h:f [x,y,z,v] S4=r):mFn f (aa a (aa b (aa c (aa d ag)))) ρ S=r:=by
 simp only[mFn,aa,ag,ha,hb,hc,hd,aD,h]
theorem HB{ρ:Rho}{S S1 S2:Sto}{a b:ME}{x y:List Nat}(ha:a ρ S=some (.tup (aA x),S1))(hb:b ρ S1=some (.tup (aA y),S2))(hl:x.length+y.length<=big):m2 cU a b ρ S=some (.tup (aA (x++y)),S2):=by
 refine op2 ha hb ?_
 simp only[cU]
 rw[if_pos (by rw[dN,dN];exact hl)]
 simp[aA]
theorem K5{ρ:Rho}{S S1 S2:Sto}{a b:ME}{x y:List Nat}(ha:a ρ S=some (.tup (aA x),S1))(hb:b ρ S1=some (.tup (aA y),S2))(hl:x.length+y.length<1000):m2 cU a b ρ S=some (.tup (aA (x++y)),S2):=
 HB ha hb (by unfold big;omega)
theorem Cq{x:Nat}(nd:left.Nodup)(h:x∈left):(left.filter λy => !decide (y=x)).length+1=left.length:=by
 have e:(left.filter λy => !decide (y=x))=left.erase x:=by
  rw[List.Nodup.erase_eq_filter nd]
  apply List.filter_congr
  intro y _
  by_cases z:y=x <;> simp[z]
 rw[e,List.length_erase_of_mem h]
 have:=List.length_pos_of_mem h
 omega
theorem yQ{last:Nat->Option (List Nat)}{B:Nat}(hB: ∀h w,last h=some w->w.length<=B): ∀(k h:Nat) (left w:List Nat),leF T st last k h left=some w->w.length<=k+B
 | 0,h,left,w,e=>by have:=hB h w e;omega
 | k+1,h,left,w,e=>by
   unfold leF at e
   obtain⟨s,_,e⟩:=List.exists_of_findSome?_eq_some e
   cases q:leF T st last k (T h s) (left.filter λy => !decide (y=T h s)) with
   | none=>rw[q]at e;cases e
   | some v=>
     rw[q]at e;cases e
     have:=yQ hB k _ _ _ q
     simp only[dv];omega
theorem FJ{last:Nat->Option (List Nat)}{g:cm}{φ:MF}(gr:Grp m T)(hs: ∀s∈st,s<m)(hsl:st.length<1000)(hm:m<500)(hB: ∀h w,last h=some w->w.length<=1)
  (hφ: ∀h (S:Sto),h<m->φ [tab m T,.tup (aA st),.int (h:Nat)] S=some (zO (last h),S)): ∀(k n h:Nat) (left:List Nat) (S:Sto),k<n->left.length=k->left.Nodup->(∀x∈left,x<m)->h<m ->
  ∃S',pE 5 8 (leM g φ) n [tab m T,.tup (aA st),.int (h:Nat),.tup (aA left),.obj g] S=some (zO (leF T st last k h left),S')/\Ex S S':=by
 intro k
 induction k with
 | zero=>
   intro n h left S hn hl nd hlt hh
   obtain⟨n,rfl⟩ : ∃j,n=j+1:=⟨n - 1,by omega⟩
   have h0:left = []:=List.length_eq_zero_iff.mp hl
   subst h0
   refine⟨S,cZ (ρ:= [some (tab m T),some (.tup (aA st)),some (.int (h:Nat)),some (.tup (aA [])),some (.obj g),none,none,none]) rfl ?_,Ex.refl _⟩
   have ec:cOf (m2 oEq (mFn cg (aa (ae 3) ag)) (mC (.int 0))) [some (tab m T),some (.tup (aA st)),some (.int (h:Nat)),some (.tup (aA [])),some (.obj g),none,none,none] S=some (true,S):=of_eq (JI (x:=0) (y:=0) (BI (us:= []) (var_eq rfl)) c_i)
   refine BW ((sf ec).trans (dc ?_))
   show(if g=g then mFn φ (aa (ae 0) (aa (ae 1) (aa (ae 2) ag))) _ _ else none)=_
   rw[if_pos rfl]
   exact Fy (var_eq rfl) (var_eq rfl) (var_eq rfl) (hφ h S hh)
 | succ k ih=>
   intro n h left S hn hl nd hlt hh
   obtain⟨n,rfl⟩ : ∃j,n=j+1:=⟨n - 1,by omega⟩
   have hb:=ni m left nd hlt
   have ec:cOf (m2 oEq (mFn cg (aa (ae 3) ag)) (mC (.int 0))) [some (tab m T),some (.tup (aA st)),some (.int (h:Nat)),some (.tup (aA left)),some (.obj g),none,none,none] S=some (false,S):=by
    have:=of_eq (JI (ρ:= [some (tab m T),some (.tup (aA st)),some (.int (h:Nat)),some (.tup (aA left)),some (.obj g),none,none,none]) (S:=S) (a:=mFn cg (aa (ae 3) ag)) (b:=mC (.int 0)) (x:=(aA left).length) (y:=0) (BI (var_eq rfl)) c_i)
    rw[this,decide_eq_false (by rw[dN];omega)]
   obtain⟨r,S1,e1,x1,hr⟩:=zS (T:=T) (st:=st) (left:=left) (S:=S) hh hs hsl
   have hgl:(gos T st h left).length<1000:=aK (iQ _ _) hsl
   have loop: ∀(f i:Nat) (a b c:Option U) (S2:Sto),i<=(gos T st h left).length->(gos T st h left).length - i<f->Ex S1 S2 ->
     ∃ρ' S3,Ex S1 S3/\o9 (gTp 2 (iD (gN 5) (iD (gN 6) sN))) (zU (pE 5 8 (leM g φ) n)) r f i [some (tab m T),some (.tup (aA st)),some (.int (h:Nat)),some (.tup (aA left)),some (.obj g),a,b,c] S2 =
      some (match ((gos T st h left).drop i).findSome? λs=>(leF T st last k (T h s) (left.filter λy => !decide (y=T h s))).map λw=>s::w with
       | none => .nx
       | some w => .rt (.tup (aA w)),ρ',S3):=by
    intro f
    induction f with
    | zero=>intro i a b c S2 h1 h2;omega
    | succ f ihf=>
      intro i a b c S2 h1 h2 x2
      unfold o9
      have hg:getL S2 r=some ((gos T st h left).map (prU T h)):=by unfold getL;rw[x2.some hr]
      rw[hg]
      simp only[ax]
      by_cases hi:i<(gos T st h left).length
      ·rw[cw,bG hi,kF hi]
       have hsm:(gos T st h left)[i]∈gos T st h left:=mK hi
       generalize (gos T st h left)[i]=s at hsm
       obtain⟨hs1,hs2⟩:=fj.mp hsm
       have hs2:T h s∈left:=of_decide_eq_true hs2
       have hsT:T h s<m:=gr.cl h s hh (hs s hs1)
       obtain⟨S4,e4,x4⟩:=Ae (left:=left) (x:=T h s) (S:=S2) (by exact aK (by assumption) (ai (by assumption) (by decide)))
       obtain⟨S5,e5,x5⟩:=ih n (T h s) (left.filter λy => !decide (y=T h s)) S4 (by exact dk (by assumption)) (by have:=Cq nd hs2;omega) (nd.filter _) (λx hx=>hlt x (fj.mp hx).1) hsT
       have e6:bV 7 (mFn (pE 5 8 (leM g φ) n) (aa (ae 0) (aa (ae 1) (aa (ae 6) (aa (mFn (_G.run 2 2 abM) (aa (ae 3) (aa (ae 6) ag))) (aa (ae 4) ag)))))) [some (tab m T),some (.tup (aA st)),some (.int (h:Nat)),some (.tup (aA left)),some (.obj g),some (.int s),some (.int (T h s:Nat)),c] S2=_:=cz (BE (var_eq rfl) (var_eq rfl) (var_eq rfl) (dy (var_eq rfl) (var_eq rfl) e4) (var_eq rfl) e5)
       simp only[bx,ax]
       show ∃ρ' S3,Ex S1 S3/\aft (zU (pE 5 8 (leM g φ) n) [some (tab m T),some (.tup (aA st)),some (.int (h:Nat)),some (.tup (aA left)),some (.obj g),some (.int s),some (.int (T h s:Nat)),c] S2) _=_
       cases q:leF T st last k (T h s) (left.filter λy => !decide (y=T h s)) with
       | none=>
         rw[q]at e6
         have ei:zU (pE 5 8 (leM g φ) n) [some (tab m T),some (.tup (aA st)),some (.int (h:Nat)),some (.tup (aA left)),some (.obj g),some (.int s),some (.int (T h s:Nat)),c] S2=some (.nx,[some (tab m T),some (.tup (aA st)),some (.int (h:Nat)),some (.tup (aA left)),some (.obj g),some (.int s),some (.int (T h s:Nat)),some .non],S5):=(bp e6).trans ((kH (of_eq (op2 (f:=m6) (var_eq rfl) rfl rfl))).trans rfl)
         rw[ei]
         obtain⟨ρ',S3,x3,e3⟩:=ihf (i+1) (some (.int s)) (some (.int (T h s:Nat))) (some .non) S5 (by assumption) (by omega) ((x2.trans x4).trans x5)
         refine⟨ρ',S3,x3,?_⟩
         simp only[aft]
         rw[e3]
         simp only[List.findSome?_cons,q,Option.map_none]
       | some w=>
         rw[q]at e6
         have hw:=yQ hB k _ _ _ q
         have ei:zU (pE 5 8 (leM g φ) n) [some (tab m T),some (.tup (aA st)),some (.int (h:Nat)),some (.tup (aA left)),some (.obj g),some (.int s),some (.int (T h s:Nat)),c] S2=some (.rt (.tup (aA (s::w))),[some (tab m T),some (.tup (aA st)),some (.int (h:Nat)),some (.tup (aA left)),some (.obj g),some (.int s),some (.int (T h s:Nat)),some (.tup (aA w))],S5):=(bp e6).trans ((sf (of_eq (op2 (f:=m6) (var_eq rfl) rfl rfl))).trans (dc (K5 (x:= [s]) (y:=w) (KG (var_eq rfl)) (var_eq rfl) (by simp;omega))))
         rw[ei]
         refine⟨[some (tab m T),some (.tup (aA st)),some (.int (h:Nat)),some (.tup (aA left)),some (.obj g),some (.int s),some (.int (T h s:Nat)),some (.tup (aA w))],S5,(x2.trans x4).trans x5,?_⟩
         simp only[aft,List.findSome?_cons,q,bx]
      ·rw[CQ (by rw[aE];exact bS (by assumption)),AE (by exact bS (by assumption))]
       exact⟨[some (tab m T),some (.tup (aA st)),some (.int (h:Nat)),some (.tup (aA left)),some (.obj g),a,b,c],S2,x2,by simp⟩
   obtain⟨ρ',S3,x3,e3⟩:=loop fuel 0 none none none S1 (en _) (by unfold fuel;exact ai (by assumption) (by decide)) (Ex.refl _)
   rw[List.drop_zero]at e3
   have ef:tu (gTp 2 (iD (gN 5) (iD (gN 6) sN))) (eK (mFn (_G.run 4 5 goM) (aa (ae 0) (aa (ae 1) (aa (ae 2) (aa (ae 3) ag)))))) (zU (pE 5 8 (leM g φ) n)) [some (tab m T),some (.tup (aA st)),some (.int (h:Nat)),some (.tup (aA left)),some (.obj g),none,none,none] S=some (match (gos T st h left).findSome? λs=>(leF T st last k (T h s) (left.filter λy => !decide (y=T h s))).map λw=>s::w with
       | none => .nx
       | some w => .rt (.tup (aA w)),ρ',S3):=by
    show bnd (eK _ _ _) _=_
    have hg:getL S1 r=some ((gos T st h left).map (prU T h)):=by unfold getL;rw[hr]
    rw[show eK (mFn (_G.run 4 5 goM) (aa (ae 0) (aa (ae 1) (aa (ae 2) (aa (ae 3) ag))))) [some (tab m T),some (.tup (aA st)),some (.int (h:Nat)),some (.tup (aA left)),some (.obj g),none,none,none] S=some (.mut r,S1) by
     simp only[eK,KE (f:=_G.run 4 5 goM) (ρ:= [some (tab m T),some (.tup (aA st)),some (.int (h:Nat)),some (.tup (aA left)),some (.obj g),none,none,none]) (a:=ae 0) (b:=ae 1) (c:=ae 2) (d:=ae 3) (var_eq rfl) (var_eq rfl) (var_eq rfl) (var_eq rfl) e1,aD,hg,bx]]
    simp only[aD,Fc]
    exact e3
   refine⟨S3,?_,x1.trans x3⟩
   show pE 5 8 (leM g φ) (n+1) _ S=some (zO (List.findSome? _ _),S3)
   cases q:(gos T st h left).findSome? λs=>(leF T st last k (T h s) (left.filter λy => !decide (y=T h s))).map λw=>s::w with
   | none=>
     rw[q]at ef
     exact cZ (ρ:=ρ') rfl ((bp (kH ec)).trans ((bp ef).trans (dc rfl)))
   | some w=>
     rw[q]at ef
     exact cZ (ρ:=ρ') rfl ((bp (kH ec)).trans (BW ef))
end
end
end _W
end
section
namespace _W
open _L _G
section
abbrev Nod:=List Nat×List Nat
noncomputable def wb(th:List Nat):Nat:=(th.getLast?).getD 0
theorem x9{l:List Nat}{x:Nat}:wb (l++[x])=x:=by simp[wb]
theorem Be{m:Nat}{th:List Nat}(h:th≠[])(hl: ∀x∈th,x<m):wb th<m:=by
 obtain⟨l,x,rfl⟩:=EH h
 rw[x9];exact hl x (by simp)
noncomputable def kids(T:Nat->Nat->Nat)(st:List Nat)(p:Nod):List Nod:=(st.filter λs => !decide (T (wb p.2) s∈p.2)).map λs=>(p.1++[s],p.2++[T (wb p.2) s])
noncomputable def AK(T:Nat->Nat->Nat)(st:List Nat)(L:Nod->List (List Nat)):Nat->Nod->List (List Nat)
 | 0,p=>L p
 | k+1,p=>(kids T st p).flatMap (AK T st L k)
section
variable {m:Nat}{T:Nat->Nat->Nat}{st:List Nat}{S x:Sto}{F:List (List Nat)}{ln:List Nod}{ρ:Rho}
end
noncomputable def oi(b:Nat):Nat->Nat
 | 0=>1
 | k+1=>1+b*oi b k
noncomputable def msr(b m:Nat)(ln:List Nod):Nat:=(ln.map λp=>oi b (m - 1 - p.1.length)).sum
noncomputable def rest(T:Nat->Nat->Nat)(st:List Nat)(L:Nod->List (List Nat))(m:Nat)(ln:List Nod):List (List Nat):=ln.reverse.flatMap λp=>AK T st L (m - 1 - p.1.length) p
structure Nd(m:Nat)(p:Nod):Prop where
 le:p.1.length<=m - 1
 len:p.2.length=p.1.length+1
 lt: ∀x∈p.2,x<m
section
variable {m:Nat}{T:Nat->Nat->Nat}{st:List Nat}{L:Nod->List (List Nat)}{ln:List Nod}{p:Nod}
theorem EL{b:Nat}{a c:List Nod}:msr b m (a++c)=msr b m a+msr b m c:=by simp[msr]
theorem uL(g:Grp m T)(hs: ∀s∈st,s<m)(n:Nd m p)(h:p.1.length<m - 1){q:Nod}(hq:q∈kids T st p):Nd m q/\q.1.length=p.1.length+1:=by
 obtain⟨s,hs1,rfl⟩:=bB.mp hq
 have hsm:=(fj.mp hs1).1
 have hne:p.2≠[]:=by intro z;have:=n.len;rw[z]at this;simp at this
 refine⟨⟨by simp;assumption,by simp[n.len],λx hx =>?_⟩,by simp⟩
 rcases bZ.mp hx with hx |hx
 ·exact n.lt x hx
 ·simp at hx;rw[hx];exact g.cl _ _ (Be hne n.lt) (hs s hsm)
theorem Bt(g:Grp m T)(hs: ∀s∈st,s<m)(n:Nd m p)(h:p.1.length<m - 1):msr st.length m (kids T st p).reverse+1<=msr st.length m [p]:=by
 have hk:(kids T st p).length<=st.length:=by unfold kids;rw[aE];exact iQ _ _
 have e1: ∀q∈(kids T st p).reverse,oi st.length (m - 1 - q.1.length)=oi st.length (m - 1 - p.1.length - 1):=λq hq=>by
  rw[(uL g hs n h (dw.mp hq)).2];congr 1
 have e2:msr st.length m (kids T st p).reverse=(kids T st p).length*oi st.length (m - 1 - p.1.length - 1):=by
  unfold msr
  rw[aY e1,List.map_const',List.sum_replicate_nat,List.length_reverse]
 obtain⟨k,hk2⟩ : ∃k,m - 1 - p.1.length=k+1:=⟨m - 1 - p.1.length - 1,by omega⟩
 rw[e2]
 simp only[msr,bD,mT,List.sum_cons,List.sum_nil,nz]
 rw[hk2,Nat.add_sub_cancel,oi]
 have:=fY (oi st.length k) hk
 omega
theorem xo(h:p.1.length<m - 1)(hk: ∀q∈kids T st p,q.1.length=p.1.length+1):rest T st L m (ln++(kids T st p).reverse)=rest T st L m (ln++[p]):=by
 unfold rest
 rw[pC,List.reverse_reverse,pC,gh,gh]
 congr 1
 obtain⟨k,hk2⟩ : ∃k,m - 1 - p.1.length=k+1:=⟨m - 1 - p.1.length - 1,by omega⟩
 simp only[kM,List.reverse_nil,dG,List.flatMap_cons,List.flatMap_nil,cW]
 rw[hk2,AK]
 rw[List.flatMap_def,List.flatMap_def]
 congr 1
 apply aY
 intro q hq
 rw[hk q hq]
 congr 1
 omega
end
end
end _W
end
section
namespace _W
open _L _G
section
theorem xP{ρ:Rho}{S S0:Sto}{i:Nat}{a:ME}{n:Nat}{b:MS}(ha:a ρ S=some (.int n,S0))(h:n<big)(P:Nat->Rho->Sto->Prop)(h0:P 0 ρ S0)
  (hs: ∀(j:Nat) (ρ:Rho) (S:Sto),j<n->P j ρ S -> ∃ρ' S',b (ρ.set i (some (.int j))) S=some (.nx,ρ',S')/\P (j+1) ρ' S'):
  ∃ρ' S',iM i (iR1 (aa a ag)) b ρ S=some (.nx,ρ',S')/\P n ρ' S':=by
 obtain⟨ρ',S',e1,p1⟩:=qU (i:=i) (b:=b) P (bh 0 n) 0 ρ S0 h0 λj u ρ S hj hp=>by
  have hl:j<n:=by have:=(af.mp hj).1;simpa [bh]using this
  have hu:(bh 0 n)[j]? = some (.int j):=by simp[bh,hl]
  rw[hu]at hj;cases hj
  simpa using hs j ρ S hl (by simpa using hp)
 have hlen:(bh 0 n).length=n:=by simp[bh]
 rw[hlen,fh]at p1
 refine⟨ρ',S',?_,p1⟩
 unfold iM
 rw[pY ha h]
 exact e1
theorem JZ{ρ:Rho}{S S1 S2:Sto}{a b:ME}{x y:Nat}(ha:a ρ S=some (.int x,S1))(hb:b ρ S1=some (.int y,S2)):mFn pD (aa a (aa b ag)) ρ S=some (.int (min x y:Nat),S2):=by
 refine dy ha hb ?_
 show some (U.int (if (y:Int)<x then(y:Int) else x),S2)=_
 congr 3
 split <;> omega
noncomputable def y7:MS:=cy (mML b0 (ae 4) (aa (mML jJ (ae 3) (aa (mFn ba (aa (ae 0) (aa (mFn cg (aa (ae 3) ag)) ag))) ag)) ag))
noncomputable def CA:MS:=bo (bV 3 (jL (iR2 (aa (mC (.int 1)) (aa (mFn cg (aa (ae 1) ag)) ag))))) (bo (bV 4 (bU ag)) (bo (iM 5 (iR1 (aa (mFn pD (aa (mFn cg (aa (ae 3) ag)) (aa (m2 cU (mC (.int 1)) (mFn ba (aa (ae 0) (aa (ae 2) ag)))) ag))) ag)) y7) (cK (mFn cD (aa (mFn gY (aa (ae 4) ag)) ag)))))
theorem Aj{n m most:Nat}{T:Nat->Nat->Nat}{S:Sto}(h:mX n S)(g:Grp m T)(hm:m<60)(hmo:0<most)(hmo2:most<60): ∃w S',_G.run 3 6 CA [.ref n,tab m T,.int (most:Nat)] S=some (.tup (aA w),S')/\Stp n S S'/\(∀x∈w,x<m)/\w.length<=most/\w.length<60/\w.Nodup/\(∀x∈w,x≠0)/\(1<m->w≠[])/\srt w=w:=by
 have hp:=g.pos
 have hbig:m<big:=by unfold big;exact ai (by assumption) (by decide)
 have hn:=h.lt
 have hne1:S.length+1≠n:=di (fG hn)
 have hm1:m - 1<60:=aK (gU m 1) hm
 have e1:jL (iR2 (aa (mC (.int 1)) (aa (mFn cg (aa (ae 1) ag)) ag))) [some (.ref n),some (tab m T),some (.int (most:Nat)),none,none,none] S=some (.ref S.length,S++[Cell.lst (aA (bj 1 (m - 1)))]):=by
  rw[tI (i:=1) (j:=m) rfl (len_tab (var_eq rfl)) ⟨by decide,by decide⟩ (mq hbig) (by rw[ko m (by assumption),dN,ki];exact aB (gU m 1) (aT hbig)),ko m (by assumption)]
 have e2:bU ag [some (.ref n),some (tab m T),some (.int (most:Nat)),some (.ref S.length),none,none] (S++[Cell.lst (aA (bj 1 (m - 1)))])=some (.ref (S.length+1),S++[Cell.lst (aA (bj 1 (m - 1)))]++[Cell.lst []]):=pW.trans (by simp)
 generalize hS2:S++[Cell.lst (aA (bj 1 (m - 1)))]++[Cell.lst []]=S2 at e2
 have x2:Ex S S2:=⟨_,by rw[<- hS2,be]⟩
 have g3:S2[S.length]? = some (Cell.lst (aA (bj 1 (m - 1)))):=by rw[<- hS2,be,ar (ak _)];simp
 have g4:S2[S.length+1]? = some (Cell.lst (aA [])):=by rw[<- hS2,be,ar (by exact bY _)];simp[aA]
 have st2:Stp n S S2:=Stp.ex h x2
 obtain⟨r,S3,e3,hr,st3⟩:=jQ (m:=most) st2.st hmo (by exact ai (by assumption) (by decide))
 have hlen:(bj 1 (m - 1)).length=m - 1:=by simp
 have e4:mFn pD (aa (mFn cg (aa (ae 3) ag)) (aa (m2 cU (mC (.int 1)) (mFn ba (aa (ae 0) (aa (ae 2) ag)))) ag)) [some (.ref n),some (tab m T),some (.int (most:Nat)),some (.ref S.length),some (.ref (S.length+1)),none] S2=some (.int (min (m - 1) (1+r):Nat),S3):=by
  refine JZ (x:=m - 1) (y:=1+r) ?_ (add_n (x:=1) (y:=r) c_i (dy (var_eq rfl) (var_eq rfl) e3))
  have:=CG (ρ:= [some (.ref n),some (tab m T),some (.int (most:Nat)),some (.ref S.length),some (.ref (S.length+1)),none]) (S:=S2) (a:=ae 3) (var_eq rfl) g3
  rw[this,dN,hlen]
 obtain⟨ρ5,S5,e5,a5,l5,w5,rfl,q3,q4,q5,q6,q7,q8,st5⟩:=xP (i:=5) (b:=y7) e4 (aK (aB (jW _ _) (gU m 1)) hbig)
  (λk ρ S' =>∃a l w,ρ = [some (.ref n),some (tab m T),some (.int (most:Nat)),some (.ref S.length),some (.ref (S.length+1)),a]/\S'[S.length]? = some (Cell.lst (aA l))/\S'[S.length+1]? = some (Cell.lst (aA w))/\l.length+k=m - 1/\w.length=k/\(∀x∈l,x<m)/\(w++l).Perm (bj 1 (m - 1))/\Stp n S S')
  ⟨none,bj 1 (m - 1),[],rfl,st3.some (by exact di (by assumption)) g3,st3.some hne1 g4,by rw[hlen];rfl,rfl,λx hx=>rF (iC.mp hx).2 (j0 hp),by simp,st2.trans st3⟩ (by
   rintro k ρ S' hk ⟨a,l,w,rfl,c3,c4,hl,hw,lt1,lt2,st⟩
   have hlp:0<l.length:=Nat.lt_of_add_lt_add_right (by rw[fh,hl];exact ai hk (jW _ _))
   have hll:l.length<60:=aK (aB (dU _ k) (kg hl)) hm1
   have hkk:k<60:=aK (aB (Nat.le_add_left k _) (kg hl)) hm1
   obtain⟨q,S6,e6,hq,st6⟩:=jQ (m:=l.length) st.st hlp (ai hll (by decide))
   have c3':=st6.some (by exact di (by assumption)) c3
   have c4':=st6.some hne1 c4
   have el:mFn cg (aa (ae 3) ag) [some (.ref n),some (tab m T),some (.int (most:Nat)),some (.ref S.length),some (.ref (S.length+1)),some (.int k)] S'=some (.int (l.length:Nat),S'):=by
    have:=CG (ρ:= [some (.ref n),some (tab m T),some (.int (most:Nat)),some (.ref S.length),some (.ref (S.length+1)),some (.int k)]) (S:=S') (a:=ae 3) (var_eq rfl) c3
    rw[this,dN]
   have ep:=wC (ρ:= [some (.ref n),some (tab m T),some (.int (most:Nat)),some (.ref S.length),some (.ref (S.length+1)),some (.int k)]) (o:=ae 3) (a:=mFn ba (aa (ae 0) (aa (mFn cg (aa (ae 3) ag)) ag))) (r:=S.length) (j:=q) (l:=l) (var_eq rfl) (dy (var_eq rfl) el e6) c3 c3' hq (by unfold big;exact ai hll (by decide))
   have hin:l[q]∈l:=mK hq
   generalize hx:l[q]=xv at ep hin
   have lS:S.length<S6.length:=(af.mp c3').1
   have c4'':(S6.set S.length (Cell.lst (aA (l.eraseIdx q))))[S.length+1]? = some (Cell.lst (aA w)):=by rw[ay (by exact br (cY _))];exact c4'
   have ea:=append_eq (ρ:= [some (.ref n),some (tab m T),some (.int (most:Nat)),some (.ref S.length),some (.ref (S.length+1)),some (.int k)]) (o:=ae 4) (r:=S.length+1) (var_eq rfl) ep c4 c4'' (by rw[dN,hw];unfold big;exact ai hkk (by decide))
   refine⟨_,_,ea,some (.int k),l.eraseIdx q,w++[xv],rfl,?_,?_,?_,by simp[hw],λz hz=>lt1 z (List.mem_of_mem_eraseIdx hz),?_,?_⟩
   ·rw[ay (by exact Nat.succ_ne_self _)]
    exact aI lS
   ·rw[aI (af.mp c4'').1]
    simp[aA]
   ·rw[List.length_eraseIdx,if_pos hq,<- hl,<- eC,Nat.add_right_comm,rG hlp]
   ·rw[be]
    refine Da (List.Perm.append_left w ?_) lt2
    show(xv::l.eraseIdx q).Perm l
    rw[<- hx]
    exact nc l q hq
   ·exact((st.trans st6).set (by exact ak _) (by exact di (by assumption))).set (by exact bY _) hne1)
 have hw:w5.length<60:=by rw[q6];exact aK (jW _ _) hm1
 have e6:=i8 (A0 (ρ:= [some (.ref n),some (tab m T),some (.int (most:Nat)),some (.ref S.length),some (.ref (S.length+1)),a5]) (S:=S5) (a:=ae 4) (var_eq rfl) q4 (by exact ai (by assumption) (by decide)))
 refine⟨srt w5,_,cZ (ρ:= [some (.ref n),some (tab m T),some (.int (most:Nat)),some (.ref S.length),some (.ref (S.length+1)),a5]) rfl (show CA [some (.ref n),some (tab m T),some (.int (most:Nat)),none,none,none] S=_ from(bp (cz e1)).trans ((bp (cz e2)).trans ((bp e5).trans (dc e6)))),st5.step (Ex.push _ _),λx hx =>?_,?_,?_,?_,λx hx =>?_,λh1 z =>?_,zT (nH w5)⟩
 ·exact rF (iC.mp (q8.mem_iff.mp (bc l5 (zc.mp hx)))).2 (j0 hp)
 ·rw[uk,q6];exact aB (Nat.min_le_right _ _) (by rw[nv];exact hr)
 ·rw[uk];assumption
 ·rw[(nH w5).nodup_iff]
  have:=q8.nodup_iff.mpr rM
  exact(iB.mp this).1
 ·have:=iC.mp (q8.mem_iff.mp (bc l5 (zc.mp hx)));omega
 ·have:w5.length=0:=by rw[<- uk,z];rfl
  omega
section
variable {m:Nat}{T:Nat->Nat->Nat}{st:List Nat}{S:Sto}
structure Sv(m:Nat)(T:Nat->Nat->Nat)(st:List Nat)(L:Nod->List (List Nat))(F:List (List Nat))(ln:List Nod)(μ:Nat):Prop where
 nd: ∀p∈ln,Nd m p
 tot:F++rest T st L m ln=AK T st L (m - 1) ([],[0])
 ms:msr st.length m ln<=μ
 bd:μ<=30000
theorem Sv.start{L:Nod->List (List Nat)}(hm:0<m)(hz:oi st.length (m - 1)<=30000):Sv m T st L [] [([],[0])] (oi st.length (m - 1)):=
 ⟨λp hp=>by simp at hp;subst hp;exact⟨by simp,rfl,by simpa using hm⟩,by simp[rest],by simp[msr],hz⟩
theorem Sv.stop{L:Nod->List (List Nat)}{F:List (List Nat)}{ln:List Nod}{μ most:Nat}(s:Sv m T st L F ln μ)(h:(!decide (ln = [])&&decide (F.length<most))=false):F.take most=(AK T st L (m - 1) ([],[0])).take most:=by
 rw[<- s.tot]
 by_cases hl:ln = []
 ·subst hl;simp[rest]
 ·have:most<=F.length:=by simpa [hl]using h
  rw[eO this]
theorem Sv.inner{L:Nod->List (List Nat)}{F:List (List Nat)}{ln:List Nod}{μ:Nat}{p:Nod}(g:Grp m T)(hs: ∀s∈st,s<m)(s:Sv m T st L F (ln++[p]) (μ+1))(h:p.1.length<m - 1):Sv m T st L F (ln++(kids T st p).reverse) μ:=by
 have np:=s.nd p (by simp)
 refine⟨λq hq =>?_,?_,?_,by have:=s.bd;exact aT (by assumption)⟩
 ·rcases bZ.mp hq with hq |hq
  ·exact s.nd q (bc _ hq)
  ·exact(uL g hs np h (dw.mp hq)).1
 ·rw[xo h λq hq=>(uL g hs np h hq).2];exact s.tot
 ·have:=s.ms
  have:=Bt g hs np h
  rw[EL]at *
  omega
end
end
end _W
end
section
namespace _W
open _L _G
section
theorem Ex.set{S S':Sto}{r:Nat}{c:Cell}(h:Ex S S')(hr:S.length<=r):Ex S (S'.set r c):=by
 obtain⟨t,rfl⟩:=h
 exact⟨t.set (r - S.length) c,by rw[iP _ _ hr]⟩
section
variable {m:Nat}{T:Nat->Nat->Nat}{st:List Nat}
structure Lft(m:Nat)(th left:List Nat):Prop where
 nd:left.Nodup
 mem: ∀y,y∈left↔y<m/\y∉th
noncomputable def FA(_:Nat):Option (List Nat):=some []
noncomputable def wJ(m:Nat)(T:Nat->Nat->Nat)(st:List Nat)(h:Nat):Option (List Nat):=if unT m T h∈st then some [unT m T h] else none
end
structure Lng(ls:List (List Nat)):Prop where
 len:ls.length<=9000
 each: ∀l∈ls,l.length<=8
 lt: ∀l∈ls,∀x∈l,x<1000
open PySem in
open PySem in
section
variable {m:Nat}{T:Nat->Nat->Nat}{st:List Nat}{S:Sto}
end
end
end _W
end
section
namespace _W
open _L _G
section
abbrev Rds:=List (Nat×List Nat)
structure Rd(T:Nat->Nat->Nat)(ths:List Nat)(ks:Rds):Prop where
 go: ∀p∈ks,dE T p.2=p.1
 by': ∀p∈ks,∀y∈p.2,y∈ths
 len: ∀p∈ks,p.2.length<ks.length
section
variable {m:Nat}{T:Nat->Nat->Nat}{ths:List Nat}{S x:Sto}{v:U}
noncomputable def G7:MS:=bo (bV 6 (m2 oIx (m2 oIx (ae 0) (ae 4)) (ae 5))) (sIf (cOf (m2 HI (ae 6) (ae 2))) (bo (lQ (ae 2) (ae 6) (m2 cU (m2 oIx (ae 2) (ae 4)) (jI (aa (ae 5) ag)))) (cy (mML b0 (ae 3) (aa (ae 6) ag)))) cN)
noncomputable def Kj:MS:=bo (bV 4 (mML LP (ae 3) ag)) (iM 5 (eK (ae 1)) G7)
noncomputable def Jn:MS:=bo (bV 2 (JC (mC (.int 0)) (jI ag))) (bo (bV 3 (bU (aa (mC (.int 0)) ag))) (bo (qz Je Kj) (cK (ae 2))))
noncomputable def spM:MS:=cK (mFn cD (aa (mFn gY (aa (mFn (_G.run 2 7 Jn) (aa (ae 0) (aa (ae 1) ag))) ag)) ag))
end
end
end _W
end
section
namespace _W
open _L _G
section
theorem pb{α β γ:Sort _}{f:α->β->γ}{a a':α}{b b':β}(h1:a=a')(h2:b=b'):f a b=f a' b':=by rw[h1,h2]
section
variable {m:Nat}{T:Nat->Nat->Nat}
abbrev Lt(m:Nat)(w:List Nat):Prop:= ∀x∈w,x<m
theorem Lt.app{a b:List Nat}(ha:Lt m a)(hb:Lt m b):Lt m (a++b):=λx hx=>(bZ.mp hx).elim (ha x) (hb x)
theorem Lt.tk{a:List Nat}(ha:Lt m a)(k:Nat):Lt m (a.take k):=λx hx=>ha x (Dc hx)
theorem nQ(g:Grp m T){w:List Nat}(hw:Lt m w):dE T w<m:=Dt g.pos g.cl hw
theorem pV(g:Grp m T): ∀(w:List Nat) (x:Nat),x<m->Lt m w->w.foldl T x=T x (dE T w)
 | [],x,hx,_=>by show x=T x 0;rw[g.r0 x hx]
 | y::w,x,hx,h=>by
   have hy:y<m:=h y (by simp)
   have hw:Lt m w:=λz hz=>h z (aw _ hz)
   show w.foldl T (T x y)=T x (w.foldl T (T 0 y))
   rw[pV g w _ (g.cl x y hx hy) hw,g.l0 y hy,pV g w y hy hw,g.as x y _ hx hy (nQ g hw)]
theorem nU(g:Grp m T){a b:List Nat}(ha:Lt m a)(hb:Lt m b):dE T (a++b)=T (dE T a) (dE T b):=by
 show(a++b).foldl T 0=_
 rw[List.foldl_append]
 exact pV g b _ (nQ g ha) hb
theorem oY(g:Grp m T){x:Nat}{w:List Nat}(hx:x<m)(hw:Lt m w):dE T (x::w)=T x (dE T w):=by
 show w.foldl T (T 0 x)=_
 rw[g.l0 x hx];exact pV g w x hx hw
theorem mD{w:List Nat}{x:Nat}:dE T (w++[x])=T (dE T w) x:=by unfold dE;rw[List.foldl_append];rfl
theorem o7(g:Grp m T){x:Nat}(hx:x<m):unT m T x<m:=(oj g hx).1
theorem BG(g:Grp m T){x:Nat}(hx:x<m):T x (unT m T x)=0:=(oj g hx).2.1
theorem L3(g:Grp m T){x:Nat}(hx:x<m):T (unT m T x) x=0:=(oj g hx).2.2.1
theorem BM(g:Grp m T){x y:Nat}(hx:x<m)(hy:y<m)(h:T x y=0):y=unT m T x:=(oj g hx).2.2.2 y hy h
theorem Cj(g:Grp m T){x y:Nat}(hx:x<m)(hy:y<m):unT m T (T x y)=T (unT m T y) (unT m T x):=by
 have h1:=o7 g hx
 have h2:=o7 g hy
 refine(BM g (g.cl _ _ hx hy) (g.cl _ _ h2 h1) ?_).symm
 rw[g.as x y _ hx hy (g.cl _ _ h2 h1),<- g.as y _ _ hy h2 h1,BG g hy,g.l0 _ h1,BG g hx]
theorem Bx(g:Grp m T):unT m T 0=0:=(BM g g.pos g.pos (g.l0 0 g.pos)).symm
noncomputable def bk(m:Nat)(T:Nat->Nat->Nat)(w:List Nat):List Nat:=w.reverse.map (unT m T)
theorem EW(g:Grp m T){w:List Nat}(hw:Lt m w):Lt m (bk m T w):=λx hx=>by
 obtain⟨y,hy,rfl⟩:=bB.mp hx
 exact o7 g (hw y (dw.mp hy))
theorem nK(g:Grp m T): ∀{w:List Nat},Lt m w->dE T (bk m T w)=unT m T (dE T w)
 | [],_=>(Bx g).symm
 | x::w,h=>by
   have hx:x<m:=h x (by simp)
   have hw:Lt m w:=λz hz=>h z (aw _ hz)
   have e:bk m T (x::w)=bk m T w++[unT m T x]:=by simp[bk]
   rw[e,mD,nK g hw,oY g hx hw,Cj g hx (nQ g hw)]
theorem vL(g:Grp m T){x:Nat}{w:List Nat}(hx:x<m)(hw:Lt m w):plc T (x::w)=0::(plc T w).map (T x):=by
 unfold plc
 rw[dv,AC,bD,cX,cX]
 refine pb rfl (aY λk _ =>?_)
 show dE T (x::w.take k)=_
 exact oY g hx (hw.tk k)
theorem Bf{w:List Nat}{x:Nat}:plc T (w++[x])=plc T w++[T (dE T w) x]:=by
 unfold plc
 rw[bg,dv,ft,ee,bR]
 refine pb (aY λk hk =>?_) ?_
 ·have:=aS.mp hk
  rw[eO (by exact dk (by assumption))]
 ·show [dE T ((w++[x]).take (w.length+1))]=_
  rw[AF (by simp),mD]
theorem Df{w:List Nat}:(plc T w).length=w.length+1:=by simp[plc]
theorem lB(g:Grp m T){w:List Nat}(hw:Lt m w):Lt m (plc T w):=λx hx=>by
 obtain⟨k,_,rfl⟩:=bB.mp hx
 exact nQ g (hw.tk k)
theorem uA(g:Grp m T): ∀{w:List Nat},Lt m w->plc T (bk m T w)=(plc T w).reverse.map (T (unT m T (dE T w)))
 | [],_=>by
   show [0] = [T (unT m T 0) 0]
   rw[Bx g,g.l0 0 g.pos]
 | x::w,h=>by
   have hx:x<m:=h x (by simp)
   have hw:Lt m w:=λz hz=>h z (aw _ hz)
   have e:bk m T (x::w)=bk m T w++[unT m T x]:=by simp[bk]
   have hc:=nQ g hw
   have hu:=o7 g hc
   have hux:=o7 g hx
   rw[e,Bf,uA g hw,vL g hx hw,nK g hw,oY g hx hw,Cj g hx hc,kM,bR,<- List.map_reverse,cX]
   refine pb (aY λy hy =>?_) ?_
   ·have hy:y<m:=lB g hw y (dw.mp hy)
    show _=T (T (unT m T (dE T w)) (unT m T x)) (T x y)
    rw[g.as _ _ _ hu hux (g.cl _ _ hx hy),<- g.as _ _ _ hux hx hy,L3 g hx,g.l0 y hy]
   ·show _ = [T (T (unT m T (dE T w)) (unT m T x)) 0]
    rw[g.r0 _ (g.cl _ _ hu hux)]
noncomputable def pre(T:Nat->Nat->Nat)(w:List Nat):List Nat:=(aO w.length).map λk=>dE T (w.take k)
theorem mw{w:List Nat}:plc T w=pre T w++[dE T w]:=by
 unfold plc pre
 rw[ee,bR]
 simp
theorem Ey{w:List Nat}:(pre T w).length=w.length:=by simp[pre]
theorem pre_app(g:Grp m T){a b:List Nat}(ha:Lt m a)(hb:Lt m b):pre T (a++b)=pre T a++(pre T b).map (T (dE T a)):=by
 unfold pre
 rw[bg,List.range_add,bR,cX,cX]
 refine pb (aY λk hk =>?_) (aY λk hk =>?_)
 ·have:=aS.mp hk
  rw[eO (by exact aT (by assumption))]
 ·show dE T ((a++b).take (a.length+k))=T (dE T a) (dE T (b.take k))
  rw[List.take_append,AF (by omega),show a.length+k - a.length=k by omega]
  exact nU g ha (hb.tk k)
structure All(m:Nat)(l:List Nat):Prop where
 nd:l.Nodup
 lt:Lt m l
 len:l.length=m
theorem All.mem{l:List Nat}(h:All m l){x:Nat}(hx:x<m):x∈l:=by
 apply tS
 intro z
 have:=ni m (x::l) (fk.mpr ⟨z,h.nd⟩) (λy hy=>(aX.mp hy).elim (λe=>e▸hx) (h.lt y))
 have:=h.len
 simp at *
 omega
theorem All.perm{l:List Nat}(h:All m l):l.Perm (aO m):=
 (List.perm_ext_iff_of_nodup h.nd tR).mpr λx=>⟨λhx=>aS.mpr (h.lt x hx),λhx=>h.mem (aS.mp hx)⟩
theorem All.of{l:List Nat}(h:l.Perm (aO m)):All m l:=
 ⟨h.nodup_iff.mpr tR,λx hx=>aS.mp (h.mem_iff.mp hx),by have:=h.length_eq;simpa using this⟩
theorem All.congr{a b:List Nat}(h:All m a)(p:b.Perm a):All m b:=All.of (p.trans h.perm)
theorem All.map{f:Nat->Nat}{l:List Nat}(h:All m l)(lt: ∀x,x<m->f x<m)(inj: ∀x y,x<m->y<m->f x=f y->x=y):All m (l.map f):=by
 refine⟨?_,λx hx =>?_,by simp[h.len]⟩
 ·rw[dW,rL]
  exact jk (λha hb hab e=>hab (inj _ _ (h.lt _ ha) (h.lt _ hb) e)) (dW.mp h.nd)
 ·obtain⟨y,hy,rfl⟩:=bB.mp hx
  exact lt y (h.lt y hy)
theorem All.left(g:Grp m T){a:Nat}{l:List Nat}(ha:a<m)(h:All m l):All m (l.map (T a)):=
 h.map (λx hx=>g.cl a x ha hx) λx y hx hy e=>g.cancel ha hx hy e
abbrev Way(m:Nat)(T:Nat->Nat->Nat)(w:List Nat):Prop:=All m (plc T w)
structure Rnd(m:Nat)(T:Nat->Nat->Nat)(w:List Nat):Prop where
 home:dE T w=0
 all:All m (pre T w)
theorem Way.bk(g:Grp m T){w:List Nat}(hw:Lt m w)(h:Way m T w):Way m T (bk m T w):=by
 show All m (plc T (_W.bk m T w))
 rw[uA g hw]
 exact All.left g (o7 g (nQ g hw)) (h.congr (rN _))
theorem Rnd.bk(g:Grp m T){w:List Nat}(hw:Lt m w)(h:Rnd m T w):Rnd m T (bk m T w):=by
 refine⟨by rw[nK g hw,h.home,Bx g],?_⟩
 have e:=uA g hw
 rw[h.home,Bx g]at e
 have e2:(plc T w).reverse.map (T 0)=(plc T w).reverse:=by
  have:(plc T w).reverse.map (T 0)=(plc T w).reverse.map id:=aY λx hx=>g.l0 x (lB g hw x (dw.mp hx))
  rw[this,List.map_id]
 rw[e2,mw,mw,nK g hw,h.home,Bx g,pC]at e
 have hp:=h.all.perm
 cases q:pre T w with
 | nil=>have:=h.all.len;rw[q]at this;have:=g.pos;simp at *;omega
 | cons x l=>
   have hx:x=0:=by
    have hl:0<w.length:=by have:=Ey (T:=T) (w:=w);rw[q]at this;simp at this;omega
    have:(pre T w)[0]? = some 0:=by
     unfold pre
     rw[cw,List.getElem?_range hl];rfl
    rw[q]at this;simpa using this
   rw[q,hx]at e
   have e3:pre T (_W.bk m T w)++[0]=(0::l.reverse)++[0]:=by rw[e];simp
   have e4:pre T (_W.bk m T w)=0::l.reverse:=(List.append_inj_left' e3 rfl)
   rw[e4]
   have h2:=h.all
   rw[q,hx]at h2
   exact h2.congr ((rN l).cons 0)
theorem Rnd.way{w:List Nat}{x:Nat}(h:Rnd m T (w++[x])):Way m T w:=by
 have h2:=h.all
 show All m (plc T w)
 have:pre T (w++[x])=plc T w:=by
  unfold pre plc
  rw[bg,dv,ft]
  refine aY λk hk =>?_
  have:=aS.mp hk
  rw[eO (by exact dk (by assumption))]
 rwa[this]at h2
theorem GL{o p:Nat->Nat}(g:Grp m T)(h:Ord m o p){x y:Nat}(hx:x<m)(hy:y<m):eR T o p (p x) (p y)=p (T x y):=by unfold eR;rw[h.op x hx,h.op y hy]
theorem LU{o p:Nat->Nat}(g:Grp m T)(h:Ord m o p):p 0=0:=by have:=h.po 0 g.pos;rwa[h.o0]at this
theorem yn{o p:Nat->Nat}(g:Grp m T)(h:Ord m o p): ∀(w:List Nat) (x:Nat),x<m->Lt m w->(w.map p).foldl (eR T o p) (p x)=p (w.foldl T x)
 | [],x,_,_=>rfl
 | y::w,x,hx,hw=>by
   have hy:y<m:=hw y (by simp)
   show(w.map p).foldl (eR T o p) (eR T o p (p x) (p y))=_
   rw[GL g h hx hy]
   exact yn g h w _ (g.cl x y hx hy) λz hz=>hw z (aw _ hz)
theorem GU{o p:Nat->Nat}(g:Grp m T)(h:Ord m o p){w:List Nat}(hw:Lt m w):plc (eR T o p) (w.map p)=(plc T w).map p:=by
 unfold plc
 rw[aE,cX]
 refine aY λk _ =>?_
 show((w.map p).take k).foldl (eR T o p) 0=p ((w.take k).foldl T 0)
 rw[<- List.map_take]
 have:=yn g h (w.take k) 0 g.pos (hw.tk k)
 rwa[LU g h]at this
theorem HM{o p:Nat->Nat}(h:Ord m o p){x y:Nat}(hx:x<m)(hy:y<m)(e:p x=p y):x=y:=by rw[<- h.op x hx,<- h.op y hy,e]
theorem Way.named{o p:Nat->Nat}(g:Grp m T)(h:Ord m o p){w:List Nat}(hw:Lt m w)(hy:Way m T w):Way m (eR T o p) (w.map p):=by
 show All m (plc (eR T o p) (w.map p))
 rw[GU g h hw]
 exact hy.map (λx hx=>h.pl x hx) λx y hx hy e=>HM h hx hy e
structure Gd(T:Nat->Nat->Nat)(st:List Nat)(p:Nod):Prop where
 pl:p.2=plc T p.1
 nd:p.2.Nodup
 by': ∀x∈p.1,x∈st
end
section
variable {m:Nat}{T:Nat->Nat->Nat}{st w:List Nat}{S:Sto}
end
end
end _W
end
section
namespace _W
open _L _G
section
section
variable {m:Nat}{T:Nat->Nat->Nat}
theorem Lt.one{s:Nat}(hs:s<m):Lt m [s]:=λx hx=>by rw[eQ.mp hx];exact hs
noncomputable def thr(m:Nat)(T:Nat->Nat->Nat)(p:List Nat)(s:Nat):Nat->List Nat
 | 0=>p
 | j+1=>thr m T p s j++[s]++(if j % 2=0 then bk m T p else p)
noncomputable def tkn(m:Nat)(T:Nat->Nat->Nat)(s:Nat)(P:List Nat):Nat:=((aO m).find? λk=>decide (pw T s (k+1)∈P)).getD 0+1
theorem B7(g:Grp m T){s:Nat}{P:List Nat}(hs:s<m)(h0:0∈P):1<=tkn m T s P/\tkn m T s P<=m/\pw T s (tkn m T s P)∈P /\ ∀k,1<=k->k<tkn m T s P->pw T s k∉P:=by
 obtain⟨n,n1,n2,n3,_⟩:=g.ord hs
 unfold tkn
 cases q:(aO m).find? λk=>decide (pw T s (k+1)∈P) with
 | none=>
   have:=List.find?_eq_none.mp q (n - 1) (aS.mpr (by omega))
   rw[show n - 1+1=n by omega,n3]at this
   simp[h0]at this
 | some i=>
   obtain⟨i1,i2,i3⟩:=List.find?_range_eq_some.mp q
   have i2:=aS.mp i2
   refine⟨by simp,by simp;assumption,by simpa using i1,λk k1 k2 z =>?_⟩
   simp at k2
   have:=i3 (k - 1) (by omega)
   rw[show k - 1+1=k by omega]at this
   simp[z]at this
theorem xt(g:Grp m T){p:List Nat}{s:Nat}(hp:Lt m p)(hs:s<m): ∀j,Lt m (thr m T p s j)
 | 0=>hp
 | j+1=>by
   refine Lt.app (Lt.app (xt g hp hs j) (Lt.one hs)) ?_
   split
   ·exact EW g hp
   ·exact hp
theorem vC{p:List Nat}:0∈plc T p:=bB.mpr ⟨0,aS.mpr (by omega),rfl⟩
theorem yG(g:Grp m T){a q:List Nat}{s:Nat}(ha:Lt m a)(hs:s<m)(hq:Lt m q):plc T (a++[s]++q)=plc T a++(plc T q).map (T (T (dE T a) s)):=by
 have hsq:Lt m (s::q):=λx hx=>(aX.mp hx).elim (λe=>e▸hs) (hq x)
 have ca:=nQ g ha
 rw[be]
 show plc T (a++s::q)=_
 rw[mw,pre_app g ha hsq,nU g ha hsq,be]
 have:(pre T (s::q)).map (T (dE T a))++[T (dE T a) (dE T (s::q))]=(plc T (s::q)).map (T (dE T a)):=by rw[mw,bR];rfl
 rw[this,vL g hs hq,bD,g.r0 _ ca,cX,mw (w:=a),be]
 refine pb rfl ?_
 show dE T a::_ = [dE T a]++_
 refine pb rfl (aY λx hx =>?_)
 show T (dE T a) (T s x)=T (T (dE T a) s) x
 rw[g.as _ _ _ ca hs (lB g hq x hx)]
noncomputable def blk(T:Nat->Nat->Nat)(p:List Nat)(s i:Nat):List Nat:=(if i % 2=0 then plc T p else(plc T p).reverse).map (T (pw T s i))
theorem yL(g:Grp m T)(pl: ∀i j,i<m->j<m->T i j=T j i){p:List Nat}{s:Nat}(hp:Lt m p)(hs:s<m): ∀j,dE T (thr m T p s j)=T (pw T s j) (if j % 2=0 then dE T p else 0)/\plc T (thr m T p s j)=(aO (j+1)).flatMap (blk T p s)
 | 0=>by
   have h1:(plc T p).map (T 0)=plc T p:=by
    have:(plc T p).map (T 0)=(plc T p).map id:=aY λx hx=>g.l0 x (lB g hp x hx)
    rw[this,List.map_id]
   refine⟨?_,?_⟩
   ·show dE T p=T 0 (dE T p);rw[g.l0 _ (nQ g hp)]
   ·show plc T p=blk T p s 0++[]
    rw[cW]
    show _=(plc T p).map (T 0)
    rw[h1]
 | j+1=>by
   obtain⟨h1,h2⟩:=yL g pl hp hs j
   have lt1:=xt g hp hs j
   have cp:=nQ g hp
   have uc:=o7 g cp
   have pj:=j5 g hs j
   have hpw:pw T s (j+1)=T (pw T s j) s:=rfl
   by_cases q:j % 2=0
   ·have q1: ¬(j+1) % 2=0:=by omega
    rw[if_pos q]at h1
    have hb:=EW g hp
    have base:T (dE T (thr m T p s j)) s=T (pw T s (j+1)) (dE T p):=by
     rw[h1,hpw,g.as _ _ _ pj cp hs,pl _ _ cp hs,<- g.as _ _ _ pj hs cp]
    have e:thr m T p s (j+1)=thr m T p s j++[s]++bk m T p:=by rw[thr,if_pos q]
    rw[e,if_neg q1]
    have pj1:=j5 g hs (j+1)
    refine⟨?_,?_⟩
    ·rw[nU g (lt1.app (Lt.one hs)) hb,mD,base,nK g hp,g.as _ _ _ pj1 cp uc,BG g cp]
    ·rw[yG g lt1 hs hb,base,uA g hp,cX,h2,ee (n:=j+1),gh]
     refine pb rfl ?_
     show _=blk T p s (j+1)++[]
     rw[cW,blk,if_neg q1]
     refine aY λx hx =>?_
     have hx:=lB g hp x (dw.mp hx)
     show T (T (pw T s (j+1)) (dE T p)) (T (unT m T (dE T p)) x)=_
     rw[g.as _ _ _ pj1 cp (g.cl _ _ uc hx),<- g.as _ _ _ cp uc hx,BG g cp,g.l0 x hx]
   ·have q1:(j+1) % 2=0:=by omega
    rw[if_neg q,g.r0 _ pj]at h1
    have e:thr m T p s (j+1)=thr m T p s j++[s]++p:=by rw[thr,if_neg q]
    rw[e,if_pos q1]
    refine⟨?_,?_⟩
    ·rw[nU g (lt1.app (Lt.one hs)) hp,mD,h1,<- hpw]
    ·rw[yG g lt1 hs hp,h1,<- hpw,h2,ee (n:=j+1),gh]
     refine pb rfl ?_
     show _=blk T p s (j+1)++[]
     rw[cW,blk,if_pos q1]
theorem mv{p:List Nat}{s i x:Nat}:x∈blk T p s i ↔ ∃y∈plc T p,x=T (pw T s i) y:=by
 unfold blk
 rw[bB]
 split
 ·exact⟨fun⟨y,a,b⟩=>⟨y,a,b.symm⟩,fun⟨y,a,b⟩=>⟨y,a,b.symm⟩⟩
 ·exact⟨fun⟨y,a,b⟩=>⟨y,dw.mp a,b.symm⟩,fun⟨y,a,b⟩=>⟨y,dw.mpr a,b.symm⟩⟩
structure Sn(m:Nat)(T:Nat->Nat->Nat)(p:List Nat):Prop where
 lt:Lt m p
 nd:(plc T p).Nodup
 cl: ∀x∈plc T p,∀y∈plc T p,T x y∈plc T p
theorem Sn.pws{p:List Nat}(h:Sn m T p){x:Nat}(hx:x∈plc T p): ∀k,pw T x k∈plc T p
 | 0=>vC
 | k+1=>h.cl _ (h.pws hx k) _ hx
theorem Sn.un(g:Grp m T){p:List Nat}(h:Sn m T p){x:Nat}(hx:x∈plc T p):unT m T x∈plc T p:=by
 have hxm:=lB g h.lt x hx
 obtain⟨n,n1,_,n3,_⟩:=g.ord hxm
 have:unT m T x=pw T x (n - 1):=by
  refine(BM g hxm (j5 g hxm _) ?_).symm
  have e:=oU g hxm 1 (n - 1)
  rw[show 1+(n - 1)=n by omega,n3]at e
  have e1:pw T x 1=x:=by show T 0 x=x;exact g.l0 x hxm
  rw[e1]at e
  exact e.symm
 rw[this];exact h.pws hx _
theorem Sn.start(g:Grp m T):Sn m T []:=by
 have e:plc T [] = [0]:=rfl
 refine⟨λx hx=>by simp at hx,by rw[e];simp,?_⟩
 rw[e]
 intro x hx y hy
 simp at hx hy
 subst hx hy
 simp[g.l0 0 g.pos]
theorem Sn.len(g:Grp m T){p:List Nat}(h:Sn m T p):p.length+1<=m:=by
 have:=ni m _ h.nd (lB g h.lt)
 rwa[Df]at this
theorem yX{f:Nat->List Nat}: ∀n,(∀i,i<n->(f i).Nodup)->(∀i j,i<j->j<n -> ∀x∈f i,x∉f j)->((aO n).flatMap f).Nodup
 | 0,_,_=>by simp
 | n+1,h1,h2=>by
   rw[ee,gh]
   show(_++(f n++[])).Nodup
   rw[cW,iB]
   refine⟨yX n (λi hi=>h1 i (by exact iI (by assumption))) (λi j a b=>h2 i j a (by exact iI (by assumption))),h1 n (by exact ak _),λa ha b hb =>?_⟩
   obtain⟨i,hi,ha⟩:=iS.mp ha
   rintro rfl
   exact h2 i n (aS.mp hi) (by exact ak _) a ha hb
theorem Sn.next(g:Grp m T)(pl: ∀i j,i<m->j<m->T i j=T j i){p:List Nat}{s:Nat}(h:Sn m T p)(hs:s<m):Sn m T (thr m T p s (tkn m T s (plc T p) - 1)):=by
 obtain⟨n1,n2,n3,n4⟩:=B7 (P:=plc T p) g hs vC
 generalize hn:tkn m T s (plc T p)=n at n1 n2 n3 n4
 have lp:=lB g h.lt
 have e:=(yL g pl h.lt hs (n - 1)).2
 rw[show n - 1+1=n by omega]at e
 have pwl:=λk=>j5 g hs k
 refine⟨xt g h.lt hs _,?_,?_⟩
 ·rw[e]
  refine yX n (λi hi =>?_) λi j hij hj x hx hx2 =>?_
  ·unfold blk
   rw[dW,rL]
   have hnd:(if i % 2=0 then plc T p else(plc T p).reverse).Nodup:=by split;exact h.nd;exact(rN _).nodup_iff.mpr h.nd
   refine jk ?_ (dW.mp hnd)
   intro a b ha hb hab z
   have lt2: ∀c∈(if i % 2=0 then plc T p else(plc T p).reverse),c<m:=by
    intro c hc
    split at hc
    ·exact lp c hc
    ·exact lp c (dw.mp hc)
   exact hab (g.cancel (pwl i) (lt2 a ha) (lt2 b hb) z)
  ·obtain⟨y,hy,rfl⟩:=mv.mp hx
   obtain⟨z,hz,ez⟩:=mv.mp hx2
   have ly:=lp y hy
   have lz:=lp z hz
   have ea:pw T s j=T (pw T s i) (pw T s (j - i)):=by rw[<- oU g hs,show i+(j - i)=j by omega]
   rw[ea,g.as _ _ _ (pwl i) (pwl _) lz]at ez
   have ez:=g.cancel (pwl i) ly (g.cl _ _ (pwl _) lz) ez
   refine n4 (j - i) (by omega) (by omega) ?_
   have:T y (unT m T z)=pw T s (j - i):=by rw[ez,g.as _ _ _ (pwl _) lz (o7 g lz),BG g lz,g.r0 _ (pwl _)]
   rw[<- this]
   exact h.cl y hy _ (h.un g hz)
 ·rw[e]
  intro x hx y hy
  obtain⟨i,hi,hx⟩:=iS.mp hx
  obtain⟨j,hj,hy⟩:=iS.mp hy
  obtain⟨a,ha,rfl⟩:=mv.mp hx
  obtain⟨b,hb,rfl⟩:=mv.mp hy
  have la:=lp a ha
  have lb:=lp b hb
  have hi:=aS.mp hi
  have hj:=aS.mp hj
  have ab:=h.cl a ha b hb
  have e1:T (T (pw T s i) a) (T (pw T s j) b)=T (pw T s (i+j)) (T a b):=by
   rw[oU g hs,g.as _ _ _ (pwl i) la (g.cl _ _ (pwl j) lb),<- g.as _ _ _ la (pwl j) lb,pl _ _ la (pwl j),g.as _ _ _ (pwl j) la lb,<- g.as _ _ _ (pwl i) (pwl j) (g.cl _ _ la lb)]
  rw[e1]
  by_cases hlt:i+j<n
  ·exact iS.mpr ⟨i+j,aS.mpr hlt,mv.mpr ⟨_,ab,rfl⟩⟩
  ·refine iS.mpr ⟨i+j - n,aS.mpr (by omega),mv.mpr ⟨T (pw T s n) (T a b),h.cl _ n3 _ ab,?_⟩⟩
   rw[show i+j=(i+j - n)+n by omega,oU g hs,g.as _ _ _ (pwl _) (pwl _) (lp _ ab),show i+j - n+n - n=i+j - n by omega]
theorem Sn.last{p:List Nat}(h:Sn m T p)(hp:p≠[]):dE T p≠0:=by
 intro z
 have h1:=h.nd
 rw[mw,iB]at h1
 have h0:0∈pre T p:=bB.mpr ⟨0,aS.mpr (List.length_pos_iff.mpr hp),rfl⟩
 exact h1.2.2 0 h0 (dE T p) (by simp) z.symm
end
section
variable {m:Nat}{T:Nat->Nat->Nat}{S:Sto}
abbrev Pln(m:Nat)(T:Nat->Nat->Nat):Prop:= ∀i j,i<m->j<m->T i j=T j i
end
end
end _W
end
section
namespace _W
open _L _G
section
section
variable {m:Nat}{T:Nat->Nat->Nat}{S:Sto}
structure Pg(n most:Nat)(S0:Sto)(ρ:Rho)(S:Sto):Prop where
 h: ∃m T,ρ = [some (.ref n),some (.int (most:Nat)),some (tab m T)]/\Grp m T/\Pln m T/\m<=most
 st:Stp n S0 S
end
end
end _W
end
section
namespace _W
open _L _G
section
end
end _W
end
section
namespace _W
open _L _G
section
inductive Smp:U->Prop where
 | non:Smp .non
 | bl (b:Bool):Smp (.bl b)
 | int (i:Int):Smp (.int i)
 | str (x:PySem.Str):Smp (.str x)
 | tup (us:List U):Smp (.tup us)
inductive Thg(S:Sto):U->Prop where
 | non:Thg S .non
 | bl (b:Bool):Thg S (.bl b)
 | int (i:Int):Thg S (.int i)
 | str (x:PySem.Str):Thg S (.str x)
 | tup {us:List U} (h: ∀v∈us,Smp v) (hl:us.length<64):Thg S (.tup us)
 | lst {n:Nat}{xs:List U} (h:S[n]? = some (Cell.lst xs)):Thg S (.ref n)
 | dic {n:Nat}{kv:List (_L.Key×U)} (h:S[n]? = some (Cell.dic kv)):Thg S (.ref n)
theorem Thg.ex{S S':Sto}{u:U}(h:Thg S u)(x:Ex S S'):Thg S' u:=by
 cases h with
 | non=>exact .non
 | bl b=>exact .bl b
 | int i=>exact .int i
 | str y=>exact .str y
 | tup h hl=>exact .tup h hl
 | lst h=>exact .lst (x.some h)
 | dic h=>exact .dic (x.some h)
theorem Thg.nat{S:Sto}{l:List Nat}(hl:l.length<64):Thg S (.tup (aA l)):= .tup (λv hv=>by obtain⟨x,_,rfl⟩:=bB.mp hv;exact .int _) (by rw[dN];exact hl)
end
end _W
end
section
namespace _W
open _L _G
section
section
variable {m:Nat}{T:Nat->Nat->Nat}{S:Sto}{u:U}{st:List Nat}
theorem mc{ρ:Rho}{S1 S2:Sto}{a:ME}{r:MA}{x:U}{xs:List U}(ha:a ρ S=some (x,S1))(hr:r ρ S1=some (xs,S2)):aa a r ρ S=some (x::xs,S2):=by simp only[aa,ha,hr,aD]
theorem ml{ρ:Rho}{S1:Sto}{r:MA}{xs:List U}(h:r ρ S=some (xs,S1))(hl:xs.length<1000):bU r ρ S=some (.ref S1.length,S1++[.lst xs]):=by
 have:xs.length<=big:=by unfold big;omega
 simp only[bU,h,aD,this,if_true]
noncomputable def Tn(n:Nat)(S:Sto)(u:U):Prop:=Thg S u/\u≠.ref n
theorem Tn.ex{n:Nat}{S':Sto}(h:Tn n S u)(x:Ex S S'):Tn n S' u:=⟨h.1.ex x,h.2⟩
end
end
end _W
end
section
namespace _W
open _L _G
section
structure Inj(m:Nat)(f:Nat->Nat):Prop where
 lt: ∀x,x<m->f x<m
 inj: ∀x y,x<m->y<m->f x=f y->x=y
section
variable {m:Nat}{f:Nat->Nat}
end
end
end _W
end
section
namespace _W
open _L _G
section
theorem vT{rz is:List Nat}{ml:ME}{rl:MX}{ρ:Rho}{S S1:Sto}{cs:List U}{u:U}(hc:gO is ρ=some cs)(h:ml (cs.map some) S=some (u,S1)):eU rz is ml rl ρ S=some (.non,S1++gc λ_=>false):=by
 have e:rZ 0 ml cs [] S=some (u,S1):=h
 simp only[eU,hc,ax,Ah,e]
theorem AO{rz is:List Nat}{ml:ME}{rl:MX}{ρ:Rho}{S S1:Sto}{cs:List U}{q:Nat}(hc:gO is ρ=some cs)(h:ml (cs.map some) S=none)(hx:rl (cs.map some) S=some (q,S1))(hq:q∈rz):eU rz is ml rl ρ S=some (.ref (S1.length+3),S1++(gc (bQ q)++[.lst (aA [q])])):=by
 have e:rZ 0 ml cs [] S=none:=h
 have e2:ui 0 rl cs [] S=some (q,S1):=hx
 simp only[eU,hc,ax,Ah,e,e2]
 rw[if_pos hq]
 rfl
theorem G4(S:Sto)(b:Nat->Bool)(l:List Cell):Ex S (S++(gc b++l)):=⟨_,rfl⟩
theorem tW(S:Sto)(b:Nat->Bool):Ex S (S++gc b):=⟨_,rfl⟩
theorem Eg{S:Sto}{b:Nat->Bool}{c:Cell}:(S++(gc b++[c]))[S.length+3]? = some c:=by
 rw[ar (by omega)]
 simp[gc]
theorem nq{k n:Nat}{b:MS}{us:List U}{S:Sto}(h:b (us.map some++aq (n - k) none) S=none):_G.run k n b us S=none:=by
 unfold _G.run
 split
 ·rw[h]
 ·rfl
theorem gZ{k n q:Nat}{r:MX}{us:List U}{S S1:Sto}(hl:us.length=k)(h:r (us.map some++aq (n - k) none) S=some (q,S1)):lJ k n r us S=some (q,S1):=by
 unfold lJ
 rw[if_pos hl,h]
theorem lM{a b:MX}{s:MS}{ρ:Rho}{S S1:Sto}{q:Nat}(h:a ρ S=some (q,S1)):kG a s b ρ S=some (q,S1):=by simp only[kG,h]
theorem KW{c:MT}{a b:MX}{ρ:Rho}{S S1:Sto}(h:c ρ S=some (true,S1)):xIf c a b ρ S=a ρ S1:=by simp[xIf,h,aD]
theorem B9{a b:MS}{ρ:Rho}{S:Sto}(h:a ρ S=none):bo a b ρ S=none:=by simp only[bo,h]
theorem Jh{r:RF}{a:ME}{ρ:Rho}{S S1:Sto}{x:U}{v:Option (Nat×Sto)}(ha:a ρ S=some (x,S1))(h:r [x] S1=v):xFn r (aa a ag) ρ S=v:=by simp only[xFn,aa,ag,ha,aD,h]
theorem ub{r:RF}{a b:ME}{ρ:Rho}{S S1 S2:Sto}{x y:U}{v:Option (Nat×Sto)}(ha:a ρ S=some (x,S1))(hb:b ρ S1=some (y,S2))(h:r [x,y] S2=v):xFn r (aa a (aa b ag)) ρ S=v:=by simp only[xFn,aa,ag,ha,hb,aD,h]
section
variable {m:Nat}{T:Nat->Nat->Nat}{S:Sto}
end
end
end _W
end
section
namespace _W
open _L _G
section
section
variable {S:Sto}
end
end
end _W
end
section
namespace _W
open _L _G
section
open PySem in
open PySem in
section
variable {S:Sto}
section
variable {n m r:Nat} (hn:0<n) (hn2:n<100) (hm:0<m) (hm2:m<100) (hr:r<100)
include hn hn2 hm hm2 hr
end
end
end
end _W
end
section
namespace _W
open _L _G
section
section
variable {m:Nat}{T:Nat->Nat->Nat}
noncomputable def yd(T:Nat->Nat->Nat)(x n:Nat):Prop:=1<=n/\pw T x n=0 /\ ∀k,1<=k->k<n->pw T x k≠0
theorem yd.uniq{x a b:Nat}(h:yd T x a)(q:yd T x b):a=b:=by
 rcases Nat.lt_trichotomy a b with z |z |z
 ·exact absurd h.2.1 (q.2.2 a h.1 z)
 ·exact z
 ·exact absurd q.2.1 (h.2.2 b q.1 z)
theorem Kn(g:Grp m T){x:Nat}(hx:x<m): ∃n,yd T x n/\n<=m:=by
 obtain⟨n,h1,h2,h3,h4⟩:=g.ord hx
 exact⟨n,⟨h1,h3,h4⟩,h2⟩
open Classical in
noncomputable def od(T:Nat->Nat->Nat)(x:Nat):Nat:=if h: ∃n,yd T x n then choose h else 0
theorem JL(g:Grp m T){x:Nat}(hx:x<m):yd T x (od T x)/\od T x<=m:=by
 obtain⟨n,h,hn⟩:=Kn g hx
 have hh: ∃n,yd T x n:=⟨n,h⟩
 have e:od T x=Classical.choose hh:=dif_pos hh
 have q:=Classical.choose_spec hh
 rw[<- e]at q
 exact⟨q,by rw[q.uniq h];exact hn⟩
end
end
end _W
end
section
namespace _W
open _L _G
section
structure Sbg(m:Nat)(T:Nat->Nat->Nat)(P:List Nat):Prop where
 z:0∈P
 lt: ∀x∈P,x<m
 cl: ∀a∈P,∀b∈P,T a b∈P
section
variable {m:Nat}{T:Nat->Nat->Nat}{P:List Nat}
theorem Sbg.inv(h:Sbg m T P)(g:Grp m T){a:Nat}(ha:a∈P): ∃b,b∈P/\T b a=0/\T a b=0:=by
 have ham:=h.lt a ha
 obtain⟨⟨n1,n2,_⟩,_⟩:=JL g ham
 have pin: ∀k,pw T a k∈P:=λk=>by
  induction k with
  | zero=>exact h.z
  | succ k ih=>exact h.cl _ ih _ ha
 have e:T (pw T a (od T a - 1)) a=0:=by
  show pw T a (od T a - 1+1)=0
  rw[rG n1];exact n2
 refine⟨pw T a (od T a - 1),pin _,e,?_⟩
 obtain⟨j,hj,h1,h2⟩:=g.inv a ham
 have:pw T a (od T a - 1)=j:=g.cancelR ham (j5 g ham _) hj (e.trans h2.symm)
 rw[this];exact h1
end
structure Prt(r:Nat->List Nat)(k:Nat):Prop where
 gone: ∀y,y∈(sdF r k).2 ↔ ∃i,i<k/\y∈r i
 cov: ∀i,i<k -> ∃s∈(sdF r k).1,∀z,z∈s↔z∈r i
 dis:(sdF r k).1.Pairwise λs t =>∀y,y∈s->y∉t
noncomputable def nbr(ls:List (List Nat))(y:Nat):Nat:=ls.findIdx λs=>decide (y∈s)
structure Sds(m:Nat)(ls:List (List Nat)):Prop where
 cov: ∀y,y<m -> ∃s∈ls,y∈s
 dis:ls.Pairwise λs t =>∀y,y∈s->y∉t
theorem Sds.nb{m:Nat}{ls:List (List Nat)}(h:Sds m ls){y:Nat}(hy:y<m):nbr ls y<ls.length/\y∈ls.getD (nbr ls y) []:=by
 obtain⟨s,hs,hys⟩:=h.cov y hy
 have hl:nbr ls y<ls.length:=List.findIdx_lt_length_of_exists ⟨s,hs,decide_eq_true hys⟩
 refine⟨hl,?_⟩
 have:=List.findIdx_getElem (w:=hl)
 rw[dh,bG hl]
 exact of_decide_eq_true this
theorem Sds.uniq{m:Nat}{ls:List (List Nat)}(h:Sds m ls){y i j:Nat}(hi:i<ls.length)(hj:j<ls.length)(h1:y∈ls.getD i [])(h2:y∈ls.getD j []):i=j:=by
 rw[dh,bG hi]at h1
 rw[dh,bG hj]at h2
 rcases Nat.lt_trichotomy i j with q |q |q
 ·exact absurd h2 (yk.mp h.dis i j hi hj q y h1)
 ·exact q
 ·exact absurd h1 (yk.mp h.dis j i hj hi q y h2)
section
variable {m:Nat}{T:Nat->Nat->Nat}{P:List Nat}
end
end
end _W
end
namespace _W
open PySem PySem.Spec _L _G
section
noncomputable def sP:MS:=cK (jI ag)
noncomputable def eE:MF:=run 3 3 sP
noncomputable def wx:MS:=cK (mMT gE (m2 oIx (ae 0) (ae 1)) (aa (mC (.int 0)) ag))
noncomputable def nL:MF:=run 2 2 wx
noncomputable def lC:MS:=bo (bV 3 (mFn nL (aa (ae 0) (aa (ae 2) ag)))) (cK (EB (cOf (m2 oIn (ae 3) (ae 1))) (jI (aa (ae 3) ag)) (mC .non)))
noncomputable def dq:MF:=run 3 4 lC
noncomputable def kT:MS:=bo (bV 1 (mFn jn (aa (ae 0) (aa (mC (.int 24)) ag)))) (bo (qz (cOf (m2 oLt (mFn cg (aa (ae 1) ag)) (mC (.int 9)))) (bV 1 (mFn fX (aa (ae 1) (aa (mFn cu (aa (m2 cU (mC (.int 2)) (mFn ba (aa (ae 0) (aa (mC (.int 2)) ag)))) ag)) ag))))) (cK (ae 1)))
noncomputable def iu:MF:=run 1 2 kT
noncomputable def pe:MS:=bo (bV 3 (jL (iR2 (aa (mC (.int 1)) (aa (mFn cg (aa (ae 1) ag)) ag))))) (bo (bV 4 (bU ag)) (bo (iM 5 (iR1 (aa (mFn pD (aa (mFn cg (aa (ae 3) ag)) (aa (m2 cU (mC (.int 1)) (mFn ba (aa (ae 0) (aa (ae 2) ag)))) ag))) ag)) (cy (mML b0 (ae 4) (aa (mML jJ (ae 3) (aa (mFn ba (aa (ae 0) (aa (mFn cg (aa (ae 3) ag)) ag))) ag)) ag)))) (cK (mFn cD (aa (mFn gY (aa (ae 4) ag)) ag)))))
noncomputable def ju:MF:=run 3 6 pe
noncomputable def jR:MS:=sIf (cOf (m2 oGt (mFn cg (aa (ae 0) ag)) (ae 1))) sNo cN
noncomputable def bz:MF:=run 2 2 jR
noncomputable def jP:MX:=kG (xIf (cOf (m2 oGt (mFn cg (aa (ae 0) ag)) (ae 1))) (kG (nI 1 0) sNo xNo) xNo) (sIf (cOf (m2 oGt (mFn cg (aa (ae 0) ag)) (ae 1))) sNo cN) xNo
noncomputable def dm:RF:=lJ 2 2 jP
noncomputable def wk:MS:=sNo
noncomputable def jv:MF:=run 2 2 wk
noncomputable def lP:MX:=kG (xFn dm (aa (ae 0) (aa (mC (.int 8)) ag))) (cy (mFn bz (aa (ae 0) (aa (mC (.int 8)) ag)))) xNo
noncomputable def jr:RF:=lJ 2 2 lP
noncomputable def rX:MS:=sNo
noncomputable def hU:MF:=run 2 2 rX
noncomputable def jT:MX:=kG (xFn dm (aa (ae 0) (aa (mC (.int 8)) ag))) (cy (mFn bz (aa (ae 0) (aa (mC (.int 8)) ag)))) xNo
noncomputable def hE:RF:=lJ 2 2 jT
noncomputable def qK:MS:=sNo
noncomputable def gF:MF:=run 2 2 qK
noncomputable def iW:MX:=kG (xFn dm (aa (ae 0) (aa (mC (.int 8)) ag))) (cy (mFn bz (aa (ae 0) (aa (mC (.int 8)) ag)))) xNo
noncomputable def gn:RF:=lJ 2 2 iW
noncomputable def uC:MS:=sNo
noncomputable def gv:MF:=run 2 2 uC
noncomputable def kn:MX:=kG (xFn dm (aa (ae 0) (aa (mC (.int 8)) ag))) (cy (mFn bz (aa (ae 0) (aa (mC (.int 8)) ag)))) xNo
noncomputable def gw:RF:=lJ 2 2 kn
noncomputable def xh:MS:=sNo
noncomputable def i6:MF:=run 1 5 xh
noncomputable def mZ:MX:=kG (xFn dm (aa (ae 0) (aa (mC (.int 12)) ag))) (cy (mFn bz (aa (ae 0) (aa (mC (.int 12)) ag)))) xNo
noncomputable def iU:RF:=lJ 1 5 mZ
noncomputable def qx:MS:=sNo
noncomputable def eX:MF:=run 2 2 qx
noncomputable def i7:MX:=kG (xFn iU (aa (ae 0) ag)) sNo xNo
noncomputable def eY:RF:=lJ 2 2 i7
noncomputable def sh:MS:=sNo
noncomputable def gW:MF:=run 2 4 sh
noncomputable def jK:MX:=kG (xFn gw (aa (ae 0) (aa (ae 1) ag))) (bV 2 (mFn gv (aa (ae 0) (aa (ae 1) ag)))) (kG (xFn eY (aa (ae 0) (aa (ae 1) ag))) (bV 3 (mFn eX (aa (ae 0) (aa (ae 1) ag)))) xNo)
noncomputable def hZ:RF:=lJ 2 4 jK
noncomputable def gq:MS:=bo (bV 2 (bU (aa (eU [0] [0,1] (mFn jv (aa (ae 0) (aa (ae 1) ag))) (xFn jr (aa (ae 0) (aa (ae 1) ag)))) ag))) (bo (cy (mML b0 (ae 2) (aa (eU [0] [0,1] (mFn hU (aa (ae 0) (aa (ae 1) ag))) (xFn hE (aa (ae 0) (aa (ae 1) ag)))) ag))) (bo (cy (mML b0 (ae 2) (aa (eU [0] [0,1] (mFn gF (aa (ae 0) (aa (ae 1) ag))) (xFn gn (aa (ae 0) (aa (ae 1) ag)))) ag))) (bo (cy (mML b0 (ae 2) (aa (eU [0] [0,1] (mFn gv (aa (ae 0) (aa (ae 1) ag))) (xFn gw (aa (ae 0) (aa (ae 1) ag)))) ag))) (bo (cy (mML b0 (ae 2) (aa (eU [0] [0,1] (mFn gW (aa (ae 0) (aa (ae 1) ag))) (xFn hZ (aa (ae 0) (aa (ae 1) ag)))) ag))) (cK (ae 2))))))
noncomputable def dQ:MF:=run 2 3 gq
noncomputable def vq:MS:=bo (bV 4 (dg (eK (ae 1)) cTT (jI (aa (ae 5) (aa (m2 oIx (m2 oIx (ae 0) (ae 2)) (ae 5)) ag))))) (cK (dg (eK (ae 4)) (cOf (m2 oIn (m2 oIx (ae 5) (mC (.int 1))) (ae 3))) (ae 5)))
noncomputable def vM:MF:=run 4 5 vq
noncomputable def tL:MS:=cK (mFn cD (aa (dg (eK (ae 0)) (cOf (m2 oNe (ae 2) (ae 1))) (ae 2)) ag))
noncomputable def tD:MF:=run 2 2 tL
noncomputable def pk(g:cm)(φ:MF)(ψ:MF):MS:=bo (sIf (cOf (m2 oEq (mFn cg (aa (ae 3) ag)) (mC (.int 0)))) (cK (AN 4 g φ (aa (ae 0) (aa (ae 1) (aa (ae 2) ag))))) cN) (bo (tu (gTp 2 (iD (gN 5) (iD (gN 6) sN))) (eK (mFn vM (aa (ae 0) (aa (ae 1) (aa (ae 2) (aa (ae 3) ag)))))) (bo (bV 7 (mFn ψ (aa (ae 0) (aa (ae 1) (aa (ae 6) (aa (mFn tD (aa (ae 3) (aa (ae 6) ag))) (aa (ae 4) ag))))))) (sIf (cOf (m2 m6 (ae 7) (mC .non))) (cK (m2 cU (jI (aa (ae 5) ag)) (ae 7))) cN))) (cK (mC .non)))
noncomputable def dD(g:cm)(φ:MF):MF:=pE 5 8 (pk g φ) 14
noncomputable def lV:MS:=cK (qL (iR2 (aa (mC (.int 1)) (aa (mFn cg (aa (ae 0) ag)) ag))))
noncomputable def fb:MF:=run 1 1 lV
noncomputable def jq(a_no_more:cm):MS:=bo (cy (mFn bz (aa (ae 0) (aa (mC (.int 12)) ag)))) (cK (mFn (dD a_no_more eE) (aa (ae 0) (aa (ae 1) (aa (mC (.int 0)) (aa (mFn fb (aa (ae 0) ag)) (aa (mC (.obj a_no_more)) ag)))))))
noncomputable def eo(a_no_more:cm):MF:=run 2 2 (jq a_no_more)
noncomputable def lZ:MX:=kG (xFn dm (aa (ae 0) (aa (mC (.int 12)) ag))) (cy (mFn bz (aa (ae 0) (aa (mC (.int 12)) ag)))) xNo
noncomputable def ip:RF:=lJ 2 2 lZ
noncomputable def gX(a_step_home:cm):MS:=bo (cy (mFn bz (aa (ae 0) (aa (mC (.int 12)) ag)))) (cK (mFn (dD a_step_home dq) (aa (ae 0) (aa (ae 1) (aa (mC (.int 0)) (aa (mFn fb (aa (ae 0) ag)) (aa (mC (.obj a_step_home)) ag)))))))
noncomputable def dC(a_step_home:cm):MF:=run 2 2 (gX a_step_home)
noncomputable def jN:MX:=kG (xFn dm (aa (ae 0) (aa (mC (.int 12)) ag))) (cy (mFn bz (aa (ae 0) (aa (mC (.int 12)) ag)))) xNo
noncomputable def fL:RF:=lJ 2 2 jN
noncomputable def g8(a_no_more a_step_home:cm):MS:=bo (bV 2 (bU (aa (eU [0] [0,1] (mFn (eo a_no_more) (aa (ae 0) (aa (ae 1) ag))) (xFn ip (aa (ae 0) (aa (ae 1) ag)))) ag))) (bo (cy (mML b0 (ae 2) (aa (eU [0] [0,1] (mFn (dC a_step_home) (aa (ae 0) (aa (ae 1) ag))) (xFn fL (aa (ae 0) (aa (ae 1) ag)))) ag))) (cK (ae 2)))
noncomputable def cM(a_no_more a_step_home:cm):MF:=run 2 3 (g8 a_no_more a_step_home)
noncomputable def gz:MS:=bo (bV 2 (bU (aa (eU [0] [0] (mFn i6 (aa (ae 0) ag)) (xFn iU (aa (ae 0) ag))) ag))) (bo (cy (mML b0 (ae 2) (aa (eU [0] [0,1] (mFn eX (aa (ae 0) (aa (ae 1) ag))) (xFn eY (aa (ae 0) (aa (ae 1) ag)))) ag))) (cK (ae 2)))
noncomputable def du:MF:=run 2 3 gz
noncomputable def A6(a_no_more a_step_home:cm):MS:=bo (iM 1 (iR1 (aa (mFn vz (aa (mC (.int 1)) (aa (mFn pD (aa (mFn cg (aa (ae 0) ag)) (aa (mC (.int 8)) ag))) ag))) ag)) (bo (bV 2 (mFn jy (aa (ae 0) (aa (ae 1) ag)))) (bo (bV 3 (mFn iu (aa (ae 2) ag))) (bo (bV 4 (mFn ju (aa (ae 2) (aa (ae 3) (aa (mC (.int 3)) ag))))) (bo (sIf (cOf (m2 oNe (mFn dQ (aa (ae 3) (aa (ae 4) ag))) (m2 ed (bU (aa (bU (aa (mC (.int 0)) ag)) ag)) (mC (.int 5))))) (cK (mC (.bl false))) cN) (bo (sIf (jH (cOf (m2 oGt (mFn cg (aa (ae 3) ag)) (mC (.int 12)))) (cOf (m2 oNe (mFn (cM a_no_more a_step_home) (aa (ae 3) (aa (ae 4) ag))) (m2 ed (bU (aa (bU (aa (mC (.int 0)) ag)) ag)) (mC (.int 2)))))) (cK (mC (.bl false))) cN) (bo (sIf (jH (cOf (m2 oGt (mFn cg (aa (ae 3) ag)) (mC (.int 12)))) (cOf (m2 oNe (mFn du (aa (ae 3) (aa (ae 4) ag))) (m2 ed (bU (aa (bU (aa (mC (.int 0)) ag)) ag)) (mC (.int 2)))))) (cK (mC (.bl false))) cN) (sIf (jH (cOf (m2 oLt (mFn cg (aa (ae 3) ag)) (mC (.int 13)))) (cOf (m2 oNe (mFn (cM a_no_more a_step_home) (aa (ae 3) (aa (mSl (ae 4) none (some (mC (.int 1)))) ag))) (bU (aa (mC .non) (aa (mC .non) ag)))))) (cK (mC (.bl false))) cN)))))))) (cK (mC (.bl true)))
noncomputable def Li(a_no_more a_step_home:cm):MF:=run 1 5 (A6 a_no_more a_step_home)
end
section
open _L _G
section
variable {m:Nat}{T:Nat->Nat->Nat}{st:List Nat}{S:Sto}
noncomputable def LM(m:Nat)(T:Nat->Nat->Nat)(st:List Nat):Option (List Nat):=leF T st FA (m - 1) 0 (bj 1 (m - 1))
noncomputable def LD(m:Nat)(T:Nat->Nat->Nat)(st:List Nat):Option (List Nat):=leF T st (wJ m T st) (m - 1) 0 (bj 1 (m - 1))
theorem Gi{a:cm}(g:Grp m T)(hm:m<=12)(hs: ∀s∈st,s<m)(hsl:st.length<1000): ∃S',eo a [tab m T,.tup (aA st)] S=some (zO (LM m T st),S')/\Ex S S':=by
 have hp:=g.pos
 obtain⟨S1,e1,x1⟩:=FJ (T:=T) (st:=st) (last:=FA) (g:=a) (φ:=eE) g hs hsl (by omega) (λh w e=>by cases e;simp) (λh S _=>cZ (ρ:= [some (tab m T),some (.tup (aA st)),some (.int (h:Nat))]) rfl (dc rfl)) (m - 1) 14 0 (bj 1 (m - 1)) S (by omega) (by simp) rM (λx hx=>by have:=iC.mp hx;omega) hp
 have er:cy (mFn bz (aa (ae 0) (aa (mC (.int 12)) ag))) [some (tab m T),some (.tup (aA st))] S=some (.nx,[some (tab m T),some (.tup (aA st))],S):=by
  have:=dy (f:=bz) (ρ:= [some (tab m T),some (.tup (aA st))]) (S:=S) (a:=ae 0) (b:=mC (.int 12)) (var_eq rfl) c_i (tq (k:=12) hm)
  simp only[cy,this,aD]
 refine⟨S1,cZ (ρ:= [some (tab m T),some (.tup (aA st))]) rfl ?_,x1⟩
 show jq a [some (tab m T),some (.tup (aA st))] S=_
 exact(bp er).trans (dc (BE (f:=dD a eE) (var_eq rfl) (var_eq rfl) (c_i (z:=0)) (jt (f:=fb) (var_eq rfl) (yr hp (by omega))) rfl e1))
theorem HE{h:Nat}(g:Grp m T)(hh:h<m):dq [tab m T,.tup (aA st),.int (h:Nat)] S=some (zO (wJ m T st h),S):=by
 have e1:mFn nL (aa (ae 0) (aa (ae 2) ag)) [some (tab m T),some (.tup (aA st)),some (.int (h:Nat)),none] S=some (.int (unT m T h),S):=dy (f:=nL) (var_eq rfl) (var_eq rfl) (xV g hh)
 have ec:=KR (ρ:= [some (tab m T),some (.tup (aA st)),some (.int (h:Nat)),some (.int (unT m T h:Nat))]) (S:=S) (a:=ae 3) (b:=ae 1) (x:=unT m T h) (l:=st) (var_eq rfl) (var_eq rfl)
 refine cZ (ρ:= [some (tab m T),some (.tup (aA st)),some (.int (h:Nat)),some (.int (unT m T h:Nat))]) rfl ?_
 show lC [some (tab m T),some (.tup (aA st)),some (.int (h:Nat)),none] S=_
 refine(bp (cz e1)).trans (dc ?_)
 unfold wJ
 by_cases z:unT m T h∈st
 ·rw[decide_eq_true z]at ec
  rw[if_pos z]
  show bnd (cOf (m2 oIn (ae 3) (ae 1)) [some (tab m T),some (.tup (aA st)),some (.int (h:Nat)),some (.int (unT m T h:Nat))] S) _=_
  rw[ec]
  show jI (aa (ae 3) ag) [some (tab m T),some (.tup (aA st)),some (.int (h:Nat)),some (.int (unT m T h:Nat))] S=_
  exact KG (var_eq rfl)
 ·rw[decide_eq_false z]at ec
  rw[if_neg z]
  show bnd (cOf (m2 oIn (ae 3) (ae 1)) [some (tab m T),some (.tup (aA st)),some (.int (h:Nat)),some (.int (unT m T h:Nat))] S) _=_
  rw[ec]
  rfl
theorem AS{a:cm}(g:Grp m T)(hm:m<=12)(hs: ∀s∈st,s<m)(hsl:st.length<1000): ∃S',dC a [tab m T,.tup (aA st)] S=some (zO (LD m T st),S')/\Ex S S':=by
 have hp:=g.pos
 obtain⟨S1,e1,x1⟩:=FJ (T:=T) (st:=st) (last:=wJ m T st) (g:=a) (φ:=dq) g hs hsl (by omega) (λh w e=>by unfold wJ at e;split at e <;> cases e;simp) (λh S hh=>HE g hh) (m - 1) 14 0 (bj 1 (m - 1)) S (by omega) (by simp) rM (λx hx=>by have:=iC.mp hx;omega) hp
 have er:cy (mFn bz (aa (ae 0) (aa (mC (.int 12)) ag))) [some (tab m T),some (.tup (aA st))] S=some (.nx,[some (tab m T),some (.tup (aA st))],S):=by
  have:=dy (f:=bz) (ρ:= [some (tab m T),some (.tup (aA st))]) (S:=S) (a:=ae 0) (b:=mC (.int 12)) (var_eq rfl) c_i (tq (k:=12) hm)
  simp only[cy,this,aD]
 refine⟨S1,cZ (ρ:= [some (tab m T),some (.tup (aA st))]) rfl ?_,x1⟩
 show gX a [some (tab m T),some (.tup (aA st))] S=_
 exact(bp er).trans (dc (BE (f:=dD a dq) (var_eq rfl) (var_eq rfl) (c_i (z:=0)) (jt (f:=fb) (var_eq rfl) (yr hp (by omega))) rfl e1))
theorem Le: ∀k:Fin 24,(PySem.Str.ofString (toString ((k:Nat):Int))).length<=1000:=by decide +kernel
theorem Kb{k:Nat}(h:k<24):vW (k:Nat):=
 ⟨by rw[Int.natAbs_natCast];exact aK (Nat.log2_le_self k) (by omega),Le ⟨k,h⟩⟩
theorem IY{k:Nat}(h:k<m):cOf (m2 oGt (mFn cg (aa (ae 0) ag)) (ae 1)) [some (tab m T),some (.int (k:Nat))] S=some (true,S):=
 (of_eq (xu (len_tab (var_eq rfl)) (var_eq rfl))).trans (by rw[decide_eq_true (by omega)])
theorem qr{k:Nat}(h:k<m)(hk:k<24):dm [tab m T,.int (k:Nat)] S=some (0,S):=
 gZ rfl (show jP [some (tab m T),some (.int (k:Nat))] S=_ from lM ((KW (IY h)).trans (lM (show(if vW (k:Nat) then some (0,S) else none)=_ from if_pos (Kb hk)))))
theorem Ko{k:Nat}(h:k<m):bz [tab m T,.int (k:Nat)] S=none:=
 nq (show jR [some (tab m T),some (.int (k:Nat))] S=none from(sf (IY h)).trans rfl)
theorem KM(h:8<m):jr [tab m T,.tup (aA st)] S=some (0,S):=gZ rfl (show lP [some (tab m T),some (.tup (aA st))] S=_ from lM (ub (var_eq rfl) (c_i (z:=((8:Nat):Int))) (qr h (by decide))))
theorem Jx(h:8<m):hE [tab m T,.tup (aA st)] S=some (0,S):=gZ rfl (show jT [some (tab m T),some (.tup (aA st))] S=_ from lM (ub (var_eq rfl) (c_i (z:=((8:Nat):Int))) (qr h (by decide))))
theorem Jb(h:8<m):gn [tab m T,.tup (aA st)] S=some (0,S):=gZ rfl (show iW [some (tab m T),some (.tup (aA st))] S=_ from lM (ub (var_eq rfl) (c_i (z:=((8:Nat):Int))) (qr h (by decide))))
theorem FN(h:8<m):gw [tab m T,.tup (aA st)] S=some (0,S):=gZ rfl (show kn [some (tab m T),some (.tup (aA st))] S=_ from lM (ub (var_eq rfl) (c_i (z:=((8:Nat):Int))) (qr h (by decide))))
theorem J1(h:8<m):hZ [tab m T,.tup (aA st)] S=some (0,S):=gZ rfl (show jK [some (tab m T),some (.tup (aA st)),none,none] S=_ from lM (ub (var_eq rfl) (var_eq rfl) (FN h)))
theorem EZ(h:12<m):iU [tab m T] S=some (0,S):=gZ rfl (show mZ [some (tab m T),none,none,none,none] S=_ from lM (ub (var_eq rfl) (c_i (z:=((12:Nat):Int))) (qr h (by decide))))
theorem Jq(h:12<m):eY [tab m T,.tup (aA st)] S=some (0,S):=gZ rfl (show i7 [some (tab m T),some (.tup (aA st))] S=_ from lM (Jh (var_eq rfl) (EZ h)))
theorem HY(h:12<m):ip [tab m T,.tup (aA st)] S=some (0,S):=gZ rfl (show lZ [some (tab m T),some (.tup (aA st))] S=_ from lM (ub (var_eq rfl) (c_i (z:=((12:Nat):Int))) (qr h (by decide))))
theorem Gm(h:12<m):fL [tab m T,.tup (aA st)] S=some (0,S):=gZ rfl (show jN [some (tab m T),some (.tup (aA st))] S=_ from lM (ub (var_eq rfl) (c_i (z:=((12:Nat):Int))) (qr h (by decide))))
theorem FD(h:12<m):cy (mFn bz (aa (ae 0) (aa (mC (.int 12)) ag))) [some (tab m T),some (.tup (aA st))] S=none:=by
 have:=dy (f:=bz) (ρ:= [some (tab m T),some (.tup (aA st))]) (S:=S) (a:=ae 0) (b:=mC (.int 12)) (var_eq rfl) (c_i (z:=((12:Nat):Int))) (Ko h)
 simp only[cy,this,bnd]
theorem Hm{a:cm}(h:12<m):eo a [tab m T,.tup (aA st)] S=none:=nq (show jq a [some (tab m T),some (.tup (aA st))] S=none from B9 (FD h))
theorem Hn{a:cm}(h:12<m):dC a [tab m T,.tup (aA st)] S=none:=nq (show gX a [some (tab m T),some (.tup (aA st))] S=none from B9 (FD h))
noncomputable def Zs(S0 S:Sto)(r n:Nat):Prop:=Ex S0 S/\S0.length<=r /\ ∃rs:List Nat,rs.length=n/\S[r]? = some (.lst (rs.map U.ref)) /\ ∀x∈rs,x≠r/\S[x]? = some (.lst (aA [0]))
theorem Zs.add{S0 S1:Sto}{ρ:Rho}{o a:ME}{r n x:Nat}(z:Zs S0 S r n)(hn:n<1000)(ho:o ρ S=some (.ref r,S))(ha:a ρ S=some (.ref x,S1))(x1:Ex S S1)(hx:S.length<=x)(hc:S1[x]? = some (.lst (aA [0]))): ∃S',cy (mML b0 o (aa a ag)) ρ S=some (.nx,ρ,S')/\Zs S0 S' r (n+1):=by
 obtain⟨z1,z2,rs,z3,z4,z5⟩:=z
 have hr:r<S.length:=(af.mp z4).1
 have hr1:r<S1.length:=ai hr x1.len
 have e:=append_eq ho ha z4 (x1.some z4) (by rw[aE,z3];unfold big;omega)
 refine⟨_,e,(z1.trans x1).set z2,z2,rs++[x],by simp[z3],by rw[aI hr1];simp,λy hy =>?_⟩
 have hne:y≠r/\S1[y]? = some (.lst (aA [0])):=by
  rcases bZ.mp hy with hy |hy
  ·exact⟨(z5 y hy).1,x1.some (z5 y hy).2⟩
  ·simp at hy;subst hy;exact⟨by omega,hc⟩
 exact⟨hne.1,by rw[ay (dM hne.1)];exact hne.2⟩
theorem Zs.one{ρ:Rho}{a:ME}{S1:Sto}{x:Nat}(ha:a ρ S=some (.ref x,S1))(x1:Ex S S1)(hc:S1[x]? = some (.lst (aA [0]))): ∃S',bU (aa a ag) ρ S=some (.ref S1.length,S')/\Zs S S' S1.length 1:=by
 have hx:x<S1.length:=(af.mp hc).1
 exact⟨_,yF ha,x1.trans (Ex.push _ _),x1.len,[x],rfl,fQ _ _,λy hy=>by simp at hy;subst hy;exact⟨by omega,(Ex.push _ _).some hc⟩⟩
theorem yB: ∀{rs:List Nat},(∀x∈rs,S[x]? = some (.lst (aA [0])))->d5 (toD S 39) (rs.map U.ref)=some (aq rs.length (.list [.int 0]))
 | [],_=>rfl
 | x::rs,h=>by
   have ih:=yB (rs:=rs) λy hy=>h y (aw _ hy)
   have e:toD S 39 (.ref x)=some (.list [.int 0]):=by
    show(getL S x).bind _=_
    unfold getL
    rw[h x aP]
    rfl
   rw[bD]
   unfold d5
   rw[e,ih]
   rfl
theorem Ct{r:Nat}{rs:List Nat}(h:S[r]? = some (.lst (rs.map U.ref)))(h2: ∀x∈rs,S[x]? = some (.lst (aA [0]))):toD S 40 (.ref r)=some (.list (aq rs.length (.list [.int 0]))):=by
 show(getL S r).bind _=_
 unfold getL
 rw[h]
 show(d5 (toD S 39) (rs.map U.ref)).map _=_
 rw[yB h2]
 rfl
theorem Cy{ρ:Rho}{n:Nat}(h0:0<n)(hn:n<1000): ∃r S',m2 ed (bU (aa (bU (aa (mC (.int 0)) ag)) ag)) (mC (.int (n:Nat))) ρ S=some (.ref r,S')/\Ex S S'/\toD S' 40 (.ref r)=some (.list (aq n (.list [.int 0]))):=by
 have e1:bU (aa (mC (.int 0)) ag) ρ S=some (.ref S.length,S++[.lst (aA [0])]):=yF c_i
 have e2:bU (aa (bU (aa (mC (.int 0)) ag)) ag) ρ S=some (.ref (S++[Cell.lst (aA [0])]).length,(S++[Cell.lst (aA [0])])++[.lst [.ref S.length]]):=yF e1
 have hk:rB 1 (n:Nat):=⟨by omega,by omega,by decide,by decide⟩
 have e3:m2 ed (bU (aa (bU (aa (mC (.int 0)) ag)) ag)) (mC (.int (n:Nat))) ρ S=some (.ref ((S++[Cell.lst (aA [0])])++[Cell.lst [U.ref S.length]]).length,((S++[Cell.lst (aA [0])])++[Cell.lst [U.ref S.length]])++[Cell.lst (aq n [U.ref S.length]).flatten]):=op2 (f:=ed) e2 c_i (by
  show(match ((S++[Cell.lst (aA [0])])++[Cell.lst [.ref S.length]])[(S++[Cell.lst (aA [0])]).length]? with
   | some (.lst xs)=>if rB xs.length (n:Nat) then _ else none
   | _=>none)=_
  rw[fQ]
  show(if rB 1 (n:Nat) then _ else none)=_
  rw[if_pos hk,su])
 refine⟨_,_,e3,((Ex.push _ _).trans (Ex.push _ _)).trans (Ex.push _ _),?_⟩
 have hf:(aq n [U.ref S.length]).flatten=(aq n S.length).map U.ref:=by
  rw[List.map_replicate]
  exact List.flatten_replicate_singleton
 rw[hf]
 have:=Ct (S:=((S++[Cell.lst (aA [0])])++[Cell.lst [U.ref S.length]])++[Cell.lst ((aq n S.length).map U.ref)]) (r:=((S++[Cell.lst (aA [0])])++[Cell.lst [.ref S.length]]).length) (rs:=aq n S.length) (fQ _ _) (λx hx=>by
  rw[List.eq_of_mem_replicate hx]
  exact((Ex.push _ _).trans (Ex.push _ _)).some (fQ _ _))
 rw[iO]at this
 exact this
theorem Cf:d9 (.list (aq 5 (.list [.int 0]))) (.list (aq 5 (.list [.int 0])))=true/\d9 (.list (aq 2 (.list [.int 0]))) (.list (aq 2 (.list [.int 0])))=true:=by decide +kernel
theorem JF{ρ:Rho}{S1 S2:Sto}{a b:ME}{x y:U}{d:rJ}(ha:a ρ S=some (x,S1))(hb:b ρ S1=some (y,S2))(hx:toD S2 40 x=some d)(hy:toD S2 40 y=some d)(h:d9 d d=true):m2 oNe a b ρ S=some (.bl false,S2):=
 op2 ha hb (by simp only[oNe,_G.eqU,hx,hy,ax,bx,h];rfl)
theorem nX{is:List Nat}{ml:ME}{rl:MX}{ρ:Rho}{cs:List U}(hc:gO is ρ=some cs)(h:ml (cs.map some) S=none)(hx:rl (cs.map some) S=some (0,S)): ∃x S1,eU [0] is ml rl ρ S=some (.ref x,S1)/\Ex S S1/\S.length<=x/\S1[x]? = some (.lst (aA [0])):=
 ⟨_,_,AO hc h hx (by decide),G4 _ _ _,by omega,Eg⟩
end
end
section
open _L _G
section
variable {m:Nat}{T:Nat->Nat->Nat}{st:List Nat}{S:Sto}
theorem jO{ρ:Rho}{x y:U}(h0:ρ[0]? = some (some x))(h1:ρ[1]? = some (some y)):gO [0,1] ρ=some [x,y]:=by
 simp only[gO,d5,h0,h1,ax,id,bx]
theorem Ee{ρ:Rho}{x:U}(h0:ρ[0]? = some (some x)):gO [0] ρ=some [x]:=by
 simp only[gO,d5,h0,ax,id,bx]
theorem no2{f:MF}{x y:U}(h:f [x,y] S=none):mFn f (aa (ae 0) (aa (ae 1) ag)) ([x,y].map some) S=none:=dy (f:=f) (var_eq rfl) (var_eq rfl) h
theorem u9{r:RF}{x y:U}(h:r [x,y] S=some (0,S)):xFn r (aa (ae 0) (aa (ae 1) ag)) ([x,y].map some) S=some (0,S):=ub (var_eq rfl) (var_eq rfl) h
theorem K2(h:8<m): ∃r S',dQ [tab m T,.tup (aA st)] S=some (.ref r,S')/\Zs S S' r 5:=by
 have z: ∀{f:MF},f=_G.run 2 2 sNo -> ∀S,f [tab m T,.tup (aA st)] S=none:=λe S=>by rw[e];exact nq rfl
 obtain⟨x1,A1,c1,y1,l1,g1⟩:=nX (S:=S) (is:= [0,1]) (ml:=mFn jv (aa (ae 0) (aa (ae 1) ag))) (rl:=xFn jr (aa (ae 0) (aa (ae 1) ag))) (ρ:= [some (tab m T),some (.tup (aA st)),none]) (jO rfl rfl) (no2 (z rfl S)) (u9 (KM h))
 obtain⟨S1,e1,z1⟩:=Zs.one c1 y1 g1
 obtain⟨x2,A2,c2,y2,l2,g2⟩:=nX (S:=S1) (is:= [0,1]) (ml:=mFn hU (aa (ae 0) (aa (ae 1) ag))) (rl:=xFn hE (aa (ae 0) (aa (ae 1) ag))) (ρ:= [some (tab m T),some (.tup (aA st)),some (.ref A1.length)]) (jO rfl rfl) (no2 (z rfl S1)) (u9 (Jx h))
 obtain⟨S2,e2,z2⟩:=z1.add (o:=ae 2) (by decide) (var_eq rfl) c2 y2 l2 g2
 obtain⟨x3,A3,c3,y3,l3,g3⟩:=nX (S:=S2) (is:= [0,1]) (ml:=mFn gF (aa (ae 0) (aa (ae 1) ag))) (rl:=xFn gn (aa (ae 0) (aa (ae 1) ag))) (ρ:= [some (tab m T),some (.tup (aA st)),some (.ref A1.length)]) (jO rfl rfl) (no2 (z rfl S2)) (u9 (Jb h))
 obtain⟨S3,e3,z3⟩:=z2.add (o:=ae 2) (by decide) (var_eq rfl) c3 y3 l3 g3
 obtain⟨x4,A4,c4,y4,l4,g4⟩:=nX (S:=S3) (is:= [0,1]) (ml:=mFn gv (aa (ae 0) (aa (ae 1) ag))) (rl:=xFn gw (aa (ae 0) (aa (ae 1) ag))) (ρ:= [some (tab m T),some (.tup (aA st)),some (.ref A1.length)]) (jO rfl rfl) (no2 (z rfl S3)) (u9 (FN h))
 obtain⟨S4,e4,z4⟩:=z3.add (o:=ae 2) (by decide) (var_eq rfl) c4 y4 l4 g4
 obtain⟨x5,A5,c5,y5,l5,g5⟩:=nX (S:=S4) (is:= [0,1]) (ml:=mFn gW (aa (ae 0) (aa (ae 1) ag))) (rl:=xFn hZ (aa (ae 0) (aa (ae 1) ag))) (ρ:= [some (tab m T),some (.tup (aA st)),some (.ref A1.length)]) (jO rfl rfl) (no2 (nq rfl)) (u9 (J1 h))
 obtain⟨S5,e5,z5⟩:=z4.add (o:=ae 2) (by decide) (var_eq rfl) c5 y5 l5 g5
 exact⟨_,S5,cZ (ρ:= [some (tab m T),some (.tup (aA st)),some (.ref A1.length)]) rfl (show gq [some (tab m T),some (.tup (aA st)),none] S=_ from(bp (cz e1)).trans ((bp e2).trans ((bp e3).trans ((bp e4).trans ((bp e5).trans (dc (var_eq rfl))))))),z5⟩
theorem J4{a b:cm}(h:12<m): ∃r S',cM a b [tab m T,.tup (aA st)] S=some (.ref r,S')/\Zs S S' r 2:=by
 obtain⟨x1,A1,c1,y1,l1,g1⟩:=nX (S:=S) (is:= [0,1]) (ml:=mFn (eo a) (aa (ae 0) (aa (ae 1) ag))) (rl:=xFn ip (aa (ae 0) (aa (ae 1) ag))) (ρ:= [some (tab m T),some (.tup (aA st)),none]) (jO rfl rfl) (no2 (Hm h)) (u9 (HY h))
 obtain⟨S1,e1,z1⟩:=Zs.one c1 y1 g1
 obtain⟨x2,A2,c2,y2,l2,g2⟩:=nX (S:=S1) (is:= [0,1]) (ml:=mFn (dC b) (aa (ae 0) (aa (ae 1) ag))) (rl:=xFn fL (aa (ae 0) (aa (ae 1) ag))) (ρ:= [some (tab m T),some (.tup (aA st)),some (.ref A1.length)]) (jO rfl rfl) (no2 (Hn h)) (u9 (Gm h))
 obtain⟨S2,e2,z2⟩:=z1.add (o:=ae 2) (by decide) (var_eq rfl) c2 y2 l2 g2
 exact⟨_,S2,cZ (ρ:= [some (tab m T),some (.tup (aA st)),some (.ref A1.length)]) rfl (show g8 a b [some (tab m T),some (.tup (aA st)),none] S=_ from(bp (cz e1)).trans ((bp e2).trans (dc (var_eq rfl)))),z2⟩
theorem KP(h:12<m): ∃r S',du [tab m T,.tup (aA st)] S=some (.ref r,S')/\Zs S S' r 2:=by
 obtain⟨x1,A1,c1,y1,l1,g1⟩:=nX (S:=S) (is:= [0]) (ml:=mFn i6 (aa (ae 0) ag)) (rl:=xFn iU (aa (ae 0) ag)) (ρ:= [some (tab m T),some (.tup (aA st)),none]) (Ee rfl) (jt (f:=i6) (var_eq rfl) (nq rfl)) (Jh (var_eq rfl) (EZ h))
 obtain⟨S1,e1,z1⟩:=Zs.one c1 y1 g1
 obtain⟨x2,A2,c2,y2,l2,g2⟩:=nX (S:=S1) (is:= [0,1]) (ml:=mFn eX (aa (ae 0) (aa (ae 1) ag))) (rl:=xFn eY (aa (ae 0) (aa (ae 1) ag))) (ρ:= [some (tab m T),some (.tup (aA st)),some (.ref A1.length)]) (jO rfl rfl) (no2 (nq rfl)) (u9 (Jq h))
 obtain⟨S2,e2,z2⟩:=z1.add (o:=ae 2) (by decide) (var_eq rfl) c2 y2 l2 g2
 exact⟨_,S2,cZ (ρ:= [some (tab m T),some (.tup (aA st)),some (.ref A1.length)]) rfl (show gz [some (tab m T),some (.tup (aA st)),none] S=_ from(bp (cz e1)).trans ((bp e2).trans (dc (var_eq rfl)))),z2⟩
theorem Ef{a b:cm}(g:Grp m T)(hm:m<=12)(hs: ∀s∈st,s<m)(hl:st.length<1000): ∃r S',cM a b [tab m T,.tup (aA st)] S=some (.ref r,S')/\Ex S S'/\S'[r]? = some (.lst [.non,.non]):=by
 obtain⟨B1,k1,w1⟩:=Gi (a:=a) (S:=S) g hm hs hl
 have c1:=vT (rz:= [0]) (is:= [0,1]) (ml:=mFn (eo a) (aa (ae 0) (aa (ae 1) ag))) (rl:=xFn ip (aa (ae 0) (aa (ae 1) ag))) (ρ:= [some (tab m T),some (.tup (aA st)),none]) (jO rfl rfl) (dy (f:=eo a) (ρ:= [tab m T,.tup (aA st)].map some) (var_eq rfl) (var_eq rfl) k1)
 have e1:=yF c1
 obtain⟨B2,k2,w2⟩:=AS (a:=b) (S:=(B1++gc λ_=>false)++[.lst [.non]]) g hm hs hl
 have c2:=vT (rz:= [0]) (is:= [0,1]) (ml:=mFn (dC b) (aa (ae 0) (aa (ae 1) ag))) (rl:=xFn fL (aa (ae 0) (aa (ae 1) ag))) (ρ:= [some (tab m T),some (.tup (aA st)),some (.ref (B1++gc λ_=>false).length)]) (jO rfl rfl) (dy (f:=dC b) (ρ:= [tab m T,.tup (aA st)].map some) (var_eq rfl) (var_eq rfl) k2)
 have hp:=fQ (B1++gc λ_=>false) (Cell.lst [.non])
 have hp2:=(w2.trans (tW B2 λ_=>false)).some hp
 have e2:=append_eq (o:=ae 2) (var_eq rfl) c2 hp hp2 (by decide)
 have hx:=(w1.trans (tW B1 λ_=>false))
 refine⟨_,_,cZ (ρ:= [some (tab m T),some (.tup (aA st)),some (.ref (B1++gc λ_=>false).length)]) rfl (show g8 a b [some (tab m T),some (.tup (aA st)),none] S=_ from(bp (cz e1)).trans ((bp e2).trans (dc (var_eq rfl)))),(((hx.trans (Ex.push _ _)).trans w2).trans (tW _ _)).set hx.len,?_⟩
 rw[aI (af.mp hp2).1]
 rfl
theorem Di{n:Nat}(h:mX n S): ∃m T S',iu [.ref n] S=some (tab m T,S')/\Grp m T/\9<=m/\m<=24/\Stp n S S':=by
 obtain⟨m0,T0,S0,f0,g0,hm0,st0⟩:=Bm (most:=24) h (by decide) (by decide)
 obtain⟨ρ1,S1,e1,m,T,rfl,g,h9,h24,st1⟩:=yS (c:=cOf (m2 oLt (mFn cg (aa (ae 1) ag)) (mC (.int 9)))) (b:=bV 1 (mFn fX (aa (ae 1) (aa (mFn cu (aa (m2 cU (mC (.int 2)) (mFn ba (aa (ae 0) (aa (mC (.int 2)) ag)))) ag)) ag))))
  (λμ ρ S' =>∃m T,ρ = [some (.ref n),some (tab m T)]/\Grp m T/\m<=24/\μ=24 - m/\Stp n S S') (λρ S' =>∃m T,ρ = [some (.ref n),some (tab m T)]/\Grp m T/\9<=m/\m<=24/\Stp n S S') (by
   rintro μ ρ S' ⟨m,T,rfl,g,hm,rfl,st⟩
   have hp:=g.pos
   have c:=of_eq (Eh (ρ:= [some (.ref n),some (tab m T)]) (S:=S') (a:=mFn cg (aa (ae 1) ag)) (b:=mC (.int 9)) (len_tab (var_eq rfl)) c_i)
   refine⟨_,_,c,λz =>?_,λz =>?_⟩
   ·have z:=of_decide_eq_false z
    exact⟨m,T,rfl,g,by omega,hm,st⟩
   ·have z:=of_decide_eq_true z
    obtain⟨r,S2,f2,hr,st2⟩:=jQ (m:=2) st.st (by decide) (by decide)
    obtain⟨S3,f3,x3⟩:=kS (n:=2+r) (S:=S2) (by omega) (by unfold big;omega)
    obtain⟨S4,f4,x4⟩:=zb (S:=S3) (k:=m) (m:=2+r) (A:=T) (B:=eu (2+r)) hp (by omega) (by omega) (by omega) g.cl
    have fc:=jt (f:=cu) (ρ:= [some (.ref n),some (tab m T)]) (S:=S') (add_n (a:=mC (.int 2)) (x:=2) (y:=r) c_i (dy (f:=ba) (a:=ae 0) (b:=mC (.int 2)) (var_eq rfl) c_i f2)) f3
    have hle:m*(2+r)<=24:=by
     have:m<=8:=by omega
     exact aB (Nat.mul_le_mul this (show 2+r<=3 by omega)) (by decide)
    have hlt:m<m*(2+r):=by
     have:=gH m (show 2<=2+r by omega)
     omega
    exact⟨_,S4,24 - m*(2+r),by omega,cz (dy (f:=fX) (a:=ae 1) (var_eq rfl) fc f4),_,_,rfl,vd g (j7 (by omega)),hle,rfl,(st.trans st2).step (x3.trans x4)⟩)
  fuel (24 - m0) [some (.ref n),some (tab m0 T0)] S0 (by unfold fuel;omega) ⟨m0,T0,rfl,g0,hm0,rfl,st0⟩
 exact⟨m,T,S1,cZ (ρ:= [some (.ref n),some (tab m T)]) rfl (show kT [some (.ref n),none] S=_ from(bp (cz (dy (f:=jn) (var_eq rfl) c_i f0))).trans ((bp e1).trans (dc (var_eq rfl)))),g,h9,h24,st1⟩
theorem LH{ρ:Rho}{a:ME}{l:List Nat}(ha:a ρ S=some (.tup (aA l),S)):mSl a none (some (mC (.int 1))) ρ S=some (.tup (aA (l.take 1)),S):=by
 have e:cut (aA l) none (some 1)=aA (l.take 1):=by
  unfold cut
  have e1:HT.sIx (aA l).length (aA l).length (some 1)=min 1 (aA l).length:=HT.sIx_nat _ _ 1
  rw[e1]
  cases l with
  | nil=>rfl
  | cons x r=>simp[aA,HT.sIx]
 simp only[mSl,ha,aD,yv,mC]
 rw[e]
theorem BD{ρ:Rho}{a b:ME}{S1:Sto}{r n:Nat}(ha:a ρ S=some (.ref r,S1))(z:Zs S S1 r n)(hb: ∃r' S2,b ρ S1=some (.ref r',S2)/\Ex S1 S2/\toD S2 40 (.ref r')=some (.list (aq n (.list [.int 0]))))(h:d9 (.list (aq n (.list [.int 0]))) (.list (aq n (.list [.int 0])))=true): ∃S',m2 oNe a b ρ S=some (.bl false,S')/\Ex S S':=by
 obtain⟨r',S2,hb,x2,hd⟩:=hb
 obtain⟨z1,z2,rs,z3,z4,z5⟩:=z
 have:=Ct (x2.some z4) λx hx=>x2.some (z5 x hx).2
 rw[z3]at this
 exact⟨S2,JF ha hb this hd h,z1.trans x2⟩
end
theorem xa{ρ:Rho}{S S1:Sto}{a b:MT}(ha:a ρ S=some (false,S1)):jH a b ρ S=some (false,S1):=by simp[jH,ha,aD]
theorem xk{ρ:Rho}{S S1 S2:Sto}{a b:MT}(ha:a ρ S=some (true,S1))(hb:b ρ S1=some (false,S2)):jH a b ρ S=some (false,S2):=by simp[jH,ha,hb,aD]
noncomputable def F3(a b:cm):MS:=bo (bV 2 (mFn jy (aa (ae 0) (aa (ae 1) ag)))) (bo (bV 3 (mFn iu (aa (ae 2) ag))) (bo (bV 4 (mFn ju (aa (ae 2) (aa (ae 3) (aa (mC (.int 3)) ag))))) (bo (sIf (cOf (m2 oNe (mFn dQ (aa (ae 3) (aa (ae 4) ag))) (m2 ed (bU (aa (bU (aa (mC (.int 0)) ag)) ag)) (mC (.int 5))))) (cK (mC (.bl false))) cN) (bo (sIf (jH (cOf (m2 oGt (mFn cg (aa (ae 3) ag)) (mC (.int 12)))) (cOf (m2 oNe (mFn (cM a b) (aa (ae 3) (aa (ae 4) ag))) (m2 ed (bU (aa (bU (aa (mC (.int 0)) ag)) ag)) (mC (.int 2)))))) (cK (mC (.bl false))) cN) (bo (sIf (jH (cOf (m2 oGt (mFn cg (aa (ae 3) ag)) (mC (.int 12)))) (cOf (m2 oNe (mFn du (aa (ae 3) (aa (ae 4) ag))) (m2 ed (bU (aa (bU (aa (mC (.int 0)) ag)) ag)) (mC (.int 2)))))) (cK (mC (.bl false))) cN) (sIf (jH (cOf (m2 oLt (mFn cg (aa (ae 3) ag)) (mC (.int 13)))) (cOf (m2 oNe (mFn (cM a b) (aa (ae 3) (aa (mSl (ae 4) none (some (mC (.int 1)))) ag))) (bU (aa (mC .non) (aa (mC .non) ag)))))) (cK (mC (.bl false))) cN))))))
theorem BF(a b:cm)(ns:List Int)(hl:ns.length<=63)(S:Sto)(h1:S.length=1)(h2:getL S 0=some (ns.map U.int)): ∃S',Li a b [.ref 0] S=some (.bl true,S'):=by
 have hsd:Scr ns S:=h2
 obtain⟨q,hq,eq⟩:=Bv (ρ:= [some (.ref 0),none,none,none,none]) (c:=8) hsd rfl hl
 obtain⟨ρ1,S1,e1,_,_⟩:=oH (i:=1) (a:=mFn vz (aa (mC (.int 1)) (aa (mFn pD (aa (mFn cg (aa (ae 0) ag)) (aa (mC (.int 8)) ag))) ag))) (n:=q) (b:=F3 a b)
  (ρ:= [some (.ref 0),none,none,none,none]) (S:=S) eq (by unfold big;omega)
  (λk ρ S'=>(∃a b c d,ρ = [some (.ref 0),a,b,c,d])/\Scr ns S') ⟨⟨none,none,none,none,rfl⟩,hsd⟩
  (by
   rintro k ρ S' hk ⟨⟨u1,u2,u3,u4,rfl⟩,hs⟩
   have h0:=hs.lt
   obtain⟨S2,f2,x2,st2⟩:=Cm (k:=k) hs
   obtain⟨m,T,S3,f3,gr,h9,h24,st3⟩:=Di st2
   obtain⟨w,S4,f4,st4,hw,hwl,_,nd,_⟩:=Aj (most:=3) st3.st gr (by omega) (by decide) (by decide)
   have fg:=cz (i:=3) (jt (f:=iu) (ρ:= [some (.ref 0),some (.int k),some (.ref S'.length),u3,u4]) (a:=ae 2) (var_eq rfl) f3)
   have fs:=cz (i:=4) (Fy (f:=ju) (ρ:= [some (.ref 0),some (.int k),some (.ref S'.length),some (tab m T),u4]) (a:=ae 2) (b:=ae 3) (c:=mC (.int 3)) (var_eq rfl) (var_eq rfl) (c_i (z:=((3:Nat):Int))) f4)
   obtain⟨r5,S5,f5,z5⟩:=K2 (st:=w) (S:=S4) (T:=T) (show 8<m by omega)
   obtain⟨S6,f6,x6⟩:=BD (ρ:= [some (.ref 0),some (.int k),some (.ref S'.length),some (tab m T),some (.tup (aA w))]) (dy (f:=dQ) (a:=ae 3) (b:=ae 4) (var_eq rfl) (var_eq rfl) f5) z5 (Cy (n:=5) (by decide) (by decide)) Cf.1
   have lg:=of_eq (xu (ρ:= [some (.ref 0),some (.int k),some (.ref S'.length),some (tab m T),some (.tup (aA w))]) (S:=S6) (a:=mFn cg (aa (ae 3) ag)) (b:=mC (.int 12)) (len_tab (var_eq rfl)) c_i)
   have fin: ∃S7,bo (sIf (jH (cOf (m2 oGt (mFn cg (aa (ae 3) ag)) (mC (.int 12)))) (cOf (m2 oNe (mFn (cM a b) (aa (ae 3) (aa (ae 4) ag))) (m2 ed (bU (aa (bU (aa (mC (.int 0)) ag)) ag)) (mC (.int 2)))))) (cK (mC (.bl false))) cN) (bo (sIf (jH (cOf (m2 oGt (mFn cg (aa (ae 3) ag)) (mC (.int 12)))) (cOf (m2 oNe (mFn du (aa (ae 3) (aa (ae 4) ag))) (m2 ed (bU (aa (bU (aa (mC (.int 0)) ag)) ag)) (mC (.int 2)))))) (cK (mC (.bl false))) cN) (sIf (jH (cOf (m2 oLt (mFn cg (aa (ae 3) ag)) (mC (.int 13)))) (cOf (m2 oNe (mFn (cM a b) (aa (ae 3) (aa (mSl (ae 4) none (some (mC (.int 1)))) ag))) (bU (aa (mC .non) (aa (mC .non) ag)))))) (cK (mC (.bl false))) cN)) [some (.ref 0),some (.int k),some (.ref S'.length),some (tab m T),some (.tup (aA w))] S6=some (.nx,[some (.ref 0),some (.int k),some (.ref S'.length),some (tab m T),some (.tup (aA w))],S7)/\Ex S6 S7:=by
    by_cases h12:12<m
    ·rw[decide_eq_true (by omega)]at lg
     obtain⟨r7,S7,f7,z7⟩:=J4 (a:=a) (b:=b) (st:=w) (S:=S6) (T:=T) h12
     obtain⟨S8,f8,x8⟩:=BD (ρ:= [some (.ref 0),some (.int k),some (.ref S'.length),some (tab m T),some (.tup (aA w))]) (dy (f:=cM a b) (a:=ae 3) (b:=ae 4) (var_eq rfl) (var_eq rfl) f7) z7 (Cy (n:=2) (by decide) (by decide)) Cf.2
     have lg8:=of_eq (xu (ρ:= [some (.ref 0),some (.int k),some (.ref S'.length),some (tab m T),some (.tup (aA w))]) (S:=S8) (a:=mFn cg (aa (ae 3) ag)) (b:=mC (.int 12)) (len_tab (var_eq rfl)) c_i)
     rw[decide_eq_true (by omega)]at lg8
     obtain⟨r9,S9,f9,z9⟩:=KP (st:=w) (S:=S8) (T:=T) h12
     obtain⟨B1,k1,w1⟩:=BD (ρ:= [some (.ref 0),some (.int k),some (.ref S'.length),some (tab m T),some (.tup (aA w))]) (dy (f:=du) (a:=ae 3) (b:=ae 4) (var_eq rfl) (var_eq rfl) f9) z9 (Cy (n:=2) (by decide) (by decide)) Cf.2
     have lt:=of_eq (Eh (ρ:= [some (.ref 0),some (.int k),some (.ref S'.length),some (tab m T),some (.tup (aA w))]) (S:=B1) (a:=mFn cg (aa (ae 3) ag)) (b:=mC (.int 13)) (len_tab (var_eq rfl)) c_i)
     rw[decide_eq_false (by omega)]at lt
     exact⟨B1,(bp ((kH (xk lg (of_eq f8))).trans rfl)).trans ((bp ((kH (xk lg8 (of_eq k1))).trans rfl)).trans ((kH (xa lt)).trans rfl)),x8.trans w1⟩
    ·rw[decide_eq_false (by omega)]at lg
     have lt:=of_eq (Eh (ρ:= [some (.ref 0),some (.int k),some (.ref S'.length),some (tab m T),some (.tup (aA w))]) (S:=S6) (a:=mFn cg (aa (ae 3) ag)) (b:=mC (.int 13)) (len_tab (var_eq rfl)) c_i)
     rw[decide_eq_true (by omega)]at lt
     obtain⟨r7,S7,f7,x7,g7⟩:=Ef (a:=a) (b:=b) (st:=w.take 1) (S:=S6) gr (by omega) (λs hs=>hw s (Dc hs)) (by rw[mI];omega)
     have n7:bU (aa (mC .non) (aa (mC .non) ag)) [some (.ref 0),some (.int k),some (.ref S'.length),some (tab m T),some (.tup (aA w))] S7=some (.ref S7.length,S7++[.lst [.non,.non]]):=yp rfl rfl
     have d: ∀{S:Sto}{r:Nat},S[r]? = some (.lst [.non,.non])->toD S 40 (.ref r)=some (.list [.none,.none]):=λ{S r} h=>by
      show(getL S r).bind _=_
      unfold getL
      rw[h]
      rfl
     have k7:=JF (dy (f:=cM a b) (a:=ae 3) (b:=mSl (ae 4) none (some (mC (.int 1)))) (var_eq rfl) (LH (var_eq rfl)) f7) n7 (d ((Ex.push _ _).some g7)) (d (fQ _ _)) (by decide +kernel)
     exact⟨_,(bp ((kH (xa lg)).trans rfl)).trans ((bp ((kH (xa lg)).trans rfl)).trans ((kH (xk lt (of_eq k7))).trans rfl)),x7.trans (Ex.push _ _)⟩
   obtain⟨S7,f7,x7⟩:=fin
   refine⟨_,S7,(bp (cz (dy (var_eq rfl) (var_eq rfl) f2))).trans ((bp fg).trans ((bp fs).trans ((bp ((kH (of_eq f6)).trans rfl)).trans f7))),⟨_,_,_,_,rfl⟩,?_⟩
   exact((hs.ex λc h=>x2.some h).ex λc h=>(st3.trans st4).some (by omega) h).ex λc h=>(x6.trans x7).some h)
 exact⟨S1,cZ (ρ:=ρ1) rfl (show A6 a b [some (.ref 0),none,none,none,none] S=_ from(bp e1).trans (dc rfl))⟩
end
noncomputable def top(i:Nat):Stmt:=PySem.Challenge.pw_groupwalks_k44_too_many_things.main.body.getD i (.Pass ⟨0,0,0,0⟩)
abbrev j8:Stmt:=top 22
abbrev lI:Stmt:=top 14
abbrev ir:Stmt:=top 23
abbrev fI:Stmt:=top 52
abbrev ib:Stmt:=top 53
abbrev i4:Stmt:=top 54
abbrev iw:Stmt:=top 55
abbrev ij:Stmt:=top 56
abbrev fK:Stmt:=top 58
abbrev iV:Stmt:=top 57
abbrev ic:Stmt:=top 60
abbrev ie:Stmt:=top 59
abbrev il:Stmt:=top 61
abbrev ix:Stmt:=top 64
abbrev iq:Stmt:=top 63
abbrev dX:Stmt:=top 18
abbrev ig:Stmt:=top 28
abbrev fP:Stmt:=top 29
abbrev eV:Stmt:=top 31
abbrev gG:Stmt:=top 48
abbrev iY:Stmt:=top 45
abbrev e9:Stmt:=top 47
abbrev fM:Stmt:=top 50
abbrev dZ:Stmt:=top 62
abbrev dO:Stmt:=top 67
abbrev lU:Stmt:=top 21
abbrev ke:Stmt:=top 20
abbrev ik:Stmt:=top 24
abbrev eW:Stmt:=top 19
abbrev fe:Stmt:=top 25
abbrev dY:Stmt:=top 26
abbrev fO:Stmt:=top 65
abbrev dS:Stmt:=top 66
abbrev zg:Stmt:=top 68
noncomputable def T0 (a_no_more a_step_home:Addr) (cl:Nat->Addr):Tb:=⟨[],[("no_more",.obj a_no_more),("step_home",.obj a_step_home),("MOST_TO_FIND",.int 12),("MOST_TO_COUNT",.int 8)],[],[],false,⟨[],[],cl,"<lambda>"⟩⟩
noncomputable def T1 (a_no_more a_step_home:Addr) (cl:Nat->Addr):Tb:=⟨("no_more",eE)::(T0 a_no_more a_step_home cl).D,(T0 a_no_more a_step_home cl).C,[],(T0 a_no_more a_step_home cl).H,false,(T0 a_no_more a_step_home cl).Z⟩
noncomputable def T2 (a_no_more a_step_home:Addr) (cl:Nat->Addr):Tb:=⟨("undone",nL)::(T1 a_no_more a_step_home cl).D,(T1 a_no_more a_step_home cl).C,[],(T1 a_no_more a_step_home cl).H,false,(T1 a_no_more a_step_home cl).Z⟩
noncomputable def T3 (a_no_more a_step_home:Addr) (cl:Nat->Addr):Tb:=⟨("step_home",dq)::(T2 a_no_more a_step_home cl).D,(T2 a_no_more a_step_home cl).C,[],(T2 a_no_more a_step_home cl).H,false,(T2 a_no_more a_step_home cl).Z⟩
noncomputable def T4 (a_no_more a_step_home:Addr) (cl:Nat->Addr):Tb:=⟨("_law_cell_at",g9)::(T3 a_no_more a_step_home cl).D,(T3 a_no_more a_step_home cl).C,[],(T3 a_no_more a_step_home cl).H,false,(T3 a_no_more a_step_home cl).Z⟩
noncomputable def T5 (a_no_more a_step_home:Addr) (cl:Nat->Addr):Tb:=⟨("_law_state",jy)::(T4 a_no_more a_step_home cl).D,(T4 a_no_more a_step_home cl).C,[],(T4 a_no_more a_step_home cl).H,false,(T4 a_no_more a_step_home cl).Z⟩
noncomputable def T6 (a_no_more a_step_home:Addr) (cl:Nat->Addr):Tb:=⟨("_law_take",ba)::(T5 a_no_more a_step_home cl).D,(T5 a_no_more a_step_home cl).C,[],(T5 a_no_more a_step_home cl).H,false,(T5 a_no_more a_step_home cl).Z⟩
noncomputable def T7 (a_no_more a_step_home:Addr) (cl:Nat->Addr):Tb:=⟨("_law_clock",cu)::(T6 a_no_more a_step_home cl).D,(T6 a_no_more a_step_home cl).C,[],(T6 a_no_more a_step_home cl).H,false,(T6 a_no_more a_step_home cl).Z⟩
noncomputable def T8 (a_no_more a_step_home:Addr) (cl:Nat->Addr):Tb:=⟨("_law_flips",eS)::(T7 a_no_more a_step_home cl).D,(T7 a_no_more a_step_home cl).C,[],(T7 a_no_more a_step_home cl).H,false,(T7 a_no_more a_step_home cl).Z⟩
noncomputable def T9 (a_no_more a_step_home:Addr) (cl:Nat->Addr):Tb:=⟨("_law_quarter",fJ)::(T8 a_no_more a_step_home cl).D,(T8 a_no_more a_step_home cl).C,[],(T8 a_no_more a_step_home cl).H,false,(T8 a_no_more a_step_home cl).Z⟩
noncomputable def T10 (a_no_more a_step_home:Addr) (cl:Nat->Addr):Tb:=⟨("_law_both",fX)::(T9 a_no_more a_step_home cl).D,(T9 a_no_more a_step_home cl).C,[],(T9 a_no_more a_step_home cl).H,false,(T9 a_no_more a_step_home cl).Z⟩
noncomputable def T11 (a_no_more a_step_home:Addr) (cl:Nat->Addr):Tb:=⟨("_law_named",jx)::(T10 a_no_more a_step_home cl).D,(T10 a_no_more a_step_home cl).C,[],(T10 a_no_more a_step_home cl).H,false,(T10 a_no_more a_step_home cl).Z⟩
noncomputable def T12 (a_no_more a_step_home:Addr) (cl:Nat->Addr):Tb:=⟨("_law_order",jm)::(T11 a_no_more a_step_home cl).D,(T11 a_no_more a_step_home cl).C,[],(T11 a_no_more a_step_home cl).H,false,(T11 a_no_more a_step_home cl).Z⟩
noncomputable def T13 (a_no_more a_step_home:Addr) (cl:Nat->Addr):Tb:=⟨("_law_group",jn)::(T12 a_no_more a_step_home cl).D,(T12 a_no_more a_step_home cl).C,[],(T12 a_no_more a_step_home cl).H,false,(T12 a_no_more a_step_home cl).Z⟩
noncomputable def T14 (a_no_more a_step_home:Addr) (cl:Nat->Addr):Tb:=⟨("_law_great",iu)::(T13 a_no_more a_step_home cl).D,(T13 a_no_more a_step_home cl).C,[],(T13 a_no_more a_step_home cl).H,false,(T13 a_no_more a_step_home cl).Z⟩
noncomputable def T15 (a_no_more a_step_home:Addr) (cl:Nat->Addr):Tb:=⟨("_law_steps",ju)::(T14 a_no_more a_step_home cl).D,(T14 a_no_more a_step_home cl).C,[],(T14 a_no_more a_step_home cl).H,false,(T14 a_no_more a_step_home cl).Z⟩
noncomputable def T16 (a_no_more a_step_home:Addr) (cl:Nat->Addr):Tb:=⟨("refuse_more",bz)::(T15 a_no_more a_step_home cl).D,(T15 a_no_more a_step_home cl).C,[],(T15 a_no_more a_step_home cl).H,false,⟨("refuse_more",dm)::(T15 a_no_more a_step_home cl).Z.R,(T15 a_no_more a_step_home cl).Z.F,(T15 a_no_more a_step_home cl).Z.cl,(T15 a_no_more a_step_home cl).Z.nm⟩⟩
noncomputable def T17 (a_no_more a_step_home:Addr) (cl:Nat->Addr):Tb:=⟨("ways_many",jv)::(T16 a_no_more a_step_home cl).D,(T16 a_no_more a_step_home cl).C,[],(T16 a_no_more a_step_home cl).H,false,⟨("ways_many",jr)::(T16 a_no_more a_step_home cl).Z.R,(T16 a_no_more a_step_home cl).Z.F,(T16 a_no_more a_step_home cl).Z.cl,(T16 a_no_more a_step_home cl).Z.nm⟩⟩
noncomputable def T18 (a_no_more a_step_home:Addr) (cl:Nat->Addr):Tb:=⟨("rounds_many",hU)::(T17 a_no_more a_step_home cl).D,(T17 a_no_more a_step_home cl).C,[],(T17 a_no_more a_step_home cl).H,false,⟨("rounds_many",hE)::(T17 a_no_more a_step_home cl).Z.R,(T17 a_no_more a_step_home cl).Z.F,(T17 a_no_more a_step_home cl).Z.cl,(T17 a_no_more a_step_home cl).Z.nm⟩⟩
noncomputable def T19 (a_no_more a_step_home:Addr) (cl:Nat->Addr):Tb:=⟨("longest_walk",gF)::(T18 a_no_more a_step_home cl).D,(T18 a_no_more a_step_home cl).C,[],(T18 a_no_more a_step_home cl).H,false,⟨("longest_walk",gn)::(T18 a_no_more a_step_home cl).Z.R,(T18 a_no_more a_step_home cl).Z.F,(T18 a_no_more a_step_home cl).Z.cl,(T18 a_no_more a_step_home cl).Z.nm⟩⟩
noncomputable def T20 (a_no_more a_step_home:Addr) (cl:Nat->Addr):Tb:=⟨("all_rounds",gv)::(T19 a_no_more a_step_home cl).D,(T19 a_no_more a_step_home cl).C,[],(T19 a_no_more a_step_home cl).H,false,⟨("all_rounds",gw)::(T19 a_no_more a_step_home cl).Z.R,(T19 a_no_more a_step_home cl).Z.F,(T19 a_no_more a_step_home cl).Z.cl,(T19 a_no_more a_step_home cl).Z.nm⟩⟩
noncomputable def T21 (a_no_more a_step_home:Addr) (cl:Nat->Addr):Tb:=⟨("own_maps",i6)::(T20 a_no_more a_step_home cl).D,(T20 a_no_more a_step_home cl).C,[],(T20 a_no_more a_step_home cl).H,false,⟨("own_maps",iU)::(T20 a_no_more a_step_home cl).Z.R,(T20 a_no_more a_step_home cl).Z.F,(T20 a_no_more a_step_home cl).Z.cl,(T20 a_no_more a_step_home cl).Z.nm⟩⟩
noncomputable def T22 (a_no_more a_step_home:Addr) (cl:Nat->Addr):Tb:=⟨("keeping_maps",eX)::(T21 a_no_more a_step_home cl).D,(T21 a_no_more a_step_home cl).C,[],(T21 a_no_more a_step_home cl).H,false,⟨("keeping_maps",eY)::(T21 a_no_more a_step_home cl).Z.R,(T21 a_no_more a_step_home cl).Z.F,(T21 a_no_more a_step_home cl).Z.cl,(T21 a_no_more a_step_home cl).Z.nm⟩⟩
noncomputable def T23 (a_no_more a_step_home:Addr) (cl:Nat->Addr):Tb:=⟨("round_kinds",gW)::(T22 a_no_more a_step_home cl).D,(T22 a_no_more a_step_home cl).C,[],(T22 a_no_more a_step_home cl).H,false,⟨("round_kinds",hZ)::(T22 a_no_more a_step_home cl).Z.R,(T22 a_no_more a_step_home cl).Z.F,(T22 a_no_more a_step_home cl).Z.cl,(T22 a_no_more a_step_home cl).Z.nm⟩⟩
noncomputable def T24 (a_no_more a_step_home:Addr) (cl:Nat->Addr):Tb:=⟨(T23 a_no_more a_step_home cl).D,(T23 a_no_more a_step_home cl).C,[],(T23 a_no_more a_step_home cl).H,false,⟨(T23 a_no_more a_step_home cl).Z.R,("_law_refused",[0])::(T23 a_no_more a_step_home cl).Z.F,(T23 a_no_more a_step_home cl).Z.cl,(T23 a_no_more a_step_home cl).Z.nm⟩⟩
noncomputable def T25 (a_no_more a_step_home:Addr) (cl:Nat->Addr):Tb:=⟨("_law_few_answers",dQ)::(T24 a_no_more a_step_home cl).D,(T24 a_no_more a_step_home cl).C,[],(T24 a_no_more a_step_home cl).H,false,(T24 a_no_more a_step_home cl).Z⟩
noncomputable def T26 (a_no_more a_step_home:Addr) (cl:Nat->Addr):Tb:=⟨("goings",vM)::(T25 a_no_more a_step_home cl).D,(T25 a_no_more a_step_home cl).C,[],(T25 a_no_more a_step_home cl).H,false,(T25 a_no_more a_step_home cl).Z⟩
noncomputable def T27 (a_no_more a_step_home:Addr) (cl:Nat->Addr):Tb:=⟨("all_but",tD)::(T26 a_no_more a_step_home cl).D,(T26 a_no_more a_step_home cl).C,[],(T26 a_no_more a_step_home cl).H,false,(T26 a_no_more a_step_home cl).Z⟩
noncomputable def T28(a_no_more a_step_home:Addr)(cl:Nat->Addr):Tb:=(T27 a_no_more a_step_home cl)
noncomputable def T29 (a_no_more a_step_home:Addr) (cl:Nat->Addr):Tb:=⟨("all_but_home",fb)::(T28 a_no_more a_step_home cl).D,(T28 a_no_more a_step_home cl).C,[],(T28 a_no_more a_step_home cl).H,false,(T28 a_no_more a_step_home cl).Z⟩
noncomputable def T30 (a_no_more a_step_home:Addr) (cl:Nat->Addr):Tb:=⟨("least_way",(eo a_no_more))::(T29 a_no_more a_step_home cl).D,(T29 a_no_more a_step_home cl).C,[],(T29 a_no_more a_step_home cl).H,false,⟨("least_way",ip)::(T29 a_no_more a_step_home cl).Z.R,(T29 a_no_more a_step_home cl).Z.F,(T29 a_no_more a_step_home cl).Z.cl,(T29 a_no_more a_step_home cl).Z.nm⟩⟩
noncomputable def T31 (a_no_more a_step_home:Addr) (cl:Nat->Addr):Tb:=⟨("least_round",(dC a_step_home))::(T30 a_no_more a_step_home cl).D,(T30 a_no_more a_step_home cl).C,[],(T30 a_no_more a_step_home cl).H,false,⟨("least_round",fL)::(T30 a_no_more a_step_home cl).Z.R,(T30 a_no_more a_step_home cl).Z.F,(T30 a_no_more a_step_home cl).Z.cl,(T30 a_no_more a_step_home cl).Z.nm⟩⟩
noncomputable def T32 (a_no_more a_step_home:Addr) (cl:Nat->Addr):Tb:=⟨("_law_answers",(cM a_no_more a_step_home))::(T31 a_no_more a_step_home cl).D,(T31 a_no_more a_step_home cl).C,[],(T31 a_no_more a_step_home cl).H,false,(T31 a_no_more a_step_home cl).Z⟩
noncomputable def T33 (a_no_more a_step_home:Addr) (cl:Nat->Addr):Tb:=⟨("_law_map_answers",du)::(T32 a_no_more a_step_home cl).D,(T32 a_no_more a_step_home cl).C,[],(T32 a_no_more a_step_home cl).H,false,(T32 a_no_more a_step_home cl).Z⟩
theorem zM : ∀ (a_no_more a_step_home:Addr) (cl:Nat->Addr),cB (T0 a_no_more a_step_home cl) 80 (["group","steps","place"]:List Str) (aj j8).names (aM j8)=some sP:=by intro a_no_more a_step_home cl;kernel_rfl
theorem xF:aV (["group","steps","place"]:List Str) (["group","steps","place"]:List Str) (aj j8):=⟨rfl,rfl,rfl,by decide +kernel,rfl,by decide +kernel,by decide +kernel⟩
theorem Bp : ∀ (a_no_more a_step_home:Addr) (cl:Nat->Addr),cB (T1 a_no_more a_step_home cl) 80 (["group","thing"]:List Str) (aj lI).names (aM lI)=some wx:=by intro a_no_more a_step_home cl;kernel_rfl
theorem Af:aV (["group","thing"]:List Str) (["group","thing"]:List Str) (aj lI):=⟨rfl,rfl,rfl,by decide +kernel,rfl,by decide +kernel,by decide +kernel⟩
theorem wu : ∀ (a_no_more a_step_home:Addr) (cl:Nat->Addr),cB (T2 a_no_more a_step_home cl) 80 (["group","steps","place","step"]:List Str) (aj ir).names (aM ir)=some lC:=by intro a_no_more a_step_home cl;kernel_rfl
theorem uq:aV (["group","steps","place","step"]:List Str) (["group","steps","place"]:List Str) (aj ir):=⟨rfl,rfl,rfl,by decide +kernel,rfl,by decide +kernel,by decide +kernel⟩
theorem si : ∀ (a_no_more a_step_home:Addr) (cl:Nat->Addr),cB (T3 a_no_more a_step_home cl) 80 (["script","k"]:List Str) (aj fI).names (aM fI)=some fN:=by intro a_no_more a_step_home cl;kernel_rfl
theorem qQ:aV (["script","k"]:List Str) (["script","k"]:List Str) (aj fI):=⟨rfl,rfl,rfl,by decide +kernel,rfl,by decide +kernel,by decide +kernel⟩
theorem vH : ∀ (a_no_more a_step_home:Addr) (cl:Nat->Addr),cB (T4 a_no_more a_step_home cl) 80 (["script","k","cell"]:List Str) (aj ib).names (aM ib)=some jz:=by intro a_no_more a_step_home cl;kernel_rfl
theorem uh:aV (["script","k","cell"]:List Str) (["script","k"]:List Str) (aj ib):=⟨rfl,rfl,rfl,by decide +kernel,rfl,by decide +kernel,by decide +kernel⟩
theorem xm : ∀ (a_no_more a_step_home:Addr) (cl:Nat->Addr),cB (T5 a_no_more a_step_home cl) 80 (["state","many","found","mixed"]:List Str) (aj i4).names (aM i4)=some km:=by intro a_no_more a_step_home cl;kernel_rfl
theorem uZ:aV (["state","many","found","mixed"]:List Str) (["state","many"]:List Str) (aj i4):=⟨rfl,rfl,rfl,by decide +kernel,rfl,by decide +kernel,by decide +kernel⟩
theorem vn : ∀ (a_no_more a_step_home:Addr) (cl:Nat->Addr),cB (T6 a_no_more a_step_home cl) 80 (["n"]:List Str) (aj iw).names (aM iw)=some lT:=by intro a_no_more a_step_home cl;kernel_rfl
theorem uN:aV (["n"]:List Str) (["n"]:List Str) (aj iw):=⟨rfl,rfl,rfl,by decide +kernel,rfl,by decide +kernel,by decide +kernel⟩
theorem vG : ∀ (a_no_more a_step_home:Addr) (cl:Nat->Addr),cB (T7 a_no_more a_step_home cl) 80 (["n","found","i","row","j","turn"]:List Str) (aj ij).names (aM ij)=some lD:=by intro a_no_more a_step_home cl;kernel_rfl
theorem ux:aV (["n","found","i","row","j","turn"]:List Str) (["n"]:List Str) (aj ij):=⟨rfl,rfl,rfl,by decide +kernel,rfl,by decide +kernel,by decide +kernel⟩
theorem se : ∀ (a_no_more a_step_home:Addr) (cl:Nat->Addr),cB (T8 a_no_more a_step_home cl) 80 (["signs","kinds","found","one","row","other","sign"]:List Str) (aj fK).names (aM fK)=some jM:=by intro a_no_more a_step_home cl;kernel_rfl
theorem qJ:aV (["signs","kinds","found","one","row","other","sign"]:List Str) ([]:List Str) (aj fK):=⟨rfl,rfl,rfl,by decide +kernel,rfl,by decide +kernel,by decide +kernel⟩
theorem xU : ∀ (a_no_more a_step_home:Addr) (cl:Nat->Addr),cB (T9 a_no_more a_step_home cl) 80 (["one","other","size","found","i","row","j","ahead"]:List Str) (aj iV).names (aM iV)=some nj:=by intro a_no_more a_step_home cl;kernel_rfl
theorem vK:aV (["one","other","size","found","i","row","j","ahead"]:List Str) (["one","other"]:List Str) (aj iV):=⟨rfl,rfl,rfl,by decide +kernel,rfl,by decide +kernel,by decide +kernel⟩
theorem wm : ∀ (a_no_more a_step_home:Addr) (cl:Nat->Addr),cB (T10 a_no_more a_step_home cl) 80 (["group","order"]:List Str) (aj ic).names (aM ic)=some lh:=by intro a_no_more a_step_home cl;kernel_rfl
theorem uz:aV (["group","order"]:List Str) (["group","order"]:List Str) (aj ic):=⟨rfl,rfl,rfl,by decide +kernel,rfl,by decide +kernel,by decide +kernel⟩
theorem wj : ∀ (a_no_more a_step_home:Addr) (cl:Nat->Addr),cB (T11 a_no_more a_step_home cl) 80 (["state","many","left"]:List Str) (aj ie).names (aM ie)=some lr:=by intro a_no_more a_step_home cl;kernel_rfl
theorem uJ:aV (["state","many","left"]:List Str) (["state","many"]:List Str) (aj ie):=⟨rfl,rfl,rfl,by decide +kernel,rfl,by decide +kernel,by decide +kernel⟩
theorem vU : ∀ (a_no_more a_step_home:Addr) (cl:Nat->Addr),cB (T12 a_no_more a_step_home cl) 80 (["state","most","way","found","first","one"]:List Str) (aj il).names (aM il)=some kW:=by intro a_no_more a_step_home cl;kernel_rfl
theorem ud:aV (["state","most","way","found","first","one"]:List Str) (["state","most"]:List Str) (aj il):=⟨rfl,rfl,rfl,by decide +kernel,rfl,by decide +kernel,by decide +kernel⟩
theorem wa : ∀ (a_no_more a_step_home:Addr) (cl:Nat->Addr),cB (T13 a_no_more a_step_home cl) 80 (["state","found"]:List Str) (aj ix).names (aM ix)=some kT:=by intro a_no_more a_step_home cl;kernel_rfl
theorem tU:aV (["state","found"]:List Str) (["state"]:List Str) (aj ix):=⟨rfl,rfl,rfl,by decide +kernel,rfl,by decide +kernel,by decide +kernel⟩
theorem wB : ∀ (a_no_more a_step_home:Addr) (cl:Nat->Addr),cB (T14 a_no_more a_step_home cl) 80 (["state","group","most","left","found","k"]:List Str) (aj iq).names (aM iq)=some pe:=by intro a_no_more a_step_home cl;kernel_rfl
theorem uP:aV (["state","group","most","left","found","k"]:List Str) (["state","group","most"]:List Str) (aj iq):=⟨rfl,rfl,rfl,by decide +kernel,rfl,by decide +kernel,by decide +kernel⟩
theorem rR : ∀ (a_no_more a_step_home:Addr) (cl:Nat->Addr),cB (T15 a_no_more a_step_home cl) 80 (["group","most"]:List Str) (aj dX).names (aM dX)=some jR:=by intro a_no_more a_step_home cl;kernel_rfl
theorem qZ : ∀ (a_no_more a_step_home:Addr) (cl:Nat->Addr),(xc 80 80).b ⟨("refuse_more",bz)::(T15 a_no_more a_step_home cl).D,(T15 a_no_more a_step_home cl).C,(T15 a_no_more a_step_home cl).L,(T15 a_no_more a_step_home cl).H,(T15 a_no_more a_step_home cl).mkr,(T15 a_no_more a_step_home cl).Z⟩ ⟨(T15 a_no_more a_step_home cl).Z.R,clR [0]⟩ (["group","most"]:List Str) (aj dX).names (aM dX)=some jP:=by intro a_no_more a_step_home cl;kernel_rfl
theorem lH:aV (["group","most"]:List Str) (["group","most"]:List Str) (aj dX):=⟨rfl,rfl,rfl,by decide +kernel,rfl,by decide +kernel,by decide +kernel⟩
theorem uD : ∀ (a_no_more a_step_home:Addr) (cl:Nat->Addr),(xc 80 80).b ⟨("ways_many",jv)::(T16 a_no_more a_step_home cl).D,(T16 a_no_more a_step_home cl).C,(T16 a_no_more a_step_home cl).L,(T16 a_no_more a_step_home cl).H,(T16 a_no_more a_step_home cl).mkr,(T16 a_no_more a_step_home cl).Z⟩ ⟨(T16 a_no_more a_step_home cl).Z.R,clR [0]⟩ (["group","steps"]:List Str) (aj ig).names (aM ig)=some lP:=by intro a_no_more a_step_home cl;kernel_rfl
theorem nC:aV (["group","steps"]:List Str) (["group","steps"]:List Str) (aj ig):=⟨rfl,rfl,rfl,by decide +kernel,rfl,by decide +kernel,by decide +kernel⟩
theorem qR : ∀ (a_no_more a_step_home:Addr) (cl:Nat->Addr),(xc 80 80).b ⟨("rounds_many",hU)::(T17 a_no_more a_step_home cl).D,(T17 a_no_more a_step_home cl).C,(T17 a_no_more a_step_home cl).L,(T17 a_no_more a_step_home cl).H,(T17 a_no_more a_step_home cl).mkr,(T17 a_no_more a_step_home cl).Z⟩ ⟨(T17 a_no_more a_step_home cl).Z.R,clR [0]⟩ (["group","steps"]:List Str) (aj fP).names (aM fP)=some jT:=by intro a_no_more a_step_home cl;kernel_rfl
theorem lW:aV (["group","steps"]:List Str) (["group","steps"]:List Str) (aj fP):=⟨rfl,rfl,rfl,by decide +kernel,rfl,by decide +kernel,by decide +kernel⟩
theorem pI : ∀ (a_no_more a_step_home:Addr) (cl:Nat->Addr),(xc 80 80).b ⟨("longest_walk",gF)::(T18 a_no_more a_step_home cl).D,(T18 a_no_more a_step_home cl).C,(T18 a_no_more a_step_home cl).L,(T18 a_no_more a_step_home cl).H,(T18 a_no_more a_step_home cl).mkr,(T18 a_no_more a_step_home cl).Z⟩ ⟨(T18 a_no_more a_step_home cl).Z.R,clR [0]⟩ (["group","steps"]:List Str) (aj eV).names (aM eV)=some iW:=by intro a_no_more a_step_home cl;kernel_rfl
theorem kD:aV (["group","steps"]:List Str) (["group","steps"]:List Str) (aj eV):=⟨rfl,rfl,rfl,by decide +kernel,rfl,by decide +kernel,by decide +kernel⟩
theorem rY : ∀ (a_no_more a_step_home:Addr) (cl:Nat->Addr),(xc 80 80).b ⟨("all_rounds",gv)::(T19 a_no_more a_step_home cl).D,(T19 a_no_more a_step_home cl).C,(T19 a_no_more a_step_home cl).L,(T19 a_no_more a_step_home cl).H,(T19 a_no_more a_step_home cl).mkr,(T19 a_no_more a_step_home cl).Z⟩ ⟨(T19 a_no_more a_step_home cl).Z.R,clR [0]⟩ (["group","steps"]:List Str) (aj gG).names (aM gG)=some kn:=by intro a_no_more a_step_home cl;kernel_rfl
theorem mQ:aV (["group","steps"]:List Str) (["group","steps"]:List Str) (aj gG):=⟨rfl,rfl,rfl,by decide +kernel,rfl,by decide +kernel,by decide +kernel⟩
theorem wD : ∀ (a_no_more a_step_home:Addr) (cl:Nat->Addr),(xc 80 80).b ⟨("own_maps",i6)::(T20 a_no_more a_step_home cl).D,(T20 a_no_more a_step_home cl).C,(T20 a_no_more a_step_home cl).L,(T20 a_no_more a_step_home cl).H,(T20 a_no_more a_step_home cl).mkr,(T20 a_no_more a_step_home cl).Z⟩ ⟨(T20 a_no_more a_step_home cl).Z.R,clR [0]⟩ (["group","spanning","ways","tried","maps"]:List Str) (aj iY).names (aM iY)=some mZ:=by intro a_no_more a_step_home cl;kernel_rfl
theorem o3:aV (["group","spanning","ways","tried","maps"]:List Str) (["group"]:List Str) (aj iY):=⟨rfl,rfl,rfl,by decide +kernel,rfl,by decide +kernel,by decide +kernel⟩
theorem pK : ∀ (a_no_more a_step_home:Addr) (cl:Nat->Addr),(xc 80 80).b ⟨("keeping_maps",eX)::(T21 a_no_more a_step_home cl).D,(T21 a_no_more a_step_home cl).C,(T21 a_no_more a_step_home cl).L,(T21 a_no_more a_step_home cl).H,(T21 a_no_more a_step_home cl).mkr,(T21 a_no_more a_step_home cl).Z⟩ ⟨(T21 a_no_more a_step_home cl).Z.R,clR [0]⟩ (["group","steps"]:List Str) (aj e9).names (aM e9)=some i7:=by intro a_no_more a_step_home cl;kernel_rfl
theorem kC:aV (["group","steps"]:List Str) (["group","steps"]:List Str) (aj e9):=⟨rfl,rfl,rfl,by decide +kernel,rfl,by decide +kernel,by decide +kernel⟩
theorem qw : ∀ (a_no_more a_step_home:Addr) (cl:Nat->Addr),(xc 80 80).b ⟨("round_kinds",gW)::(T22 a_no_more a_step_home cl).D,(T22 a_no_more a_step_home cl).C,(T22 a_no_more a_step_home cl).L,(T22 a_no_more a_step_home cl).H,(T22 a_no_more a_step_home cl).mkr,(T22 a_no_more a_step_home cl).Z⟩ ⟨(T22 a_no_more a_step_home cl).Z.R,clR [0]⟩ (["group","steps","rounds","keeping"]:List Str) (aj fM).names (aM fM)=some jK:=by intro a_no_more a_step_home cl;kernel_rfl
theorem lF:aV (["group","steps","rounds","keeping"]:List Str) (["group","steps"]:List Str) (aj fM):=⟨rfl,rfl,rfl,by decide +kernel,rfl,by decide +kernel,by decide +kernel⟩
noncomputable def mR:Stmt:=(aM dZ).getD 6 (.Pass ⟨0,0,0,0⟩)
theorem sg:aM dZ=mE 237 mR:=by kernel_rfl
theorem Lr: ∀(a_no_more a_step_home:Addr) (cl:Nat->Addr),cS (T23 a_no_more a_step_home cl) 80 pG (aj dZ).names mR=some mzR:=by intro a_no_more a_step_home cl;kernel_rfl
theorem qA:sZ (aj dZ).names=true:=by decide +kernel
theorem q9:aV (["call","error","e","kinds"]:List Str) (["call"]:List Str) (aj dZ):=⟨rfl,rfl,rfl,by decide +kernel,rfl,by decide +kernel,by decide +kernel⟩
theorem nW : ∀ (a_no_more a_step_home:Addr) (cl:Nat->Addr),cB ⟨(T24 a_no_more a_step_home cl).D,(T24 a_no_more a_step_home cl).C,(T24 a_no_more a_step_home cl).L,(T24 a_no_more a_step_home cl).H,true,(T24 a_no_more a_step_home cl).Z.to "<lambda>"⟩ 80 (["group","steps","found"]:List Str) (aj dO).names (aM dO)=some gq:=by intro a_no_more a_step_home cl;kernel_rfl
theorem mW:aV (["group","steps","found"]:List Str) (["group","steps"]:List Str) (aj dO):=⟨rfl,rfl,rfl,by decide +kernel,rfl,by decide +kernel,by decide +kernel⟩
theorem AW : ∀ (a_no_more a_step_home:Addr) (cl:Nat->Addr),cB (T25 a_no_more a_step_home cl) 80 (["group","steps","place","left","tried"]:List Str) (aj lU).names (aM lU)=some vq:=by intro a_no_more a_step_home cl;kernel_rfl
theorem Ai:aV (["group","steps","place","left","tried"]:List Str) (["group","steps","place","left"]:List Str) (aj lU):=⟨rfl,rfl,rfl,by decide +kernel,rfl,by decide +kernel,by decide +kernel⟩
theorem zR : ∀ (a_no_more a_step_home:Addr) (cl:Nat->Addr),cB (T26 a_no_more a_step_home cl) 80 (["things","thing"]:List Str) (aj ke).names (aM ke)=some tL:=by intro a_no_more a_step_home cl;kernel_rfl
theorem xb:aV (["things","thing"]:List Str) (["things","thing"]:List Str) (aj ke):=⟨rfl,rfl,rfl,by decide +kernel,rfl,by decide +kernel,by decide +kernel⟩
theorem o5 : ∀ (a_no_more a_step_home:Addr) (cl:Nat->Addr),∀ g φ ψ,cB ⟨("least_end",ψ)::(T27 a_no_more a_step_home cl).D,(T27 a_no_more a_step_home cl).C,[("last",g,φ)],(T27 a_no_more a_step_home cl).H,false,(T27 a_no_more a_step_home cl).Z⟩ 80 (["group","steps","place","left","last","step","onward","end"]:List Str) (aj ik).names (aM ik)=some (pk g φ ψ):=by intro a_no_more a_step_home cl;intro g φ ψ;kernel_rfl
theorem nJ:aV (["group","steps","place","left","last","step","onward","end"]:List Str) (["group","steps","place","left","last"]:List Str) (aj ik):=⟨rfl,rfl,rfl,by decide +kernel,rfl,by decide +kernel,by decide +kernel⟩
theorem qS : ∀ (a_no_more a_step_home:Addr) (cl:Nat->Addr),cB (T28 a_no_more a_step_home cl) 80 (["group"]:List Str) (aj eW).names (aM eW)=some lV:=by intro a_no_more a_step_home cl;kernel_rfl
theorem pH:aV (["group"]:List Str) (["group"]:List Str) (aj eW):=⟨rfl,rfl,rfl,by decide +kernel,rfl,by decide +kernel,by decide +kernel⟩
theorem vR : ∀ (a_no_more a_step_home:Addr) (cl:Nat->Addr),cB ⟨("least_end",dD a_no_more eE)::(T29 a_no_more a_step_home cl).D,(T29 a_no_more a_step_home cl).C,[],(T29 a_no_more a_step_home cl).H,false,(T29 a_no_more a_step_home cl).Z⟩ 80 (["group","steps"]:List Str) (aj fe).names (aM fe)=some (jq a_no_more):=by intro a_no_more a_step_home cl;kernel_rfl
theorem uF : ∀ (a_no_more a_step_home:Addr) (cl:Nat->Addr),(xc 80 80).b ⟨("least_way",(eo a_no_more))::(T29 a_no_more a_step_home cl).D,(T29 a_no_more a_step_home cl).C,(T29 a_no_more a_step_home cl).L,(T29 a_no_more a_step_home cl).H,(T29 a_no_more a_step_home cl).mkr,(T29 a_no_more a_step_home cl).Z⟩ ⟨(T29 a_no_more a_step_home cl).Z.R,clR [0]⟩ (["group","steps"]:List Str) (aj fe).names (aM fe)=some lZ:=by intro a_no_more a_step_home cl;kernel_rfl
theorem nS:aV (["group","steps"]:List Str) (["group","steps"]:List Str) (aj fe):=⟨rfl,rfl,rfl,by decide +kernel,rfl,by decide +kernel,by decide +kernel⟩
theorem rV : ∀ (a_no_more a_step_home:Addr) (cl:Nat->Addr),cB ⟨("least_end",dD a_step_home dq)::(T30 a_no_more a_step_home cl).D,(T30 a_no_more a_step_home cl).C,[],(T30 a_no_more a_step_home cl).H,false,(T30 a_no_more a_step_home cl).Z⟩ 80 (["group","steps"]:List Str) (aj dY).names (aM dY)=some (gX a_step_home):=by intro a_no_more a_step_home cl;kernel_rfl
theorem rC : ∀ (a_no_more a_step_home:Addr) (cl:Nat->Addr),(xc 80 80).b ⟨("least_round",(dC a_step_home))::(T30 a_no_more a_step_home cl).D,(T30 a_no_more a_step_home cl).C,(T30 a_no_more a_step_home cl).L,(T30 a_no_more a_step_home cl).H,(T30 a_no_more a_step_home cl).mkr,(T30 a_no_more a_step_home cl).Z⟩ ⟨(T30 a_no_more a_step_home cl).Z.R,clR [0]⟩ (["group","steps"]:List Str) (aj dY).names (aM dY)=some jN:=by intro a_no_more a_step_home cl;kernel_rfl
theorem lR:aV (["group","steps"]:List Str) (["group","steps"]:List Str) (aj dY):=⟨rfl,rfl,rfl,by decide +kernel,rfl,by decide +kernel,by decide +kernel⟩
theorem rW : ∀ (a_no_more a_step_home:Addr) (cl:Nat->Addr),cB ⟨(T31 a_no_more a_step_home cl).D,(T31 a_no_more a_step_home cl).C,(T31 a_no_more a_step_home cl).L,(T31 a_no_more a_step_home cl).H,true,(T31 a_no_more a_step_home cl).Z.to "<lambda>"⟩ 80 (["group","steps","found"]:List Str) (aj fO).names (aM fO)=some (g8 a_no_more a_step_home):=by intro a_no_more a_step_home cl;kernel_rfl
theorem qo:aV (["group","steps","found"]:List Str) (["group","steps"]:List Str) (aj fO):=⟨rfl,rfl,rfl,by decide +kernel,rfl,by decide +kernel,by decide +kernel⟩
theorem oa : ∀ (a_no_more a_step_home:Addr) (cl:Nat->Addr),cB ⟨(T32 a_no_more a_step_home cl).D,(T32 a_no_more a_step_home cl).C,(T32 a_no_more a_step_home cl).L,(T32 a_no_more a_step_home cl).H,true,(T32 a_no_more a_step_home cl).Z.to "<lambda>"⟩ 80 (["group","steps","found"]:List Str) (aj dS).names (aM dS)=some gz:=by intro a_no_more a_step_home cl;kernel_rfl
theorem m7:aV (["group","steps","found"]:List Str) (["group","steps"]:List Str) (aj dS):=⟨rfl,rfl,rfl,by decide +kernel,rfl,by decide +kernel,by decide +kernel⟩
theorem J8 : ∀ (a_no_more a_step_home:Addr) (cl:Nat->Addr),cB (T33 a_no_more a_step_home cl) 80 (["script","k","state","group","steps"]:List Str) (aj zg).names (aM zg)=some (A6 a_no_more a_step_home):=by intro a_no_more a_step_home cl;kernel_rfl
theorem Gf:aV (["script","k","state","group","steps"]:List Str) (["script"]:List Str) (aj zg):=⟨rfl,rfl,rfl,by decide +kernel,rfl,by decide +kernel,by decide +kernel⟩
theorem chain {P:Program}{w:World}{K:ah}{mg:Str->Option Value}{h:Heap}{k24 p24:Addr}{k31 p31:Addr}{k32 p32:Addr}{a_no_more a_step_home:Addr}{cl:Nat->Addr} (X:K.In h) (Gn:h.Ns mainGlobals mg) (B : ∀ x∈i5,aU K mainGlobals x=some none) (h_no_more:mg "no_more"=some (.ref a_no_more)) (h_step_home:mg "step_home"=some (.ref a_step_home)) (kc0 : ∃ t,aU K mainGlobals "MOST_TO_FIND"=some (some (.int 12 t))) (kc1 : ∃ t,aU K mainGlobals "MOST_TO_COUNT"=some (some (.int 8 t))) {wA:Addr} (Rk:wo K mg cl wA [0]) (hC : ∀ y i,(clR [0]).lookup y=some i->mg y=some (.ref (cl i))/\exB K (cl i)=true) (g24:mainGlobals≠p24) (g31:mainGlobals≠p31) (g32:mainGlobals≠p32) (nd:([p24,p31,p32]:List Addr).Nodup)
  (D0:Def K "no_more" j8) (D1:Def K "undone" lI) (D2:Def K "step_home" ir) (D3:Def K "_law_cell_at" fI) (D4:Def K "_law_state" ib) (D5:Def K "_law_take" i4) (D6:Def K "_law_clock" iw) (D7:Def K "_law_flips" ij) (D8:Def K "_law_quarter" fK) (D9:Def K "_law_both" iV) (D10:Def K "_law_named" ic) (D11:Def K "_law_order" ie) (D12:Def K "_law_group" il) (D13:Def K "_law_great" ix) (D14:Def K "_law_steps" iq) (D15:Def K "refuse_more" dX) (D16:Def K "ways_many" ig) (D17:Def K "rounds_many" fP) (D18:Def K "longest_walk" eV) (D19:Def K "all_rounds" gG) (D20:Def K "own_maps" iY) (D21:Def K "keeping_maps" e9) (D22:Def K "round_kinds" fM) (D23:Def K "_law_refused" dZ) (D24:kI K "_law_few_answers" dO k24 p24) (D25:Def K "goings" lU) (D26:Def K "all_but" ke) (D27:Def K "least_end" ik) (D28:Def K "all_but_home" eW) (D29:Def K "least_way" fe) (D30:Def K "least_round" dY) (D31:kI K "_law_answers" fO k31 p31) (D32:kI K "_law_map_answers" dS k32 p32):Ch P w K mg [(p24,("_law_few_answers":Str)++".<locals>."++"<lambda>"),(p31,("_law_answers":Str)++".<locals>."++"<lambda>"),(p32,("_law_map_answers":Str)++".<locals>."++"<lambda>")] (T33 a_no_more a_step_home cl) 61:=by
 have C0:Ch P w K mg [(p24,("_law_few_answers":Str)++".<locals>."++"<lambda>"),(p31,("_law_answers":Str)++".<locals>."++"<lambda>"),(p32,("_law_map_answers":Str)++".<locals>."++"<lambda>")] (T0 a_no_more a_step_home cl) 0:=⟨fun _ _ _ _ _=>TOk.fv (TOk.fv (TOk.con (TOk.con (TOk.nil X Gn B) X Gn kc1) X Gn kc0) h_step_home) h_no_more,(fun _ _ _ _ _ _ _ z=>by cases z),(fun _ _ _ _ _ _ _ z=>by cases z)⟩
 have nd:(([(p24,("_law_few_answers":Str)++".<locals>."++"<lambda>"),(p31,("_law_answers":Str)++".<locals>."++"<lambda>"),(p32,("_law_map_answers":Str)++".<locals>."++"<lambda>")]:List (Addr×Str)).map (·.1)).Nodup:=by simpa using nd
 have C1:Ch P w K mg _ (T1 a_no_more a_step_home cl) 1:=C0.dfn C0.o rfl X Gn D0 xF (λ_ _ _ _ _ _=>us3 λ_ _ _=>rfl) (zM a_no_more a_step_home cl)
 have C2:Ch P w K mg _ (T2 a_no_more a_step_home cl) 2:=C1.dfn C1.o rfl X Gn D1 Af (λ_ _ _ _ _ _=>us2 λ_ _=>rfl) (Bp a_no_more a_step_home cl)
 have C3:Ch P w K mg _ (T3 a_no_more a_step_home cl) 3:=C2.dfn C2.o rfl X Gn D2 uq (λ_ _ _ _ _ _=>us3 λ_ _ _=>rfl) (wu a_no_more a_step_home cl)
 have C4:Ch P w K mg _ (T4 a_no_more a_step_home cl) 4:=C3.dfn C3.o rfl X Gn D3 qQ (λ_ _ _ _ _ _=>us2 λ_ _=>rfl) (si a_no_more a_step_home cl)
 have C5:Ch P w K mg _ (T5 a_no_more a_step_home cl) 5:=C4.dfn C4.o rfl X Gn D4 uh (λ_ _ _ _ _ _=>us2 λ_ _=>rfl) (vH a_no_more a_step_home cl)
 have C6:Ch P w K mg _ (T6 a_no_more a_step_home cl) 6:=C5.dfn C5.o rfl X Gn D5 uZ (λ_ _ _ _ _ _=>us2 λ_ _=>rfl) (xm a_no_more a_step_home cl)
 have C7:Ch P w K mg _ (T7 a_no_more a_step_home cl) 7:=C6.dfn C6.o rfl X Gn D6 uN (λ_ _ _ _ _ _=>us1 λ_=>rfl) (vn a_no_more a_step_home cl)
 have C8:Ch P w K mg _ (T8 a_no_more a_step_home cl) 8:=C7.dfn C7.o rfl X Gn D7 ux (λ_ _ _ _ _ _=>us1 λ_=>rfl) (vG a_no_more a_step_home cl)
 have C9:Ch P w K mg _ (T9 a_no_more a_step_home cl) 9:=C8.dfn C8.o rfl X Gn D8 qJ (λ_ _ _ _ _ _=>us0 rfl) (se a_no_more a_step_home cl)
 have C10:Ch P w K mg _ (T10 a_no_more a_step_home cl) 10:=C9.dfn C9.o rfl X Gn D9 vK (λ_ _ _ _ _ _=>us2 λ_ _=>rfl) (xU a_no_more a_step_home cl)
 have C11:Ch P w K mg _ (T11 a_no_more a_step_home cl) 11:=C10.dfn C10.o rfl X Gn D10 uz (λ_ _ _ _ _ _=>us2 λ_ _=>rfl) (wm a_no_more a_step_home cl)
 have C12:Ch P w K mg _ (T12 a_no_more a_step_home cl) 12:=C11.dfn C11.o rfl X Gn D11 uJ (λ_ _ _ _ _ _=>us2 λ_ _=>rfl) (wj a_no_more a_step_home cl)
 have C13:Ch P w K mg _ (T13 a_no_more a_step_home cl) 13:=C12.dfn C12.o rfl X Gn D12 ud (λ_ _ _ _ _ _=>us2 λ_ _=>rfl) (vU a_no_more a_step_home cl)
 have C14:Ch P w K mg _ (T14 a_no_more a_step_home cl) 14:=C13.dfn C13.o rfl X Gn D13 tU (λ_ _ _ _ _ _=>us1 λ_=>rfl) (wa a_no_more a_step_home cl)
 have C15:Ch P w K mg _ (T15 a_no_more a_step_home cl) 15:=C14.dfn C14.o rfl X Gn D14 uP (λ_ _ _ _ _ _=>us3 λ_ _ _=>rfl) (wB a_no_more a_step_home cl)
 have A15:=C15.dfn C15.o rfl X Gn D15 lH (λ_ _ _ _ _ _=>us2 λ_ _=>rfl) (rR a_no_more a_step_home cl)
 have C16:Ch P w K mg _ (T16 a_no_more a_step_home cl) 17:=A15.raise (clR [0]) rfl hC X Gn D15 lH (λ_ _ _ _ _ _=>us2 λ_ _=>rfl) (qZ a_no_more a_step_home cl)
 have A16:=C16.no X Gn D16 nC (λ_ _ _ _ _ _=>us2 λ_ _=>rfl)
 have C17:Ch P w K mg _ (T17 a_no_more a_step_home cl) 19:=A16.raise (clR [0]) rfl hC X Gn D16 nC (λ_ _ _ _ _ _=>us2 λ_ _=>rfl) (uD a_no_more a_step_home cl)
 have A17:=C17.no X Gn D17 lW (λ_ _ _ _ _ _=>us2 λ_ _=>rfl)
 have C18:Ch P w K mg _ (T18 a_no_more a_step_home cl) 21:=A17.raise (clR [0]) rfl hC X Gn D17 lW (λ_ _ _ _ _ _=>us2 λ_ _=>rfl) (qR a_no_more a_step_home cl)
 have A18:=C18.no X Gn D18 kD (λ_ _ _ _ _ _=>us2 λ_ _=>rfl)
 have C19:Ch P w K mg _ (T19 a_no_more a_step_home cl) 23:=A18.raise (clR [0]) rfl hC X Gn D18 kD (λ_ _ _ _ _ _=>us2 λ_ _=>rfl) (pI a_no_more a_step_home cl)
 have A19:=C19.no X Gn D19 mQ (λ_ _ _ _ _ _=>us2 λ_ _=>rfl)
 have C20:Ch P w K mg _ (T20 a_no_more a_step_home cl) 25:=A19.raise (clR [0]) rfl hC X Gn D19 mQ (λ_ _ _ _ _ _=>us2 λ_ _=>rfl) (rY a_no_more a_step_home cl)
 have A20:=C20.no X Gn D20 o3 (λ_ _ _ _ _ _=>us1 λ_=>rfl)
 have C21:Ch P w K mg _ (T21 a_no_more a_step_home cl) 27:=A20.raise (clR [0]) rfl hC X Gn D20 o3 (λ_ _ _ _ _ _=>us1 λ_=>rfl) (wD a_no_more a_step_home cl)
 have A21:=C21.no X Gn D21 kC (λ_ _ _ _ _ _=>us2 λ_ _=>rfl)
 have C22:Ch P w K mg _ (T22 a_no_more a_step_home cl) 29:=A21.raise (clR [0]) rfl hC X Gn D21 kC (λ_ _ _ _ _ _=>us2 λ_ _=>rfl) (pK a_no_more a_step_home cl)
 have A22:=C22.no X Gn D22 lF (λ_ _ _ _ _ _=>us2 λ_ _=>rfl)
 have C23:Ch P w K mg _ (T23 a_no_more a_step_home cl) 31:=A22.raise (clR [0]) rfl hC X Gn D22 lF (λ_ _ _ _ _ _=>us2 λ_ _=>rfl) (qw a_no_more a_step_home cl)
 have C24:Ch P w K mg _ (T24 a_no_more a_step_home cl) 31:=C23.refd rfl X Gn D23 q9 (λ_ _ _ _ _ _=>us1 λ_=>rfl) qA sg (Lr a_no_more a_step_home cl) Rk
 have C25:Ch P w K mg _ (T25 a_no_more a_step_home cl) 34:=C24.lam_ rfl rfl (by simp) nd g24 X Gn D24 mW (λ_ _ _ _ _ _=>us2 λ_ _=>rfl) (nW a_no_more a_step_home cl)
 have C26:Ch P w K mg _ (T26 a_no_more a_step_home cl) 35:=C25.dfn C25.o rfl X Gn D25 Ai (λ_ _ _ _ _ _=>us4 λ_ _ _ _=>rfl) (AW a_no_more a_step_home cl)
 have C27:Ch P w K mg _ (T27 a_no_more a_step_home cl) 36:=C26.dfn C26.o rfl X Gn D26 xb (λ_ _ _ _ _ _=>us2 λ_ _=>rfl) (zR a_no_more a_step_home cl)
 have C28:Ch P w K mg _ (T28 a_no_more a_step_home cl) 50:=C27.mono (by decide)
 have E_least_end_no_more : ∀ (caps:List U) (capv:List V) (cds:List (Addr×Obj)) (base:Heap),fD mg base->Fn ⟨P,w,⟨K,caps,capv,cds,[(p24,("_law_few_answers":Str)++".<locals>."++"<lambda>"),(p31,("_law_answers":Str)++".<locals>."++"<lambda>"),(p32,("_law_map_answers":Str)++".<locals>."++"<lambda>")]⟩,mg,base,none⟩ "least_end" 50 (["group","steps","place","left","last"]:List Str) (dD a_no_more eE):=fun caps capv cds base hbb=>by
  obtain⟨k',ps',hk,Fv⟩:=(C27.o caps capv cds base hbb).D "no_more" eE rfl
  have OL:TOk ⟨P,w,⟨K,caps,capv,cds,[(p24,("_law_few_answers":Str)++".<locals>."++"<lambda>"),(p31,("_law_answers":Str)++".<locals>."++"<lambda>"),(p32,("_law_map_answers":Str)++".<locals>."++"<lambda>")]⟩,mg,base,none⟩ ⟨(T27 a_no_more a_step_home cl).D,(T27 a_no_more a_step_home cl).C,[("last",a_no_more,eE)],(T27 a_no_more a_step_home cl).H,false,(T27 a_no_more a_step_home cl).Z⟩ 36:=(C27.o caps capv cds base hbb).lam (Fv.lam h_no_more) hk
  exact D27.fnR (M:=⟨P,w,⟨K,caps,capv,cds,[(p24,("_law_few_answers":Str)++".<locals>."++"<lambda>"),(p31,("_law_answers":Str)++".<locals>."++"<lambda>"),(p32,("_law_map_answers":Str)++".<locals>."++"<lambda>")]⟩,mg,base,none⟩) OL rfl rfl X Gn nJ (fun _ _ _ _ _ _=>us5 fun _ _ _ _ _=>rfl) (o5 a_no_more a_step_home cl a_no_more eE) 14
 have E_least_end_step_home : ∀ (caps:List U) (capv:List V) (cds:List (Addr×Obj)) (base:Heap),fD mg base->Fn ⟨P,w,⟨K,caps,capv,cds,[(p24,("_law_few_answers":Str)++".<locals>."++"<lambda>"),(p31,("_law_answers":Str)++".<locals>."++"<lambda>"),(p32,("_law_map_answers":Str)++".<locals>."++"<lambda>")]⟩,mg,base,none⟩ "least_end" 50 (["group","steps","place","left","last"]:List Str) (dD a_step_home dq):=fun caps capv cds base hbb=>by
  obtain⟨k',ps',hk,Fv⟩:=(C27.o caps capv cds base hbb).D "step_home" dq rfl
  have OL:TOk ⟨P,w,⟨K,caps,capv,cds,[(p24,("_law_few_answers":Str)++".<locals>."++"<lambda>"),(p31,("_law_answers":Str)++".<locals>."++"<lambda>"),(p32,("_law_map_answers":Str)++".<locals>."++"<lambda>")]⟩,mg,base,none⟩ ⟨(T27 a_no_more a_step_home cl).D,(T27 a_no_more a_step_home cl).C,[("last",a_step_home,dq)],(T27 a_no_more a_step_home cl).H,false,(T27 a_no_more a_step_home cl).Z⟩ 36:=(C27.o caps capv cds base hbb).lam (Fv.lam h_step_home) hk
  exact D27.fnR (M:=⟨P,w,⟨K,caps,capv,cds,[(p24,("_law_few_answers":Str)++".<locals>."++"<lambda>"),(p31,("_law_answers":Str)++".<locals>."++"<lambda>"),(p32,("_law_map_answers":Str)++".<locals>."++"<lambda>")]⟩,mg,base,none⟩) OL rfl rfl X Gn nJ (fun _ _ _ _ _ _=>us5 fun _ _ _ _ _=>rfl) (o5 a_no_more a_step_home cl a_step_home dq) 14
 have C29:Ch P w K mg _ (T29 a_no_more a_step_home cl) 51:=C28.dfn C28.o rfl X Gn D28 pH (λ_ _ _ _ _ _=>us1 λ_=>rfl) (qS a_no_more a_step_home cl)
 have A29:=C29.dfn (T':=⟨("least_end",dD a_no_more eE)::(T29 a_no_more a_step_home cl).D,(T29 a_no_more a_step_home cl).C,[],(T29 a_no_more a_step_home cl).H,false,(T29 a_no_more a_step_home cl).Z⟩) (fun caps capv cds base hbb=>((C29.o caps capv cds base hbb).cons ((E_least_end_no_more caps capv cds base hbb).mono (k:=51) (by decide)) (by decide))) rfl X Gn D29 nS (fun _ _ _ _ _ _=>us2 fun _ _=>rfl) (vR a_no_more a_step_home cl)
 have C30:Ch P w K mg _ (T30 a_no_more a_step_home cl) 53:=A29.raise (clR [0]) rfl hC X Gn D29 nS (λ_ _ _ _ _ _=>us2 λ_ _=>rfl) (uF a_no_more a_step_home cl)
 have A30:=C30.dfn (T':=⟨("least_end",dD a_step_home dq)::(T30 a_no_more a_step_home cl).D,(T30 a_no_more a_step_home cl).C,[],(T30 a_no_more a_step_home cl).H,false,(T30 a_no_more a_step_home cl).Z⟩) (fun caps capv cds base hbb=>((C30.o caps capv cds base hbb).cons ((E_least_end_step_home caps capv cds base hbb).mono (k:=53) (by decide)) (by decide))) rfl X Gn D30 lR (fun _ _ _ _ _ _=>us2 fun _ _=>rfl) (rV a_no_more a_step_home cl)
 have C31:Ch P w K mg _ (T31 a_no_more a_step_home cl) 55:=A30.raise (clR [0]) rfl hC X Gn D30 lR (λ_ _ _ _ _ _=>us2 λ_ _=>rfl) (rC a_no_more a_step_home cl)
 have C32:Ch P w K mg _ (T32 a_no_more a_step_home cl) 58:=C31.lam_ rfl rfl (by simp) nd g31 X Gn D31 qo (λ_ _ _ _ _ _=>us2 λ_ _=>rfl) (rW a_no_more a_step_home cl)
 have C33:Ch P w K mg _ (T33 a_no_more a_step_home cl) 61:=C32.lam_ rfl rfl (by simp) nd g32 X Gn D32 m7 (λ_ _ _ _ _ _=>us2 λ_ _=>rfl) (oa a_no_more a_step_home cl)
 exact C33
theorem all_mk {l:je}{w:World}{K:ah}{h:Heap}{mg:Str->Option Value}{fa:Addr}{q:Program}{k24 p24:Addr}{k31 p31:Addr}{k32 p32:Addr} (X:K.In h) (Gn:h.Ns mainGlobals mg) (hfa:mg "law"=some (.ref fa)) (B : ∀ x∈i5,aU K mainGlobals x=some none) (kc0 : ∃ t,aU K mainGlobals "MOST_TO_FIND"=some (some (.int 12 t))) (kc1 : ∃ t,aU K mainGlobals "MOST_TO_COUNT"=some (some (.int 8 t))) {c0 c1 c2 c3 c4 c5 c6 wA:Addr} (nc0:aU K mainGlobals "TooMany"=some (some (.ref c0))) (nc1:aU K mainGlobals "NotLevel"=some (some (.ref c1))) (nc2:aU K mainGlobals "NoLift"=some (some (.ref c2))) (nc3:aU K mainGlobals "NotPlain"=some (some (.ref c3))) (nc4:aU K mainGlobals "NoName"=some (some (.ref c4))) (nc5:aU K mainGlobals "BadNote"=some (some (.ref c5))) (nc6:aU K mainGlobals "NoTwist"=some (some (.ref c6))) (ncw:aU K mainGlobals "WalkError"=some (some (.ref wA))) (rb:G8 K [c0,c1,c2,c3,c4,c5,c6] wA [0]=true) (g24:mainGlobals≠p24) (g31:mainGlobals≠p31) (g32:mainGlobals≠p32) (nd:([p24,p31,p32]:List Addr).Nodup)
  (D0:Def K "no_more" j8) (D1:Def K "undone" lI) (D2:Def K "step_home" ir) (D3:Def K "_law_cell_at" fI) (D4:Def K "_law_state" ib) (D5:Def K "_law_take" i4) (D6:Def K "_law_clock" iw) (D7:Def K "_law_flips" ij) (D8:Def K "_law_quarter" fK) (D9:Def K "_law_both" iV) (D10:Def K "_law_named" ic) (D11:Def K "_law_order" ie) (D12:Def K "_law_group" il) (D13:Def K "_law_great" ix) (D14:Def K "_law_steps" iq) (D15:Def K "refuse_more" dX) (D16:Def K "ways_many" ig) (D17:Def K "rounds_many" fP) (D18:Def K "longest_walk" eV) (D19:Def K "all_rounds" gG) (D20:Def K "own_maps" iY) (D21:Def K "keeping_maps" e9) (D22:Def K "round_kinds" fM) (D23:Def K "_law_refused" dZ) (D24:kI K "_law_few_answers" dO k24 p24) (D25:Def K "goings" lU) (D26:Def K "all_but" ke) (D27:Def K "least_end" ik) (D28:Def K "all_but_home" eW) (D29:Def K "least_way" fe) (D30:Def K "least_round" dY) (D31:kI K "_law_answers" fO k31 p31) (D32:kI K "_law_map_answers" dS k32 p32) (D33:Def K "law" zg) {d24:DefRec} (n24:K.lookup p24=none) (r24:(fB q).find? (fun e=>e.name == ("_law_few_answers":Str))=some d24) {d31:DefRec} (n31:K.lookup p31=none) (r31:(fB q).find? (fun e=>e.name == ("_law_answers":Str))=some d31) {d32:DefRec} (n32:K.lookup p32=none) (r32:(fB q).find? (fun e=>e.name == ("_law_map_answers":Str))=some d32) :
  ∃ (tabs:List (Addr×Str)) (fd:FuncData) (sp:Sp),(∀ r∈tabs,K.lookup r.1=none /\ ∃ x d c,(fB q).find? (fun e=>e.name == x)=some d/\PySem.W.tabIn K x=some (c,r.1))/\(∀ (s:Shared) (v:Value),BindsTo s fd ⟨[v],[]⟩ [("script",v)]) /\
   (∀ base:Heap,K.In base->base.Ns mainGlobals mg->fD mg base->gy l.prog w K mg base CX0 62 fa fd ["script"] sp) /\ ∀ (H:Hp) (a:Addr) (ns:List Int),ns.length<=63->(∀ r∈tabs,xW H r.1 r.2)->SqL K H a (ns.map V.int)->sp [.ref a] H (fun v _=>v = .bl true) fun _ _ _=>False:=by
 obtain⟨a_no_more,_,e_no_more,_⟩:=D0.ex
 obtain⟨a_step_home,_,e_step_home,_⟩:=D2.ex
 obtain⟨Rk,hC⟩:=G0 (rz:= [0]) X Gn nc0 nc1 nc2 nc3 nc4 nc5 nc6 ncw rb
 have CH:=chain (P:=l.prog) (w:=w) X Gn B (bF X Gn e_no_more) (bF X Gn e_step_home) kc0 kc1 Rk hC g24 g31 g32 nd D0 D1 D2 D3 D4 D5 D6 D7 D8 D9 D10 D11 D12 D13 D14 D15 D16 D17 D18 D19 D20 D21 D22 D23 D24 D25 D26 D27 D28 D29 D30 D31 D32
 obtain⟨fd,h1,h2⟩:=Ia (l:=l) (w:=w) (tabs := [(p24,("_law_few_answers":Str)++".<locals>."++"<lambda>"),(p31,("_law_answers":Str)++".<locals>."++"<lambda>"),(p32,("_law_map_answers":Str)++".<locals>."++"<lambda>")]) X Gn hfa D33 Gf (fun _ _ _ _ _ _=>us1 fun _=>rfl) rfl (fun base hbb=>CH.o [] [] [] base hbb) (J8 a_no_more a_step_home _)
 refine⟨[(p24,("_law_few_answers":Str)++".<locals>."++"<lambda>"),(p31,("_law_answers":Str)++".<locals>."++"<lambda>"),(p32,("_law_map_answers":Str)++".<locals>."++"<lambda>")],fd,_,?_,h1,h2,fun H a ns hl hT hS=>Kc hT hS fun S h1 h2=>BF a_no_more a_step_home ns hl S h1 h2⟩
 intro r hr
 simp only[aX,List.not_mem_nil,_root_.or_false]at hr
 rcases hr with rfl |rfl |rfl
 ·exact⟨n24,_,_,_,r24,D24.tab⟩
 ·exact⟨n31,_,_,_,r31,D31.tab⟩
 ·exact⟨n32,_,_,_,r32,D32.tab⟩
theorem walk{l:je}{q:Program}{loose:List Str}{XP:(Str->Option Value)->Heap->Prop}{YP:World->Heap->Prop}{d:DefRec}{K:Params->ah}(hn:l.most=some 63)(hdf:d.params.defaults = [])
  (hY: ∀(w:World) (h:Heap),YP w h->(K w.params).In h)
  (F: ∀(w:World) (mg:Str->Option Value) (fa:Addr) (h:Heap),(K w.params).In h->h.Ns mainGlobals mg->mg d.name=some (.ref fa) -> ∃(tabs:List (Addr×Str)) (fd:FuncData) (sp:Sp),
   (∀ r∈tabs,(K w.params).lookup r.1=none /\ ∃ x d c,(fB q).find? (fun e=>e.name == x)=some d/\PySem.W.tabIn (K w.params) x=some (c,r.1))/\(∀ (s:Shared) (v:Value),BindsTo s fd ⟨[v],[]⟩ [("script",v)]) /\
   (∀ base:Heap,(K w.params).In base->base.Ns mainGlobals mg->fD mg base->gy l.prog w (K w.params) mg base CX0 62 fa fd ["script"] sp) /\ ∀ (H:Hp) (a:Addr) (ns:List Int),ns.length<=63->(∀ r∈tabs,xW H r.1 r.2)->SqL (K w.params) H a (ns.map V.int)->sp [.ref a] H (fun v _=>v = .bl true) fun _ _ _=>False) :
  wR q loose XP YP l.row.toRowW d [] (λf vs=>wQ f vs):=
 AL (n:=63) (k:=62) (x:="script") hn (by decide) hdf ⟨rfl,by decide,by decide,rfl⟩ hY F
end _W
open PySem PySem.W PyProof.Rows
theorem PySem.W.Fast.tw17136577101467801569 : True := trivial
theorem PySem.W.Fast.tw9306242599281569575 : True := trivial
theorem PySem.W.Fast.tw10699843370267232087 : True := trivial
theorem PySem.W.Fast.tw15464499201042851046 : True := trivial
theorem PySem.W.Fast.tw278601287140198530 : True := trivial
theorem PySem.W.Fast.tw14997876710891633342 : True := trivial
theorem PySem.W.Fast.tw1073010258787951168 : True := trivial
theorem PySem.W.Fast.tw17747971019528850090 : True := trivial
theorem PySem.W.Fast.tw3187235031835540063 : True := trivial
theorem PySem.W.Fast.tw2713938251213039571 : True := trivial
theorem PySem.W.Fast.tw5412597655109197412 : True := trivial
theorem PySem.W.Fast.tw7959289129564824405 : True := trivial
theorem PySem.W.Fast.tw4015038202262550939 : True := trivial
theorem PySem.W.Fast.tw16595490909679092149 : True := trivial
theorem PySem.W.Fast.tw606727347426748633 : True := trivial
theorem PySem.W.Fast.tw14010384145188014513 : True := trivial
theorem PySem.W.Fast.tw8512750378563167751 : True := trivial
theorem PySem.W.Fast.tw3881085376930381825 : True := trivial
theorem PySem.W.Fast.tw3435706052005511366 : True := trivial
theorem PySem.W.Fast.tw11474114508692446531 : True := trivial
theorem PySem.W.Fast.tw13714027375970222220 : True := trivial
theorem PySem.W.Fast.tw18093150924352727204 : True := trivial
theorem PySem.W.Fast.tw8871681237284262495 : True := trivial
theorem PySem.W.Fast.tw14369427264644942451 : True := trivial
theorem PySem.W.Fast.tw15421147714367571785 : True := trivial
theorem PySem.W.Fast.tw1136400738818713636 : True := trivial
theorem PySem.W.Fast.tw7647143050601292843 : True := trivial
theorem PySem.W.Fast.tw2676210301800229169 : True := trivial
theorem PySem.W.Fast.tw919852788735768399 : True := trivial
theorem PySem.W.Fast.tw4960399025034980464 : True := trivial
theorem PySem.W.Fast.tw9044185216636992807 : True := trivial
theorem PySem.W.Fast.tw9567059620417856274 : True := trivial
theorem PySem.W.Fast.tw2337787313621553429 : True := trivial
theorem PySem.W.Fast.tw18126341742658482735 : True := trivial
theorem PySem.W.Fast.tw17094190767970352652 : True := trivial
theorem PySem.W.Fast.tw2373254543566452156 : True := trivial
theorem PySem.W.Fast.tw3327053797537856919 : True := trivial
theorem PySem.W.Fast.tw10637320168415899271 : True := trivial
theorem PySem.W.Fast.tw369300262948055303 : True := trivial
theorem PySem.W.Fast.tw6914663980863118101 : True := trivial
theorem PySem.W.Fast.tw13273749227448607766 : True := trivial
theorem PySem.W.Fast.tw10553091753265802898 : True := trivial
theorem PySem.W.Fast.tw11893338416237067820 : True := trivial
set_option maxRecDepth 100000 in
set_option maxHeartbeats 0 in
theorem PySem.Challenge.cw_groupwalks_k44_too_many_things_holds : PySem.Challenge.rw_groupwalks_k44_too_many_things.Holds := by
 w_on;o_law;k_head;(case hw=>w_witness2)
 k_fill
 refine _W.walk (l:=PySem.Challenge.rw_groupwalks_k44_too_many_things) rfl rfl (λw h Y=>PySem.W.km_in_of Y) ?F
 case F=>
  intro w mg fa h KX Gh hmg
  refine' _W.all_mk KX Gh hmg ?B ?con0 ?con1 ?nc0 ?nc1 ?nc2 ?nc3 ?nc4 ?nc5 ?nc6 ?ncw ?rb ?g24 ?g31 ?g32 ?nd (_G.cP ?a0 ?l0 ?c0 ?k0) (_G.cP ?a1 ?l1 ?c1 ?k1) (_G.cP ?a2 ?l2 ?c2 ?k2) (_G.cP ?a3 ?l3 ?c3 ?k3) (_G.cP ?a4 ?l4 ?c4 ?k4) (_G.cP ?a5 ?l5 ?c5 ?k5) (_G.cP ?a6 ?l6 ?c6 ?k6) (_G.cP ?a7 ?l7 ?c7 ?k7) (_G.cP ?a8 ?l8 ?c8 ?k8) (_G.cP ?a9 ?l9 ?c9 ?k9) (_G.cP ?a10 ?l10 ?c10 ?k10) (_G.cP ?a11 ?l11 ?c11 ?k11) (_G.cP ?a12 ?l12 ?c12 ?k12) (_G.cP ?a13 ?l13 ?c13 ?k13) (_G.cP ?a14 ?l14 ?c14 ?k14) (_G.cP ?a15 ?l15 ?c15 ?k15) (_G.cP ?a16 ?l16 ?c16 ?k16) (_G.cP ?a17 ?l17 ?c17 ?k17) (_G.cP ?a18 ?l18 ?c18 ?k18) (_G.cP ?a19 ?l19 ?c19 ?k19) (_G.cP ?a20 ?l20 ?c20 ?k20) (_G.cP ?a21 ?l21 ?c21 ?k21) (_G.cP ?a22 ?l22 ?c22 ?k22) (_G.cP ?a23 ?l23 ?c23 ?k23) (_G.uR ?a24 ?l24 ?c24 ?k24 ?e24 ?u24 ?v24 ?w24 ?x24 ?y24 ?z24 ?t24) (_G.cP ?a25 ?l25 ?c25 ?k25) (_G.cP ?a26 ?l26 ?c26 ?k26) (_G.cP ?a27 ?l27 ?c27 ?k27) (_G.cP ?a28 ?l28 ?c28 ?k28) (_G.cP ?a29 ?l29 ?c29 ?k29) (_G.cP ?a30 ?l30 ?c30 ?k30) (_G.uR ?a31 ?l31 ?c31 ?k31 ?e31 ?u31 ?v31 ?w31 ?x31 ?y31 ?z31 ?t31) (_G.uR ?a32 ?l32 ?c32 ?k32 ?e32 ?u32 ?v32 ?w32 ?x32 ?y32 ?z32 ?t32) (_G.cP ?a33 ?l33 ?c33 ?k33) ?n24 ?r24 ?n31 ?r31 ?n32 ?r32
  (case con0=>exact⟨_,by k_is⟩)
  (case con1=>exact⟨_,by k_is⟩)
  (case nc0=>k_is)
  (case nc1=>k_is)
  (case nc2=>k_is)
  (case nc3=>k_is)
  (case nc4=>k_is)
  (case nc5=>k_is)
  (case nc6=>k_is)
  (case ncw=>k_is)
  (case rb=>kernel_rfl)
  case B=>
   intro x hx
   simp only[_G.i5,aX,List.not_mem_nil,or_false]at hx
   rcases hx with rfl |rfl |rfl |rfl |rfl |rfl |rfl |rfl |rfl |rfl |rfl |rfl |rfl |rfl |rfl |rfl |rfl |rfl |rfl |rfl
   all_goals k_is
  (case a0=>k_is);(case l0=>k_is);(case c0=>k_is);(case k0=>k_is)
  (case a1=>k_is);(case l1=>k_is);(case c1=>k_is);(case k1=>k_is)
  (case a2=>k_is);(case l2=>k_is);(case c2=>k_is);(case k2=>k_is)
  (case a3=>k_is);(case l3=>k_is);(case c3=>k_is);(case k3=>k_is)
  (case a4=>k_is);(case l4=>k_is);(case c4=>k_is);(case k4=>k_is)
  (case a5=>k_is);(case l5=>k_is);(case c5=>k_is);(case k5=>k_is)
  (case a6=>k_is);(case l6=>k_is);(case c6=>k_is);(case k6=>k_is)
  (case a7=>k_is);(case l7=>k_is);(case c7=>k_is);(case k7=>k_is)
  (case a8=>k_is);(case l8=>k_is);(case c8=>k_is);(case k8=>k_is)
  (case a9=>k_is);(case l9=>k_is);(case c9=>k_is);(case k9=>k_is)
  (case a10=>k_is);(case l10=>k_is);(case c10=>k_is);(case k10=>k_is)
  (case a11=>k_is);(case l11=>k_is);(case c11=>k_is);(case k11=>k_is)
  (case a12=>k_is);(case l12=>k_is);(case c12=>k_is);(case k12=>k_is)
  (case a13=>k_is);(case l13=>k_is);(case c13=>k_is);(case k13=>k_is)
  (case a14=>k_is);(case l14=>k_is);(case c14=>k_is);(case k14=>k_is)
  (case a15=>k_is);(case l15=>k_is);(case c15=>k_is);(case k15=>k_is)
  (case a16=>k_is);(case l16=>k_is);(case c16=>k_is);(case k16=>k_is)
  (case a17=>k_is);(case l17=>k_is);(case c17=>k_is);(case k17=>k_is)
  (case a18=>k_is);(case l18=>k_is);(case c18=>k_is);(case k18=>k_is)
  (case a19=>k_is);(case l19=>k_is);(case c19=>k_is);(case k19=>k_is)
  (case a20=>k_is);(case l20=>k_is);(case c20=>k_is);(case k20=>k_is)
  (case a21=>k_is);(case l21=>k_is);(case c21=>k_is);(case k21=>k_is)
  (case a22=>k_is);(case l22=>k_is);(case c22=>k_is);(case k22=>k_is)
  (case a23=>k_is);(case l23=>k_is);(case c23=>k_is);(case k23=>k_is)
  (case a24=>k_is);(case l24=>k_is);(case c24=>k_is);(case k24=>k_is)
  (case e24=>k_is);(case u24=>rfl);(case v24=>rfl);(case w24=>rfl);(case x24=>rfl);(case y24=>rfl);(case z24=>rfl);(case t24=>decide)
  (case a25=>k_is);(case l25=>k_is);(case c25=>k_is);(case k25=>k_is)
  (case a26=>k_is);(case l26=>k_is);(case c26=>k_is);(case k26=>k_is)
  (case a27=>k_is);(case l27=>k_is);(case c27=>k_is);(case k27=>k_is)
  (case a28=>k_is);(case l28=>k_is);(case c28=>k_is);(case k28=>k_is)
  (case a29=>k_is);(case l29=>k_is);(case c29=>k_is);(case k29=>k_is)
  (case a30=>k_is);(case l30=>k_is);(case c30=>k_is);(case k30=>k_is)
  (case a31=>k_is);(case l31=>k_is);(case c31=>k_is);(case k31=>k_is)
  (case e31=>k_is);(case u31=>rfl);(case v31=>rfl);(case w31=>rfl);(case x31=>rfl);(case y31=>rfl);(case z31=>rfl);(case t31=>decide)
  (case a32=>k_is);(case l32=>k_is);(case c32=>k_is);(case k32=>k_is)
  (case e32=>k_is);(case u32=>rfl);(case v32=>rfl);(case w32=>rfl);(case x32=>rfl);(case y32=>rfl);(case z32=>rfl);(case t32=>decide)
  (case a33=>k_is);(case l33=>k_is);(case c33=>k_is);(case k33=>k_is)
  (case g24=>decide)
  (case g31=>decide)
  (case g32=>decide)
  (case nd=>decide)
  (case n24=>kernel_rfl);(case r24=>rfl)
  (case n31=>kernel_rfl);(case r31=>rfl)
  (case n32=>kernel_rfl);(case r32=>rfl)
