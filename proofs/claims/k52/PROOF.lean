import PyProof.Rows.All
import Wide.All
import OpenK.AllK
import Wide.FinOn
import Lean
import PyProof.EqAt
import PyProof.EqKinds
import PyProof.TupleCall
import PyProof.EnumStmt
import PyProof.EnumMake
import PyProof.EnumFor
import PyProof.ZipIter
import PyProof.SetKind
import PyProof.Rows.SetFrom
import PyProof.CompFree
import PyProof.CompMap
import PyProof.Cells
import PyProof.ListMulRoad
import PyProof.ConsumeWalk
import PyProof.TupleOfGen
import PyProof.ListRange
import PySem.Challenge.RW_groupwalks_k52_rings_of_choices
set_option Elab.async false
set_option linter.all false
set_option maxRecDepth 100000
set_option maxHeartbeats 0
set_option compiler.postponeCompile true
set_option bootstrap.genMatcherCode false
set_option genSizeOfSpec false
set_option relaxedAutoImplicit false
noncomputable section
open Array renaming length_toList→dX,getElem?_toList→za,toList_append→BD
open Bool renaming and_eq_true→aB,false_ne_true→bI,false_eq_true→eu,and_true→jJ,or_eq_true→lF
open Classical renaming propDecidable→bO,byContradiction→cP
open False renaming elim→bZ
open ForInStep renaming yield→cH
open Function renaming comp_def→Bw
open Int renaming toNat_natCast→jI,natCast_emod→kO,emod_lt_of_pos→pN,natCast_ediv→tq,toNat→tu,emod_nonneg→vq,natCast_add→vt,eq_ofNat_of_zero_le→zb
open List renaming getElem?_eq_some_iff→ae,length_map→aq,range→ar,getElem?_append_right→av,mem_cons_of_mem→az,getElem?_set_ne→aA,size_toArray→aC,replicate→aE,mem_cons→aG,getElem?_set_self→aH,lookup_cons→aL,getElem?_append_left→aM,append_assoc→aN,range'→aP,mem_map→aQ,mem_append_right→aR,getElem?_eq_getElem→aS,mem_range→aU,mem_cons_self→aV,length_range→aY,getElem?_map→bo,getD_eq_getElem?_getD→bp,mem_append→bx,map_cons→bz,mem_append_left→bA,length_append→bE,find?_cons→bF,mem_of_getElem?→bL,all_cons→bT,all_eq_true→bU,mem_singleton→cx,length_cons→cz,replicate_succ→cU,getElem?_eq_none_iff→cX,set_append_right→cZ,not_mem_nil→df,eq_nil_of_length_eq_zero→dk,nodup_cons→dq,nil_append→du,map_append→dv,nodup_iff_pairwise_ne→dC,findIdx?_eq_some_iff_getElem→dI,range_succ→dP,map_congr_left→d0,any_eq_true→d5,length_set→eI,forIn_cons→eJ,any_cons→eN,flatten_cons→eR,map_map→fq,filterMap_cons→fC,mem_filter→fK,length_nil→fM,lookup_append→fR,getElem?_replicate→fZ,lookup→gf,range'_succ→hU,getElem_mem→hV,range_eq_range'→ir,append_nil→iM,pairwise_map→jH,idxOf_lt_length_iff→jL,all_nil→lg,pairwise_lt_range→lh,of_mem_zip→lE,foldl_cons→lG,length_replicate→lL,length_filter_le→lN,forIn_nil→mL,getElem?_range→nF,map_nil→pT,nodup_append→pW,map→pX,take_add_one→pY,eraseIdxIfInBounds_toArray→qw,length_take→rj,drop_length→rq,length→s9,drop_eq_getElem_cons→wq,eq_of_mem_replicate→xF,eraseIdx_cons_succ→yX,getElem?_cons_succ→yZ,getElem?_cons_zero→y3,dropLast_eq_take→Bt,getElem?_eq_none→Bv,getElem_toArray→BC
open List.Pairwise renaming imp_of_mem→eT,nil→fv
open Nat renaming le_refl→aj,lt_of_lt_of_le→aF,ne_of_lt→bb,le_trans→br,mod_eq_of_lt→bu,lt_irrefl→bD,zero_le→b9,lt_succ_self→cg,mul_le_mul_right→cD,le_of_lt→di,zero_add→dj,lt_succ_of_lt→dr,ne_of_gt→dA,le_add_right→fA,div_eq_of_lt→fB,le_succ→iw,succ_mul→je,mul_comm→jf,add_mod_right→jK,mod_lt→lH,add_zero→lI,mod_self→lJ,sub_self→lK,mod_add_mod→lM,lt_of_le_of_lt→pO,lt_trans→qy,div_add_mod→vp,add_assoc→yY,lt_succ_iff_lt_or_eq→y4
open Ne renaming symm→dH
open Option renaming bind_some→ah,map_some→aT,isSome_iff_exists→fD,isSome_map→oo,isSome_some→BB
open Option.some renaming inj→bB,injEq→dB
open PUnit renaming unit→nR
open PyProof.Rows renaming callWith_type1→cn,recsOf→gX,boot_tuple→iX,boot_list→rz
open PyProof.Rows.IsTup renaming new→qu
open PySem renaming wpAny_bind→ag,wpAny→aI,wpAny_pure→aK,mem_of_lookup→bJ,wpAny_mono→cf,wpAny_field→dG,wpAny_newObj_type→dZ,wpAny_seqItems→eG,wpAny_Call_Name_kw→eQ,wpAny_setField_rec→eS,wpAny_passesOwn→eZ,wpAny_loadPart'→fb,codeAny_builtin→fe,wpAny_truthy_bool→fo,wpAny_call_entry→fL,wpAny_callSpecial?_slot→gY,wpAny_holding→iV,codeAny_mono→jF,Addr→kP,wpAny_execs_nil→nE,wpAny_updateSeq_pair→pK,PyData→pP,codeAny→pS,wpAny_onRaise→rm,wpAny_assign_Name→vj,wpAny_pyIter_list→vk,wpAny_load→Bq,wpAny_rule→Bs,wpAny_runValue→Bu
open PySem.Around renaming under_plainId→dh,frames_deeper→y9
open PySem.AutoSeq1 renaming idx_int→oq
open PySem.Builtin.List renaming listTooLong→iN,listExtendWith→nQ,listSameRef→pV
open PySem.Builtin.Range renaming rangeSize→cY,small→kn
open PySem.Builtin.SmallTypes renaming nextOf→bN,ownedTupleIsFree→da,ownedTupleHandOut→jg
open PySem.Builtin.Tuple renaming tupleTooMany→nO,tupleExact→pM
open PySem.Calls renaming callWith_builtin→kN,evalArgs_plain→mK,spliced_cons→nN,Name_function_global→vh,call_function_entry→vv
open PySem.Data renaming seq→pU,cell→yW
open PySem.F renaming plain_list_iadd→fh,slot_tuple_iterator_next→fw,plainAttrs_list→fJ,args_tuple_add_2→jy,entry_tuple_add→jG,slot_tuple_add→km,slot_zip_next→mM,entry_proto_collect→nj,plain_proto_collect→nk,args_tuple_mul_2→qz,entry_tuple_mul→tj,entry_list_iadd→tm,slot_tuple_mul→vm,slot_tuple_index→vn,args_tuple_iterator_next_1→wo,entry_tuple_iterator_next→xC,slot_list_pop→xD,type_list_pop→xE
open PySem.Heap renaming get?_push_of_some→af,lt_size→aw,get?_push_size→ay,size_push→aW,get?_update_other→cN,get?_update_self→eO,SameBut→pR
open PySem.Heap.SameBut renaming update→vl
open PySem.IsL renaming update→Br
open PySem.NameKind renaming free→aJ,cell→bR
open PySem.Obj renaming mapSeq→dg
open PySem.Paired renaming length→vu
open PySem.PassesOwn renaming never→pL
open PySem.PyData renaming eqvAll→bQ,eqv→dJ,int→eK,canLay0→gv,depthAll→iq,depth→iO,eqv→iW,canLayAll0→jz
open PySem.SeqAt.EqAt renaming int_str→xA,str_int→xB
open PySem.Str renaming ofString→qx
open PySem.Value renaming ref→be,none→eh,int→qo,str→qq,bool→vf,type→vg
open PySem.W renaming Frag→ak,keepIn→ck,kia_one→cq,fnOf→cu,cellsFrom_some→fY,codeIn→gc,nsIn→gg,findIn→iU,OpenLaw→kJ,mg_of→mN,callWith_K→ni,methodObj→nM,instObj→qr,lookIn→sZ,hideAll_size→yU,hideAll_none→yV,hideAll_get→y6,of_hideAll→Bp,specialIn→Bx,kitx_list→By,kitx_dict→Bz
open Sum renaming inl→dF,inr→qp
open Sum.inl renaming inj→pQ
open True renaming intro→ek
section
namespace L2
open PySem PySem.Spec PyProof.Rows
abbrev Key:=Sum Int Str
noncomputable def oC:Key->Value->Bool
 | .inl k,v=>Value.isInt k v
 | .inr x,v=>Value.isStrOf x v
noncomputable def Kb (w:World):Key->Int
 | .inl k=>hashInt k
 | .inr x=>hashStr w x
theorem dm : ∀ {k:Key}{v:Value},oC k v=true->(∃ i t,k=dF i/\v=qo i t)\/(∃ x t,k=qp x/\v=qq x t)
 | .inl i,v,h=>by
   obtain⟨t,e⟩:=Value.isInt_shape (k:=i) (v:=v) h
   exact .inl ⟨i,t,rfl,e⟩
 | .inr x,v,h=>by
   obtain⟨t,e⟩:=Value.isStrOf_shape (x:=x) (v:=v) h
   exact .inr ⟨x,t,rfl,e⟩
theorem yK (i:Int) (t:Tok):oC (.inl i) (.int i t)=true:=by simp [oC,Value.isInt]
theorem yt (x:Str) (t:Tok):oC (.inr x) (.str x t)=true:=by simp [oC,Value.isStrOf]
theorem FB (a b:Int):decide ((dF a:Key)=dF b)=(a == b):=by
 by_cases e:a=b
 ·subst e;simp
 ·have h : ¬ (dF a:Key)=dF b:=fun q=>e (pQ q)
  rw [decide_eq_false h]
  exact (beq_eq_false_iff_ne.mpr e).symm
theorem Gy (a b:Str):decide ((qp a:Key)=qp b)=decide (a=b):=by
 by_cases e:a=b
 ·subst e;simp
 ·have h : ¬ (qp a:Key)=qp b:=fun q=>e (Sum.inr.inj q)
  rw [decide_eq_false h,decide_eq_false e]
theorem EZ (a:Int) (b:Str):decide ((dF a:Key)=qp b)=false:=decide_eq_false (fun q=>nomatch q)
theorem FV (a:Str) (b:Int):decide ((qp a:Key)=dF b)=false:=decide_eq_false (fun q=>nomatch q)
noncomputable def de (prog:Program) (w:World):PySem.KeyKind prog w Key where
 is:=oC
 hash:=Kb w
 inj:=fun v a b ha hb=>by
  rcases dm ha with⟨i,t,rfl,rfl⟩ | ⟨x,t,rfl,rfl⟩
  ·rcases dm hb with⟨j,u,rfl,e⟩ | ⟨y,u,rfl,e⟩
   ·injection e with e1 _;rw [e1]
   ·exact nomatch e
  ·rcases dm hb with⟨j,u,rfl,e⟩ | ⟨y,u,rfl,e⟩
   ·exact nomatch e
   ·injection e with e1 _;rw [e1]
 byValue:=fun k v h=>by
  rcases dm h with⟨i,t,rfl,rfl⟩ | ⟨x,t,rfl,rfl⟩ <;> rfl
 pyHash:=fun hv h=>by
  rcases dm hv with⟨i,t,rfl,rfl⟩ | ⟨x,t,rfl,rfl⟩
  ·exact wpAny_pyHash_int h
  ·exact wpAny_pyHash_str h
 eqBool:=fun hu hv h=>by
  rcases dm hu with⟨i,t,rfl,rfl⟩ | ⟨x,t,rfl,rfl⟩
  ·rcases dm hv with⟨j,u,rfl,rfl⟩ | ⟨y,u,rfl,rfl⟩
   ·rw [FB] at h;exact wpAny_eqBool_int h
   ·rw [EZ] at h;exact xA i t y u _ _ _ _ h
  ·rcases dm hv with⟨j,u,rfl,rfl⟩ | ⟨y,u,rfl,rfl⟩
   ·rw [FV] at h;exact xB x t j u _ _ _ _ h
   ·rw [Gy] at h;exact wpAny_eqBool_str h
 «strs»:=fun k x t v h=>by
  rcases dm h with⟨i,u,rfl,e⟩ | ⟨y,u,rfl,e⟩
  ·exact nomatch e
  ·injection e with e1 _
   subst e1
   cases v <;> rfl
theorem tO (prog:Program) (w:World) (i:Int) (t:Tok):(de prog w).is (.inl i) (.int i t)=true:=yK i t
theorem uV (prog:Program) (w:World) (x:Str) (t:Tok):(de prog w).is (.inr x) (.str x t)=true:=yt x t
end L2
namespace L2
open PySem PySem.Spec PyProof.Rows
inductive V where
 | non | bl (b:Bool) | int (i:Int) | str (x:Str) | byt (b:Array UInt8) | flt (b:UInt64) | ref (a:Addr) | ty (n:String)
 deriving DecidableEq
noncomputable def RelV:V->Value->Prop
 | .non,u=>u=eh
 | .bl b,u=>u=vf b
 | .int i,u => ∃ t,u=qo i t
 | .str x,u => ∃ t,u=qq x t
 | .byt b,u => ∃ t,u=Value.bytes b t
 | .flt b,u => ∃ t,u=Value.float b t
 | .ref a,u=>u=be a
 | .ty n,u=>u=vg n
abbrev bP:List V->List Value->Prop:=Paired RelV
theorem bP.length {xs:List V}{us:List Value} (r:bP xs us):xs.length=us.length:=vu r
theorem bP.get : ∀ {xs:List V}{us:List Value}{i:Nat}{x:V},bP xs us->xs[i]? = some x -> ∃ u,us[i]? = some u/\RelV x u
 | _,_,_,_,.nil,e=>by simp at e
 | _,_,0,_,.cons r _,e=>by simp at e;subst e;exact⟨_,rfl,r⟩
 | _,_,i+1,x,.cons _ t,e=>by
   obtain⟨u,h1,h2⟩:=bP.get (i:=i) (x:=x) t (by simpa using e)
   exact⟨u,by simpa using h1,h2⟩
theorem bP.set {x:V}{u:Value} (r:RelV x u) : ∀ {xs:List V}{us:List Value} (i:Nat),bP xs us->bP (xs.set i x) (us.set i u)
 | _,_,_,.nil => .nil
 | _,_,0,.cons _ t => .cons r t
 | _,_,i+1,.cons q t => .cons q (bP.set r i t)
theorem bP.append : ∀ {xs ys:List V}{us ws:List Value},bP xs us->bP ys ws->bP (xs++ys) (us++ws)
 | _,_,_,_,.nil,s=>s
 | _,_,_,_,.cons r t,s => .cons r (bP.append t s)
noncomputable def o4:Option V->Option Value->Prop
 | some v,some u=>RelV v u
 | none,none=>True
 | _,_=>False
noncomputable def KV {κ:Type}:List (κ×V)->List (κ×Value)->Prop:=Paired fun (p:κ×V) (q:κ×Value)=>p.1=q.1/\RelV p.2 q.2
noncomputable def kV:Key->V
 | .inl i => .int i
 | .inr x => .str x
inductive HO where
 | lst (xs:List V)
 | tup (xs:List V)
 | dK (kvs:List (Key×V)) | dT (kvs:List (List Key×V))
 | set (S:Int->Bool) (n:Nat)
 | ins (C dx:Addr) (fs:List (Str×V))
 | own (x:Addr)
 | xd (fs:List (Str×V))
 | met (f x:Addr)
 | rng (lo hi:Int)
 | frz (o:Obj) (u:HO)
 | tbl (ps:Array Value)
 | ext (φ:Heap->Prop)
abbrev Hp:=Addr->Option HO
noncomputable def upd (H:Hp) (a:Addr) (o:HO):Hp:=fun b=>if b=a then some o else H b
theorem bS {H:Hp}{a:Addr}{o:HO}:upd H a o a=some o:=by unfold upd;rw [if_pos rfl]
theorem bg {H:Hp}{a b:Addr}{o:HO} (h:b≠a):upd H a o b=H b:=by unfold upd;rw [if_neg h]
theorem o5 {H:Hp}{a b:Addr}{o u:HO} (h:H a=some o) (h':H b=some u) (d:o≠u):a≠b:=by
 intro e;subst e;rw [h] at h';exact d (bB h')
theorem bf {H:Hp}{a b:Addr}{o:HO} (h:H a=some o) (h':H b=none):a≠b:=by
 intro e;subst e;rw [h] at h';cases h'
section
variable (P:Program) (w:World)
noncomputable def dz (H:Hp) (h:Heap) (a:Addr):HO->Prop
 | .lst xs=>xs.length<=sizeLine /\ ∃ (its:List Value) (n:Nat),bP xs its/\h.get? a=some { cls := .type "list",data := .seq its.toArray n }
 | .tup xs=>xs.length<=sizeLine /\ ∃ its:List Value,bP xs its/\IsTup h a its.toArray /\ ∃ o,h.get? a=some o/\o.dict=none
 | .dK kvs=>kvs.length<=sizeLine/\(a == sysModules)=false /\ ∃ vs,KV kvs vs/\h.DictOf (de P w) a vs
 | .dT kvs=>kvs.length<=sizeLine/\(a == sysModules)=false /\ ∃ xs:List (List Key×Addr×Value),
   Paired (fun (p:List Key×V) (q:List Key×Addr×Value)=>p.1=q.1/\H q.2.1=some (.tup (p.1.map kV))/\RelV p.2 q.2.2) kvs xs /\
   ∃ o es ep,h.get? a=some o/\o.ExactDict/\o.data = .dict es ep/\es.toList=xs.map (entryOfKey (tupleKind (de P w)))/\(xs.map (·.1)).Nodup
 | .set S n=>h.SetOf (intKind P w) a S n
 | .ins C dx fs=>H dx=some (.own a)/\fs.length<=1000/\dx≠a/\h.get? a=some (qr C dx) /\
   ∃ mA,h.Ns1 dx mA/\(∀ f,o4 (fs.lookup f) (mA f))/\PySem.Within mA (fs.map (·.1))
 | .own _ => ∃ o,h.get? a=some o
 | .xd fs => ∃ mA,h.Ns1 a mA /\ ∀ f,o4 (fs.lookup f) (mA f)
 | .rng lo hi => ∃ t u v,h.get? a=some { cls := .type "range",data := .fields #[.int lo t,.int hi u,.int 1 v] }
 | .frz o u=>h.get? a=some o/\dz H h a u
 | .tbl ps=>h.get? a=some { cls := .none,data := .fields ps }
 | .met f x=>h.get? a=some (nM (.ref f) (.ref x))
 | .ext φ=>φ h/\(∃ o,h.get? a=some o) /\ ∀ h1 h2:Heap,φ h1->(∀ o,h1.get? a=some o->h2.get? a=some o)->φ h2
noncomputable def HOk (H:Hp) (h:Heap):Prop := ∀ a o,H a=some o->dz P w H h a o
end
section
variable {P:Program}{w:World}{H H':Hp}{h h':Heap}{a:Addr}{o:HO}
theorem dz.lt (x:dz P w H h a o):a < h.objs.size:=by
 cases o with
 | lst xs=>obtain⟨_,_,_,_,e⟩:=x;exact aw e
 | tup xs=>obtain⟨_,_,_,p⟩:=x;exact p.1.lt
 | dK kvs=>obtain⟨_,_,_,_,o,_,_,e,_⟩:=x;exact aw e
 | dT kvs=>obtain⟨_,_,_,_,o,_,_,e,_⟩:=x;exact aw e
 | set S n=>obtain⟨o,_,_,_,e,_⟩:=x;exact aw e
 | ins C dx fs=>obtain⟨_,_,_,e,_⟩:=x;exact aw e
 | own y=>obtain⟨_,e⟩:=x;exact aw e
 | xd fs=>obtain⟨_,⟨_,_,_,e,_⟩,_⟩:=x;exact aw e
 | rng lo hi=>obtain⟨_,_,_,e⟩:=x;exact aw e
 | frz ob u=>obtain⟨e,_⟩:=x;exact aw e
 | tbl ps=>exact aw (show h.get? a=some _ from x)
 | met f y=>exact aw (show h.get? a=some _ from x)
 | ext φ=>obtain⟨_,⟨_,e⟩,_⟩:=x;exact aw e
theorem Paired.mapP {α β:Type}{F G:α->β->Prop} : ∀ {l₁:List α}{l₂:List β},Paired F l₁ l₂->(∀ a b,F a b->G a b)->Paired G l₁ l₂
 | _,_,.nil,_ => .nil
 | _,_,.cons r t,f => .cons (f _ _ r) (Paired.mapP t f)
theorem dz.stay (x:dz P w H h a o) (k : ∀ b u,(b=a\/H b=some (.own a))->h.get? b=some u->h'.get? b=some u)
  (ho : ∀ b,H b=some (.own a)->H' b=some (.own a)) (ht : ∀ b xs,H b=some (.tup xs)->H' b=some (.tup xs)):dz P w H' h' a o:=by
 induction o with
 | lst xs=>obtain⟨z,its,n,r,e⟩:=x;exact⟨z,its,n,r,k _ _ (.inl rfl) e⟩
 | tup xs=>obtain⟨z,its,r,⟨ob,e,c⟩,o2,e2,c2⟩:=x;exact⟨z,its,r,⟨ob,k _ _ (.inl rfl) e,c⟩,o2,k _ _ (.inl rfl) e2,c2⟩
 | dK kvs=>obtain⟨z,y,vs,r,ob,es,ep,e,c⟩:=x;exact⟨z,y,vs,r,ob,es,ep,k _ _ (.inl rfl) e,c⟩
 | dT kvs=>
   obtain⟨z,y,xs,r,ob,es,ep,e,c⟩:=x
   exact⟨z,y,xs,Paired.mapP r fun p q z=>⟨z.1,ht _ _ z.2.1,z.2.2⟩,ob,es,ep,k _ _ (.inl rfl) e,c⟩
 | set S n=>obtain⟨ob,es,ep,t,e,c⟩:=x;exact⟨ob,es,ep,t,k _ _ (.inl rfl) e,c⟩
 | ins C dx fs=>
   obtain⟨d,z,ne,e,mA,⟨od,es,ep,e2,c⟩,r⟩:=x
   exact⟨ho _ d,z,ne,k _ _ (.inl rfl) e,mA,⟨od,es,ep,k _ _ (.inr d) e2,c⟩,r⟩
 | own y=>obtain⟨ob,e⟩:=x;exact⟨ob,k _ _ (.inl rfl) e⟩
 | xd fs=>obtain⟨mA,⟨od,es,ep,e,c⟩,r⟩:=x;exact⟨mA,⟨od,es,ep,k _ _ (.inl rfl) e,c⟩,r⟩
 | rng lo hi=>obtain⟨t,u,v,e⟩:=x;exact⟨t,u,v,k _ _ (.inl rfl) e⟩
 | frz ob u ih=>obtain⟨e,q⟩:=x;exact⟨k _ _ (.inl rfl) e,ih q⟩
 | tbl ps=>
   have e:h.get? a=some { cls := .none,data := .fields ps }:=x
   show h'.get? a=some { cls := .none,data := .fields ps }
   exact k a _ (.inl rfl) e
 | met f y=>
   have e:h.get? a=some (nM (.ref f) (.ref y)):=x
   show h'.get? a=some (nM (.ref f) (.ref y))
   exact k a _ (.inl rfl) e
 | ext φ=>obtain⟨p,⟨o,e⟩,st⟩:=x;exact⟨st _ _ p fun o q=>k _ _ (.inl rfl) q,⟨o,k _ _ (.inl rfl) e⟩,st⟩
theorem HOk.lt (x:HOk P w H h) (e:H a=some o):a < h.objs.size:=(x a o e).lt
theorem HOk.fresh (x:HOk P w H h) (e:h.objs.size<=a):H a=none:=by
 cases q:H a with
 | none=>rfl
 | some u=>exact absurd (aF (x.lt q) e) (bD _)
theorem HOk.kept (x:HOk P w H h) (k : ∀ b u,h.get? b=some u->h'.get? b=some u):HOk P w H h':=fun a o e=>
 (x a o e).stay (fun b u _ q=>k b u q) (fun _ q=>q) fun _ _ q=>q
theorem HOk.laid (x:HOk P w H h) (k : ∀ b u,h.get? b=some u->h'.get? b=some u) (hp:h.objs.size<=a) (new:dz P w (upd H a o) h' a o):HOk P w (upd H a o) h':=fun b u e=>by
 have hn:=x.fresh hp
 by_cases hb:b=a
 ·subst hb;rw [bS] at e;cases e;exact new
 ·rw [bg hb] at e
  exact (x b u e).stay (fun c v _ q=>k c v q) (fun c q=>by rw [bg (bf q hn)];exact q) fun c xs q=>by rw [bg (bf q hn)];exact q
end
noncomputable def Rd (H:Hp) (a:Addr) (u:HO):Prop:=H a=some u \/ ∃ o,H a=some (.frz o u)
theorem Rd.ok {P:Program}{w:World}{H:Hp}{h:Heap}{a:Addr}{u:HO} (r:Rd H a u) (x:HOk P w H h):dz P w H h a u:=by
 rcases r with r | ⟨o,r⟩
 ·exact x a u r
 ·obtain⟨_,q⟩:=x a _ r
  exact q
noncomputable def Mut:Option HO->Prop
 | some (.lst _)=>True
 | some (.dK _)=>True
 | some (.dT _)=>True
 | some (.set _ _)=>True
 | some (.ins _ _ _)=>True
 | some (.ext _)=>True
 | _=>False
section
variable {P:Program}{w:World}{H:Hp}{h h':Heap}{x e:Addr}{o':HO}
theorem HOk.write (ok:HOk P w H h) (mu:Mut (H x)) (he:e=x\/H e=some (.own x)) (k : ∀ b u,b≠e->h.get? b=some u->h'.get? b=some u) (heo : ∃ u,h'.get? e=some u)
  (new:dz P w (upd H x o') h' x o'):HOk P w (upd H x o') h':=fun b u q=>by
 have nown : ∀ c y,H c=some (.own y)->c≠x:=fun c y r z=>by subst z;rw [r] at mu;exact mu
 have ntup : ∀ c xs,H c=some (.tup xs)->c≠x:=fun c xs r z=>by subst z;rw [r] at mu;exact mu
 by_cases hb:b=x
 ·subst hb;rw [bS] at q;cases q;exact new
 ·rw [bg hb] at q
  by_cases hbe:b=e
  ·have q':H b=some (.own x):=by
    rcases he with z | z
    ·exact absurd (hbe.trans z) hb
    ·rw [hbe];exact z
   rw [q] at q';cases q'
   obtain⟨v,hv⟩:=heo
   exact⟨v,by rw [hbe];exact hv⟩
  ·refine (ok b u q).stay (fun c v hc r=>k c v ?_ r) (fun c r=>by rw [bg (nown c b r)];exact r) fun c xs r=>by rw [bg (ntup c xs r)];exact r
   rcases hc with rfl | hc
   ·exact hbe
   ·rintro rfl
    rcases he with z | z
    ·exact nown c b hc z
    ·rw [hc] at z;cases z;exact hb rfl
end
structure Un (fs ex:List Addr) (H H':Hp) (h h':Heap):Prop where
 keep : ∀ b o,h.get? b=some o->H b=none->b∉fs->b∉ex->h'.get? b=some o
 slot : ∀ b o,h.get? b=some o->H b=none->b∈fs->b∉ex -> ∃ sl,h'.get? b=some { o with slots:=sl }
 free : ∀ b o,h.get? b=some o->H b=none->b∉ex->H' b=none
 there : ∀ b o,h.get? b=some o->b∉ex -> ∃ o',h'.get? b=some o'
 tups : ∀ b xs,H b=some (.tup xs)->H' b=some (.tup xs)
 frzs : ∀ b o u,H b=some (.frz o u)->H' b=some (.frz o u)
 tbls : ∀ b ps,H b=some (.tbl ps) -> ∃ more,H' b=some (.tbl (ps++more))
section
variable {fs fs' ex ex':List Addr}{H H1 H2:Hp}{h h1 h2 h':Heap}{a x e:Addr}{o:HO}
theorem Un.any (u:Un fs ex H H1 h h1) {b:Addr}{ob:Obj} (q:h.get? b=some ob) (n:H b=none) (hx:b∉ex) : ∃ sl,h1.get? b=some { ob with slots:=sl }:=by
 by_cases hb:b∈fs
 ·exact u.slot b ob q n hb hx
 ·exact⟨ob.slots,u.keep b ob q n hb hx⟩
theorem Un.kept (k : ∀ b u,h.get? b=some u->h'.get? b=some u):Un fs ex H H h h':=
 ⟨fun b ob q _ _ _=>k b ob q,fun b ob q _ _ _=>⟨ob.slots,k b ob q⟩,fun _ _ _ n _=>n,fun b ob q _=>⟨ob,k b ob q⟩,fun _ _ q=>q,fun _ _ _ q=>q,fun _ ps q=>⟨#[],by rw [q];simp⟩⟩
theorem Un.refl:Un fs ex H H h h:=Un.kept fun _ _ q=>q
theorem Un.laid (k : ∀ b u,h.get? b=some u->h'.get? b=some u) (hp:h.objs.size<=a) (hn:H a=none):Un fs ex H (upd H a o) h h' where
 keep:=fun b u q _ _ _=>k b u q
 slot:=fun b u q _ _ _=>⟨u.slots,k b u q⟩
 free:=fun b u q n _=>by rw [bg (bb (aF (aw q) hp))];exact n
 there:=fun b u q _=>⟨u,k b u q⟩
 tups:=fun b xs q=>by rw [bg (bf q hn)];exact q
 frzs:=fun b u xs q=>by rw [bg (bf q hn)];exact q
 tbls:=fun b ps q=>⟨#[],by rw [bg (bf q hn),q];simp⟩
theorem Un.write (mu:Mut (H x)) (he:e=x\/H e=some (.own x)) (k : ∀ b u,b≠e->h.get? b=some u->h'.get? b=some u) (heo : ∃ u,h'.get? e=some u):Un fs ex H (upd H x o) h h':=by
 have hx : ∀ b,H b=none->b≠x:=fun b n z=>by subst z;rw [n] at mu;exact mu
 have hb : ∀ b,H b=none->b≠e:=fun b n z=>by
  subst z
  rcases he with r | r
  ·exact hx b n r
  ·rw [n] at r;cases r
 have hm : ∀ b u,H b=some u -> ¬ Mut (some u)->b≠x:=fun b u q nm z=>by subst z;rw [q] at mu;exact nm mu
 refine⟨fun b u q n _ _=>k b u (hb b n) q,fun b u q n _ _=>⟨u.slots,k b u (hb b n) q⟩,fun b u q n _=>by rw [bg (hx b n)];exact n,fun b u q _ => ?_,
  fun b xs q=>by rw [bg (hm b _ q fun z=>z)];exact q,fun b u xs q=>by rw [bg (hm b _ q fun z=>z)];exact q,fun b ps q=>⟨#[],by rw [bg (hm b _ q fun z=>z),q];simp⟩⟩
 by_cases hbe:b=e
 ·subst hbe;exact heo
 ·exact⟨u,k b u hbe q⟩
end
noncomputable def trk (h:Heap) (H:Hp):List Addr:=(ar h.objs.size).filter fun a=>(H a).isSome
noncomputable def pZ (h:Heap) (H:Hp):Heap:=PySem.W.hideAll h (trk h H)
theorem qA (h:Heap) (H:Hp):(pZ h H).objs.size=h.objs.size:=yU _ _
theorem mG {h:Heap}{H:Hp}{b:Addr}{o:Obj} (e:h.get? b=some o) (n:H b=none):(pZ h H).get? b=some o:=
 y6 _ e fun hm=>by
  have q:(H b).isSome=true:=(fK.mp hm).2
  rw [n] at q;simp at q
theorem wN {h:Heap}{H:Hp}{b:Addr}{o:Obj} (e:(pZ h H).get? b=some o):h.get? b=some o/\H b=none:=by
 have e':h.get? b=some o:=Bp (trk h H) e
 refine⟨e',?_⟩
 cases q:H b with
 | none=>rfl
 | some x=>
   have hm:b∈trk h H:=fK.mpr ⟨aU.mpr (aw e'),by simp [q]⟩
   have z:(pZ h H).get? b=none:=yV (trk h H) hm
   rw [z] at e;cases e
noncomputable def CZ (g h:Heap) (L:Addr):List (Addr×Obj):=(ar h.objs.size).filterMap fun a=>if a=L\/(g.get? a).isSome=true then none else (h.get? a).map fun o=>(a,o)
noncomputable def rest (g h:Heap) (L d:Addr):List (Addr×Obj):=(CZ g h L).filter fun p=>decide (p.1≠d)
end L2
namespace L2
open PySem PySem.Spec PyProof.Rows
structure Mod (K:ak) (mg:Str->Option Value) (base:Heap):Prop where
 kin:K.In base
 glob:base.Ns mainGlobals mg
 blt : ∃ mb,base.Ns builtinsNs mb /\ ∀ x:Str,x≠"__name__"->mb x=bootBuiltins x
 nolimit:base.NoLimit
structure Cx where
 prog:Program
 w:World
 K:ak
 mg:Str->Option Value
 base:Heap
 A:Around
 N:List Str
 s₀:Shared
 H₀:Hp
 env:Env
 outer:List Env
 stack:List Env
 ex:List Addr
 fn:Str->Bool
 calm:Bool
 pn:List (Addr×Obj)
 xe:Value->Shared->Prop
noncomputable def frs (l:List Env):List Addr:=l.filterMap (·.frame)
abbrev Cx.fs (X:Cx):List Addr:=frs X.outer
noncomputable def Vis (sc:Scope) (x:Str):Prop:=sc.names.lookup x=some .local\/sc.names.lookup x=some .cell\/sc.names.lookup x=some .free
noncomputable def Loc (sc:Scope) (x:Str):Prop:=sc.names.lookup x=some .local\/sc.names.lookup x=some .cell
noncomputable def Look (env:Env) (h:Heap) (m:Str->Option Value) (x:Str) (u:Value):Prop:=
 (env.kindOf x=some .local/\m x=some u)\/((env.kindOf x=some .cell\/env.kindOf x=some .free) /\ ∃ c,env.cells.lookup x=some c/\h.IsCell c (some u))
structure Cx.Ok (X:Cx):Prop where
 mod:Mod X.K X.mg X.base
 kind:X.env.scope.kind = .function
 glob:X.env.globals=mainGlobals
 blt:X.env.builtins=builtinsNs
 above:X.s₀.heap.objs.size<=X.env.locals
 inj : ∀ x y c,X.env.cells.lookup x=some c->X.env.cells.lookup y=some c->x=y
 has : ∀ x,(X.env.kindOf x=some .cell\/X.env.kindOf x=some .free) -> ∃ c,X.env.cells.lookup x=some c
 cab : ∀ x c,X.fn x=true->X.env.cells.lookup x=some c->X.s₀.heap.objs.size<=c
 hd:X.calm=true->X.A.handled=none
 frames:X.A.frames=some X.stack
 stk:X.stack=X.outer\/(X.stack=X.env::X.outer/\X.env.frame=some X.env.locals)
 exf : ∀ b∈X.ex,b≠X.env.locals /\ ∀ x c,X.env.cells.lookup x=some c->c≠b
 bs : ∀ b o,X.base.get? b=some o->X.s₀.heap.get? b=some o/\X.H₀ b=none
 bsz:X.base.objs.size<=X.s₀.heap.objs.size
 noex : ∀ b o,X.base.get? b=some o->b∉X.ex
 exfs : ∀ b∈X.ex,b∉X.fs
 funs:X.s₀.heap.FunFrames X.base X.outer
 frf : ∀ b∈X.fs,X.H₀ b=none
structure Inv (X:Cx) (pins:List (Addr×Obj)) (σ:List (Option V)) (H:Hp) (s:Shared):Prop where
 ok:X.Ok
 os:s.os=X.s₀.os
 bare:AllBare s.gens
 base:Un X.fs X.ex X.H₀ H X.s₀.heap s.heap
 loc : ∃ m,s.heap.Ns X.env.locals m /\ ∀ (i:Nat) (x:Str) (v:V),X.N[i]? = some x->σ[i]? = some (some v)->Vis X.env.scope x -> ∃ u,RelV v u/\Look X.env s.heap m x u
 cell : ∀ x c,X.env.cells.lookup x=some c -> ∃ v,s.heap.IsCell c v
 free:H X.env.locals=none
 freeC : ∀ x c,X.env.cells.lookup x=some c->H c=none
 pin : ∀ p∈X.pn++pins,s.heap.get? p.1=some p.2/\H p.1=none/\p.1≠X.env.locals/\p.1∉X.fs /\ ∀ v,p.2.data ≠ .cell v
 hok:HOk X.prog X.w H s.heap
 len:σ.length=X.N.length
section
variable {X:Cx}{pins:List (Addr×Obj)}{σ:List (Option V)}{H H':Hp}{s:Shared}{h':Heap}
theorem Cx.Ok.nofr (ok:X.Ok) {b:Addr}{o:Obj} (e:X.base.get? b=some o):b∉X.fs:=fun hb=>by
 have:=(ok.funs.mem hb).1
 rw [e] at this;cases this
theorem Inv.bs (I:Inv X pins σ H s) : ∀ b o,X.base.get? b=some o->s.heap.get? b=some o/\H b=none:=fun b o e=>
 ⟨I.base.keep b o (I.ok.bs b o e).1 (I.ok.bs b o e).2 (I.ok.nofr e) (I.ok.noex b o e),I.base.free b o (I.ok.bs b o e).1 (I.ok.bs b o e).2 (I.ok.noex b o e)⟩
theorem Inv.bk (I:Inv X pins σ H s) : ∀ b o,X.base.get? b=some o->s.heap.get? b=some o:=fun b o e=>(I.bs b o e).1
theorem Inv.mod (I:Inv X pins σ H s):Mod X.K X.mg X.base:=I.ok.mod
theorem Inv.kIn (I:Inv X pins σ H s):X.K.In s.heap:=I.ok.mod.kin.keeps I.bk
theorem Inv.lt (I:Inv X pins σ H s):X.env.locals < s.heap.objs.size:=let ⟨_,hn,_⟩:=I.loc;hn.lt
theorem Inv.sz (I:Inv X pins σ H s):X.s₀.heap.objs.size<=s.heap.objs.size:=br I.ok.above (di I.lt)
theorem Inv.nofs (I:Inv X pins σ H s) {a:Addr} (h:s.heap.objs.size<=a):a∉X.fs:=fun hb=>by
 obtain⟨_,o,ho,_⟩:=I.ok.funs.mem hb
 exact absurd (aF (aw ho) (br I.sz h)) (bD _)
theorem Inv.cne (I:Inv X pins σ H s) : ∀ x c,X.env.cells.lookup x=some c->c≠X.env.locals:=fun x c e z=>by
 obtain⟨v,o,ho,hd⟩:=I.cell x c e
 obtain⟨m,⟨o',es,ep,ho',hd',_⟩,_⟩:=I.loc
 rw [z,ho'] at ho;cases ho;rw [hd'] at hd;cases hd
theorem Inv.funs (I:Inv X pins σ H s):s.heap.FunFrames X.base X.outer:=by
 have all : ∀ (l:List Env),(∀ b∈frs l,b∈X.fs)->X.s₀.heap.FunFrames X.base l->s.heap.FunFrames X.base l:=by
  intro l
  induction l with
  | nil=>intro _ _;trivial
  | cons env r ih=>
    intro hs hl
    obtain⟨hk,⟨L,o,hf,hn,ho,hd⟩,hr⟩:=hl
    have hL:L∈X.fs:=hs L (by unfold frs;rw [fC,hf];exact aV)
    obtain⟨sl,e⟩:=I.base.slot L o ho (I.ok.frf L hL) hL fun z=>I.ok.exfs L z hL
    exact⟨hk,⟨L,_,hf,hn,e,hd⟩,ih (fun b hb=>hs b (by unfold frs;rw [fC,hf];exact az _ hb)) hr⟩
 exact all X.outer (fun _ hb=>hb) I.ok.funs
theorem Inv.stack (I:Inv X pins σ H s):s.heap.FunFrames X.base X.stack:=by
 rcases I.ok.stk with e | ⟨e,hf⟩
 ·rw [e];exact I.funs
 ·rw [e]
  obtain⟨m,hn,_⟩:=I.loc
  refine .cons (by rw [I.ok.kind];decide) hf hn ?_ I.funs
  exact Heap.get?_none_of_le (br I.ok.bsz I.ok.above)
theorem Inv.stkSub (I:Inv X pins σ H s) : ∀ b∈frs X.stack,b∈X.env.locals::X.fs:=fun b hb=>by
 rcases I.ok.stk with e | ⟨e,hf⟩
 ·rw [e] at hb;exact az _ hb
 ·rw [e] at hb
  unfold frs at hb
  rw [fC,hf] at hb
  exact hb
theorem Inv.stkFree (I:Inv X pins σ H s) : ∀ b∈frs X.stack,H b=none:=fun b hb=>by
 rcases aG.mp (I.stkSub b hb) with e | hb
 ·rw [e];exact I.free
 ·obtain⟨_,o,ho,_⟩:=I.ok.funs.mem hb
  exact I.base.free b o ho (I.ok.frf b hb) fun z=>I.ok.exfs b z hb
theorem Inv.step {g':Array GenState}{t':Nat}{d':Drawn}{ch:List Addr} (I:Inv X pins σ H s)
  (hch : ∀ b∈ch,(b∈X.ex\/X.s₀.heap.objs.size<=b)/\b≠X.env.locals/\(∀ x c,X.env.cells.lookup x=some c->c≠b) /\ ∀ p∈X.pn++pins,p.1≠b)
  (keep : ∀ b o,b≠X.env.locals->b∉X.fs->b∉ch->s.heap.get? b=some o->H b=none->h'.get? b=some o)
  (slot : ∀ b o,b≠X.env.locals->b∈X.fs->b∉ch->s.heap.get? b=some o->H b=none -> ∃ sl,h'.get? b=some { o with slots:=sl }) (free : ∀ b o,b∉ch->s.heap.get? b=some o->H b=none->H' b=none)
  (there : ∀ b o,b∉ch->s.heap.get? b=some o -> ∃ o',h'.get? b=some o')
  (tups : ∀ b xs,H b=some (.tup xs)->H' b=some (.tup xs)) (frzs : ∀ b o u,H b=some (.frz o u)->H' b=some (.frz o u)) (tbls : ∀ b ps,H b=some (.tbl ps) -> ∃ more,H' b=some (.tbl (ps++more)))
  (ns : ∀ m,s.heap.Ns X.env.locals m->h'.Ns X.env.locals m) (hok:HOk X.prog X.w H' h') (hg:AllBare g') :
  Inv X pins σ H' { s with heap:=h',gens:=g',drawn:=d',toks:=t' }:=by
 have neL : ∀ b o,X.s₀.heap.get? b=some o->b≠X.env.locals:=fun b o e=>bb (aF (aw e) I.ok.above)
 have neC : ∀ b o,X.s₀.heap.get? b=some o->b∉X.ex->b∉ch:=fun b o e hx hb=>by
  rcases (hch b hb).1 with z | z
  ·exact hx z
  ·exact absurd (aF (aw e) z) (bD _)
 have cellK : ∀ x c,X.env.cells.lookup x=some c -> ∀ v,s.heap.IsCell c v->h'.IsCell c v:=fun x c e v ⟨o,ho,hd⟩=>by
  have nch:c∉ch:=fun z=>(hch c z).2.2.1 x c e rfl
  by_cases hc:c∈X.fs
  ·obtain⟨sl,q⟩:=slot c o (I.cne x c e) hc nch ho (I.freeC x c e)
   exact⟨_,q,hd⟩
  ·exact⟨o,keep c o (I.cne x c e) hc nch ho (I.freeC x c e),hd⟩
 refine⟨I.ok,I.os,hg,⟨fun b o e n hb hx => ?_,fun b o e n hb hx => ?_,fun b o e n hx => ?_,fun b o e hx => ?_,fun b xs e=>tups b xs (I.base.tups b xs e),fun b o xs e=>frzs b o xs (I.base.frzs b o xs e),fun b ps e => ?_⟩,?_,fun x c e => ?_,?_,fun x c e => ?_,fun p hp => ?_,hok,I.len⟩
 ·exact keep b o (neL b o e) hb (neC b o e hx) (I.base.keep b o e n hb hx) (I.base.free b o e n hx)
 ·obtain⟨sl,e1⟩:=I.base.slot b o e n hb hx
  obtain⟨sl',e2⟩:=slot b _ (neL b o e) hb (neC b o e hx) e1 (I.base.free b o e n hx)
  exact⟨sl',e2⟩
 ·obtain⟨o',e1⟩:=I.base.there b o e hx
  exact free b o' (neC b o e hx) e1 (I.base.free b o e n hx)
 ·obtain⟨o',e1⟩:=I.base.there b o e hx
  exact there b o' (neC b o e hx) e1
 ·obtain⟨m1,e1⟩:=I.base.tbls b ps e
  obtain⟨m2,e2⟩:=tbls b _ e1
  exact⟨m1++m2,by rw [e2,Array.append_assoc]⟩
 ·obtain⟨m,hn,hl⟩:=I.loc
  refine⟨m,ns m hn,fun i x v e1 e2 e3 => ?_⟩
  obtain⟨u,r,l⟩:=hl i x v e1 e2 e3
  refine⟨u,r,?_⟩
  rcases l with l | ⟨k,c,e,z⟩
  ·exact .inl l
  ·exact .inr ⟨k,c,e,cellK x c e _ z⟩
 ·obtain⟨v,z⟩:=I.cell x c e
  exact⟨v,cellK x c e v z⟩
 ·obtain⟨m,⟨o,_,_,ho,_⟩,_⟩:=I.loc
  exact free _ o (fun z=>(hch _ z).2.1 rfl) ho I.free
 ·obtain⟨v,o,ho,hd⟩:=I.cell x c e
  exact free c o (fun z=>(hch c z).2.2.1 x c e rfl) ho (I.freeC x c e)
 ·obtain⟨e,n,ne,nf,d⟩:=I.pin p hp
  have nch:p.1∉ch:=fun z=>(hch p.1 z).2.2.2 p hp rfl
  exact⟨keep p.1 p.2 ne nf nch e n,free p.1 p.2 nch e n,ne,nf,d⟩
theorem Inv.un {t':Nat} (I:Inv X pins σ H s) (u:Un X.fs [] H H' s.heap h') (hok:HOk X.prog X.w H' h'):Inv X pins σ H' { s with heap:=h',toks:=t' }:=by
 obtain⟨m,⟨o,es,ep,ho,r⟩,_⟩:=id I.loc
 obtain⟨sl,hL⟩:=u.any ho I.free (by simp)
 exact I.step (g':=s.gens) (d':=s.drawn) (ch := []) (fun _ z=>nomatch z) (fun b o _ hb _ e n=>u.keep b o e n hb (by simp)) (fun b o _ hb _ e n=>u.slot b o e n hb (by simp)) (fun b o _ e n=>u.free b o e n (by simp)) (fun b o _ e=>u.there b o e (by simp)) u.tups u.frzs u.tbls (fun m' hm=>by
  obtain⟨o',es',ep',ho',r'⟩:=hm
  rw [ho] at ho';cases ho'
  exact⟨_,es',ep',hL,r'⟩) hok I.bare
theorem Inv.call {g':Array GenState}{t':Nat}{d':Drawn}{ch:List Addr} (I:Inv X pins σ H s) (u:Un (frs X.stack) ch H H' s.heap h') (hok:HOk X.prog X.w H' h') (hg:AllBare g')
  (hch : ∀ b∈ch,(b∈X.ex\/X.s₀.heap.objs.size<=b)/\b≠X.env.locals/\(∀ x c,X.env.cells.lookup x=some c->c≠b) /\ ∀ p∈X.pn++pins,p.1≠b) :
  Inv X pins σ H' { s with heap:=h',gens:=g',drawn:=d',toks:=t' }:=by
 obtain⟨m,⟨o,es,ep,ho,r⟩,_⟩:=id I.loc
 obtain⟨sl,hL⟩:=u.any ho I.free fun z=>(hch _ z).2.1 rfl
 exact I.step (ch:=ch) hch (fun b o hL hb hc e n=>u.keep b o e n (fun z=>(aG.mp (I.stkSub b z)).elim hL hb) hc) (fun b o _ _ hc e n=>u.any e n hc) (fun b o hc e n=>u.free b o e n hc) (fun b o hc e=>u.there b o e hc) u.tups u.frzs u.tbls (fun m' hm=>by
  obtain⟨o',es',ep',ho',r'⟩:=hm
  rw [ho] at ho';cases ho'
  exact⟨_,es',ep',hL,r'⟩) hok hg
theorem Inv.turned {t':Nat}{it:Addr} (I:Inv X pins σ H s) (k : ∀ b o,b≠it->s.heap.get? b=some o->h'.get? b=some o) (hn:H it=none) (hL:it≠X.env.locals)
  (h1:it∈X.ex\/X.s₀.heap.objs.size<=it) (h2 : ∀ x c,X.env.cells.lookup x=some c->c≠it) (h3 : ∀ p∈X.pn++pins,p.1≠it):Inv X pins σ H { s with heap:=h',toks:=t' }:=by
 have nit : ∀ b u,H b=some u->b≠it:=fun b u e z=>by rw [z,hn] at e;cases e
 refine I.step (g':=s.gens) (d':=s.drawn) (ch := [it]) (fun b hb => ?_) (fun b o _ _ hc e _=>k b o (fun z=>hc (by simp [z])) e) (fun b o _ _ hc e _=>⟨o.slots,k b o (fun z=>hc (by simp [z])) e⟩) (fun _ _ _ _ n=>n)
  (fun b o hc e=>⟨o,k b o (fun z=>hc (by simp [z])) e⟩) (fun _ _ e=>e) (fun _ _ _ e=>e) (fun b ps e=>⟨#[],by rw [e];simp⟩) (fun m hm => ?_) (fun b u e => ?_) I.bare
 ·have e:b=it:=by simpa using hb
  subst e
  exact⟨h1,hL,h2,h3⟩
 ·obtain⟨o,es,ep,ho,r⟩:=hm
  exact⟨o,es,ep,k _ o (dH hL) ho,r⟩
 ·refine (I.hok b u e).stay (fun c v hc q=>k c v ?_ q) (fun _ q=>q) fun _ _ q=>q
  rcases hc with z | z
  ·rw [z];exact nit b u e
  ·exact nit c _ z
theorem Inv.tok (I:Inv X pins σ H s) (t:Nat):Inv X pins σ H { s with toks:=t }:=I.un (h':=s.heap) (t':=t) Un.refl I.hok
theorem Inv.kept {t':Nat} (I:Inv X pins σ H s) (k : ∀ b u,s.heap.get? b=some u->h'.get? b=some u):Inv X pins σ H { s with heap:=h',toks:=t' }:=I.un (Un.kept k) (I.hok.kept k)
theorem Inv.laid {a:Addr}{o:HO}{t':Nat} (I:Inv X pins σ H s) (k : ∀ b u,s.heap.get? b=some u->h'.get? b=some u) (hp:s.heap.objs.size<=a) (new:dz X.prog X.w (upd H a o) h' a o) :
  Inv X pins σ (upd H a o) { s with heap:=h',toks:=t' }:=I.un (Un.laid k hp (I.hok.fresh hp)) (I.hok.laid k hp new)
theorem Inv.write {x e:Addr}{o:HO}{t':Nat} (I:Inv X pins σ H s) (mu:Mut (H x)) (he:e=x\/H e=some (.own x)) (k : ∀ b u,b≠e->s.heap.get? b=some u->h'.get? b=some u) (heo : ∃ u,h'.get? e=some u)
  (new:dz X.prog X.w (upd H x o) h' x o):Inv X pins σ (upd H x o) { s with heap:=h',toks:=t' }:=I.un (Un.write mu he k heo) (I.hok.write mu he k heo new)
theorem Inv.weak {σ':List (Option V)} (I:Inv X pins σ H s) (hl:σ'.length=σ.length) (w : ∀ (i:Nat) v,σ'[i]? = some (some v)->σ[i]? = some (some v)):Inv X pins σ' H s:=
 ⟨I.ok,I.os,I.bare,I.base,let ⟨m,hn,hl'⟩:=I.loc;⟨m,hn,fun i x v e1 e2 e3=>hl' i x v e1 (w i v e2) e3⟩,I.cell,I.free,I.freeC,I.pin,I.hok,hl.trans I.len⟩
theorem Inv.pins_of {pins':List (Addr×Obj)} (I:Inv X pins σ H s) (h : ∀ p∈pins',s.heap.get? p.1=some p.2/\H p.1=none/\p.1≠X.env.locals/\p.1∉X.fs /\ ∀ v,p.2.data ≠ .cell v):Inv X pins' σ H s:=
 ⟨I.ok,I.os,I.bare,I.base,I.loc,I.cell,I.free,I.freeC,fun p hp=>(bx.mp hp).elim (fun z=>I.pin p (bA _ z)) (h p),I.hok,I.len⟩
theorem ui {N:List Str} (hN:N.Nodup) {i j:Nat}{x:Str} (a:N[i]? = some x) (b:N[j]? = some x):i=j:=by
 obtain⟨h1,e1⟩:=ae.mp a
 obtain⟨h2,e2⟩:=ae.mp b
 exact (List.getElem_inj hN).mp (e1.trans e2.symm)
theorem qR {M:Model}{A:Around}{E:Value->Shared->Prop}{i:Nat}{x:Str}{v:V}{u:Value}{Q:Unit->Shared->Prop} (I:Inv X pins σ H s) (hN:X.N.Nodup) (hi:X.N[i]? = some x) (hx:Loc X.env.scope x) (r:RelV v u)
  (h : ∀ s',Inv X pins (σ.set i (some v)) H s'->(∃ a,pR a s.heap s'.heap/\(a=X.env.locals\/X.env.cells.lookup x=some a))->Q () s') (hf:X.fn x=true\/X.env.scope.names.lookup x=some .local:=by first | exact .inl rfl | exact .inr rfl | assumption):aI M A (storeName X.env x u) Q E s:=by
 obtain⟨m,hn,hl⟩:=id I.loc
 have hcls:(X.env.scope.kind == .class||(X.env.scope.kind == .module&&X.env.locals != X.env.globals))=false:=by rw [I.ok.kind];rfl
 have hiσ:i < σ.length:=by rw [I.len];exact (ae.mp hi).1
 have cne:=I.cne
 have tracked : ∀ {a:Addr}{h':Heap},(∃ o,s.heap.get? a=some o/\H a=none)->pR a s.heap h'->HOk X.prog X.w H h':=fun {a h'} ha hs b ob e=>by
  obtain⟨_,_,hfree⟩:=ha
  refine (I.hok b ob e).stay (fun c w' hc q=>(hs.2 c ?_).trans q) (fun _ q=>q) fun _ _ q=>q
  rintro rfl
  rcases hc with rfl | hc
  ·rw [hfree] at e;cases e
  ·rw [hfree] at hc;cases hc
 rcases hx with hk | hk
 ·refine wpAny_storeName_local hk hn (fun h' hn' hs => ?_) hcls
  obtain⟨oL,_,_,hoL,_⟩:=id hn
  refine h _ ⟨I.ok,I.os,I.bare,⟨fun b o e n hb hx => ?_,fun b o e n hb hx => ?_,I.base.free,fun b o e hx => ?_,I.base.tups,I.base.frzs,I.base.tbls⟩,⟨_,hn',fun j y v' e1 e2 e3 => ?_⟩,fun y c e => ?_,I.free,I.freeC,fun p hp => ?_,tracked ⟨oL,hoL,I.free⟩ hs,by simpa using I.len⟩ ⟨_,hs,.inl rfl⟩
  ·exact (hs.2 b (bb (aF (aw e) I.ok.above))).trans (I.base.keep b o e n hb hx)
  ·obtain⟨sl,e1⟩:=I.base.slot b o e n hb hx
   exact⟨sl,(hs.2 b (bb (aF (aw e) I.ok.above))).trans e1⟩
  ·obtain⟨o',e1⟩:=I.base.there b o e hx
   exact⟨o',(hs.2 b (bb (aF (aw e) I.ok.above))).trans e1⟩
  ·by_cases hj:j=i
   ·subst hj
    rw [hi] at e1;cases e1
    rw [aH hiσ] at e2
    cases e2
    exact⟨u,r,.inl ⟨hk,by simp⟩⟩
   ·rw [aA (dH hj)] at e2
    obtain⟨u',r',q⟩:=hl j y v' e1 e2 e3
    refine⟨u',r',?_⟩
    rcases q with⟨k,e⟩ | ⟨k,c,e,z⟩
    ·refine .inl ⟨k,?_⟩
     have:y≠x:=fun e=>hj (ui hN e1 (e▸hi))
     simp [this,e]
    ·exact .inr ⟨k,c,e,z.sameBut hs (cne y c e)⟩
  ·obtain⟨w',z⟩:=I.cell y c e
   exact⟨w',z.sameBut hs (cne y c e)⟩
  ·obtain⟨e,n,ne,nf,d⟩:=I.pin p hp
   exact⟨(hs.2 p.1 ne).trans e,n,ne,nf,d⟩
 ·have hfn:X.fn x=true:=by
   rcases hf with z | z
   ·exact z
   ·rw [z] at hk;cases hk
  obtain⟨c,hc⟩:=I.ok.has x (.inl hk)
  obtain⟨w',z⟩:=I.cell x c hc
  refine wpAny_storeName_cell I.ok.kind hk hc z (fun h' hc' hs => ?_)
  obtain⟨oc,hoc,hocd⟩:=id z
  refine h { s with heap:=h' } ⟨I.ok,I.os,I.bare,⟨fun b o e n hb hx => ?_,fun b o e n hb hx => ?_,I.base.free,fun b o e hx => ?_,I.base.tups,I.base.frzs,I.base.tbls⟩,⟨m,hn.sameBut hs (dH (cne x c hc)),fun j y v' e1 e2 e3 => ?_⟩,fun y c' e => ?_,I.free,I.freeC,fun p hp => ?_,tracked ⟨oc,hoc,I.freeC x c hc⟩ hs,by simpa using I.len⟩ ⟨c,hs,.inr hc⟩
  ·exact (hs.2 b (bb (aF (aw e) (I.ok.cab x c hfn hc)))).trans (I.base.keep b o e n hb hx)
  ·obtain⟨sl,e1⟩:=I.base.slot b o e n hb hx
   exact⟨sl,(hs.2 b (bb (aF (aw e) (I.ok.cab x c hfn hc)))).trans e1⟩
  ·obtain⟨o',e1⟩:=I.base.there b o e hx
   exact⟨o',(hs.2 b (bb (aF (aw e) (I.ok.cab x c hfn hc)))).trans e1⟩
  ·by_cases hj:j=i
   ·subst hj
    rw [hi] at e1;cases e1
    rw [aH hiσ] at e2
    cases e2
    exact⟨u,r,.inr ⟨.inl hk,c,hc,hc'⟩⟩
   ·rw [aA (dH hj)] at e2
    obtain⟨u',r',q⟩:=hl j y v' e1 e2 e3
    refine⟨u',r',?_⟩
    rcases q with q | ⟨k,c',e,z'⟩
    ·exact .inl q
    ·refine .inr ⟨k,c',e,z'.sameBut hs ?_⟩
     rintro rfl
     exact hj (ui hN e1 (I.ok.inj _ _ _ e hc▸hi))
  ·by_cases hcc:c'=c
   ·subst hcc;exact⟨_,hc'⟩
   ·obtain⟨w2,z2⟩:=I.cell y c' e
    exact⟨w2,z2.sameBut hs hcc⟩
  ·obtain⟨e,n,ne,nf,d⟩:=I.pin p hp
   refine⟨(hs.2 p.1 ?_).trans e,n,ne,nf,d⟩
   intro q
   rw [q,hoc] at e
   have q':oc=p.2:=bB e
   exact d w' (by rw [<- q'];exact hocd)
theorem o7 {M:Model}{A:Around}{E:Value->Shared->Prop}{i:Nat}{x:Str}{v:V}{u:Value}{Q:Unit->Shared->Prop} (I:Inv X pins σ H s) (hN:X.N.Nodup) (hi:X.N[i]? = some x) (hx:Loc X.env.scope x) (r:RelV v u)
  (h : ∀ s',Inv X pins (σ.set i (some v)) H s'->Q () s') (hf:X.fn x=true\/X.env.scope.names.lookup x=some .local:=by first | exact .inl rfl | exact .inr rfl | assumption):aI M A (storeName X.env x u) Q E s:=
 qR I hN hi hx r (fun s' I' _=>h s' I') hf
theorem Inv.call' {s':Shared}{ch:List Addr} (I:Inv X pins σ H s) (ho:s'.os=s.os) (u:Un (frs X.stack) ch H H' s.heap s'.heap) (hok:HOk X.prog X.w H' s'.heap) (hg:AllBare s'.gens)
  (hch : ∀ b∈ch,(b∈X.ex\/X.s₀.heap.objs.size<=b)/\b≠X.env.locals/\(∀ x c,X.env.cells.lookup x=some c->c≠b) /\ ∀ p∈X.pn++pins,p.1≠b):Inv X pins σ H' s':=by
 obtain⟨h',g',d',t',o'⟩:=s'
 have e:o'=s.os:=ho
 subst e
 exact I.call (g':=g') (t':=t') (d':=d') u hok hg hch
end
abbrev XK:=Value->Option Addr->Hp->Prop
abbrev St:=List (Option V)
abbrev VK:=V->Hp->Prop
abbrev TE:=St->Hp->VK->Prop
abbrev TT:=St->Hp->(Bool->Hp->Prop)->Prop
abbrev TA:=St->Hp->(List V->Hp->Prop)->Prop
structure Ends where
 nx:St->Hp->Prop
 rt:VK
 bk:St->Hp->Prop:=fun _ _=>False
 ct:St->Hp->Prop:=fun _ _=>False
abbrev TS:=Ends->St->Hp->Prop
noncomputable def EP (X:Cx) (pins:List (Addr×Obj)) (σ:St) (Q:VK) (u:Value) (s':Shared):Prop := ∃ v H',Inv X pins σ H' s'/\RelV v u/\Q v H'
noncomputable def TP (X:Cx) (pins:List (Addr×Obj)) (σ:St) (Q:Bool->Hp->Prop) (b:Bool) (s':Shared):Prop := ∃ H',Inv X pins σ H' s'/\Q b H'
noncomputable def AP (X:Cx) (pins:List (Addr×Obj)) (σ:St) (Q:List V->Hp->Prop) (us:List Value) (s':Shared):Prop := ∃ vs H',Inv X pins σ H' s'/\bP vs us/\Q vs H'
noncomputable def SP (X:Cx) (pins:List (Addr×Obj)) (D:Ends) (f:Flow) (s':Shared):Prop:=
 match f with
 | .next => ∃ σ' H',Inv X pins σ' H' s'/\D.nx σ' H'
 | .brk => ∃ σ' H',Inv X pins σ' H' s'/\D.bk σ' H'
 | .cont => ∃ σ' H',Inv X pins σ' H' s'/\D.ct σ' H'
 | .ret u => ∃ v σ' H',Inv X pins σ' H' s'/\RelV v u/\D.rt v H'
noncomputable def PE (X:Cx) (e:Expr) (t:TE):Prop:=
 ∀ (pins:List (Addr×Obj)) (s:Shared) (σ:St) (H:Hp) (Q:VK),Inv X pins σ H s->t σ H Q->aI (model X.prog X.w) X.A (eval e X.env) (EP X pins σ Q) X.xe s
noncomputable def PT (X:Cx) (e:Expr) (t:TT):Prop:=
 ∀ (pins:List (Addr×Obj)) (s:Shared) (σ:St) (H:Hp) (Q:Bool->Hp->Prop),Inv X pins σ H s->t σ H Q->aI (model X.prog X.w) X.A (isTrue e X.env (eval e X.env)) (TP X pins σ Q) X.xe s
noncomputable def PW (X:Cx) (e:Expr) (t:TT):Prop:=
 ∀ (whole:Sem Value) (pins:List (Addr×Obj)) (s:Shared) (σ:St) (H:Hp) (Q:Bool->Hp->Prop),Inv X pins σ H s->t σ H Q->aI (model X.prog X.w) X.A (isTrue e X.env whole) (TP X pins σ Q) X.xe s
theorem PW.pt {X:Cx}{e:Expr}{t:TT} (h:PW X e t):PT X e t:=h _
noncomputable def PA (X:Cx) (es:List Expr) (t:TA):Prop:=
 ∀ (pos:Pos) (pins:List (Addr×Obj)) (s:Shared) (σ:St) (H:Hp) (Q:List V->Hp->Prop),Inv X pins σ H s->t σ H Q->aI (model X.prog X.w) X.A (spliced (backTo pos (starEach es X.env))) (AP X pins σ Q) X.xe s
noncomputable def PS (X:Cx) (st:Stmt) (t:TS):Prop:=
 ∀ (pins:List (Addr×Obj)) (s:Shared) (σ:St) (H:Hp) (D:Ends),Inv X pins σ H s->t D σ H->aI (model X.prog X.w) X.A (exec st X.env) (SP X pins D) X.xe s
noncomputable def PSs (X:Cx) (st:List Stmt) (t:TS):Prop:=
 ∀ (pins:List (Addr×Obj)) (s:Shared) (σ:St) (H:Hp) (D:Ends),Inv X pins σ H s->t D σ H->aI (model X.prog X.w) X.A (execs st X.env) (SP X pins D) X.xe s
theorem thn {α:Type}{t:Sem α}{Q Q':α->Shared->Prop}{M:Model}{A:Around}{E:Value->Shared->Prop}{s:Shared} (h:aI M A t Q E s) (hQ : ∀ a s,Q a s->Q' a s):aI M A t Q' E s:=cf h hQ fun _ _ x=>x
end L2
namespace L2
open PySem PySem.Spec PyProof.Rows
section
variable {X:Cx}
noncomputable def IB (i:Nat):TE:=fun σ H Q => ∃ v,σ[i]? = some (some v)/\Q v H
noncomputable def tC (v:V):TE:=fun _ H Q=>Q v H
theorem Bb {i:Nat}{x:Str}{pos:Pos} (hN:X.N[i]? = some x) (hv:Vis X.env.scope x) (hd:(x == ("__debug__":Str))=false:=by decide) (hcd:(x == ("__classdict__":Str))=false:=by decide):PE X (.Name x pos) (IB i):=by
 intro pins s σ H Q I h
 obtain⟨v,e,h⟩:=h
 obtain⟨m,hn,hl⟩:=I.loc
 obtain⟨u,r,l⟩:=hl i x v hN e hv
 have fin:EP X pins σ Q u s:=⟨v,H,I,r,h⟩
 rcases l with⟨hk,hm⟩ | ⟨hk,c,hc,hcell⟩
 ·exact wpAny_Name (wpAny_loadName_local I.ok.kind hk hn hm fin) hd
 ·rcases hk with hk | hk
  ·exact wpAny_Name (wpAny_loadName_cell I.ok.kind hk hc hcell fin) hd
  ·exact wpAny_Name (wpAny_loadName_free I.ok.kind hk hc hcell fin hcd) hd
theorem Gi {i j pos}:PE X (.Constant (.int i) j pos) (tC (.int i)):=fun _ _ _ H _ I h=>wpAny_Constant_int ⟨.int i,H,I.tok _,⟨_,rfl⟩,h⟩
theorem IX {b j pos}:PE X (.Constant (.bool b) j pos) (tC (.bl b)):=fun _ _ _ H _ I h=>Constant_bool ⟨.bl b,H,I,rfl,h⟩
theorem Fv {j pos}:PE X (.Constant .none j pos) (tC .non):=fun _ _ _ H _ I h=>Constant_none ⟨.non,H,I,rfl,h⟩
theorem Gv {x j pos}:PE X (.Constant (.str x) j pos) (tC (.str x)):=fun _ _ _ H _ I h=>Calls.Constant_str ⟨.str x,H,I.tok _,⟨_,rfl⟩,h⟩
noncomputable def Gl (X:Cx) (x:Str):Prop:=X.env.kindOf x=some .globalImplicit
theorem nZ {E:Value->Shared->Prop}{pins:List (Addr×Obj)}{s:Shared}{σ:St}{H:Hp}{x:Str}{u:Value}{pos:Pos}{Q:Value->Shared->Prop} (I:Inv X pins σ H s) (hg:Gl X x) (hm:X.mg x=some u) (h:Q u s)
  (hd:(x == ("__debug__":Str))=false:=by decide):aI (model X.prog X.w) X.A (eval (.Name x pos) X.env) Q E s:=
 vh I.ok.kind hg (Calls.loadGlobal_global (by rw [I.ok.glob];exact I.mod.glob.keeps I.bk) hm h) hd
theorem j5 {E:Value->Shared->Prop}{pins:List (Addr×Obj)}{s:Shared}{σ:St}{H:Hp}{x:Str}{u:Value}{pos:Pos}{Q:Value->Shared->Prop} (I:Inv X pins σ H s) (hg:Gl X x) (hm:X.mg x=none) (hv:bootBuiltins x=some u) (h:Q u s)
  (hn:x≠"__name__":=by decide) (hd:(x == ("__debug__":Str))=false:=by decide):aI (model X.prog X.w) X.A (eval (.Name x pos) X.env) Q E s:=by
 obtain⟨mb,h1,h2⟩:=I.mod.blt
 exact vh I.ok.kind hg (Calls.loadGlobal_builtin (by rw [I.ok.glob];exact I.mod.glob.keeps I.bk) hm (by rw [I.ok.blt];exact h1.keeps I.bk) ((h2 x hn).trans hv) h) hd
theorem Ck {x:Str}{v:V}{u:Value}{pos:Pos} (hg:Gl X x) (hm:X.mg x=some u) (r:RelV v u) (hd:(x == ("__debug__":Str))=false:=by decide):PE X (.Name x pos) (tC v):=
 fun _ _ _ H _ I h=>nZ I hg hm ⟨v,H,I,r,h⟩ hd
theorem BJ {x:Str}{v:V}{u:Value}{pos:Pos} (hg:Gl X x) (hm:X.mg x=none) (hv:bootBuiltins x=some u) (r:RelV v u) (hn:x≠"__name__":=by decide) (hd:(x == ("__debug__":Str))=false:=by decide):PE X (.Name x pos) (tC v):=
 fun _ _ _ H _ I h=>j5 I hg hm hv ⟨v,H,I,r,h⟩ hn hd
variable {a b:Expr}{ta tb:TE}{pos:Pos}
noncomputable def tB (t:TE):TT:=fun σ H Q=>t σ H fun x H1 => ∃ c,x = .bl c/\Q c H1
theorem Gx {e:Expr}{t:TE} (h:PE X e t) (he : ∀ whole,isTrue e X.env whole=(do let v <- whole;standAt e.pos;holding [v] (truthy v)):=by intro _;rfl):PT X e (tB t):=by
 intro pins s σ H Q I hw
 refine isTrue_plain (thn (h pins s σ H _ I hw) fun v s1 ⟨x,H1,I1,r1,q1⟩ => ?_) (he _)
 obtain⟨d,rfl,q⟩:=q1
 cases r1
 exact fo ⟨H1,I1,q⟩
variable {tA tB':TT}{rest:List Expr}
noncomputable def II (t u:TT):TT:=fun σ H Q=>t σ H fun c H1=>if c=true then u σ H1 Q else Q false H1
noncomputable def tOr (t u:TT):TT:=fun σ H Q=>t σ H fun c H1=>if c=true then Q true H1 else u σ H1 Q
noncomputable def JI (t:TT):TT:=fun σ H Q=>t σ H fun c H1=>Q (!c) H1
theorem Cc (ha:PT X a tA):PW X (.BoolOp .And [a] pos) tA:=by
 intro wh pins s σ H Q I h
 refine isTrue_and (thn (ha pins s σ H Q I h) fun c s1 e => ?_)
 cases c with
 | true=>exact isTrue_and_nil e
 | false=>exact e
theorem GF (ha:PT X a tA):PW X (.BoolOp .Or [a] pos) tA:=by
 intro wh pins s σ H Q I h
 refine isTrue_or (thn (ha pins s σ H Q I h) fun c s1 e => ?_)
 cases c with
 | false=>exact isTrue_or_nil e
 | true=>exact e
theorem GD (ha:PT X a tA) (hb:PW X (.BoolOp .And (b::rest) pos) tB'):PW X (.BoolOp .And (a::b::rest) pos) (II tA tB'):=by
 intro wh pins s σ H Q I h
 refine isTrue_and (thn (ha pins s σ H _ I h) fun c s1 ⟨H1,I1,q1⟩ => ?_)
 cases c with
 | true=>exact hb wh pins s1 σ H1 Q I1 q1
 | false=>exact⟨H1,I1,q1⟩
theorem GZ (ha:PT X a tA) (hb:PW X (.BoolOp .Or (b::rest) pos) tB'):PW X (.BoolOp .Or (a::b::rest) pos) (tOr tA tB'):=by
 intro wh pins s σ H Q I h
 refine isTrue_or (thn (ha pins s σ H _ I h) fun c s1 ⟨H1,I1,q1⟩ => ?_)
 cases c with
 | true=>exact⟨H1,I1,q1⟩
 | false=>exact hb wh pins s1 σ H1 Q I1 q1
theorem FQ (ha:PT X a tA):PT X (.UnaryOp .Not a pos) (JI tA):=by
 intro pins s σ H Q I h
 exact isTrue_not (ha pins s σ H (fun c H1=>Q (!c) H1) I h)
noncomputable def Eh (ta tb:TE):TE:=fun σ H Q=>ta σ H fun x H1 => ∃ c,x = .bl c/\if c=true then tb σ H1 Q else Q (.bl false) H1
noncomputable def HD (ta tb:TE):TE:=fun σ H Q=>ta σ H fun x H1 => ∃ c,x = .bl c/\if c=true then Q (.bl true) H1 else tb σ H1 Q
noncomputable def DU (ta:TE):TE:=fun σ H Q=>ta σ H fun x H1 => ∃ c,x = .bl c/\Q (.bl (!c)) H1
theorem F4 {op}{t:TE} (h:PE X a t):PE X (.BoolOp op [a] pos) t:=fun pins s σ H Q I hw=>BoolOp_one (h pins s σ H Q I hw)
theorem Fm (ha:PE X a ta) (hb:PE X (.BoolOp .And (b::rest) pos) tb):PE X (.BoolOp .And (a::b::rest) pos) (Eh ta tb):=by
 intro pins s σ H Q I h
 refine BoolOp_and (thn (ha pins s σ H _ I h) fun v s1 ⟨x,H1,I1,r1,q1⟩ => ?_)
 obtain⟨c,rfl,q1⟩:=q1
 cases r1
 refine fo ?_
 cases c with
 | true=>exact hb pins s1 σ H1 Q I1 q1
 | false=>exact⟨.bl false,H1,I1,rfl,q1⟩
theorem Jh (ha:PE X a ta) (hb:PE X (.BoolOp .Or (b::rest) pos) tb):PE X (.BoolOp .Or (a::b::rest) pos) (HD ta tb):=by
 intro pins s σ H Q I h
 refine BoolOp_or (thn (ha pins s σ H _ I h) fun v s1 ⟨x,H1,I1,r1,q1⟩ => ?_)
 obtain⟨c,rfl,q1⟩:=q1
 cases r1
 refine fo ?_
 cases c with
 | false=>exact hb pins s1 σ H1 Q I1 q1
 | true=>exact⟨.bl true,H1,I1,rfl,q1⟩
theorem GK (ha:PE X a ta):PE X (.UnaryOp .Not a pos) (DU ta):=by
 intro pins s σ H Q I h
 refine UnaryOp_ (thn (ha pins s σ H _ I h) fun v s1 ⟨x,H1,I1,r1,q1⟩ => ?_)
 obtain⟨c,rfl,q1⟩:=q1
 cases r1
 exact not_of (fo ⟨.bl (!c),H1,I1,rfl,q1⟩)
noncomputable def tIf (t:TT) (ta tb:TE):TE:=fun σ H Q=>t σ H fun c H1=>if c=true then ta σ H1 Q else tb σ H1 Q
theorem Ba {c:Expr} (hc:PT X c tA) (ha:PE X a ta) (hb:PE X b tb):PE X (.IfExp c a b pos) (tIf tA ta tb):=by
 intro pins s σ H Q I h
 refine wpAny_IfExp (thn (hc pins s σ H _ I h) fun d s1 ⟨H1,I1,q1⟩ => ?_)
 cases d with
 | true=>exact ha pins s1 σ H1 Q I1 q1
 | false=>exact hb pins s1 σ H1 Q I1 q1
end
end L2
namespace L2
open PySem PySem.Spec PyProof.Rows
noncomputable def SqL (K:ak) (H:Hp) (a:Addr) (xs:List V):Prop:=
 Rd H a (.lst xs) \/
  ∃ (o:Obj) (its:Array Value) (n:Nat),K.lookup a=some o/\o.cls = .type "list"/\o.dict=none/\o.data = .seq its n/\its.size<=sizeLine/\bP xs its.toList
noncomputable def SqT (K:ak) (H:Hp) (a:Addr) (xs:List V):Prop:=
 Rd H a (.tup xs) \/
  ∃ (o:Obj) (its:Array Value) (n:Nat),K.lookup a=some o/\o.cls = .type "tuple"/\o.data = .seq its n/\its.size<=sizeLine/\bP xs its.toList
noncomputable def J8:Value->Option V
 | .none=>some .non
 | .bool b=>some (.bl b)
 | .int i _=>some (.int i)
 | .str x _=>some (.str x)
 | .bytes b _=>some (.byt b)
 | .float b _=>some (.flt b)
 | .ref a=>some (.ref a)
 | .type n=>some (.ty n)
 | _=>none
theorem RelV.abs {x:V}{u:Value} (r:RelV x u):J8 u=some x:=by
 cases x with
 | non=>cases r;rfl
 | bl _=>cases r;rfl
 | int _=>obtain⟨t,rfl⟩:=r;rfl
 | str _=>obtain⟨t,rfl⟩:=r;rfl
 | byt _=>obtain⟨t,rfl⟩:=r;rfl
 | flt _=>obtain⟨t,rfl⟩:=r;rfl
 | ref _=>cases r;rfl
 | ty _=>cases r;rfl
theorem RelV.inj {x y:V}{u:Value} (r:RelV x u) (q:RelV y u):x=y:=bB (r.abs.symm.trans q.abs)
theorem bP.inj : ∀ {xs ys:List V}{us:List Value},bP xs us->bP ys us->xs=ys
 | _,_,_,.nil,.nil=>rfl
 | _,_,_,.cons r t,.cons r' t'=>by rw [r.inj r',bP.inj t t']
section
variable {X:Cx}{pins:List (Addr×Obj)}{σ:St}{H:Hp}{s:Shared}{a:Addr}{xs ys:List V}
theorem SqL.of {K:ak} (h:H a=some (.lst xs)):SqL K H a xs := .inl (.inl h)
theorem Inv.list (I:Inv X pins σ H s) (h:SqL X.K H a xs) : ∃ its:List Value,bP xs its/\PlainL s.heap a its.toArray/\xs.length<=sizeLine:=by
 rcases h with h | ⟨o,its,n,hk,hc,hd,hs,hz,r⟩
 ·obtain⟨z,its,n,r,e⟩:=h.ok I.hok
  exact⟨its,r,⟨_,n,e,rfl,rfl,rfl⟩,z⟩
 ·refine⟨its.toList,r,⟨o,n,I.kIn a o hk,hc,hd,by simpa using hs⟩,?_⟩
  have e:=r.length
  simp only [dX] at e
  omega
theorem Inv.tuple (I:Inv X pins σ H s) (h:SqT X.K H a xs) : ∃ its:List Value,bP xs its/\IsTup s.heap a its.toArray/\xs.length<=sizeLine:=by
 rcases h with h | ⟨o,its,n,hk,hc,hs,hz,r⟩
 ·obtain⟨z,its,r,p⟩:=h.ok I.hok
  exact⟨its,r,p.1,z⟩
 ·refine⟨its.toList,r,⟨o,I.kIn a o hk,hc,n,by simpa using hs⟩,?_⟩
  have e:=r.length
  simp only [dX] at e
  omega
theorem Inv.list_inj (I:Inv X pins σ H s) (h:SqL X.K H a xs) (h':SqL X.K H a ys):xs=ys:=by
 obtain⟨its,r,⟨o,n,e,_,_,d⟩,_⟩:=I.list h
 obtain⟨its',r',⟨o',n',e',_,_,d'⟩,_⟩:=I.list h'
 rw [e] at e';cases e'
 rw [d] at d'
 injection d' with d1 _
 have:its=its':=by simpa using congrArg Array.toList d1
 subst this
 exact r.inj r'
theorem Inv.tuple_inj (I:Inv X pins σ H s) (h:SqT X.K H a xs) (h':SqT X.K H a ys):xs=ys:=by
 obtain⟨its,r,⟨o,e,_,n,d⟩,_⟩:=I.tuple h
 obtain⟨its',r',⟨o',e',_,n',d'⟩,_⟩:=I.tuple h'
 rw [e] at e';cases e'
 rw [d] at d'
 injection d' with d1 _
 have:its=its':=by simpa using congrArg Array.toList d1
 subst this
 exact r.inj r'
end
abbrev Cx.wish (X:Cx) (E:Value->Shared->Prop):Cx:={ X with xe:=E }
abbrev Cx.nox (X:Cx):Cx:=X.wish fun _ _=>False
theorem Cx.Ok.wish {X:Cx} (ok:X.Ok) (E:Value->Shared->Prop):(X.wish E).Ok:=
 ⟨ok.mod,ok.kind,ok.glob,ok.blt,ok.above,ok.inj,ok.has,ok.cab,ok.hd,ok.frames,ok.stk,ok.exf,ok.bs,ok.bsz,ok.noex,ok.exfs,ok.funs,ok.frf⟩
theorem Cx.Ok.unwish {X:Cx}{E:Value->Shared->Prop} (ok:(X.wish E).Ok):X.Ok:=
 ⟨ok.mod,ok.kind,ok.glob,ok.blt,ok.above,ok.inj,ok.has,ok.cab,ok.hd,ok.frames,ok.stk,ok.exf,ok.bs,ok.bsz,ok.noex,ok.exfs,ok.funs,ok.frf⟩
section
variable {X:Cx}{pins:List (Addr×Obj)}{σ:St}{H:Hp}{s:Shared}{E:Value->Shared->Prop}
theorem Inv.wish (I:Inv X pins σ H s) (E:Value->Shared->Prop):Inv (X.wish E) pins σ H s:=⟨I.ok.wish E,I.os,I.bare,I.base,I.loc,I.cell,I.free,I.freeC,I.pin,I.hok,I.len⟩
theorem Inv.unwish (I:Inv (X.wish E) pins σ H s):Inv X pins σ H s:=⟨I.ok.unwish,I.os,I.bare,I.base,I.loc,I.cell,I.free,I.freeC,I.pin,I.hok,I.len⟩
theorem SP.unwish {D:Ends}{f:Flow}{s':Shared} (h:SP (X.wish E) pins D f s'):SP X pins D f s':=by
 cases f with
 | next=>obtain⟨σ',H',I,q⟩:=h;exact⟨σ',H',I.unwish,q⟩
 | brk=>obtain⟨σ',H',I,q⟩:=h;exact⟨σ',H',I.unwish,q⟩
 | cont=>obtain⟨σ',H',I,q⟩:=h;exact⟨σ',H',I.unwish,q⟩
 | ret u=>obtain⟨v,σ',H',I,r,q⟩:=h;exact⟨v,σ',H',I.unwish,r,q⟩
theorem PSs.nox {st:List Stmt}{t:TS} (h:PSs X.nox st t):PSs X st t:=fun pins s σ H D I hw=>
 cf (h pins s σ H D (I.wish _) hw) (fun _ _ q=>q.unwish) fun _ _ z=>bZ z
end
section
variable {X:Cx}{st:Stmt}{rest:List Stmt}{t u:TS}{e:Expr}{te:TE}{pos:Pos}
noncomputable def zF:TS:=fun D σ H=>D.nx σ H
noncomputable def HQ (t u:TS):TS:=fun D σ H=>t { D with nx:=u D } σ H
theorem Du:PSs X [] zF:=fun _ _ σ H _ I h=>nE ⟨σ,H,I,h⟩
theorem zg (h1:PS X st t) (h2:PSs X rest u):PSs X (st::rest) (HQ t u):=by
 intro pins s σ H D I h
 refine wpAny_execs_cons (thn (h1 pins s σ H { D with nx:=u D } I h) fun f s1 q => ?_)
 cases f with
 | next=>
   obtain⟨σ',H',I',q⟩:=q
   exact h2 pins s1 σ' H' D I' q
 | ret v=>exact q
 | brk=>exact q
 | cont=>exact q
theorem Cy (h1:PS X st t):PSs X [st] t:=by
 intro pins s σ H D I h
 refine wpAny_execs_cons (thn (h1 pins s σ H D I h) fun f s1 q => ?_)
 cases f with
 | next=>exact nE q
 | ret v=>exact q
 | brk=>exact q
 | cont=>exact q
noncomputable def GG:TS:=fun D σ H=>D.bk σ H
noncomputable def G5:TS:=fun D σ H=>D.ct σ H
theorem B3:PS X (.Pass pos) zF:=fun _ _ σ H _ I h=>wpAny_Pass ⟨σ,H,I,h⟩
theorem AY:PS X (.Break pos) GG:=fun _ _ σ H _ I h=>wpAny_Break ⟨σ,H,I,h⟩
theorem uG:PS X (.Continue pos) G5:=fun _ _ σ H _ I h=>wpAny_Continue ⟨σ,H,I,h⟩
theorem Inv.quiet {pins:List (Addr×Obj)}{σ:St}{H:Hp}{s:Shared} (I:Inv X pins σ H s):interactive X.env=false:=by simp [interactive,I.ok.kind]
noncomputable def DR (te:TE):TS:=fun D σ H=>te σ H fun _ H1=>D.nx σ H1
theorem Cb (he:PE X e te) (hs:swapsWith e none pos.line X.env=pure false:=by rfl):PS X (.Expr e pos) (DR te):=by
 intro pins s σ H D I h
 exact wpAny_Expr_any (thn (he pins s σ H _ I h) fun v s1 ⟨x,H1,I1,r1,q1⟩=>⟨σ,H1,I1,q1⟩) I.quiet hs
noncomputable def IY (te:TE):TS:=fun D σ H=>te σ H D.rt
theorem FZ (he:PE X e te):PS X (.Return (some e) pos) (IY te):=by
 intro pins s σ H D I h
 exact wpAny_Return_some (thn (he pins s σ H _ I h) fun v s1 ⟨x,H1,I1,r1,q1⟩=>⟨x,σ,H1,I1,r1,q1⟩)
noncomputable def Jj:TS:=fun D _ H=>D.rt .non H
theorem Cd:PS X (.Return none pos) Jj:=fun _ _ σ H _ I h=>wpAny_Return_none ⟨.non,σ,H,I,rfl,h⟩
noncomputable def Jb (c:TT) (t u:TS):TS:=fun D σ H=>c σ H fun b H1=>if b=true then t D σ H1 else u D σ H1
theorem GW {c:Expr}{a b:List Stmt}{tc:TT} (hc:PT X c tc) (ha:PSs X a t) (hb:PSs X b u):PS X (.If c a b pos) (Jb tc t u):=by
 intro pins s σ H D I h
 refine wpAny_If (thn (hc pins s σ H _ I h) fun d s1 ⟨H1,I1,q1⟩ => ?_)
 cases d with
 | true=>exact ha pins s1 σ H1 D I1 q1
 | false=>exact hb pins s1 σ H1 D I1 q1
end
abbrev TG:=V->St->Hp->(St->Hp->Prop)->Prop
abbrev TGs:=List V->St->Hp->(St->Hp->Prop)->Prop
noncomputable def PG (X:Cx) (target:Expr) (t:TG):Prop:=
 ∀ (pins:List (Addr×Obj)) (s:Shared) (σ:St) (H:Hp) (v:V) (u:Value) (Q:St->Hp->Prop),Inv X pins σ H s->RelV v u->t v σ H Q ->
  aI (model X.prog X.w) X.A (assign target X.env u) (fun _ s' => ∃ σ' H',Inv X pins σ' H' s'/\Q σ' H') X.xe s
noncomputable def PGs (X:Cx) (ts:List Expr) (t:TGs):Prop:=
 ∀ (pins:List (Addr×Obj)) (s:Shared) (σ:St) (H:Hp) (vs:List V) (us:List Value) (Q:St->Hp->Prop),Inv X pins σ H s->bP vs us->t vs σ H Q ->
  aI (model X.prog X.w) X.A (assignInOrder ((assignEach ts X.env).map (·.2)) us) (fun _ s' => ∃ σ' H',Inv X pins σ' H' s'/\Q σ' H') X.xe s
abbrev A4:=V->V->V->Hp->(Hp->Prop)->Prop
noncomputable def FT (X:Cx) (t:A4):Prop:=
 ∀ (pins:List (Addr×Obj)) (s:Shared) (σ:St) (H:Hp) (o i v:V) (ov iv u:Value) (Q:Hp->Prop),Inv X pins σ H s->RelV o ov->RelV i iv->RelV v u->t o i v H Q ->
  aI (model X.prog X.w) X.A (setItem ov iv u) (fun _ s' => ∃ H',Inv X pins σ H' s'/\Q H') X.xe s
section
variable {X:Cx}{pos:Pos}
noncomputable def ix (i:Nat):TG:=fun v σ H Q=>Q (σ.set i (some v)) H
theorem xb {i:Nat}{x:Str} (hN:X.N.Nodup) (hi:X.N[i]? = some x) (hx:Loc X.env.scope x) (hf:X.fn x=true\/X.env.scope.names.lookup x=some .local:=by first | exact .inl rfl | exact .inr rfl | assumption):PG X (.Name x pos) (ix i):=by
 intro pins s σ H v u Q I r h
 exact vj (o7 I hN hi hx r (fun s' I'=>⟨_,H,I',h⟩) hf)
noncomputable def IS:TGs:=fun vs σ H Q=>vs = []/\Q σ H
noncomputable def DH (t:TG) (u:TGs):TGs:=fun vs σ H Q => ∃ v r,vs=v::r/\t v σ H fun σ' H'=>u r σ' H' Q
theorem Dk:PGs X [] IS:=by
 intro pins s σ H vs us Q I r h
 obtain⟨e,h⟩:=h
 subst e
 cases r
 exact assignInOrder_nil ⟨σ,H,I,h⟩
theorem AH {e:Expr}{es:List Expr}{t:TG}{u:TGs} (h1:PG X e t) (h2:PGs X es u)
  (hs:(assignEach (e::es) X.env).map (·.2)=assign e X.env::(assignEach es X.env).map (·.2):=by rfl):PGs X (e::es) (DH t u):=by
 intro pins s σ H vs us Q I r h
 obtain⟨v,vr,e1,h⟩:=h
 subst e1
 cases r with
 | cons r rr=>
   rw [hs]
   refine assignInOrder_cons (thn (h1 pins s σ H _ _ _ I r h) fun _ s1 ⟨σ1,H1,I1,q1⟩ => ?_)
   exact h2 pins s1 σ1 H1 _ _ Q I1 rr q1
noncomputable def Hq (K:ak) (n:Nat) (t:TGs):TG:=fun v σ H Q => ∃ a xs,v = .ref a/\SqT K H a xs/\xs.length=n/\t xs σ H Q
theorem EJ {es:List Expr}{k:Nat}{t:TGs}{n:Nat} (hc:X.calm=true) (h:PGs X es t)
  (hn:(assignEach es X.env).length=n:=by rfl) (hst:(assignEach es X.env).findIdx? (·.1)=none:=by rfl):PG X (.Tuple es k pos) (Hq X.K n t):=by
 intro pins s σ H v u Q I r hw
 obtain⟨a,xs,e1,hq,hl,hw⟩:=hw
 subst e1
 cases r
 obtain⟨its,rv,ht,hz⟩:=I.tuple hq
 refine assign_Tuple_tuple (I.ok.hd hc) ht (by simp [hn,<- hl,rv.length]) hst fun h' hx => ?_
 have I1:Inv X pins σ H { s with heap:=h' }:=I.kept (t':=s.toks) fun b o e=>hx b o (bb (aw e)) e
 exact h pins _ σ H xs _ Q I1 (by simpa using rv) hw
noncomputable def GA (to ti:TE) (t:A4):TG:=fun v σ H Q=>to σ H fun o H1=>ti σ H1 fun i H2=>t o i v H2 fun H3=>Q σ H3
theorem AU {o i:Expr}{to ti:TE}{t:A4} (ho:PE X o to) (hi:PE X i ti) (hs:FT X t)
  (ha : ∀ v,assign (.Subscript o i pos) X.env v=(do
   let ov <- holding [v] (eval o X.env)
   let iv <- holding [v,ov] (eval i X.env)
   standAt pos
   holding [v,ov,iv] (setItem ov iv v)
   release [v,ov,iv] []):=by intro _;rfl):PG X (.Subscript o i pos) (GA to ti t):=by
 intro pins s σ H v u Q I r h
 rw [ha]
 refine ag (iV (thn (ho pins s σ H _ I h) fun ov s1 ⟨x,H1,I1,r1,q1⟩ => ?_))
 refine ag (iV (thn (hi pins s1 σ H1 _ I1 q1) fun iv s2 ⟨y,H2,I2,r2,q2⟩ => ?_))
 refine ag (wpAny_standAt (ag (iV (thn (hs pins s2 σ H2 x y v ov iv u _ I2 r1 r2 r q2) fun _ s3 ⟨H3,I3,q3⟩ => ?_))))
 exact wpAny_release ⟨σ,H3,I3,q3⟩
noncomputable def yz (te:TE) (g:TG):TS:=fun D σ H=>te σ H fun x H1=>g x σ H1 D.nx
theorem Bk {tg e:Expr}{te:TE}{g:TG} (he:PE X e te) (hg:PG X tg g) (hs:swapsWithSole [tg] e pos.line X.env=pure false:=by rfl) (hw:swappedStores [tg] e X.env=pure none:=by rfl)
  (h1:(assignEach [tg] X.env).map (·.2) = [assign tg X.env]:=by rfl):PS X (.Assign [tg] e pos) (yz te g):=by
 intro pins s σ H D I h
 refine wpAny_Assign_stores (thn (he pins s σ H _ I h) fun v s1 ⟨x,H1,I1,r1,q1⟩ => ?_) hs hw
 rw [h1]
 exact thn (hg pins s1 σ H1 x v _ I1 r1 q1) fun _ s2 q=>q
theorem Fb {i:Nat}{x:Str}{e:Expr}{te:TE}{pos':Pos} (hN:X.N.Nodup) (hi:X.N[i]? = some x) (hx:Loc X.env.scope x) (he:PE X e te) (hs:swapsWith e (some (.Name x pos')) pos.line X.env=pure false:=by rfl) (hf:X.fn x=true\/X.env.scope.names.lookup x=some .local:=by first | exact .inl rfl | exact .inr rfl | assumption) :
  PS X (.Assign [.Name x pos'] e pos) (yz te (ix i)):=by
 intro pins s σ H D I h
 refine wpAny_Assign_Name (thn (he pins s σ H _ I h) fun v s1 ⟨y,H1,I1,r1,q1⟩ => ?_) hs
 exact o7 I1 hN hi hx r1 (fun s2 I2=>⟨_,H1,I2,q1⟩) hf
end
section
variable {X:Cx}{pos:Pos}
noncomputable def zP (c:TT) (tb:TS):TS:=fun D σ H => ∃ W:Nat->St->Hp->Prop,(∃ m,W m σ H) /\ ∀ m σ H,W m σ H ->
 c σ H fun b H1=>if b=true then ∃ N:St->Hp->Prop,(∀ σ' H',N σ' H' -> ∃ m',m' < m/\W m' σ' H')/\tb { D with nx:=N,ct:=N,bk:=D.nx } σ H1 else D.nx σ H1
theorem zy {c:Expr}{body:List Stmt}{tc:TT}{tb:TS} (hp:PassesOwn (model X.prog X.w) X.A X.env X.xe) (hc:PT X c tc) (hb:PSs X body tb):PS X (.While c body [] pos) (zP tc tb):=by
 intro pins s σ H D I h
 obtain⟨W,⟨m0,w0⟩,turn⟩:=h
 refine wpAny_While (codeAny_whileLoop (fun n s' => ∃ σ' H',Inv X pins σ' H' s'/\W n σ' H') ?_ m0 ⟨σ,H,I,w0⟩)
 rintro n s1 ⟨σ1,H1,I1,w1⟩
 refine eZ hp (thn (hc pins s1 σ1 H1 _ I1 (turn n σ1 H1 w1)) fun b s2 ⟨H2,I2,q2⟩ => ?_)
 cases b with
 | true=>
   obtain⟨N,hN,q2⟩:=q2
   rw [if_pos rfl]
   refine eZ hp (thn (hb pins s2 σ1 H2 _ I2 q2) fun f s3 q3 => ?_)
   cases f with
   | next=>
     obtain⟨σ3,H3,I3,n3⟩:=q3
     obtain⟨m',hm,w3⟩:=hN σ3 H3 n3
     exact⟨m',hm,σ3,H3,I3,w3⟩
   | cont=>
     obtain⟨σ3,H3,I3,n3⟩:=q3
     obtain⟨m',hm,w3⟩:=hN σ3 H3 n3
     exact⟨m',hm,σ3,H3,I3,w3⟩
   | brk=>exact q3
   | ret v=>exact q3
 | false=>
   rw [if_neg bI]
   exact nE ⟨σ1,H2,I2,q2⟩
end
structure It where
 go:Nat->Hp->Prop
 yld:Nat->Hp->V->Hp->Prop
 stop:Nat->Hp->Prop
noncomputable def pb (X:Cx) (pins:List (Addr×Obj)) (H:Hp) (b:Addr):Prop:=
 H b=none/\b≠X.env.locals/\b∉X.fs/\(b∈X.ex\/X.s₀.heap.objs.size<=b)/\(∀ x c,X.env.cells.lookup x=some c->c≠b) /\ ∀ p∈X.pn++pins,p.1≠b
theorem Inv.fpOk {X:Cx}{pins:List (Addr×Obj)}{σ:St}{H H':Hp}{s:Shared}{b:Addr} (I:Inv X pins σ H s) (hb:s.heap.objs.size<=b) (hn:H' b=none):pb X pins H' b:=by
 refine⟨hn,dA (aF I.lt hb),I.nofs hb,.inr (br I.sz hb),fun x c e z => ?_,fun p hp z => ?_⟩
 ·obtain⟨v,q⟩:=I.cell x c e
  exact absurd (aF q.lt (by rw [z];exact hb)) (bD _)
 ·exact absurd (aF (aw (I.pin p hp).1) (by rw [z];exact hb)) (bD _)
structure Turn (P:Program) (w:World) (K:ak) (tg:Expr) (J:It) (fp:List Addr) (it:Addr) (tn:Nat->Heap->Prop):Prop where
 mem:it∈fp
 obj : ∀ i h,tn i h -> ∀ b∈fp,∃ o,h.get? b=some o /\ ∀ v,o.data ≠ .cell v
 keep : ∀ i h h',tn i h->(∀ b∈fp,∀ o,h.get? b=some o->h'.get? b=some o)->tn i h'
 item : ∀ (X:Cx),X.prog=P->X.w=w->X.K=K->X.calm=true -> ∀ (i:Nat) (pins:List (Addr×Obj)) (s:Shared) (σ:St) (H:Hp) (E:Value->Shared->Prop),Inv X pins σ H s->(∀ b∈fp,pb X pins H b)->tn i s.heap->J.go i H ->
  aI (model P w) X.A (pyNext (.ref it)) (fun r s1 => ∃ u,r=some u /\
   aI (model P w) X.A (letOwnedTupleGo tg (.ref it) u) (fun _ s2 => ∃ x H',Inv X pins σ H' s2/\RelV x u/\J.yld i H x H'/\tn (i+1) s2.heap /\ ∀ b∈fp,H' b=none) E s1) E s
 done : ∀ (X:Cx),X.prog=P->X.w=w->X.K=K->X.calm=true -> ∀ (i:Nat) (pins:List (Addr×Obj)) (s:Shared) (σ:St) (H:Hp) (E:Value->Shared->Prop),Inv X pins σ H s->(∀ b∈fp,pb X pins H b)->tn i s.heap->J.stop i H ->
  aI (model P w) X.A (pyNext (.ref it)) (fun r s1=>r=none/\Inv X pins σ H s1) E s
 self : ∀ (A:Around) (i:Nat) (s:Shared) (Q:Value->Shared->Prop) (E:Value->Shared->Prop),tn i s.heap->Q (.ref it) s->aI (model P w) A (pyIter (.ref it)) Q E s
abbrev TI:=St->Hp->(It->Hp->Prop)->Prop
noncomputable def PIE (X:Cx) (pins:List (Addr×Obj)) (σ:St) (tg:Expr) (R:It->Hp->Prop) (itv:Value) (s2:Shared):Prop:=
 ∃ (it:Addr) (fp:List Addr) (tn:Nat->Heap->Prop) (J:It) (H':Hp),itv = .ref it/\Inv X pins σ H' s2/\Turn X.prog X.w X.K tg J fp it tn/\tn 0 s2.heap/\(∀ b∈fp,pb X pins H' b)/\R J H'
noncomputable def PI (X:Cx) (tg iter:Expr) (wi:TI):Prop:=
 ∀ (pins:List (Addr×Obj)) (s:Shared) (σ:St) (H:Hp) (R:It->Hp->Prop),Inv X pins σ H s->wi σ H R ->
  aI (model X.prog X.w) X.A (eval iter X.env) (fun v s1=>aI (model X.prog X.w) X.A (pyIter v) (PIE X pins σ tg R) X.xe s1) X.xe s
theorem zY {M:Model}{A:Around}{E:Value->Shared->Prop}{s:Shared}{tg:Expr}{it:Addr}{u:Value}{o:Obj}{n:String}{vs:Array Value}{Q:Unit->Shared->Prop} (ho:s.heap.get? it=some o) (hc:o.cls = .type n) (hd:o.data = .fields vs)
  (hn : ["enumerate","zip","dict_itemiterator","dict_reverseitemiterator","odict_iterator","itertools.zip_longest","itertools.pairwise"].contains n=false) (hQ:Q () s):aI M A (letOwnedTupleGo tg (.ref it) u) Q E s:=by
 unfold letOwnedTupleGo
 cases tg <;> first
  | exact aK hQ
  | (cases u <;> first
    | exact aK hQ
    | (refine ag (Bq ho ?_)
       rw [hc,hd]
       show aI M A (if (["enumerate","zip","dict_itemiterator","dict_reverseitemiterator","odict_iterator","itertools.zip_longest","itertools.pairwise"].contains n&&vs[0]? == some (rawInt _))=true then _ else _) Q E s
       rw [if_neg (by intro h;rw [hn,Bool.false_and] at h;cases h)]
       exact aK hQ))
noncomputable def Itl (K:ak) (a:Addr):It:=
 ⟨fun i H => ∃ xs x,SqL K H a xs/\xs[i]? = some x,fun i H x H'=>H'=H /\ ∀ xs,SqL K H a xs->xs[i]? = some x,fun i H => ∃ xs,SqL K H a xs/\xs.length<=i⟩
noncomputable def Itt (K:ak) (a:Addr):It:=
 ⟨fun i H => ∃ xs x,SqT K H a xs/\xs[i]? = some x,fun i H x H'=>H'=H /\ ∀ xs,SqT K H a xs->xs[i]? = some x,fun i H => ∃ xs,SqT K H a xs/\xs.length<=i⟩
noncomputable def Itr (lo:Int) (n:Nat):It:=⟨fun i _=>i < n,fun i H x H'=>H'=H/\x = .int (lo+i),fun i _=>n<=i⟩
theorem yc {P:Program}{w:World}{K:ak}{tg:Expr} (a it:Addr):Turn P w K tg (Itl K a) [it] it (fun i h=>h.IsListIter it a i) where
 mem:=by simp
 obj:=fun i h st b hb=>by
  have e:b=it:=by simpa using hb
  subst e
  obtain⟨o,e,c,d⟩:=st
  exact⟨o,e,fun v z=>by rw [d] at z;cases z⟩
 keep:=fun i h h' st k=>st.at fun o e=>k it (by simp) o e
 item:=by
  intro X hP hw hK hc i pins s σ H E I hf st hg
  subst hP hw hK
  obtain⟨xs,x,hq,hx⟩:=hg
  obtain⟨its,rv,p,hz⟩:=I.list hq
  obtain⟨u,hu,ru⟩:=rv.get hx
  obtain⟨f0,f1,f2,f3,f4,f5⟩:=hf it (by simp)
  refine wpAny_pyNext_list_item st p.isList (x:=u) (by simpa using hu) fun h' st' sb => ?_
  have I1:Inv X pins σ H { s with heap:=h' }:=I.turned (t':=s.toks) (fun b o hb e=>(sb.2 b hb).trans e) f0 f1 f3 f4 f5
  obtain⟨o,e,c,d⟩:=id st'
  exact⟨u,rfl,zY (s:={ s with heap:=h' }) e c d (by decide) ⟨x,H,I1,ru,⟨rfl,fun ys hy=>by rw [I.list_inj hy hq];exact hx⟩,st',fun b hb=>(hf b hb).1⟩⟩
 done:=by
  intro X hP hw hK hc i pins s σ H E I hf st hg
  subst hP hw hK
  obtain⟨xs,hq,hx⟩:=hg
  obtain⟨its,rv,p,hz⟩:=I.list hq
  obtain⟨f0,f1,f2,f3,f4,f5⟩:=hf it (by simp)
  have hl:=rv.length
  exact wpAny_pyNext_list_end (I.ok.hd hc) st p.isList (by simp;omega) fun h' eb=>⟨rfl,I.turned (t':=s.toks) (fun b o hb e=>eb b o hb e) f0 f1 f3 f4 f5⟩
 self:=fun _ _ _ _ _ st h=>wpAny_pyIter_listiter st h
theorem vY {P:Program}{w:World}{K:ak}{tg:Expr} (a it:Addr):Turn P w K tg (Itt K a) [it] it (fun i h=>h.IsTupleIter it a i) where
 mem:=by simp
 obj:=fun i h st b hb=>by
  have e:b=it:=by simpa using hb
  subst e
  obtain⟨o,e,c,d⟩:=st
  exact⟨o,e,fun v z=>by rw [d] at z;cases z⟩
 keep:=fun i h h' st k=>st.at fun o e=>k it (by simp) o e
 item:=by
  intro X hP hw hK hc i pins s σ H E I hf st hg
  subst hP hw hK
  obtain⟨xs,x,hq,hx⟩:=hg
  obtain⟨its,rv,p,hz⟩:=I.tuple hq
  obtain⟨u,hu,ru⟩:=rv.get hx
  obtain⟨f0,f1,f2,f3,f4,f5⟩:=hf it (by simp)
  refine wpAny_pyNext_tuple_item st (show s.heap.IsTuple a its.toArray from p) (x:=u) (by simpa using hu) fun h' st' sb => ?_
  have I1:Inv X pins σ H { s with heap:=h' }:=I.turned (t':=s.toks) (fun b o hb e=>(sb.2 b hb).trans e) f0 f1 f3 f4 f5
  obtain⟨o,e,c,d⟩:=id st'
  exact⟨u,rfl,zY (s:={ s with heap:=h' }) e c d (by decide) ⟨x,H,I1,ru,⟨rfl,fun ys hy=>by rw [I.tuple_inj hy hq];exact hx⟩,st',fun b hb=>(hf b hb).1⟩⟩
 done:=by
  intro X hP hw hK hc i pins s σ H E I hf st hg
  subst hP hw hK
  obtain⟨xs,hq,hx⟩:=hg
  obtain⟨its,rv,p,hz⟩:=I.tuple hq
  obtain⟨f0,f1,f2,f3,f4,f5⟩:=hf it (by simp)
  have hl:=rv.length
  exact wpAny_pyNext_tuple_end (I.ok.hd hc) st (show s.heap.IsTuple a its.toArray from p) (by simp;omega) fun h' eb=>⟨rfl,I.turned (t':=s.toks) (fun b o hb e=>eb b o hb e) f0 f1 f3 f4 f5⟩
 self:=fun _ _ _ _ _ st h=>wpAny_pyIter_tupleiter st h
theorem wg {P:Program}{w:World}{K:ak}{tg:Expr} (it:Addr) (lo:Int) (n:Nat):Turn P w K tg (Itr lo n) [it] it (fun i h=>IsRangeIter h it (lo+(i:Nat)*1) ((n:Int) - (i:Nat)) 1) where
 mem:=by simp
 obj:=fun i h st b hb=>by
  have e:b=it:=by simpa using hb
  subst e
  exact⟨_,st,fun v z=>by
   have z':Data.fields _=yW v:=z
   cases z'⟩
 keep:=fun i h h' st k=>k it (by simp) _ st
 item:=by
  intro X hP hw hK hc i pins s σ H E I hf st hg
  subst hP hw hK
  obtain⟨f0,f1,f2,f3,f4,f5⟩:=hf it (by simp)
  have W:=Walks.range (prog:=X.prog) (w:=X.w) (I.ok.hd hc) it lo 1 n
  refine W.item i s _ _ hg st fun v h' tk hv st' kk => ?_
  obtain⟨t,rfl⟩:=hv
  have I1:Inv X pins σ H { s with heap:=h',toks:=tk }:=I.turned (fun b o hb e=>kk b o (by simpa using hb) e) f0 f1 f3 f4 f5
  refine⟨_,rfl,zY (s:={ s with heap:=h',toks:=tk }) (n:="range_iterator") st' rfl rfl (by decide) ⟨.int (lo+i),H,I1,⟨t,?_⟩,⟨rfl,rfl⟩,st',fun b hb=>(hf b hb).1⟩⟩
  rw [Int.mul_one]
 done:=by
  intro X hP hw hK hc i pins s σ H E I hf st hg
  subst hP hw hK
  obtain⟨f0,f1,f2,f3,f4,f5⟩:=hf it (by simp)
  exact wpAny_pyNext_range_end (I.ok.hd hc) st (by have:n<=i:=hg;omega) fun h' eb=>⟨rfl,I.turned (t':=s.toks) (fun b o hb e=>eb b o hb e) f0 f1 f3 f4 f5⟩
 self:=fun _ _ _ _ _ st h=>wpAny_pyIter_rangeiter st h
end L2
namespace L2
open PySem PySem.Spec PyProof.Rows
section
variable {X:Cx}{tg:Expr}
noncomputable def q9 (K:ak) (tl:TE):TI:=fun σ H R=>tl σ H fun x H1 => ∃ a,x = .ref a/\(∃ xs,SqL K H1 a xs)/\R (Itl K a) H1
noncomputable def yu (K:ak) (tl:TE):TI:=fun σ H R=>tl σ H fun x H1 => ∃ a,x = .ref a/\(∃ xs,SqT K H1 a xs)/\R (Itt K a) H1
theorem BQ {l:Expr}{tl:TE} (hl:PE X l tl):PI X tg l (q9 X.K tl):=by
 intro pins s σ H R I h
 refine thn (hl pins s σ H _ I h) fun v s1 ⟨x,H1,I1,r1,q1⟩ => ?_
 obtain⟨a,e,⟨xs,hq⟩,q⟩:=q1
 subst e
 cases r1
 obtain⟨its,rv,p,hz⟩:=I1.list hq
 refine vk p.isList ?_
 refine⟨s1.heap.objs.size,[s1.heap.objs.size],_,_,H1,rfl,I1.kept (t':=s1.toks) fun b o e=>af _ e,yc a _,⟨_,ay _ rfl,rfl,rfl⟩,fun b hb => ?_,q⟩
 have e:b=s1.heap.objs.size:=by simpa using hb
 subst e
 exact I1.fpOk (aj _) (I1.hok.fresh (aj _))
theorem EW {l:Expr}{tl:TE} (hl:PE X l tl):PI X tg l (yu X.K tl):=by
 intro pins s σ H R I h
 refine thn (hl pins s σ H _ I h) fun v s1 ⟨x,H1,I1,r1,q1⟩ => ?_
 obtain⟨a,e,⟨xs,hq⟩,q⟩:=q1
 subst e
 cases r1
 obtain⟨its,rv,p,hz⟩:=I1.tuple hq
 refine wpAny_pyIter_tuple (show s1.heap.IsTuple a its.toArray from p) ?_
 refine⟨s1.heap.objs.size,[s1.heap.objs.size],_,_,H1,rfl,I1.kept (t':=s1.toks) fun b o e=>af _ e,vY a _,⟨_,ay _ rfl,rfl,rfl⟩,fun b hb => ?_,q⟩
 have e:b=s1.heap.objs.size:=by simpa using hb
 subst e
 exact I1.fpOk (aj _) (I1.hok.fresh (aj _))
theorem uB {pins:List (Addr×Obj)}{σ:St}{H:Hp}{s:Shared}{R:It->Hp->Prop}{E:Value->Shared->Prop}{lo hi:Int}{t u v:Tok}{tk:Nat} (I:Inv X pins σ H s) (h1 : -(2 ^ 62)<=lo) (h2:lo < 2 ^ 62) (h3 : -(2 ^ 62)<=hi) (h4:hi < 2 ^ 62)
  (q:R (Itr lo (hi - lo).toNat) H):aI (model X.prog X.w) X.A (pyIter (.ref s.heap.objs.size)) (PIE X pins σ tg R) E { s with heap:=s.heap.push { cls := .type "range",data := .fields #[.int lo t,.int hi u,.int 1 v] },toks:=tk }:=by
 refine wpAny_pyIter_range (IsRange.new ..) (small_one h1 h2 h3 h4) ?_
 have I1:Inv X pins σ H { s with heap:=s.heap.push { cls := .type "range",data := .fields #[.int lo t,.int hi u,.int 1 v] },toks:=tk }:=I.kept fun b o e=>af _ e
 refine⟨(s.heap.push { cls := .type "range",data := .fields #[.int lo t,.int hi u,.int 1 v] }).objs.size,[(s.heap.push { cls := .type "range",data := .fields #[.int lo t,.int hi u,.int 1 v] }).objs.size],_,_,H,rfl,
  I1.kept (t':=tk) fun b o e=>af _ e,wg _ lo (hi - lo).toNat,?_,fun b hb => ?_,q⟩
 ·have e1:lo+((0:Nat):Int)*1=lo:=by simp
  have e2:(((hi - lo).toNat:Nat):Int) - ((0:Nat):Int)=cY lo hi 1:=by rw [rangeSize_one];split <;> omega
  show IsRangeIter _ _ (lo+((0:Nat):Int)*1) ((((hi - lo).toNat:Nat):Int) - ((0:Nat):Int)) 1
  rw [e1,e2]
  exact ay _ rfl
 ·have e:b=(s.heap.push { cls := .type "range",data := .fields #[.int lo t,.int hi u,.int 1 v] }).objs.size:=by simpa using hb
  subst e
  exact I1.fpOk (aj _) (I1.hok.fresh (aj _))
noncomputable def ua (ta:TA):TI:=fun σ H R=>ta σ H fun vs H1 => ∃ j:Int,vs = [.int j] /\ -(2 ^ 62)<=j/\j < 2 ^ 62/\R (Itr 0 j.toNat) H1
noncomputable def t8 (ta:TA):TI:=fun σ H R=>ta σ H fun vs H1 => ∃ i j:Int,vs = [.int i,.int j]/\(-(2 ^ 62)<=i/\i < 2 ^ 62 /\ -(2 ^ 62)<=j/\j < 2 ^ 62)/\R (Itr i (j - i).toNat) H1
theorem yy {a:Expr}{ta:TA}{p pos:Pos} (hg:Gl X "range") (hm:X.mg "range"=none) (ha:PA X [a] ta) (hs:starEach [a] X.env = [(false,eval a X.env)]:=by rfl):PI X tg (.Call (.Name "range" p) [a] [] pos) (ua ta):=by
 intro pins s σ H R I h
 refine Call_ (j5 I hg hm boot_range (cn (thn (ha pos pins s σ H _ I h) fun us s1 ⟨vs,H1,I1,r1,q1⟩ => ?_) hs rfl))
 obtain⟨j,e,q1,q2,q⟩:=q1
 subst e
 cases r1 with
 | cons r rr=>
   cases rr
   obtain⟨t,rfl⟩:=r
   exact call_range_1 (uB I1 (by omega) (by omega) q1 q2 (by simpa using q))
theorem yR {a b:Expr}{ta:TA}{p pos:Pos} (hg:Gl X "range") (hm:X.mg "range"=none) (ha:PA X [a,b] ta) (hs:starEach [a,b] X.env = [(false,eval a X.env),(false,eval b X.env)]:=by rfl) (hs2:starEach [b] X.env = [(false,eval b X.env)]:=by rfl) :
  PI X tg (.Call (.Name "range" p) [a,b] [] pos) (t8 ta):=by
 intro pins s σ H R I h
 refine Call_ (j5 I hg hm boot_range (cn (thn (ha pos pins s σ H _ I h) fun us s1 ⟨vs,H1,I1,r1,q1⟩ => ?_) (by rw [hs,hs2]) (by rw [hs2];rfl)))
 obtain⟨i,j,e,⟨q1,q2,q3,q4⟩,q⟩:=q1
 subst e
 cases r1 with
 | cons r rr=>
   cases rr with
   | cons r' rr=>
     cases rr
     obtain⟨t,rfl⟩:=r
     obtain⟨t',rfl⟩:=r'
     exact call_range_2 (uB I1 q1 q2 q3 q4 q)
noncomputable def qc (wi:TI) (g:TG) (tb:TS):TS:=fun D σ H=>wi σ H fun J H1 => ∃ W:Nat->Nat->St->Hp->Prop,(∃ m,W 0 m σ H1) /\ ∀ i m σ H,W i m σ H ->
 (J.stop i H/\D.nx σ H)\/(J.go i H /\ ∃ N:St->Hp->Prop,(∀ σ' H',N σ' H' -> ∃ m',m' < m/\W (i+1) m' σ' H') /\ ∀ x H',J.yld i H x H'->g x σ H' fun σ2 H2=>tb { D with nx:=N,ct:=N,bk:=D.nx } σ2 H2)
noncomputable def oH (fp:List Addr) (h:Heap):List (Addr×Obj):=fp.filterMap fun b=>(h.get? b).map fun o=>(b,o)
theorem jj {fp:List Addr}{h:Heap}{b:Addr}{o:Obj} (hb:b∈fp) (e:h.get? b=some o):(b,o)∈oH fp h:=List.mem_filterMap.mpr ⟨b,hb,by rw [e];rfl⟩
theorem yj {fp:List Addr}{h:Heap}{p:Addr×Obj} (hp:p∈oH fp h):p.1∈fp/\h.get? p.1=some p.2:=by
 obtain⟨b,hb,e⟩:=List.mem_filterMap.mp hp
 cases q:h.get? b with
 | none=>rw [q] at e;cases e
 | some o=>
   rw [q] at e
   have e':(b,o)=p:=bB e
   subst e'
   exact⟨hb,q⟩
theorem Inv.pinned {pins:List (Addr×Obj)}{σ:St}{H:Hp}{s:Shared}{fp:List Addr} (I:Inv X pins σ H s) (hf : ∀ b∈fp,pb X pins H b) (ho : ∀ b∈fp,∃ o,s.heap.get? b=some o /\ ∀ v,o.data ≠ .cell v):Inv X (pins++oH fp s.heap) σ H s:=
 I.pins_of fun p hp=>(bx.mp hp).elim (fun z=>I.pin p (aR _ z)) fun z=>by
  obtain⟨hb,e⟩:=yj z
  obtain⟨f0,f1,f2,_⟩:=hf p.1 hb
  obtain⟨o,e',d⟩:=ho p.1 hb
  rw [e] at e';cases e'
  exact⟨e,f0,f1,f2,d⟩
theorem Inv.unpinned {pins pl:List (Addr×Obj)}{σ:St}{H:Hp}{s:Shared} (I:Inv X (pins++pl) σ H s):Inv X pins σ H s:=I.pins_of fun p hp=>I.pin p (aR _ (bA _ hp))
theorem zq {iter:Expr}{body:List Stmt}{wi:TI}{g:TG}{tb:TS}{pos:Pos} (hp:PassesOwn (model X.prog X.w) X.A X.env X.xe) (hc:X.calm=true) (hi:PI X tg iter wi) (hg:PG X tg g) (hb:PSs X body tb)
  (hs : ∀ x,foldedSetIterable iter X.env x=pure x:=by intro _;rfl):PS X (.For tg iter body [] pos) (qc wi g tb):=by
 intro pins s σ H D I h
 refine wpAny_For (thn (hi pins s σ H _ I h) fun v s1 h1=>thn h1 fun itv s2 h2 => ?_) hs
 obtain⟨it,fp,tn,J,H2,e,I2,T,st2,f2,W,⟨m0,w0⟩,turn⟩:=h2
 subst e
 have stat : ∀ {H':Hp},(∀ b∈fp,H' b=none) -> ∀ b∈fp,pb X pins H' b:=fun hn b hb=>⟨hn b hb,(f2 b hb).2⟩
 refine codeAny_forLoop_any (fun n s' => ∃ i σ' H',Inv X pins σ' H' s'/\tn i s'.heap/\(∀ b∈fp,H' b=none)/\W i n σ' H') ?_ m0 ⟨0,σ,H2,I2,st2,fun b hb=>(f2 b hb).1,w0⟩
 rintro n s3 ⟨i,σ3,H3,I3,st3,fr3,w3⟩
 rcases turn i n σ3 H3 w3 with⟨stop,qn⟩ | ⟨go,N,hN,step⟩
 ·refine eZ hp (thn (T.done X rfl rfl rfl hc i pins s3 σ3 H3 X.xe I3 (stat fr3) st3 stop) fun r s4 ⟨hr,I4⟩ => ?_)
  subst hr
  exact nE ⟨σ3,H3,I4,qn⟩
 ·refine eZ hp (thn (T.item X rfl rfl rfl hc i pins s3 σ3 H3 X.xe I3 (stat fr3) st3 go) fun r s4 ⟨u,hr,h4⟩ => ?_)
  subst hr
  refine eZ hp (thn h4 fun _ s5 ⟨x,H5,I5,r5,y5,st5,fr5⟩ => ?_)
  have I5':=I5.pinned (stat fr5) (T.obj _ _ st5)
  refine eZ hp (thn (hg _ s5 σ3 H5 x u _ I5' r5 (step x H5 y5)) fun _ s6 ⟨σ6,H6,I6,q6⟩ => ?_)
  refine eZ hp (thn (hb _ s6 σ6 H6 _ I6 q6) fun f s7 q7 => ?_)
  have again : ∀ {σ7:St}{H7:Hp},Inv X (pins++oH fp s5.heap) σ7 H7 s7->N σ7 H7 -> ∃ m,m < n /\ ∃ i σ' H',Inv X pins σ' H' s7/\tn i s7.heap/\(∀ b∈fp,H' b=none)/\W i m σ' H':=fun {σ7 H7} I7 n7=>by
   obtain⟨m',hm,w7⟩:=hN σ7 H7 n7
   refine⟨m',hm,i+1,σ7,H7,I7.unpinned,T.keep _ _ _ st5 fun b hb o e=>(I7.pin (b,o) (aR _ (aR _ (jj hb e)))).1,fun b hb => ?_,w7⟩
   obtain⟨o,e,d⟩:=T.obj _ _ st5 b hb
   exact (I7.pin (b,o) (aR _ (aR _ (jj hb e)))).2.1
  cases f with
  | next=>obtain⟨σ7,H7,I7,n7⟩:=q7;exact again I7 n7
  | cont=>obtain⟨σ7,H7,I7,n7⟩:=q7;exact again I7 n7
  | brk=>obtain⟨σ7,H7,I7,q7⟩:=q7;exact⟨σ7,H7,I7.unpinned,q7⟩
  | ret v=>obtain⟨x7,σ7,H7,I7,r7,q7⟩:=q7;exact⟨x7,σ7,H7,I7.unpinned,r7,q7⟩
end
theorem Cm {K:ak}{a:Addr}{xs:List V}{g:TG}{tb:TS}{D:Ends}{σ:St}{H:Hp} (Pv:Nat->St->Hp->Prop) (h0:Pv 0 σ H) (hl : ∀ i σ H,i<=xs.length->Pv i σ H->SqT K H a xs)
  (hs : ∀ i x σ H,xs[i]? = some x->Pv i σ H->g x σ H fun σ2 H2=>tb { D with nx:=Pv (i+1),ct:=Pv (i+1),bk:=D.nx } σ2 H2) (hd : ∀ σ H,Pv xs.length σ H->D.nx σ H) :
  ∃ W:Nat->Nat->St->Hp->Prop,(∃ m,W 0 m σ H) /\ ∀ i m σ H,W i m σ H ->
   ((Itt K a).stop i H/\D.nx σ H)\/((Itt K a).go i H /\ ∃ N:St->Hp->Prop,(∀ σ' H',N σ' H' -> ∃ m',m' < m/\W (i+1) m' σ' H') /\ ∀ x H',(Itt K a).yld i H x H'->g x σ H' fun σ2 H2=>tb { D with nx:=N,ct:=N,bk:=D.nx } σ2 H2):=by
 refine⟨fun i m σ H=>m=xs.length - i/\i<=xs.length/\Pv i σ H,⟨xs.length,by simp,b9 _,h0⟩,?_⟩
 rintro i m σ H ⟨rfl,hi,p⟩
 have q:=hl i σ H hi p
 by_cases hlt:i < xs.length
 ·refine .inr ⟨⟨xs,xs[i],q,by simp [hlt]⟩,Pv (i+1),fun σ' H' p'=>⟨xs.length - (i+1),by omega,rfl,hlt,p'⟩,fun x H' y => ?_⟩
  obtain⟨e,y⟩:=y
  subst e
  exact hs i x σ _ (y xs q) p
 ·have e:i=xs.length:=by omega
  subst e
  exact .inl ⟨⟨xs,q,aj _⟩,hd σ H p⟩
theorem yG {lo:Int}{n:Nat}{g:TG}{tb:TS}{D:Ends}{σ:St}{H:Hp} (Pv:Nat->St->Hp->Prop) (h0:Pv 0 σ H)
  (hs : ∀ i σ H,i < n->Pv i σ H->g (.int (lo+i)) σ H fun σ2 H2=>tb { D with nx:=Pv (i+1),ct:=Pv (i+1),bk:=D.nx } σ2 H2) (hd : ∀ σ H,Pv n σ H->D.nx σ H) :
  ∃ W:Nat->Nat->St->Hp->Prop,(∃ m,W 0 m σ H) /\ ∀ i m σ H,W i m σ H ->
   ((Itr lo n).stop i H/\D.nx σ H)\/((Itr lo n).go i H /\ ∃ N:St->Hp->Prop,(∀ σ' H',N σ' H' -> ∃ m',m' < m/\W (i+1) m' σ' H') /\ ∀ x H',(Itr lo n).yld i H x H'->g x σ H' fun σ2 H2=>tb { D with nx:=N,ct:=N,bk:=D.nx } σ2 H2):=by
 refine⟨fun i m σ H=>m=n - i/\i<=n/\Pv i σ H,⟨n,by simp,b9 _,h0⟩,?_⟩
 rintro i m σ H ⟨rfl,hi,p⟩
 by_cases hlt:i < n
 ·refine .inr ⟨hlt,Pv (i+1),fun σ' H' p'=>⟨n - (i+1),by omega,rfl,hlt,p'⟩,fun x H' y => ?_⟩
  obtain⟨e,y⟩:=y
  subst e y
  exact hs i σ _ hlt p
 ·have e:i=n:=by omega
  subst e
  exact .inl ⟨aj _,hd σ H p⟩
end L2
namespace L2
open PySem PySem.Spec PyProof.Rows
abbrev R2:=V->V->Hp->VK->Prop
noncomputable def OpR (X:Cx) (f:Value->Value->Sem Value) (r:R2):Prop:=
 ∀ (pins:List (Addr×Obj)) (s:Shared) (σ:St) (H:Hp) (x y:V) (v u:Value) (Q:VK),Inv X pins σ H s->RelV x v->RelV y u->r x y H Q ->
  aI (model X.prog X.w) X.A (f v u) (EP X pins σ Q) X.xe s
noncomputable def UnR (X:Cx) (f:Value->Sem Value) (r:V->Hp->VK->Prop):Prop:=
 ∀ (pins:List (Addr×Obj)) (s:Shared) (σ:St) (H:Hp) (x:V) (v:Value) (Q:VK),Inv X pins σ H s->RelV x v->r x H Q ->
  aI (model X.prog X.w) X.A (f v) (EP X pins σ Q) X.xe s
noncomputable def fN (X:Cx) (f:Value) (r:List V->Hp->VK->Prop):Prop:=
 ∀ (pins:List (Addr×Obj)) (s:Shared) (σ:St) (H:Hp) (xs:List V) (us:List Value) (Q:VK),Inv X pins σ H s->bP xs us->r xs H Q ->
  aI (model X.prog X.w) X.A (call f us) (EP X pins σ Q) X.xe s
noncomputable def tOp (r:R2) (ta tb:TE):TE:=fun σ H Q=>ta σ H fun x H1=>tb σ H1 fun y H2=>r x y H2 Q
noncomputable def tUn (r:V->Hp->VK->Prop) (ta:TE):TE:=fun σ H Q=>ta σ H fun x H1=>r x H1 Q
noncomputable def rI (C:Int->Int->Prop) (g:Int->Int->V):R2:=fun x y H Q => ∃ i j,x = .int i/\y = .int j/\C i j/\Q (g i j) H
noncomputable def rI0 (g:Int->Int->V):R2:=fun x y H Q => ∃ i j,x = .int i/\y = .int j/\Q (g i j) H
noncomputable def rU (g:Int->V):V->Hp->VK->Prop:=fun x H Q => ∃ i,x = .int i/\Q (g i) H
section
variable {X:Cx}{a b c:Expr}{ta tb tc:TE}{pos:Pos}
theorem E3 (ha:PE X a ta) (hb:PE X b tb) {pins:List (Addr×Obj)}{s:Shared}{σ:St}{H:Hp}{R:V->V->Hp->Prop} (I:Inv X pins σ H s)
  (h:ta σ H fun x H1=>tb σ H1 fun y H2=>R x y H2) {Q:Value->Shared->Prop}{f:Value->Value->Sem Value}
  (hf : ∀ v u s2 x y H2,Inv X pins σ H2 s2->RelV x v->RelV y u->R x y H2->aI (model X.prog X.w) X.A (f v u) Q X.xe s2) :
  aI (model X.prog X.w) X.A (eval a X.env) (fun v s₁=>aI (model X.prog X.w) X.A (eval b X.env) (fun u s₂=>aI (model X.prog X.w) X.A (f v u) Q X.xe s₂) X.xe s₁) X.xe s:=by
 refine thn (ha pins s σ H _ I h) fun v s1 ⟨x,H1,I1,r1,q1⟩ => ?_
 refine thn (hb pins s1 σ H1 _ I1 q1) fun u s2 ⟨y,H2,I2,r2,q2⟩ => ?_
 exact hf v u s2 x y H2 I2 r1 r2 q2
theorem qP {op:Operator}{r:R2} (ho:OpR X (binaryOp op) r) (ha:PE X a ta) (hb:PE X b tb):PE X (.BinOp a op b pos) (tOp r ta tb):=by
 intro pins s σ H Q I h
 exact wpAny_BinOp (E3 ha hb I h fun v u s2 x y H2 I2 rx ry q=>ho pins s2 σ H2 x y v u Q I2 rx ry q)
theorem He {op:UnaryOp}{r:V->Hp->VK->Prop} (ho:UnR X (unaryOp op) r) (ha:PE X a ta):PE X (.UnaryOp op a pos) (tUn r ta):=by
 intro pins s σ H Q I h
 exact UnaryOp_ (thn (ha pins s σ H _ I h) fun v s1 ⟨x,H1,I1,r1,q1⟩=>ho pins s1 σ H1 x v Q I1 r1 q1)
theorem opI {f:Value->Value->Sem Value}{C:Int->Int->Prop}{g:Int->Int->Int}
  (rule : ∀ (i j:Int) (t u:Tok) (s:Shared) (Q:Value->Shared->Prop) (E:Value->Shared->Prop),C i j->Q (.int (g i j) s.toks) { s with toks:=s.toks+1 }->aI (model X.prog X.w) X.A (f (.int i t) (.int j u)) Q E s) :
  OpR X f (rI C fun i j => .int (g i j)):=by
 intro pins s σ H x y v u Q I rx ry h
 obtain⟨i,j,rfl,rfl,hc,q⟩:=h
 obtain⟨t,rfl⟩:=rx
 obtain⟨t',rfl⟩:=ry
 exact rule i j t t' s _ _ hc ⟨.int (g i j),H,I.tok _,⟨_,rfl⟩,q⟩
theorem HK {f:Value->Value->Sem Value}{g:Int->Int->Int}
  (rule : ∀ (i j:Int) (t u:Tok) (s:Shared) (Q:Value->Shared->Prop) (E:Value->Shared->Prop),Q (.int (g i j) s.toks) { s with toks:=s.toks+1 }->aI (model X.prog X.w) X.A (f (.int i t) (.int j u)) Q E s) :
  OpR X f (rI0 fun i j => .int (g i j)):=by
 intro pins s σ H x y v u Q I rx ry h
 obtain⟨i,j,rfl,rfl,q⟩:=h
 obtain⟨t,rfl⟩:=rx
 obtain⟨t',rfl⟩:=ry
 exact rule i j t t' s _ _ ⟨.int (g i j),H,I.tok _,⟨_,rfl⟩,q⟩
theorem CQ {f:Value->Value->Sem Value}{g:Int->Int->Bool}
  (rule : ∀ (i j:Int) (t u:Tok) (s:Shared) (Q:Value->Shared->Prop) (E:Value->Shared->Prop),Q (.bool (g i j)) s->aI (model X.prog X.w) X.A (f (.int i t) (.int j u)) Q E s) :
  OpR X f (rI0 fun i j => .bl (g i j)):=by
 intro pins s σ H x y v u Q I rx ry h
 obtain⟨i,j,rfl,rfl,q⟩:=h
 obtain⟨t,rfl⟩:=rx
 obtain⟨t',rfl⟩:=ry
 exact rule i j t t' s _ _ ⟨.bl (g i j),H,I,rfl,q⟩
noncomputable def IH (i j:Int):Prop:=0 < j/\j < 1073741824
noncomputable def IT (i j:Int):Prop:=0<=j/\j<=1000000/\i.natAbs < 2 ^ 64
noncomputable def CD (i j:Int):Prop:=(-(2 ^ 64) < i/\i < 2 ^ 64)\/(-(2 ^ 64) < j/\j < 2 ^ 64)
theorem CD.ok {i j:Int} (h:CD i j):IntMulOk i j:=by
 rcases h with⟨h1,h2⟩ | ⟨h1,h2⟩
 ·exact .of_left (intBits_le_64 h1 h2)
 ·exact .of_right (intBits_le_64 h1 h2)
theorem Fd:OpR X (binaryOp .Add) (rI0 fun i j => .int (i+j)):=HK fun _ _ _ _ _ _ _ q=>add_int q
theorem EB:OpR X (binaryOp .Sub) (rI0 fun i j => .int (i - j)):=HK fun _ _ _ _ _ _ _ q=>sub_int q
theorem Gb:OpR X (binaryOp .Mult) (rI CD fun i j => .int (i*j)):=opI fun _ _ _ _ _ _ _ hc q=>mul_int q hc.ok
theorem BI:OpR X (binaryOp .FloorDiv) (rI IH fun i j => .int (i / j)):=opI fun i j _ _ _ _ _ hc q=>by
 have h1:(0:Int) < j:=hc.1
 have h2:j < 1073741824:=hc.2
 exact floordiv_int (by omega) (by rw [Int.fdiv_eq_ediv_of_nonneg i (by omega)];exact q) (.inl (PyProof.noPylong_small (by omega)))
theorem Eu:OpR X (binaryOp .Mod) (rI (fun _ j=>0 < j) fun i j => .int (i % j)):=opI fun i j _ _ _ _ _ hc q=>by
 have h1:(0:Int) < j:=hc
 exact mod_int' (by omega) (by rw [Int.fmod_eq_emod_of_nonneg i (by omega)];exact q)
theorem EH:OpR X (binaryOp .Pow) (rI IT fun i j => .int (i ^ j.toNat)):=opI fun _ _ _ _ _ _ _ hc q=>pow_int_small hc.1 hc.2.1 hc.2.2 q
theorem unI {f:Value->Sem Value}{g:Int->Int}
  (rule : ∀ (i:Int) (t:Tok) (s:Shared) (Q:Value->Shared->Prop) (E:Value->Shared->Prop),Q (.int (g i) s.toks) { s with toks:=s.toks+1 }->aI (model X.prog X.w) X.A (f (.int i t)) Q E s) :
  UnR X f (rU fun i => .int (g i)):=by
 intro pins s σ H x v Q I rx h
 obtain⟨i,rfl,q⟩:=h
 obtain⟨t,rfl⟩:=rx
 exact rule i t s _ _ ⟨.int (g i),H,I.tok _,⟨_,rfl⟩,q⟩
theorem EE:UnR X (unaryOp .USub) (rU fun i => .int (-i)):=unI fun _ _ _ _ _ q=>neg_int q
end
section
variable {X:Cx}{a b c:Expr}{ta tb tc:TE}{pos:Pos}
theorem IM:OpR X (compareOp .Lt) (rI0 fun i j => .bl (decide (i < j))):=CQ fun _ _ _ _ _ _ _ q=>lt_int q
theorem Iu:OpR X (compareOp .LtE) (rI0 fun i j => .bl (decide (i<=j))):=CQ fun _ _ _ _ _ _ _ q=>le_int q
theorem Hm:OpR X (compareOp .Gt) (rI0 fun i j => .bl (decide (j < i))):=CQ fun _ _ _ _ _ _ _ q=>gt_int q
theorem HF:OpR X (compareOp .GtE) (rI0 fun i j => .bl (decide (j<=i))):=CQ fun _ _ _ _ _ _ _ q=>ge_int q
theorem OpR.or {f:Value->Value->Sem Value}{r r':R2} (h:OpR X f r) (h':OpR X f r'):OpR X f (fun x y H Q=>r x y H Q\/r' x y H Q):=by
 intro pins s σ H x y v u Q I rx ry q
 rcases q with q | q
 ·exact h pins s σ H x y v u Q I rx ry q
 ·exact h' pins s σ H x y v u Q I rx ry q
theorem BP {op:CmpOp}{r:R2} (ho:OpR X (compareOp op) r) (ha:PE X a ta) (hb:PE X b tb) (hm:behindInMarks op b=false):PE X (.Compare a [op] [b] pos) (tOp r ta tb):=by
 intro pins s σ H Q I h
 exact wpAny_Compare1 (E3 ha hb I h fun v u s2 x y H2 I2 rx ry q=>ho pins s2 σ H2 x y v u Q I2 rx ry q) hm
noncomputable def DM (t:TE):TT:=fun σ H Q=>t σ H fun x H' => ∃ k,x = .bl k/\Q k H'
theorem Dl {op:CmpOp}{r:R2} (ho:OpR X (compareOp op) r) (ha:PE X a ta) (hb:PE X b tb) (hm:behindInMarks op b=false):PT X (.Compare a [op] [b] pos) (DM (tOp r ta tb)):=by
 intro pins s σ H Q I h
 refine wpAny_isTrue_Compare1 (thn (ha pins s σ H _ I h) fun v s1 ⟨x,H1,I1,r1,q1⟩=>thn (hb pins s1 σ H1 _ I1 q1) fun u s2 ⟨y,H2,I2,r2,q2⟩=>
  thn (ho pins s2 σ H2 x y v u _ I2 r1 r2 q2) fun c s3 ⟨z,H3,I3,r3,k,e,q3⟩ => ?_) hm
 subst e
 cases r3
 exact fo ⟨H3,I3,q3⟩
theorem oV:(sizeLine:Nat) < 2 ^ 63:=by rw [sizeLine_eq];decide
theorem vals1 {x:V}{us:List Value} (r:bP [x] us) : ∃ u,us = [u]/\RelV x u:=by
 cases r with
 | cons r1 r2=>cases r2;exact⟨_,rfl,r1⟩
theorem vals2 {x y:V}{us:List Value} (r:bP [x,y] us) : ∃ u w',us = [u,w']/\RelV x u/\RelV y w':=by
 cases r with
 | cons r1 r2=>
   cases r2 with
   | cons r3 r4=>cases r4;exact⟨_,_,rfl,r1,r3⟩
theorem xS (hc:X.calm=true):fN X (.builtin "max") (fun xs H Q => ∃ i j,xs = [.int i,.int j]/\Q (.int (if j > i then j else i)) H):=by
 intro pins s σ H xs us Q I r h
 obtain⟨i,j,rfl,q⟩:=h
 obtain⟨u,w',rfl,⟨t,rfl⟩,⟨t',rfl⟩⟩:=vals2 r
 refine max_two_ints (I.ok.hd hc) fun h' tk k=>⟨_,H,I.kept k,?_,q⟩
 by_cases hj:j > i
 ·rw [if_pos hj,if_pos hj];exact⟨_,rfl⟩
 ·rw [if_neg hj,if_neg hj];exact⟨_,rfl⟩
theorem xI (hc:X.calm=true):fN X (.builtin "min") (fun xs H Q => ∃ i j,xs = [.int i,.int j]/\Q (.int (if j < i then j else i)) H):=by
 intro pins s σ H xs us Q I r h
 obtain⟨i,j,rfl,q⟩:=h
 obtain⟨u,w',rfl,⟨t,rfl⟩,⟨t',rfl⟩⟩:=vals2 r
 refine min_two_ints (I.ok.hd hc) fun h' tk k=>⟨_,H,I.kept k,?_,q⟩
 by_cases hj:j < i
 ·rw [if_pos hj,if_pos hj];exact⟨_,rfl⟩
 ·rw [if_neg hj,if_neg hj];exact⟨_,rfl⟩
end
end L2
namespace L2
open PySem PySem.Spec PyProof.Rows
structure ED (h:Heap) (x dx C:Addr) (mA:Str->Option Value):Prop where
 obj:h.get? x=some (qr C dx)
 ns:h.Ns1 dx mA
 ne:dx≠x
theorem yd {h:Heap}{dx:Addr}{mA:Str->Option Value} (n:h.Ns1 dx mA) : ∃ od,h.get? dx=some od /\ ∀ name,sZ name od=some (mA name):=by
 obtain⟨o,es,ep,ho,hd,hk,_,hm⟩:=n
 refine⟨o,ho,fun name => ?_⟩
 have e:=hm name
 unfold nsFind findBy at e
 rw [<- Array.find?_toList] at e
 unfold sZ
 rw [hd]
 dsimp only
 split
 ·rename_i y q
  rw [q] at e
  exact congrArg some e
 ·rename_i q
  rw [q] at e
  have a:es.toList.any (·.refKey)=false:=by
   rw [List.any_eq_false]
   intro y hy
   obtain⟨z,t,hkey⟩:=hk y (Array.mem_toList_iff.mp hy)
   simp [DictEntry.refKey,hkey]
  have a' : ¬ es.toList.any (·.refKey)=true:=by rw [a];exact bI
  rw [if_neg a']
  exact congrArg some e
theorem ED.look {h:Heap}{x dx C:Addr}{mA:Str->Option Value} (I:ED h x dx C mA) : ∃ od,PySem.W.InstAt h x (qr C dx) C (some od) /\ ∀ name,sZ name od=some (mA name):=
 let ⟨od,ho,hl⟩:=yd I.ns
 ⟨od,⟨I.obj,rfl,rfl,ho⟩,hl⟩
section
variable {prog:Program}{w:World}{A:Around}{E:Value->Shared->Prop}{s:Shared}{K:ak}{x dx C f:Addr}{mA:Str->Option Value}{name:Str}{v:Value}
end
theorem o4.some_of {v:V}{o:Option Value} (r:o4 (some v) o) : ∃ u,o=some u/\RelV v u:=by
 cases o with
 | none=>exact (show False from r).elim
 | some u=>exact⟨u,rfl,r⟩
section
variable {P:Program}{w:World}{H H':Hp}{h h':Heap}{a C dx:Addr}{fs fs':List (Str×V)}
theorem CS (hok:HOk P w H h) (e:H a=some (.ins C dx fs)) : ∃ mA,ED h a dx C mA/\(∀ f,o4 (fs.lookup f) (mA f))/\PySem.Within mA (fs.map (·.1))/\fs.length<=1000/\H dx=some (.own a):=by
 obtain⟨d,z,ne,ob,mA,n,r,q⟩:=(show dz P w H h a (.ins C dx fs) from hok a _ e)
 exact⟨mA,⟨ob,n,ne⟩,r,q,z,d⟩
end
structure Cls (K:ak) (C:Addr):Prop where
 pg:PySem.W.plainGet K C Str.empty=true
 hd:PySem.W.hasDictIn K C=true
 po:PySem.W.plainOver K C=true
 sa:iU K (.ref C) "__setattr__"=some (some (.builtin "object.__setattr__"))
theorem Cls.get {K:ak}{C:Addr} (c:Cls K C) (f:Str):PySem.W.plainGet K C f=true:=c.pg
structure Con (K:ak) (C:Addr) (f:Str) (v:V) (u:Value):Prop where
 at_:iU K (.ref C) f=some (some u)
 rel:RelV v u
 get:Bx K u "__get__"=some none
 cp:PySem.W.copiedNames.contains f=false
structure Kn (K:ak) (C:Addr) (m:Str) (f:Addr):Prop where
 at_:iU K (.ref C) m=some (some (.ref f))
 fn:PySem.W.isFn K (.ref f)=true
 kp:ck K (.ref f)=true
section
variable {X:Cx}{pins:List (Addr×Obj)}{σ:St}{H:Hp}{s:Shared}{a C dx:Addr}{fs:List (Str×V)}{f:Str}{v:V}{A:Around}{E:Value->Shared->Prop}
end
section
variable {X:Cx}{o e value:Expr}{f:Str}{pos pos' tpos:Pos}{ta tv:TE}
end
section
variable {X:Cx}{pins:List (Addr×Obj)}{σ:St}{H:Hp}{s:Shared}{A:Around}{E:Value->Shared->Prop}{Q:Value->Shared->Prop}{c:Value}{b:Bool}
inductive lq (K:ak) (H:Hp):V->Value->Prop where
 | non:lq K H .non (.type "NoneType")
 | bl (x:Bool):lq K H (.bl x) (.type "bool")
 | int (i:Int):lq K H (.int i) (.type "int")
 | str (x:Str):lq K H (.str x) (.type "str")
 | flt (x:UInt64):lq K H (.flt x) (.type "float")
 | lst {a:Addr}{xs:List V} (e:H a=some (.lst xs)):lq K H (.ref a) (.type "list")
 | frz {a:Addr}{o:Obj}{xs:List V} (e:H a=some (.frz o (.lst xs))):lq K H (.ref a) (.type "list")
 | tup {a:Addr}{xs:List V} (e:H a=some (.tup xs)):lq K H (.ref a) (.type "tuple")
 | dK {a:Addr}{kvs:List (Key×V)} (e:H a=some (.dK kvs)):lq K H (.ref a) (.type "dict")
 | dT {a:Addr}{kvs:List (List Key×V)} (e:H a=some (.dT kvs)):lq K H (.ref a) (.type "dict")
 | ins {a C dx:Addr}{fs:List (Str×V)} (e:H a=some (.ins C dx fs)) (cl:Cls K C) (ha:iU K (.ref C) "__class__"=some (some (.builtin "object.__class__")))
   (hn:Bx K (.builtin "object.__class__") "__get__"=some (some (.builtin "getset_descriptor.__get__"))) (htk:PySem.W.takesIn K (.builtin "object.__class__")=some true)
   (hm:PySem.W.mroIn K C (.type "object")=some true):lq K H (.ref a) (.ref C)
theorem yw {x:V}{u t:Value} (I:Inv X pins σ H s) (rx:RelV x u) (ty:lq X.K H x t) (e:PySem.W.kitOne X.K t c=some b) (h : ∀ tk,Q (.bool b) { s with toks:=tk }) :
  aI (model X.prog X.w) A (call (.builtin "isinstance") [u,c]) Q E s:=by
 cases ty with
 | non=>cases (show u=eh from rx);exact cq PySem.W.kitx_none I.kIn ek e (fun z=>nomatch z) h
 | bl y=>cases (show u=vf y from rx);exact cq PySem.W.kitx_bool I.kIn ek e (fun z=>nomatch z) h
 | int i=>obtain⟨t,q⟩:=(show ∃ t,u=qo i t from rx);cases q;exact cq PySem.W.kitx_int I.kIn ek e (fun z=>nomatch z) h
 | str y=>obtain⟨t,q⟩:=(show ∃ t,u=qq y t from rx);cases q;exact cq PySem.W.kitx_str I.kIn ek e (fun z=>nomatch z) h
 | flt y=>obtain⟨t,q⟩:=(show ∃ t,u=Value.float y t from rx);cases q;exact cq PySem.W.kitx_float I.kIn ek e (fun z=>nomatch z) h
 | @lst a xs ea=>
   cases (show u=be a from rx)
   obtain⟨_,_,n,_,h1⟩:=(show dz X.prog X.w H s.heap a (.lst xs) from I.hok a _ ea)
   exact cq By I.kIn ⟨_,h1,rfl⟩ e (fun z=>nomatch z) h
 | @frz a ob xs ea=>
   cases (show u=be a from rx)
   obtain⟨_,_,_,n,_,h1⟩:=(show dz X.prog X.w H s.heap a (.frz ob (.lst xs)) from I.hok a _ ea)
   exact cq By I.kIn ⟨_,h1,rfl⟩ e (fun z=>nomatch z) h
 | @tup a xs ea=>
   cases (show u=be a from rx)
   obtain⟨_,_,_,p⟩:=(show dz X.prog X.w H s.heap a (.tup xs) from I.hok a _ ea)
   obtain⟨o,h1,h2,_⟩:=p.1
   exact cq PySem.W.kitx_tuple I.kIn ⟨o,h1,h2⟩ e (fun z=>nomatch z) h
 | @dK a kvs ea=>
   cases (show u=be a from rx)
   obtain⟨_,_,vs,_,p⟩:=(show dz X.prog X.w H s.heap a (.dK kvs) from I.hok a _ ea)
   obtain⟨o,es,ep,h1,h2,_⟩:=p
   exact cq Bz I.kIn ⟨o,h1,h2.1⟩ e (fun z=>nomatch z) h
 | @dT a kvs ea=>
   cases (show u=be a from rx)
   obtain⟨_,_,xs,_,o,es,ep,h1,h2,_⟩:=(show dz X.prog X.w H s.heap a (.dT kvs) from I.hok a _ ea)
   exact cq Bz I.kIn ⟨o,h1,h2.1⟩ e (fun z=>nomatch z) h
 | @ins a C dx fs ea cl ha hn htk hm=>
   cases (show u=be a from rx)
   obtain⟨mA,O,_⟩:=CS I.hok ea
   obtain⟨od,J,_⟩:=O.look
   exact cq (PySem.W.kitx_own (cl.get _) cl.hd ha hn htk hm) I.kIn J e (fun z=>nomatch z) h
end
end L2
namespace L2
open PySem PySem.Spec PyProof.Rows
structure ja (k:Nat) (A:Around):Prop where
 hd:A.handled=none
 dp:A.depth+3*k+5 < recursionLimit
 un:A.units+16*k+200 < cLine
 gu:A.guards=some []
theorem ja.mono {j k:Nat}{A:Around} (r:ja k A) (h:j<=k):ja j A:=⟨r.hd,by have:=r.dp;omega,by have:=r.un;omega,r.gu⟩
theorem ja.deeper {k:Nat}{A:Around} (r:ja (k+1) A) (env:Env):ja k (A.deeper env):=
 ⟨r.hd,by have:=r.dp;show A.depth+1+3*k+5 < _;omega,by have:=r.un;show A.units+3+16*k+200 < _;omega,r.gu⟩
theorem ja.depth {k:Nat}{A:Around} (r:ja k A):A.depth < recursionLimit:=by have:=r.dp;omega
theorem ja.units {k:Nat}{A:Around} (r:ja k A):A.units+64 < cLine:=by have:=r.un;omega
noncomputable def tH:TA:=fun _ H Q=>Q [] H
noncomputable def nq (ta:TE) (tr:TA):TA:=fun σ H Q=>ta σ H fun x H1=>tr σ H1 fun xs H2=>Q (x::xs) H2
section
variable {X:Cx}{e:Expr}{es:List Expr}{te:TE}{t:TA}{pos:Pos}
theorem mT:PA X [] tH:=fun _ _ _ _ H Q I h=>Calls.spliced_nil ⟨[],H,I,.nil,h⟩
theorem jt (ha:PE X e te) (hr:PA X es t) (hs:starEach (e::es) X.env=(false,eval e X.env)::starEach es X.env:=by rfl):PA X (e::es) (nq te t):=by
 intro pos pins s σ H Q I h
 rw [hs]
 show aI _ _ (spliced ((false,eval e X.env)::backTo pos (starEach es X.env))) _ _ s
 refine nN (thn (ha pins s σ H _ I h) fun u s1 ⟨x,H1,I1,r1,q1⟩ => ?_)
 exact thn (hr pos pins s1 σ H1 _ I1 q1) fun us s2 ⟨xs,H2,I2,r2,q2⟩=>⟨x::xs,H2,I2,.cons r1 r2,q2⟩
noncomputable def Hj (t:TA):TE:=fun σ H Q=>t σ H fun xs H1=>xs.length<=sizeLine /\ ∀ p,H1 p=none->Q (.ref p) (upd H1 p (.tup xs))
noncomputable def Ir (t:TA):TE:=fun σ H Q=>t σ H fun xs H1=>xs.length<=sizeLine /\ ∀ p,H1 p=none->Q (.ref p) (upd H1 p (.lst xs))
theorem Ge {x1} (h:PA X es t):PE X (.Tuple es x1 pos) (Hj t):=by
 intro pins s σ H Q I hq
 refine wpAny_Tuple_spliced (thn (h pos pins s σ H _ I hq) fun us s1 ⟨xs,H1,I1,r,z,q⟩=>⟨by rw [<- r.length];exact z,?_⟩)
 have hf:H1 s1.heap.objs.size=none:=I1.hok.fresh (aj _)
 refine⟨.ref s1.heap.objs.size,upd H1 s1.heap.objs.size (.tup xs),I1.laid (t':=s1.toks) (fun b u e=>af _ e) (aj _) ?_,rfl,q _ hf⟩
 exact⟨z,us,r,⟨_,ay _ rfl,rfl,_,rfl⟩,_,ay _ rfl,rfl⟩
theorem FY (h:PA X es t):PE X (.List es pos) (Ir t):=by
 intro pins s σ H Q I hq
 refine wpAny_List_spliced (thn (h pos pins s σ H _ I hq) fun us s1 ⟨xs,H1,I1,r,z,q⟩=>⟨by rw [<- r.length];exact z,?_⟩)
 have hf:H1 s1.heap.objs.size=none:=I1.hok.fresh (aj _)
 refine⟨.ref s1.heap.objs.size,upd H1 s1.heap.objs.size (.lst xs),I1.laid (t':=s1.toks) (fun b u e=>af _ e) (aj _) ?_,rfl,q _ hf⟩
 exact⟨z,us,0,r,ay _ rfl⟩
end
abbrev Sp:=List V->Hp->VK->XK->Prop
abbrev CXT:=List Env->Hp->Shared->XK->Value->Shared->Prop
structure xP (P:Program) (w:World) (K:ak) (mg:Str->Option Value) (base:Heap) (A:Around) (outer:List Env) (s:Shared) (H:Hp):Prop where
 frames:A.frames=some outer
 mod:Mod K mg base
 bs : ∀ b o,base.get? b=some o->s.heap.get? b=some o/\H b=none
 bsz:base.objs.size<=s.heap.objs.size
 funs:s.heap.FunFrames base outer
 frf : ∀ b∈frs outer,H b=none
 hok:HOk P w H s.heap
 bare:AllBare s.gens
noncomputable def CE (outer:List Env) (P:Program) (w:World) (H:Hp) (s:Shared) (Q:VK) (u:Value) (s':Shared):Prop:=
 ∃ v H',s'.os=s.os/\AllBare s'.gens/\Un (frs outer) [] H H' s.heap s'.heap/\HOk P w H' s'.heap/\RelV v u/\Q v H'
noncomputable def CR (CX:CXT) (outer:List Env) (P:Program) (w:World) (H:Hp) (s:Shared) (Q:VK) (E:XK) (r:Result) (s':Shared):Prop:=
 match r with
 | .ok (.ret u)=>CE outer P w H s Q u s'
 | .ok _=>False
 | .error e=>CX outer H s E e s'
structure kL (P:Program) (w:World) (K:ak) (mg:Str->Option Value) (base:Heap) (CX:CXT) (k:Nat) (f:Addr) (fd:FuncData) (ps:List Str) (sp:Sp):Prop where
 len : ∀ vs H Q E,sp vs H Q E->vs.length=ps.length
 run : ∀ (A:Around) (outer:List Env) (s:Shared) (H:Hp) (args:Args) (us:List Value) (vs:List V) (Q:VK) (E:XK),ja k A->xP P w K mg base A outer s H->BindsTo s fd args (ps.zip us)->bP vs us->sp vs H Q E ->
  pS (model P w) A (.call (.ref f) args) (CR CX outer P w H s Q E) s
section
variable {X:Cx}{pins:List (Addr×Obj)}{σ:St}{H:Hp}{s s':Shared}
theorem Inv.env0 (I:Inv X pins σ H s):xP X.prog X.w X.K X.mg X.base X.A X.stack s H:=
 ⟨I.ok.frames,I.ok.mod,I.bs,br I.ok.bsz I.sz,I.stack,I.stkFree,I.hok,I.bare⟩
theorem Inv.after {Q:VK}{u:Value} (I:Inv X pins σ H s) (h:CE X.stack X.prog X.w H s Q u s'):EP X pins σ Q u s':=by
 obtain⟨v,H',os,bare,un,hok,r,q⟩:=h
 obtain⟨hh,g,d,t,os'⟩:=s'
 obtain rfl:os'=s.os:=os
 exact⟨v,H',I.call (h':=hh) (g':=g) (d':=d) (t':=t) (ch := []) un hok bare (fun b z=>absurd z (by simp)),r,q⟩
end
noncomputable def xn (sp:Sp) (dvs:List V) (E:XK) (t:TA):TE:=fun σ H Q=>t σ H fun vs H1=>sp (vs++dvs) H1 Q E
noncomputable def Binds (K:ak) (fd:FuncData) (ps:List Str) (ds:List Value):Prop:=
 ∀ (s:Shared) (us:List Value),K.In s.heap->(us++ds).length=ps.length->BindsTo s fd ⟨us,[]⟩ (ps.zip (us++ds))
theorem Binds.all {K:ak}{fd:FuncData}{ps:List Str} (h : ∀ us:List Value,us.length=ps.length->bindArgs fd ⟨us,[]⟩=pure (ps.zip us)):Binds K fd ps []:=fun s us _ hl=>by
 rw [iM] at hl ⊢
 exact .of_eq (h us hl)
noncomputable def sh (CX:CXT) (X:Cx) (E:XK):Prop := ∀ (pins:List (Addr×Obj)) (σ:St) (H:Hp) (s:Shared) (e:Value) (s':Shared),Inv X pins σ H s->CX X.stack H s E e s'->X.xe e s'
section
variable {X:Cx}{CX:CXT}{k:Nat}{f C:Addr}{fd:FuncData}{ps:List Str}{sp:Sp}{dvs:List V}{ds:List Value}{E:XK}{x m:Str}{p pos apos:Pos}{e o:Expr}{es:List Expr}{ta:TE}{t:TA}
theorem su {pins:List (Addr×Obj)}{σ:St}{H:Hp}{s:Shared}{Q:VK}{us:List Value}{vs:List V} (F:kL X.prog X.w X.K X.mg X.base CX k f fd ps sp) (hr:ja k X.A) (hb:Binds X.K fd ps ds) (hd:bP dvs ds) (hx:sh CX X E)
  (I:Inv X pins σ H s) (r:bP vs us) (h:sp (vs++dvs) H Q E):aI (model X.prog X.w) X.A (call (.ref f) us) (EP X pins σ Q) X.xe s:=by
 have r2:bP (vs++dvs) (us++ds):=r.append hd
 have hl:(us++ds).length=ps.length:=by rw [<- r2.length];exact F.len _ _ _ _ h
 refine wpAny_call (jF (F.run X.A X.stack s H ⟨us,[]⟩ (us++ds) (vs++dvs) Q E hr I.env0 (hb s us I.kIn hl) r2 h) fun r s' hq => ?_)
 cases r with
 | error e=>exact hx pins σ H s e s' I hq
 | ok fl=>
   cases fl with
   | ret u=>exact I.after hq
   | next=>exact bZ hq
   | brk=>exact bZ hq
   | cont=>exact bZ hq
theorem Cw (F:kL X.prog X.w X.K X.mg X.base CX k f fd ps sp) (hr:ja k X.A) (hg:Gl X x) (hm:X.mg x=some (.ref f)) (hk:ck X.K (.ref f)=true) (hb:Binds X.K fd ps ds) (hd:bP dvs ds) (hx:sh CX X E)
  (ha:PA X (e::es) t) (hdb:(x == ("__debug__":Str))=false:=by decide) (he:starEach (e::es) X.env=(false,eval e X.env)::starEach es X.env:=by rfl) (hpl:(backTo pos (starEach es X.env)).any (·.1)=false:=by rfl) :
  PE X (.Call (.Name x p) (e::es) [] pos) (xn sp dvs E t):=by
 intro pins s σ H Q I h
 refine eQ (nZ I hg hm ?_ hdb)
 refine ni (h₀:=X.base) I.ok.mod.kin hk (thn (ha pos pins s σ H _ I h) fun us s1 ⟨vs,H1,I1,r,q⟩=>⟨I1.kIn,?_⟩) he hpl
 exact su F hr hb hd hx I1 r q
theorem A3 (F:kL X.prog X.w X.K X.mg X.base CX k f fd ps sp) (hr:ja k X.A) (hg:Gl X x) (hm:X.mg x=some (.ref f)) (hk:ck X.K (.ref f)=true) (hb:Binds X.K fd ps ds) (hd:bP dvs ds) (hx:sh CX X E)
  (hdb:(x == ("__debug__":Str))=false:=by decide):PE X (.Call (.Name x p) [] [] pos) (xn sp dvs E tH):=by
 intro pins s σ H Q I h
 refine eQ (nZ I hg hm ?_ hdb)
 exact PySem.W.callWith_K0 I.kIn hk (su (us := []) F hr hb hd hx I .nil h)
structure Mk (K:ak) (C f:Addr):Prop where
 makes:PySem.W.makesIn K C=true
 init:iU K (.ref C) "__init__"=some (some (.ref f))
 fn:PySem.W.isFn K (.ref f)=true
 kp:ck K (.ref C)=true
end
section
variable {X:Cx}{CX:CXT}{k:Nat}{f C:Addr}{fd:FuncData}{ps ks:List Str}{sp:Sp}{E:XK}{x m:Str}{p pos apos kpos:Pos}{e o:Expr}{es:List Expr}{kws:List Keyword}{te ta:TE}{t tk:TA}{nm:Option Str}
structure Ka (K:ak) (fd:FuncData) (ps ks:List Str) (g:List Value->List Value->List Value) (gV:List V->List V->List V):Prop where
 to : ∀ (s:Shared) (us ws:List Value),K.In s.heap->(g us ws).length=ps.length->BindsTo s fd ⟨us,ks.zip ws⟩ (ps.zip (g us ws))
 rel : ∀ {vs:List V}{us:List Value}{zs:List V}{ws:List Value},bP vs us->bP zs ws->bP (gV vs zs) (g us ws)
variable {g:List Value->List Value->List Value}{gV:List V->List V->List V}
end
structure bw (N P:List Str) (sc:Scope):Prop where
 kind:sc.kind = .function
 co:sc.isCoroutine=false
 gen:sc.isGenerator=false
 nd:N.Nodup
 pre:N.take P.length=P
 par : ∀ x∈P,sc.names.lookup x=some .local\/sc.names.lookup x=some .cell
 nofree : ∀ y∈sc.names,y.2 ≠ .free
theorem q8 {kindOf:Str->Option NameKind}{x:Str} : ∀ {binds:List (Str×Value)}{m:Str->Option Value},(∀ v,(x,v)∉binds)->bindL kindOf binds m x=m x
 | [],_,_=>rfl
 | (n,v)::r,m,h=>by
   unfold bindL
   rw [q8 fun w hw=>h w (az _ hw)]
   split
   ·have:x≠n:=by rintro rfl;exact h v aV
    simp [this]
   ·rfl
theorem rh {kindOf:Str->Option NameKind}{x:Str} : ∀ {binds:List (Str×Value)}{m:Str->Option Value},(∀ v,(x,v)∉binds)->bindC kindOf binds m x=m x
 | [],_,_=>rfl
 | (n,v)::r,m,h=>by
   unfold bindC
   rw [rh fun w hw=>h w (az _ hw)]
   split
   ·rfl
   ·have:x≠n:=by rintro rfl;exact h v aV
    simp [this]
theorem mV {kindOf:Str->Option NameKind}{x:Str}{v:Value} : ∀ {P:List Str}{vs:List Value}{i:Nat}{m:Str->Option Value},P.Nodup->P[i]? = some x->vs[i]? = some v->kindOf x=some .local ->
  bindL kindOf (P.zip vs) m x=some v
 | [],_,_,_,_,h,_,_=>by simp at h
 | _::_,[],_,_,_,_,h,_=>by simp at h
 | p::P,w::vs,0,m,nd,h1,h2,hk=>by
   simp at h1 h2;subst h1;subst h2
   show bindL kindOf ((p,w)::P.zip vs) m p=_
   unfold bindL
   rw [q8 fun v hv=>(dq.mp nd).1 (lE hv).1,if_pos hk]
   simp
 | p::P,w::vs,i+1,m,nd,h1,h2,hk=>by
   show bindL kindOf ((p,w)::P.zip vs) m x=_
   unfold bindL
   exact mV (i:=i) (dq.mp nd).2 (by simpa using h1) (by simpa using h2) hk
theorem mQ {kindOf:Str->Option NameKind}{x:Str}{v:Value} : ∀ {P:List Str}{vs:List Value}{i:Nat}{m:Str->Option Value},P.Nodup->P[i]? = some x->vs[i]? = some v->kindOf x≠some .local ->
  bindC kindOf (P.zip vs) m x=some v
 | [],_,_,_,_,h,_,_=>by simp at h
 | _::_,[],_,_,_,_,h,_=>by simp at h
 | p::P,w::vs,0,m,nd,h1,h2,hk=>by
   simp at h1 h2;subst h1;subst h2
   show bindC kindOf ((p,w)::P.zip vs) m p=_
   unfold bindC
   rw [rh fun v hv=>(dq.mp nd).1 (lE hv).1,if_neg hk]
   simp
 | p::P,w::vs,i+1,m,nd,h1,h2,hk=>by
   show bindC kindOf ((p,w)::P.zip vs) m x=_
   unfold bindC
   exact mQ (i:=i) (dq.mp nd).2 (by simpa using h1) (by simpa using h2) hk
noncomputable def start (N:List Str) (vs:List V):St:=vs.map some++aE (N.length - vs.length) none
noncomputable def vI (CX:CXT) (P:Program) (w:World) (K:ak) (mg:Str->Option Value) (base:Heap) (N:List Str) (qual:Str) (scope:Scope) (f:Addr) (cd:Value) (A:Around) (outer:List Env) (s:Shared) (H:Hp) (E:XK):Cx where
 prog:=P
 w:=w
 K:=K
 mg:=mg
 base:=base
 A:=A.deeper (envOfC qual scope s.heap.objs.size f cd)
 N:=N
 s₀:=s
 H₀:=H
 env:=envOfC qual scope s.heap.objs.size f cd
 outer:=outer
 stack:=envOfC qual scope s.heap.objs.size f cd::outer
 ex := []
 calm:=true
 fn:=fun _=>true
 pn := []
 xe:=fun e s'=>aI (model P w) (A.deeper (envOfC qual scope s.heap.objs.size f cd)) (leaving (envOfC qual scope s.heap.objs.size f cd) e) (fun _ s''=>CX outer H s E e s'') (fun e' s''=>CX outer H s E e' s'') s'
theorem ig {sc:Scope}{n:Nat}{x:Str} (h:sc.names.lookup x=some .cell) : ∃ c,(cellsFrom n sc.names []).lookup x=some c:=by
 have q:=fY sc.names n [] (.inl h)
 exact fD.mp q
theorem yf {CX:CXT}{P:Program}{w:World}{K:ak}{mg:Str->Option Value}{base:Heap}{N ps:List Str}{qual:Str}{scope:Scope}{f:Addr}{cd:Value}{A:Around}{outer:List Env}{s s1:Shared}{H:Hp}{E:XK}{us:List Value}{vs:List V}
  (S:bw N ps scope) (hd:A.handled=none) (e0:xP P w K mg base A outer s H) (hl:vs.length=ps.length) (r:bP vs us)
  (x:InCallC s s.heap.objs.size (bindL (envOfC qual scope s.heap.objs.size f cd).kindOf (ps.zip us) fun _=>none) (cellsFrom (s.heap.objs.size+1) scope.names []) (bindC (envOfC qual scope s.heap.objs.size f cd).kindOf (ps.zip us) fun _=>none) s1) :
  Inv (vI CX P w K mg base N qual scope f cd A outer s H E) [] (start N vs) H s1:=by
 have hpl:ps.length<=N.length:=by have:=congrArg s9 S.pre;rw [rj] at this;omega
 obtain⟨h1,tk,rfl,hk⟩:=x.done
 have noA : ∀ b:Addr,b∉(vI CX P w K mg base N qual scope f cd A outer s H E).ex:=fun b z=>absurd (show b∈([]:List Addr) from z) (by simp)
 refine⟨⟨e0.mod,S.kind,rfl,rfl,aj _,fun y z c h1 h2 => ?_,fun y hy => ?_,fun y c _ h => ?_,fun _=>hd,y9 e0.frames,.inr ⟨rfl,rfl⟩,fun b z=>absurd z (noA b),e0.bs,e0.bsz,fun b _ _=>noA b,fun b z=>absurd z (noA b),e0.funs,e0.frf⟩,
  rfl,e0.bare,Un.kept hk,⟨_,x.toInCall.ns,fun i y v h1 h2 h3 => ?_⟩,fun y c h=>⟨_,x.cell y c h⟩,e0.hok.fresh (aj _),fun y c h => ?_,fun p hp=>absurd (show p∈([]:List (Addr×Obj)) from hp) (by simp),e0.hok.kept hk,?_⟩
 ·exact name_of_addr x.apart (bJ h1) (bJ h2)
 ·have hy:scope.names.lookup y=some .cell\/scope.names.lookup y=some .free:=hy
  rcases hy with hy | hy
  ·exact ig hy
  ·exact absurd rfl (S.nofree _ (bJ hy))
 ·exact di (x.above y c (bJ h))
 ·have hi:i < vs.length:=by
   unfold start at h2
   by_cases hi:i < vs.length
   ·exact hi
   ·rw [av (by simpa using hi)] at h2
    rw [fZ] at h2
    split at h2 <;> cases h2
  have ha:vs[i]? = some v:=by
   unfold start at h2
   rw [aM (by simpa using hi),bo] at h2
   cases e:vs[i]? with
   | none=>rw [e] at h2;cases h2
   | some a=>rw [e] at h2;cases h2;rfl
  obtain⟨u,hu,rv⟩:=r.get ha
  have hp:ps[i]? = some y:=by
   rw [<- S.pre,List.getElem?_take_of_lt (by omega)];exact h1
  have ndP:ps.Nodup:=by rw [<- S.pre];exact S.nd.sublist (List.take_sublist _ _)
  refine⟨u,rv,?_⟩
  rcases S.par y (bL hp) with k | k
  ·exact .inl ⟨k,mV ndP hp hu k⟩
  ·obtain⟨c,e⟩:=ig (n:=s.heap.objs.size+1) k
   refine .inr ⟨.inl k,c,e,?_⟩
   have q:=x.cell y c e
   rw [mQ ndP hp hu (by show scope.names.lookup y≠_;rw [k];decide)] at q
   exact q
 ·exact e0.hok.fresh (di (x.above y c (bJ h)))
 ·unfold start
  show _=N.length
  rw [bE,aq,lL]
  omega
theorem wJ {CX:CXT}{P:Program}{w:World}{K:ak}{mg:Str->Option Value}{base:Heap}{k:Nat}{f:Addr}{name qual:Str}{params:Arguments}{body:List Stmt}{scope:Scope}{dV kV doc pm cdv ct oc:Value}{an od:Option Addr}
  {osl:Array (Option Value)}{N ps:List Str}{sp:Sp} (lk:K.lookup f=some ⟨oc,od,.func (cu name qual params body scope dV kV doc pm an cdv ct),osl⟩) (hcd:gc K cdv qual=true) (S:bw N ps scope)
  (len : ∀ vs H Q E,sp vs H Q E->vs.length=ps.length)
  (hbody : ∀ (A:Around) (outer:List Env) (s:Shared) (H:Hp) (vs:List V) (Q:VK) (E:XK),ja k (A.deeper (envOfC qual scope s.heap.objs.size f cdv))->sp vs H Q E ->
   ∃ t,PSs (vI CX P w K mg base N qual scope f cdv A outer s H E) body t/\t { nx:=fun _ H'=>Q .non H',rt:=Q } (start N vs) H) :
  kL P w K mg base CX (k+1) f (cu name qual params body scope dV kV doc pm an cdv ct) ps sp:=by
 refine⟨len,fun A outer s H args us vs Q E hr e0 hb r hsp => ?_⟩
 have hl:=len _ _ _ _ hsp
 have KX:K.In s.heap:=e0.mod.kin.keeps fun b o e=>(e0.bs b o e).1
 have lim:s.heap.NoLimit:=e0.mod.nolimit.keeps fun b o e=>(e0.bs b o e).1
 have hkind : ∀ y∈ps.zip us,scope.names.lookup y.1=some .local\/(scope.names.lookup y.1=some .cell/\((cellsFrom (s.heap.objs.size+1) scope.names []).lookup y.1).isSome=true):=fun⟨n,v⟩ hy=>by
  rcases S.par n (lE hy).1 with q | q
  ·exact .inl q
  ·exact .inr ⟨q,fY _ _ _ (.inl q)⟩
 refine codeAny_call_function hr.depth (KX _ _ lk) rfl S.co S.gen rfl (PySem.W.codeRec_of KX hcd) (hb _ _ _ _ ?_)
 refine wpAny_newFunctionEnv_cells S.kind hkind fun env he s1 x => ?_
 subst he
 refine⟨lim.keeps x.toInCall.keep,codeAny_func ?_⟩
 obtain⟨t,ht,hq⟩:=hbody A outer s H vs Q E (hr.deeper _) hsp
 have I:Inv (vI CX P w K mg base N qual scope f cdv A outer s H E) [] (start N vs) H s1:=yf S hr.hd e0 hl r x
 refine cf (ht [] s1 (start N vs) H _ I hq) (fun fl s' hs => ?_) fun e s' hs=>hs
 have fin : ∀ {σ':St}{H':Hp}{v:V}{u:Value},Inv (vI CX P w K mg base N qual scope f cdv A outer s H E) [] σ' H' s'->RelV v u->Q v H'->CE outer P w H s Q u s':=
  fun {σ' H' v u} J rv q=>⟨v,H',J.os,J.bare,J.base,J.hok,rv,q⟩
 cases fl with
 | ret u=>
   obtain⟨v,σ',H',J,rv,q⟩:=hs
   exact fin J rv q
 | next=>
   obtain⟨σ',H',J,q⟩:=hs
   exact fin (v:=V.non) (u:=eh) J rfl q
 | brk=>
   obtain⟨_,_,_,q⟩:=hs
   exact bZ q
 | cont=>
   obtain⟨_,_,_,q⟩:=hs
   exact bZ q
end L2
namespace L2
open PySem PySem.Spec PyProof.Rows
section
variable {X:Cx}{x:Str}{p pos:Pos}{e:Expr}{es:List Expr}{t:TA}{id T:String}{r:List V->Hp->VK->Prop}
noncomputable def tCB (r:List V->Hp->VK->Prop) (t:TA):TE:=fun σ H Q=>t σ H fun vs H1=>r vs H1 Q
theorem i6 (hc:fN X (.builtin id) r) (hg:Gl X x) (hm:X.mg x=none) (hv:bootBuiltins x=some (.builtin id)) (ha:PA X (e::es) t) (hn:x≠"__name__":=by decide) (hdb:(x == ("__debug__":Str))=false:=by decide)
  (he:starEach (e::es) X.env=(false,eval e X.env)::starEach es X.env:=by rfl) (hpl:(backTo pos (starEach es X.env)).any (·.1)=false:=by rfl):PE X (.Call (.Name x p) (e::es) [] pos) (tCB r t):=by
 intro pins s σ H Q I h
 refine eQ (j5 I hg hm hv ?_ hn hdb)
 exact PyProof.Rows.callWith_builtin1 (thn (ha pos pins s σ H _ I h) fun us s1 ⟨vs,H1,I1,r1,q1⟩=>hc pins s1 σ H1 vs us Q I1 r1 q1) he hpl
theorem iZ (hc:fN X (.type T) r) (hg:Gl X x) (hm:X.mg x=none) (hv:bootBuiltins x=some (.type T)) (ha:PA X (e::es) t) (hn:x≠"__name__":=by decide) (hdb:(x == ("__debug__":Str))=false:=by decide)
  (he:starEach (e::es) X.env=(false,eval e X.env)::starEach es X.env:=by rfl) (hpl:(backTo pos (starEach es X.env)).any (·.1)=false:=by rfl):PE X (.Call (.Name x p) (e::es) [] pos) (tCB r t):=by
 intro pins s σ H Q I h
 refine eQ (j5 I hg hm hv ?_ hn hdb)
 exact cn (thn (ha pos pins s σ H _ I h) fun us s1 ⟨vs,H1,I1,r1,q1⟩=>hc pins s1 σ H1 vs us Q I1 r1 q1) he hpl
end
end L2
namespace HT
open PySem PyProof.Rows
section
open PySem.SeqAt
open PySem.AutoSeq1 (wpAny_loadPart')
open PySem.MeetsSeq PySem.MeetsSeq2 PySem.MeetsSeq3
end
section
variable {prog:Program}{w:World}{A:Around}{E:Value->Shared->Prop}{s:Shared}
theorem cat_tup {t b:Addr}{vs ws:List Value}{Q:Value->Shared->Prop} (ht:IsTup s.heap t vs.toArray) (hb:IsTup s.heap b ws.toArray) (hv:vs ≠ [])
  (h1:ws = []->Q (.ref t) s) (h2:ws ≠ []->Q (.ref s.heap.objs.size) { s with heap:=s.heap.push { cls := .type "tuple",data := .seq (vs++ws).toArray } })
  (hsz:vs.length+ws.length<=sizeLine):aI (model prog w) A (binaryOp .Add (.ref t) (.ref b)) Q E s:=by
 obtain⟨⟨cls,dd,data,sl⟩,ho,hc,n,hd⟩:=id ht
 obtain⟨⟨cls2,dd2,data2,sl2⟩,ho2,hc2,n2,hd2⟩:=id hb
 simp only at hc hd hc2 hd2
 subst hc hd hc2 hd2
 have e:vs.toArray++ws.toArray=(vs++ws).toArray:=by simp
 by_cases hw:ws = []
 ·exact concat_meets ⟨_,ho,rfl⟩ ⟨_,ho2,rfl⟩ noFill_tuple_add seq_tuple_add km jG (jy _ _)
   (tuple_addW1 t b vs.toArray ws.toArray n n2 dd dd2 sl sl2 (by simpa using hv) (by simp [hw])) ⟨ho,ho2,h1 hw⟩
 ·refine concat_meets ⟨_,ho,rfl⟩ ⟨_,ho2,rfl⟩ noFill_tuple_add seq_tuple_add km jG (jy _ _)
   (tuple_addW2 t b vs.toArray ws.toArray n n2 dd dd2 sl sl2 (by simpa using hv) (by simpa using hw) (by rw [aC,aC];exact hsz)) ⟨ho,ho2,?_⟩
  rw [e]
  exact h2 hw
end
end HT
namespace L2
open PySem PySem.Spec PyProof.Rows
abbrev TO:=St->Hp->(Option Int->Hp->Prop)->Prop
section
variable {X:Cx}{e:Expr}{te:TE}{lo hi:Option Expr}{tl th:TO}{pos p2:Pos}
noncomputable def DA (K:ak):R2:=fun x y H Q => ∃ a b xs ys,x = .ref a/\y = .ref b/\SqT K H a xs/\SqT K H b ys/\xs ≠ []/\xs.length+ys.length<=sizeLine /\
 (ys = []->Q (.ref a) H)/\(ys ≠ [] -> ∀ p,H p=none->Q (.ref p) (upd H p (.tup (xs++ys))))
theorem bP.nil_iff {xs:List V}{us:List Value} (r:bP xs us):us = []↔xs = []:=by
 cases r with
 | nil=>simp
 | cons _ _=>simp
theorem Cv:OpR X (binaryOp .Add) (DA X.K):=by
 intro pins s σ H x y v u Q I rx ry h
 obtain⟨a,b,xs,ys,rfl,rfl,ha,hb,hx,hz,q1,q2⟩:=h
 cases rx
 cases ry
 obtain⟨its,r1,p1,_⟩:=I.tuple ha
 obtain⟨its2,r2,p2,_⟩:=I.tuple hb
 refine HT.cat_tup p1 p2 (fun z=>hx (r1.nil_iff.mp z)) (fun z=>⟨.ref a,H,I,rfl,q1 (r2.nil_iff.mp z)⟩) (fun z => ?_) (by rw [<- r1.length,<- r2.length];exact hz)
 refine⟨.ref s.heap.objs.size,_,I.laid (t':=s.toks) (o := .tup (xs++ys)) (fun b ob q=>af _ q) (aj _) ?_,rfl,q2 (fun w=>z (r2.nil_iff.mpr w)) _ (I.hok.fresh (aj _))⟩
 exact⟨by rw [bE];exact hz,_,r1.append r2,qu _ _,_,ay _ rfl,rfl⟩
end
end L2
namespace L2
open PySem PySem.Spec PyProof.Rows
noncomputable def ixN (n:Nat) (i:Int):Option Nat:=if 0<=i then (if i < n then some i.toNat else none) else if -(n:Int)<=i then some (i+n).toNat else none
noncomputable def atI {α:Type} (xs:List α) (i:Int):Option α:=(ixN xs.length i).bind fun j=>xs[j]?
theorem wu {n:Nat}{i:Int}{j:Nat} (h:ixN n i=some j):seqIndex? i n=some j/\j < n /\ -(n:Int)<=i/\i < n:=by
 unfold ixN at h
 by_cases h0:0<=i
 ·rw [if_pos h0] at h
  by_cases h1:i < n
  ·rw [if_pos h1] at h
   have e:i.toNat=j:=bB h
   exact⟨by rw [seqIndex_of h0 h1,e],by omega,by omega,h1⟩
  ·rw [if_neg h1] at h;cases h
 ·rw [if_neg h0] at h
  by_cases h1 : -(n:Int)<=i
  ·rw [if_pos h1] at h
   have e:(i+n).toNat=j:=bB h
   exact⟨by rw [seqIndex_neg (by omega) h1,e],by omega,h1,by omega⟩
  ·rw [if_neg h1] at h;cases h
theorem sX {α:Type}{xs:List α}{i:Int}{v:α} (h:atI xs i=some v) : ∃ j,seqIndex? i xs.length=some j/\xs[j]? = some v/\j < xs.length /\ -(xs.length:Int)<=i/\i < xs.length:=by
 unfold atI at h
 cases e:ixN xs.length i with
 | none=>rw [e] at h;cases h
 | some j=>
   rw [e] at h
   obtain⟨h1,h2,h3,h4⟩:=wu e
   exact⟨j,h1,h,h2,h3,h4⟩
noncomputable def sU (b:Expr):Prop := ∀ o i,subscripted b false o i=operate [o,i] (getItem o i)
noncomputable def IxR (X:Cx) (r:R2):Prop:=
 ∀ (value slice:Expr) (pins:List (Addr×Obj)) (s:Shared) (σ:St) (H:Hp) (x y:V) (v u:Value) (Q:VK),Inv X pins σ H s->RelV x v->RelV y u->r x y H Q ->
  subscripted slice false v u=operate [v,u] (getItem v u)->aI (model X.prog X.w) X.A (subscriptTail value slice v u) (EP X pins σ Q) X.xe s
noncomputable def MtR (X:Cx) (id:String) (r:V->List V->Hp->VK->Prop):Prop:=
 ∀ (pins:List (Addr×Obj)) (s:Shared) (σ:St) (H:Hp) (x:V) (xs:List V) (v:Value) (us:List Value) (Q:VK),Inv X pins σ H s->RelV x v->bP xs us->r x xs H Q ->
  aI (model X.prog X.w) X.A (call (.builtin id) (v::us)) (EP X pins σ Q) X.xe s
section
variable {X:Cx}{a b:Expr}{ta tb:TE}{pos:Pos}
theorem IxR.or {r r':R2} (h:IxR X r) (h':IxR X r'):IxR X (fun x y H Q=>r x y H Q\/r' x y H Q):=by
 intro value slice pins s σ H x y v u Q I rx ry q hs
 rcases q with q | q
 ·exact h value slice pins s σ H x y v u Q I rx ry q hs
 ·exact h' value slice pins s σ H x y v u Q I rx ry q hs
theorem Ha {r:R2} (hr:IxR X r) (ha:PE X a ta) (hb:PE X b tb) (hs:sU b):PE X (.Subscript a b pos) (tOp r ta tb):=by
 intro pins s σ H Q I h
 exact Subscript_ (E3 ha hb I h fun v u s2 x y H2 I2 rx ry q=>hr a b pins s2 σ H2 x y v u Q I2 rx ry q (hs _ _))
noncomputable def HY (K:ak):R2:=fun x y H Q => ∃ p xs i v,x = .ref p/\y = .int i/\SqL K H p xs/\atI xs i=some v/\Q v H
noncomputable def IV (K:ak):R2:=fun x y H Q => ∃ p xs i v,x = .ref p/\y = .int i/\SqT K H p xs/\atI xs i=some v/\Q v H
noncomputable def Ht:R2:=fun x y H Q => ∃ z i c,x = .str z/\y = .int i/\z.length<=sizeLine/\atI z.cps.toList i=some c/\Q (.str ⟨#[c]⟩) H
theorem BU:IxR X (HY X.K):=by
 intro value slice pins s σ H x y v u Q I rx ry h hs
 obtain⟨p,xs,i,z,rfl,rfl,hq,he,q⟩:=h
 cases rx
 obtain⟨t,rfl⟩:=ry
 obtain⟨its,r,pl,hz⟩:=I.list hq
 obtain⟨j,h1,h2,h3,h4,h5⟩:=sX he
 obtain⟨w,ew,rw'⟩:=r.get h2
 have hl:=r.length
 have hn:=oV
 have fin:EP X pins σ Q w s:=⟨z,H,I,rw',q⟩
 by_cases h0:0<=i
 ·have hj:i.toNat=j:=by
   rw [seqIndex_of h0 h5] at h1
   exact bB h1
  exact item_listR pl.isList h0 (by omega) (by rw [hj];simpa using ew) fin hs
 ·have hj:(i+(its.toArray.size:Int)).toNat=j:=by
   rw [seqIndex_neg (by omega) h4] at h1
   rw [aC,<- hl]
   exact bB h1
  exact subscriptTail_builtinR (x:=w) pl.isList.typeIs slot_list_getitem.lookup
   (wpAny_getItem_list_neg (Q:=fun r s'=>r=w/\EP X pins σ Q r s') pl.isList (by omega) (by rw [aC] <;> omega) (by omega) (by rw [hj];simpa using ew) ⟨rfl,fin⟩) hs
theorem Fo:IxR X (IV X.K):=by
 intro value slice pins s σ H x y v u Q I rx ry h hs
 obtain⟨p,xs,i,z,rfl,rfl,hq,he,q⟩:=h
 cases rx
 obtain⟨t,rfl⟩:=ry
 obtain⟨its,r,pl,hz⟩:=I.tuple hq
 obtain⟨j,h1,h2,h3,h4,h5⟩:=sX he
 obtain⟨w,ew,rw'⟩:=r.get h2
 have hl:=r.length
 have hn:=oV
 have fin:EP X pins σ Q w s:=⟨z,H,I,rw',q⟩
 exact subscriptTail_builtinR (x:=w) pl.typeIs slot_tuple_getitem.lookup
  (getItem_tuple (j:=j) (Q:=fun r s'=>r=w/\EP X pins σ Q r s') pl (by omega) (by omega) (by rw [aC,<- hl];exact h1) (by simpa using ew) ⟨rfl,fin⟩) hs
theorem Fi:IxR X Ht:=by
 intro value slice pins s σ H x y v u Q I rx ry h hs
 obtain⟨z,i,c,rfl,rfl,hz,he,q⟩:=h
 obtain⟨t,rfl⟩:=rx
 obtain⟨t',rfl⟩:=ry
 obtain⟨j,h1,h2,h3,h4,h5⟩:=sX he
 have hl:z.cps.toList.length=z.length:=by simp [Str.length]
 rw [hl] at h1 h4 h5
 have hn:=oV
 exact tail_any (typeIs_str s z t) slot_str_getitem.lookup (getItem_str (c:=c) (by
  have e1:decide (i < -(2 ^ 63:Int))=false:=decide_eq_false (by omega)
  have e2:decide (i >= 2 ^ 63)=false:=decide_eq_false (by omega)
  rw [e1,e2,Bool.or_false]) (by rw [h1];simpa using h2) ⟨.str ⟨#[c]⟩,H,I.tok _,⟨_,rfl⟩,q⟩) hs
noncomputable def rIx (K:ak):R2:=fun x y H Q=>HY K x y H Q\/IV K x y H Q\/Ht x y H Q
theorem Fs:IxR X (rIx X.K):=BU.or (Fo.or Fi)
theorem vS (its:List Value) (n j:Nat) (u:Value):dg (·.setIfInBounds j u) { cls := .type "list",data := .seq its.toArray n }={ cls := .type "list",data := .seq (its.set j u).toArray n }:=by
 simp [dg]
theorem Inv.lst {pins:List (Addr×Obj)}{σ:St}{H:Hp}{s:Shared}{p:Addr}{xs:List V} (I:Inv X pins σ H s) (h:H p=some (.lst xs)) :
  ∃ (its:List Value) (n:Nat),bP xs its/\s.heap.get? p=some { cls := .type "list",data := .seq its.toArray n }/\xs.length<=sizeLine:=by
 obtain⟨z,its,n,r,e⟩:=I.hok p _ h
 exact⟨its,n,r,e,z⟩
theorem Inv.lstUpd {pins:List (Addr×Obj)}{σ:St}{H:Hp}{s:Shared}{p:Addr}{xs ys:List V}{its its':List Value}{n n':Nat}{f:Obj->Obj} (I:Inv X pins σ H s) (h:H p=some (.lst xs))
  (ho:s.heap.get? p=some { cls := .type "list",data := .seq its.toArray n }) (hf:f { cls := .type "list",data := .seq its.toArray n }={ cls := .type "list",data := .seq its'.toArray n' }) (r:bP ys its') (hz:ys.length<=sizeLine) (t:Nat) :
  Inv X pins σ (upd H p (.lst ys)) { s with heap:=s.heap.update p f,toks:=t }:=by
 have e:(s.heap.update p f).get? p=some { cls := .type "list",data := .seq its'.toArray n' }:=by
  rw [eO f ho (by rw [hf] <;> rfl),hf]
 refine I.write (x:=p) (e:=p) (by rw [h];trivial) (.inl rfl) (fun b u hb q=>(cN _ _ (dH hb)).trans q) ⟨_,e⟩ ?_
 exact⟨hz,its',n',r,e⟩
noncomputable def DK:V->V->V->Hp->(Hp->Prop)->Prop:=fun o i v H Q => ∃ p xs k j,o = .ref p/\i = .int k/\H p=some (.lst xs)/\ixN xs.length k=some j/\Q (upd H p (.lst (xs.set j v)))
theorem set_list:FT X DK:=by
 intro pins s σ H o i v ov iv u Q I ro ri rv h
 obtain⟨p,xs,k,j,rfl,rfl,hp,hj,q⟩:=h
 cases ro
 obtain⟨t,rfl⟩:=ri
 obtain⟨its,n,r,ho,hz⟩:=I.lst hp
 obtain⟨h1,h2,h3,h4⟩:=wu hj
 have hl:=r.length
 have hn:=oV
 have I':Inv X pins σ (upd H p (.lst (xs.set j v))) { s with heap:=s.heap.update p (dg (·.setIfInBounds j u)) }:=
  I.lstUpd hp ho (vS its n j u) (r.set rv j) (by rw [eI];exact hz) s.toks
 by_cases h0:0<=k
 ·have hk:k.toNat=j:=by
   rw [seqIndex_of h0 h4] at h1
   exact bB h1
  exact PySem.W.ki_setAt ho h0 (by omega) (by rw [aC,<- hl];exact h4) (by rw [hk];exact⟨_,I',q⟩)
 ·have hk:(k+(its.toArray.size:Int)).toNat=j:=by
   rw [seqIndex_neg (by omega) h3] at h1
   rw [aC,<- hl]
   exact bB h1
  exact PySem.W.ki_setBack ho (by omega) (by rw [aC,<- hl];exact h3) (by omega) (by rw [hk];exact⟨_,I',q⟩)
noncomputable def kR:V->Bool
 | .non=>true
 | .bl _=>true
 | .int _=>true
 | .str _=>true
 | _=>false
noncomputable def eqV:V->V->Bool
 | .non,.non=>true
 | .bl a,.bl b=>a == b
 | .bl a,.int b=>(if a then 1 else 0) == b
 | .int a,.bl b=>a == (if b then 1 else 0)
 | .int a,.int b=>a == b
 | .str a,.str b=>a == b
 | _,_=>false
theorem Gc {A:Around}{s:Shared}{y x:V}{u v:Value} (ry:RelV y u) (rx:RelV x v) (fy:kR y=true) (fx:kR x=true):SeqAt.EqAt A s u v (eqV y x):=by
 cases y with
 | non=>
   cases ry
   cases x with
   | non=>cases rx;exact SeqAt.EqAt.same _
   | bl b=>cases rx;exact SeqAt.EqAt.none_bool b
   | int b=>obtain⟨t,rfl⟩:=rx;exact SeqAt.EqAt.none_int b t
   | str b=>obtain⟨t,rfl⟩:=rx;exact SeqAt.EqAt.none_str b t
   | _=>exact absurd (show false=true from fx) bI
 | bl a=>
   cases ry
   cases x with
   | non=>cases rx;exact SeqAt.EqAt.bool_none a
   | bl b=>cases rx;exact SeqAt.EqAt.bool_bool a b
   | int b=>obtain⟨t,rfl⟩:=rx;exact SeqAt.EqAt.bool_int a b t
   | str b=>obtain⟨t,rfl⟩:=rx;exact SeqAt.EqAt.bool_str a b t
   | _=>exact absurd (show false=true from fx) bI
 | int a=>
   obtain⟨t',rfl⟩:=ry
   cases x with
   | non=>cases rx;exact SeqAt.EqAt.int_none a t'
   | bl b=>cases rx;exact SeqAt.EqAt.int_bool a t' b
   | int b=>obtain⟨t,rfl⟩:=rx;exact SeqAt.EqAt.int_int a t' b t
   | str b=>obtain⟨t,rfl⟩:=rx;exact xA a t' b t
   | _=>exact absurd (show false=true from fx) bI
 | str a=>
   obtain⟨t',rfl⟩:=ry
   cases x with
   | non=>cases rx;exact SeqAt.EqAt.str_none a t'
   | bl b=>cases rx;exact SeqAt.EqAt.str_bool a t' b
   | int b=>obtain⟨t,rfl⟩:=rx;exact xB a t' b t
   | str b=>obtain⟨t,rfl⟩:=rx;exact SeqAt.EqAt.str_str a t' b t
   | _=>exact absurd (show false=true from fx) bI
 | _=>exact absurd (show false=true from fy) bI
noncomputable def eqU (x:V) (u:Value):Bool:=match u with
 | .none=>eqV .non x
 | .bool b=>eqV (.bl b) x
 | .int i _=>eqV (.int i) x
 | .str z _=>eqV (.str z) x
 | _=>false
theorem zl {x y:V}{u:Value} (r:RelV y u) (f:kR y=true):eqU x u=eqV y x:=by
 cases y with
 | non=>cases r;rfl
 | bl b=>cases r;rfl
 | int i=>obtain⟨t,rfl⟩:=r;rfl
 | str z=>obtain⟨t,rfl⟩:=r;rfl
 | _=>exact absurd (show false=true from f) bI
theorem rO {x:V} : ∀ {xs:List V}{us:List Value},bP xs us->xs.all kR=true->us.any (eqU x)=xs.any fun y=>eqV y x
 | _,_,.nil,_=>rfl
 | y::xs,u::us,.cons r t,f=>by
   rw [bT,aB] at f
   rw [eN,eN,zl r f.1,rO t f.2]
theorem oY {A:Around}{s:Shared}{x:V}{v:Value} (rx:RelV x v) (fx:kR x=true) : ∀ {xs:List V}{us:List Value},bP xs us->xs.all kR=true -> ∀ u∈us,SeqAt.EqAt A s u v (eqU x u)
 | _,_,.nil,_=>fun u hu=>by cases hu
 | y::xs,u::us,.cons r t,f=>fun u' hu=>by
   rw [bT,aB] at f
   rcases aG.mp hu with rfl | hu
   ·rw [zl r f.1];exact Gc r rx f.1 fx
   ·exact oY rx fx t f.2 u' hu
noncomputable def inV (x:V) (xs:List V):Bool:=xs.any fun y=>eqV y x
noncomputable def rIn (K:ak) (neg:Bool):R2:=fun x y H Q => ∃ p xs,y = .ref p/\(SqL K H p xs\/SqT K H p xs)/\kR x=true/\xs.all kR=true/\Q (.bl (if neg then !inV x xs else inV x xs)) H
theorem rN:OpR X (compareOp .NotIn) (rIn X.K true):=by
 intro pins s σ H x y v u Q I rx ry h
 obtain⟨p,xs,rfl,hq,fx,fs,q⟩:=h
 cases ry
 rcases hq with hq | hq
 ·obtain⟨its,r,pl,hz⟩:=I.list hq
  refine SeqAt.notIn_listAt (eqU x) pl.isList (fun w hw=>oY rx fx r fs w (by simpa using hw)) ⟨.bl _,H,I,rfl,?_⟩
  rw [show its.toArray.any (eqU x)=its.any (eqU x) by simp,rO r fs]
  exact q
 ·obtain⟨its,r,pl,hz⟩:=I.tuple hq
  refine SeqAt.notIn_tupleAt (eqU x) pl (fun w hw=>oY rx fx r fs w (by simpa using hw)) ⟨.bl _,H,I,rfl,?_⟩
  rw [show its.toArray.any (eqU x)=its.any (eqU x) by simp,rO r fs]
  exact q
theorem sQ:fN X (.builtin "len") (fun xs H Q => ∃ p ys,xs = [.ref p]/\(SqL X.K H p ys\/SqT X.K H p ys)/\Q (.int ys.length) H):=by
 intro pins s σ H xs us Q I r h
 obtain⟨p,ys,rfl,hq,q⟩:=h
 obtain⟨u,rfl,rx⟩:=vals1 r
 cases rx
 have hn:=oV
 rcases hq with hq | hq
 ·obtain⟨its,r',pl,hz⟩:=I.list hq
  have hlen:=r'.length
  exact Calls.call_len_list pl.isList (by simp only [aC] <;> omega) ⟨.int ys.length,H,I.tok _,⟨s.toks+1,by rw [aC,hlen]⟩,q⟩
 ·obtain⟨its,r',pl,hz⟩:=I.tuple hq
  have hlen:=r'.length
  exact len_tuple pl (by simp only [aC] <;> omega) ⟨.int ys.length,H,I.tok _,⟨s.toks+1,by rw [aC,hlen]⟩,q⟩
theorem fN.or {f:Value}{r r':List V->Hp->VK->Prop} (h:fN X f r) (h':fN X f r'):fN X f (fun xs H Q=>r xs H Q\/r' xs H Q):=by
 intro pins s σ H xs us Q I rs q
 rcases q with q | q
 ·exact h pins s σ H xs us Q I rs q
 ·exact h' pins s σ H xs us Q I rs q
theorem qi:fN X (.type "tuple") (fun xs H Q => ∃ p ys,xs = [.ref p]/\((SqL X.K H p ys /\ ∀ l,H l=none->Q (.ref l) (upd H l (.tup ys)))\/(SqT X.K H p ys/\Q (.ref p) H))):=by
 intro pins s σ H xs us Q I r h
 obtain⟨p,ys,rfl,h⟩:=h
 obtain⟨u,rfl,rx⟩:=vals1 r
 cases rx
 rcases h with⟨hq,q⟩ | ⟨hq,q⟩
 ·obtain⟨its,r',pl,hz⟩:=I.list hq
  have hlen:=r'.length
  refine call_tuple_list pl.isList (fun h' kp => ?_) (by simp only [aC] <;> omega)
  have I1:Inv X pins σ H { s with heap:=h' }:=I.kept (t':=s.toks) kp
  have I2:Inv X pins σ (upd H h'.objs.size (.tup ys)) { s with heap:=h'.push { cls := .type "tuple",data := .seq its.toArray } }:=
   I1.laid (t':=s.toks) (fun b o e=>af _ e) (aj _) (show dz X.prog X.w _ _ _ (.tup ys) from⟨hz,its,r',qu _ _,_,ay _ rfl,rfl⟩)
  exact⟨.ref h'.objs.size,_,I2,rfl,q _ (I1.hok.fresh (aj _))⟩
 ·obtain⟨its,r',pl,hz⟩:=I.tuple hq
  exact call_tuple_same pl ⟨.ref p,H,I,rfl,q⟩
noncomputable def tyV (K:ak) (T:String) (x:V) (H:Hp):Prop:=match x with
 | .str _=>T="str"
 | .int _=>T="int"
 | .ref p=>(T="list" /\ ∃ xs,SqL K H p xs)\/(T="tuple" /\ ∃ o,K.lookup p=some o/\o.cls = .type "tuple"/\o.dict=none) \/
   (T="dict"/\((∃ kvs,H p=some (.dK kvs)) \/ ∃ kvs,H p=some (.dT kvs)))\/(T="set" /\ ∃ S n,H p=some (.set S n))
 | _=>False
theorem zT {pins:List (Addr×Obj)}{σ:St}{H:Hp}{s:Shared}{T:String}{x:V}{v:Value} (I:Inv X pins σ H s) (r:RelV x v) (ty:tyV X.K T x H) :
  s.TypeIs v T /\ ∀ a,v = .ref a -> ∃ ob,s.heap.get? a=some ob/\ob.dict=none:=by
 cases x with
 | str z=>
   obtain⟨t,rfl⟩:=r
   cases (show T="str" from ty)
   exact⟨typeIs_str s z t,fun _ e=>nomatch e⟩
 | int i=>
   obtain⟨t,rfl⟩:=r
   cases (show T="int" from ty)
   exact⟨typeIs_int s i t,fun _ e=>nomatch e⟩
 | ref p=>
   cases r
   rcases ty with⟨rfl,xs,hq⟩ | ⟨rfl,o,hk,hc,hd⟩ | ⟨rfl,hk⟩ | ⟨rfl,S,n,hk⟩
   ·obtain⟨its,_,pl,_⟩:=I.list hq
    refine⟨pl.isList.typeIs,fun a e => ?_⟩
    cases e
    obtain⟨o,n,e,c,hd,_⟩:=pl
    exact⟨o,e,hd⟩
   ·refine⟨⟨o,I.kIn p o hk,hc⟩,fun a e => ?_⟩
    cases e
    exact⟨o,I.kIn _ o hk,hd⟩
   ·have z : ∃ o,s.heap.get? p=some o/\o.ExactDict:=by
     rcases hk with⟨kvs,hk⟩ | ⟨kvs,hk⟩
     ·obtain⟨_,_,_,_,o,_,_,e,ex,_⟩:=I.hok p _ hk
      exact⟨o,e,ex⟩
     ·obtain⟨_,_,_,_,o,_,_,e,ex,_⟩:=I.hok p _ hk
      exact⟨o,e,ex⟩
    obtain⟨o,e,ex⟩:=z
    refine⟨⟨o,e,ex.1⟩,fun a e2 => ?_⟩
    cases e2
    exact⟨o,e,ex.2.1⟩
   ·obtain⟨o,_,_,_,e,ex,_⟩:=I.hok p _ hk
    refine⟨⟨o,e,ex.1⟩,fun a e2 => ?_⟩
    cases e2
    exact⟨o,e,ex.2.1⟩
 | _=>exact bZ ty
noncomputable def IQ (K:ak) (T:String) (r:V->List V->Hp->VK->Prop) (to:TE):TE:=fun σ H Q=>to σ H fun x H1=>tyV K T x H1/\r x [] H1 Q
noncomputable def tBM (K:ak) (T:String) (r:V->List V->Hp->VK->Prop) (to:TE) (t:TA):TE:=fun σ H Q=>to σ H fun x H1=>tyV K T x H1/\t σ H1 fun xs H2=>r x xs H2 Q
variable {o e:Expr}{es:List Expr}{to:TE}{t:TA}{name:Str}{apos cpos:Pos}{T id:String}{r:V->List V->Hp->VK->Prop}
theorem ES (pa:PlainAttrs T) (slot:Slot T name id) (hty:typeOf (.builtin id)=pure (.type "method_descriptor")) (hm:MtR X id r) (ho:PE X o to)
  (hbase:attributeBase o name X.env (eval o X.env)=eval o X.env:=by rfl) (hline:(apos.endLine == cpos.line)=true:=by rfl):PE X (.Call (.Attribute o name apos) [] [] cpos) (IQ X.K T r to):=by
 intro pins s σ H Q I h
 refine wpAny_Call_method0_late hbase hline (thn (ho pins s σ H _ I h) fun v s1 ⟨x,H1,I1,r1,ty,q1⟩ => ?_)
 obtain⟨h1,h2⟩:=zT I1 r1 ty
 exact⟨T,id,pa,slot,hty,h1,h2,kN rfl (PySem.evalArgs_none (hm pins s1 σ H1 x [] v [] Q I1 r1 .nil q1))⟩
theorem zD (pa:PlainAttrs T) (slot:Slot T name id) (hty:typeOf (.builtin id)=pure (.type "method_descriptor")) (hm:MtR X id r) (ho:PE X o to) (ha:PA X (e::es) t)
  (hbase:attributeBase o name X.env (eval o X.env)=eval o X.env:=by rfl)
  (hfew:((backTo cpos (starEach (e::es) X.env)).all (fun x => !x.1)&&(backToKw cpos (keywordEach [] X.env)).all (fun x=>x.1.isSome)
   && decide ((e::es).length+([]:List Keyword).length+(if ([]:List Keyword).isEmpty then 0 else 1) < 30))=true:=by rfl)
  (hline:(apos.endLine == cpos.line)=true:=by rfl) (hs:starEach (e::es) X.env=(false,eval e X.env)::starEach es X.env:=by rfl) (hplain:(backTo cpos (starEach es X.env)).any (·.1)=false:=by rfl) :
  PE X (.Call (.Attribute o name apos) (e::es) [] cpos) (tBM X.K T r to t):=by
 intro pins s σ H Q I h
 refine wpAny_Call_method_late hbase hfew hline rfl (thn (ho pins s σ H _ I h) fun v s1 ⟨x,H1,I1,r1,ty,q1⟩ => ?_)
 obtain⟨h1,h2⟩:=zT I1 r1 ty
 refine⟨T,id,pa,slot,hty,h1,h2,?_⟩
 have hA:=ha cpos pins s1 σ H1 _ I1 q1
 rw [hs] at hA ⊢
 refine kN (by show (false||(backTo cpos (starEach es X.env)).any (·.1))=false;rw [hplain] <;> rfl) (mK ?_)
 exact thn hA fun us s2 ⟨vs,H2,I2,r2,q2⟩=>hm pins s2 σ H2 x vs v us Q I2 r1 r2 q2
end
end L2
namespace L2
open PySem PySem.Spec PyProof.Rows
noncomputable def MtM (X:Cx) (id:String) (r:V->List V->Hp->VK->Prop):Prop:=
 ∀ (pins:List (Addr×Obj)) (s:Shared) (σ:St) (H:Hp) (x:V) (xs:List V) (v:Value) (us:List Value) (Q:VK),Inv X pins σ H s->RelV x v->bP xs us->r x xs H Q ->
  aI (model X.prog X.w) X.A (call (.builtin id) (v::us)) (EP X pins σ Q) X.xe s
theorem bP.one : ∀ {x:V}{us:List Value},bP [x] us -> ∃ u,us = [u]/\RelV x u
 | _,_,.cons r .nil=>⟨_,rfl,r⟩
theorem bP.zero : ∀ {us:List Value},bP [] us->us = []
 | _,.nil=>rfl
theorem bP.dropLast {xs:List V}{us:List Value} (h:bP xs us):bP xs.dropLast us.dropLast:=by
 induction h with
 | nil=>exact .nil
 | cons r t ih=>
   cases t with
   | nil=>exact .nil
   | cons q t'=>exact .cons r ih
theorem bP.eraseIdx : ∀ {xs:List V}{us:List Value} (i:Nat),bP xs us->bP (xs.eraseIdx i) (us.eraseIdx i)
 | _,_,_,.nil => .nil
 | _,_,0,.cons _ t=>t
 | _,_,i+1,.cons r t => .cons r (bP.eraseIdx i t)
theorem bP.rep {xs:List V}{us:List Value} (h:bP xs us) : ∀ k:Nat,bP (aE k xs).flatten (aE k us).flatten
 | 0 => .nil
 | k+1=>by
   rw [cU,cU,eR,eR]
   exact bP.append h (bP.rep h k)
theorem vN {α:Type} (l:List α):l.eraseIdx (l.length - 1)=l.dropLast:=by
 induction l with
 | nil=>rfl
 | cons a r ih=>
   cases r with
   | nil=>rfl
   | cons b r=>
     have e:(a::b::r).length - 1=((b::r).length - 1)+1:=by
      have h1:(a::b::r).length=r.length+2:=rfl
      have h2:(b::r).length=r.length+1:=rfl
      omega
     rw [e,yX,ih]
     all_goals rfl
theorem qC {α:Type} : ∀ (l:List α) (i:Nat),(l.eraseIdx i).length<=l.length
 | [],_=>aj _
 | _::_,0=>iw _
 | _::r,i+1=>Nat.succ_le_succ (qC r i)
section
variable {X:Cx}{pins:List (Addr×Obj)}{σ:St}{H:Hp}{s:Shared}{l b:Addr}{xs ys zs:List V}
theorem Inv.lset {its its':List Value}{n:Nat}{f:Array Value->Array Value}{t':Nat} (I:Inv X pins σ H s) (hH:H l=some (.lst xs))
  (e:s.heap.get? l=some { cls := .type "list",data := .seq its.toArray n }) (hf:f its.toArray=its'.toArray) (hv:bP ys its') (hz:ys.length<=sizeLine) :
  Inv X pins σ (upd H l (.lst ys)) { s with heap:=s.heap.update l (dg f),toks:=t' }:=by
 have q:=Br e f
 rw [hf] at q
 refine I.write (x:=l) (e:=l) (by rw [hH];exact trivial) (.inl rfl) (fun b' u hb hu=>(cN s.heap (dg f) (dH hb)).trans hu) ⟨_,q⟩ ?_
 exact⟨hz,its',_,hv,q⟩
theorem Inv.lnew {its:List Value}{t':Nat} (I:Inv X pins σ H s) (hv:bP ys its) (hz:ys.length<=sizeLine) :
  Inv X pins σ (upd H s.heap.objs.size (.lst ys)) { s with heap:=s.heap.push { cls := .type "list",data := .seq its.toArray },toks:=t' }:=
 I.laid (fun _ _ q=>af _ q) (aj _) ⟨hz,its,0,hv,ay _ rfl⟩
theorem Inv.fresh (I:Inv X pins σ H s):H s.heap.objs.size=none:=I.hok.fresh (aj _)
theorem Inv.lstM (I:Inv X pins σ H s) (hH:H l=some (.lst xs)):xs.length<=sizeLine /\ ∃ (its:List Value) (n:Nat),bP xs its/\xs.length=its.length/\s.heap.get? l=some { cls := .type "list",data := .seq its.toArray n }:=by
 obtain⟨z,its,n,r,e⟩:=I.hok l _ hH
 exact⟨z,its,n,r,r.length,e⟩
theorem A1 {n:Nat} (h:n<=sizeLine):iN n=false:=by
 unfold iN
 exact decide_eq_false (by omega)
end
section
variable {X:Cx}
noncomputable def xr:V->List V->Hp->VK->Prop:=fun x vs H Q => ∃ l xs y,x = .ref l/\vs = [y]/\H l=some (.lst xs)/\xs.length < sizeLine/\Q .non (upd H l (.lst (xs ++ [y])))
theorem xN:MtM X "list.append" xr:=by
 intro pins s σ H x vs v us Q I rx rv h
 obtain⟨l,xs,y,rfl,rfl,hH,hz,q⟩:=h
 cases rx
 obtain⟨u,rfl,ru⟩:=rv.one
 obtain⟨z,its,n,r,hl,e⟩:=I.lstM hH
 refine call_meets F.slot_list_append ⟨_,e,rfl⟩ F.entry_list_append (F.args_list_append_2 _ _) (PySem.list_append l its.toArray n u (by rw [aC];omega)) ⟨e,?_⟩
 refine⟨.non,_,I.lset (its':=its ++ [u]) hH e (by simp) (r.append (.cons ru .nil)) ?_,rfl,q⟩
 rw [bE,List.length_singleton]
 omega
noncomputable def wF:V->List V->Hp->VK->Prop:=fun x vs H Q => ∃ l b xs zs,x = .ref l/\vs = [.ref b]/\H l=some (.lst xs)/\H b=some (.lst zs)/\xs.length+zs.length<=sizeLine/\Q .non (upd H l (.lst (xs++zs)))
theorem ym:MtM X "list.extend" wF:=by
 intro pins s σ H x vs v us Q I rx rv h
 obtain⟨l,b,xs,zs,rfl,rfl,hH,hB,hz,q⟩:=h
 cases rx
 obtain⟨u,rfl,ru⟩:=rv.one
 cases ru
 obtain⟨z,its,n,r,hl,e⟩:=I.lstM hH
 obtain⟨z2,its2,n2,r2,hl2,e2⟩:=I.lstM hB
 have hsz:its.toArray.size+its2.toArray.size<=sizeLine:=by rw [aC,aC];omega
 have hlong : ¬ (!its.toArray.isEmpty&&iN (its.toArray.size+its2.toArray.size))=true:=by
  rw [A1 hsz,Bool.and_false]
  exact bI
 refine call_meets F.slot_list_extend ⟨_,e,rfl⟩ F.entry_list_extend (F.args_list_extend_2 _ _)
  (AutoSeq1.list_extend_list_list_0 l its.toArray n b its2.toArray n2 hlong (by rw [aC];omega) (by omega)) ⟨e,e2,?_⟩
 refine⟨.non,_,I.lset (its':=its++its2) hH e (by simp) (r.append r2) ?_,rfl,q⟩
 rw [bE]
 omega
noncomputable def JA:V->List V->Hp->VK->Prop:=fun x vs H Q => ∃ l xs y,x = .ref l/\vs = []/\H l=some (.lst xs)/\xs[xs.length - 1]? = some y/\Q y (upd H l (.lst xs.dropLast))
theorem Fg:MtM X "list.pop" JA:=by
 intro pins s σ H x vs v us Q I rx rv h
 obtain⟨l,xs,y,rfl,rfl,hH,hy,q⟩:=h
 cases rx
 have hus:=rv.zero
 subst hus
 obtain⟨z,its,n,r,hl,e⟩:=I.lstM hH
 obtain⟨u,hu,ru⟩:=r.get hy
 have hy':its.toArray[its.toArray.size - 1]? = some u:=by
  show its.toArray[its.length - 1]? = some u
  rw [<- za,<- hl]
  exact hu
 refine call_meets F.slot_list_pop ⟨_,e,rfl⟩ F.entry_list_pop (F.args_list_pop_1 _) (MeetsSeq.list_pop_last l its.toArray n u hy' (by rw [aC];omega)) ⟨e,?_⟩
 refine⟨y,_,I.lset (its':=its.dropLast) hH e ?_ r.dropLast ?_,ru,q⟩
 ·show its.toArray.eraseIdxIfInBounds (its.toArray.size - 1)=its.dropLast.toArray
  rw [aC,qw,vN]
 ·rw [List.length_dropLast]
  omega
noncomputable def zr:V->List V->Hp->VK->Prop:=fun x vs H Q => ∃ l xs i k y,x = .ref l/\vs = [.int i]/\H l=some (.lst xs) /\ -(2 ^ 63)<=i/\i < 2 ^ 63/\seqIndex? i xs.length=some k/\xs[k]? = some y/\Q y (upd H l (.lst (xs.eraseIdx k)))
theorem A0:MtM X "list.pop" zr:=by
 intro pins s σ H x vs v us Q I rx rv h
 obtain⟨l,xs,i,k,y,rfl,rfl,hH,h1,h2,hk,hy,q⟩:=h
 cases rx
 obtain⟨u,rfl,ru⟩:=rv.one
 obtain⟨t,rfl⟩:=ru
 obtain⟨z,its,n,r,hl,e⟩:=I.lstM hH
 obtain⟨w,hw,rw'⟩:=r.get hy
 refine call_meets F.slot_list_pop ⟨_,e,rfl⟩ F.entry_list_pop (F.args_list_pop_2 _ _)
  (MeetsSeq.list_pop_at l its.toArray n i t k w (fitsIndex_both h1 h2) (by rw [aC,<- hl];exact hk) (by rw [<- za];exact hw) (by rw [aC];omega)) ⟨e,?_⟩
 refine⟨y,_,I.lset (its':=its.eraseIdx k) hH e ?_ (r.eraseIdx k) ?_,rw',q⟩
 ·show its.toArray.eraseIdxIfInBounds k=(its.eraseIdx k).toArray
  rw [qw]
 ·have:=qC xs k
  omega
noncomputable def Jf:R2:=fun x y H Q => ∃ l b xs zs,x = .ref l/\y = .ref b/\H l=some (.lst xs)/\H b=some (.lst zs)/\xs.length+zs.length<=sizeLine /\ ∀ p,H p=none->Q (.ref p) (upd H p (.lst (xs++zs)))
theorem Fk:OpR X (binaryOp .Add) Jf:=by
 intro pins s σ H x y v u Q I rx ry h
 obtain⟨l,b,xs,zs,rfl,rfl,hH,hB,hz,q⟩:=h
 cases rx
 cases ry
 obtain⟨z,its,n,r,hl,e⟩:=I.lstM hH
 obtain⟨z2,its2,n2,r2,hl2,e2⟩:=I.lstM hB
 refine PySem.P.add_list e e2 ?_ (by rw [aC,aC];omega)
 have ea:its.toArray++its2.toArray=(its++its2).toArray:=by simp
 rw [ea]
 exact⟨.ref _,_,I.lnew (t':=s.toks) (r.append r2) (by rw [bE];omega),rfl,q _ I.fresh⟩
theorem len_rep {α:Type} (xs:List α) (k:Nat):(aE k xs).flatten.length=k*xs.length:=by
 induction k with
 | zero=>simp
 | succ k ih=>rw [cU,eR,bE,ih,je,Nat.add_comm]
end
section
variable {prog:Program}{w:World}{A:Around}{E:Value->Shared->Prop}{s:Shared}
end
section
variable {X:Cx}
end
end L2
namespace Att
open PySem PySem.W PySem.Calls PyProof.Rows
theorem nG {P:Params}{h:Heap} : ∀ (ns:List Int) (vs:List Value),WellAll P h vs (ns.map WData.int)->IntsAre vs ns:=by
 intro ns
 induction ns with
 | nil=>
   intro vs w
   rw [pT] at w
   cases w
   exact .nil
 | cons n ns ih=>
   intro vs w
   rw [bz] at w
   cases w with
   | cons a b=>
     cases a
     exact .cons _ _ (ih _ b)
theorem yi {l:OpenLaw}{n:Nat} (hn:l.most=some n) {P:Params}{h:Heap}{args:List WData}{vals:List Value}
  (hpre:l.row.toRowW.claim.pre args=true) (hwl:WellAll P h vals args) :
  ∃ a vs ns,vals = [be a]/\args = [WData.list (ns.map WData.int)]/\h.get? a=some { cls := .type "list",data := .seq vs.toArray }/\IntsAre vs ns/\ns.length<=n:=by
 have hsh:WShape.hasAll [] args [.list .int]=true:=(pre_splitW hpre).1
 have hc:l.pre.holds [] { args:=args }=true:=(pre_splitW hpre).2
 obtain⟨d,r,rfl,h1,h2⟩:=hasAllW_cons hsh
 obtain rfl:=hasAllW_nil h2
 obtain⟨xs,rfl,h3⟩:=hasW_list h1
 obtain⟨ns,rfl⟩:=items_int h3
 have hlen:ns.length<=n:=by
  unfold OpenLaw.pre at hc
  have h4:(WTm.not (.lt (.lit (.int (n:Int))) (.len (.arg 0)))).holds [] { args := [.list (ns.map .int)] }=true:=by
   have h4:=(holds_andW hc).1
   rw [hn] at h4
   exact h4
  have h5:=condW_of h4 (w_not (w_lt w_lit (w_len_list (w_arg rfl))))
  rw [aq] at h5
  refine Nat.le_of_not_lt fun q => ?_
  have q':(n:Int) < ((ns.length:Nat):Int):=by omega
  first
   | (rw [decide_eq_true q'] at h5;exact absurd h5 (by decide))
   | (simp at h5;omega)
 cases hwl with
 | cons w1 w2=>
   cases w2
   cases w1 with
   | list ho hall=>exact⟨_,_,ns,rfl,rfl,ho,nG ns _ hall,hlen⟩
theorem yT (l:OpenLaw) (args:List WData):l.row.toRowW.claim.post args (.bool true) args=true:=
 postW_of (r:=l.row.toRowW) (X:=(true == true))
  (show WShape.has [] (.bool true) .bool=true by first | rfl | decide | simp [WShape.has,WShape.arms,WShape.armsAll])
  (show (WTm.eq .res (.lit (.bool true))).value [] { args:=args,res:=some (.bool true),after:=args }=some (.bool (true == true)) from w_eq_bool (w_res rfl) w_lit) rfl
theorem attach_call {l:OpenLaw}{n:Nat}{q:Program}{loose:List Str}{XP:(Str->Option Value)->Heap->Prop}{YP:World->Heap->Prop}{d:DefRec}
  (hn:l.most=some n) (hdf:d.params.defaults = [])
  (call : ∀ (w:World) (s₀ s₁:Shared) (mg mb:Str->Option Value) (fa:Addr) (o:Obj) (pm cd doc:Value) (a:Addr) (vs:List Value) (ns:List Int),
   Ground q loose [] XP w s₀ mg mb s₁.heap->YP w s₁.heap ->
   s₁.heap.get? fa=some o->o.data = .func (docDef d.name d.params d.body d.scope pm cd doc)->s₁.heap.CodeRec cd d.name->mg d.name=some (.ref fa) ->
   s₁.heap.get? a=some { cls := .type "list",data := .seq vs.toArray }->IntsAre vs ns->ns.length<=n->s₁.gens = #[] ->
   pS (model l.prog w) callerA (.call (.ref fa) ⟨[.ref a],[]⟩) (fun r s'=>r = .ok (.ret (.bool true))/\OldK s₁.heap s'.heap/\s'.os=s₁.os/\AllBare s'.gens) s₁) :
  WalkO q loose XP YP l.row.toRowW d [] (fun f vs=>PySem.call f vs):=by
 intro w s₀ s₁ mg mb G Y fa o pm cd doc dV kV ho hd hcd hD hmg hg args vals as hpre hlay hrd hwl hlo
 obtain rfl:dV = .none:=Dflts.none hD hdf
 obtain rfl:kV = .none:=Dflts.noKw hD
 obtain⟨a,vs,ns,rfl,rfl,hobj,hints,hlen⟩:=yi hn hpre hwl
 refine enter_call (jF (call w s₀ s₁ mg mb fa o pm cd doc a vs ns G Y ho (fd_plain hd) hcd hmg hobj hints hlen hg) fun r s' hq => ?_)
 obtain⟨rfl,h2,h3,h4⟩:=hq
 exact⟨.inl ⟨.bool true,.bool true,[],rfl,fun _=>rfl,.bool true,yT l _,fun _=>⟨fv,fun _ hm=>(nomatch hm)⟩⟩,h2,h3,h4⟩
section
variable {prog:Program}{w:World}{A:Around}{E:Value->Shared->Prop}{s:Shared}{K:Frag}
end
end Att
namespace L2
open PySem PySem.Spec PyProof.Rows
end L2
namespace L2
open PySem PySem.Spec PyProof.Rows
abbrev KOf {K:ak}{h:Heap} (_:K.In h):ak:=K
end L2
namespace L2
open PySem PySem.Spec PyProof.Rows
noncomputable def ff (s:Stmt):Arguments:=match s with
 | .FunctionDef _ a _ _ _ _ _ _ _ _=>a
 | _=>{ posonlyargs := [],args := [],vararg:=none,kwonlyargs := [],kw_defaults := [],kwarg:=none,defaults := [] }
noncomputable def bc (s:Stmt):List Stmt:=match s with
 | .FunctionDef _ _ b _ _ _ _ _ _ _=>b
 | _ => []
noncomputable def ax (s:Stmt):Scope:=match s with
 | .FunctionDef _ _ _ _ _ _ sc _ _ _=>sc
 | _=>{ kind := .function,names := [],isGenerator:=false,isCoroutine:=false }
abbrev CX0:CXT:=fun _ _ _ _ _ _=>False
abbrev E0:XK:=fun _ _ _=>False
theorem wD {X:Cx}:sh CX0 X E0:=fun _ _ _ _ _ _ _ h=>h.elim
structure Fun (K:ak) (x qual:Str) (st:Stmt) (f:Addr) (fd:FuncData):Prop where
 ex : ∃ (oc:Value) (od:Option Addr) (kV doc pm:Value) (an:Option Addr) (cdv ct:Value) (osl:Array (Option Value)),
  fd=cu x qual (ff st) (bc st) (ax st) .none kV doc pm an cdv ct/\K.lookup f=some ⟨oc,od,.func fd,osl⟩/\gc K cdv qual=true
 kp:ck K (.ref f)=true
section
variable {P:Program}{w:World}{K:ak}{mg:Str->Option Value}{base:Heap}
theorem Fun.ok {x qual:Str}{st:Stmt}{f:Addr}{fd:FuncData}{N ps:List Str}{k:Nat}{sp:Sp} (F:Fun K x qual st f fd) (S:bw N ps (ax st)) (len : ∀ vs H Q E,sp vs H Q E->vs.length=ps.length)
  (hbody : ∀ (cdv:Value) (A:Around) (outer:List Env) (s:Shared) (H:Hp) (vs:List V) (Q:VK) (E:XK),ja k (A.deeper (envOfC qual (ax st) s.heap.objs.size f cdv))->sp vs H Q E ->
   ∃ t,PSs (vI CX0 P w K mg base N qual (ax st) f cdv A outer s H E).nox (bc st) t/\t { nx:=fun _ H'=>Q .non H',rt:=Q } (start N vs) H):kL P w K mg base CX0 (k+1) f fd ps sp:=by
 obtain⟨oc,od,kV,doc,pm,an,cdv,ct,osl,rfl,lk,hcd⟩:=F.ex
 refine wJ lk hcd S len fun A outer s H vs Q E hr hsp => ?_
 obtain⟨t,h,q⟩:=hbody cdv A outer s H vs Q E hr hsp
 exact⟨t,h.nox,q⟩
theorem Fun.binds {x qual:Str}{st:Stmt}{f:Addr}{fd:FuncData}{ps:List Str} (F:Fun K x qual st f fd)
  (h : ∀ (kV doc pm:Value) (an:Option Addr) (cdv ct:Value) (us:List Value),us.length=ps.length->bindArgs (cu x qual (ff st) (bc st) (ax st) .none kV doc pm an cdv ct) ⟨us,[]⟩=pure (ps.zip us)):Binds K fd ps []:=by
 obtain⟨oc,od,kV,doc,pm,an,cdv,ct,osl,rfl,lk,hcd⟩:=F.ex
 exact .all (h kV doc pm an cdv ct)
theorem GT {x qual:Str}{st:Stmt}{f:Addr}{oc:Value}{od an:Option Addr}{osl:Array (Option Value)}{kV doc pm cdv ct:Value} (l:K.lookup f=some ⟨oc,od,.func (cu x qual (ff st) (bc st) (ax st) .none kV doc pm an cdv ct),osl⟩)
  (c:gc K cdv qual=true) (k:ck K (.ref f)=true):Fun K x qual st f (cu x qual (ff st) (bc st) (ax st) .none kV doc pm an cdv ct):=⟨⟨oc,od,kV,doc,pm,an,cdv,ct,osl,rfl,l,c⟩,k⟩
end
section
variable {X:Cx}
end
end L2
end
section
namespace PySem
namespace GR
noncomputable def v7 (h:Heap) (a t:Addr) (i:Int):Prop := ∃ o,h.get? a=some o/\o.cls = .type "reversed"/\o.data = .fields #[.ref t,rawInt i]
theorem v7.at {h h':Heap}{a t:Addr}{i:Int} (x:v7 h a t i) (e : ∀ o,h.get? a=some o->h'.get? a=some o):v7 h' a t i:=let ⟨o,ho,r⟩:=x;⟨o,e _ ho,r⟩
open PyProof.Rows in
section
variable {prog:Program}{w:World}{A:Around}{E:Value->Shared->Prop}{s:Shared}
open PyProof.Rows
end
end GR
end PySem
namespace L2
open PySem PySem.Spec PyProof.Rows
section
variable {X:Cx}{tg:Expr}
end
end L2
end
section
namespace PySem
namespace GE
open AutoSeq1 (wpAny_loadPart')
section
variable {prog:Program}{w:World}{A:Around}{E:Value->Shared->Prop}{s:Shared}
theorem uH {it t:Addr}{i:Nat}{items:Array Value}{x:Value}{Q:Value->Shared->Prop} (hit:s.heap.IsTupleIter it t i) (ht:s.heap.IsTuple t items) (hx:items[i]? = some x)
  (hQ : ∀ h',h'.IsTupleIter it t (i+1)->pR it s.heap h'->Q x { s with heap:=h' }):aI (model prog w) A (bN (.ref it)) Q E s:=by
 obtain⟨o,ho,hc,hd⟩:=id hit;obtain⟨ol,hol,_,nl,hdl⟩:=ht;unfold bN
 refine ag (gY (name:=qx "__next__") hit.typeIs fw (fL fw hit.typeIs xC ?_ (wo _)))
 show aI _ _ (field (.ref it) 0 >>= _) _ _ s;refine ag (dG ho hd (x := .ref t) rfl ?_);show aI _ _ (if (be t == eh)=true then _ else _) _ _ s;rw [if_neg (show ¬ ((be t == eh)=true) from bI)]
 show aI _ _ (field (.ref it) 1 >>= _) _ _ s;refine ag (dG ho hd (x := .int i 0) rfl ?_);show aI _ _ (seqItems? (.ref t) >>= _) _ _ s;refine ag (eG hol hdl ?_);simp only [jI,hx]
 refine ag (wpAny_setField ho hd (by simp) (aK ⟨x,rfl,aK (hQ _ ?_ (vl ..))⟩));exact⟨_,eO _ ho (Obj.isFreed_of_fields (Obj.data_mapFields hd _)),(Obj.cls_mapFields ..).trans hc,by rw [Obj.data_mapFields hd];simp [rawInt]⟩
theorem vQ {it t:Addr}{i:Nat}{items:Array Value}{Q:Value->Shared->Prop} (hh:A.handled=none) (hit:s.heap.IsTupleIter it t i) (ht:s.heap.IsTuple t items) (hx:items[i]? = none)
  (hE : ∀ h' e,Heap.ExtBut it s.heap h'->(∃ o,h'.get? e=some o/\o.cls = .type "StopIteration")->E (.ref e) { s with heap:=h' }):aI (model prog w) A (bN (.ref it)) Q E s:=by
 obtain⟨o,ho,hc,hd⟩:=id hit;obtain⟨ol,hol,_,nl,hdl⟩:=ht;unfold bN
 refine ag (gY (name:=qx "__next__") hit.typeIs fw (fL fw hit.typeIs xC ?_ (wo _)))
 show aI _ _ (field (.ref it) 0 >>= _) _ _ s;refine ag (dG ho hd (x := .ref t) rfl ?_);show aI _ _ (if (be t == eh)=true then _ else _) _ _ s;rw [if_neg (show ¬ ((be t == eh)=true) from bI)]
 show aI _ _ (field (.ref it) 1 >>= _) _ _ s;refine ag (dG ho hd (x := .int i 0) rfl ?_);show aI _ _ (seqItems? (.ref t) >>= _) _ _ s;refine ag (eG hol hdl ?_);simp only [jI,hx]
 refine ag (Bs (ag (wpAny_setField ho hd (by simp) ?_)));show aI _ _ (newExc (.type "StopIteration") [] >>= _) _ _ _;refine ag ?_;simp only [newExc,newTuple];refine ag (dZ ?_ (by size_fits))
 refine ag (m:=firstArgMember _ _) (wpAny_of_eq (a:=eh) (by first | rfl | (simp only [firstArgMember];rfl)) ?_);refine dZ ?_ (by size_fits);simp only [raiseNew];refine ag (wpAny_handled ?_)
 (first | rw [show A.in1.handled=none from hh] | rw [hh]);refine ag (aK (wpAny_throw ?_));exact hE _ _ (((vl ..).extBut.push _).push _) ⟨_,ay _ rfl,rfl⟩
end
end GE
end PySem
namespace L2
open PySem PySem.Spec PyProof.Rows
theorem Inv.turnNew {X:Cx}{pins:List (Addr×Obj)}{σ:St}{H:Hp}{s:Shared}{h':Heap}{t':Nat}{fp:List Addr}{T:Addr}{o:HO} (I:Inv X pins σ H s) (hf : ∀ b∈fp,pb X pins H b) (k : ∀ b u,b∉fp->s.heap.get? b=some u->h'.get? b=some u)
  (hT:s.heap.objs.size<=T) (new:dz X.prog X.w (upd H T o) h' T o):Inv X pins σ (upd H T o) { s with heap:=h',toks:=t' }:=by
 have hn:H T=none:=I.hok.fresh hT
 have neT : ∀ b u,s.heap.get? b=some u->b≠T:=fun b u e z=>absurd (aF (aw e) (by rw [z];exact hT)) (bD _)
 have nfp : ∀ b u,H b=some u->b∉fp:=fun b u e z=>by rw [(hf b z).1] at e;cases e
 refine I.step (g':=s.gens) (d':=s.drawn) (ch:=fp) (fun b hb=>⟨(hf b hb).2.2.2.1,(hf b hb).2.1,(hf b hb).2.2.2.2.1,(hf b hb).2.2.2.2.2⟩) (fun b o _ _ hc e _=>k b o hc e) (fun b o _ _ hc e _=>⟨o.slots,k b o hc e⟩)
  (fun b o _ e n=>by rw [bg (neT b o e)];exact n) (fun b o hc e=>⟨o,k b o hc e⟩) (fun b xs e=>by rw [bg (bf e hn)];exact e) (fun b o u e=>by rw [bg (bf e hn)];exact e) (fun b ps e=>⟨#[],by rw [bg (bf e hn),e];simp⟩) (fun m hm => ?_) (fun b u e => ?_) I.bare
 ·obtain⟨o,es,ep,ho,r⟩:=hm
  exact⟨o,es,ep,k _ o (fun z=>(hf _ z).2.1 rfl) ho,r⟩
 ·by_cases hb:b=T
  ·subst hb;rw [bS] at e;cases e;exact new
  ·rw [bg hb] at e
   refine (I.hok b u e).stay (fun c v hc q=>k c v ?_ q) (fun c q=>by rw [bg (bf q hn)];exact q) fun c xs q=>by rw [bg (bf q hn)];exact q
   rcases hc with z | z
   ·rw [z];exact nfp b u e
   ·exact nfp c _ z
section
variable {X:Cx}
end
end L2
end
section
namespace PySem
namespace GE
section
variable {prog:Program}{w:World}{A:Around}{E:Value->Shared->Prop}{s:Shared}
theorem Ft {z TI TO i1 i2 l1 l2:Addr}{k1 k2:Nat}{xs ys:Array Value}{x y a b:Value}{Q:Value->Shared->Prop} (D:ZipApart z TI TO i1 i2 l1 l2) (hz:IsZip s.heap z TI TO .none) (hTI:IsPair s.heap TI (.ref i1) (.ref i2)) (hTO:IsPair s.heap TO a b) (h1:s.heap.IsListIter i1 l1 k1) (h2:s.heap.IsTupleIter i2 l2 k2) (hl1:s.heap.IsList l1 xs) (hl2:s.heap.IsTuple l2 ys) (hx:xs[k1]? = some x) (hy:ys[k2]? = some y) (hQ : ∀ h',IsZip h' z TI TO (rawInt s.heap.objs.size)->IsPair h' TO x y->h'.IsListIter i1 l1 (k1+1)->h'.IsTupleIter i2 l2 (k2+1)->IsPair h' s.heap.objs.size x y->h'.objs.size=s.heap.objs.size+1->(∀ c o,c≠z->c≠TO->c≠i1->c≠i2->s.heap.get? c=some o->h'.get? c=some o)->Q (.ref s.heap.objs.size) { s with heap:=h' }):aI (model prog w) A (Builtin.«zip.__next__» ⟨[.ref z],[]⟩) (fun fin s' => ∃ v,fin = .done (.ret v)/\Q v s') E s:=by
 show aI _ _ (field (.ref z) 2 >>= _) _ _ _;refine ag (dG hz rfl (x := .bool false) rfl ?_);show aI _ _ (field (.ref z) 3 >>= _) _ _ _;refine ag (dG hz rfl (x := .ref TI) rfl ?_);refine ag (eG hTI rfl ?_);show aI _ _ (da (.ref z) >>= _) _ _ _;refine ag ?_;unfold da;refine ag (dG hz rfl (x := .none) rfl (aK ?_));simp only [if_true];refine ag (Bs ?_);refine ag (dG hz rfl (x := .ref TO) rfl ?_);refine ag (eS hz (by simp) fun h₁ hz₁ hs₁ => ?_);replace hz₁:IsZip h₁ z TI TO .ellipsis:=hz₁
 refine ag ?_;simp only [List.zipIdx_cons,List.zipIdx_nil,eJ,mL];refine ag (ag (rm ?_));show aI _ _ (bN (.ref i1) >>= _) _ _ _;refine ag (wpAny_nextOf_list_item (h1.extBut hs₁.extBut D.i1z) (hl1.extBut hs₁.extBut D.l1z) hx fun h₂ h1₂ hs₂=>aK ?_);have hTO₂:IsPair h₂ TO a b:=hs₂.extBut _ _ D.TOi1 (hs₁.extBut _ _ D.TOz hTO);refine ag (eG hTO₂ rfl ?_);refine ag (pK hTO₂ fun h₃ hTO₃ hs₃ => ?_);replace hTO₃:IsPair h₃ TO x b:=hTO₃;refine ag (wpAny_letGo (aK ?_));refine ag (ag (rm ?_));show aI _ _ (bN (.ref i2) >>= _) _ _ _
 refine ag (uH (((h2.extBut hs₁.extBut D.i2z).extBut hs₂.extBut D.i12.symm).extBut hs₃.extBut D.TOi2.symm) (((hl2.extBut hs₁.extBut D.l2z).extBut hs₂.extBut D.l2i1).extBut hs₃.extBut D.l2TO) hy fun h₄ h2₄ hs₄=>aK ?_);have hTO₄:IsPair h₄ TO x b:=hs₄.extBut _ _ D.TOi2 hTO₃;refine ag (eG hTO₄ rfl ?_);refine ag (pK hTO₄ fun h₅ hTO₅ hs₅ => ?_);replace hTO₅:IsPair h₅ TO x y:=hTO₅;refine ag (wpAny_letGo (aK (aK ?_)));refine ag (eG hTO₅ rfl ?_);refine ag (wpAny_newTuple ?_);have hsz:h₅.objs.size=s.heap.objs.size:=by rw [hs₅.1,hs₄.1,hs₃.1,hs₂.1,hs₁.1]
 have hz₅:IsZip h₅ z TI TO .ellipsis:=hs₅.extBut _ _ D.TOz.symm (hs₄.extBut _ _ D.i2z.symm (hs₃.extBut _ _ D.TOz.symm (hs₂.extBut _ _ D.i1z.symm hz₁)));have hk₅ : ∀ c o,c≠z->c≠TO->c≠i1->c≠i2->s.heap.get? c=some o->h₅.get? c=some o:=fun c o c1 c2 c3 c4 e=>hs₅.extBut _ _ c2 (hs₄.extBut _ _ c4 (hs₃.extBut _ _ c2 (hs₂.extBut _ _ c3 (hs₁.extBut _ _ c1 e))));have h1₅:h₅.IsListIter i1 l1 (k1+1):=((h1₂.extBut hs₃.extBut D.TOi1.symm).extBut hs₄.extBut D.i12).extBut hs₅.extBut D.TOi1.symm;have h2₅:h₅.IsTupleIter i2 l2 (k2+1):=h2₄.extBut hs₅.extBut D.TOi2.symm;have hzlt:z < h₅.objs.size:=aw hz₅;have hTOlt:TO < h₅.objs.size:=aw hTO₅
 have hi1lt:i1 < h₅.objs.size:=by obtain⟨_,e,_⟩:=h1₅;exact aw e
 have hi2lt:i2 < h₅.objs.size:=by obtain⟨_,e,_⟩:=h2₅;exact aw e
 show aI _ _ (jg (.ref z) (.ref h₅.objs.size) >>= _) _ _ _;refine ag ?_;unfold jg;have hz₆:IsZip (h₅.push { cls := .type "tuple",data := .seq #[x,y] }) z TI TO .ellipsis:=af _ hz₅;refine ag (eS hz₆ (by simp) fun h₇ hz₇ hs₇ => ?_);replace hz₇:IsZip h₇ z TI TO (rawInt h₅.objs.size):=hz₇;refine eS hz₇ (by simp) fun h₈ hz₈ hs₈ => ?_;replace hz₈:IsZip h₈ z TI TO (rawInt h₅.objs.size):=hz₈;have up : ∀ c o,c≠z->h₅.get? c=some o->h₈.get? c=some o:=fun c o c1 e=>hs₈.extBut _ _ c1 (hs₇.extBut _ _ c1 (af _ e));have hT₈:IsPair h₈ h₅.objs.size x y:=hs₈.extBut _ _ (dA hzlt) (hs₇.extBut _ _ (dA hzlt) (ay _ rfl))
 have hz8:h₈.objs.size=h₅.objs.size+1:=by rw [hs₈.1,hs₇.1,aW]
 rw [hsz] at hz₈ hT₈ hz8;refine aK ⟨_,rfl,?_⟩;show Q (.ref h₅.objs.size) _;rw [hsz];exact hQ h₈ hz₈ (up _ _ D.TOz hTO₅) (h1₅.at fun o e=>up _ o D.i1z e) (h2₅.at fun o e=>up _ o D.i2z e) hT₈ hz8 fun c o c1 c2 c3 c4 e=>up c o c1 (hk₅ c o c1 c2 c3 c4 e)
theorem FW {z TI TO i1 i2 l1 l2:Addr}{k1 k2:Nat}{xs ys:Array Value}{a b:Value}{Q:Fin->Shared->Prop} (hh:A.handled=none) (D:ZipApart z TI TO i1 i2 l1 l2) (hz:IsZip s.heap z TI TO .none) (hTI:IsPair s.heap TI (.ref i1) (.ref i2)) (hTO:IsPair s.heap TO a b) (h1:s.heap.IsListIter i1 l1 k1) (h2:s.heap.IsTupleIter i2 l2 k2) (hl1:s.heap.IsList l1 xs) (hl2:s.heap.IsTuple l2 ys) (hend:xs[k1]? = none\/ys[k2]? = none) (hE : ∀ h' e,(∀ c o,c≠z->c≠TO->c≠i1->c≠i2->s.heap.get? c=some o->h'.get? c=some o)->(∃ o,h'.get? e=some o/\o.cls = .type "StopIteration")->E (.ref e) { s with heap:=h' }):aI (model prog w) A (Builtin.«zip.__next__» ⟨[.ref z],[]⟩) Q E s:=by
 show aI _ _ (field (.ref z) 2 >>= _) _ _ _;refine ag (dG hz rfl (x := .bool false) rfl ?_);show aI _ _ (field (.ref z) 3 >>= _) _ _ _;refine ag (dG hz rfl (x := .ref TI) rfl ?_);refine ag (eG hTI rfl ?_);show aI _ _ (da (.ref z) >>= _) _ _ _;refine ag ?_;unfold da;refine ag (dG hz rfl (x := .none) rfl (aK ?_));simp only [if_true];refine ag (Bs ?_);refine ag (dG hz rfl (x := .ref TO) rfl ?_);refine ag (eS hz (by simp) fun h₁ hz₁ hs₁ => ?_);replace hz₁:IsZip h₁ z TI TO .ellipsis:=hz₁
 refine ag ?_;simp only [List.zipIdx_cons,List.zipIdx_nil,eJ,mL];refine ag (ag (rm ?_));show aI _ _ (bN (.ref i1) >>= _) _ _ _
 cases hx:xs[k1]? with
 | none=>
   refine ag (wpAny_nextOf_list_end hh (h1.extBut hs₁.extBut D.i1z) (hl1.extBut hs₁.extBut D.l1z) hx fun h₂ e hs₂ he => ?_);obtain⟨oe,hoe,hce⟩:=he;have hz₂:IsZip h₂ z TI TO .ellipsis:=hs₂ _ _ D.i1z.symm hz₁;have hez:e≠z:=fun x=>by subst x;rw [hz₂] at hoe;cases hoe;simp at hce
   refine eS hz₂ (by simp) fun h₃ _ hs₃=>hE h₃ e (fun c o c1 _ c3 _ x=>hs₃.extBut _ _ c1 (hs₂ _ _ c3 (hs₁.extBut _ _ c1 x))) ⟨oe,hs₃.extBut _ _ hez hoe,hce⟩
 | some x=>
   have hy:ys[k2]? = none:=by rcases hend with h | h;rw [hx] at h;cases h;exact h
   refine ag (wpAny_nextOf_list_item (h1.extBut hs₁.extBut D.i1z) (hl1.extBut hs₁.extBut D.l1z) hx fun h₂ h1₂ hs₂=>aK ?_);have hTO₂:IsPair h₂ TO a b:=hs₂.extBut _ _ D.TOi1 (hs₁.extBut _ _ D.TOz hTO);refine ag (eG hTO₂ rfl ?_);refine ag (pK hTO₂ fun h₃ hTO₃ hs₃ => ?_);refine ag (wpAny_letGo (aK ?_));refine ag (ag (rm ?_));show aI _ _ (bN (.ref i2) >>= _) _ _ _;refine ag (vQ hh (((h2.extBut hs₁.extBut D.i2z).extBut hs₂.extBut D.i12.symm).extBut hs₃.extBut D.TOi2.symm) (((hl2.extBut hs₁.extBut D.l2z).extBut hs₂.extBut D.l2i1).extBut hs₃.extBut D.l2TO) hy fun h₄ e hs₄ he => ?_)
   obtain⟨oe,hoe,hce⟩:=he;have hz₄:IsZip h₄ z TI TO .ellipsis:=hs₄ _ _ D.i2z.symm (hs₃.extBut _ _ D.TOz.symm (hs₂.extBut _ _ D.i1z.symm hz₁));have hez:e≠z:=fun x=>by subst x;rw [hz₄] at hoe;cases hoe;simp at hce
   refine eS hz₄ (by simp) fun h₅ _ hs₅=>hE h₅ e (fun c o c1 c2 c3 c4 x=>hs₅.extBut _ _ c1 (hs₄ _ _ c4 (hs₃.extBut _ _ c2 (hs₂.extBut _ _ c3 (hs₁.extBut _ _ c1 x))))) ⟨oe,hs₅.extBut _ _ hez hoe,hce⟩
theorem yk {z TI TO i1 i2 l1 l2:Addr}{k1 k2:Nat}{xs ys:Array Value}{x y a b:Value}{Q:Option Value->Shared->Prop} (D:ZipApart z TI TO i1 i2 l1 l2) (hz:IsZip s.heap z TI TO .none) (hTI:IsPair s.heap TI (.ref i1) (.ref i2)) (hTO:IsPair s.heap TO a b) (h1:s.heap.IsListIter i1 l1 k1) (h2:s.heap.IsTupleIter i2 l2 k2) (hl1:s.heap.IsList l1 xs) (hl2:s.heap.IsTuple l2 ys) (hx:xs[k1]? = some x) (hy:ys[k2]? = some y) (hQ : ∀ h',IsZip h' z TI TO (rawInt s.heap.objs.size)->IsPair h' TO x y->h'.IsListIter i1 l1 (k1+1)->h'.IsTupleIter i2 l2 (k2+1)->IsPair h' s.heap.objs.size x y->h'.objs.size=s.heap.objs.size+1->(∀ c o,c≠z->c≠TO->c≠i1->c≠i2->s.heap.get? c=some o->h'.get? c=some o)->Q (some (.ref s.heap.objs.size)) { s with heap:=h' }):aI (model prog w) A (pyNext (.ref z)) Q E s:=by
 have hT:s.TypeIs (.ref z) "zip":=⟨_,hz,rfl⟩;unfold pyNext;exact ag (wpAny_attempt (gY (name:=qx "__next__") hT mM (fL mM hT F.entry_zip_next (Ft D hz hTI hTO h1 h2 hl1 hl2 hx hy fun h' a1 a2 a3 a4 a5 a6 a7=>aK (hQ h' a1 a2 a3 a4 a5 a6 a7)) (F.args_zip_next_1 _))))
theorem yo {z TI TO i1 i2 l1 l2:Addr}{k1 k2:Nat}{xs ys:Array Value}{a b:Value}{Q:Option Value->Shared->Prop} (hh:A.handled=none) (D:ZipApart z TI TO i1 i2 l1 l2) (hz:IsZip s.heap z TI TO .none) (hTI:IsPair s.heap TI (.ref i1) (.ref i2)) (hTO:IsPair s.heap TO a b) (h1:s.heap.IsListIter i1 l1 k1) (h2:s.heap.IsTupleIter i2 l2 k2) (hl1:s.heap.IsList l1 xs) (hl2:s.heap.IsTuple l2 ys) (hend:xs[k1]? = none\/ys[k2]? = none) (hQ : ∀ h',(∀ c o,c≠z->c≠TO->c≠i1->c≠i2->s.heap.get? c=some o->h'.get? c=some o)->Q none { s with heap:=h' }):aI (model prog w) A (pyNext (.ref z)) Q E s:=by
 have hT:s.TypeIs (.ref z) "zip":=⟨_,hz,rfl⟩;unfold pyNext;refine ag (wpAny_attempt (gY (name:=qx "__next__") hT mM (fL mM hT F.entry_zip_next (FW hh D hz hTI hTO h1 h2 hl1 hl2 hend fun h' e hk he => ?_) (F.args_zip_next_1 _))));obtain⟨o,ho,hc⟩:=he;refine ag (wpAny_isInstance (T:="StopIteration") (b:=true) ⟨o,ho,hc⟩ isSubtype_stop ?_);exact aK (hQ _ hk)
end
abbrev zH1 (h:Heap) (l1:Addr):Heap:=h.push { cls := .type "list_iterator",data := .fields #[.ref l1,.int 0 0] }
abbrev zH2 (h:Heap) (a b:Addr):Heap:=(zH1 h a).push { cls := .type "tuple_iterator",data := .fields #[.ref b,.int 0 0] }
abbrev zH3 (h:Heap) (a b:Addr):Heap:=(zH2 h a b).push { cls := .type "tuple",data := .seq #[.ref h.objs.size,.ref (zH1 h a).objs.size] }
abbrev zH4 (h:Heap) (a b:Addr):Heap:=(zH3 h a b).push { cls := .type "tuple",data := .seq #[.none,.none] }
abbrev zH5 (h:Heap) (a b:Addr):Heap:=(zH4 h a b).push { cls := .type "zip",data := .fields #[.none,.bool false,.bool false,.ref (zH2 h a b).objs.size,.ref (zH3 h a b).objs.size] }
theorem yP (a b:Addr) (xs ys:Array Value):Meets (Builtin.«zip.__new__» ⟨[.type "zip",.ref a,.ref b],[]⟩) (fun _ R s=>s.heap.IsList a xs/\s.heap.IsTuple b ys/\R (.ok (.ret (.ref (zH4 s.heap a b).objs.size))) { s with heap:=zH5 s.heap a b }):=
 .of_wp fun prog w A R s h=>by
  obtain⟨hp,g,d,tk,os⟩:=s;obtain⟨hl1,hl2,h⟩:=h;have hsub:=sub_zip;have hL1:Heap.IsList (Shared.heap ⟨hp,g,d,tk,os⟩) a xs:=hl1
  have hL2:Heap.IsTuple (Shared.heap ⟨hp.push { cls := .type "list_iterator",data := .fields #[.ref a,.int 0 0] },g,d,tk,os⟩) b ys:=by
   obtain⟨o,ho,r⟩:=hl2
   exact⟨o,af _ ho,r⟩
  wp_walk using vk hL1,wpAny_pyIter_tuple hL2
  exact⟨_,rfl,h⟩
section
variable {prog:Program}{w:World}{A:Around}{E:Value->Shared->Prop}{s:Shared}
theorem AJ {a b:Addr}{xs ys:Array Value}{Q:Value->Shared->Prop} (hl1:s.heap.IsList a xs) (hl2:s.heap.IsTuple b ys)
  (h : ∀ h',IsZip h' (s.heap.objs.size+4) (s.heap.objs.size+2) (s.heap.objs.size+3) .none->IsPair h' (s.heap.objs.size+2) (.ref s.heap.objs.size) (.ref (s.heap.objs.size+1))->IsPair h' (s.heap.objs.size+3) .none .none->h'.IsListIter s.heap.objs.size a 0->h'.IsTupleIter (s.heap.objs.size+1) b 0->h'.objs.size=s.heap.objs.size+5->(∀ c o,s.heap.get? c=some o->h'.get? c=some o)->Q (.ref (s.heap.objs.size+4)) { s with heap:=h' }):aI (model prog w) A (call (.type "zip") [.ref a,.ref b]) Q E s:=by
 refine callType_new F.called_zip (by decide) (F.typeCall_zip_2 _ _) (F.newCall_zip_2 _ _) (fun obj=>F.args_object_init_3 obj _ _) F.entry_zip_new (yP a b xs ys) ⟨hl1,hl2,?_⟩
 have z1:(zH1 s.heap a).objs.size=s.heap.objs.size+1:=aW ..
 have z2:(zH2 s.heap a b).objs.size=s.heap.objs.size+2:=by rw [aW,z1]
 have z3:(zH3 s.heap a b).objs.size=s.heap.objs.size+3:=by rw [aW,z2]
 have z4:(zH4 s.heap a b).objs.size=s.heap.objs.size+4:=by rw [aW,z3]
 have z5:(zH5 s.heap a b).objs.size=s.heap.objs.size+5:=by rw [aW,z4]
 have g5:(zH5 s.heap a b).get? (zH4 s.heap a b).objs.size=some _:=ay _ rfl
 have g4:(zH5 s.heap a b).get? (zH3 s.heap a b).objs.size=some _:=af _ (ay _ rfl)
 have g3:(zH5 s.heap a b).get? (zH2 s.heap a b).objs.size=some _:=af _ (af _ (ay _ rfl))
 have g2:(zH5 s.heap a b).get? (zH1 s.heap a).objs.size=some _:=af _ (af _ (af _ (ay _ rfl)))
 have g1:(zH5 s.heap a b).get? s.heap.objs.size=some _:=af _ (af _ (af _ (af _ (ay _ rfl))))
 show _/\_;rw [z2,z3,z4] at g5;rw [z1,z2] at g3;rw [z3] at g4;rw [z1] at g2;rw [z4]
 exact⟨⟨_,g5,rfl⟩,h _ g5 g3 g4 ⟨_,g1,rfl,rfl⟩ ⟨_,g2,rfl,rfl⟩ z5 fun c o x=>af _ (af _ (af _ (af _ (af _ x))))⟩
end
end GE
end PySem
namespace L2
open PySem PySem.Spec PyProof.Rows
theorem Inv.turnFp {X:Cx}{pins:List (Addr×Obj)}{σ:St}{H:Hp}{s:Shared}{h':Heap}{t':Nat}{fp:List Addr} (I:Inv X pins σ H s) (hf : ∀ b∈fp,pb X pins H b) (k : ∀ b u,b∉fp->s.heap.get? b=some u->h'.get? b=some u):Inv X pins σ H { s with heap:=h',toks:=t' }:=by
 have nfp : ∀ b u,H b=some u->b∉fp:=fun b u e z=>by rw [(hf b z).1] at e;cases e
 refine I.step (g':=s.gens) (d':=s.drawn) (ch:=fp) (fun b hb=>⟨(hf b hb).2.2.2.1,(hf b hb).2.1,(hf b hb).2.2.2.2.1,(hf b hb).2.2.2.2.2⟩) (fun b o _ _ hc e _=>k b o hc e) (fun b o _ _ hc e _=>⟨o.slots,k b o hc e⟩)
  (fun _ _ _ _ n=>n) (fun b o hc e=>⟨o,k b o hc e⟩) (fun _ _ e=>e) (fun _ _ _ e=>e) (fun b ps e=>⟨#[],by rw [e];simp⟩) (fun m hm => ?_) (fun b u e => ?_) I.bare
 ·obtain⟨o,es,ep,ho,r⟩:=hm
  exact⟨o,es,ep,k _ o (fun z=>(hf _ z).2.1 rfl) ho,r⟩
 ·refine (I.hok b u e).stay (fun c v hc q=>k c v ?_ q) (fun _ q=>q) fun _ _ q=>q
  rcases hc with z | z
  ·rw [z];exact nfp b u e
  ·exact nfp c _ z
noncomputable def Itz (K:ak) (a b:Addr):It:=
 ⟨fun i H => ∃ xs x ys y,SqL K H a xs/\xs[i]? = some x/\SqT K H b ys/\ys[i]? = some y,fun i H x H' => ∃ T u v,(∀ xs,SqL K H a xs->xs[i]? = some u)/\(∀ ys,SqT K H b ys->ys[i]? = some v)/\H T=none/\x = .ref T/\H'=upd H T (.tup [u,v]),
  fun i H => ∃ xs ys,SqL K H a xs/\SqT K H b ys/\(xs.length<=i\/ys.length<=i)⟩
theorem AA {P:Program}{w:World}{K:ak}{ts:List Expr}{kt:Nat}{pt:Pos}{l1 l2 z TI TO i1 i2:Addr} (D:ZipApart z TI TO i1 i2 l1 l2):Turn P w K (.Tuple ts kt pt) (Itz K l1 l2) [z,TI,TO,i1,i2] z
  (fun i h=>IsZip h z TI TO .none/\IsPair h TI (.ref i1) (.ref i2)/\(∃ p q,IsPair h TO p q)/\h.IsListIter i1 l1 i/\h.IsTupleIter i2 l2 i) where
 mem:=by simp
 obj:=fun i h st b hb=>by
  obtain⟨hz,hTI,⟨p,q,hTO⟩,⟨o1,ho1,c1,d1⟩,o2,ho2,c2,d2⟩:=st
  simp only [aG,df,or_false] at hb
  rcases hb with rfl | rfl | rfl | rfl | rfl
  ·exact⟨_,hz,fun v y=>by have y':Data.fields _=yW v:=y;cases y'⟩
  ·exact⟨_,hTI,fun v y=>by have y':pU _ _=yW v:=y;cases y'⟩
  ·exact⟨_,hTO,fun v y=>by have y':pU _ _=yW v:=y;cases y'⟩
  ·exact⟨o1,ho1,fun v y=>by rw [d1] at y;cases y⟩
  ·exact⟨o2,ho2,fun v y=>by rw [d2] at y;cases y⟩
 keep:=fun i h h' st k=>by
  obtain⟨hz,hTI,⟨p,q,hTO⟩,h1,o2,ho2,r2⟩:=st
  exact⟨k z (by simp) _ hz,k TI (by simp) _ hTI,⟨p,q,k TO (by simp) _ hTO⟩,h1.at fun o e=>k i1 (by simp) o e,o2,k i2 (by simp) _ ho2,r2⟩
 item:=by
  intro X hP hw hK hc i pins s σ H E I hf st hg
  subst hP hw hK
  obtain⟨xs,x,ys,y,hq1,hx,hq2,hy⟩:=hg
  obtain⟨its1,rv1,p1,hz1⟩:=I.list hq1
  obtain⟨its2,rv2,p2,hz2⟩:=I.tuple hq2
  obtain⟨u,hu,ru⟩:=rv1.get hx
  obtain⟨v,hv,rv⟩:=rv2.get hy
  obtain⟨hz,hTI,⟨p,q,hTO⟩,h1,h2⟩:=st
  have hzl:=aw hz
  have lts : ∀ b ∈ [z,TI,TO,i1,i2],b < s.heap.objs.size:=fun b hb=>by
   simp only [aG,df,or_false] at hb
   rcases hb with rfl | rfl | rfl | rfl | rfl
   ·exact hzl
   ·exact aw hTI
   ·exact aw hTO
   ·obtain⟨o,ho,_⟩:=h1;exact aw ho
   ·obtain⟨o,ho,_⟩:=h2;exact aw ho
  refine GE.yk D hz hTI hTO h1 h2 p1.isList (show s.heap.IsTuple l2 its2.toArray from p2) (x:=u) (y:=v) (by simpa using hu) (by simpa using hv) fun h' hz' hTO' h1' h2' hT hsz hk => ?_
  refine⟨_,rfl,wpAny_letOwnedTupleGo_zip (s:={ s with heap:=h' }) hz' fun h2h he2 hs2 => ?_⟩
  have hT2:h2h.get? s.heap.objs.size=some { cls := .type "tuple",data := .seq #[u,v] }:=(hs2.2 _ (dA hzl)).trans hT
  have k : ∀ b o,b ∉ [z,TI,TO,i1,i2]->s.heap.get? b=some o->h2h.get? b=some o:=fun b o hb eo=>by
   simp only [aG,df,or_false,not_or] at hb
   exact (hs2.2 b hb.1).trans (hk b o hb.1 hb.2.2.1 hb.2.2.2.1 hb.2.2.2.2 eo)
  have new:dz X.prog X.w (upd H s.heap.objs.size (.tup [x,y])) h2h s.heap.objs.size (.tup [x,y]):=⟨by rw [sizeLine_eq];show 2<=16777216;omega,[u,v],.cons ru (.cons rv .nil),⟨_,hT2,rfl,_,rfl⟩,_,hT2,rfl⟩
  have t1:h2h.IsListIter i1 l1 (i+1):=h1'.extBut hs2.extBut D.i1z
  have t2:h2h.IsTupleIter i2 l2 (i+1):=h2'.extBut hs2.extBut D.i2z
  exact⟨.ref s.heap.objs.size,_,I.turnNew (t':=s.toks) hf k (aj _) new,rfl,⟨_,x,y,fun zs hy=>by rw [I.list_inj hy hq1];exact hx,fun zs hy'=>by rw [I.tuple_inj hy' hq2];exact hy,I.hok.fresh (aj _),rfl,rfl⟩,⟨he2,hs2.extBut _ _ D.TIz (hk _ _ D.TIz D.TITO D.TIi1 D.TIi2 hTI),⟨u,v,hs2.extBut _ _ D.TOz hTO'⟩,t1,t2⟩,fun b hb=>by
   rw [bg (fun e=>absurd (lts b hb) (by rw [e];exact bD _))]
   exact (hf b hb).1⟩
 done:=by
  intro X hP hw hK hc i pins s σ H E I hf st hg
  subst hP hw hK
  obtain⟨xs,ys,hq1,hq2,hx⟩:=hg
  obtain⟨its1,rv1,p1,hz1⟩:=I.list hq1
  obtain⟨its2,rv2,p2,hz2⟩:=I.tuple hq2
  obtain⟨hz,hTI,⟨p,q,hTO⟩,h1,h2⟩:=st
  have e1:=rv1.length
  have e2:=rv2.length
  refine GE.yo (I.ok.hd hc) D hz hTI hTO h1 h2 p1.isList (show s.heap.IsTuple l2 its2.toArray from p2) ?_ fun h' hk=>⟨rfl,I.turnFp (t':=s.toks) hf fun b o hb e => ?_⟩
  ·rcases hx with hx | hx
   ·exact .inl (by simp;omega)
   ·exact .inr (by simp;omega)
  ·simp only [aG,df,or_false,not_or] at hb
   exact hk b o hb.1 hb.2.2.1 hb.2.2.2.1 hb.2.2.2.2 e
 self:=fun _ _ _ _ _ st h=>wpAny_pyIter_zip st.1 h
section
variable {X:Cx}
noncomputable def xf (K:ak) (ta:TA):TI:=fun σ H R=>ta σ H fun vs H1 => ∃ a b xs ys,vs = [.ref a,.ref b]/\SqL K H1 a xs/\SqT K H1 b ys/\R (Itz K a b) H1
theorem boot_zip:bootBuiltins "zip"=some (.type "zip"):=by decide +kernel
theorem EO {a b:Expr}{ta:TA}{p pos:Pos}{ts:List Expr}{kt:Nat}{pt:Pos} (hg:Gl X "zip") (hm:X.mg "zip"=none) (ha:PA X [a,b] ta) (hs:starEach [a,b] X.env=(false,eval a X.env)::starEach [b] X.env) (hs2:starEach [b] X.env = [(false,eval b X.env)]):PI X (.Tuple ts kt pt) (.Call (.Name "zip" p) [a,b] [] pos) (xf X.K ta):=by
 intro pins s σ H R I h
 refine Call_ (j5 I hg hm boot_zip (cn (thn (ha pos pins s σ H _ I h) fun us s1 ⟨vs,H1,I1,r1,q1⟩ => ?_) (by rw [hs,hs2]) (by rw [hs2];rfl)))
 obtain⟨l1,l2,xs,ys,e,hq1,hq2,q⟩:=q1
 subst e
 cases r1 with
 | cons r rr=>
   cases rr with
   | cons r2 rr=>
     cases rr
     cases r
     cases r2
     obtain⟨its1,rv1,p1,hz1⟩:=I1.list hq1
     obtain⟨its2,rv2,p2,hz2⟩:=I1.tuple hq2
     refine GE.AJ p1.isList (show s1.heap.IsTuple l2 its2.toArray from p2) fun h' he hTI hTO hi1 hi2 hsz hk => ?_
     have I2:Inv X pins σ H1 { s1 with heap:=h',toks:=s1.toks }:=I1.kept hk
     refine wpAny_pyIter_zip (s:={ s1 with heap:=h' }) he ?_
     have la : @LT.lt Nat _ l1 s1.heap.objs.size:=by obtain⟨o,ho,_⟩:=p1.isList;exact aw ho
     have lb : @LT.lt Nat _ l2 s1.heap.objs.size:=by obtain⟨o,ho,_⟩:=(show s1.heap.IsTuple l2 its2.toArray from p2);exact aw ho
     have D:ZipApart (s1.heap.objs.size+4) (s1.heap.objs.size+2) (s1.heap.objs.size+3) s1.heap.objs.size (s1.heap.objs.size+1) l1 l2:=by
      constructor <;> (show ¬ (@Eq Nat _ _)) <;> omega
     refine⟨s1.heap.objs.size+4,[s1.heap.objs.size+4,s1.heap.objs.size+2,s1.heap.objs.size+3,s1.heap.objs.size,s1.heap.objs.size+1],_,_,H1,rfl,I2,AA D,⟨he,hTI,⟨_,_,hTO⟩,hi1,hi2⟩,fun c hc => ?_,q⟩
     have hle:s1.heap.objs.size<=c:=by
      simp only [aG,df,or_false] at hc
      rcases hc with rfl | rfl | rfl | rfl | rfl <;> omega
     exact I1.fpOk hle (I1.hok.fresh hle)
end
end L2
end
section
namespace L2
open PySem PyProof.Rows
section
variable {prog:Program}{w:World}{A:Around}{E:Value->Shared->Prop}{s:Shared}{I S:Addr}{fp wr:List Addr}{n:Nat}{P:Nat->Value->Prop}{St:Nat->Heap->Prop}{h0:Heap}{v0:Value}{R:Result->Shared->Prop}
end
end L2
end
section
namespace L2
open PySem PyProof.Rows
noncomputable def JZ (xs:Array Nat):Prop:=xs.toList.Pairwise (· < ·)
structure Kf (t:SetTable) (led:Bool):Prop where
 r:JZ t.place
 d:t.dummies = #[]
 l:t.led=led
noncomputable def Ki:Value->Int
 | .int i _=>i
 | _=>0
structure Hl (prog:Program) (w:World) (led:Bool) (ns:List Int) (es:Array (Int×Value)) (t:SetTable):Prop where
 fit:t.fits es.size=true
 tab:Kf t led
 el:ElemsOf (intKind prog w) es.toList
 sm:es.size < scanBound
 pm:(es.toList.map fun e=>Ki e.2).Perm ns
section
variable {prog:Program}{w:World}{A:Around}{E:Value->Shared->Prop}{s:Shared}{led:Bool}{ns:List Int}
theorem Hl.int {es:Array (Int×Value)}{t:SetTable} (h:Hl prog w led ns es t) {e:Int×Value} (he:e∈es.toList) : ∃ i u,e.2 = .int i u:=by
 obtain⟨⟨k,hk,_⟩,_⟩:=h.el e he
 obtain⟨u,hu⟩:=Value.isInt_shape (k:=k) (v:=e.2) hk
 exact⟨k,u,hu⟩
end
end L2
end
section
namespace PySem
namespace GS
end GS
end PySem
namespace L2
open PySem PyProof.Rows
section
variable {prog:Program}{w:World}{A:Around}{E:Value->Shared->Prop}{s:Shared}{I a:Addr}{es:Array (Int×Value)}{ep:Nat}{t:SetTable}
end
end L2
end
section
namespace L2
open PySem PyProof.Rows
section
variable {prog:Program}{w:World}{A:Around}{E:Value->Shared->Prop}{s:Shared}{I a:Addr}{es:Array (Int×Value)}{ep:Nat}{t:SetTable}
end
end L2
end
section
namespace L2
open PySem PySem.Spec PyProof.Rows
section
variable {κ:Type} [DecidableEq κ]
noncomputable def kh (kvs:List (κ×V)) (k:κ):Option V:=(kvs.find? fun kv=>decide (kv.1=k)).map (·.2)
noncomputable def putK (kvs:List (κ×V)) (k:κ) (v:V):List (κ×V):=
 if (kvs.any fun kv=>decide (kv.1=k))=true then kvs.map (fun kv=>if kv.1=k then (kv.1,v) else kv) else kvs ++ [(k,v)]
theorem jV {p:κ×V}{r:List (κ×V)}{k:κ} (e:p.1=k):kh (p::r) k=some p.2:=by simp [kh,bF,e]
theorem jY {p:κ×V}{r:List (κ×V)}{k:κ} (e : ¬ p.1=k):kh (p::r) k=kh r k:=by simp [kh,bF,e]
theorem tX (k:κ) : ∀ kvs:List (κ×V),(kvs.any fun kv=>decide (kv.1=k))=(kh kvs k).isSome
 | []=>rfl
 | p::r=>by
   rw [eN]
   by_cases e:p.1=k
   ·simp only [jV e,decide_eq_true e,Bool.true_or,BB]
   ·rw [jY e,decide_eq_false e,Bool.false_or];exact tX k r
theorem j6 (kvs:List (κ×V)) (k:κ) (v:V):(putK kvs k v).length<=kvs.length+1:=by
 unfold putK
 split
 ·rw [aq];omega
 ·rw [bE,cz,fM];omega
theorem o4.isSome_eq {o:Option V}{u:Option Value} (r:o4 o u):o.isSome=u.isSome:=by
 cases o with
 | none=>cases u with
   | none=>rfl
   | some _=>exact (show False from r).elim
 | some _=>cases u with
   | none=>exact (show False from r).elim
   | some _=>rfl
theorem KV.val {kvs:List (κ×V)}{vs:List (κ×Value)} (r:KV kvs vs) (k:κ):o4 (kh kvs k) (valueAt vs k):=by
 unfold KV at r
 induction r with
 | nil=>exact ek
 | @cons p q ps qs h t ih=>
   obtain⟨h1,h2⟩:=h
   by_cases e:p.1=k
   ·have e':q.1=k:=h1.symm.trans e
    have b:valueAt (q::qs) k=some q.2:=by simp [valueAt,bF,e']
    rw [jV e,b];exact h2
   ·have e' : ¬ q.1=k:=fun z=>e (h1.trans z)
    have b:valueAt (q::qs) k=valueAt qs k:=by simp [valueAt,bF,e']
    rw [jY e,b];exact ih
theorem KV.any {kvs:List (κ×V)}{vs:List (κ×Value)} (r:KV kvs vs) (k:κ):(kvs.any fun kv=>decide (kv.1=k))=vs.any fun kv=>decide (kv.1=k):=by
 unfold KV at r
 induction r with
 | nil=>rfl
 | cons h t ih=>rw [eN,eN,ih,h.1]
theorem KV.repl {kvs:List (κ×V)}{vs:List (κ×Value)} (r:KV kvs vs) (k:κ) {y:V}{u:Value} (ry:RelV y u) :
  KV (kvs.map fun kv=>if kv.1=k then (kv.1,y) else kv) (vs.map fun kv=>if kv.1=k then (kv.1,u) else kv):=by
 unfold KV at r ⊢
 induction r with
 | nil=>exact .nil
 | @cons p q ps qs h t ih=>
   rw [bz,bz]
   refine .cons ?_ ih
   obtain⟨h1,h2⟩:=h
   by_cases e:p.1=k
   ·rw [if_pos e,if_pos (h1.symm.trans e)];exact⟨h1,ry⟩
   ·rw [if_neg e,if_neg (fun z=>e (h1.trans z))];exact⟨h1,h2⟩
theorem KV.put {kvs:List (κ×V)}{vs:List (κ×Value)} (r:KV kvs vs) (k:κ) {y:V}{u:Value} (ry:RelV y u):KV (putK kvs k y) (stored vs k u):=by
 unfold putK stored
 rw [r.any k]
 by_cases e:(vs.any fun kv=>decide (kv.1=k))=true
 ·rw [if_pos e,if_pos e];exact r.repl k ry
 ·rw [if_neg e,if_neg e];exact Paired.snoc r ⟨rfl,ry⟩
theorem KV.length {kvs:List (κ×V)}{vs:List (κ×Value)} (r:KV kvs vs):kvs.length=vs.length:=vu r
end
theorem uq {P:Program}{w:World}{k:Key}{u:Value} (r:RelV (kV k) u):(de P w).is k u=true:=by
 cases k with
 | inl i=>obtain⟨t,e⟩:=(show ∃ t,u=qo i t from r);subst e;exact tO P w i t
 | inr x=>obtain⟨t,e⟩:=(show ∃ t,u=qq x t from r);subst e;exact uV P w x t
theorem qL {P:Program}{w:World} : ∀ {ks:List Key}{us:List Value},bP (ks.map kV) us->ItemsAre (de P w) ks us
 | [],_,r=>by rw [pT] at r;cases r;exact .nil
 | k::ks,_,r=>by
   rw [bz] at r
   cases r with
   | cons h t=>exact .cons (uq h) (qL t)
abbrev KT (H:Hp):List (List Key×V)->List (List Key×Addr×Value)->Prop:=Paired fun p q=>p.1=q.1/\H q.2.1=some (.tup (p.1.map kV))/\RelV p.2 q.2.2
theorem KT.val {H:Hp}{kvs:List (List Key×V)}{xs:List (List Key×Addr×Value)} (r:KT H kvs xs) (k:List Key):o4 (kh kvs k) ((atKey xs k).map (·.2)):=by
 induction r with
 | nil=>exact ek
 | @cons p q ps qs h t ih=>
   obtain⟨h1,_,h2⟩:=h
   by_cases e:p.1=k
   ·have e':q.1=k:=h1.symm.trans e
    have b:atKey (q::qs) k=some q.2:=by simp [atKey,bF,e']
    rw [jV e,b];exact h2
   ·have e' : ¬ q.1=k:=fun z=>e (h1.trans z)
    have b:atKey (q::qs) k=atKey qs k:=by simp [atKey,bF,e']
    rw [jY e,b];exact ih
theorem KT.repl {H:Hp}{kvs:List (List Key×V)}{xs:List (List Key×Addr×Value)} (r:KT H kvs xs) (k:List Key) {y:V}{u:Value} (ry:RelV y u) :
  KT H (kvs.map fun kv=>if kv.1=k then (kv.1,y) else kv) (xs.map (putAt k u)):=by
 induction r with
 | nil=>exact .nil
 | @cons p q ps qs h t ih=>
   rw [bz,bz]
   refine .cons ?_ ih
   obtain⟨h1,h2,h3⟩:=h
   unfold putAt
   by_cases e:p.1=k
   ·rw [if_pos e,if_pos (h1.symm.trans e)];exact⟨h1,h2,ry⟩
   ·rw [if_neg e,if_neg (fun z=>e (h1.trans z))];exact⟨h1,h2,h3⟩
theorem KT.put {H:Hp}{kvs:List (List Key×V)}{xs:List (List Key×Addr×Value)} (r:KT H kvs xs) (k:List Key) {b:Addr}{y:V}{u:Value} (hb:H b=some (.tup (k.map kV))) (ry:RelV y u) :
  KT H (putK kvs k y) (storedH xs k b u):=by
 have e:(kvs.any fun kv=>decide (kv.1=k))=(atKey xs k).isSome:=by
  rw [tX,(r.val k).isSome_eq,oo]
 unfold putK storedH
 rw [e]
 by_cases q:(atKey xs k).isSome=true
 ·rw [if_pos q,if_pos q];exact r.repl k ry
 ·rw [if_neg q,if_neg q];exact Paired.snoc r ⟨rfl,hb,ry⟩
theorem KT.keeps {H H':Hp}{kvs:List (List Key×V)}{xs:List (List Key×Addr×Value)} (r:KT H kvs xs) (ht : ∀ b ys,H b=some (.tup ys)->H' b=some (.tup ys)):KT H' kvs xs:=
 Paired.mapP r fun _ _ z=>⟨z.1,ht _ _ z.2.1,z.2.2⟩
section
variable {P:Program}{w:World}{H:Hp}{h:Heap}{a:Addr}
theorem DQ {u:HO} (ok:HOk P w H h) (e:Rd H a u):dz P w H h a u:=e.ok ok
theorem uZ {kvs:List (Key×V)} (ok:HOk P w H h) (e:Rd H a (.dK kvs)):kvs.length<=sizeLine/\(a == sysModules)=false /\ ∃ vs,KV kvs vs/\h.DictOf (de P w) a vs:=
 show dz P w H h a (.dK kvs) from DQ ok e
theorem Ee {kvs:List (Key×V)} (ok:HOk P w H h) (e:H a=some (.dK kvs)):kvs.length<=sizeLine/\(a == sysModules)=false /\ ∃ vs,KV kvs vs/\h.DictOf (de P w) a vs:=uZ ok (.inl e)
theorem rF {ks:List Key} (ok:HOk P w H h) (e:H a=some (.tup (ks.map kV))):(tupleKind (de P w)).is h ks a:=by
 obtain⟨_,its,r,⟨o,h1,h2,n,h3⟩,_⟩:=(show dz P w H h a (.tup (ks.map kV)) from ok a _ e)
 exact⟨o,its.toArray,n,h1,h2,h3,by simpa using qL r⟩
theorem wY {kvs:List (List Key×V)} (ok:HOk P w H h) (e:Rd H a (.dT kvs)):kvs.length<=sizeLine/\(a == sysModules)=false /\
  ∃ xs,KT H kvs xs/\h.DictOfH (tupleKind (de P w)) a xs:=by
 obtain⟨z,y,xs,r,o,es,ep,h1,h2,h3,h4,h5⟩:=(show dz P w H h a (.dT kvs) from DQ ok e)
 refine⟨z,y,xs,r,o,es,ep,h1,h2,h3,h4,fun x hx => ?_,h5⟩
 have all : ∀ {l:List (List Key×V)}{m:List (List Key×Addr×Value)},KT H l m -> ∀ x∈m,(tupleKind (de P w)).is h x.1 x.2.1:=by
  intro l m q
  induction q with
  | nil=>intro x hx;exact nomatch hx
  | @cons p q ps qs hq t ih=>
    intro x hx
    rcases aG.mp hx with e | hx
    ·subst e
     exact rF ok (by rw [<- hq.1];exact hq.2.1)
    ·exact ih x hx
 exact all r x hx
theorem Jq {kvs:List (List Key×V)} (ok:HOk P w H h) (e:H a=some (.dT kvs)):kvs.length<=sizeLine/\(a == sysModules)=false /\
  ∃ xs,KT H kvs xs/\h.DictOfH (tupleKind (de P w)) a xs:=wY ok (.inl e)
end
noncomputable def sM (H:Hp) (a:Addr) (y:V) (r:Option V):Prop:=
 (∃ kvs k,Rd H a (.dK kvs)/\y=kV k/\r=kh kvs k) \/ ∃ kvs k b,Rd H a (.dT kvs)/\y = .ref b/\H b=some (.tup (k.map kV))/\r=kh kvs k
noncomputable def yA (H:Hp) (a:Addr) (y v:V) (H':Hp):Prop:=
 (∃ kvs k,H a=some (.dK kvs)/\y=kV k/\kvs.length < sizeLine/\H'=upd H a (.dK (putK kvs k v))) \/
 ∃ kvs k b,H a=some (.dT kvs)/\y = .ref b/\H b=some (.tup (k.map kV))/\kvs.length < sizeLine/\H'=upd H a (.dT (putK kvs k v))
theorem sM.k {H:Hp}{a:Addr}{kvs:List (Key×V)}{k:Key} (e:H a=some (.dK kvs)):sM H a (kV k) (kh kvs k) := .inl ⟨kvs,k,.inl e,rfl,rfl⟩
theorem sM.t {H:Hp}{a b:Addr}{kvs:List (List Key×V)}{k:List Key} (e:H a=some (.dT kvs)) (eb:H b=some (.tup (k.map kV))):sM H a (.ref b) (kh kvs k) := .inr ⟨kvs,k,b,.inl e,rfl,eb,rfl⟩
theorem yA.k {H:Hp}{a:Addr}{kvs:List (Key×V)}{k:Key}{v:V} (e:H a=some (.dK kvs)) (hl:kvs.length < sizeLine):yA H a (kV k) v (upd H a (.dK (putK kvs k v))) := .inl ⟨kvs,k,e,rfl,hl,rfl⟩
theorem yA.t {H:Hp}{a b:Addr}{kvs:List (List Key×V)}{k:List Key}{v:V} (e:H a=some (.dT kvs)) (eb:H b=some (.tup (k.map kV))) (hl:kvs.length < sizeLine) :
  yA H a (.ref b) v (upd H a (.dT (putK kvs k v))) := .inr ⟨kvs,k,b,e,rfl,eb,hl,rfl⟩
section
variable {X:Cx}{pins:List (Addr×Obj)}{σ:St}{H:Hp}{s:Shared}{a:Addr}{y v:V}{u r:Value}{o:Option V}{A:Around}{E:Value->Shared->Prop}
theorem Inv.big (I:Inv X pins σ H s):sysModules < s.heap.objs.size:=by
 have h:mainGlobals < s.heap.objs.size:=(I.mod.glob.keeps I.bk).lt
 exact qy (by decide) h
theorem ye {Q:Value->Shared->Prop} (hu:A.units+1 < cLine) (I:Inv X pins σ H s) (g:sM H a y (some v)) (ry:RelV y u) (h : ∀ w' s',Inv X pins σ H s'->RelV v w'->Q w' s') :
  aI (model X.prog X.w) A (getItem (.ref a) u) Q E s:=by
 rcases g with⟨kvs,k,e,ey,l⟩ | ⟨kvs,k,b,e,ey,eb,l⟩
 ·subst ey
  obtain⟨z,hd,vs,rel,dd⟩:=uZ I.hok e
  obtain⟨w',hw,rw'⟩:=o4.some_of (v:=v) (o:=valueAt vs k) (by rw [l];exact rel.val k)
  exact wpAny_getItem_of (uq ry) dd.mapOf hw (h w' _ (I.tok _) rw')
 ·subst ey
  cases (show u=be b from ry)
  obtain⟨z,hd,xs,rel,dd⟩:=wY I.hok e
  obtain⟨w',hw,rw'⟩:=o4.some_of (v:=v) (o:=(atKey xs k).map (·.2)) (by rw [l];exact rel.val k)
  obtain⟨p,hp,hp2⟩:=Option.map_eq_some_iff.mp hw
  refine wpAny_getItem_heap (tupleKind_room_in1 hu) (rF I.hok eb) dd hp ?_
  rw [hp2]
  exact h w' _ (I.tok _) rw'
theorem Cq {Q:Value->Shared->Prop} (hu:A.units+1 < cLine) (I:Inv X pins σ H s) (g:sM H a y o) (ry:RelV y u) (h : ∀ s',Inv X pins σ H s'->Q (.bool (!o.isSome)) s') :
  aI (model X.prog X.w) A (compareOp .NotIn u (.ref a)) Q E s:=by
 rcases g with⟨kvs,k,e,ey,l⟩ | ⟨kvs,k,b,e,ey,eb,l⟩
 ·subst ey
  obtain⟨z,hd,vs,rel,dd⟩:=uZ I.hok e
  refine wpAny_notIn_of (uq ry) hd dd.mapOf ?_
  rw [<- (rel.val k).isSome_eq,<- l]
  exact h _ (I.tok _)
 ·subst ey
  cases (show u=be b from ry)
  obtain⟨z,hd,xs,rel,dd⟩:=wY I.hok e
  refine wpAny_notIn_heap (tupleKind_room_in1 hu) (rF I.hok eb) hd dd ?_
  have q:=(rel.val k).isSome_eq
  rw [oo] at q
  rw [<- q,<- l]
  exact h _ (I.tok _)
theorem rZ {h':Heap}{t':Nat}{ob:HO} (I:Inv X pins σ H s) (mu:Mut (H a)) (hs:pR a s.heap h') (he : ∃ q,h'.get? a=some q) (new:dz X.prog X.w (upd H a ob) h' a ob) :
  Inv X pins σ (upd H a ob) { s with heap:=h',toks:=t' }:=
 I.write (x:=a) (e:=a) mu (.inl rfl) (fun b q hb z=>(hs.2 b hb).trans z) he new
theorem Aj {P:Program}{w:World}{H':Hp}{h':Heap}{kvs:List (Key×V)}{vs:List (Key×Value)} (z:kvs.length<=sizeLine) (hd:(a == sysModules)=false) (rel:KV kvs vs) (dd:h'.DictOf (de P w) a vs) :
  dz P w H' h' a (.dK kvs):=⟨z,hd,vs,rel,dd⟩
theorem yn {H':Hp}{Q:Unit->Shared->Prop} (hu:A.units+1 < cLine) (I:Inv X pins σ H s) (g:yA H a y v H') (ry:RelV y u) (rv:RelV v r) (h : ∀ s',Inv X pins σ H' s'->Q () s') :
  aI (model X.prog X.w) A (setItem (.ref a) u r) Q E s:=by
 rcases g with⟨kvs,k,e,ey,l,eH⟩ | ⟨kvs,k,b,e,ey,eb,l,eH⟩
 ·subst ey eH
  obtain⟨z,hd,vs,rel,dd⟩:=Ee I.hok e
  have hz:vs.length<=sizeLine:=by rw [<- rel.length];exact z
  have hl:(putK kvs k v).length<=sizeLine:=by have:=j6 kvs k v;omega
  refine wpAny_setItem_pairs (hsz:=hz) (uq ry) dd fun h' dd' hs=>h _ ?_
  have he : ∃ q,h'.get? a=some q:=let ⟨q,_,_,hq,_⟩:=dd';⟨q,hq⟩
  exact rZ I (by rw [e];exact ek) hs he (Aj hl hd (rel.put k rv) dd')
 ·subst ey eH
  cases (show u=be b from ry)
  obtain⟨z,hd,xs,rel,dd⟩:=Jq I.hok e
  have hz:xs.length<=sizeLine:=by rw [<- vu rel];exact z
  have hl:(putK kvs k v).length<=sizeLine:=by have:=j6 kvs k v;omega
  refine wpAny_setItem_heap (hsz:=hz) (tupleKind_room_in1 hu) (rF I.hok eb) dd fun h' dd' hs=>h _ ?_
  obtain⟨q,es,ep,hq,h2,h3,h4,_,h5⟩:=dd'
  refine rZ I (by rw [e];exact ek) hs ⟨q,hq⟩ ⟨hl,hd,_,(rel.put k eb rv).keeps fun c ys ec => ?_,q,es,ep,hq,h2,h3,h4,h5⟩
  rw [bg (o5 ec e (fun z=>nomatch z))]
  exact ec
end
section
variable {X:Cx}{pins:List (Addr×Obj)}{σ:St}{H:Hp}{s:Shared}{a:Addr}{kvs:List (Key×V)}{k:Key}{u:Value}{A:Around}{E:Value->Shared->Prop}
theorem Aq {Q:Value->Shared->Prop} (I:Inv X pins σ H s) (e:Rd H a (.dK kvs)) (h : ∀ t s',Inv X pins σ H s'->Q (.int kvs.length t) s'):aI (model X.prog X.w) A (call (.builtin "len") [.ref a]) Q E s:=by
 obtain⟨z,hd,vs,rel,dd⟩:=uZ I.hok e
 refine call_len_dict hd dd (by rw [<- rel.length];rw [sizeLine_eq] at z;omega) ?_
 rw [<- rel.length]
 exact h _ _ (I.tok _)
end
theorem t7 {X:Cx}{pins:List (Addr×Obj)}{σ:St}{H:Hp}{s:Shared}{a:Addr}{y:V}{o:Option V} (I:Inv X pins σ H s) (g:sM H a y o):s.TypeIs (.ref a) "dict":=by
 rcases g with⟨kvs,k,e,_,_⟩ | ⟨kvs,k,b,e,_,_,_⟩
 ·obtain⟨_,_,vs,_,dd⟩:=uZ I.hok e
  exact dd.typeIs
 ·obtain⟨_,_,xs,_,dd⟩:=wY I.hok e
  exact dd.typeIs
section
variable {X:Cx}{o i e value:Expr}{pos pos' tpos:Pos}{td ty tv:TE}
end
theorem tR {P:Program}{w:World}{H:Hp} (h:Heap) (hb:sysModules < h.objs.size):dz P w H (h.push { cls := .type "dict",data := .dict #[] }) h.objs.size (.dK []):=
 ⟨b9 _,beq_eq_false_iff_ne.mpr (dH (bb hb)),[],.nil,Heap.DictOf.new h⟩
noncomputable def A5:TE:=fun _ H Q => ∀ p,H p=none->Q (.ref p) (upd H p (.dK []))
section
variable {X:Cx}{pos:Pos}
theorem zO:PE X (.Dict [] [] pos) A5:=fun pins s σ H Q I h=>
 wpAny_Dict_empty ⟨.ref s.heap.objs.size,_,I.laid (a:=s.heap.objs.size) (o := .dK []) (t':=s.toks) (fun _ _ q=>af _ q) (aj _) (tR s.heap I.big),rfl,h _ (I.hok.fresh (aj _))⟩
end
noncomputable def wb:List (TE×TE)->St->Hp->(List (V×V)->Hp->Prop)->Prop
 | [],_,H,Q=>Q [] H
 | (tk,tv)::r,σ,H,Q=>tk σ H fun x H1=>tv σ H1 fun y H2=>wb r σ H2 fun ps H3=>Q ((x,y)::ps) H3
abbrev VV:List (V×V)->List (Value×Value)->Prop:=Paired fun p q=>RelV p.1 q.1/\RelV p.2 q.2
noncomputable def PPs (X:Cx) (pos:Pos) (keys:List (Option Expr)) (values:List Expr) (trs:List (TE×TE)):Prop:=
 ∀ (pins:List (Addr×Obj)) (s:Shared) (σ:St) (H:Hp) (Q:List (V×V)->Hp->Prop),Inv X pins σ H s->wb trs σ H Q ->
  aI (model X.prog X.w) X.A (evalPairs (pairTrees keys values X.env pos)) (fun vs s' => ∃ ps H',Inv X pins σ H' s'/\VV ps vs/\Q ps H') X.xe s
theorem BO {X:Cx}{pos:Pos}:PPs X pos [] [] []:=fun pins s σ H Q I h=>pairTrees_nil_walk ⟨[],H,I,.nil,h⟩
theorem AW {X:Cx}{pos:Pos}{k v:Expr}{ks:List (Option Expr)}{vs:List Expr}{tk tv:TE}{trs:List (TE×TE)} (hk:PE X k tk) (hv:PE X v tv) (hr:PPs X pos ks vs trs) :
  PPs X pos (some k::ks) (v::vs) ((tk,tv)::trs):=fun pins s σ H Q I h=>
 pairTrees_cons_walk (thn (hk pins s σ H _ I h) fun u s1 ⟨x,H1,I1,rx,q1⟩=>thn (hv pins s1 σ H1 _ I1 q1) fun w2 s2 ⟨y,H2,I2,ry,q2⟩=>
  thn (hr pins s2 σ H2 _ I2 q2) fun ws s3 ⟨ps,H3,I3,rel,q3⟩=>⟨(x,y)::ps,H3,I3,.cons ⟨rx,ry⟩ rel,q3⟩)
noncomputable def m6 (kvs more:List (Key×V)):List (Key×V):=more.foldl (fun acc kv=>putK acc kv.1 kv.2) kvs
theorem KV.merge : ∀ {more:List (Key×V)}{rs:List (Key×Value)}{kvs:List (Key×V)}{vs:List (Key×Value)},KV more rs->KV kvs vs->KV (m6 kvs more) (merged vs rs):=by
 intro more rs kvs vs r
 unfold KV at r
 induction r generalizing kvs vs with
 | nil=>intro q;exact q
 | @cons p q ps qs h t ih=>
   intro r0
   have e:KV (putK kvs p.1 p.2) (stored vs q.1 q.2):=by
    have:=r0.put p.1 h.2
    rw [<- h.1];exact this
   exact ih e
theorem kW : ∀ (more kvs:List (Key×V)),(m6 kvs more).length<=kvs.length+more.length
 | [],kvs=>by show kvs.length<=kvs.length+0;omega
 | p::r,kvs=>by
   have h1:=kW r (putK kvs p.1 p.2)
   have h2:=j6 kvs p.1 p.2
   show (m6 (putK kvs p.1 p.2) r).length<=_
   rw [cz];omega
theorem o8 {P:Program}{w:World} : ∀ {kvs:List (Key×V)}{ws:List (Value×Value)},VV (kvs.map fun kv=>(kV kv.1,kv.2)) ws -> ∃ rs,Carries (de P w) ws rs/\KV kvs rs
 | [],_,r=>by rw [pT] at r;cases r;exact⟨[],ek,.nil⟩
 | p::kvs,_,r=>by
   rw [bz] at r
   cases r with
   | @cons a b as bs h t=>
     obtain⟨rs,c,q⟩:=o8 (P:=P) (w:=w) t
     obtain⟨b1,b2⟩:=b
     exact⟨(p.1,b2)::rs,⟨uq h.1,rfl,c⟩,.cons ⟨rfl,h.2⟩ q⟩
noncomputable def DL (trs:List (TE×TE)):TE:=fun σ H Q => ∀ p,H p=none->wb trs σ (upd H p (.dK [])) fun ps H2=>H2 p=some (.dK []) /\ ∃ kvs:List (Key×V),ps=kvs.map (fun kv=>(kV kv.1,kv.2))/\kvs.length<=15/\Q (.ref p) (upd H2 p (.dK (m6 [] kvs)))
theorem B5 {X:Cx}{pos:Pos}{keys:List (Option Expr)}{values:List Expr}{trs:List (TE×TE)} (h:PPs X pos keys values trs) (hall:keys.all (·.isSome)=true) (hl:keys.length=values.length) (h0:keys ≠ [])
  (h15:keys.length<=15):PE X (.Dict keys values pos) (DL trs):=by
 intro pins s σ H Q I q
 have hn:=I.hok.fresh (aj s.heap.objs.size)
 have I1:=I.laid (a:=s.heap.objs.size) (o := .dK []) (h':=s.heap.push { cls := .type "dict",data := .dict #[] }) (t':=s.toks) (fun _ _ q=>af _ q) (aj _) (tR s.heap I.big)
 refine wpAny_Dict_walk (knd:=de X.prog X.w) hall hl h0 h15 (thn (h pins _ σ _ _ I1 (q _ hn)) fun ws s2 ⟨ps,H2,I2,rel,e,kvs,ep,lk,q2⟩ => ?_)
 subst ep
 obtain⟨rs,c,rk⟩:=o8 (P:=X.prog) (w:=X.w) rel
 obtain⟨z,hd,vs0,r0,dd⟩:=Ee I2.hok e
 cases r0
 refine⟨rs,c,dd,fun h' dd' hs=>⟨.ref s.heap.objs.size,_,?_,rfl,q2⟩⟩
 have hz:(m6 [] kvs).length<=sizeLine:=by
  have h1:=kW kvs []
  rw [fM] at h1
  rw [sizeLine_eq];omega
 have he : ∃ q,h'.get? s.heap.objs.size=some q:=let ⟨q,_,_,hq,_⟩:=dd';⟨q,hq⟩
 exact rZ I2 (by rw [e];exact ek) hs he (Aj hz hd (rk.merge .nil) dd')
structure M1 (X:Cx) (o:Expr) (m:Str) (apos:Pos) (e:Expr) (cpos:Pos):Prop where
 base:attributeBase o m X.env (eval o X.env)=eval o X.env
 few:((backTo cpos (starEach [e] X.env)).all (fun x => !x.1)&&(backToKw cpos (keywordEach [] X.env)).all (fun x=>x.1.isSome)
  && decide (([e]:List Expr).length+([]:List Keyword).length+(if ([]:List Keyword).isEmpty then 0 else 1) < 30))=true
 line:(apos.endLine == cpos.line)=true
 trees:backTo cpos (starEach [e] X.env) = [(false,eval e X.env)]
structure M2 (X:Cx) (o:Expr) (m:Str) (apos:Pos) (e f:Expr) (cpos:Pos):Prop where
 base:attributeBase o m X.env (eval o X.env)=eval o X.env
 few:((backTo cpos (starEach [e,f] X.env)).all (fun x => !x.1)&&(backToKw cpos (keywordEach [] X.env)).all (fun x=>x.1.isSome)
  && decide (([e,f]:List Expr).length+([]:List Keyword).length+(if ([]:List Keyword).isEmpty then 0 else 1) < 30))=true
 line:(apos.endLine == cpos.line)=true
 trees:backTo cpos (starEach [e,f] X.env) = [(false,eval e X.env),(false,eval f X.env)]
section
variable {X:Cx}{pins:List (Addr×Obj)}{σ:St}{H:Hp}{s:Shared}{a:Addr}{y d:V}{u r:Value}{o:Option V}{A:Around}{E:Value->Shared->Prop}
end
section
variable {X:Cx}{o e f:Expr}{apos cpos:Pos}{td ty tx:TE}
end
section
variable {X:Cx}{pins:List (Addr×Obj)}{σ:St}{H:Hp}{s:Shared}{a:Addr}{kvs:List (Key×V)}{A:Around}{E:Value->Shared->Prop}
end
section
variable {X:Cx}{pins:List (Addr×Obj)}{σ:St}{H:Hp}{s:Shared}{a:Addr}{y:V}{u:Value}{A:Around}{E:Value->Shared->Prop}
end
end L2
namespace L2
open PySem PySem.Spec PyProof.Rows
section
variable {X:Cx}
theorem yS:fN X (.builtin "len") (fun xs H Q => ∃ a kvs,xs = [V.ref a]/\H a=some (.dK kvs)/\Q (.int kvs.length) H):=by
 intro pins s σ H xs us Q I r h
 obtain⟨a,kvs,rfl,ha,q⟩:=h
 obtain⟨u,rfl,ru⟩:=vals1 r
 cases ru
 exact Aq I (.inl ha) fun t s' I'=>⟨.int kvs.length,H,I',⟨t,rfl⟩,q⟩
end
section
variable {κ:Type} [DecidableEq κ]
end
end L2
end
section
namespace PySem
open Sem (wp)
noncomputable def iu (env:Env):List (Str×NameKind)->List (Str×Addr)->List (Str×Addr)
 | [],acc=>acc
 | (n,k)::r,acc=>if k == .free then iu env r ((n,(env.cells.lookup n).getD 0)::acc) else iu env r acc
theorem jB {scope:Scope}{env:Env} (h : ∀ y∈scope.names,y.2 = .free -> ∃ c,env.cells.lookup y.1=some c):closureFor scope env=pure (iu env scope.names []):=by
 simp only [closureFor]
 have go : ∀ (names:List (Str×NameKind)) (acc:List (Str×Addr)),(∀ y∈names,y.2 = .free -> ∃ c,env.cells.lookup y.1=some c) ->
   (forIn (m:=Sem) names acc fun x r=>if (x.2 == aJ)=true then cellOf env x.1 >>= fun a=>pure (cH ((x.1,a)::r)) else pure (cH r))=pure (iu env names acc):=by
  intro names
  induction names with
  | nil=>intro acc _;rfl
  | cons y r ih=>
    intro acc hy
    obtain⟨n,k⟩:=y
    rw [eJ]
    by_cases hk:k = .free
    ·subst hk
     obtain⟨c,hc⟩:=hy (n,.free) aV rfl
     have e1:cellOf env n=pure c:=by unfold cellOf;rw [hc]
     have e2:iu env ((n,aJ)::r) acc=iu env r ((n,c)::acc):=by
      show (if (aJ == aJ)=true then _ else _)=_
      rw [if_pos (by decide),hc];rfl
     rw [e2,<- ih _ fun z hz=>hy z (az _ hz)]
     simp only [beq_self_eq_true,if_true,e1]
     rfl
    ·have hb:(k == aJ)=false:=by simpa using hk
     have e2:iu env ((n,k)::r) acc=iu env r acc:=by
      show (if (k == aJ)=true then _ else _)=_
      rw [if_neg (by rw [hb];decide)]
     rw [e2,<- ih _ fun z hz=>hy z (az _ hz)]
     simp only [hb,eu,if_false]
     rfl
 exact (congrArg (fun z=>z >>= pure) (go scope.names [] h)).trans rfl
theorem my {env:Env} : ∀ (names:List (Str×NameKind)) (acc:List (Str×Addr)),(∀ y∈names,y.2 = .free -> ∃ c,env.cells.lookup y.1=some c) -> ∀ x c,(iu env names acc).lookup x=some c->env.cells.lookup x=some c\/acc.lookup x=some c
 | [],_,_,_,_,h => .inr h
 | (n,k)::r,acc,hy,x,c,h=>by
   unfold iu at h
   split at h
   ·rename_i hk
    have hk':k = .free:=by simpa using hk
    subst hk'
    obtain⟨d,hd⟩:=hy (n,.free) aV rfl
    rcases my r _ (fun z hz=>hy z (az _ hz)) x c h with e | e
    ·exact .inl e
    ·rw [aL] at e
     cases hb:x == n with
     | true=>
       rw [hb] at e
       rw [beq_iff_eq.mp hb,hd]
       rw [hd] at e
       exact .inl e
     | false=>rw [hb] at e;exact .inr e
   ·exact my r acc (fun z hz=>hy z (az _ hz)) x c h
theorem mm {env:Env}{x:Str} : ∀ (names:List (Str×NameKind)) (acc:List (Str×Addr)),(names.lookup x=some .free\/(acc.lookup x).isSome=true)->((iu env names acc).lookup x).isSome=true
 | [],_,h=>h.elim (fun e=>by cases e) id
 | (y,k)::r,acc,h=>by
   unfold iu
   by_cases hk:(k == .free)=true
   ·rw [if_pos hk]
    refine mm r ((y,(env.cells.lookup y).getD 0)::acc) ?_
    by_cases hy:(x == y)=true
    ·exact .inr (by rw [aL,hy];rfl)
    ·refine h.imp (fun e => ?_) fun e => ?_
     ·rw [aL] at e;simpa only [hy] using e
     ·rw [aL];simpa only [hy] using e
   ·rw [if_neg hk]
    refine mm r acc ?_
    refine h.imp (fun e => ?_) id
    rw [aL] at e
    cases hb:x == y with
    | true=>rw [hb] at e;cases e;exact absurd rfl hk
    | false=>rw [hb] at e;exact e
theorem d4 : ∀ (names:List (Str×NameKind)) (n:Nat) (acc:List (Str×Addr)),cellsFrom n names acc=cellsFrom n names []++acc
 | [],_,_=>rfl
 | (y,k)::r,n,acc=>by
   unfold cellsFrom
   split
   ·rw [d4 r (n+1) ((y,n)::acc),d4 r (n+1) [(y,n)],aN];rfl
   ·exact d4 r n acc
theorem iS {x:Str} : ∀ (names:List (Str×NameKind)) (n:Nat) (acc:List (Str×Addr)) (c:Addr),(cellsFrom n names acc).lookup x=some c->(∃ k∈names,k.1=x/\k.2 = .cell)\/acc.lookup x=some c
 | [],_,_,_,h => .inr h
 | (y,k)::r,n,acc,c,h=>by
   unfold cellsFrom at h
   split at h
   ·rename_i hk
    rcases iS r _ _ c h with⟨z,hz,e⟩ | e
    ·exact .inl ⟨z,az _ hz,e⟩
    ·rw [aL] at e
     cases hb:x == y with
     | true=>exact .inl ⟨(y,k),aV,(beq_iff_eq.mp hb).symm,by simpa using hk⟩
     | false=>rw [hb] at e;exact .inr e
   ·rcases iS r _ _ c h with⟨z,hz,e⟩ | e
    ·exact .inl ⟨z,az _ hz,e⟩
    ·exact .inr e
section
variable {M:Model}{A:Around}{E:Value->Shared->Prop}{s:Shared}
theorem lV {scope:Scope}{globals:Addr}{cl:List (Str×Addr)}{qual:Str}{env:Env}{Q:Env->Shared->Prop}
  (hQ:Q { scope:=scope,locals:=s.heap.objs.size,globals:=globals,cells:=cellsFrom (s.heap.objs.size+1) scope.names cl,qual:=qual,func:=none,code:=env.code,frame:=env.frame,builtins:=env.builtins }
   { s with heap:=pushCells (s.heap.push { cls := .type "dict",data := .dict #[] }) scope.names }) :
  aI M A (newFunctionEnv scope globals cl [] qual none .none (some env)) Q E s:=by
 simp only [newFunctionEnv,BB,if_true]
 refine ag (wpAny_alloc ?_)
 refine ag (wpAny_layCells _ (fun name kind cells=>by cases hkc:kind == bR <;> simp [hkc]) _ _ _ _ ?_)
 rw [show ({ s with heap:=s.heap.push { cls := .type "dict",data := .dict #[] } }:Shared).heap.objs.size=s.heap.objs.size+1 from aW ..]
 exact aK hQ
end
section
variable {prog:Program}{w:World}{A:Around}{R:Result->Shared->Prop}{s:Shared}
theorem ke {elt target iter:Expr}{ifs:List Expr}{scope:Scope}{pos:Pos}{it acc:Value}{env:Env} (I:Nat->Shared->Prop)
  (turn : ∀ n s,I n s->aI (model prog w) A (pyNext it) (fun r s₁=>match r with
   | none=>R (.ok .next) s₁
   | some v=>aI (model prog w) A (letOwnedTupleGo target it v) (fun _ s₁=>aI (model prog w) A (assign target env v) (fun _ s₂=>
     aI (model prog w) A (forIn ifs true fun c r=>if r=true then do let ok <- isTrue c env (eval c env);pure (cH ok) else pure (cH r)) (fun ok s₃=>
      if ok=true then aI (model prog w) A (eval elt env) (fun x s₄=>
       aI (model prog w) A (call (.builtin "list.append") [acc,x]) (fun _ s₅ => ∃ m,m < n/\I m s₅) (fun _ _=>False) s₄) (fun _ _=>False) s₃
      else ∃ m,m < n/\I m s₃) (fun _ _=>False) s₂) (fun _ _=>False) s₁) (fun _ _=>False) s₁) (fun _ _=>False) s)
  (n:Nat) (h:I n s) :
  pS (model prog w) A (.compLoop (.ListComp elt [⟨target,iter,ifs,0⟩] scope pos) 0 it acc env) R s:=by
 refine codeAny_loop rfl I (fun n s hI => ?_) n h
 show aI _ A ((compTurn (.ListComp elt [⟨target,iter,ifs,0⟩] scope pos) 0 it acc env).onRaise (fun x=>do noteFrame x env;theTreesLotGoes x)) _ _ s
 refine wpAny_noted ?_
 rw [compTurn_list]
 refine ag (wpAny_standAt (ag (cf (turn n s hI) (fun r s₁ h₁ => ?_) fun _ _ h'=>h'.elim)))
 cases r with
 | none=>exact aK h₁
 | some v=>
   refine ag (cf h₁ (fun _ s₁ h₁ => ?_) fun _ _ h'=>h'.elim)
   refine ag (cf h₁ (fun _ s₂ h₂=>ag (cf h₂ (fun ok s₃ h₃ => ?_) fun _ _ h'=>h'.elim)) fun _ _ h'=>h'.elim)
   cases ok with
   | false=>exact aK ⟨rfl,h₃⟩
   | true=>
     exact ag (ag (cf h₃ (fun x s₄ h₄=>ag (cf h₄ (fun _ s₅ h₅=>aK (aK ⟨rfl,h₅⟩)) fun _ _ h'=>h'.elim)) fun _ _ h'=>h'.elim))
end
end PySem
end
section
namespace G
open PySem
section
inductive U where
 | non | bl (b:Bool) | int (i:Int) | str (x:Str) | tup (us:List U) | ref (n:Nat) | obj (a:Addr)
 deriving Inhabited
inductive Cell where
 | lst (us:List U)
 | frz (us:List U)
 | dic (kvs:List (L2.Key×U))
 deriving Inhabited
abbrev Sto:=List Cell
abbrev Rho:=List (Option U)
abbrev Res (α:Type):=Option (α×Sto)
abbrev ME:=Rho->Sto->Res U
abbrev MT:=Rho->Sto->Res Bool
abbrev MA:=Rho->Sto->Res (List U)
abbrev MF:=List U->Sto->Res U
noncomputable def bnd {α β:Type} (r:Option (α×Sto)) (k:α->Sto->Option β):Option β:=match r with
 | none=>none
 | some p=>k p.1 p.2
theorem aD {α β:Type}{a:α}{S:Sto}{k:α->Sto->Option β}:bnd (some (a,S)) k=k a S:=rfl
theorem aZ {α β:Type}{r:Option (α×Sto)}{k:α->Sto->Option β}{b:β} (h:bnd r k=some b) : ∃ a S,r=some (a,S)/\k a S=some b:=by
 cases r with
 | none=>cases h
 | some p=>exact⟨p.1,p.2,rfl,h⟩
noncomputable def big:Nat:=16777216
noncomputable def getL (S:Sto) (n:Nat):Option (List U):=match S[n]? with
 | some (.lst us)=>some us
 | some (.frz us)=>some us
 | some (.dic _)=>none
 | none=>none
abbrev F2:=U->U->Sto->Res U
noncomputable def cW:F2:=fun x y S=>match x,y with
 | .int i,.int j=>some (.int (i+j),S)
 | .tup xs,.tup ys=>if xs.length+ys.length<=big then some (.tup (xs++ys),S) else none
 | .ref n,.ref m=>match S[n]?,S[m]? with
   | some (.lst xs),some (.lst ys)=>if xs.length+ys.length<=big then some (.ref S.length,S ++ [.lst (xs++ys)]) else none
   | _,_=>none
 | _,_=>none
noncomputable def pD:F2:=fun x y S=>match x,y with
 | .int i,.int j=>some (.int (i - j),S)
 | _,_=>none
noncomputable def iE (i j:Int):Prop:=(-(2 ^ 64) < i/\i < 2 ^ 64)\/(-(2 ^ 64) < j/\j < 2 ^ 64)
noncomputable instance (i j:Int):Decidable (iE i j):=bO _
noncomputable def xi (n:Nat) (k:Int):Prop:=0<=k/\k < 1000/\0 < n/\n < 1000
noncomputable instance (n:Nat) (k:Int):Decidable (xi n k):=bO _
noncomputable def d6:F2:=fun x y S=>match x,y with
 | .int i,.int j=>if iE i j then some (.int (i*j),S) else none
 | .tup xs,.int k=>if xi xs.length k then some (.tup (aE k.toNat xs).flatten,S) else none
 | _,_=>none
noncomputable def ox (j:Int):Prop:=0 < j/\j < 1073741824
noncomputable instance (j:Int):Decidable (ox j):=bO _
noncomputable def oDiv:F2:=fun x y S=>match x,y with
 | .int i,.int j=>if ox j then some (.int (i / j),S) else none
 | _,_=>none
noncomputable def oMod:F2:=fun x y S=>match x,y with
 | .int i,.int j=>if 0 < j then some (.int (i % j),S) else none
 | _,_=>none
noncomputable def DX (i j:Int):Prop:=0<=j/\j<=1000000/\i.natAbs < 2 ^ 64
noncomputable instance (i j:Int):Decidable (DX i j):=bO _
noncomputable def se:F2:=fun x y S=>match x,y with
 | .int i,.int j=>if DX i j then some (.int (i ^ j.toNat),S) else none
 | _,_=>none
noncomputable def yL (p:Int->Int->Bool):F2:=fun x y S=>match x,y with
 | .int i,.int j=>some (.bl (p i j),S)
 | _,_=>none
abbrev oLt:F2:=yL fun i j=>decide (i < j)
abbrev oLe:F2:=yL fun i j=>decide (i<=j)
abbrev oGt:F2:=yL fun i j=>decide (j < i)
abbrev oGe:F2:=yL fun i j=>decide (j<=i)
noncomputable def dO (S:Sto):U->Option (List U)
 | .tup us=>some us
 | .ref n=>getL S n
 | _=>none
noncomputable def cQ {α β:Type} (f:α->Option β):List α->Option (List β)
 | []=>some []
 | x::xs=>(f x).bind fun y=>(cQ f xs).map fun ys=>y::ys
noncomputable def toD (S:Sto):Nat->U->Option PyData
 | 0,_=>none
 | _+1,.non=>some .none
 | _+1,.bl b=>some (.bool b)
 | _+1,.int i=>some (.int i)
 | _+1,.str x=>if gv (.str x)=true then some (.str x) else none
 | f+1,.tup us=>(cQ (toD S f) us).map .tuple
 | f+1,.ref n=>(getL S n).bind fun us=>(cQ (toD S f) us).map .list
 | _+1,.obj _=>none
noncomputable def eqU (S:Sto) (x y:U):Option Bool:=(toD S 40 x).bind fun a=>(toD S 40 y).map fun b=>iW a b
noncomputable def oEq:F2:=fun x y S=>(eqU S x y).map fun b=>(.bl b,S)
noncomputable def oNe:F2:=fun x y S=>(eqU S x y).map fun b=>(.bl (!b),S)
noncomputable def keyOf:U->Option L2.Key
 | .int i=>some (.inl i)
 | .str x=>some (.inr x)
 | _=>none
noncomputable def hG (kvs:List (L2.Key×U)) (k:L2.Key):Option U:=(kvs.find? fun kv=>decide (kv.1=k)).map (·.2)
noncomputable def iT (kvs:List (L2.Key×U)) (k:L2.Key) (u:U):List (L2.Key×U):=
 if (kvs.any fun kv=>decide (kv.1=k))=true then kvs.map (fun kv=>if kv.1=k then (kv.1,u) else kv) else kvs ++ [(k,u)]
noncomputable def fi (S:Sto):U->Option (List (L2.Key×U))
 | .ref n=>match S[n]? with
   | some (.dic kvs)=>some kvs
   | _=>none
 | _=>none
noncomputable def oIx:F2:=fun x y S=>match fi S x with
 | some kvs=>(keyOf y).bind fun k=>(hG kvs k).map fun u=>(u,S)
 | none=>match y with
   | .int i=>((dO S x).bind fun us=>L2.atI us i).map fun u=>(u,S)
   | _=>none
noncomputable def ab (i:Nat):ME:=fun ρ S=>match ρ[i]? with
 | some (some u)=>some (u,S)
 | _=>none
noncomputable def mC (u:U):ME:=fun _ S=>some (u,S)
noncomputable def m1 (f:U->Sto->Res U) (a:ME):ME:=fun ρ S=>bnd (a ρ S) fun x S1=>f x S1
noncomputable def m2 (f:F2) (a b:ME):ME:=fun ρ S=>bnd (a ρ S) fun x S1=>bnd (b ρ S1) fun y S2=>f x y S2
noncomputable def ai:MA:=fun _ S=>some ([],S)
noncomputable def aa (a:ME) (r:MA):MA:=fun ρ S=>bnd (a ρ S) fun x S1=>bnd (r ρ S1) fun xs S2=>some (x::xs,S2)
noncomputable def ft (a:MA):ME:=fun ρ S=>bnd (a ρ S) fun xs S1=>if xs.length<=big then some (.tup xs,S1) else none
noncomputable def cm (a:MA):ME:=fun ρ S=>bnd (a ρ S) fun xs S1=>if xs.length<=big then some (.ref S1.length,S1 ++ [.lst xs]) else none
noncomputable def mFn (f:MF) (a:MA):ME:=fun ρ S=>bnd (a ρ S) fun xs S1=>f xs S1
noncomputable def h9:U->Sto->Res U:=fun x S=>match x with
 | .int i=>some (.int (-i),S)
 | _=>none
noncomputable def uR (c:MT) (a b:ME):ME:=fun ρ S=>bnd (c ρ S) fun k S1=>if k then a ρ S1 else b ρ S1
noncomputable def cOf (a:ME):MT:=fun ρ S=>bnd (a ρ S) fun x S1=>match x with
 | .bl b=>some (b,S1)
 | _=>none
noncomputable def tK (a b:MT):MT:=fun ρ S=>bnd (a ρ S) fun k S1=>if k then b ρ S1 else some (false,S1)
noncomputable def cOr (a b:MT):MT:=fun ρ S=>bnd (a ρ S) fun k S1=>if k then some (true,S1) else b ρ S1
noncomputable def nL (a:MT):MT:=fun ρ S=>bnd (a ρ S) fun k S1=>some (!k,S1)
noncomputable def cTT:MT:=fun _ S=>some (true,S)
inductive Src where
 | imm (us:List U)
 | mut (n:Nat)
 | enl (n:Nat)
 | zlt (n:Nat) (us:List U)
abbrev MI:=Rho->Sto->Option (Src×Sto)
noncomputable def okR (i:Int):Prop := -(2 ^ 62)<=i/\i < 2 ^ 62
noncomputable instance (i:Int):Decidable (okR i):=bO _
noncomputable def bh (i:Int) (n:Nat):List U:=(ar n).map fun (k:Nat) => .int (i+k)
noncomputable def iR1 (a:MA):MI:=fun ρ S=>bnd (a ρ S) fun xs S1=>match xs with
 | [.int j]=>if okR j then some (.imm (bh 0 j.toNat),S1) else none
 | _=>none
noncomputable def iR2 (a:MA):MI:=fun ρ S=>bnd (a ρ S) fun xs S1=>match xs with
 | [.int i,.int j]=>if okR i/\okR j then some (.imm (bh i (j - i).toNat),S1) else none
 | _=>none
noncomputable def cM (a:ME):MI:=fun ρ S=>bnd (a ρ S) fun x S1=>match x with
 | .tup us=>some (.imm us,S1)
 | .ref n=>(getL S1 n).map fun _=>(.mut n,S1)
 | _=>none
noncomputable def rA (a:MA):MI:=fun ρ S=>bnd (a ρ S) fun xs S1=>match xs with
 | [.ref n,.tup us]=>(getL S1 n).map fun _=>(.zlt n us,S1)
 | _=>none
noncomputable def eU (t:MT) (e:ME) (ρ:Rho):List U->List U->Sto->Res (List U)
 | [],acc,S=>some (acc,S)
 | x::xs,acc,S=>bnd (t (ρ ++ [some x]) S) fun k S1=>if k then bnd (e (ρ ++ [some x]) S1) fun y S2=>eU t e ρ xs (acc ++ [y]) S2 else eU t e ρ xs acc S1
noncomputable def jd (t:MT) (e:ME) (ρ:Rho) (n:Nat):Nat->Nat->List U->Sto->Res (List U)
 | 0,_,_,_=>none
 | f+1,i,acc,S=>(getL S n).bind fun us=>match us[i]? with
   | none=>some (acc,S)
   | some x=>bnd (t (ρ ++ [some x]) S) fun k S1=>if k then bnd (e (ρ ++ [some x]) S1) fun y S2=>jd t e ρ n f (i+1) (acc ++ [y]) S2 else jd t e ρ n f (i+1) acc S1
noncomputable def fuel:Nat:=100000
noncomputable def Ap (t:MT) (e:ME) (ρ:Rho):Src->Sto->Res (List U)
 | .imm us,S=>eU t e ρ us [] S
 | .mut n,S=>jd t e ρ n fuel 0 [] S
 | _,_=>none
noncomputable def bX (it:MI) (t:MT) (e:ME):ME:=fun ρ S=>bnd (it ρ S) fun src S1=>bnd (Ap t e ρ src S1) fun ys S2=>if ys.length < big then some (.ref S2.length,S2 ++ [.lst ys]) else none
inductive Fl where
 | nx | rt (u:U) | bk | ct
abbrev MS:=Rho->Sto->Option (Fl×Rho×Sto)
noncomputable def cJ:MS:=fun ρ S=>some (.nx,ρ,S)
noncomputable def ba (a b:MS):MS:=fun ρ S=>match a ρ S with
 | some (.nx,ρ1,S1)=>b ρ1 S1
 | r=>r
noncomputable def bC (i:Nat) (e:ME):MS:=fun ρ S=>bnd (e ρ S) fun x S1=>some (.nx,ρ.set i (some x),S1)
noncomputable def dy (o i e:ME):MS:=fun ρ S=>bnd (e ρ S) fun x S1=>bnd (o ρ S1) fun p S2=>bnd (i ρ S2) fun j S3=>match p with
 | .ref n=>match S3[n]? with
   | some (.lst us)=>(match j with
     | .int k=>(L2.ixN us.length k).map fun m=>(.nx,ρ,S3.set n (.lst (us.set m x)))
     | _=>none)
   | some (.dic kvs)=>(keyOf j).bind fun k=>if kvs.length < big then some (.nx,ρ,S3.set n (.dic (iT kvs k x))) else none
   | _=>none
 | _=>none
noncomputable def cy (e:ME):MS:=fun ρ S=>bnd (e ρ S) fun _ S1=>some (.nx,ρ,S1)
noncomputable def cK (e:ME):MS:=fun ρ S=>bnd (e ρ S) fun x S1=>some (.rt x,ρ,S1)
noncomputable def sIf (c:MT) (a b:MS):MS:=fun ρ S=>bnd (c ρ S) fun k S1=>if k then a ρ S1 else b ρ S1
noncomputable def aft (r:Option (Fl×Rho×Sto)) (k:MS):Option (Fl×Rho×Sto):=match r with
 | some (.nx,ρ1,S1)=>k ρ1 S1
 | some (.ct,ρ1,S1)=>k ρ1 S1
 | some (.bk,ρ1,S1)=>some (.nx,ρ1,S1)
 | r=>r
noncomputable def sN (i:Nat) (b:MS):List U->MS
 | [],ρ,S=>some (.nx,ρ,S)
 | x::xs,ρ,S=>aft (b (ρ.set i (some x)) S) (sN i b xs)
noncomputable def forL (i:Nat) (b:MS) (n:Nat):Nat->Nat->MS
 | 0,_,_,_=>none
 | f+1,k,ρ,S=>(getL S n).bind fun us=>match us[k]? with
   | none=>some (.nx,ρ,S)
   | some x=>aft (b (ρ.set i (some x)) S) (forL i b n f (k+1))
noncomputable def JX (i:Nat) (b:MS):Src->MS
 | .imm us=>sN i b us
 | .mut n=>forL i b n fuel 0
 | _=>fun _ _=>none
noncomputable def dD (i:Nat) (it:MI) (b:MS):MS:=fun ρ S=>bnd (it ρ S) fun src S1=>JX i b src ρ S1
noncomputable def whl (c:MT) (b:MS):Nat->MS
 | 0,_,_=>none
 | f+1,ρ,S=>bnd (c ρ S) fun k S1=>if k then aft (b ρ S1) (whl c b f) else some (.nx,ρ,S1)
noncomputable def gU (c:MT) (b:MS):MS:=whl c b fuel
noncomputable def run (k n:Nat) (b:MS):MF:=fun us S=>if us.length=k then match b (us.map some++aE (n - k) none) S with
  | some (.rt u,_,S1)=>some (u,S1)
  | some (.nx,_,S1)=>some (.non,S1)
  | _=>none
 else none
noncomputable def bW:MF:=fun us S=>match us with
 | [x]=>(match fi S x with
   | some kvs=>some (.int kvs.length,S)
   | none=>(dO S x).map fun xs=>(.int xs.length,S))
 | _=>none
noncomputable def bG:MF:=fun us S=>match us with
 | [x]=>(dO S x).map fun xs=>(.tup xs,S)
 | _=>none
noncomputable def p9:MF:=fun us S=>match us with
 | [.int i,.int j]=>some (.int (if j > i then j else i),S)
 | _=>none
noncomputable def tZ:U->Option Int
 | .int i=>some i
 | _=>none
noncomputable def nH:List Int->Option Int
 | []=>none
 | x::xs=>match nH xs with
   | none=>some x
   | some m=>some (if m < x then m else x)
noncomputable def mE:MF:=fun us S=>match us with
 | [.int i,.int j]=>some (.int (if j < i then j else i),S)
 | [.ref n]=>((getL S n).bind fun xs=>(cQ tZ xs).bind nH).map fun m=>(.int m,S)
 | _=>none
noncomputable def gW (it:MI):ME:=fun ρ S=>bnd (it ρ S) fun src S1=>match src with
 | .imm us=>if us.length<=big then some (.ref S1.length,S1 ++ [.lst us]) else none
 | _=>none
noncomputable def kX (it:MI):ME:=fun ρ S=>bnd (it ρ S) fun src S1=>match src with
 | .imm us=>if us.length<=big then some (.tup us,S1) else none
 | _=>none
noncomputable def tyU (S:Sto):U->Option String
 | .non=>some "NoneType"
 | .bl _=>some "bool"
 | .int _=>some "int"
 | .str _=>some "str"
 | .tup _=>some "tuple"
 | .ref n=>match S[n]? with
   | some (.lst _)=>some "list"
   | some (.dic _)=>some "dict"
   | _=>none
 | .obj _=>none
noncomputable def EI (d:PyData):Prop:=d.showable=true/\d.shown.length<=sizeLine
noncomputable instance (d:PyData):Decidable (EI d):=bO _
noncomputable def B6 (t T:String):Bool:=t == T||(t == "bool"&&T == "int")
noncomputable def jE (T:String):U->Sto->Res U:=fun x S=>(tyU S x).map fun t=>(.bl (B6 t T),S)
noncomputable def mML (f:Nat->List U->Sto->Res U) (o:ME) (a:MA):ME:=fun ρ S=>bnd (o ρ S) fun p S1=>match p with
 | .ref n=>(getL S1 n).bind fun _=>bnd (a ρ S1) fun xs S2=>f n xs S2
 | _=>none
noncomputable def bH:Nat->List U->Sto->Res U:=fun n xs S=>match xs with
 | [x]=>match S[n]? with
   | some (.lst us)=>if us.length < big then some (.non,S.set n (.lst (us ++ [x]))) else none
   | _=>none
 | _=>none
noncomputable def jv:Nat->List U->Sto->Res U:=fun n xs S=>match xs with
 | [.int i]=>match S[n]? with
   | some (.lst us)=>if okR i then (L2.ixN us.length i).bind fun j=>us[j]?.map fun y=>(y,S.set n (.lst (us.eraseIdx j))) else none
   | _=>none
 | _=>none
noncomputable def so:Nat->List U->Sto->Res U:=fun n xs S=>match xs with
 | []=>match S[n]? with
   | some (.lst us)=>us[us.length - 1]?.map fun y=>(y,S.set n (.lst us.dropLast))
   | _=>none
 | _=>none
noncomputable def mMT (f:List U->List U->Sto->Res U) (o:ME) (a:MA):ME:=fun ρ S=>bnd (o ρ S) fun p S1=>match p with
 | .tup us=>bnd (a ρ S1) fun xs S2=>f us xs S2
 | _=>none
end
end G
end
section
namespace L2
open PySem PySem.Spec PyProof.Rows
noncomputable def blk (X:Cx) (N':List Str) (scope:Scope) (s₂:Shared) (H₂:Hp) (fp:List Addr):Cx:=
 { X with
  N:=N'
  s₀:=s₂
  H₀:=H₂
  env:={ scope:=relabel scope X.env,locals:=s₂.heap.objs.size+1,globals:=X.env.globals,cells:=cellsFrom (s₂.heap.objs.size+2) scope.names (iu X.env scope.names []),qual:=X.env.qual,func:=none,code:=X.env.code,frame:=X.env.frame,builtins:=X.env.builtins }
  outer:=X.stack
  ex:=fp
  fn:=fun x=>scope.names.lookup x == some .cell
  pn := []
  xe:=fun _ _=>False }
structure gQ (X:Cx) (N':List Str) (scope:Scope) (xs:List Str):Prop where
 kind:scope.kind = .function
 nd:(scope.names.map (·.1)).Nodup
 free : ∀ y∈scope.names,y.2 = .free->X.env.kindOf y.1=some .cell\/X.env.kindOf y.1=some .free
 own : ∀ x∈xs,scope.names.lookup x=some .local\/scope.names.lookup x=some .cell
 ndN:N'.Nodup
 len:N'.length=X.N.length+xs.length
 last : ∀ (j:Nat) (x:Str),xs[j]? = some x->N'[X.N.length+j]? = some x
 vis : ∀ (i:Nat) (y:Str),i < X.N.length->N'[i]? = some y->(scope.names.lookup y=some .local\/scope.names.lookup y=some .cell\/scope.names.lookup y=some .free)->X.N[i]? = some y/\scope.names.lookup y=some .free
theorem fE {env:Env} : ∀ {names:List (Str×NameKind)}{x:Str}{k:NameKind},
  (names.map fun (n,k)=>if (k == aJ&&env.scope.kind == .function&&env.kindOf n == some .cell) then (n,bR) else (n,k)).lookup x=some k ->
  names.lookup x=some k\/(names.lookup x=some .free/\k = .cell)
 | [],_,_,h=>by simp at h
 | (n,k')::r,x,k,h=>by
   have ih := @fE env r x k
   have h':gf x ((if (k' == aJ&&env.scope.kind == .function&&env.kindOf n == some .cell)=true then (n,bR) else (n,k'))::(r.map fun (n,k)=>if (k == aJ&&env.scope.kind == .function&&env.kindOf n == some .cell) then (n,bR) else (n,k)))=some k:=h
   by_cases hc:(k' == aJ&&env.scope.kind == .function&&env.kindOf n == some .cell)=true
   ·rw [if_pos hc] at h'
    rw [aL] at h' ⊢
    cases hx:x == n with
    | true=>
      rw [hx] at h'
      have hk:k' = .free:=by
       rw [aB,aB] at hc
       simpa using hc.1.1
      subst hk
      exact .inr ⟨rfl,(bB h').symm⟩
    | false=>rw [hx] at h';exact ih h'
   ·rw [if_neg hc] at h'
    rw [aL] at h' ⊢
    cases hx:x == n with
    | true=>rw [hx] at h';exact .inl h'
    | false=>rw [hx] at h';exact ih h'
theorem jk {env:Env} : ∀ {names:List (Str×NameKind)}{x:Str},names.lookup x=some .cell ->
  (names.map fun (n,k)=>if (k == aJ&&env.scope.kind == .function&&env.kindOf n == some .cell) then (n,bR) else (n,k)).lookup x=some .cell
 | [],_,h=>by simp at h
 | (n,k')::r,x,h=>by
   have ih := @jk env r x
   show gf x ((if (k' == aJ&&env.scope.kind == .function&&env.kindOf n == some .cell)=true then (n,bR) else (n,k'))::_)=_
   rw [aL] at h
   cases hx:x == n with
   | true=>
     rw [hx] at h
     cases h
     simp [aL,hx]
   | false=>
     rw [hx] at h
     by_cases hc:(k' == aJ&&env.scope.kind == .function&&env.kindOf n == some .cell)=true
     ·rw [if_pos hc];simp only [aL,hx];exact ih h
     ·rw [if_neg hc];simp only [aL,hx];exact ih h
theorem jo {env:Env} : ∀ {names:List (Str×NameKind)}{x:Str},names.lookup x=some .free ->
  (names.map fun (n,k)=>if (k == aJ&&env.scope.kind == .function&&env.kindOf n == some .cell) then (n,bR) else (n,k)).lookup x=some .cell \/
  (names.map fun (n,k)=>if (k == aJ&&env.scope.kind == .function&&env.kindOf n == some .cell) then (n,bR) else (n,k)).lookup x=some .free
 | [],_,h=>by simp at h
 | (n,k')::r,x,h=>by
   have ih := @jo env r x
   show gf x ((if (k' == aJ&&env.scope.kind == .function&&env.kindOf n == some .cell)=true then (n,bR) else (n,k'))::_)=_\/gf x ((if (k' == aJ&&env.scope.kind == .function&&env.kindOf n == some .cell)=true then (n,bR) else (n,k'))::_)=_
   rw [aL] at h
   by_cases hc:(k' == aJ&&env.scope.kind == .function&&env.kindOf n == some .cell)=true
   ·rw [if_pos hc]
    cases hx:x == n with
    | true=>exact .inl (by simp [aL,hx])
    | false=>
      rw [hx] at h
      simp only [aL,hx];exact ih h
   ·rw [if_neg hc]
    cases hx:x == n with
    | true=>rw [hx] at h;cases h;exact .inr (by simp [aL,hx])
    | false=>
      rw [hx] at h
      simp only [aL,hx];exact ih h
theorem lX {env:Env} : ∀ {names:List (Str×NameKind)}{x:Str},names.lookup x=some .globalImplicit ->
  (names.map fun (n,k)=>if (k == aJ&&env.scope.kind == .function&&env.kindOf n == some .cell) then (n,bR) else (n,k)).lookup x=some .globalImplicit
 | [],_,h=>by simp at h
 | (n,k')::r,x,h=>by
   have ih := @lX env r x
   show gf x ((if (k' == aJ&&env.scope.kind == .function&&env.kindOf n == some .cell)=true then (n,bR) else (n,k'))::_)=_
   rw [aL] at h
   cases hx:x == n with
   | true=>
     rw [hx] at h
     cases h
     simp [aL,hx]
   | false=>
     rw [hx] at h
     by_cases hc:(k' == aJ&&env.scope.kind == .function&&env.kindOf n == some .cell)=true
     ·rw [if_pos hc];simp only [aL,hx];exact ih h
     ·rw [if_neg hc];simp only [aL,hx];exact ih h
theorem kC : ∀ {names:List (Str×NameKind)}{x:Str}{k:NameKind},(names.map (·.1)).Nodup->(x,k)∈names->names.lookup x=some k
 | [],_,_,_,h=>by simp at h
 | (n,k')::r,x,k,nd,h=>by
   rw [bz,dq] at nd
   rw [aL]
   rcases aG.mp h with e | h2
   ·cases e;simp
   ·have hne:x≠n:=by
     intro e
     subst e
     exact nd.1 (aQ.mpr ⟨(x,k),h2,rfl⟩)
    have hb:(x == n)=false:=beq_eq_false_iff_ne.mpr hne
    rw [hb]
    exact kC nd.2 h2
theorem jb {X:Cx}{scope:Scope}{n:Nat} (hf : ∀ y∈scope.names,y.2 = .free -> ∃ c,X.env.cells.lookup y.1=some c) {x:Str}{c:Addr}
  (h:(cellsFrom n scope.names (iu X.env scope.names [])).lookup x=some c):(cellsFrom n scope.names []).lookup x=some c\/X.env.cells.lookup x=some c:=by
 rw [d4,fR] at h
 cases q:(cellsFrom n scope.names []).lookup x with
 | some d=>rw [q] at h;exact .inl h
 | none=>
   rw [q] at h
   have h':(iu X.env scope.names []).lookup x=some c:=h
   rcases my scope.names [] hf x c h' with e | e
   ·exact .inr e
   ·cases e
section
variable {X:Cx}{pins:List (Addr×Obj)}{σ:St}{H₂:Hp}{s₂:Shared}{N':List Str}{scope:Scope}{xs:List Str}{fp:List Addr}
theorem gQ.frees (C:gQ X N' scope xs) (ok:X.Ok) : ∀ y∈scope.names,y.2 = .free -> ∃ c,X.env.cells.lookup y.1=some c:=fun y hy e=>ok.has y.1 (C.free y hy e)
theorem CL (C:gQ X N' scope xs) {y:Str}{n:Nat} (h:scope.names.lookup y=some .cell\/scope.names.lookup y=some .free) : ∃ c,(cellsFrom n scope.names (iu X.env scope.names [])).lookup y=some c:=by
 refine fD.mp (fY scope.names n _ ?_)
 rcases h with h | h
 ·exact .inl h
 ·exact .inr (mm scope.names [] (.inl h))
theorem Gw (I:Inv X pins σ H₂ s₂) (C:gQ X N' scope xs) (hfp : ∀ b∈fp,pb X pins H₂ b) (hlt : ∀ b∈fp,b < s₂.heap.objs.size):(blk X N' scope s₂ H₂ fp).Ok:=by
 have own : ∀ y c,(cellsFrom (s₂.heap.objs.size+2) scope.names []).lookup y=some c->s₂.heap.objs.size+2<=c:=fun y c h=>by
  have ok:=cellsFrom_ok scope.names ((s₂.heap.push default).push default) (s₂.heap.objs.size+2) [] ⟨fun _ _ hm=>(nomatch hm),fv⟩ (by rw [aW,aW];exact aj _)
  rw [aW,aW] at ok
  exact (ok.empty y c (bJ h)).2
 have apart:(cellsFrom (s₂.heap.objs.size+2) scope.names []).Pairwise fun x y=>x.2≠y.2:=by
  have ok:=cellsFrom_ok scope.names ((s₂.heap.push default).push default) (s₂.heap.objs.size+2) [] ⟨fun _ _ hm=>(nomatch hm),fv⟩ (by rw [aW,aW];exact aj _)
  rw [aW,aW] at ok
  exact ok.apart
 have old : ∀ y c,X.env.cells.lookup y=some c->c < s₂.heap.objs.size:=fun y c h=>by obtain⟨v,z⟩:=I.cell y c h;exact z.lt
 refine⟨I.ok.mod,C.kind,I.ok.glob,I.ok.blt,iw _,fun y z c h1 h2 => ?_,fun y hy => ?_,fun y c hy h => ?_,I.ok.hd,I.ok.frames,.inl rfl,fun b hb=>⟨?_,fun y c h z => ?_⟩,I.bs,br I.ok.bsz I.sz,fun b o e hb => ?_,fun b hb z => ?_,I.stack,I.stkFree⟩
 ·rcases jb (C.frees I.ok) h1 with a | a <;> rcases jb (C.frees I.ok) h2 with b | b
  ·exact name_of_addr apart (bJ a) (bJ b)
  ·exact absurd (aF (old z c b) (br (fA _ 2) (own y c a))) (bD _)
  ·exact absurd (aF (old y c a) (br (fA _ 2) (own z c b))) (bD _)
  ·exact I.ok.inj y z c a b
 ·have hy:(relabel scope X.env).names.lookup y=some .cell\/(relabel scope X.env).names.lookup y=some .free:=hy
  refine CL C ?_
  rcases hy with hy | hy
  ·rcases fE hy with e | ⟨e,_⟩
   ·exact .inl e
   ·exact .inr e
  ·rcases fE hy with e | ⟨e,_⟩
   ·exact .inr e
   ·exact .inr e
 ·have hy':scope.names.lookup y=some .cell:=by simpa [blk] using hy
  have h':(cellsFrom (s₂.heap.objs.size+2) scope.names (iu X.env scope.names [])).lookup y=some c:=h
  rw [d4,fR] at h'
  have q:=fD.mp (fY scope.names (s₂.heap.objs.size+2) [] (.inl hy'))
  obtain⟨d,hd⟩:=q
  rw [hd] at h'
  have e:d=c:=bB h'
  subst e
  have:=own y d hd
  show s₂.heap.objs.size<=d
  omega
 ·have:=hlt b hb
  exact bb (dr this)
 ·have:=hlt b hb
  rcases jb (C.frees I.ok) h with a | a
  ·exact absurd (aF this (br (fA _ 2) (z▸own y c a))) (bD _)
  ·exact (hfp b hb).2.2.2.2.1 y c a z
 ·have z:=(hfp b hb).2.2.2.1
  rcases z with z | z
  ·exact I.ok.noex b o e z
  ·exact absurd (aF (aw e) (br I.ok.bsz z)) (bD _)
 ·rcases aG.mp (I.stkSub b z) with e | e
  ·exact (hfp b hb).2.1 e
  ·exact (hfp b hb).2.2.1 e
theorem xM (I:Inv X pins σ H₂ s₂) (C:gQ X N' scope xs) (hfp : ∀ b∈fp,pb X pins H₂ b) (hlt : ∀ b∈fp,b < s₂.heap.objs.size) {lo do':Obj} (hdo:do'.data = .dict #[]) (hdo2:do'.isFreed=false) (hlo:lo.isFreed=false) :
  Inv (blk X N' scope s₂ H₂ fp) [] (σ++aE xs.length none) H₂ { s₂ with heap:=pushCells ((s₂.heap.push lo).push do') scope.names }:=by
 have sz:((s₂.heap.push lo).push do').objs.size=s₂.heap.objs.size+2:=by rw [aW,aW]
 have okc:=cellsFrom_ok scope.names ((s₂.heap.push lo).push do') (s₂.heap.objs.size+2) [] ⟨fun _ _ hm=>(nomatch hm),fv⟩ (by rw [sz];exact aj _)
 rw [sz] at okc
 have kp : ∀ b o,s₂.heap.get? b=some o->(pushCells ((s₂.heap.push lo).push do') scope.names).get? b=some o:=fun b o e=>pushCells_keeps _ _ b o (af _ (af _ e))
 have hL:(pushCells ((s₂.heap.push lo).push do') scope.names).get? (s₂.heap.objs.size+1)=some do':=pushCells_keeps _ _ _ _ (by
  have e:s₂.heap.objs.size+1=(s₂.heap.push lo).objs.size:=by rw [aW]
  rw [e];exact ay _ hdo2)
 refine⟨Gw I C hfp hlt,rfl,I.bare,Un.kept kp,⟨fun _=>none,⟨do',#[],_,hL,hdo,fun e he=>by simp at he,fun _=>rfl⟩,fun i y v h1 h2 h3 => ?_⟩,fun y c h => ?_,I.hok.fresh (iw _),fun y c h => ?_,fun p hp=>absurd (show p∈([]:List (Addr×Obj)) from hp) (by simp),I.hok.kept kp,?_⟩
 ·have hi:i < X.N.length:=by
   by_cases hi:i < X.N.length
   ·exact hi
   ·rw [av (by rw [I.len];omega),fZ] at h2
    split at h2 <;> simp at h2
  rw [aM (by rw [I.len];exact hi)] at h2
  have hv:scope.names.lookup y=some .local\/scope.names.lookup y=some .cell\/scope.names.lookup y=some .free:=by
   rcases h3 with h3 | h3 | h3 <;> rcases fE h3 with e | ⟨e,e'⟩
   ·exact .inl e
   ·cases e'
   ·exact .inr (.inl e)
   ·exact .inr (.inr e)
   ·exact .inr (.inr e)
   ·cases e'
  obtain⟨hN,hfr⟩:=C.vis i y hi h1 hv
  have hmem:(y,aJ)∈scope.names:=bJ hfr
  have hk:=C.free _ hmem rfl
  have vis:Vis X.env.scope y := .inr hk
  obtain⟨m,hn,hl⟩:=I.loc
  obtain⟨u,r,l⟩:=hl i y v hN h2 vis
  refine⟨u,r,.inr ⟨jo hfr,?_⟩⟩
  rcases l with⟨hk',_⟩ | ⟨_,c,hc,hcell⟩
  ·rcases hk with hk | hk
   ·rw [hk] at hk';cases hk'
   ·rw [hk] at hk';cases hk'
  ·have nown:(cellsFrom (s₂.heap.objs.size+2) scope.names []).lookup y=none:=by
    cases q:(cellsFrom (s₂.heap.objs.size+2) scope.names []).lookup y with
    | none=>rfl
    | some d=>
      rcases iS scope.names _ _ d q with⟨z,hz,e1,e2⟩ | e
      ·obtain⟨z1,z2⟩:=z
       simp only at e1 e2
       subst e1;subst e2
       exact absurd (kC C.nd hz) (by rw [hfr];simp)
      ·cases e
   obtain⟨d,hd⟩:=fD.mp (mm (env:=X.env) (x:=y) scope.names [] (.inl hfr))
   have hd':X.env.cells.lookup y=some d:=by
    rcases my scope.names [] (C.frees I.ok) y d hd with e | e
    ·exact e
    ·cases e
   rw [hc] at hd';cases hd'
   refine⟨c,?_,hcell.keeps kp⟩
   show (cellsFrom (s₂.heap.objs.size+2) scope.names (iu X.env scope.names [])).lookup y=some c
   rw [d4,fR,nown]
   exact hd
 ·rcases jb (C.frees I.ok) h with a | a
  ·exact⟨none,(okc.empty y c (bJ a)).1⟩
  ·obtain⟨v,z⟩:=I.cell y c a
   exact⟨v,z.keeps kp⟩
 ·rcases jb (C.frees I.ok) h with a | a
  ·exact I.hok.fresh (br (fA _ 2) (okc.empty y c (bJ a)).2)
  ·exact I.freeC y c a
 ·show (σ++aE xs.length none).length=N'.length
  rw [bE,lL,I.len,C.len]
end
noncomputable def PTs (X:Cx) (ifs:List Expr) (t:TT):Prop:=
 ∀ (pins:List (Addr×Obj)) (s:Shared) (σ:St) (H:Hp) (Q:Bool->Hp->Prop),Inv X pins σ H s->t σ H Q ->
  aI (model X.prog X.w) X.A (forIn ifs true fun c r=>if r=true then do let ok <- isTrue c X.env (eval c X.env);pure (cH ok) else pure (cH r)) (TP X pins σ Q) X.xe s
theorem BR {X:Cx}:PTs X [] (fun _ H Q=>Q true H):=fun pins s σ H Q I h=>by
 rw [mL]
 exact aK ⟨H,I,h⟩
theorem Cg {X:Cx}{c:Expr}{t:TT} (h:PT X c t):PTs X [c] t:=fun pins s σ H Q I q=>by
 rw [eJ]
 simp only [if_true]
 refine ag (ag (thn (h pins s σ H Q I q) fun b s1 e=>aK ?_))
 show aI _ _ (forIn [] b _) _ _ _
 rw [mL]
 exact aK e
noncomputable def ny (wi:TI) (tt:TT) (te:TE):TE:=fun σ H Q=>wi σ H fun J H1 => ∃ W:Nat->Nat->List V->Hp->Prop,(∃ m,W 0 m [] H1) /\ ∀ i m ys H,W i m ys H->ys.length < sizeLine /\
 ((J.stop i H /\ ∀ D,H D=none->Q (.ref D) (upd H D (.lst ys))) \/
  (J.go i H /\ ∀ x H',J.yld i H x H'->tt (σ ++ [some x]) H' fun b H3=>if b=true then te (σ ++ [some x]) H3 fun y H4 => ∃ m',m' < m/\W (i+1) m' (ys ++ [y]) H4 else ∃ m',m' < m/\W (i+1) m' ys H3))
theorem HOk.track {P:Program}{w:World}{H:Hp}{h:Heap}{a:Addr}{o:HO} (x:HOk P w H h) (hn:H a=none) (new:dz P w (upd H a o) h a o):HOk P w (upd H a o) h:=fun b u e=>by
 by_cases hb:b=a
 ·subst hb;rw [bS] at e;cases e;exact new
 ·rw [bg hb] at e
  exact (x b u e).stay (fun c v _ q=>q) (fun c q=>by rw [bg (bf q hn)];exact q) fun c xs q=>by rw [bg (bf q hn)];exact q
theorem HOk.but {P:Program}{w:World}{H:Hp}{h h':Heap}{a:Addr} (x:HOk P w H h) (hn:H a=none) (k : ∀ b o,b≠a->h.get? b=some o->h'.get? b=some o):HOk P w H h':=fun b u e=>by
 refine (x b u e).stay (fun c v hc q=>k c v ?_ q) (fun _ q=>q) fun _ _ q=>q
 rcases hc with rfl | hc
 ·exact bf e hn
 ·exact bf hc hn
noncomputable def GO (gT:V->Hp->(St->Hp->Prop)->Prop) (wi:TI) (tt:TT) (te:TE):TE:=fun σ H Q=>wi σ H fun J H1 => ∃ W:Nat->Nat->List V->Hp->Prop,(∃ m,W 0 m [] H1) /\ ∀ i m ys H,W i m ys H->ys.length < sizeLine /\
 ((J.stop i H /\ ∀ D,H D=none->Q (.ref D) (upd H D (.lst ys))) \/
  (J.go i H /\ ∀ x H',J.yld i H x H'->gT x H' fun τ H2=>tt (σ++τ) H2 fun b H3=>if b=true then te (σ++τ) H3 fun y H4 => ∃ m',m' < m/\W (i+1) m' (ys ++ [y]) H4 else ∃ m',m' < m/\W (i+1) m' ys H3))
noncomputable def gT1:V->Hp->(St->Hp->Prop)->Prop:=fun v H Q=>Q [some v] H
section
variable {X:Cx}{N':List Str}{scope:Scope}{x:Str}{xs:List Str}{tg:Expr}{gT:V->Hp->(St->Hp->Prop)->Prop}{px pos:Pos}{elt iter:Expr}{ifs:List Expr}{wi:TI}{tt:TT}{te:TE}
theorem q0 {use:Option (Value->Sem Unit)}{Qf:Value->Shared->Prop} (hc:X.calm=true) (C:gQ X N' scope xs) (hi:PI X tg iter wi)
  (ht : ∀ s₂ H₂ fp,PTs (blk X N' scope s₂ H₂ fp) ifs tt) (he : ∀ s₂ H₂ fp,PE (blk X N' scope s₂ H₂ fp) elt te) {pins:List (Addr×Obj)}{s:Shared}{σ:St}{H:Hp}{Q:VK} (I:Inv X pins σ H s) (h:GO gT wi tt te σ H Q)
  (htg : ∀ (s₂:Shared) (H₂:Hp) (fp:List Addr) (pl:List (Addr×Obj)) (s:Shared) (H:Hp) (v:V) (u:Value) (Q:St->Hp->Prop),Inv (blk X N' scope s₂ H₂ fp) pl (σ++aE xs.length none) H s->RelV v u->gT v H Q ->
   aI (model X.prog X.w) X.A (assign tg (blk X N' scope s₂ H₂ fp).env u) (fun _ s' => ∃ τ H',τ.length=xs.length/\Inv (blk X N' scope s₂ H₂ fp) pl (σ++τ) H' s'/\Q τ H') (fun _ _=>False) s)
  (hfin : ∀ (s':Shared) (L D:Addr) (H':Hp) (ml:Str->Option Value),s'.heap.Ns L ml->Inv X pins σ H' s'->H' L=none->L≠X.env.locals->X.s₀.heap.objs.size<=L->(∀ y c,X.env.cells.lookup y=some c->c≠L)->(∀ p∈X.pn++pins,p.1≠L) ->
   Q (.ref D) H'->compPost (model X.prog X.w) X.A X.xe use Qf (.ref D) L (.ok .next) s') :
  aI (model X.prog X.w) X.A (eval iter X.env) (fun xv s₁=>aI (model X.prog X.w) X.A (pyIter xv) (fun it s₂=>aI (model X.prog X.w) X.A (newList []) (fun acc s₃=>
   aI (model X.prog X.w) X.A (newFunctionEnv scope X.env.globals (iu X.env scope.names []) [] X.env.qual none .none (some X.env)) (fun cenv s₄=>
    pS (model X.prog X.w) X.A (.compStart (.ListComp elt [⟨tg,iter,ifs,0⟩] scope pos) 0 it acc { cenv with scope:=relabel scope X.env }) (compPost (model X.prog X.w) X.A X.xe use Qf acc cenv.locals) s₄) X.xe s₃) X.xe s₂) X.xe s₁) X.xe s:=by
 refine thn (hi pins s σ H _ I h) fun v s1 h1=>thn h1 fun itv s2 h2 => ?_
 obtain⟨it,fp,tn,J,H2,e,I2,T,st2,f2,W,⟨m0,w0⟩,turn⟩:=h2
 subst e
 have hlt : ∀ b∈fp,b < s2.heap.objs.size:=fun b hb=>by obtain⟨o,ho,_⟩:=T.obj _ _ st2 b hb;exact aw ho
 refine dZ (lV ?_)
 dsimp only
 have I4:Inv (blk X N' scope s2 H2 fp) [] (σ++aE xs.length none) H2 { s2 with heap:=pushCells ((s2.heap.push { cls := .type "list",dict:=none,data := .seq ([]:List Value).toArray }).push { cls := .type "dict",data := .dict #[] }) scope.names }:=
  xM I2 C f2 hlt rfl rfl rfl
 generalize hXb:blk X N' scope s2 H2 fp=Xb at I4
 have hD4:(pushCells ((s2.heap.push { cls := .type "list",dict:=none,data := .seq ([]:List Value).toArray }).push { cls := .type "dict",data := .dict #[] }) scope.names).get? s2.heap.objs.size=some { cls := .type "list",data := .seq ([]:List Value).toArray }:=
  pushCells_keeps _ _ _ _ (af _ (ay _ rfl))
 have st4:tn 0 (pushCells ((s2.heap.push { cls := .type "list",dict:=none,data := .seq ([]:List Value).toArray }).push { cls := .type "dict",data := .dict #[] }) scope.names):=
  T.keep _ _ _ st2 fun b hb o e=>pushCells_keeps _ _ b o (af _ (af _ e))
 have henv:({ scope:=relabel scope X.env,locals:=(s2.heap.push { cls := .type "list",dict:=none,data := .seq ([]:List Value).toArray }).objs.size,globals:=X.env.globals,cells:=cellsFrom ((s2.heap.push { cls := .type "list",dict:=none,data := .seq ([]:List Value).toArray }).objs.size+1) scope.names (iu X.env scope.names []),qual:=X.env.qual,func:=none,code:=X.env.code,frame:=X.env.frame,builtins:=X.env.builtins }:Env)=Xb.env:=by
  rw [<- hXb,aW];rfl
 generalize hs4:({ s2 with heap:=pushCells ((s2.heap.push { cls := .type "list",dict:=none,data := .seq ([]:List Value).toArray }).push { cls := .type "dict",data := .dict #[] }) scope.names }:Shared)=s4 at I4
 have hD4':s4.heap.get? s2.heap.objs.size=some { cls := .type "list",data := .seq ([]:List Value).toArray }:=by rw [<- hs4];exact hD4
 have st4':tn 0 s4.heap:=by rw [<- hs4];exact st4
 have hL:Xb.env.locals=s2.heap.objs.size+1:=by rw [<- hXb];rfl
 have hex:Xb.ex=fp:=by rw [<- hXb];rfl
 have hs0:Xb.s₀=s2:=by rw [<- hXb];rfl
 have hH0:Xb.H₀=H2:=by rw [<- hXb];rfl
 have hfs:Xb.fs=frs X.stack:=by rw [<- hXb];rfl
 have hpn:Xb.pn = []:=by rw [<- hXb];rfl
 have hK:Xb.K=X.K:=by rw [<- hXb];rfl
 have hP:Xb.prog=X.prog:=by rw [<- hXb];rfl
 have hw:Xb.w=X.w:=by rw [<- hXb];rfl
 have hA:Xb.A=X.A:=by rw [<- hXb];rfl
 have hxe:Xb.xe=fun _ _=>False:=by rw [<- hXb];rfl
 have hcb:Xb.calm=true:=by rw [<- hXb];exact hc
 have hNb:Xb.N=N':=by rw [<- hXb];rfl
 have hfn : ∀ y,scope.names.lookup y=some .cell->Xb.fn y=true:=fun y hy=>by rw [<- hXb];show (scope.names.lookup y == some .cell)=true;rw [hy];rfl
 have htb:PTs Xb ifs tt:=by rw [<- hXb];exact ht _ _ _
 have heb:PE Xb elt te:=by rw [<- hXb];exact he _ _ _
 have hgb : ∀ (pl:List (Addr×Obj)) (s:Shared) (H:Hp) (v:V) (u:Value) (Q:St->Hp->Prop),Inv Xb pl (σ++aE xs.length none) H s->RelV v u->gT v H Q ->
   aI (model X.prog X.w) X.A (assign tg Xb.env u) (fun _ s' => ∃ τ H',τ.length=xs.length/\Inv Xb pl (σ++τ) H' s'/\Q τ H') (fun _ _=>False) s:=by
  rw [<- hXb];exact htg _ _ _
 have cellne : ∀ y c,Xb.env.cells.lookup y=some c->c≠s2.heap.objs.size:=fun y c e z=>by
  obtain⟨v,o,ho,hd⟩:=I4.cell y c e
  rw [z,hD4'] at ho
  cases ho
  cases hd
 have stat : ∀ {H':Hp}{pl:List (Addr×Obj)},(∀ b∈fp,H' b=none)->(∀ p∈pl,p.1=s2.heap.objs.size) -> ∀ b∈fp,pb Xb pl H' b:=fun {H' pl} hn hpl b hb=>by
  refine⟨hn b hb,?_,?_,.inl (by rw [hex];exact hb),fun y c e z => ?_,fun p hp z => ?_⟩
  ·rw [hL];exact bb (dr (hlt b hb))
  ·exact I4.ok.exfs b (by rw [hex];exact hb)
  ·exact (I4.ok.exf b (by rw [hex];exact hb)).2 y c e z
  ·rw [hpn] at hp
   have h1:=hpl p (by simpa using hp)
   have h2:=hlt b hb
   exact absurd h2 (by rw [<- z,h1];exact bD _)
 have Dfs:s2.heap.objs.size∉Xb.fs:=by
  rw [hfs]
  intro z
  rcases aG.mp (I2.stkSub _ z) with e | e
  ·exact absurd I2.lt (by rw [<- e];exact bD _)
  ·exact I2.nofs (aj _) e
 have fin : ∀ (s':Shared) (i m:Nat) (ys:List V) (its:List Value) (n:Nat) (H':Hp) (σ':St),Inv Xb [] σ' H' s'->H' s2.heap.objs.size=none->s'.heap.get? s2.heap.objs.size=some { cls := .type "list",data := .seq its.toArray n }->bP ys its->ys.length < sizeLine ->
   (∀ D,H' D=none->Q (.ref D) (upd H' D (.lst ys)))->compPost (model X.prog X.w) X.A X.xe use Qf (.ref s2.heap.objs.size) Xb.env.locals (.ok .next) s':=by
  intro s' i m ys its n H' σ' I' hDn hDo rv hz q
  obtain⟨ml,hml,_⟩:=I'.loc
  have kb : ∀ b o,b≠Xb.env.locals->s'.heap.get? b=some o->s'.heap.get? b=some o:=fun b o _ e=>e
  have hDL:s2.heap.objs.size≠Xb.env.locals:=by rw [hL];omega
  have hok1:HOk X.prog X.w H' s'.heap:=by
   have:=I'.hok.but I'.free kb
   rw [hP,hw] at this;exact this
  have hok2:HOk X.prog X.w (upd H' s2.heap.objs.size (.lst ys)) s'.heap:=hok1.track hDn ⟨di hz,its,n,rv,kb _ _ hDL hDo⟩
  have base:=I'.base
  rw [hs0,hH0,hex,hfs] at base
  have un:Un (frs X.stack) fp H2 (upd H' s2.heap.objs.size (.lst ys)) s2.heap s'.heap:=by
   have ltL : ∀ b o,s2.heap.get? b=some o->b≠Xb.env.locals:=fun b o e=>by rw [hL];exact bb (dr (aw e))
   have ltD : ∀ b o,s2.heap.get? b=some o->b≠s2.heap.objs.size:=fun b o e=>bb (aw e)
   refine⟨fun b o e n hb hx=>kb b o (ltL b o e) (base.keep b o e n hb hx),fun b o e n hb hx => ?_,fun b o e n hx => ?_,fun b o e hx => ?_,fun b xs e => ?_,fun b o u e => ?_,fun b ps e => ?_⟩
   ·obtain⟨sl,q⟩:=base.slot b o e n hb hx
    exact⟨sl,kb b _ (ltL b o e) q⟩
   ·rw [bg (ltD b o e)];exact base.free b o e n hx
   ·obtain⟨o',q⟩:=base.there b o e hx
    exact⟨o',kb b _ (ltL b o e) q⟩
   ·have q:=base.tups b xs e
    rw [bg (bf q hDn)];exact q
   ·have q:=base.frzs b o u e
    rw [bg (bf q hDn)];exact q
   ·obtain⟨more,q⟩:=base.tbls b ps e
    exact⟨more,by rw [bg (bf q hDn)];exact q⟩
  have os:s'.os=s2.os:=by rw [I'.os,hs0]
  have If:=I2.call' (s':=s') os un hok2 I'.bare fun b hb=>⟨(f2 b hb).2.2.2.1,(f2 b hb).2.1,(f2 b hb).2.2.2.2.1,(f2 b hb).2.2.2.2.2⟩
  refine hfin s' _ _ _ ml hml If ?_ ?_ ?_ ?_ ?_ (q _ hDn)
  ·rw [bg (dH hDL)];exact I'.free
  ·rw [hL];exact dA (dr I2.lt)
  ·rw [hL];exact Nat.le_succ_of_le I2.sz
  ·intro y c e z
   obtain⟨v,o,ho,_⟩:=I2.cell y c e
   have:=aw ho
   rw [z,hL] at this;exact absurd (Nat.lt_of_succ_lt this) (bD _)
  ·intro p hp z
   have:=aw (I2.pin p hp).1
   rw [z,hL] at this;exact absurd (Nat.lt_of_succ_lt this) (bD _)
 have loop : ∀ it':Addr,it'=it->pS (model X.prog X.w) X.A (.compLoop (.ListComp elt [⟨tg,iter,ifs,0⟩] scope pos) 0 (.ref it') (.ref s2.heap.objs.size) Xb.env) (compPost (model X.prog X.w) X.A X.xe use Qf (.ref s2.heap.objs.size) Xb.env.locals) s4:=by
  rintro it' rfl
  refine ke (fun n s' => ∃ (i:Nat) (ys:List V) (its:List Value) (nn:Nat) (H':Hp),Inv Xb [] (σ++aE xs.length none) H' s'/\tn i s'.heap/\(∀ b∈fp,H' b=none)/\H' s2.heap.objs.size=none /\
   s'.heap.get? s2.heap.objs.size=some { cls := .type "list",data := .seq its.toArray nn }/\bP ys its/\W i n ys H') ?_ m0 ⟨0,[],[],_,H2,I4,st4',fun b hb=>(f2 b hb).1,I2.hok.fresh (aj _),hD4',.nil,w0⟩
  rintro n s3 ⟨i,ys,its,nn,H3,I3,st3,fr3,hD3,hDo3,rv3,w3⟩
  obtain⟨hz,turn⟩:=turn i n ys H3 w3
  have pinD : ∀ {s':Shared}{H':Hp}{σ':St}{oD:Obj},Inv Xb [] σ' H' s'->H' s2.heap.objs.size=none->s'.heap.get? s2.heap.objs.size=some oD->(∀ v,oD.data ≠ .cell v)->Inv Xb [(s2.heap.objs.size,oD)] σ' H' s':=fun {s' H' σ' oD} I' hn ho hd=>
   I'.pins_of fun p hp=>by
    have e:p=(s2.heap.objs.size,oD):=by simpa using hp
    subst e
    exact⟨ho,hn,by rw [hL];show s2.heap.objs.size≠_;omega,Dfs,hd⟩
  have I3p:=pinD I3 hD3 hDo3 (fun v z=>by cases z)
  have hpl : ∀ p ∈ [(s2.heap.objs.size,({ cls := .type "list",data := .seq its.toArray nn }:Obj))],p.1=s2.heap.objs.size:=fun p hp=>by
   have e:=cx.mp hp
   rw [e]
  rcases turn with⟨stop,qn⟩ | ⟨go,step⟩
  ·have q:=T.done Xb hP hw hK hcb i _ s3 _ H3 (fun _ _=>False) I3p (stat fr3 hpl) st3 stop
   rw [hA] at q
   refine cf q (fun r s5 ⟨hr,I5⟩ => ?_) fun _ _ z=>bZ z
   subst hr
   exact fin s5 i n ys its nn H3 _ (I5.pins_of fun p hp=>absurd hp (by simp)) hD3 (I5.pin _ (aR _ (cx.mpr rfl))).1 rv3 hz qn
  ·have q:=T.item Xb hP hw hK hcb i _ s3 _ H3 (fun _ _=>False) I3p (stat fr3 hpl) st3 go
   rw [hA] at q
   refine cf q (fun r s45 ⟨u,hr,h5⟩ => ?_) fun _ _ z=>bZ z
   subst hr
   refine cf h5 (fun _ s5 ⟨y5,H5,I5,r5,yl5,st5,fr5⟩ => ?_) fun _ _ z=>bZ z
   have hD5:=(I5.pin _ (aR _ (cx.mpr rfl)))
   have I5':=I5.pinned (stat fr5 hpl) (T.obj _ _ st5)
   refine cf (hgb _ s5 H5 y5 _ _ I5' r5 (step y5 H5 yl5)) (fun _ s6 ⟨τ,H6,hτ,I6,q6⟩ => ?_) fun _ _ z=>bZ z
   have qt:=htb _ s6 _ H6 _ I6 q6
   rw [hP,hw,hA,hxe] at qt
   refine cf qt (fun b s7 ⟨H7,I7,q7⟩ => ?_) fun _ _ z=>bZ z
   have again : ∀ {s8:Shared}{H8:Hp}{σ8:St},Inv Xb ([(s2.heap.objs.size,({ cls := .type "list",data := .seq its.toArray nn }:Obj))]++oH fp s5.heap) σ8 H8 s8->tn (i+1) s8.heap/\(∀ b∈fp,H8 b=none)/\H8 s2.heap.objs.size=none/\s8.heap.get? s2.heap.objs.size=some { cls := .type "list",data := .seq its.toArray nn }:=fun {s8 H8 σ8} I8=>by
    refine⟨T.keep _ _ _ st5 fun b hb o e=>(I8.pin (b,o) (aR _ (aR _ (jj hb e)))).1,fun b hb => ?_,?_,?_⟩
    ·obtain⟨o,e,d⟩:=T.obj _ _ st5 b hb
     exact (I8.pin (b,o) (aR _ (aR _ (jj hb e)))).2.1
    ·exact (I8.pin _ (aR _ (bA _ (cx.mpr rfl)))).2.1
    ·exact (I8.pin _ (aR _ (bA _ (cx.mpr rfl)))).1
   have forget : ∀ {s8:Shared}{H8:Hp}{pl:List (Addr×Obj)},Inv Xb pl (σ++τ) H8 s8->Inv Xb [] (σ++aE xs.length none) H8 s8:=fun {s8 H8 pl} I8=>
    (I8.pins_of (pins' := []) fun p hp=>absurd hp (by simp)).weak (by simp [hτ]) fun j v hj=>by
     by_cases hjs:j < σ.length
     ·rw [aM hjs] at hj ⊢;exact hj
     ·rw [av (by omega),fZ] at hj
      split at hj <;> simp at hj
   cases b with
   | false=>
     have q7' : ∃ m',m' < n/\W (i+1) m' ys H7:=q7
     obtain⟨m',hm,w7⟩:=q7'
     obtain⟨a1,a2,a3,a4⟩:=again I7
     exact⟨m',hm,i+1,ys,its,nn,H7,forget I7,a1,a2,a3,a4,rv3,w7⟩
   | true=>
     have q7':te (σ++τ) H7 fun y H4 => ∃ m',m' < n/\W (i+1) m' (ys ++ [y]) H4:=q7
     have qe:=heb _ s7 _ H7 _ I7 q7'
     rw [hP,hw,hA,hxe] at qe
     refine cf qe (fun uv s8 ⟨y8,H8,I8,r8,m',hm,w8⟩ => ?_) fun _ _ z=>bZ z
     obtain⟨a1,a2,a3,a4⟩:=again I8
     have I9:=forget I8
     have hl3:=rv3.length
     refine call_meets F.slot_list_append ⟨_,a4,rfl⟩ F.entry_list_append (F.args_list_append_2 _ _) (PySem.list_append s2.heap.objs.size its.toArray nn uv (by rw [aC];omega)) ⟨a4,?_⟩
     have hup:=Br a4 (·.push uv)
     have e1:(its.toArray.push uv)=(its ++ [uv]).toArray:=by simp
     rw [e1] at hup
     have I10:Inv Xb [] (σ++aE xs.length none) H8 { s8 with heap:=s8.heap.update s2.heap.objs.size (dg (·.push uv)) }:=
      I9.turned (t':=s8.toks) (fun b' u hb hu=>(cN s8.heap (dg (·.push uv)) (dH hb)).trans hu) a3 (by rw [hL];exact bb (cg _)) (.inr (by rw [hs0];exact aj _)) cellne (fun p hp=>by rw [hpn] at hp;exact absurd hp (by simp))
     refine⟨m',hm,i+1,ys ++ [y8],its ++ [uv],_,H8,I10,T.keep _ _ _ a1 fun b hb o e => ?_,a2,a3,hup,rv3.append (.cons r8 .nil),w8⟩
     exact (cN s8.heap (dg (·.push uv)) (by first | exact dA (hlt b hb) | exact bb (hlt b hb))).trans e
 have start:=codeAny_compStart_list (loop it rfl) (T.self X.A 0 s4 _ _ st4' (loop it rfl))
 rw [henv]
 have eL:(s2.heap.push { cls := .type "list",dict:=none,data := .seq ([]:List Value).toArray }).objs.size=Xb.env.locals:=by rw [aW,hL]
 rw [eL]
 exact start
theorem xl (C:gQ X N' scope [x]) {σ:St} (s₂:Shared) (H₂:Hp) (fp:List Addr) (pl:List (Addr×Obj)) (s:Shared) (H:Hp) (v:V) (u:Value) (Q:St->Hp->Prop) (I:Inv (blk X N' scope s₂ H₂ fp) pl (σ++aE [x].length none) H s) (r:RelV v u) (q:gT1 v H Q) :
  aI (model X.prog X.w) X.A (assign (.Name x px) (blk X N' scope s₂ H₂ fp).env u) (fun _ s' => ∃ τ H',τ.length = [x].length/\Inv (blk X N' scope s₂ H₂ fp) pl (σ++τ) H' s'/\Q τ H') (fun _ _=>False) s:=by
 have hl:σ.length=X.N.length:=by
  have:=I.len
  rw [show (blk X N' scope s₂ H₂ fp).N=N' from rfl,C.len,bE,lL] at this
  omega
 have hlocx:Loc (blk X N' scope s₂ H₂ fp).env.scope x:=by
  rcases C.own x (by simp) with e | e
  ·exact .inl (lookup_relabel_local e)
  ·exact .inr (jk e)
 have hfx:(blk X N' scope s₂ H₂ fp).fn x=true\/(blk X N' scope s₂ H₂ fp).env.scope.names.lookup x=some .local:=by
  rcases C.own x (by simp) with e | e
  ·right;exact lookup_relabel_local e
  ·left;show (scope.names.lookup x == some .cell)=true;rw [e];rfl
 refine vj (o7 I C.ndN (i:=X.N.length) (C.last 0 x rfl) hlocx r (fun s6 I6 => ?_) hfx)
 have hset:(σ++aE [x].length none).set X.N.length (some v)=σ ++ [some v]:=by
  rw [<- hl,cZ _ _ (aj _)];simp
 rw [hset] at I6
 exact⟨[some v],H,rfl,I6,q⟩
theorem Dv (hc:X.calm=true) (C:gQ X N' scope [x]) (hi:PI X (.Name x px) iter wi)
  (ht : ∀ s₂ H₂ fp,PTs (blk X N' scope s₂ H₂ fp) ifs tt) (he : ∀ s₂ H₂ fp,PE (blk X N' scope s₂ H₂ fp) elt te)
  (hs : ∀ x,foldedSetIterable iter X.env x=pure x:=by intro _;rfl) :
  PE X (.ListComp elt [⟨.Name x px,iter,ifs,0⟩] scope pos) (ny wi tt te):=by
 intro pins s σ H Q I h
 rw [eval_ListComp]
 refine wpAny_comprehension_free (use:=none) (cl:=iu X.env scope.names []) rfl hs (jB (C.frees I.ok)) C.kind (fun y hy e=>kC C.nd (by rw [<- e];exact hy)) ?_
 refine q0 (gT:=gT1) hc C hi ht he I h (xl C) fun s' L D H' ml hml I' hn h1 h2 h3 h4 q => ?_
 exact⟨ml,hml,fun h' hsb=>⟨.ref D,H',I'.turned (t':=s'.toks) (fun b o hb e=>(hsb.2 b hb).trans e) hn h1 (.inr h2) h3 h4,rfl,q⟩⟩
theorem B4 {i:Nat}{y:Str}{py spos:Pos} (hN:X.N.Nodup) (hi':X.N[i]? = some y) (hy:Loc X.env.scope y) (hc:X.calm=true) (C:gQ X N' scope [x]) (hi:PI X (.Name x px) iter wi)
  (ht : ∀ s₂ H₂ fp,PTs (blk X N' scope s₂ H₂ fp) ifs tt) (he : ∀ s₂ H₂ fp,PE (blk X N' scope s₂ H₂ fp) elt te)
  (hsw:swapsWith (.ListComp elt [⟨.Name x px,iter,ifs,0⟩] scope pos) (some (.Name y py)) spos.line X.env=pure true)
  (hs : ∀ x,foldedSetIterable iter X.env x=pure x:=by intro _;rfl) (hf:X.fn y=true\/X.env.scope.names.lookup y=some .local:=by first | exact .inl rfl | exact .inr rfl | assumption) :
  PS X (.Assign [.Name y py] (.ListComp elt [⟨.Name x px,iter,ifs,0⟩] scope pos) spos) (yz (ny wi tt te) (ix i)):=by
 intro pins s σ H D I h
 rw [exec_Assign_Name_used _ _ _ _ hsw]
 refine ag (wpAny_standAt (ag ?_))
 show aI _ X.A (do let _ <- comprehension (.ListComp elt [⟨.Name x px,iter,ifs,0⟩] scope pos) scope X.env _ (newList []) false (eval iter X.env) (some (assign (.Name y py) X.env))) _ _ s
 refine ag (cf (wpAny_comprehension_free (use:=some (assign (.Name y py) X.env)) (Q:=fun _ s'=>SP X pins D .next s') (cl:=iu X.env scope.names []) rfl hs (jB (C.frees I.ok)) C.kind (fun y hy e=>kC C.nd (by rw [<- e];exact hy))
  (q0 (gT:=gT1) (Q:=fun v H1=>ix i v σ H1 D.nx) hc C hi ht he I h (xl C) fun s' L D' H' ml hml I' hn h1 h2 h3 h4 q => ?_)) (fun _ s' hq=>aK (aK hq)) fun _ _ e=>e)
 show aI _ X.A (assign (.Name y py) X.env (.ref D')) _ _ _
 refine vj (qR (v := .ref D') I' hN hi' hy rfl (fun s6 I6 hsb => ?_) hf)
 obtain⟨a,hsb,ha⟩:=hsb
 have haL:L≠a:=by
  rcases ha with e | e
  ·rw [e];exact h1
  ·exact dH (h3 _ _ e)
 refine⟨ml,hml.sameBut hsb haL,fun h' hsb' => ?_⟩
 exact⟨_,H',I6.turned (t':=s6.toks) (fun b o hb e=>(hsb'.2 b hb).trans e) hn h1 (.inr h2) h3 h4,q⟩
inductive pf:List Expr->List Str->Prop
 | nil:pf [] []
 | cons (x:Str) (p:Pos) {es xs}:pf es xs->pf (.Name x p::es) (x::xs)
end
end L2
end
section
namespace HT
open PySem PyProof.Rows
open PySem.SeqAt
open PySem.AutoSeq1 (wpAny_loadPart')
open PySem.MeetsSeq PySem.MeetsSeq2 PySem.MeetsSeq3
section
variable {prog:Program}{w:World}{A:Around}{E:Value->Shared->Prop}{s:Shared}
theorem cat_tup0 {t b:Addr}{ws:List Value}{Q:Value->Shared->Prop} (ht:IsTup s.heap t ([]:List Value).toArray) (hb:IsTup s.heap b ws.toArray) (h:Q (.ref b) s):aI (model prog w) A (binaryOp .Add (.ref t) (.ref b)) Q E s:=by
 obtain⟨⟨cls,dd,data,sl⟩,ho,hc,n,hd⟩:=id ht
 obtain⟨⟨cls2,dd2,data2,sl2⟩,ho2,hc2,n2,hd2⟩:=id hb
 simp only at hc hd hc2 hd2
 subst hc hd hc2 hd2
 exact concat_meets ⟨_,ho,rfl⟩ ⟨_,ho2,rfl⟩ noFill_tuple_add seq_tuple_add km jG (jy _ _)
   (tuple_addW0 t b #[] ws.toArray n n2 dd dd2 sl sl2 (by simp)) ⟨ho,ho2,h⟩
end
end HT
end
section
namespace G
open PySem PySem.SeqAt
open PySem.AutoSeq1 (wpAny_loadPart')
open PySem.MeetsSeq PySem.MeetsSeq2 PySem.MeetsSeq3
theorem qh (l:Addr) (items:Array Value) (n:Nat) (dd:Option Addr) (sl:Array (Option Value)) (x:Value) (e:Value->Bool) (j:Nat) (hj:j < items.size)
  (hit:e items[j]=true) (hno : ∀ m (hm:m < items.size),m < j->e items[m]=false) :
  Meets (Builtin.«tuple.index» ⟨[.ref l,x],[]⟩)
   (fun A R s=>s.heap.get? l=some { cls := .type "tuple",dict:=dd,data := .seq items n,slots:=sl }/\(∀ y,y∈items->EqAt A.in1 s y x (e y))/\R (.ok (.ret (.int j s.toks))) { s with toks:=s.toks+1 }):=
 .of_wp fun prog w A R s h=>by
  obtain⟨hp,g,d,tk,os⟩:=s;obtain⟨hl,he,h⟩:=h
  simp only [Builtin.«tuple.index»,Std.Legacy.Range.forIn_eq_forIn_range']
  wp_walk using fb hl,wpAny_forIn_list _ (fun rest b s'=>b.1=none/\s'=⟨hp,g,d,tk,os⟩ /\ ∃ i,i<=j/\rest=aP i (items.size - i)) _
  case turn=>
   rintro y rest b s' ⟨hb,rfl,i,hij,hrest⟩
   have hlt:i < items.size:=by
    rcases Nat.lt_or_ge i items.size with q | q
    ·exact q
    ·omega
   obtain⟨k,hk⟩ : ∃ k,items.size - i=k+1:=⟨items.size - i - 1,by omega⟩
   rw [hk,hU] at hrest
   injection hrest with h1 h2
   subst h1
   have hg:items[y]? = some items[y]:=by simp [hlt]
   rw [hg]
   refine ag (he _ (Array.getElem_mem hlt) prog w _ _ ?_)
   by_cases hyj:y=j
   ·subst hyj
    rw [hit]
    wp_walk
    exact⟨_,rfl,h⟩
   ·rw [hno y hlt (by omega)]
    wp_walk
    exact⟨rfl,rfl,y+1,by omega,by rw [h2];congr 1;omega⟩
  case fin=>
   rintro ⟨b1,b2⟩ s' ⟨hb,rfl,i,hij,hrest⟩
   exfalso
   have h3:=congrArg s9 hrest
   simp at h3
   omega
  case h=>
   exact⟨rfl,rfl,0,b9 _,by simp⟩
end G
end
section
namespace G
open PySem PySem.SeqAt
open PySem.AutoSeq1 (wpAny_loadPart')
open PySem.MeetsSeq PySem.MeetsSeq2 PySem.MeetsSeq3
theorem mP:fillsNumberSlot (.type "tuple") "mul"=pure false:=
 fillsNumberSlot_seq (id:="tuple.__mul__") (r:=some (.builtin "tuple.__rmul__")) F.slot_tuple_mul.lookup (by decide +kernel) F.slot_tuple_rmul.lookup (by decide +kernel)
theorem sR:seqRepeat? (.type "tuple")=pure (some (.builtin "tuple.__mul__")):=by
 unfold seqRepeat?
 rw [seqSlot_of (T:="tuple") (name:="__mul__") (id:="tuple.__mul__") F.slot_tuple_mul.lookup (by decide +kernel),seqSlot_of (T:="tuple") (name:="__rmul__") (id:="tuple.__rmul__") F.slot_tuple_rmul.lookup (by decide +kernel)]
 rfl
theorem ow (a:Int) (t:Tok) (l:Addr) (items:Array Value) (n:Nat) (dd:Option Addr) (sl:Array (Option Value)) :
  Meets (Builtin.«int.__rmul__» ⟨[.int a t,.ref l],[]⟩) (fun _ R s=>s.heap.get? l=some { cls := .type "tuple",dict:=dd,data := .seq items n,slots:=sl }/\R (.ok (.ret Value.notImplemented)) s):=
 .of_wp fun prog w A R s h=>by obtain⟨hp,g,d,tk,os⟩:=s;obtain⟨hl,h⟩:=h;wp_walk;exact⟨_,rfl,h⟩
theorem ql (l:Addr) (items:Array Value) (n:Nat) (dd:Option Addr) (sl:Array (Option Value)) (t:Tok) :
  Meets (Builtin.«tuple.__mul__» ⟨[.ref l,.int 1 t],[]⟩) (fun _ R s=>s.heap.get? l=some { cls := .type "tuple",dict:=dd,data := .seq items n,slots:=sl }/\R (.ok (.ret (be l))) { s with toks:=s.toks }):=
 .of_wp fun prog w A R s h=>by
  obtain⟨hp,g,d,tk,os⟩:=s;obtain⟨hl,h⟩:=h
  have f1:=oq
  have hno : ¬ ((decide ((1:Int) < -2 ^ 63)||decide ((1:Int) >= 2 ^ 63))=true):=by decide
  have hyes:(items.isEmpty||(1:Int) == 1)=true:=by simp
  wp_walk using fb hl
  exact⟨_,rfl,h⟩
theorem wk (l:Addr) (items:Array Value) (n:Nat) (dd:Option Addr) (sl:Array (Option Value)) (t:Tok) (he:items.isEmpty=false) :
  Meets (Builtin.«tuple.__mul__» ⟨[.ref l,.int 0 t],[]⟩) (fun _ R s=>s.heap.get? l=some { cls := .type "tuple",dict:=dd,data := .seq items n,slots:=sl }/\R (.ok (.ret (be s.heap.objs.size))) { s with heap:=s.heap.push { cls:=vg "tuple",data:=pU #[] },toks:=s.toks }):=
 .of_wp fun prog w A R s h=>by
  obtain⟨hp,g,d,tk,os⟩:=s;obtain⟨hl,h⟩:=h
  have f1:=oq
  have hno : ¬ ((decide ((0:Int) < -2 ^ 63)||decide ((0:Int) >= 2 ^ 63))=true):=by decide
  have hno1 : ¬ ((items.isEmpty||(0:Int) == 1)=true):=by rw [he];decide
  have hyes:(decide ((0:Int)<=0)||items.isEmpty)=true:=by simp
  wp_walk using fb hl
  exact⟨_,rfl,h⟩
theorem vX (l:Addr) (items:Array Value) (n:Nat) (dd:Option Addr) (sl:Array (Option Value)) (k:Int) (t:Tok) (h1 : ¬ (items.isEmpty||k == 1)=true) (h0:0 < k) (hk:k < 1000) (hz:items.size < 1000) :
  Meets (Builtin.«tuple.__mul__» ⟨[.ref l,.int k t],[]⟩) (fun _ R s=>s.heap.get? l=some { cls := .type "tuple",dict:=dd,data := .seq items n,slots:=sl } /\
   R (.ok (.ret (be s.heap.objs.size))) { s with heap:=s.heap.push { cls:=vg "tuple",data:=pU ((aE k.toNat items).foldl (· ++ ·) #[]) },toks:=s.toks }):=
 .of_wp fun prog w A R s h=>by
  obtain⟨hp,g,d,tk,os⟩:=s;obtain⟨hl,h⟩:=h
  have f1:=oq
  have hno : ¬ ((decide (k < -2 ^ 63)||decide (k >= 2 ^ 63))=true):=by
   rw [lF,decide_eq_true_eq,decide_eq_true_eq];omega
  have he:items.isEmpty=false:=by
   cases q:items.isEmpty with
   | false=>rfl
   | true=>rw [q] at h1;simp at h1
  have hno2 : ¬ ((decide (k<=0)||items.isEmpty)=true):=by
   rw [he,Bool.or_false,decide_eq_true_eq];omega
  have hp1:(items.size:Int)*k<=1000000:=by
   have a1:(items.size:Int)*k<=1000*k:=Int.mul_le_mul_of_nonneg_right (by omega) (by omega)
   omega
  have hm1 : ¬ ((items.size:Int)*k > (2 ^ 63 - 1) / 8):=by omega
  have hm2 : ¬ (nO ((items.size:Int)*k)=true):=by
   unfold nO
   simp only [sizeLine_eq,decide_eq_true_eq,gt_iff_lt]
   omega
  have hsz:(List.foldl (fun x1 x2=>x1++x2) #[] (aE k.toNat items)).size<=sizeLine:=by
   have e : ∀ (m:Nat) (a:Array Value),(List.foldl (fun x1 x2=>x1++x2) a (aE m items)).size=a.size+m*items.size:=by
    intro m
    induction m with
    | zero=>intro a;simp
    | succ m ih=>intro a;rw [cU,lG,ih];simp;rw [je];omega
   rw [e]
   have a2:k.toNat*items.size<=1000*items.size:=cD _ (by omega)
   rw [sizeLine_eq]
   simp;omega
  wp_walk using fb hl
  rw [if_neg hno]
  wp_walk using fb hl
  rw [if_neg h1]
  wp_walk using fb hl
  rw [if_neg hm1]
  wp_walk using fb hl
  all_goals first | exact⟨_,rfl,h⟩ | skip
end G
end
section
namespace G
open PySem PySem.Spec L2
open PyProof.Rows hiding St
mutual
noncomputable def RU (H:Hp) (μ:List Addr):U->V->Prop
 | .non,v=>v = .non
 | .bl b,v=>v = .bl b
 | .int i,v=>v = .int i
 | .str x,v=>v = .str x
 | .tup us,v => ∃ a vs,v = .ref a/\H a=some (.tup vs)/\RUs H μ us vs
 | .ref n,v => ∃ a,v = .ref a/\μ[n]? = some a
 | .obj a,v=>v = .ref a
noncomputable def RUs (H:Hp) (μ:List Addr):List U->List V->Prop
 | [],vs=>vs = []
 | u::us,vs => ∃ v r,vs=v::r/\RU H μ u v/\RUs H μ us r
end
noncomputable def bj (H H':Hp):Prop := ∀ a vs,H a=some (.tup vs)->H' a=some (.tup vs)
noncomputable def Pre (μ μ':List Addr):Prop := ∃ t,μ'=μ++t
theorem bj.refl (H:Hp):bj H H:=fun _ _ h=>h
theorem bj.trans {H H1 H2:Hp} (a:bj H H1) (b:bj H1 H2):bj H H2:=fun c vs h=>b c vs (a c vs h)
theorem Pre.refl (μ:List Addr):Pre μ μ:=⟨[],by simp⟩
theorem Pre.trans {μ μ1 μ2:List Addr} (a:Pre μ μ1) (b:Pre μ1 μ2):Pre μ μ2:=by
 obtain⟨t,rfl⟩:=a
 obtain⟨u,rfl⟩:=b
 exact⟨t++u,by simp⟩
theorem Pre.get {μ μ':List Addr} (p:Pre μ μ') {n:Nat}{a:Addr} (h:μ[n]? = some a):μ'[n]? = some a:=by
 obtain⟨t,rfl⟩:=p
 have hn:n < μ.length:=(ae.mp h).1
 rw [aM hn];exact h
theorem bj.new {H:Hp}{p:Addr}{o:HO} (h:H p=none):bj H (upd H p o):=fun a vs e=>by rw [bg (bf e h)];exact e
theorem bj.wr {H:Hp}{p:Addr}{xs ys:List V} (h:H p=some (.lst xs)):bj H (upd H p (.lst ys)):=fun a vs e=>by
 rw [bg (o5 e h (by intro z;cases z))];exact e
mutual
theorem RU.mono {H H':Hp}{μ μ':List Addr} (k:bj H H') (p:Pre μ μ') : ∀ (u:U) (v:V),RU H μ u v->RU H' μ' u v
 | .non,_,h=>by simpa [RU] using h
 | .bl _,_,h=>by simpa [RU] using h
 | .int _,_,h=>by simpa [RU] using h
 | .str _,_,h=>by simpa [RU] using h
 | .obj _,_,h=>by simpa [RU] using h
 | .ref n,v,h=>by
   simp only [RU] at h ⊢
   obtain⟨a,e,q⟩:=h
   exact⟨a,e,p.get q⟩
 | .tup us,v,h=>by
   simp only [RU] at h ⊢
   obtain⟨a,vs,e,q,r⟩:=h
   exact⟨a,vs,e,k a vs q,RUs.mono k p us vs r⟩
theorem RUs.mono {H H':Hp}{μ μ':List Addr} (k:bj H H') (p:Pre μ μ') : ∀ (us:List U) (vs:List V),RUs H μ us vs->RUs H' μ' us vs
 | [],_,h=>by simpa [RUs] using h
 | u::us,vs,h=>by
   simp only [RUs] at h ⊢
   obtain⟨v,r,e,a,b⟩:=h
   exact⟨v,r,e,RU.mono k p u v a,RUs.mono k p us r b⟩
end
section
variable {H:Hp}{μ:List Addr}
theorem RUs.nil:RUs H μ [] []:=by simp [RUs]
theorem RUs.cons {u:U}{us:List U}{v:V}{vs:List V} (a:RU H μ u v) (b:RUs H μ us vs):RUs H μ (u::us) (v::vs):=by
 simp only [RUs];exact⟨v,vs,rfl,a,b⟩
theorem RUs.inv {u:U}{us:List U}{vs:List V} (h:RUs H μ (u::us) vs) : ∃ v r,vs=v::r/\RU H μ u v/\RUs H μ us r:=by simpa only [RUs] using h
theorem RUs.nil_inv {vs:List V} (h:RUs H μ [] vs):vs = []:=by simpa only [RUs] using h
theorem RUs.len : ∀ {us:List U}{vs:List V},RUs H μ us vs->us.length=vs.length
 | [],vs,h=>by rw [h.nil_inv];rfl
 | u::us,vs,h=>by
   obtain⟨v,r,rfl,_,b⟩:=h.inv
   simp [b.len]
theorem RUs.get : ∀ {us:List U}{vs:List V}{i:Nat}{u:U},RUs H μ us vs->us[i]? = some u -> ∃ v,vs[i]? = some v/\RU H μ u v
 | [],vs,i,u,h,e=>by simp at e
 | x::us,vs,0,u,h,e=>by
   obtain⟨v,r,rfl,a,b⟩:=h.inv
   simp at e;subst e
   exact⟨v,rfl,a⟩
 | x::us,vs,i+1,u,h,e=>by
   obtain⟨v,r,rfl,a,b⟩:=h.inv
   obtain⟨w,h1,h2⟩:=RUs.get (i:=i) b (by simpa using e)
   exact⟨w,by simpa using h1,h2⟩
theorem RUs.append : ∀ {us ws:List U}{vs xs:List V},RUs H μ us vs->RUs H μ ws xs->RUs H μ (us++ws) (vs++xs)
 | [],ws,vs,xs,h,g=>by rw [h.nil_inv];exact g
 | u::us,ws,vs,xs,h,g=>by
   obtain⟨v,r,rfl,a,b⟩:=h.inv
   exact .cons a (b.append g)
theorem RUs.set {u:U}{v:V} (q:RU H μ u v) : ∀ {us:List U}{vs:List V} (i:Nat),RUs H μ us vs->RUs H μ (us.set i u) (vs.set i v)
 | [],vs,i,h=>by rw [h.nil_inv];simpa using RUs.nil
 | x::us,vs,0,h=>by
   obtain⟨w,r,rfl,a,b⟩:=h.inv
   exact .cons q b
 | x::us,vs,i+1,h=>by
   obtain⟨w,r,rfl,a,b⟩:=h.inv
   exact .cons a (RUs.set q i b)
theorem RUs.eraseIdx : ∀ {us:List U}{vs:List V} (i:Nat),RUs H μ us vs->RUs H μ (us.eraseIdx i) (vs.eraseIdx i)
 | [],vs,i,h=>by rw [h.nil_inv];simpa using RUs.nil
 | x::us,vs,0,h=>by
   obtain⟨w,r,rfl,a,b⟩:=h.inv
   exact b
 | x::us,vs,i+1,h=>by
   obtain⟨w,r,rfl,a,b⟩:=h.inv
   exact .cons a (RUs.eraseIdx i b)
theorem RUs.take : ∀ {us:List U}{vs:List V} (i:Nat),RUs H μ us vs->RUs H μ (us.take i) (vs.take i)
 | us,vs,0,h=>by simpa using RUs.nil
 | [],vs,i+1,h=>by rw [h.nil_inv];simpa using RUs.nil
 | x::us,vs,i+1,h=>by
   obtain⟨w,r,rfl,a,b⟩:=h.inv
   exact .cons a (RUs.take i b)
theorem RUs.dropLast {us:List U}{vs:List V} (h:RUs H μ us vs):RUs H μ us.dropLast vs.dropLast:=by
 rw [Bt,Bt,h.len];exact h.take _
theorem RUs.ints : ∀ (ns:List Int),RUs H μ (ns.map U.int) (ns.map V.int)
 | [] => .nil
 | n::ns => .cons (by simp [RU]) (RUs.ints ns)
end
structure KX where
 K:ak
 caps:List U
 capv:List V
 cds:List (Addr×Obj)
 tabs:List (Addr×Str)
noncomputable instance:Coe KX ak:=⟨KX.K⟩
noncomputable def fz:HO := .ext fun _=>True
noncomputable def vw (H:Hp) (P:Addr) (q:Str):Prop := ∃ ps:Array Value,H P=some (.tbl ps)/\TriplesOk ps.toList /\
 ∀ pos cv,codeAmong pos ps.toList=some cv -> ∃ c oc vs t,cv = .ref c/\H c=some (.frz oc fz)/\oc.data = .fields vs/\vs[1]? = some (.str q t)
structure HX (K:KX) (μ:List Addr) (H:Hp):Prop where
 cap:RUs H μ K.caps K.capv
 cds : ∀ q∈K.cds,H q.1=some (.frz q.2 fz)
 tab : ∀ q∈K.tabs,vw H q.1 q.2
theorem HX.upd {K:KX}{μ μ':List Addr}{H:Hp}{p:Addr}{o':HO} (h:HX K μ H) (kp:bj H (upd H p o')) (pre:Pre μ μ') (nf : ∀ o,H p=some o->(∀ o' u,o ≠ .frz o' u) /\ ∀ ps,o ≠ .tbl ps):HX K μ' (upd H p o'):=by
 have f : ∀ a o u,H a=some (.frz o u)->L2.upd H p o' a=some (.frz o u):=fun a o u e=>by
  rw [bg]
  ·exact e
  ·rintro rfl
   exact (nf _ e).1 o u rfl
 refine⟨RUs.mono kp pre _ _ h.cap,fun q hq=>f _ _ _ (h.cds q hq),fun q hq => ?_⟩
 obtain⟨ps,e,tr,al⟩:=h.tab q hq
 refine⟨ps,?_,tr,fun pos cv hc => ?_⟩
 ·rw [bg]
  ·exact e
  ·intro z
   rw [z] at e
   exact (nf _ e).2 ps rfl
 ·obtain⟨c,oc,vs,t,e1,e2,e3,e4⟩:=al pos cv hc
  exact⟨c,oc,vs,t,e1,f _ _ _ e2,e3,e4⟩
noncomputable def dV (kvs:List (Key×U)) (vs:List V):List (Key×V):=(kvs.map (·.1)).zip vs
noncomputable def kQ (K:KX) (H:Hp) (μ:List Addr) (a:Addr):Cell->Prop
 | .lst us => ∃ vs,H a=some (.lst vs)/\RUs H μ us vs
 | .frz us => ∃ vs,((∃ o,H a=some (.frz o (.lst vs)))\/SqL K (fun _=>none) a vs)/\RUs H μ us vs
 | .dic kvs => ∃ vs,H a=some (.dK (dV kvs vs))/\RUs H μ (kvs.map (·.2)) vs
noncomputable def Cell.own:Cell->Bool
 | .frz _=>false
 | _=>true
structure HR (K:KX) (μ:List Addr) (S:Sto) (H:Hp):Prop where
 len:μ.length=S.length
 inj : ∀ (n m:Nat) (c d:Cell),S[n]? = some c->S[m]? = some d->c.own=true->d.own=true->μ[n]? = μ[m]? -> n=m
 cell : ∀ (n:Nat) (c:Cell) (a:Addr),S[n]? = some c->μ[n]? = some a->kQ K H μ a c
 ext:HX K μ H
structure ER (H:Hp) (μ:List Addr) (ρ:Rho) (σ:St):Prop where
 len:ρ.length=σ.length
 get : ∀ (i:Nat) (u:U),ρ[i]? = some (some u) -> ∃ v,σ[i]? = some (some v)/\RU H μ u v
theorem ER.mono {H H':Hp}{μ μ':List Addr}{ρ:Rho}{σ:St} (e:ER H μ ρ σ) (k:bj H H') (p:Pre μ μ'):ER H' μ' ρ σ:=
 ⟨e.len,fun i u h=>let ⟨v,a,b⟩:=e.get i u h;⟨v,a,RU.mono k p u v b⟩⟩
theorem ER.set {H:Hp}{μ:List Addr}{ρ:Rho}{σ:St} (e:ER H μ ρ σ) {u:U}{v:V} (r:RU H μ u v) (i:Nat):ER H μ (ρ.set i (some u)) (σ.set i (some v)):=by
 refine⟨by simpa using e.len,fun j w h => ?_⟩
 by_cases hj:i=j
 ·subst hj
  rw [List.getElem?_set] at h
  simp only [if_true] at h
  split at h
  ·rename_i hl
   cases h
   refine⟨v,?_,r⟩
   rw [aH (by rw [<- e.len];exact hl)]
  ·cases h
 ·rw [aA hj] at h
  obtain⟨x,a,b⟩:=e.get j w h
  exact⟨x,by rw [aA hj];exact a,b⟩
theorem ER.push {H:Hp}{μ:List Addr}{ρ:Rho}{σ:St} (e:ER H μ ρ σ) {u:U}{v:V} (r:RU H μ u v):ER H μ (ρ ++ [some u]) (σ ++ [some v]):=by
 refine⟨by simp [e.len],fun j w h => ?_⟩
 by_cases hj:j < ρ.length
 ·rw [aM hj] at h
  obtain⟨x,a,b⟩:=e.get j w h
  exact⟨x,by rw [aM (by rw [<- e.len];exact hj)];exact a,b⟩
 ·have hj':j=ρ.length:=by
   have:=(ae.mp h).1
   simp at this;omega
  subst hj'
  rw [av (aj _)] at h
  simp at h;subst h
  refine⟨v,?_,r⟩
  rw [e.len,av (aj _)];simp
section
variable {K:KX}{H:Hp}{μ:List Addr}{S:Sto}
theorem kQ.mono {H':Hp}{μ':List Addr}{a:Addr}{c:Cell} (h:kQ K H μ a c) (k:bj H H') (p:Pre μ μ') (l:c.own=true->H' a=H a) (f : ∀ o u,H a=some (.frz o u)->H' a=some (.frz o u)):kQ K H' μ' a c:=by
 cases c with
 | lst us=>
   obtain⟨vs,e,r⟩:=h
   exact⟨vs,(l rfl).trans e,RUs.mono k p us vs r⟩
 | dic kvs=>
   obtain⟨vs,e,r⟩:=h
   exact⟨vs,(l rfl).trans e,RUs.mono k p _ vs r⟩
 | frz us=>
   obtain⟨vs,e,r⟩:=h
   refine⟨vs,?_,RUs.mono k p us vs r⟩
   rcases e with⟨o,e⟩ | e
   ·exact .inl ⟨o,f o _ e⟩
   ·exact .inr e
theorem kQ.has {a:Addr}{c:Cell} (h:kQ K H μ a c) (ho:c.own=true) : ∃ o,H a=some o/\(∀ vs,o ≠ .tup vs)/\(∀ o' u,o ≠ .frz o' u) /\ ∀ ps,o ≠ .tbl ps:=by
 cases c with
 | lst us=>obtain⟨vs,e,r⟩:=h;exact⟨_,e,fun _ z=>(by cases z),fun _ _ z=>(by cases z),fun _ z=>(by cases z)⟩
 | dic kvs=>obtain⟨vs,e,r⟩:=h;exact⟨_,e,fun _ z=>(by cases z),fun _ _ z=>(by cases z),fun _ z=>(by cases z)⟩
 | frz us=>cases ho
theorem bj.wrG {H:Hp}{p:Addr}{o o':HO} (h:H p=some o) (ht : ∀ vs,o ≠ .tup vs):bj H (upd H p o'):=fun a vs e=>by
 rw [bg (o5 e h (dH (ht vs)))];exact e
theorem HR.get (h:HR K μ S H) {n:Nat}{c:Cell} (e:S[n]? = some c) : ∃ a,μ[n]? = some a/\kQ K H μ a c:=by
 have hn:n < μ.length:=by rw [h.len];exact (ae.mp e).1
 exact⟨μ[n],by simp [hn],h.cell n c _ e (by simp [hn])⟩
theorem HR.wrC (h:HR K μ S H) {n:Nat}{c d:Cell}{a:Addr}{o':HO} (e:S[n]? = some c) (ea:μ[n]? = some a) (hc:c.own=true) (hd:d.own=true) (r:kQ K (upd H a o') μ a d):HR K μ (S.set n d) (upd H a o'):=by
 obtain⟨o,e0,nt,nf,nb⟩:=(h.cell n _ a e ea).has hc
 have kp:bj H (upd H a o'):=bj.wrG e0 nt
 have hn:n < S.length:=(ae.mp e).1
 have pick : ∀ (m:Nat) (c':Cell),(S.set n d)[m]? = some c'->c'.own=true -> ∃ c'',S[m]? = some c''/\c''.own=true:=fun m c' q hq=>by
  by_cases hm:n=m
  ·subst hm;exact⟨c,e,hc⟩
  ·rw [aA hm] at q;exact⟨c',q,hq⟩
 refine⟨by rw [eI];exact h.len,fun i j u1 u2 q1 q2 o1 o2 q3 => ?_,fun m c' b q1 q2 => ?_,h.ext.upd kp (Pre.refl _) fun o1 q=>by rw [e0] at q;cases q;exact⟨nf,nb⟩⟩
 ·obtain⟨w1,z1,y1⟩:=pick i u1 q1 o1
  obtain⟨w2,z2,y2⟩:=pick j u2 q2 o2
  exact h.inj i j w1 w2 z1 z2 y1 y2 q3
 ·by_cases hm:n=m
  ·subst hm
   rw [aH hn] at q1
   cases q1
   rw [ea] at q2;cases q2
   exact r
  ·rw [aA hm] at q1
   refine (h.cell m c' b q1 q2).mono kp (Pre.refl _) (fun hc' => ?_) fun o u hf => ?_
   ·refine bg ?_
    rintro rfl
    exact hm (h.inj n m c c' e q1 hc hc' (ea.trans q2.symm))
   ·rw [bg (o5 hf e0 (dH (nf o u)))];exact hf
theorem HR.wr (h:HR K μ S H) {n:Nat}{us ws:List U}{vs:List V}{a:Addr} (e:S[n]? = some (.lst us)) (ea:μ[n]? = some a) (r:RUs H μ ws vs):HR K μ (S.set n (.lst ws)) (upd H a (.lst vs)):=by
 obtain⟨vs0,e0,r0⟩:=h.cell n _ a e ea
 exact h.wrC e ea rfl rfl ⟨vs,bS,RUs.mono (bj.wr e0) (Pre.refl _) ws vs r⟩
theorem HR.newC (h:HR K μ S H) {d:Cell}{p:Addr}{o':HO} (hp:H p=none) (hd:d.own=true) (r:kQ K (upd H p o') (μ ++ [p]) p d):HR K (μ ++ [p]) (S ++ [d]) (upd H p o'):=by
 have kp:bj H (upd H p o'):=bj.new hp
 have pre:Pre μ (μ ++ [p]):=⟨[p],rfl⟩
 have old : ∀ (n:Nat) (c:Cell),n < S.length->(S ++ [d])[n]? = some c->S[n]? = some c:=fun n c hn q=>by rwa [aM hn] at q
 have last : ∀ (n:Nat) (c:Cell),¬ n < S.length->(S ++ [d])[n]? = some c->n=S.length:=fun n c hn q=>by
  have:=(ae.mp q).1
  simp at this;omega
 have fresh : ∀ (n:Nat) (c:Cell),S[n]? = some c->c.own=true -> ∀ a,μ[n]? = some a->a≠p:=fun n c q hc a qa=>by
  obtain⟨o,e,_⟩:=(h.cell n _ a q qa).has hc
  exact bf e hp
 have mulast:(μ ++ [p])[S.length]? = some p:=by rw [<- h.len,av (aj _)];simp
 have muold : ∀ (n:Nat),n < S.length->(μ ++ [p])[n]? = μ[n]? := fun n hn=>aM (by rw [h.len];exact hn)
 refine⟨by simp [h.len],fun i j u1 u2 q1 q2 o1 o2 q3 => ?_,fun m c b q1 q2 => ?_,h.ext.upd kp pre fun o1 q=>by rw [hp] at q;cases q⟩
 ·by_cases hi:i < S.length
  ·by_cases hj:j < S.length
   ·rw [muold i hi,muold j hj] at q3
    exact h.inj i j u1 u2 (old i _ hi q1) (old j _ hj q2) o1 o2 q3
   ·have e:=last j _ hj q2
    subst e
    obtain⟨a,ha,_⟩:=h.get (old i _ hi q1)
    rw [muold i hi,mulast,ha] at q3
    exact absurd (bB q3) (fresh i u1 (old i _ hi q1) o1 a ha)
  ·have e:=last i _ hi q1
   subst e
   by_cases hj:j < S.length
   ·obtain⟨a,ha,_⟩:=h.get (old j _ hj q2)
    rw [muold j hj,mulast,ha] at q3
    exact absurd (bB q3).symm (fresh j u2 (old j _ hj q2) o2 a ha)
   ·exact (last j _ hj q2).symm
 ·by_cases hm:m < S.length
  ·rw [muold m hm] at q2
   refine (h.cell m c b (old m c hm q1) q2).mono kp pre (fun hc => ?_) fun o u hf => ?_
   ·exact bg (fresh m c (old m _ hm q1) hc b q2)
   ·rw [bg (bf hf hp)];exact hf
  ·have e:=last m c hm q1
   subst e
   rw [mulast] at q2;cases q2
   rw [av (aj _)] at q1
   simp at q1;subst q1
   exact r
theorem HR.new (h:HR K μ S H) {us:List U}{vs:List V}{p:Addr} (hp:H p=none) (r:RUs H μ us vs):HR K (μ ++ [p]) (S ++ [.lst us]) (upd H p (.lst vs)):=
 h.newC hp rfl ⟨vs,bS,RUs.mono (bj.new hp) ⟨[p],rfl⟩ us vs r⟩
theorem HR.tup (h:HR K μ S H) {vs:List V}{p:Addr} (hp:H p=none):HR K μ S (upd H p (.tup vs)):=by
 have kp:bj H (upd H p (.tup vs)):=bj.new hp
 refine⟨h.len,h.inj,fun m c b q1 q2=>(h.cell m c b q1 q2).mono kp (Pre.refl _) (fun hc => ?_) fun o u hf => ?_,h.ext.upd kp (Pre.refl _) fun o1 q=>by rw [hp] at q;cases q⟩
 ·obtain⟨o,e,_⟩:=(h.cell m _ b q1 q2).has hc
  exact bg (bf e hp)
 ·rw [bg (bf hf hp)];exact hf
theorem HR.sq (h:HR K μ S H) {n:Nat}{us:List U} (e:getL S n=some us) : ∃ a vs,μ[n]? = some a/\SqL K H a vs/\RUs H μ us vs:=by
 unfold getL at e
 split at e
 ·rename_i ws q
  cases e
  obtain⟨a,ha,vs,e1,r⟩:=h.get q
  exact⟨a,vs,ha,SqL.of e1,r⟩
 ·rename_i ws q
  cases e
  obtain⟨a,ha,vs,e1,r⟩:=h.get q
  refine⟨a,vs,ha,?_,r⟩
  rcases e1 with⟨o,e1⟩ | e1
  ·exact .inl (.inr ⟨o,e1⟩)
  ·rcases e1 with (e1 | ⟨o,e1⟩) | e1
   ·cases e1
   ·cases e1
   ·exact .inr e1
 ·cases e
 ·cases e
end
noncomputable def Aft (K:KX) (μ:List Addr) (H:Hp) (u:U) (S':Sto) (Q:VK):Prop := ∀ μ' v H',Pre μ μ'->bj H H'->HR K μ' S' H'->RU H' μ' u v->Q v H'
noncomputable def tM (K:KX) (m:ME):TE:=fun σ H Q => ∃ μ S ρ u S',HR K μ S H/\ER H μ ρ σ/\m ρ S=some (u,S')/\Aft K μ H u S' Q
noncomputable def tMT (K:KX) (m:MT):TT:=fun σ H Q => ∃ μ S ρ b S',HR K μ S H/\ER H μ ρ σ/\m ρ S=some (b,S') /\ ∀ μ' H',Pre μ μ'->bj H H'->HR K μ' S' H'->Q b H'
noncomputable def tMA (K:KX) (m:MA):TA:=fun σ H Q => ∃ μ S ρ us S',HR K μ S H/\ER H μ ρ σ/\m ρ S=some (us,S') /\ ∀ μ' vs H',Pre μ μ'->bj H H'->HR K μ' S' H'->RUs H' μ' us vs->Q vs H'
noncomputable def FlP (K:KX) (μ:List Addr) (H:Hp) (D:Ends):Fl×Rho×Sto->Prop
 | (.nx,ρ',S') => ∀ μ' σ' H',Pre μ μ'->bj H H'->HR K μ' S' H'->ER H' μ' ρ' σ'->D.nx σ' H'
 | (.bk,ρ',S') => ∀ μ' σ' H',Pre μ μ'->bj H H'->HR K μ' S' H'->ER H' μ' ρ' σ'->D.bk σ' H'
 | (.ct,ρ',S') => ∀ μ' σ' H',Pre μ μ'->bj H H'->HR K μ' S' H'->ER H' μ' ρ' σ'->D.ct σ' H'
 | (.rt u,_,S')=>Aft K μ H u S' D.rt
noncomputable def tMS (K:KX) (m:MS):TS:=fun D σ H => ∃ μ S ρ r,HR K μ S H/\ER H μ ρ σ/\m ρ S=some r/\FlP K μ H D r
theorem Aft.mono {K:KX}{μ μ1:List Addr}{H H1:Hp}{u:U}{S':Sto}{Q:VK} (a:Aft K μ H u S' Q) (p:Pre μ μ1) (k:bj H H1):Aft K μ1 H1 u S' Q:=
 fun μ' v H' p' k'=>a μ' v H' (p.trans p') (k.trans k')
theorem FlP.mono {K:KX}{μ μ1:List Addr}{H H1:Hp}{D:Ends}{r:Fl×Rho×Sto} (a:FlP K μ H D r) (p:Pre μ μ1) (k:bj H H1):FlP K μ1 H1 D r:=by
 obtain⟨f,ρ',S'⟩:=r
 cases f with
 | nx=>exact fun μ' σ' H' p' k'=>a μ' σ' H' (p.trans p') (k.trans k')
 | bk=>exact fun μ' σ' H' p' k'=>a μ' σ' H' (p.trans p') (k.trans k')
 | ct=>exact fun μ' σ' H' p' k'=>a μ' σ' H' (p.trans p') (k.trans k')
 | rt u=>exact Aft.mono a p k
end G
end
section
namespace G
open PySem PySem.Spec L2
open PyProof.Rows hiding St
section
variable {K:KX}{σ:St}{H:Hp}{Q:VK}
theorem mh {A B:Prop} (h:A):if true=true then A else B:=by rw [if_pos rfl];exact h
theorem mw {A B:Prop} (h:B):if false=true then A else B:=by rw [if_neg bI];exact h
theorem HV {i:Nat} (h:tM K (ab i) σ H Q):IB i σ H Q:=by
 obtain⟨μ,S,ρ,u,S',hr,er,e,k⟩:=h
 unfold ab at e
 split at e
 ·rename_i w q
  cases e
  obtain⟨v,hv,ru⟩:=er.get i _ q
  exact⟨v,hv,k μ v H (Pre.refl _) (bj.refl _) hr ru⟩
 ·cases e
theorem r_c {u:U}{v:V} (hv : ∀ H μ,RU H μ u v) (h:tM K (mC u) σ H Q):tC v σ H Q:=by
 obtain⟨μ,S,ρ,u',S',hr,er,e,k⟩:=h
 cases e
 exact k μ v H (Pre.refl _) (bj.refl _) hr (hv _ _)
noncomputable def OpU (K:KX) (r:R2) (f:F2):Prop := ∀ (μ:List Addr) (S:Sto) (H:Hp) (x y:U) (vx vy:V) (u:U) (S':Sto) (Q:VK),HR K μ S H->RU H μ x vx->RU H μ y vy->f x y S=some (u,S')->Aft K μ H u S' Q->r vx vy H Q
theorem rS {r:R2}{f:F2}{a b:ME} (o:OpU K r f) (h:tM K (m2 f a b) σ H Q):tOp r (tM K a) (tM K b) σ H Q:=by
 obtain⟨μ,S,ρ,u,S',hr,er,e,k⟩:=h
 obtain⟨x,S1,e1,e⟩:=aZ e
 obtain⟨y,S2,e2,e⟩:=aZ e
 refine⟨μ,S,ρ,x,S1,hr,er,e1,fun μ1 vx H1 p1 k1 hr1 rx => ?_⟩
 refine⟨μ1,S1,ρ,y,S2,hr1,er.mono k1 p1,e2,fun μ2 vy H2 p2 k2 hr2 ry => ?_⟩
 exact o μ2 S2 H2 x y vx vy u S' Q hr2 (RU.mono k2 p2 x vx rx) ry e (k.mono (p1.trans p2) (k1.trans k2))
noncomputable def UnU (K:KX) (r:V->Hp->VK->Prop) (f:U->Sto->Res U):Prop := ∀ (μ:List Addr) (S:Sto) (H:Hp) (x:U) (vx:V) (u:U) (S':Sto) (Q:VK),HR K μ S H->RU H μ x vx->f x S=some (u,S')->Aft K μ H u S' Q->r vx H Q
theorem JU {r:V->Hp->VK->Prop}{f:U->Sto->Res U}{a:ME} (o:UnU K r f) (h:tM K (m1 f a) σ H Q):tUn r (tM K a) σ H Q:=by
 obtain⟨μ,S,ρ,u,S',hr,er,e,k⟩:=h
 obtain⟨x,S1,e1,e⟩:=aZ e
 refine⟨μ,S,ρ,x,S1,hr,er,e1,fun μ1 vx H1 p1 k1 hr1 rx => ?_⟩
 exact o μ1 S1 H1 x vx u S' Q hr1 rx e (k.mono p1 k1)
theorem Aft.now {μ:List Addr}{S:Sto}{u:U}{v:V} (k:Aft K μ H u S Q) (hr:HR K μ S H) (r:RU H μ u v):Q v H:=k μ v H (Pre.refl _) (bj.refl _) hr r
theorem d7 {μ:List Addr}{i:Int}:RU H μ (.int i) (.int i):=by simp [RU]
theorem fO {μ:List Addr}{b:Bool}:RU H μ (.bl b) (.bl b):=by simp [RU]
theorem m9 {μ:List Addr}:RU H μ .non .non:=by simp [RU]
theorem iQ {μ:List Addr}{us:List U}{vs:List V}{a:Addr} (e:H a=some (.tup vs)) (r:RUs H μ us vs):RU H μ (.tup us) (.ref a):=by
 simp only [RU];exact⟨a,vs,rfl,e,r⟩
theorem oZ {μ:List Addr}{n:Nat}{a:Addr} (e:μ[n]? = some a):RU H μ (.ref n) (.ref a):=by
 simp only [RU];exact⟨a,rfl,e⟩
theorem b0 {μ:List Addr}{i:Int}{v:V} (h:RU H μ (.int i) v):v = .int i:=by simpa only [RU] using h
theorem iD {μ:List Addr}{b:Bool}{v:V} (h:RU H μ (.bl b) v):v = .bl b:=by simpa only [RU] using h
theorem gS {μ:List Addr}{us:List U}{v:V} (h:RU H μ (.tup us) v) : ∃ a vs,v = .ref a/\H a=some (.tup vs)/\RUs H μ us vs:=by simpa only [RU] using h
theorem dW {μ:List Addr}{n:Nat}{v:V} (h:RU H μ (.ref n) v) : ∃ a,v = .ref a/\μ[n]? = some a:=by simpa only [RU] using h
theorem xj {g:Int->Int->V}{f:F2}{k:Int->Int->U} (hf : ∀ x y S u S',f x y S=some (u,S') -> ∃ i j,x = .int i/\y = .int j/\u=k i j/\S'=S) (hg : ∀ H μ i j,RU H μ (k i j) (g i j)):OpU K (rI0 g) f:=by
 intro μ S H x y vx vy u S' Q hr rx ry e a
 obtain⟨i,j,rfl,rfl,rfl,rfl⟩:=hf x y S u S' e
 exact⟨i,j,b0 rx,b0 ry,a.now hr (hg _ _ _ _)⟩
theorem vU {C:Int->Int->Prop}{g:Int->Int->V}{f:F2}{k:Int->Int->U} (hf : ∀ x y S u S',f x y S=some (u,S') -> ∃ i j,x = .int i/\y = .int j/\C i j/\u=k i j/\S'=S) (hg : ∀ H μ i j,RU H μ (k i j) (g i j)):OpU K (rI C g) f:=by
 intro μ S H x y vx vy u S' Q hr rx ry e a
 obtain⟨i,j,rfl,rfl,c,rfl,rfl⟩:=hf x y S u S' e
 exact⟨i,j,b0 rx,b0 ry,c,a.now hr (hg _ _ _ _)⟩
theorem F8:OpU K (rI0 fun i j => .int (i - j)) pD:=xj (k:=fun i j => .int (i - j)) (fun x y S u S' h=>by
 unfold pD at h;split at h <;> simp at h;obtain⟨rfl,rfl⟩:=h;exact⟨_,_,rfl,rfl,rfl,rfl⟩) fun _ _ _ _=>d7
noncomputable def DV (K:ak):R2:=fun x y H Q => ∃ l k xs,x = .ref l/\y = .int k/\H l=some (.tup xs)/\xi xs.length k/\(k=1->Q (.ref l) H)/\(k≠1 -> ∀ p,H p=none->Q (.ref p) (upd H p (.tup (aE k.toNat xs).flatten)))
theorem oG (its:List Value) : ∀ (m:Nat) (a:List Value),List.foldl (fun x1 x2=>x1++x2) a.toArray (aE m its.toArray)=(a++(aE m its).flatten).toArray
 | 0,a=>by simp
 | m+1,a=>by
   rw [cU,lG,List.append_toArray,oG its m (a++its),cU,eR,aN]
theorem RUs.rep {H:Hp}{μ:List Addr}{us:List U}{vs:List V} (r:RUs H μ us vs) : ∀ (m:Nat),RUs H μ (aE m us).flatten (aE m vs).flatten
 | 0=>by simpa using RUs.nil
 | m+1=>by
   rw [cU,eR,cU,eR]
   exact r.append (RUs.rep r m)
theorem CM {X:Cx}:OpR X (binaryOp .Mult) (DV X.K):=by
 intro pins s σ H x y v u Q I rx ry h
 obtain⟨l,k,xs,rfl,rfl,hH,⟨h1,h2,h3,h4⟩,q1,q2⟩:=h
 cases (show v=be l from rx)
 obtain⟨t,rfl⟩:=ry
 obtain⟨z,its,r,⟨⟨cls,dd,data,sl⟩,e,c,n,d⟩,_⟩:=I.hok l _ hH
 simp only at c d
 subst c d
 have hl:its.length=xs.length:=r.length.symm
 refine wpAny_binaryOp_repeat_ref (T:="tuple") (U:="int") (by decide) ⟨_,e,rfl⟩ (fun s'=>typeIs_int s' k t) mP F.fills_int_mul F.slot_int_rmul sR F.slot_int_index.lookup
  (call_meets F.slot_int_rmul (typeIs_int s k t) F.entry_int_rmul (F.args_int_rmul_2 _ _) (ow k t l its.toArray n dd sl) ⟨e,rfl,⟨_,e,rfl⟩,?_⟩)
 by_cases hk:k=1
 ·subst hk
  exact call_meets vm ⟨_,e,rfl⟩ tj (qz _ _) (ql l its.toArray n dd sl t) ⟨e,⟨.ref l,H,I,rfl,q1 rfl⟩⟩
 ·by_cases hk0:k=0
  ·subst hk0
   refine call_meets vm ⟨_,e,rfl⟩ tj (qz _ _) (wk l its.toArray n dd sl t ?_) ⟨e,?_⟩
   ·cases its with
    | nil=>simp at hl;omega
    | cons a b=>rfl
   ·exact⟨.ref s.heap.objs.size,_,I.laid (t':=s.toks) (o := .tup []) (fun b ob q=>af _ q) (aj _) ⟨b9 _,[],.nil,qu _ _,_,ay _ rfl,rfl⟩,rfl,by simpa using q2 hk _ (I.hok.fresh (aj _))⟩
  refine call_meets vm ⟨_,e,rfl⟩ tj (qz _ _) (vX l its.toArray n dd sl k t ?_ (by omega) h2 (by rw [aC];omega)) ⟨e,?_⟩
  ·intro w
   rw [lF] at w
   rcases w with w | w
   ·have:its = []:=by simpa using w
    rw [this] at hl;simp at hl;omega
   ·exact hk (by simpa using w)
  ·rw [show (#[]:Array Value)=([]:List Value).toArray from rfl,oG its k.toNat [],du]
   refine⟨.ref s.heap.objs.size,_,I.laid (t':=s.toks) (o := .tup (aE k.toNat xs).flatten) (fun b ob q=>af _ q) (aj _) ?_,rfl,q2 hk _ (I.hok.fresh (aj _))⟩
   refine⟨?_,_,r.rep k.toNat,qu _ _,_,ay _ rfl,rfl⟩
   rw [len_rep,sizeLine_eq]
   have:k.toNat*xs.length<=1000*xs.length:=cD _ (by omega)
   omega
theorem Fp:OpU K (fun x y H Q=>rI CD (fun i j => .int (i*j)) x y H Q\/DV K x y H Q) d6:=by
 intro μ S H x y vx vy u S' Q hr rx ry e a
 unfold d6 at e
 split at e
 ·split at e
  ·rename_i hc
   simp at e;obtain⟨rfl,rfl⟩:=e
   exact .inl ⟨_,_,b0 rx,b0 ry,hc,a.now hr d7⟩
  ·cases e
 ·rename_i xs k
  split at e
  ·rename_i hc
   simp at e;obtain⟨rfl,rfl⟩:=e
   obtain⟨p,vs,rfl,hp,r1⟩:=gS rx
   refine .inr ⟨p,k,vs,rfl,b0 ry,hp,by rw [<- r1.len];exact hc,fun hk => ?_,fun hk t ht => ?_⟩
   ·subst hk
    have e1:(aE (1:Int).toNat xs).flatten=xs:=by simp
    rw [e1] at a
    exact a.now hr (iQ hp r1)
   ·exact a μ _ _ (Pre.refl _) (bj.new ht) (hr.tup ht) (iQ bS (RUs.mono (bj.new ht) (Pre.refl _) _ _ (r1.rep _)))
  ·cases e
 ·cases e
theorem Gu:OpU K (rI IH fun i j => .int (i / j)) oDiv:=vU (k:=fun i j => .int (i / j)) (fun x y S u S' h=>by
 unfold oDiv at h;split at h
 ·split at h
  ·rename_i hc;simp at h;obtain⟨rfl,rfl⟩:=h;exact⟨_,_,rfl,rfl,hc,rfl,rfl⟩
  ·cases h
 ·cases h) fun _ _ _ _=>d7
theorem Et:OpU K (rI (fun _ j=>0 < j) fun i j => .int (i % j)) oMod:=vU (k:=fun i j => .int (i % j)) (fun x y S u S' h=>by
 unfold oMod at h;split at h
 ·split at h
  ·rename_i hc;simp at h;obtain⟨rfl,rfl⟩:=h;exact⟨_,_,rfl,rfl,hc,rfl,rfl⟩
  ·cases h
 ·cases h) fun _ _ _ _=>d7
theorem EU:OpU K (rI IT fun i j => .int (i ^ j.toNat)) se:=vU (k:=fun i j => .int (i ^ j.toNat)) (fun x y S u S' h=>by
 unfold se at h;split at h
 ·split at h
  ·rename_i hc;simp at h;obtain⟨rfl,rfl⟩:=h;exact⟨_,_,rfl,rfl,hc,rfl,rfl⟩
  ·cases h
 ·cases h) fun _ _ _ _=>d7
theorem rM {p:Int->Int->Bool}:OpU K (rI0 fun i j => .bl (p i j)) (yL p):=xj (k:=fun i j => .bl (p i j)) (fun x y S u S' h=>by
 unfold yL at h;split at h <;> simp at h;obtain⟨rfl,rfl⟩:=h;exact⟨_,_,rfl,rfl,rfl,rfl⟩) fun _ _ _ _=>fO
noncomputable def DF (K:ak):R2:=fun x y H Q => ∃ a b ys,x = .ref a/\y = .ref b/\SqT K H a []/\SqT K H b ys/\Q (.ref b) H
theorem Ca {X:Cx}:OpR X (binaryOp .Add) (DF X.K):=by
 intro pins s σ H x y v u Q I rx ry h
 obtain⟨a,b,ys,rfl,rfl,h1,h2,q⟩:=h
 cases (show v=be a from rx)
 cases (show u=be b from ry)
 obtain⟨its,r1,p1,_⟩:=I.tuple h1
 obtain⟨its2,r2,p2,_⟩:=I.tuple h2
 cases r1
 exact HT.cat_tup0 p1 p2 ⟨.ref b,H,I,rfl,q⟩
theorem FE:OpU K (fun x y H Q=>rI0 (fun i j => .int (i+j)) x y H Q\/DA K x y H Q\/DF K x y H Q\/Jf x y H Q) cW:=by
 intro μ S H x y vx vy u S' Q hr rx ry e a
 unfold cW at e
 split at e
 ·simp at e;obtain⟨rfl,rfl⟩:=e
  exact .inl ⟨_,_,b0 rx,b0 ry,a.now hr d7⟩
 ·rename_i xs ys
  split at e
  ·rename_i hc
   simp at e;obtain⟨rfl,rfl⟩:=e
   obtain⟨p,vs,rfl,hp,r1⟩:=gS rx
   obtain⟨q,ws,rfl,hq,r2⟩:=gS ry
   by_cases hx:xs = []
   ·subst hx
    have hv:vs = []:=by have:=r1.len;exact dk (by simpa using this.symm)
    subst hv
    exact .inr (.inr (.inl ⟨p,q,ws,rfl,rfl,.inl (.inl hp),.inl (.inl hq),a.now hr (iQ hq r2)⟩))
   refine .inr (.inl ⟨p,q,vs,ws,rfl,rfl,.inl (.inl hp),.inl (.inl hq),?_,?_,fun z => ?_,fun z t ht => ?_⟩)
   ·intro z;subst z;have:=r1.len;exact hx (dk (by simpa using this))
   ·have h1:=r1.len;have h2:=r2.len;unfold big at hc;rw [sizeLine_eq];omega
   ·subst z
    have:ys = []:=by have:=r2.len;exact dk (by simpa using this)
    subst this
    rw [iM] at a
    exact a.now hr (iQ hp r1)
   ·refine a μ _ _ (Pre.refl _) (bj.new ht) (hr.tup ht) ?_
    have kp:bj H (upd H t (.tup (vs++ws))):=bj.new ht
    exact iQ bS ((RUs.mono kp (Pre.refl _) _ _ r1).append (RUs.mono kp (Pre.refl _) _ _ r2))
  ·cases e
 ·rename_i n m
  split at e
  ·rename_i xs ys q1 q2
   split at e
   ·rename_i hc
    simp at e;obtain⟨rfl,rfl⟩:=e
    obtain⟨p,rfl,hp⟩:=dW rx
    obtain⟨q,rfl,hq⟩:=dW ry
    obtain⟨vs,e1,r1⟩:=hr.cell n _ p q1 hp
    obtain⟨ws,e2,r2⟩:=hr.cell m _ q q2 hq
    refine .inr (.inr (.inr ⟨p,q,vs,ws,rfl,rfl,e1,e2,?_,fun t ht => ?_⟩))
    ·have h1:=r1.len;have h2:=r2.len;unfold big at hc;rw [sizeLine_eq];omega
    ·refine a (μ ++ [t]) _ _ ⟨[t],rfl⟩ (bj.new ht) (hr.new ht (r1.append r2)) (oZ ?_)
     rw [<- hr.len,av (aj _)];simp
   ·cases e
  ·cases e
 ·cases e
theorem HR.seq {μ:List Addr}{S:Sto}{x:U}{v:V}{us:List U} (hr:HR K μ S H) (r:RU H μ x v) (e:dO S x=some us) : ∃ a vs,v = .ref a/\(SqL K H a vs\/SqT K H a vs)/\RUs H μ us vs:=by
 unfold dO at e
 split at e
 ·cases e
  obtain⟨a,vs,rfl,h,q⟩:=gS r
  exact⟨a,vs,rfl,.inr (.inl (.inl h)),q⟩
 ·obtain⟨a,rfl,ha⟩:=dW r
  obtain⟨a',vs,ha',hs,q⟩:=hr.sq e
  rw [ha] at ha';cases ha'
  exact⟨a,vs,rfl,.inl hs,q⟩
 ·cases e
theorem B1 {μ:List Addr}{us:List U}{vs:List V}{i:Int}{u:U} (r:RUs H μ us vs) (e:atI us i=some u) : ∃ v,atI vs i=some v/\RU H μ u v:=by
 unfold atI at e ⊢
 rw [<- r.len]
 cases q:ixN us.length i with
 | none=>rw [q] at e;cases e
 | some j=>
   rw [q] at e
   exact r.get e
theorem lW {μ:List Addr}{y:U}{v:V}{k:Key} (r:RU H μ y v) (e:keyOf y=some k):v=kV k:=by
 cases y <;> simp only [keyOf,dB,reduceCtorEq] at e <;> subst e <;> (simp only [RU] at r;exact r)
theorem wR {μ:List Addr}{k:Key}{u:U} : ∀ {kvs:List (Key×U)}{vs:List V},RUs H μ (kvs.map (·.2)) vs->hG kvs k=some u -> ∃ v,kh (dV kvs vs) k=some v/\RU H μ u v
 | [],vs,r,e=>by cases e
 | (j,x)::kvs,vs,r,e=>by
   obtain⟨v,r',rfl,a,b⟩:=r.inv
   show ∃ w,kh ((j,v)::dV kvs r') k=some w/\_
   by_cases h:j=k
   ·rw [jV h]
    simp [hG,bF,h] at e
    subst e
    exact⟨v,rfl,a⟩
   ·rw [jY h]
    refine wR b ?_
    simpa [hG,bF,h] using e
theorem t9 {k:Key} : ∀ {kvs:List (Key×U)}{vs:List V},kvs.length=vs.length->(kh (dV kvs vs) k).isSome=(hG kvs k).isSome
 | [],vs,_=>by simp [dV,kh,hG]
 | (j,x)::kvs,[],h=>by simp at h
 | (j,x)::kvs,v::vs,h=>by
   show (kh ((j,v)::dV kvs vs) k).isSome=_
   by_cases hj:j=k
   ·rw [jV hj];simp [hG,bF,hj]
   ·rw [jY hj,t9 (by simpa using h)];simp [hG,bF,hj]
theorem Az {k:Key} : ∀ {kvs:List (Key×U)}{vs:List V},kvs.length=vs.length->((dV kvs vs).any fun kv=>decide (kv.1=k))=kvs.any fun kv=>decide (kv.1=k)
 | [],vs,_=>by simp [dV]
 | (j,x)::kvs,[],h=>by simp at h
 | (j,x)::kvs,v::vs,h=>by
   show (((j,v)::dV kvs vs).any fun kv=>decide (kv.1=k))=_
   rw [eN,eN,Az (by simpa using h)]
theorem vR {kvs:List (Key×U)}{vs:List V} (h:kvs.length=vs.length):(dV kvs vs).length=kvs.length:=by
 simp [dV,h]
theorem wH {μ:List Addr}{k:Key}{u:U}{v:V} (ru:RU H μ u v) : ∀ {kvs:List (Key×U)}{vs:List V},RUs H μ (kvs.map (·.2)) vs ->
  ∃ ws,dV (kvs.map fun kv=>if kv.1=k then (kv.1,u) else kv) ws=(dV kvs vs).map (fun kv=>if kv.1=k then (kv.1,v) else kv)/\RUs H μ ((kvs.map fun kv=>if kv.1=k then (kv.1,u) else kv).map (·.2)) ws
 | [],vs,r=>⟨[],by simp [dV],.nil⟩
 | (j,x)::kvs,vs,r=>by
   obtain⟨w,r',rfl,a,b⟩:=r.inv
   obtain⟨ws,e,q⟩:=wH ru b
   show ∃ ws',dV ((if j=k then (j,u) else (j,x))::kvs.map fun kv=>if kv.1=k then (kv.1,u) else kv) ws'=(if j=k then (j,v) else (j,w))::(dV kvs r').map (fun kv=>if kv.1=k then (kv.1,v) else kv)/\RUs H μ (((if j=k then (j,u) else (j,x))::kvs.map fun kv=>if kv.1=k then (kv.1,u) else kv).map (·.2)) ws'
   by_cases h:j=k
   ·rw [if_pos h,if_pos h]
    exact⟨v::ws,by rw [<- e];rfl,.cons ru q⟩
   ·rw [if_neg h,if_neg h]
    exact⟨w::ws,by rw [<- e];rfl,.cons a q⟩
theorem wM {μ:List Addr}{k:Key}{u:U}{v:V}{kvs:List (Key×U)}{vs:List V} (ru:RU H μ u v) (r:RUs H μ (kvs.map (·.2)) vs) : ∃ ws,dV (iT kvs k u) ws=putK (dV kvs vs) k v/\RUs H μ ((iT kvs k u).map (·.2)) ws:=by
 have hl:kvs.length=vs.length:=by have:=r.len;rwa [aq] at this
 unfold iT putK
 rw [Az hl]
 split
 ·exact wH ru r
 ·refine⟨vs ++ [v],?_,by rw [dv];exact r.append (.cons ru .nil)⟩
  unfold dV
  rw [dv,List.zip_append (by simpa using hl)]
  rfl
theorem HR.dic {μ:List Addr}{S:Sto}{x:U}{v:V}{kvs:List (Key×U)} (hr:HR K μ S H) (r:RU H μ x v) (e:fi S x=some kvs) : ∃ a vs,v = .ref a/\H a=some (.dK (dV kvs vs))/\RUs H μ (kvs.map (·.2)) vs:=by
 unfold fi at e
 split at e
 ·split at e
  ·rename_i q
   cases e
   obtain⟨a,rfl,ha⟩:=dW r
   obtain⟨vs,e1,r1⟩:=hr.cell _ _ a q ha
   exact⟨a,vs,rfl,e1,r1⟩
  ·cases e
 ·cases e
noncomputable def HC:R2:=fun x y H Q => ∃ a v,x = .ref a/\sM H a y (some v)/\Q v H
noncomputable def JW (K:ak):R2:=fun x y H Q=>rIx K x y H Q\/HC x y H Q
theorem GH {X:Cx} (hu:X.A.units+1 < cLine):IxR X HC:=by
 intro value slice pins s σ H x y v u Q I rx ry h hs
 obtain⟨a,w,rfl,g,q⟩:=h
 obtain rfl:v=be a:=rx
 exact tail_any (t7 I g) PySem.F.slot_dict_getitem.lookup (ye hu I g ry fun w' s3 I3 rw'=>⟨w,H,I3,rw',q⟩) hs
theorem IE:OpU K (JW K) oIx:=by
 intro μ S H x y vx vy u S' Q hr rx ry e a
 unfold oIx at e
 split at e
 ·rename_i kvs qd
  cases qk:keyOf y with
  | none=>rw [qk] at e;cases e
  | some kk=>
    rw [qk] at e
    simp only [ah] at e
    cases qv:hG kvs kk with
    | none=>rw [qv] at e;cases e
    | some w=>
      rw [qv] at e
      simp at e;obtain⟨rfl,rfl⟩:=e
      obtain⟨p,vs,rfl,hp,r⟩:=hr.dic rx qd
      obtain⟨v,hv,rv⟩:=wR r qv
      rw [lW ry qk]
      exact .inr ⟨p,v,rfl,.inl ⟨_,kk,.inl hp,rfl,hv.symm⟩,a.now hr rv⟩
 split at e
 ·rename_i i
  refine .inl ?_
  cases q:dO S x with
  | none=>rw [q] at e;cases e
  | some us=>
    rw [q] at e
    simp only [ah] at e
    cases z:atI us i with
    | none=>rw [z] at e;cases e
    | some w=>
      rw [z] at e
      simp at e;obtain⟨rfl,rfl⟩:=e
      obtain⟨p,vs,rfl,hs,r⟩:=hr.seq rx q
      obtain⟨v,hv,rv⟩:=B1 r z
      rcases hs with hs | hs
      ·exact .inl ⟨p,vs,i,v,rfl,b0 ry,hs,hv,a.now hr rv⟩
      ·exact .inr (.inl ⟨p,vs,i,v,rfl,b0 ry,hs,hv,a.now hr rv⟩)
 ·cases e
theorem Ep:UnU K (rU fun i => .int (-i)) h9:=by
 intro μ S H x vx u S' Q hr rx e a
 unfold h9 at e
 split at e
 ·cases e
  exact⟨_,b0 rx,a.now hr d7⟩
 ·cases e
theorem HW {Q:List V->Hp->Prop} (h:tMA K ai σ H Q):tH σ H Q:=by
 obtain⟨μ,S,ρ,us,S',hr,er,e,k⟩:=h
 cases e
 exact k μ [] H (Pre.refl _) (bj.refl _) hr .nil
theorem GV {a:ME}{r:MA}{Q:List V->Hp->Prop} (h:tMA K (aa a r) σ H Q):nq (tM K a) (tMA K r) σ H Q:=by
 obtain⟨μ,S,ρ,us,S',hr,er,e,k⟩:=h
 obtain⟨x,S1,e1,e⟩:=aZ e
 obtain⟨xs,S2,e2,e⟩:=aZ e
 cases e
 refine⟨μ,S,ρ,x,S1,hr,er,e1,fun μ1 vx H1 p1 k1 hr1 rx => ?_⟩
 refine⟨μ1,S1,ρ,xs,_,hr1,er.mono k1 p1,e2,fun μ2 vs H2 p2 k2 hr2 rs => ?_⟩
 exact k μ2 _ H2 (p1.trans p2) (k1.trans k2) hr2 (.cons (RU.mono k2 p2 x vx rx) rs)
theorem Jx {a:MA} (h:tM K (ft a) σ H Q):Hj (tMA K a) σ H Q:=by
 obtain⟨μ,S,ρ,u,S',hr,er,e,k⟩:=h
 obtain⟨xs,S1,e1,e⟩:=aZ e
 split at e
 ·rename_i hc
  cases e
  refine⟨μ,S,ρ,xs,_,hr,er,e1,fun μ1 vs H1 p1 k1 hr1 rs=>⟨?_,fun p hp => ?_⟩⟩
  ·have:=rs.len;unfold big at hc;rw [sizeLine_eq];omega
  ·exact k μ1 _ _ p1 (k1.trans (bj.new hp)) (hr1.tup hp) (iQ bS (RUs.mono (bj.new hp) (Pre.refl _) _ _ rs))
 ·cases e
theorem ky {μ:List Addr}{S:Sto}{us:List U}{vs:List V}{p:Addr} (k:Aft K μ H (.ref S.length) (S ++ [.lst us]) Q) (hr:HR K μ S H) (rs:RUs H μ us vs) (hp:H p=none):Q (.ref p) (upd H p (.lst vs)):=by
 refine k (μ ++ [p]) _ _ ⟨[p],rfl⟩ (bj.new hp) (hr.new hp rs) (oZ ?_)
 rw [<- hr.len,av (aj _)];simp
theorem IZ {a:MA} (h:tM K (cm a) σ H Q):Ir (tMA K a) σ H Q:=by
 obtain⟨μ,S,ρ,u,S',hr,er,e,k⟩:=h
 obtain⟨xs,S1,e1,e⟩:=aZ e
 split at e
 ·rename_i hc
  cases e
  refine⟨μ,S,ρ,xs,S1,hr,er,e1,fun μ1 vs H1 p1 k1 hr1 rs=>⟨?_,fun p hp => ?_⟩⟩
  ·have:=rs.len;unfold big at hc;rw [sizeLine_eq];omega
  ·exact ky (k.mono p1 k1) hr1 rs hp
 ·cases e
noncomputable def oP (K:KX) (r:List V->Hp->VK->Prop) (f:MF):Prop := ∀ (μ:List Addr) (S:Sto) (H:Hp) (us:List U) (vs:List V) (u:U) (S':Sto) (Q:VK),HR K μ S H->RUs H μ us vs->f us S=some (u,S')->Aft K μ H u S' Q->r vs H Q
theorem xJ {r:List V->Hp->VK->Prop}{f:MF}{a:MA} (o:oP K r f) (h:tM K (mFn f a) σ H Q):tCB r (tMA K a) σ H Q:=by
 obtain⟨μ,S,ρ,u,S',hr,er,e,k⟩:=h
 obtain⟨xs,S1,e1,e⟩:=aZ e
 refine⟨μ,S,ρ,xs,S1,hr,er,e1,fun μ1 vs H1 p1 k1 hr1 rs => ?_⟩
 exact o μ1 S1 H1 xs vs u S' Q hr1 rs e (k.mono p1 k1)
noncomputable def spM (K:KX) (m:MF):Sp:=fun vs H Q _ => ∃ μ S us u S',HR K μ S H/\RUs H μ us vs/\m us S=some (u,S')/\Aft K μ H u S' Q
theorem zz {f:MF}{a:MA}{E:XK} (h:tM K (mFn f a) σ H Q):xn (spM K f) [] E (tMA K a) σ H Q:=by
 obtain⟨μ,S,ρ,u,S',hr,er,e,k⟩:=h
 obtain⟨xs,S1,e1,e⟩:=aZ e
 refine⟨μ,S,ρ,xs,S1,hr,er,e1,fun μ1 vs H1 p1 k1 hr1 rs => ?_⟩
 show spM K f (vs ++ []) H1 Q E
 rw [iM]
 exact⟨μ1,S1,xs,u,S',hr1,rs,e,k.mono p1 k1⟩
theorem Gf:oP K (fun xs H Q=>(∃ p ys,xs = [.ref p]/\(SqL K H p ys\/SqT K H p ys)/\Q (.int ys.length) H) \/ ∃ a kvs,xs = [V.ref a]/\H a=some (.dK kvs)/\Q (.int kvs.length) H) bW:=by
 intro μ S H us vs u S' Q hr rs e a
 unfold bW at e
 split at e
 ·rename_i x
  obtain⟨v,r,rfl,rx,rn⟩:=rs.inv
  rw [rn.nil_inv]
  split at e
  ·rename_i kvs qd
   cases e
   obtain⟨p,ws,rfl,hp,r'⟩:=hr.dic rx qd
   refine .inr ⟨p,_,rfl,hp,?_⟩
   have hl:kvs.length=ws.length:=by have:=r'.len;rwa [aq] at this
   rw [vR hl]
   exact a.now hr d7
  cases q:dO S x with
  | none=>rw [q] at e;cases e
  | some ws=>
    rw [q] at e;cases e
    obtain⟨p,ys,rfl,hs,r'⟩:=hr.seq rx q
    refine .inl ⟨p,ys,rfl,hs,?_⟩
    rw [<- r'.len]
    exact a.now hr d7
 ·cases e
theorem zt:oP K (fun xs H Q => ∃ p ys,xs = [.ref p]/\((SqL K H p ys /\ ∀ l,H l=none->Q (.ref l) (upd H l (.tup ys)))\/(SqT K H p ys/\Q (.ref p) H))) bG:=by
 intro μ S H us vs u S' Q hr rs e a
 unfold bG at e
 split at e
 ·rename_i x
  obtain⟨v,r,rfl,rx,rn⟩:=rs.inv
  rw [rn.nil_inv]
  unfold dO at e
  split at e
  ·cases e
   obtain⟨p,ys,rfl,hp,r'⟩:=gS rx
   exact⟨p,ys,rfl,.inr ⟨.inl (.inl hp),a.now hr (iQ hp r')⟩⟩
  ·rename_i n
   cases q:getL S n with
   | none=>rw [q] at e;cases e
   | some ws=>
     rw [q] at e;cases e
     obtain⟨p,rfl,hp⟩:=dW rx
     obtain⟨p',ys,hp',hs,r'⟩:=hr.sq q
     rw [hp] at hp';cases hp'
     refine⟨p,ys,rfl,.inl ⟨hs,fun l hl => ?_⟩⟩
     exact a μ _ _ (Pre.refl _) (bj.new hl) (hr.tup hl) (iQ bS (RUs.mono (bj.new hl) (Pre.refl _) _ _ r'))
  ·cases e
 ·cases e
theorem EF:oP K (fun xs H Q => ∃ i j,xs = [.int i,.int j]/\Q (.int (if j > i then j else i)) H) p9:=by
 intro μ S H us vs u S' Q hr rs e a
 unfold p9 at e
 split at e
 ·cases e
  obtain⟨v,r,rfl,rx,rs⟩:=rs.inv
  obtain⟨w,r,rfl,ry,rn⟩:=rs.inv
  rw [rn.nil_inv,b0 rx,b0 ry]
  exact⟨_,_,rfl,a.now hr d7⟩
 ·cases e
theorem mO : ∀ {ns:List Int}{m:Int},nH ns=some m->m∈ns /\ ∀ a∈ns,m<=a
 | [],m,h=>by cases h
 | x::xs,m,h=>by
   unfold nH at h
   cases q:nH xs with
   | none=>
     rw [q] at h;cases h
     cases xs with
     | nil=>exact⟨aV,fun a ha=>by simp at ha;omega⟩
     | cons y ys=>
       exfalso
       unfold nH at q
       split at q <;> cases q
   | some k=>
     rw [q] at h
     obtain⟨h1,h2⟩:=mO q
     have e:(if k < x then k else x)=m:=bB h
     by_cases hk:k < x
     ·rw [if_pos hk] at e;subst e
      refine⟨az _ h1,fun a ha => ?_⟩
      rcases aG.mp ha with z | z
      ·omega
      ·exact h2 a z
     ·rw [if_neg hk] at e;subst e
      refine⟨aV,fun a ha => ?_⟩
      rcases aG.mp ha with z | z
      ·omega
      ·have:=h2 a z;omega
theorem xk {μ:List Addr} : ∀ {us:List U}{vs:List V}{ns:List Int},RUs H μ us vs->cQ tZ us=some ns->vs=ns.map V.int
 | [],vs,ns,r,e=>by cases e;rw [r.nil_inv];rfl
 | u::us,vs,ns,r,e=>by
   obtain⟨v,r',rfl,a,b⟩:=r.inv
   unfold cQ at e
   cases u with
   | int x=>
     simp only [tZ,ah] at e
     cases q:cQ tZ us with
     | none=>rw [q] at e;cases e
     | some cs=>
       rw [q] at e;cases e
       rw [b0 a,xk b q];rfl
   | _=>cases e
noncomputable def Hn (K:ak):List V->Hp->VK->Prop:=fun xs H Q=>((∃ i j,xs = [.int i,.int j]/\Q (.int (if j < i then j else i)) H) \/ ∃ (p:Addr) (ns:List Int) (m:Int),xs = [.ref p]/\SqL K H p (ns.map V.int)/\m∈ns/\(∀ a∈ns,m<=a)/\Q (.int m) H)
theorem qN : ∀ {ns:List Int}{us:List Value},bP (ns.map V.int) us->IntsAre us ns
 | [],us,r=>by cases r;exact .nil
 | n::ns,us,r=>by
   cases r with
   | cons a b=>
     obtain⟨t,rfl⟩:=a
     exact .cons n t (qN b)
theorem xU {X:Cx} (hc:X.calm=true) (hu:X.A.units+64 < cLine):fN X (.builtin "min") (Hn X.K):=by
 intro pins s σ H xs us Q I rs h
 rcases h with h | ⟨p,ns,m,rfl,hS,hm,hle,q⟩
 ·exact xI hc pins s σ H xs us Q I rs h
 cases rs with
 | cons r1 rr=>
   cases rr
   cases (show _=be p from r1)
   obtain⟨its,rv,pl,_⟩:=I.list hS
   have hI:=qN rv
   have hl:=pl.isList
   obtain⟨ys,ey⟩:=hI.allInts.items
   have en:ns=ys.toList.map Prod.fst:=by rw [<- hI.numsOf,<- nums_intItems,<- ey]
   have lenE:ns.length=ys.size:=by rw [en];simp
   have pos:0 < ys.size:=by rw [<- lenE];exact List.length_pos_of_mem hm
   rw [ey] at hl
   refine min_intList (I.ok.hd hc) hl pos fun v h' tk hv hk => ?_
   obtain⟨t,rfl⟩:=intItems_at hv
   obtain⟨b1,b2⟩:=argBest_lt (numAt ys) (ys.size - 1)
   have hin:numAt ys (argBest (fun i j=>decide (numAt ys i < numAt ys j)) (ys.size - 1))∈ns:=by
    rw [en,numAt_eq]
    exact getD_mem (by rw [aq,dX];omega)
   obtain⟨j,hj,ej⟩:=mem_getD (show m∈ys.toList.map Prod.fst from en▸hm)
   have hj':j<=ys.size - 1:=by rw [aq,dX] at hj;omega
   have le2:=b2 j hj'
   rw [numAt_eq ys j,ej] at le2
   have le1:=hle _ hin
   have eq:numAt ys (argBest (fun i j=>decide (numAt ys i < numAt ys j)) (ys.size - 1))=m:=by omega
   exact⟨.int m,H,I.kept hk,⟨t,by rw [eq]⟩,q⟩
theorem EX:oP K (Hn K) mE:=by
 intro μ S H us vs u S' Q hr rs e a
 unfold mE at e
 split at e
 ·cases e
  obtain⟨v,r,rfl,rx,rs⟩:=rs.inv
  obtain⟨w,r,rfl,ry,rn⟩:=rs.inv
  rw [rn.nil_inv,b0 rx,b0 ry]
  exact .inl ⟨_,_,rfl,a.now hr d7⟩
 ·rename_i n
  obtain⟨v,r,rfl,rx,rn⟩:=rs.inv
  rw [rn.nil_inv]
  cases q:getL S n with
  | none=>rw [q] at e;cases e
  | some xs=>
    rw [q] at e
    simp only [ah] at e
    cases q2:cQ tZ xs with
    | none=>rw [q2] at e;cases e
    | some ns=>
      rw [q2] at e
      simp only [ah] at e
      cases q3:nH ns with
      | none=>rw [q3] at e;cases e
      | some m=>
        rw [q3] at e;cases e
        obtain⟨p,rfl,hp⟩:=dW rx
        obtain⟨p',ys,hp',hs,r'⟩:=hr.sq q
        rw [hp] at hp';cases hp'
        rw [xk r' q2] at hs
        obtain⟨h1,h2⟩:=mO q3
        exact .inr ⟨p,ns,_,rfl,hs,h1,h2,a.now hr d7⟩
 ·cases e
noncomputable def MtU (K:KX) (r:V->List V->Hp->VK->Prop) (f:Nat->List U->Sto->Res U):Prop := ∀ (μ:List Addr) (S:Sto) (H:Hp) (n:Nat) (p:Addr) (us:List U) (vs:List V) (u:U) (S':Sto) (Q:VK),HR K μ S H->μ[n]? = some p->RUs H μ us vs->f n us S=some (u,S')->Aft K μ H u S' Q->r (.ref p) vs H Q
theorem FG {r:V->List V->Hp->VK->Prop}{f:Nat->List U->Sto->Res U}{o:ME}{a:MA} (m:MtU K r f) (h:tM K (mML f o a) σ H Q):tBM K "list" r (tM K o) (tMA K a) σ H Q:=by
 obtain⟨μ,S,ρ,u,S',hr,er,e,k⟩:=h
 obtain⟨x,S1,e1,e⟩:=aZ e
 split at e
 ·rename_i n
  cases q:getL S1 n with
  | none=>rw [q] at e;cases e
  | some ws=>
    rw [q] at e
    obtain⟨xs,S2,e2,e⟩:=aZ e
    refine⟨μ,S,ρ,_,S1,hr,er,e1,fun μ1 vx H1 p1 k1 hr1 rx => ?_⟩
    obtain⟨p,rfl,hp⟩:=dW rx
    obtain⟨p',ys,hp',hs,r'⟩:=hr1.sq q
    rw [hp] at hp';cases hp'
    refine⟨.inl ⟨rfl,ys,hs⟩,μ1,S1,ρ,xs,S2,hr1,er.mono k1 p1,e2,fun μ2 vs H2 p2 k2 hr2 rs => ?_⟩
    exact m μ2 S2 H2 n p xs vs u S' Q hr2 (p2.get hp) rs e (k.mono (p1.trans p2) (k1.trans k2))
 ·cases e
theorem G6 {r:V->List V->Hp->VK->Prop}{f:Nat->List U->Sto->Res U}{o:ME} (m:MtU K r f) (h:tM K (mML f o ai) σ H Q):IQ K "list" r (tM K o) σ H Q:=by
 obtain⟨μ,S,ρ,u,S',hr,er,e,k⟩:=h
 obtain⟨x,S1,e1,e⟩:=aZ e
 split at e
 ·rename_i n
  cases q:getL S1 n with
  | none=>rw [q] at e;cases e
  | some ws=>
    rw [q] at e
    refine⟨μ,S,ρ,_,S1,hr,er,e1,fun μ1 vx H1 p1 k1 hr1 rx => ?_⟩
    obtain⟨p,rfl,hp⟩:=dW rx
    obtain⟨p',ys,hp',hs,r'⟩:=hr1.sq q
    rw [hp] at hp';cases hp'
    exact⟨.inl ⟨rfl,ys,hs⟩,m μ1 S1 H1 n p [] [] u S' Q hr1 hp .nil e (k.mono p1 k1)⟩
 ·cases e
theorem rY {μ:List Addr}{S:Sto}{n:Nat}{us ws:List U}{vs:List V}{p:Addr}{u:U}{v:V} (k:Aft K μ H u (S.set n (.lst ws)) Q) (hr:HR K μ S H) (e:S[n]? = some (.lst us)) (hp:μ[n]? = some p) (rs:RUs H μ ws vs) (ru:RU H μ u v) :
  Q v (upd H p (.lst vs)):=by
 obtain⟨vs0,e0,_⟩:=hr.cell n _ p e hp
 exact k μ _ _ (Pre.refl _) (bj.wr e0) (hr.wr e hp rs) (RU.mono (bj.wr e0) (Pre.refl _) _ _ ru)
theorem xR:MtU K xr bH:=by
 intro μ S H n p us vs u S' Q hr hp rs e a
 unfold bH at e
 split at e
 ·split at e
  ·rename_i ws q
   split at e
   ·rename_i hc
    cases e
    obtain⟨v,r,rfl,rx,rn⟩:=rs.inv
    rw [rn.nil_inv]
    obtain⟨xs,e0,r0⟩:=hr.cell n _ p q hp
    refine⟨p,xs,v,rfl,rfl,e0,?_,rY a hr q hp (r0.append (.cons rx .nil)) m9⟩
    have:=r0.len;unfold big at hc;rw [sizeLine_eq];omega
   ·cases e
  ·cases e
 ·cases e
theorem E7 {n:Nat}{i:Int}{j:Nat} (h:ixN n i=some j):j < n /\ -(n:Int)<=i/\i < n:=by
 unfold ixN at h
 split at h
 ·split at h
  ·cases h;omega
  ·cases h
 ·split at h
  ·cases h;omega
  ·cases h
theorem CG {n:Nat}{i:Int}{j:Nat} (h:ixN n i=some j):seqIndex? i n=some j:=by
 unfold ixN at h
 unfold seqIndex?
 split at h
 ·split at h
  ·cases h
   rename_i h0 h1
   simp only [show ¬ i < 0 by omega,if_false]
   first
    | (rw [if_pos (by omega)])
    | (simp;omega)
  ·cases h
 ·split at h
  ·cases h
   rename_i h0 h1
   simp only [show i < 0 by omega,if_true]
   first
    | (rw [if_pos (by omega)])
    | (simp;omega)
  ·cases h
theorem Es:MtU K JA so:=by
 intro μ S H n p us vs u S' Q hr hp rs e a
 unfold so at e
 split at e
 ·split at e
  ·rename_i ws q
   cases z:ws[ws.length - 1]? with
   | none=>rw [z] at e;cases e
   | some y=>
     rw [z] at e;cases e
     rw [rs.nil_inv]
     obtain⟨xs,e0,r0⟩:=hr.cell n _ p q hp
     obtain⟨v,hv,rv⟩:=r0.get z
     exact⟨p,xs,v,rfl,rfl,e0,by rw [<- r0.len];exact hv,rY a hr q hp r0.dropLast rv⟩
  ·cases e
 ·cases e
theorem Ax:MtU K zr jv:=by
 intro μ S H n p us vs u S' Q hr hp rs e a
 unfold jv at e
 split at e
 ·rename_i i
  split at e
  ·rename_i ws q
   split at e
   rotate_left
   ·cases e
   rename_i hR
   cases z:ixN ws.length i with
   | none=>rw [z] at e;cases e
   | some j=>
     rw [z] at e
     simp only [ah] at e
     cases z2:ws[j]? with
     | none=>rw [z2] at e;cases e
     | some y=>
       rw [z2] at e;cases e
       obtain⟨v,r,rfl,rx,rn⟩:=rs.inv
       rw [rn.nil_inv,b0 rx]
       obtain⟨xs,e0,r0⟩:=hr.cell n _ p q hp
       obtain⟨w,hw,rw'⟩:=r0.get z2
       have hl:=E7 z
       have hlen:=r0.len
       refine⟨p,xs,i,j,w,rfl,rfl,e0,?_,?_,?_,hw,rY a hr q hp (r0.eraseIdx j) rw'⟩
       ·have:=hR.1;omega
       ·have:=hR.2;omega
       ·rw [<- hlen];exact CG z
  ·cases e
 ·cases e
theorem zK {t:TE}{m:ME}{Q:Bool->Hp->Prop} (ht : ∀ Q,tM K m σ H Q->t σ H Q) (h:tMT K (cOf m) σ H Q):DM t σ H Q:=by
 obtain⟨μ,S,ρ,b,S',hr,er,e,k⟩:=h
 obtain⟨x,S1,e1,e⟩:=aZ e
 split at e
 ·cases e
  refine ht _ ⟨μ,S,ρ,_,_,hr,er,e1,fun μ1 vx H1 p1 k1 hr1 rx => ?_⟩
  exact⟨_,iD rx,k μ1 H1 p1 k1 hr1⟩
 ·cases e
theorem Ke {t:TE}{m:ME}{Q:Bool->Hp->Prop} (ht : ∀ Q,tM K m σ H Q->t σ H Q) (h:tMT K (cOf m) σ H Q):tB t σ H Q:=zK ht h
theorem HH {a b:MT}{Q:Bool->Hp->Prop} (h:tMT K (tK a b) σ H Q):L2.II (tMT K a) (tMT K b) σ H Q:=by
 obtain⟨μ,S,ρ,c,S',hr,er,e,k⟩:=h
 obtain⟨x,S1,e1,e⟩:=aZ e
 refine⟨μ,S,ρ,x,S1,hr,er,e1,fun μ1 H1 p1 k1 hr1 => ?_⟩
 cases x with
 | true=>exact mh ⟨μ1,S1,ρ,c,S',hr1,er.mono k1 p1,e,fun μ2 H2 p2 k2=>k μ2 H2 (p1.trans p2) (k1.trans k2)⟩
 | false=>
   have e':some (false,S1)=some (c,S'):=e
   cases e'
   exact mw (k μ1 H1 p1 k1 hr1)
theorem J6 {a b:MT}{Q:Bool->Hp->Prop} (h:tMT K (cOr a b) σ H Q):L2.tOr (tMT K a) (tMT K b) σ H Q:=by
 obtain⟨μ,S,ρ,c,S',hr,er,e,k⟩:=h
 obtain⟨x,S1,e1,e⟩:=aZ e
 refine⟨μ,S,ρ,x,S1,hr,er,e1,fun μ1 H1 p1 k1 hr1 => ?_⟩
 cases x with
 | true=>
   have e':some (true,S1)=some (c,S'):=e
   cases e'
   exact mh (k μ1 H1 p1 k1 hr1)
 | false=>exact mw ⟨μ1,S1,ρ,c,S',hr1,er.mono k1 p1,e,fun μ2 H2 p2 k2=>k μ2 H2 (p1.trans p2) (k1.trans k2)⟩
theorem Jm {a:MT}{Q:Bool->Hp->Prop} (h:tMT K (nL a) σ H Q):L2.JI (tMT K a) σ H Q:=by
 obtain⟨μ,S,ρ,c,S',hr,er,e,k⟩:=h
 obtain⟨x,S1,e1,e⟩:=aZ e
 cases e
 exact⟨μ,S,ρ,x,_,hr,er,e1,fun μ1 H1 p1 k1 hr1=>k μ1 H1 p1 k1 hr1⟩
theorem JN {c:MT}{a b:ME} (h:tM K (uR c a b) σ H Q):tIf (tMT K c) (tM K a) (tM K b) σ H Q:=by
 obtain⟨μ,S,ρ,u,S',hr,er,e,k⟩:=h
 obtain⟨x,S1,e1,e⟩:=aZ e
 refine⟨μ,S,ρ,x,S1,hr,er,e1,fun μ1 H1 p1 k1 hr1 => ?_⟩
 cases x with
 | true=>exact mh ⟨μ1,S1,ρ,u,S',hr1,er.mono k1 p1,e,k.mono p1 k1⟩
 | false=>exact mw ⟨μ1,S1,ρ,u,S',hr1,er.mono k1 p1,e,k.mono p1 k1⟩
section
variable {D:Ends}
theorem Bf (h:tMS K cJ D σ H):zF D σ H:=by
 obtain⟨μ,S,ρ,r,hr,er,e,k⟩:=h
 cases e
 exact k μ σ H (Pre.refl _) (bj.refl _) hr er
theorem Hf {a b:MS} (h:tMS K (ba a b) D σ H):HQ (tMS K a) (tMS K b) D σ H:=by
 obtain⟨μ,S,ρ,r,hr,er,e,k⟩:=h
 unfold ba at e
 split at e
 ·rename_i ρ1 S1 q
  refine⟨μ,S,ρ,_,hr,er,q,fun μ1 σ1 H1 p1 k1 hr1 er1 => ?_⟩
  exact⟨μ1,S1,ρ1,r,hr1,er1,e,k.mono p1 k1⟩
 ·rename_i q
  refine⟨μ,S,ρ,r,hr,er,e,?_⟩
  obtain⟨f,ρ',S'⟩:=r
  cases f with
  | nx=>exact absurd e (q ρ' S')
  | bk=>exact k
  | ct=>exact k
  | rt u=>exact k
theorem DI {i:Nat}{m:ME} (h:tMS K (bC i m) D σ H):yz (tM K m) (ix i) D σ H:=by
 obtain⟨μ,S,ρ,r,hr,er,e,k⟩:=h
 obtain⟨x,S1,e1,e⟩:=aZ e
 cases e
 exact⟨μ,S,ρ,x,S1,hr,er,e1,fun μ1 vx H1 p1 k1 hr1 rx=>k μ1 _ H1 p1 k1 hr1 ((er.mono k1 p1).set rx i)⟩
noncomputable def JL:A4:=fun o i v H Q => ∃ a H',o = .ref a/\yA H a i v H'/\Q H'
noncomputable def Ae:A4:=fun o i v H Q=>DK o i v H Q\/JL o i v H Q
theorem xg {X:Cx} (hu:X.A.units+1 < cLine):FT X Ae:=by
 intro pins s σ H o i v ov iv u Q I ro ri rv h
 rcases h with h | ⟨a,H',rfl,g,q⟩
 ·exact set_list pins s σ H o i v ov iv u Q I ro ri rv h
 ·obtain rfl:ov=be a:=ro
  exact yn hu I g ri rv fun s4 I4=>⟨H',I4,q⟩
theorem CO {o i m:ME} (h:tMS K (dy o i m) D σ H):yz (tM K m) (GA (tM K o) (tM K i) Ae) D σ H:=by
 obtain⟨μ,S,ρ,r,hr,er,e,k⟩:=h
 obtain⟨x,S1,e1,e⟩:=aZ e
 obtain⟨p,S2,e2,e⟩:=aZ e
 obtain⟨j,S3,e3,e⟩:=aZ e
 cases p with
 | ref n=>
   simp only at e
   split at e
   ·rename_i us q
    split at e
    rotate_left
    ·cases e
    rename_i kk
    cases z:ixN us.length kk with
    | none=>rw [z] at e;cases e
    | some m'=>
      rw [z] at e;cases e
      refine⟨μ,S,ρ,x,S1,hr,er,e1,fun μ1 vx H1 p1 k1 hr1 rx => ?_⟩
      refine⟨μ1,S1,ρ,_,S2,hr1,er.mono k1 p1,e2,fun μ2 vo H2 p2 k2 hr2 ro => ?_⟩
      refine⟨μ2,S2,ρ,_,S3,hr2,er.mono (k1.trans k2) (p1.trans p2),e3,fun μ3 vi H3 p3 k3 hr3 ri => ?_⟩
      obtain⟨a,rfl,ha⟩:=dW ro
      have ha3:=p3.get ha
      obtain⟨vs,e0,r0⟩:=hr3.cell n _ a q ha3
      have rx3:RU H3 μ3 x vx:=RU.mono (k2.trans k3) (p2.trans p3) _ _ rx
      refine .inl ⟨a,vs,kk,m',rfl,b0 ri,e0,by rw [<- r0.len];exact z,?_⟩
      have kw:bj H3 (upd H3 a (.lst (vs.set m' vx))):=bj.wr e0
      exact k μ3 _ _ (p1.trans (p2.trans p3)) (k1.trans (k2.trans (k3.trans kw))) (hr3.wr q ha3 (r0.set rx3 m')) (er.mono (k1.trans (k2.trans (k3.trans kw))) (p1.trans (p2.trans p3)))
   ·rename_i kvs q
    cases qk:keyOf j with
    | none=>rw [qk] at e;cases e
    | some kk=>
      rw [qk] at e
      simp only [ah] at e
      split at e
      ·rename_i hz
       cases e
       refine⟨μ,S,ρ,x,S1,hr,er,e1,fun μ1 vx H1 p1 k1 hr1 rx => ?_⟩
       refine⟨μ1,S1,ρ,_,S2,hr1,er.mono k1 p1,e2,fun μ2 vo H2 p2 k2 hr2 ro => ?_⟩
       refine⟨μ2,S2,ρ,_,S3,hr2,er.mono (k1.trans k2) (p1.trans p2),e3,fun μ3 vi H3 p3 k3 hr3 ri => ?_⟩
       obtain⟨a,rfl,ha⟩:=dW ro
       have ha3:=p3.get ha
       obtain⟨vs,e0,r0⟩:=hr3.cell n _ a q ha3
       have rx3:RU H3 μ3 x vx:=RU.mono (k2.trans k3) (p2.trans p3) _ _ rx
       have hl:kvs.length=vs.length:=by have:=r0.len;rwa [aq] at this
       obtain⟨ws,ew,rw'⟩:=wM (k:=kk) rx3 r0
       have kw:bj H3 (upd H3 a (.dK (putK (dV kvs vs) kk vx))):=bj.wrG e0 fun _ z=>by cases z
       refine .inr ⟨a,_,rfl,.inl ⟨_,kk,e0,lW ri qk,by rw [vR hl,sizeLine_eq];exact hz,rfl⟩,?_⟩
       exact k μ3 _ _ (p1.trans (p2.trans p3)) (k1.trans (k2.trans (k3.trans kw))) (hr3.wrC q ha3 rfl rfl ⟨ws,by rw [ew];exact bS,RUs.mono kw (Pre.refl _) _ _ rw'⟩) (er.mono (k1.trans (k2.trans (k3.trans kw))) (p1.trans (p2.trans p3)))
      ·cases e
   ·cases e
 | _=>cases e
theorem EA {m:ME} (h:tMS K (cy m) D σ H):DR (tM K m) D σ H:=by
 obtain⟨μ,S,ρ,r,hr,er,e,k⟩:=h
 obtain⟨x,S1,e1,e⟩:=aZ e
 cases e
 exact⟨μ,S,ρ,x,S1,hr,er,e1,fun μ1 vx H1 p1 k1 hr1 rx=>k μ1 σ H1 p1 k1 hr1 (er.mono k1 p1)⟩
theorem HG {m:ME} (h:tMS K (cK m) D σ H):IY (tM K m) D σ H:=by
 obtain⟨μ,S,ρ,r,hr,er,e,k⟩:=h
 obtain⟨x,S1,e1,e⟩:=aZ e
 cases e
 exact⟨μ,S,ρ,x,S1,hr,er,e1,k⟩
theorem J3 {c:MT}{a b:MS} (h:tMS K (sIf c a b) D σ H):Jb (tMT K c) (tMS K a) (tMS K b) D σ H:=by
 obtain⟨μ,S,ρ,r,hr,er,e,k⟩:=h
 obtain⟨x,S1,e1,e⟩:=aZ e
 refine⟨μ,S,ρ,x,S1,hr,er,e1,fun μ1 H1 p1 k1 hr1 => ?_⟩
 cases x with
 | true=>exact mh ⟨μ1,S1,ρ,r,hr1,er.mono k1 p1,e,k.mono p1 k1⟩
 | false=>exact mw ⟨μ1,S1,ρ,r,hr1,er.mono k1 p1,e,k.mono p1 k1⟩
theorem lS {b:MS}{ρ:Rho}{S:Sto}{μ μ0:List Addr}{H0:Hp}{k:MS}{r:Fl×Rho×Sto}{N:St->Hp->Prop} (hr:HR K μ S H) (er:ER H μ ρ σ) (e:aft (b ρ S) k=some r) (p:Pre μ0 μ) (kp:bj H0 H) (fl:FlP K μ0 H0 D r)
  (hN : ∀ μ1 σ1 H1 ρ1 S1,Pre μ0 μ1->bj H0 H1->HR K μ1 S1 H1->ER H1 μ1 ρ1 σ1->k ρ1 S1=some r->N σ1 H1):tMS K b { D with nx:=N,ct:=N,bk:=D.nx } σ H:=by
 unfold aft at e
 split at e
 ·rename_i ρ1 S1 q
  exact⟨μ,S,ρ,_,hr,er,q,fun μ1 σ1 H1 p1 k1 hr1 er1=>hN μ1 σ1 H1 ρ1 S1 (p.trans p1) (kp.trans k1) hr1 er1 e⟩
 ·rename_i ρ1 S1 q
  exact⟨μ,S,ρ,_,hr,er,q,fun μ1 σ1 H1 p1 k1 hr1 er1=>hN μ1 σ1 H1 ρ1 S1 (p.trans p1) (kp.trans k1) hr1 er1 e⟩
 ·rename_i ρ1 S1 q
  cases e
  exact⟨μ,S,ρ,_,hr,er,q,fun μ1 σ1 H1 p1 k1 hr1 er1=>fl μ1 σ1 H1 (p.trans p1) (kp.trans k1) hr1 er1⟩
 ·rename_i q1 q2 q3
  refine⟨μ,S,ρ,r,hr,er,e,?_⟩
  obtain⟨f,ρ',S'⟩:=r
  cases f with
  | nx=>exact absurd e (q1 ρ' S')
  | ct=>exact absurd e (q2 ρ' S')
  | bk=>exact absurd e (q3 ρ' S')
  | rt u=>exact Aft.mono fl p kp
theorem drop_cons {α:Type}{l:List α}{i:Nat}{x:α} (h:l[i]? = some x):l.drop i=x::l.drop (i+1):=by
 obtain⟨hi,e⟩:=ae.mp h
 rw [wq hi,e]
theorem EY {i:Nat}{b:MS}{us:List U}{vs:List V}{ρ:Rho}{S:Sto}{μ:List Addr}{a:Addr}{r:Fl×Rho×Sto} (hr:HR K μ S H) (er:ER H μ ρ σ) (e:sN i b us ρ S=some r) (fl:FlP K μ H D r) (ha:H a=some (.tup vs)) (ru:RUs H μ us vs) :
  ∃ W:Nat->Nat->St->Hp->Prop,(∃ m,W 0 m σ H) /\ ∀ k m σ H,W k m σ H ->
   ((Itt K a).stop k H/\D.nx σ H)\/((Itt K a).go k H /\ ∃ N:St->Hp->Prop,(∀ σ' H',N σ' H' -> ∃ m',m' < m/\W (k+1) m' σ' H') /\ ∀ x H',(Itt K a).yld k H x H'->ix i x σ H' fun σ2 H2=>tMS K b { D with nx:=N,ct:=N,bk:=D.nx } σ2 H2):=by
 refine Cm (xs:=vs) (fun k σ1 H1 => ∃ μ1 S1 ρ1,Pre μ μ1/\bj H H1/\HR K μ1 S1 H1/\ER H1 μ1 ρ1 σ1/\sN i b (us.drop k) ρ1 S1=some r) ⟨μ,S,ρ,Pre.refl _,bj.refl _,hr,er,e⟩ ?_ ?_ ?_
 ·rintro k σ1 H1 _ ⟨μ1,S1,ρ1,p1,k1,_⟩
  exact .inl (.inl (k1 a vs ha))
 ·rintro k x σ1 H1 hx ⟨μ1,S1,ρ1,p1,k1,hr1,er1,e1⟩
  have hk:k < us.length:=by rw [ru.len];exact (ae.mp hx).1
  have hu:us[k]? = some us[k]:=by simp [hk]
  obtain⟨v,hv,rv⟩:=ru.get hu
  rw [hx] at hv;cases hv
  rw [drop_cons hu] at e1
  have rv1:RU H1 μ1 us[k] x:=RU.mono k1 p1 _ _ rv
  exact lS hr1 (er1.set rv1 i) e1 p1 k1 fl fun μ2 σ2 H2 ρ2 S2 p2 k2 hr2 er2 e2=>⟨μ2,S2,ρ2,p2,k2,hr2,er2,e2⟩
 ·rintro σ1 H1 ⟨μ1,S1,ρ1,p1,k1,hr1,er1,e1⟩
  rw [<- ru.len,rq] at e1
  cases e1
  exact fl μ1 σ1 H1 p1 k1 hr1 er1
theorem zL {i:Nat}{b:MS}{lo:Int}{n:Nat}{ρ:Rho}{S:Sto}{μ:List Addr}{r:Fl×Rho×Sto} (hr:HR K μ S H) (er:ER H μ ρ σ) (e:sN i b (bh lo n) ρ S=some r) (fl:FlP K μ H D r) :
  ∃ W:Nat->Nat->St->Hp->Prop,(∃ m,W 0 m σ H) /\ ∀ k m σ H,W k m σ H ->
   ((Itr lo n).stop k H/\D.nx σ H)\/((Itr lo n).go k H /\ ∃ N:St->Hp->Prop,(∀ σ' H',N σ' H' -> ∃ m',m' < m/\W (k+1) m' σ' H') /\ ∀ x H',(Itr lo n).yld k H x H'->ix i x σ H' fun σ2 H2=>tMS K b { D with nx:=N,ct:=N,bk:=D.nx } σ2 H2):=by
 refine yG (fun k σ1 H1 => ∃ μ1 S1 ρ1,Pre μ μ1/\bj H H1/\HR K μ1 S1 H1/\ER H1 μ1 ρ1 σ1/\sN i b ((bh lo n).drop k) ρ1 S1=some r) ⟨μ,S,ρ,Pre.refl _,bj.refl _,hr,er,e⟩ ?_ ?_
 ·rintro k σ1 H1 hk ⟨μ1,S1,ρ1,p1,k1,hr1,er1,e1⟩
  have hu:(bh lo n)[k]? = some (.int (lo+k)):=by simp [bh,hk]
  rw [drop_cons hu] at e1
  exact lS hr1 (er1.set d7 i) e1 p1 k1 fl fun μ2 σ2 H2 ρ2 S2 p2 k2 hr2 er2 e2=>⟨μ2,S2,ρ2,p2,k2,hr2,er2,e2⟩
 ·rintro σ1 H1 ⟨μ1,S1,ρ1,p1,k1,hr1,er1,e1⟩
  have hl:(bh lo n).length=n:=by simp [bh]
  rw [List.drop_eq_nil_of_le (by omega)] at e1
  cases e1
  exact fl μ1 σ1 H1 p1 k1 hr1 er1
theorem EG {i:Nat}{b:MS}{n f:Nat}{ρ:Rho}{S:Sto}{μ:List Addr}{a:Addr}{r:Fl×Rho×Sto} (hr:HR K μ S H) (er:ER H μ ρ σ) (e:forL i b n f 0 ρ S=some r) (fl:FlP K μ H D r) (ha:μ[n]? = some a) :
  ∃ W:Nat->Nat->St->Hp->Prop,(∃ m,W 0 m σ H) /\ ∀ k m σ H,W k m σ H ->
   ((Itl K a).stop k H/\D.nx σ H)\/((Itl K a).go k H /\ ∃ N:St->Hp->Prop,(∀ σ' H',N σ' H' -> ∃ m',m' < m/\W (k+1) m' σ' H') /\ ∀ x H',(Itl K a).yld k H x H'->ix i x σ H' fun σ2 H2=>tMS K b { D with nx:=N,ct:=N,bk:=D.nx } σ2 H2):=by
 refine⟨fun k m σ1 H1 => ∃ μ1 S1 ρ1,Pre μ μ1/\bj H H1/\HR K μ1 S1 H1/\ER H1 μ1 ρ1 σ1/\forL i b n m k ρ1 S1=some r,⟨f,μ,S,ρ,Pre.refl _,bj.refl _,hr,er,e⟩,?_⟩
 rintro k m σ1 H1 ⟨μ1,S1,ρ1,p1,k1,hr1,er1,e1⟩
 cases m with
 | zero=>cases e1
 | succ m=>
   unfold forL at e1
   cases q:getL S1 n with
   | none=>rw [q] at e1;cases e1
   | some us=>
     rw [q] at e1
     simp only [ah] at e1
     obtain⟨a',vs,ha',hs,rs⟩:=hr1.sq q
     rw [p1.get ha] at ha';cases ha'
     cases z:us[k]? with
     | none=>
       rw [z] at e1
       cases e1
       refine .inl ⟨⟨vs,hs,?_⟩,fl μ1 σ1 H1 p1 k1 hr1 er1⟩
       rw [<- rs.len];exact cX.mp z
     | some u=>
       rw [z] at e1
       obtain⟨v,hv,rv⟩:=rs.get z
       refine .inr ⟨⟨vs,v,hs,hv⟩,fun σ2 H2 => ∃ μ2 S2 ρ2,Pre μ μ2/\bj H H2/\HR K μ2 S2 H2/\ER H2 μ2 ρ2 σ2/\forL i b n m (k+1) ρ2 S2=some r,fun σ' H' w=>⟨m,cg _,w⟩,fun x H' y => ?_⟩
       obtain⟨e',y⟩:=y
       subst e'
       have hx:=y vs hs
       rw [hv] at hx;cases hx
       exact lS hr1 (er1.set rv i) e1 p1 k1 fl fun μ2 σ2 H2 ρ2 S2 p2 k2 hr2 er2 e2=>⟨μ2,S2,ρ2,p2,k2,hr2,er2,e2⟩
theorem BW {c:MT}{b:MS} (h:tMS K (gU c b) D σ H):zP (tMT K c) (tMS K b) D σ H:=by
 obtain⟨μ,S,ρ,r,hr,er,e,fl⟩:=h
 refine⟨fun m σ1 H1 => ∃ μ1 S1 ρ1,Pre μ μ1/\bj H H1/\HR K μ1 S1 H1/\ER H1 μ1 ρ1 σ1/\whl c b m ρ1 S1=some r,⟨fuel,μ,S,ρ,Pre.refl _,bj.refl _,hr,er,e⟩,?_⟩
 rintro m σ1 H1 ⟨μ1,S1,ρ1,p1,k1,hr1,er1,e1⟩
 cases m with
 | zero=>cases e1
 | succ m=>
   unfold whl at e1
   obtain⟨x,S2,e2,e1⟩:=aZ e1
   refine⟨μ1,S1,ρ1,x,S2,hr1,er1,e2,fun μ2 H2 p2 k2 hr2 => ?_⟩
   cases x with
   | true=>
     refine mh ⟨fun σ3 H3 => ∃ μ3 S3 ρ3,Pre μ μ3/\bj H H3/\HR K μ3 S3 H3/\ER H3 μ3 ρ3 σ3/\whl c b m ρ3 S3=some r,fun σ' H' w=>⟨m,cg _,w⟩,?_⟩
     exact lS hr2 (er1.mono k2 p2) e1 (p1.trans p2) (k1.trans k2) fl fun μ3 σ3 H3 ρ3 S3 p3 k3 hr3 er3 e3=>⟨μ3,S3,ρ3,p3,k3,hr3,er3,e3⟩
   | false=>
     have e':some (Fl.nx,ρ1,S2)=some r:=e1
     cases e'
     exact mw (fl μ2 σ1 H2 (p1.trans p2) (k1.trans k2) hr2 (er1.mono k2 p2))
end
end
end G
end
section
namespace G
open PySem PySem.Spec L2
open PyProof.Rows hiding St
section
variable {K:KX}{σ:St}{H:Hp}{Q:VK}{D:Ends}
theorem DD {a:MA}{R:It->Hp->Prop}{μ:List Addr}{S S1:Sto}{ρ:Rho}{src:Src} (hr:HR K μ S H) (er:ER H μ ρ σ) (e:iR1 a ρ S=some (src,S1))
  (hR : ∀ μ1 H1 n,Pre μ μ1->bj H H1->HR K μ1 S1 H1->src = .imm (bh 0 n)->R (Itr 0 n) H1):ua (tMA K a) σ H R:=by
 obtain⟨xs,S2,e1,e⟩:=aZ e
 split at e
 ·rename_i j
  split at e
  ·rename_i hj
   cases e
   refine⟨μ,S,ρ,_,_,hr,er,e1,fun μ1 vs H1 p1 k1 hr1 rs => ?_⟩
   obtain⟨v,r,rfl,rx,rn⟩:=rs.inv
   rw [rn.nil_inv,b0 rx]
   exact⟨j,rfl,hj.1,hj.2,hR μ1 H1 _ p1 k1 hr1 rfl⟩
  ·cases e
 ·cases e
theorem Ea {a:MA}{R:It->Hp->Prop}{μ:List Addr}{S S1:Sto}{ρ:Rho}{src:Src} (hr:HR K μ S H) (er:ER H μ ρ σ) (e:iR2 a ρ S=some (src,S1))
  (hR : ∀ μ1 H1 lo n,Pre μ μ1->bj H H1->HR K μ1 S1 H1->src = .imm (bh lo n)->R (Itr lo n) H1):t8 (tMA K a) σ H R:=by
 obtain⟨xs,S2,e1,e⟩:=aZ e
 split at e
 ·rename_i i j
  split at e
  ·rename_i hj
   cases e
   refine⟨μ,S,ρ,_,_,hr,er,e1,fun μ1 vs H1 p1 k1 hr1 rs => ?_⟩
   obtain⟨v,r,rfl,rx,rs⟩:=rs.inv
   obtain⟨w,r,rfl,ry,rn⟩:=rs.inv
   rw [rn.nil_inv,b0 rx,b0 ry]
   exact⟨i,j,rfl,⟨hj.1.1,hj.1.2,hj.2.1,hj.2.2⟩,hR μ1 H1 _ _ p1 k1 hr1 rfl⟩
  ·cases e
 ·cases e
theorem vG {a:ME}{R:It->Hp->Prop}{μ:List Addr}{S S1:Sto}{ρ:Rho}{src:Src} (hr:HR K μ S H) (er:ER H μ ρ σ) (e:cM a ρ S=some (src,S1))
  (hT : ∀ μ1 H1 us p vs,Pre μ μ1->bj H H1->HR K μ1 S1 H1->src = .imm us->H1 p=some (.tup vs)->RUs H1 μ1 us vs->R (Itt K p) H1)
  (hL : ∀ μ1 H1 n p,Pre μ μ1->bj H H1->HR K μ1 S1 H1->src = .mut n->μ1[n]? = some p->R (Itl K p) H1):q9 K (tM K a) σ H R\/yu K (tM K a) σ H R:=by
 obtain⟨x,S2,e1,e⟩:=aZ e
 split at e
 ·cases e
  refine .inr ⟨μ,S,ρ,_,_,hr,er,e1,fun μ1 vx H1 p1 k1 hr1 rx => ?_⟩
  obtain⟨p,vs,rfl,hp,r⟩:=gS rx
  exact⟨p,rfl,⟨vs,.inl (.inl hp)⟩,hT μ1 H1 _ p vs p1 k1 hr1 rfl hp r⟩
 ·rename_i n
  cases q:getL S2 n with
  | none=>rw [q] at e;cases e
  | some ws=>
    rw [q] at e;cases e
    refine .inl ⟨μ,S,ρ,_,_,hr,er,e1,fun μ1 vx H1 p1 k1 hr1 rx => ?_⟩
    obtain⟨p,rfl,hp⟩:=dW rx
    obtain⟨p',ys,hp',hs,r'⟩:=hr1.sq q
    rw [hp] at hp';cases hp'
    exact⟨p,rfl,⟨ys,hs⟩,hL μ1 H1 n p p1 k1 hr1 rfl hp⟩
 ·cases e
theorem IA {i:Nat}{a:MA}{b:MS} (h:tMS K (dD i (iR1 a) b) D σ H):qc (ua (tMA K a)) (ix i) (tMS K b) D σ H:=by
 obtain⟨μ,S,ρ,r,hr,er,e,fl⟩:=h
 obtain⟨src,S1,e1,e⟩:=aZ e
 refine DD hr er e1 fun μ1 H1 n p1 k1 hr1 hs => ?_
 subst hs
 exact zL hr1 (er.mono k1 p1) e (fl.mono p1 k1)
theorem Jv {i:Nat}{a:MA}{b:MS} (h:tMS K (dD i (iR2 a) b) D σ H):qc (t8 (tMA K a)) (ix i) (tMS K b) D σ H:=by
 obtain⟨μ,S,ρ,r,hr,er,e,fl⟩:=h
 obtain⟨src,S1,e1,e⟩:=aZ e
 refine Ea hr er e1 fun μ1 H1 lo n p1 k1 hr1 hs => ?_
 subst hs
 exact zL hr1 (er.mono k1 p1) e (fl.mono p1 k1)
theorem Kk {i:Nat}{a:ME}{b:MS} (h:tMS K (dD i (cM a) b) D σ H):qc (fun σ H R=>q9 K (tM K a) σ H R\/yu K (tM K a) σ H R) (ix i) (tMS K b) D σ H:=by
 obtain⟨μ,S,ρ,r,hr,er,e,fl⟩:=h
 obtain⟨src,S1,e1,e⟩:=aZ e
 refine vG hr er e1 (fun μ1 H1 us p vs p1 k1 hr1 hs hp rs => ?_) fun μ1 H1 n p p1 k1 hr1 hs hp => ?_
 ·subst hs
  exact EY hr1 (er.mono k1 p1) e (fl.mono p1 k1) hp rs
 ·subst hs
  exact EG hr1 (er.mono k1 p1) e (fl.mono p1 k1) hp
theorem mU {t:MT}{e:ME}{ρ:Rho} : ∀ {us acc ys:List U}{S S':Sto},eU t e ρ us acc S=some (ys,S')->acc.length<=ys.length
 | [],acc,ys,S,S',h=>by cases h;exact aj _
 | x::us,acc,ys,S,S',h=>by
   obtain⟨k,S1,e1,h⟩:=aZ h
   cases k with
   | true=>
     obtain⟨y,S2,e2,h⟩:=aZ (show bnd (e (ρ ++ [some x]) S1) (fun y S2=>eU t e ρ us (acc ++ [y]) S2)=some (ys,S') from h)
     have:=mU h
     simp at this;omega
   | false=>exact mU (show eU t e ρ us acc S1=some (ys,S') from h)
theorem ng {t:MT}{e:ME}{ρ:Rho}{n:Nat} : ∀ {f i:Nat}{acc ys:List U}{S S':Sto},jd t e ρ n f i acc S=some (ys,S')->acc.length<=ys.length
 | 0,i,acc,ys,S,S',h=>by cases h
 | f+1,i,acc,ys,S,S',h=>by
   unfold jd at h
   cases q:getL S n with
   | none=>rw [q] at h;cases h
   | some us=>
     rw [q] at h
     simp only [ah] at h
     cases z:us[i]? with
     | none=>rw [z] at h;cases h;exact aj _
     | some x=>
       rw [z] at h
       obtain⟨k,S1,e1,h⟩:=aZ h
       cases k with
       | true=>
         obtain⟨y,S2,e2,h⟩:=aZ (show bnd (e (ρ ++ [some x]) S1) (fun y S2=>jd t e ρ n f (i+1) (acc ++ [y]) S2)=some (ys,S') from h)
         have:=ng h
         simp at this;omega
       | false=>exact ng (show jd t e ρ n f (i+1) acc S1=some (ys,S') from h)
noncomputable def wy (J:It) (σ:St) (tt:TT) (te:TE) (H1:Hp) (Q:VK):Prop := ∃ W:Nat->Nat->List V->Hp->Prop,(∃ m,W 0 m [] H1) /\ ∀ i m ys H,W i m ys H->ys.length < sizeLine /\
 ((J.stop i H /\ ∀ D,H D=none->Q (.ref D) (upd H D (.lst ys))) \/
  (J.go i H /\ ∀ x H',J.yld i H x H'->tt (σ ++ [some x]) H' fun b H3=>if b=true then te (σ ++ [some x]) H3 fun y H4 => ∃ m',m' < m/\W (i+1) m' (ys ++ [y]) H4 else ∃ m',m' < m/\W (i+1) m' ys H3))
theorem uo {J:It}{t:MT}{e:ME}{ρ:Rho}{us ys:List U}{μ:List Addr}{S S':Sto} (hr:HR K μ S H) (er:ER H μ ρ σ) (h:eU t e ρ us [] S=some (ys,S')) (hz:ys.length < big) (k:Aft K μ H (.ref S'.length) (S' ++ [.lst ys]) Q)
  (hstop : ∀ H',bj H H'->J.stop us.length H') (hgo : ∀ (i:Nat) H',i < us.length->bj H H'->J.go i H')
  (hy : ∀ (i:Nat) H' x H'' (u:U),us[i]? = some u->bj H H'->J.yld i H' x H''->H''=H'/\RU H μ u x):wy J σ (tMT K t) (tM K e) H Q:=by
 have hz':ys.length < sizeLine:=by unfold big at hz;rw [sizeLine_eq];exact hz
 refine⟨fun i m acc H1=>m=us.length - i/\i<=us.length /\ ∃ μ1 S1 au,Pre μ μ1/\bj H H1/\HR K μ1 S1 H1/\RUs H1 μ1 au acc/\eU t e ρ (us.drop i) au S1=some (ys,S'),⟨_,rfl,b9 _,μ,S,[],Pre.refl _,bj.refl _,hr,.nil,h⟩,?_⟩
 rintro i m acc H1 ⟨rfl,hi,μ1,S1,au,p1,k1,hr1,ra,e1⟩
 have hl:=mU e1
 have hl2:=ra.len
 refine⟨by omega,?_⟩
 by_cases hlt:i < us.length
 ·have hu:us[i]? = some us[i]:=by simp [hlt]
  rw [drop_cons hu] at e1
  obtain⟨b,S2,e2,e1⟩:=aZ e1
  refine .inr ⟨hgo i H1 hlt k1,fun x H' y => ?_⟩
  obtain⟨rfl,rx⟩:=hy i H1 x H' us[i] hu k1 y
  have er1:ER H' μ1 (ρ ++ [some us[i]]) (σ ++ [some x]):=(er.mono k1 p1).push (RU.mono k1 p1 _ _ rx)
  refine⟨μ1,S1,_,b,S2,hr1,er1,e2,fun μ2 H2 p2 k2 hr2 => ?_⟩
  have ra2:=RUs.mono k2 p2 _ _ ra
  cases b with
  | true=>
    obtain⟨y',S3,e3,e1⟩:=aZ (show bnd (e (ρ ++ [some us[i]]) S2) (fun y S2=>eU t e ρ (us.drop (i+1)) (au ++ [y]) S2)=some (ys,S') from e1)
    refine mh ⟨μ2,S2,_,y',S3,hr2,er1.mono k2 p2,e3,fun μ3 v3 H3 p3 k3 hr3 rv3 => ?_⟩
    exact⟨us.length - (i+1),by omega,rfl,hlt,μ3,S3,au ++ [y'],p1.trans (p2.trans p3),k1.trans (k2.trans k3),hr3,(RUs.mono k3 p3 _ _ ra2).append (.cons rv3 .nil),e1⟩
  | false=>
    exact mw ⟨us.length - (i+1),by omega,rfl,hlt,μ2,S2,au,p1.trans p2,k1.trans k2,hr2,ra2,e1⟩
 ·have e:i=us.length:=by omega
  subst e
  rw [rq] at e1
  cases e1
  exact .inl ⟨hstop H1 k1,fun D hD=>ky (k.mono p1 k1) hr1 ra hD⟩
theorem AM {t:MT}{e:ME}{ρ:Rho}{n f:Nat}{ys:List U}{μ:List Addr}{S S':Sto}{p:Addr} (hr:HR K μ S H) (er:ER H μ ρ σ) (h:jd t e ρ n f 0 [] S=some (ys,S')) (hz:ys.length < big) (k:Aft K μ H (.ref S'.length) (S' ++ [.lst ys]) Q)
  (hp:μ[n]? = some p):wy (Itl K p) σ (tMT K t) (tM K e) H Q:=by
 have hz':ys.length < sizeLine:=by unfold big at hz;rw [sizeLine_eq];exact hz
 refine⟨fun i m acc H1 => ∃ μ1 S1 au,Pre μ μ1/\bj H H1/\HR K μ1 S1 H1/\RUs H1 μ1 au acc/\jd t e ρ n m i au S1=some (ys,S'),⟨f,μ,S,[],Pre.refl _,bj.refl _,hr,.nil,h⟩,?_⟩
 rintro i m acc H1 ⟨μ1,S1,au,p1,k1,hr1,ra,e1⟩
 have hl:=ng e1
 have hl2:=ra.len
 refine⟨by omega,?_⟩
 cases m with
 | zero=>cases e1
 | succ m=>
   unfold jd at e1
   cases q:getL S1 n with
   | none=>rw [q] at e1;cases e1
   | some us=>
     rw [q] at e1
     simp only [ah] at e1
     obtain⟨a',vs,ha',hs,rs⟩:=hr1.sq q
     rw [p1.get hp] at ha';cases ha'
     cases z:us[i]? with
     | none=>
       rw [z] at e1
       cases e1
       exact .inl ⟨⟨vs,hs,by rw [<- rs.len];exact cX.mp z⟩,fun D hD=>ky (k.mono p1 k1) hr1 ra hD⟩
     | some u=>
       rw [z] at e1
       obtain⟨v,hv,rv⟩:=rs.get z
       obtain⟨b,S2,e2,e1⟩:=aZ e1
       refine .inr ⟨⟨vs,v,hs,hv⟩,fun x H' y => ?_⟩
       obtain⟨e',y⟩:=y
       subst e'
       have hx:=y vs hs
       rw [hv] at hx;cases hx
       have er1:ER _ μ1 (ρ ++ [some u]) (σ ++ [some v]):=(er.mono k1 p1).push rv
       refine⟨μ1,S1,_,b,S2,hr1,er1,e2,fun μ2 H2 p2 k2 hr2 => ?_⟩
       have ra2:=RUs.mono k2 p2 _ _ ra
       cases b with
       | true=>
         obtain⟨y',S3,e3,e1⟩:=aZ (show bnd (e (ρ ++ [some u]) S2) (fun y S2=>jd t e ρ n m (i+1) (au ++ [y]) S2)=some (ys,S') from e1)
         refine mh ⟨μ2,S2,_,y',S3,hr2,er1.mono k2 p2,e3,fun μ3 v3 H3 p3 k3 hr3 rv3 => ?_⟩
         exact⟨m,cg _,μ3,S3,au ++ [y'],p1.trans (p2.trans p3),k1.trans (k2.trans k3),hr3,(RUs.mono k3 p3 _ _ ra2).append (.cons rv3 .nil),e1⟩
       | false=>
         exact mw ⟨m,cg _,μ2,S2,au,p1.trans p2,k1.trans k2,hr2,ra2,e1⟩
theorem uJ {lo:Int}{n:Nat}{t:MT}{e:ME}{ρ:Rho}{ys:List U}{μ:List Addr}{S S':Sto} (hr:HR K μ S H) (er:ER H μ ρ σ) (h:eU t e ρ (bh lo n) [] S=some (ys,S')) (hz:ys.length < big) (k:Aft K μ H (.ref S'.length) (S' ++ [.lst ys]) Q) :
  wy (Itr lo n) σ (tMT K t) (tM K e) H Q:=by
 have hl:(bh lo n).length=n:=by simp [bh]
 refine uo hr er h hz k (fun H' _=>by rw [hl];exact aj _) (fun i H' hi _=>by rw [hl] at hi;exact hi) fun i H' x H'' u hu _ y => ?_
 obtain⟨rfl,rfl⟩:=y
 have hi:i < n:=by rw [<- hl];exact (ae.mp hu).1
 have e2:(bh lo n)[i]? = some (.int (lo+i)):=by simp [bh,hi]
 rw [e2] at hu;cases hu
 exact⟨rfl,d7⟩
theorem z0 {us:List U}{vs:List V}{p:Addr}{t:MT}{e:ME}{ρ:Rho}{ys:List U}{μ:List Addr}{S S':Sto} (hr:HR K μ S H) (er:ER H μ ρ σ) (h:eU t e ρ us [] S=some (ys,S')) (hz:ys.length < big) (k:Aft K μ H (.ref S'.length) (S' ++ [.lst ys]) Q)
  (hp:H p=some (.tup vs)) (rs:RUs H μ us vs):wy (Itt K p) σ (tMT K t) (tM K e) H Q:=by
 refine uo hr er h hz k (fun H' kp=>⟨vs,.inl (.inl (kp p vs hp)),by rw [rs.len];exact aj _⟩) (fun i H' hi kp => ?_) fun i H' x H'' u hu kp y => ?_
 ·have hi':i < vs.length:=by rw [<- rs.len];exact hi
  exact⟨vs,vs[i],.inl (.inl (kp p vs hp)),by simp [hi']⟩
 ·obtain⟨rfl,y⟩:=y
  obtain⟨v,hv,rv⟩:=rs.get hu
  have:=y vs (.inl (.inl (kp p vs hp)))
  rw [hv] at this;cases this
  exact⟨rfl,rv⟩
theorem Hi {a:MA}{t:MT}{e:ME} (h:tM K (bX (iR1 a) t e) σ H Q):ny (ua (tMA K a)) (tMT K t) (tM K e) σ H Q:=by
 obtain⟨μ,S,ρ,u,S',hr,er,e0,k⟩:=h
 obtain⟨src,S1,e1,e0⟩:=aZ e0
 obtain⟨ys,S2,e2,e0⟩:=aZ e0
 split at e0
 ·rename_i hz
  cases e0
  refine DD hr er e1 fun μ1 H1 n p1 k1 hr1 hs => ?_
  subst hs
  exact uJ hr1 (er.mono k1 p1) e2 hz (k.mono p1 k1)
 ·cases e0
theorem Ie {a:MA}{t:MT}{e:ME} (h:tM K (bX (iR2 a) t e) σ H Q):ny (t8 (tMA K a)) (tMT K t) (tM K e) σ H Q:=by
 obtain⟨μ,S,ρ,u,S',hr,er,e0,k⟩:=h
 obtain⟨src,S1,e1,e0⟩:=aZ e0
 obtain⟨ys,S2,e2,e0⟩:=aZ e0
 split at e0
 ·rename_i hz
  cases e0
  refine Ea hr er e1 fun μ1 H1 lo n p1 k1 hr1 hs => ?_
  subst hs
  exact uJ hr1 (er.mono k1 p1) e2 hz (k.mono p1 k1)
 ·cases e0
theorem JY {a:ME}{t:MT}{e:ME} (h:tM K (bX (cM a) t e) σ H Q):ny (fun σ H R=>q9 K (tM K a) σ H R\/yu K (tM K a) σ H R) (tMT K t) (tM K e) σ H Q:=by
 obtain⟨μ,S,ρ,u,S',hr,er,e0,k⟩:=h
 obtain⟨src,S1,e1,e0⟩:=aZ e0
 obtain⟨ys,S2,e2,e0⟩:=aZ e0
 split at e0
 ·rename_i hz
  cases e0
  refine vG hr er e1 (fun μ1 H1 us p vs p1 k1 hr1 hs hp rs => ?_) fun μ1 H1 n p p1 k1 hr1 hs hp => ?_
  ·subst hs
   exact z0 hr1 (er.mono k1 p1) e2 hz (k.mono p1 k1) hp rs
  ·subst hs
   exact AM hr1 (er.mono k1 p1) e2 hz (k.mono p1 k1) hp
 ·cases e0
end
end G
end
section
namespace G
open PySem PySem.Spec L2
open PyProof.Rows hiding St
section
variable {K:KX}{σ:St}{H:Hp}{Q:VK}{D:Ends}
end
end G
end
section
namespace G
open PySem PySem.Spec L2
open PyProof.Rows hiding St
theorem PE.con {X:Cx}{e:Expr}{t t':TE} (h:PE X e t) (hm : ∀ σ H Q,t' σ H Q->t σ H Q):PE X e t':=fun pins s σ H Q I q=>h pins s σ H Q I (hm σ H Q q)
theorem PT.con {X:Cx}{e:Expr}{t t':TT} (h:PT X e t) (hm : ∀ σ H Q,t' σ H Q->t σ H Q):PT X e t':=fun pins s σ H Q I q=>h pins s σ H Q I (hm σ H Q q)
theorem PW.con {X:Cx}{e:Expr}{t t':TT} (h:PW X e t) (hm : ∀ σ H Q,t' σ H Q->t σ H Q):PW X e t':=fun wh pins s σ H Q I q=>h wh pins s σ H Q I (hm σ H Q q)
theorem PA.con {X:Cx}{e:List Expr}{t t':TA} (h:PA X e t) (hm : ∀ σ H Q,t' σ H Q->t σ H Q):PA X e t':=fun pos pins s σ H Q I q=>h pos pins s σ H Q I (hm σ H Q q)
theorem PS.con {X:Cx}{e:Stmt}{t t':TS} (h:PS X e t) (hm : ∀ D σ H,t' D σ H->t D σ H):PS X e t':=fun pins s σ H D I q=>h pins s σ H D I (hm D σ H q)
theorem PSs.con {X:Cx}{e:List Stmt}{t t':TS} (h:PSs X e t) (hm : ∀ D σ H,t' D σ H->t D σ H):PSs X e t':=fun pins s σ H D I q=>h pins s σ H D I (hm D σ H q)
theorem PTs.con {X:Cx}{e:List Expr}{t t':TT} (h:PTs X e t) (hm : ∀ σ H Q,t' σ H Q->t σ H Q):PTs X e t':=fun pins s σ H Q I q=>h pins s σ H Q I (hm σ H Q q)
theorem PI.or {X:Cx}{tg it:Expr}{w1 w2:TI} (h1:PI X tg it w1) (h2:PI X tg it w2):PI X tg it (fun σ H R=>w1 σ H R\/w2 σ H R):=fun pins s σ H R I q=>by
 rcases q with q | q
 ·exact h1 pins s σ H R I q
 ·exact h2 pins s σ H R I q
structure Mo where
 P:Program
 w:World
 K:KX
 mg:Str->Option Value
 base:Heap
 mkr:Option (Addr×Str)
noncomputable def qb (ns:List (Str×NameKind)) (x:Str):Bool:=match ns.lookup x with
 | some .local=>true
 | some .cell=>true
 | some .free=>true
 | _=>false
noncomputable def oM (ns:List (Str×NameKind)) (x:Str):Bool:=match ns.lookup x with
 | some .local=>true
 | some .cell=>true
 | _=>false
noncomputable def dY (ns:List (Str×NameKind)) (x:Str):Bool:=match ns.lookup x with
 | some .globalImplicit=>true
 | _=>false
structure Sc (M:Mo) (X:Cx) (k:Nat) (N:List Str) (ns:List (Str×NameKind)):Prop where
 hP:X.prog=M.P
 hw:X.w=M.w
 hK:X.K=M.K
 hm:X.mg=M.mg
 hb:X.base=M.base
 hN:X.N=N
 nd:N.Nodup
 calm:X.calm=true
 loc : ∀ y,ns.lookup y=some .local->X.env.scope.names.lookup y=some .local
 cel : ∀ y,ns.lookup y=some .cell->X.env.scope.names.lookup y=some .cell/\X.fn y=true
 fre : ∀ y,ns.lookup y=some .free->X.env.scope.names.lookup y=some .cell\/X.env.scope.names.lookup y=some .free
 glo : ∀ y,ns.lookup y=some .globalImplicit->X.env.scope.names.lookup y=some .globalImplicit
 room:ja k X.A
 own:PassesOwn (model X.prog X.w) X.A X.env X.xe
 cod : ∀ c q,M.mkr=some (c,q)->X.env.code = .ref c/\X.env.qual=q
section
variable {M:Mo}{X:Cx}{k:Nat}{N:List Str}{ns:List (Str×NameKind)}
theorem Sc.vis (S:Sc M X k N ns) {x:Str} (h:qb ns x=true):Vis X.env.scope x:=by
 unfold qb at h
 split at h
 ·rename_i e;exact .inl (S.loc x e)
 ·rename_i e;exact .inr (.inl (S.cel x e).1)
 ·rename_i e;exact .inr (S.fre x e)
 ·cases h
theorem Sc.lo (S:Sc M X k N ns) {x:Str} (h:oM ns x=true):Loc X.env.scope x/\(X.fn x=true\/X.env.scope.names.lookup x=some .local):=by
 unfold oM at h
 split at h
 ·rename_i e;exact⟨.inl (S.loc x e),.inr (S.loc x e)⟩
 ·rename_i e;exact⟨.inr (S.cel x e).1,.inl (S.cel x e).2⟩
 ·cases h
theorem Sc.gl (S:Sc M X k N ns) {x:Str} (h:dY ns x=true):Gl X x:=by
 unfold dY at h
 split at h
 ·rename_i e;exact S.glo x e
 ·cases h
variable {a b c e:Expr}{es:List Expr}{ma mb mc:ME}{mt:MT}{mas:MA}{pos p1 p2:Pos}{x:Str}
theorem Ho (S:Sc M X k N ns) (i:Nat) (hi:N[i]? = some x) (hv:qb ns x=true) (hd:(x == ("__debug__":Str))=false) (hcd:(x == ("__classdict__":Str))=false):PE X (.Name x pos) (tM M.K (ab i)):=
 PE.con (Bb (by rw [S.hN];exact hi) (S.vis hv) hd hcd) fun _ _ _ h=>HV h
theorem G4 {i:Int}{j}:PE X (.Constant (.int i) j pos) (tM M.K (mC (.int i))):=PE.con Gi fun _ _ _ h=>r_c (fun _ _=>d7) h
theorem J0 {i:Bool}{j}:PE X (.Constant (.bool i) j pos) (tM M.K (mC (.bl i))):=PE.con IX fun _ _ _ h=>r_c (fun _ _=>fO) h
theorem Ik {j}:PE X (.Constant .none j pos) (tM M.K (mC .non)):=PE.con Fv fun _ _ _ h=>r_c (fun _ _=>m9) h
theorem Fj {u:U}{v:V}{g:Value} (S:Sc M X k N ns) (hg:dY ns x=true) (hm:M.mg x=some g) (r:RelV v g) (hv : ∀ H μ,RU H μ u v) (hd:(x == ("__debug__":Str))=false):PE X (.Name x pos) (tM M.K (mC u)):=
 PE.con (Ck (S.gl hg) (by rw [S.hm];exact hm) r hd) fun _ _ _ h=>r_c hv h
theorem JO (S:Sc M X k N ns) (ha:PE X a (tM M.K ma)) (hb:PE X b (tM M.K mb)):PE X (.BinOp a .Add b pos) (tM M.K (m2 cW ma mb)):=
 PE.con (qP (Fd.or (OpR.or (S.hK▸Cv) (OpR.or (S.hK▸Ca) Fk))) ha hb) fun _ _ _ h=>rS FE h
theorem Ju (ha:PE X a (tM M.K ma)) (hb:PE X b (tM M.K mb)):PE X (.BinOp a .Sub b pos) (tM M.K (m2 pD ma mb)):=PE.con (qP EB ha hb) fun _ _ _ h=>rS F8 h
theorem Hd (S:Sc M X k N ns) (ha:PE X a (tM M.K ma)) (hb:PE X b (tM M.K mb)):PE X (.BinOp a .Mult b pos) (tM M.K (m2 d6 ma mb)):=PE.con (qP (Gb.or (S.hK▸CM)) ha hb) fun _ _ _ h=>rS Fp h
theorem Jz (ha:PE X a (tM M.K ma)) (hb:PE X b (tM M.K mb)):PE X (.BinOp a .FloorDiv b pos) (tM M.K (m2 oDiv ma mb)):=PE.con (qP BI ha hb) fun _ _ _ h=>rS Gu h
theorem JB (ha:PE X a (tM M.K ma)) (hb:PE X b (tM M.K mb)):PE X (.BinOp a .Mod b pos) (tM M.K (m2 oMod ma mb)):=PE.con (qP Eu ha hb) fun _ _ _ h=>rS Et h
theorem Jl (ha:PE X a (tM M.K ma)) (hb:PE X b (tM M.K mb)):PE X (.BinOp a .Pow b pos) (tM M.K (m2 se ma mb)):=PE.con (qP EH ha hb) fun _ _ _ h=>rS EU h
theorem HN (ha:PE X a (tM M.K ma)):PE X (.UnaryOp .USub a pos) (tM M.K (m1 h9 ma)):=PE.con (He EE ha) fun _ _ _ h=>JU Ep h
theorem Kd (S:Sc M X k N ns) (ha:PE X a (tM M.K ma)) (hb:PE X b (tM M.K mb)) (hs:sU b):PE X (.Subscript a b pos) (tM M.K (m2 oIx ma mb)):=
 PE.con (Ha (IxR.or (S.hK▸Fs) (GH (by have:=S.room.units;omega))) ha hb hs) fun _ _ _ h=>rS IE h
theorem IF (hc:PT X c (tMT M.K mt)) (ha:PE X a (tM M.K ma)) (hb:PE X b (tM M.K mb)):PE X (.IfExp c a b pos) (tM M.K (uR mt ma mb)):=PE.con (Ba hc ha hb) fun _ _ _ h=>JN h
theorem Ip:PA X [] (tMA M.K ai):=PA.con mT fun _ _ _ h=>HW h
theorem F6 (ha:PE X a (tM M.K ma)) (hr:PA X es (tMA M.K mas)) (hs:starEach (a::es) X.env=(false,eval a X.env)::starEach es X.env:=by rfl):PA X (a::es) (tMA M.K (aa ma mas)):=
 PA.con (jt ha hr hs) fun _ _ _ h=>GV h
theorem HP {x1} (h:PA X es (tMA M.K mas)):PE X (.Tuple es x1 pos) (tM M.K (ft mas)):=PE.con (Ge h) fun _ _ _ h=>Jx h
theorem Hv (h:PA X es (tMA M.K mas)):PE X (.List es pos) (tM M.K (cm mas)):=PE.con (FY h) fun _ _ _ h=>IZ h
theorem JD (ha:PT X a (tMT M.K mt)) {mt':MT} (hb:PW X (.BoolOp .And (b::es) pos) (tMT M.K mt')):PW X (.BoolOp .And (a::b::es) pos) (tMT M.K (tK mt mt')):=PW.con (GD ha hb) fun _ _ _ h=>HH h
theorem J7 (ha:PT X a (tMT M.K mt)) {mt':MT} (hb:PW X (.BoolOp .Or (b::es) pos) (tMT M.K mt')):PW X (.BoolOp .Or (a::b::es) pos) (tMT M.K (cOr mt mt')):=PW.con (GZ ha hb) fun _ _ _ h=>J6 h
theorem E9 (ha:PT X a (tMT M.K mt)):PW X (.BoolOp .And [a] pos) (tMT M.K mt):=Cc ha
theorem JJ (ha:PT X a (tMT M.K mt)):PW X (.BoolOp .Or [a] pos) (tMT M.K mt):=GF ha
theorem Ih (ha:PT X a (tMT M.K mt)):PT X (.UnaryOp .Not a pos) (tMT M.K (nL mt)):=PT.con (FQ ha) fun _ _ _ h=>Jm h
theorem ID (ha:PE X a (tM M.K ma)) (he : ∀ whole,isTrue a X.env whole=(do let v <- whole;standAt a.pos;holding [v] (truthy v)):=by intro _;rfl):PT X a (tMT M.K (cOf ma)):=PT.con (Gx ha he) fun _ _ _ h=>Ke (fun _ q=>q) h
theorem Aq (S:Sc M X k N ns) (hg:dY ns "len"=true) (hm:M.mg "len"=none) (ha:PA X (e::es) (tMA M.K mas)) (he:starEach (e::es) X.env=(false,eval e X.env)::starEach es X.env:=by rfl) (hpl:(backTo pos (starEach es X.env)).any (·.1)=false:=by rfl) :
  PE X (.Call (.Name "len" p1) (e::es) [] pos) (tM M.K (mFn bW mas)):=
 PE.con (i6 (fN.or (S.hK▸sQ) yS) (S.gl hg) (by rw [S.hm];exact hm) PySem.boot_len ha (by decide) (by decide) he hpl) fun _ _ _ h=>xJ Gf h
theorem B9 (S:Sc M X k N ns) (hg:dY ns "tuple"=true) (hm:M.mg "tuple"=none) (ha:PA X (e::es) (tMA M.K mas)) (he:starEach (e::es) X.env=(false,eval e X.env)::starEach es X.env:=by rfl) (hpl:(backTo pos (starEach es X.env)).any (·.1)=false:=by rfl) :
  PE X (.Call (.Name "tuple" p1) (e::es) [] pos) (tM M.K (mFn bG mas)):=
 PE.con (iZ (S.hK▸qi) (S.gl hg) (by rw [S.hm];exact hm) iX ha (by decide) (by decide) he hpl) fun _ _ _ h=>xJ zt h
theorem GY (S:Sc M X k N ns) (hg:dY ns "max"=true) (hm:M.mg "max"=none) (ha:PA X (e::es) (tMA M.K mas)) (he:starEach (e::es) X.env=(false,eval e X.env)::starEach es X.env:=by rfl) (hpl:(backTo pos (starEach es X.env)).any (·.1)=false:=by rfl) :
  PE X (.Call (.Name "max" p1) (e::es) [] pos) (tM M.K (mFn p9 mas)):=
 PE.con (i6 (xS S.calm) (S.gl hg) (by rw [S.hm];exact hm) PyProof.Rows.boot_max ha (by decide) (by decide) he hpl) fun _ _ _ h=>xJ EF h
theorem Ii (S:Sc M X k N ns) (hg:dY ns "min"=true) (hm:M.mg "min"=none) (ha:PA X (e::es) (tMA M.K mas)) (he:starEach (e::es) X.env=(false,eval e X.env)::starEach es X.env:=by rfl) (hpl:(backTo pos (starEach es X.env)).any (·.1)=false:=by rfl) :
  PE X (.Call (.Name "min" p1) (e::es) [] pos) (tM M.K (mFn mE mas)):=
 PE.con (i6 (S.hK▸xU S.calm (by have:=S.room.units;omega)) (S.gl hg) (by rw [S.hm];exact hm) PyProof.Rows.boot_min ha (by decide) (by decide) he hpl) fun _ _ _ h=>xJ EX h
structure Fn (M:Mo) (x:Str) (k:Nat) (ps:List Str) (m:MF):Prop where
 ex : ∃ (f:Addr) (fd:FuncData),M.mg x=some (.ref f)/\ck M.K (.ref f)=true/\Binds M.K fd ps []/\kL M.P M.w M.K M.mg M.base CX0 k f fd ps (spM M.K m)
theorem Fy {mf:MF}{ps:List Str}{k':Nat} (S:Sc M X k N ns) (F:Fn M x k' ps mf) (hk:k'<=k) (hg:dY ns x=true) (ha:PA X (e::es) (tMA M.K mas)) (hd:(x == ("__debug__":Str))=false) (he:starEach (e::es) X.env=(false,eval e X.env)::starEach es X.env:=by rfl) (hpl:(backTo pos (starEach es X.env)).any (·.1)=false:=by rfl) :
  PE X (.Call (.Name x p1) (e::es) [] pos) (tM M.K (mFn mf mas)):=by
 obtain⟨f,fd,hm,hkp,hb,F⟩:=F.ex
 rw [<- S.hP,<- S.hw,<- S.hK,<- S.hm,<- S.hb] at F
 rw [<- S.hm] at hm
 rw [<- S.hK] at hkp hb
 exact PE.con (Cw F (S.room.mono hk) (S.gl hg) hm hkp hb .nil wD ha hd he hpl) fun _ _ _ h=>zz h
theorem CJ {mf:MF}{ps:List Str}{k':Nat} (S:Sc M X k N ns) (F:Fn M x k' ps mf) (hk:k'<=k) (hg:dY ns x=true) (hd:(x == ("__debug__":Str))=false) :
  PE X (.Call (.Name x p1) [] [] pos) (tM M.K (mFn mf ai)):=by
 obtain⟨f,fd,hm,hkp,hb,F⟩:=F.ex
 rw [<- S.hP,<- S.hw,<- S.hK,<- S.hm,<- S.hb] at F
 rw [<- S.hm] at hm
 rw [<- S.hK] at hkp hb
 refine PE.con (A3 F (S.room.mono hk) (S.gl hg) hm hkp hb .nil wD hd) fun σ H Q h => ?_
 obtain⟨μ,S,ρ,u,S',hr,er,e,kk⟩:=h
 exact⟨μ,S,[],u,S',hr,.nil,e,kk⟩
theorem zj (S:Sc M X k N ns) (ho:PE X a (tM M.K ma)) (ha:PA X (e::es) (tMA M.K mas)) (hbase:attributeBase a "append" X.env (eval a X.env)=eval a X.env:=by rfl)
  (hfew:((backTo pos (starEach (e::es) X.env)).all (fun x => !x.1)&&(backToKw pos (keywordEach [] X.env)).all (fun x=>x.1.isSome)
   && decide ((e::es).length+([]:List Keyword).length+(if ([]:List Keyword).isEmpty then 0 else 1) < 30))=true:=by rfl)
  (hline:(p1.endLine == pos.line)=true:=by rfl) (hs:starEach (e::es) X.env=(false,eval e X.env)::starEach es X.env:=by rfl) (hpl:(backTo pos (starEach es X.env)).any (·.1)=false:=by rfl) :
  PE X (.Call (.Attribute a "append" p1) (e::es) [] pos) (tM M.K (mML bH ma mas)):=by
 exact PE.con (zD fJ PySem.F.slot_list_append PySem.F.type_list_append xN ho ha hbase hfew hline hs hpl) fun _ _ _ h=>S.hK▸FG xR h
theorem BK (S:Sc M X k N ns) (ho:PE X a (tM M.K ma)) (ha:PA X (e::es) (tMA M.K mas)) (hbase:attributeBase a "pop" X.env (eval a X.env)=eval a X.env:=by rfl)
  (hfew:((backTo pos (starEach (e::es) X.env)).all (fun x => !x.1)&&(backToKw pos (keywordEach [] X.env)).all (fun x=>x.1.isSome)
   && decide ((e::es).length+([]:List Keyword).length+(if ([]:List Keyword).isEmpty then 0 else 1) < 30))=true:=by rfl)
  (hline:(p1.endLine == pos.line)=true:=by rfl) (hs:starEach (e::es) X.env=(false,eval e X.env)::starEach es X.env:=by rfl) (hpl:(backTo pos (starEach es X.env)).any (·.1)=false:=by rfl) :
  PE X (.Call (.Attribute a "pop" p1) (e::es) [] pos) (tM M.K (mML jv ma mas)):=by
 exact PE.con (zD fJ xD xE A0 ho ha hbase hfew hline hs hpl) fun _ _ _ h=>S.hK▸FG Ax h
theorem Hh {tg:Expr} (S:Sc M X k N ns) (hg:dY ns "range"=true) (hm:M.mg "range"=none) (ha:PA X [a] (tMA M.K mas)) (hs:starEach [a] X.env = [(false,eval a X.env)]:=by rfl):PI X tg (.Call (.Name "range" p1) [a] [] pos) (ua (tMA M.K mas)):=
 yy (S.gl hg) (by rw [S.hm];exact hm) ha hs
theorem IK {tg:Expr} (S:Sc M X k N ns) (hg:dY ns "range"=true) (hm:M.mg "range"=none) (ha:PA X [a,b] (tMA M.K mas)) (hs:starEach [a,b] X.env = [(false,eval a X.env),(false,eval b X.env)]:=by rfl) (hs2:starEach [b] X.env = [(false,eval b X.env)]:=by rfl):PI X tg (.Call (.Name "range" p1) [a,b] [] pos) (t8 (tMA M.K mas)):=
 yR (S.gl hg) (by rw [S.hm];exact hm) ha hs hs2
theorem Gj {tg:Expr} (S:Sc M X k N ns) (ha:PE X a (tM M.K ma)):PI X tg a (fun σ H R=>q9 M.K (tM M.K ma) σ H R\/yu M.K (tM M.K ma) σ H R):=by
 have h:=PI.or (BQ (tg:=tg) ha) (EW ha)
 rw [S.hK] at h
 exact h
noncomputable def rX (N N':List Str) (ns names:List (Str×NameKind)) (xs:List Str):Bool:=
 decide ((names.map (·.1)).Nodup)&&names.all (fun y=>if y.2 == .free then (match ns.lookup y.1 with | some .cell=>true | some .free=>true | _=>false) else true)&&xs.all (oM names)&&decide N'.Nodup &&
 (N'.length == N.length+xs.length)&&((ar xs.length).all fun j=>N'[N.length+j]? == xs[j]?)&&(ar N.length).all fun i=>match N'[i]? with
  | none=>true
  | some y=>if qb names y then N[i]? == some y&&names.lookup y == some .free else true
noncomputable def mz (N N':List Str) (ns names:List (Str×NameKind)) (x:Str):Bool:=rX N N' ns names [x]
theorem wj {N':List Str}{scope:Scope}{xs:List Str} (S:Sc M X k N ns) (hk:scope.kind = .function) (h:rX N N' ns scope.names xs=true):gQ X N' scope xs:=by
 unfold rX at h
 simp only [aB] at h
 obtain⟨⟨⟨⟨⟨⟨h1,h2⟩,h3⟩,h4⟩,h5⟩,h6⟩,h7⟩:=h
 refine⟨hk,of_decide_eq_true h1,fun y hy e => ?_,fun x hx => ?_,of_decide_eq_true h4,?_,fun j x hj => ?_,fun i y hi e hv => ?_⟩
 ·have:=bU.mp h2 y hy
  rw [if_pos (by rw [e];rfl)] at this
  split at this
  ·rename_i q;exact .inl (S.cel y.1 q).1
  ·rename_i q;exact S.fre y.1 q
  ·cases this
 ·have h3:=bU.mp h3 x hx
  unfold oM at h3
  split at h3
  ·rename_i q;exact .inl q
  ·rename_i q;exact .inr q
  ·cases h3
 ·rw [S.hN];exact eq_of_beq h5
 ·have hl:=(ae.mp hj).1
  have:=bU.mp h6 j (aU.mpr hl)
  rw [S.hN,eq_of_beq this];exact hj
 ·rw [S.hN] at hi ⊢
  have:=bU.mp h7 i (aU.mpr hi)
  rw [e] at this
  simp only at this
  have hvb:qb scope.names y=true:=by
   unfold qb
   rcases hv with q | q | q <;> rw [q]
  rw [if_pos hvb,aB] at this
  exact⟨eq_of_beq this.1,eq_of_beq this.2⟩
theorem rf {N':List Str}{scope:Scope} (S:Sc M X k N ns) (hk:scope.kind = .function) (h:mz N N' ns scope.names x=true):gQ X N' scope [x]:=wj S hk h
theorem rP {N':List Str}{scope:Scope}{xs:List Str} (S:Sc M X k N ns) (C:gQ X N' scope xs) (s₂:Shared) (H₂:Hp) (fp:List Addr):Sc M (blk X N' scope s₂ H₂ fp) k N' scope.names where
 hP:=S.hP
 hw:=S.hw
 hK:=S.hK
 hm:=S.hm
 hb:=S.hb
 hN:=rfl
 nd:=C.ndN
 calm:=S.calm
 loc:=fun y h=>lookup_relabel_local h
 cel:=fun y h=>⟨jk h,by show (scope.names.lookup y == some .cell)=true;rw [h];rfl⟩
 fre:=fun y h=>jo h
 glo:=fun y h=>lX h
 room:=S.room
 own:=pL
 cod:=S.cod
theorem Al {N':List Str}{scope:Scope}{px:Pos}{iter elt:Expr}{ifs:List Expr}{wi:TI}{mi:MI} (S:Sc M X k N ns) (hk:scope.kind = .function) (ok:mz N N' ns scope.names x=true) (hi:PI X (.Name x px) iter wi)
  (ht : ∀ X',Sc M X' k N' scope.names->PTs X' ifs (tMT M.K mt)) (he : ∀ X',Sc M X' k N' scope.names->PE X' elt (tM M.K mc)) (hr : ∀ σ H Q,tM M.K (bX mi mt mc) σ H Q->ny wi (tMT M.K mt) (tM M.K mc) σ H Q)
  (hs : ∀ x,foldedSetIterable iter X.env x=pure x:=by intro _;rfl):PE X (.ListComp elt [⟨.Name x px,iter,ifs,0⟩] scope pos) (tM M.K (bX mi mt mc)):=by
 have C:=rf S hk ok
 exact PE.con (Dv S.calm C hi (fun s₂ H₂ fp=>ht _ (rP S C s₂ H₂ fp)) (fun s₂ H₂ fp=>he _ (rP S C s₂ H₂ fp)) hs) hr
theorem Fh:PTs X [] (tMT M.K cTT):=PTs.con BR fun σ H Q h=>by
 obtain⟨μ,S,ρ,b,S',hr,er,e,kk⟩:=h
 cases e
 exact kk μ H (Pre.refl _) (bj.refl _) hr
theorem Hk (h:PT X c (tMT M.K mt)):PTs X [c] (tMT M.K mt):=Cg h
variable {st:Stmt}{sts:List Stmt}{ms ms':MS}
theorem Ic:PSs X [] (tMS M.K cJ):=PSs.con Du fun _ _ _ h=>Bf h
theorem Iw (h1:PS X st (tMS M.K ms)) (h2:PSs X sts (tMS M.K ms')):PSs X (st::sts) (tMS M.K (ba ms ms')):=PSs.con (zg h1 h2) fun _ _ _ h=>Hf h
theorem G8 (h1:PS X st (tMS M.K ms)):PSs X [st] (tMS M.K ms):=Cy h1
theorem DS (S:Sc M X k N ns) (i:Nat) (hi:N[i]? = some x) (ho:oM ns x=true) (he:PE X e (tM M.K ma)) (hs:swapsWith e (some (.Name x p1)) pos.line X.env=pure false:=by rfl):PS X (.Assign [.Name x p1] e pos) (tMS M.K (bC i ma)):=
 PS.con (Fb (by rw [S.hN];exact S.nd) (by rw [S.hN];exact hi) (S.lo ho).1 he hs (S.lo ho).2) fun _ _ _ h=>DI h
theorem BN (S:Sc M X k N ns) (ho:PE X a (tM M.K ma)) (hi:PE X b (tM M.K mb)) (he:PE X e (tM M.K mc)) (hs:swapsWithSole [.Subscript a b p1] e pos.line X.env=pure false:=by rfl) (hw:swappedStores [.Subscript a b p1] e X.env=pure none:=by rfl)
  (h1:(assignEach [.Subscript a b p1] X.env).map (·.2) = [assign (.Subscript a b p1) X.env]:=by rfl)
  (hasn : ∀ v,assign (.Subscript a b p1) X.env v=(do
   let ov <- holding [v] (eval a X.env)
   let iv <- holding [v,ov] (eval b X.env)
   standAt p1
   holding [v,ov,iv] (setItem ov iv v)
   release [v,ov,iv] []):=by intro _;rfl):PS X (.Assign [.Subscript a b p1] e pos) (tMS M.K (dy ma mb mc)):=
 PS.con (Bk he (AU ho hi (xg (by have:=S.room.units;omega)) hasn) hs hw h1) fun _ _ _ h=>CO h
theorem Fc (he:PE X e (tM M.K ma)) (hs:swapsWith e none pos.line X.env=pure false:=by rfl):PS X (.Expr e pos) (tMS M.K (cy ma)):=PS.con (Cb he hs) fun _ _ _ h=>EA h
theorem Iq (he:PE X e (tM M.K ma)):PS X (.Return (some e) pos) (tMS M.K (cK ma)):=PS.con (FZ he) fun _ _ _ h=>HG h
theorem JS {sts':List Stmt} (hc:PT X c (tMT M.K mt)) (ha:PSs X sts (tMS M.K ms)) (hb:PSs X sts' (tMS M.K ms')):PS X (.If c sts sts' pos) (tMS M.K (sIf mt ms ms')):=PS.con (GW hc ha hb) fun _ _ _ h=>J3 h
theorem G7 {iter:Expr}{wi:TI}{mi:MI} (S:Sc M X k N ns) (i:Nat) (hi:N[i]? = some x) (ho:oM ns x=true) (hit:PI X (.Name x p1) iter wi) (hb:PSs X sts (tMS M.K ms)) (hr : ∀ D σ H,tMS M.K (dD i mi ms) D σ H->qc wi (ix i) (tMS M.K ms) D σ H)
  (hs : ∀ x,foldedSetIterable iter X.env x=pure x:=by intro _;rfl):PS X (.For (.Name x p1) iter sts [] pos) (tMS M.K (dD i mi ms)):=
 PS.con (zq S.own S.calm hit (xb (by rw [S.hN];exact S.nd) (by rw [S.hN];exact hi) (S.lo ho).1 (S.lo ho).2) hb hs) hr
theorem CU (S:Sc M X k N ns) (hc:PT X c (tMT M.K mt)) (hb:PSs X sts (tMS M.K ms)):PS X (.While c sts [] pos) (tMS M.K (gU mt ms)):=PS.con (zy S.own hc hb) fun _ _ _ h=>BW h
end
theorem Sc.def {M:Mo}{N ps:List Str}{qual:Str}{scope:Scope}{f:Addr}{cdv:Value}{A:Around}{outer:List Env}{s:Shared}{H:Hp}{E:XK}{k:Nat} (S:bw N ps scope) (hr:ja k (A.deeper (envOfC qual scope s.heap.objs.size f cdv))) (h0 : ∀ c q,M.mkr=some (c,q)->cdv = .ref c/\qual++".<locals>."=q) :
  Sc M (vI CX0 M.P M.w M.K M.mg M.base N qual scope f cdv A outer s H E).nox k N scope.names:=
 ⟨rfl,rfl,rfl,rfl,rfl,rfl,S.nd,rfl,fun _ h=>h,fun _ h=>⟨h,rfl⟩,fun _ h => .inr h,fun _ h=>h,hr,pL,h0⟩
theorem qI {H:Hp}{μ:List Addr}{N:List Str}{us:List U}{vs:List V} (r:RUs H μ us vs):ER H μ (us.map some++aE (N.length - us.length) none) (L2.start N vs):=by
 unfold L2.start
 refine⟨by simp [r.len],fun i u h => ?_⟩
 by_cases hi:i < us.length
 ·rw [aM (by simpa using hi),bo] at h
  cases e:us[i]? with
  | none=>rw [e] at h;cases h
  | some w=>
    rw [e] at h;cases h
    obtain⟨v,hv,rv⟩:=r.get e
    refine⟨v,?_,rv⟩
    rw [aM (by simpa [<- r.len] using hi),bo,hv];rfl
 ·rw [av (by simpa using hi)] at h
  rw [fZ] at h
  split at h <;> cases h
theorem Bg {M:Mo} (h0:M.mkr=none) {x qual:Str}{st:Stmt}{f:Addr}{fd:FuncData}{N ps:List Str}{k:Nat}{ms:MS} (F:Fun M.K x qual st f fd) (S:bw N ps (ax st))
  (hb : ∀ X,Sc M X k N (ax st).names->PSs X (bc st) (tMS M.K ms)):kL M.P M.w M.K M.mg M.base CX0 (k+1) f fd ps (spM M.K (run ps.length N.length ms)):=by
 refine F.ok S (fun vs H Q E h => ?_) fun cdv A outer s H vs Q E hr h=>⟨tMS M.K ms,hb _ (Sc.def S hr fun c q h=>by rw [h0] at h;cases h),?_⟩
 ·obtain⟨μ,S',us,u,S'',hr,rs,e,_⟩:=h
  unfold run at e
  split at e
  ·rename_i hl;rw [<- rs.len];exact hl
  ·cases e
 ·obtain⟨μ,S1,us,u,S2,hr,rs,e,ka⟩:=h
  unfold run at e
  split at e
  ·rename_i hl
   have er:=qI (N:=N) rs
   rw [hl] at er
   split at e
   ·rename_i w ρ' S3 q
    cases e
    exact⟨μ,S1,_,_,hr,er,q,ka⟩
   ·rename_i ρ' S3 q
    cases e
    exact⟨μ,S1,_,_,hr,er,q,fun μ' σ' H' p' k' hr' er'=>ka μ' _ H' p' k' hr' m9⟩
   ·cases e
  ·cases e
end G
end
section
namespace G
open PySem PySem.Spec L2
open PyProof.Rows hiding St
mutual
inductive m7 (K:ak) (H:Hp):V->PyData->Prop where
 | non:m7 K H .non .none
 | bl (b:Bool):m7 K H (.bl b) (.bool b)
 | int (i:Int):m7 K H (.int i) (.int i)
 | str (x:Str):m7 K H (.str x) (.str x)
 | tup {a:Addr}{vs:List V}{ds:List PyData}:SqT K H a vs->jA K H vs ds->m7 K H (.ref a) (.tuple ds)
 | lst {a:Addr}{vs:List V}{ds:List PyData}:SqL K H a vs->jA K H vs ds->m7 K H (.ref a) (.list ds)
inductive jA (K:ak) (H:Hp):List V->List PyData->Prop where
 | nil:jA K H [] []
 | cons {v:V}{vs:List V}{d:PyData}{ds:List PyData}:m7 K H v d->jA K H vs ds->jA K H (v::vs) (d::ds)
end
section
variable {X:Cx}{pins:List (Addr×Obj)}{σ:St}{H:Hp}{s:Shared}
mutual
theorem m7.reads (I:Inv X pins σ H s) : ∀ {v:V}{d:PyData}{w:Value},m7 X.K H v d->RelV v w -> ∃ as,Reads s.heap w d as
 | _,_,_,.non,r=>⟨[],by cases (show _=eh from r);exact .none⟩
 | _,_,_,.bl b,r=>⟨[],by cases (show _=vf b from r);exact .bool b⟩
 | _,_,_,.int i,r=>by
   obtain⟨t,e⟩:=(show ∃ t,_=qo i t from r)
   subst e;exact⟨[],.int i t⟩
 | _,_,_,.str x,r=>by
   obtain⟨t,e⟩:=(show ∃ t,_=qq x t from r)
   subst e;exact⟨[],.str x t⟩
 | _,_,_,.tup (a:=a) h rs,r=>by
   cases (show _=be a from r)
   obtain⟨its,rv,⟨o,e,c,n,dt⟩,_⟩:=I.tuple h
   obtain⟨as,q⟩:=jA.reads I rs rv
   exact⟨as,.tuple e c dt q⟩
 | _,_,_,.lst (a:=a) h rs,r=>by
   cases (show _=be a from r)
   obtain⟨its,rv,⟨o,n,e,c,dd,dt⟩,_⟩:=I.list h
   obtain⟨as,q⟩:=jA.reads I rs rv
   exact⟨a::as,.list e c dt q⟩
theorem jA.reads (I:Inv X pins σ H s) : ∀ {vs:List V}{ds:List PyData}{ws:List Value},jA X.K H vs ds->bP vs ws -> ∃ as,ReadsAll s.heap ws ds as
 | _,_,_,.nil,r=>by cases r;exact⟨[],.nil⟩
 | _,_,_,.cons h rs,r=>by
   cases r with
   | cons r1 r2=>
     obtain⟨as,q⟩:=m7.reads I h r1
     obtain⟨bs,q'⟩:=jA.reads I rs r2
     exact⟨as++bs,.cons q q'⟩
end
end
theorem md {α β:Type}{f:α->Option β}{P:α->β->Prop} (hf : ∀ x y,f x=some y->P x y) : ∀ {xs:List α}{ys:List β},cQ f xs=some ys->Paired P xs ys
 | [],ys,h=>by cases h;exact .nil
 | x::xs,ys,h=>by
   unfold cQ at h
   cases e:f x with
   | none=>rw [e] at h;cases h
   | some y=>
     rw [e] at h
     simp only [ah] at h
     cases e2:cQ f xs with
     | none=>rw [e2] at h;cases h
     | some zs=>
       rw [e2] at h;cases h
       exact .cons (hf x y e) (md hf e2)
theorem n8 {f:Nat} : ∀ {us:List U}{ds:List PyData},Paired (fun (_:U) (d:PyData)=>d.canLay0=true/\d.depth<=f) us ds->jz ds=true/\iq ds<=f
 | _,_,.nil=>⟨by simp [jz],by simp [iq]⟩
 | _,_,.cons h t=>by
   obtain⟨a,b⟩:=n8 t
   exact⟨by simp [jz,h.1,a],by simp only [iq];exact Nat.max_le.mpr ⟨h.2,b⟩⟩
section
variable {K:KX}{H:Hp}{μ:List Addr}{S:Sto}
theorem oa {f:Nat} (hr:HR K μ S H) (ih : ∀ (u:U) (d:PyData),toD S f u=some d -> ∀ v,RU H μ u v->m7 K H v d) : ∀ {us:List U}{ds:List PyData},cQ (toD S f) us=some ds -> ∀ {vs:List V},RUs H μ us vs->jA K H vs ds
 | [],ds,h,vs,r=>by cases h;rw [r.nil_inv];exact .nil
 | u::us,ds,h,vs,r=>by
   unfold cQ at h
   cases e:toD S f u with
   | none=>rw [e] at h;cases h
   | some y=>
     rw [e] at h
     simp only [ah] at h
     cases e2:cQ (toD S f) us with
     | none=>rw [e2] at h;cases h
     | some zs=>
       rw [e2] at h;cases h
       obtain⟨v,r',rfl,a,b⟩:=r.inv
       exact .cons (ih u y e v a) (oa hr ih e2 b)
theorem oh (hr:HR K μ S H) : ∀ (f:Nat) (u:U) (d:PyData),toD S f u=some d -> ∀ v,RU H μ u v->m7 K H v d
 | 0,u,d,h,v,r=>by cases u <;> cases h
 | f+1,.non,d,h,v,r=>by cases h;rw [show v = .non by simpa only [RU] using r];exact .non
 | f+1,.bl b,d,h,v,r=>by cases h;rw [iD r];exact .bl b
 | f+1,.int i,d,h,v,r=>by cases h;rw [b0 r];exact .int i
 | f+1,.str x,d,h,v,r=>by
   unfold toD at h
   split at h
   ·cases h;rw [show v = .str x by simpa only [RU] using r];exact .str x
   ·cases h
 | f+1,.tup us,d,h,v,r=>by
   unfold toD at h
   cases e:cQ (toD S f) us with
   | none=>rw [e] at h;cases h
   | some ds=>
     rw [e] at h;cases h
     obtain⟨a,vs,rfl,ha,rs⟩:=gS r
     exact .tup (.inl (.inl ha)) (oa hr (oh hr f) e rs)
 | f+1,.ref n,d,h,v,r=>by
   unfold toD at h
   cases e0:getL S n with
   | none=>rw [e0] at h;cases h
   | some us=>
     rw [e0] at h
     simp only [ah] at h
     cases e:cQ (toD S f) us with
     | none=>rw [e] at h;cases h
     | some ds=>
       rw [e] at h;cases h
       obtain⟨a,rfl,ha⟩:=dW r
       obtain⟨a',vs,ha',hs,rs⟩:=hr.sq e0
       rw [ha] at ha';cases ha'
       exact .lst hs (oa hr (oh hr f) e rs)
 | f+1,.obj a,d,h,v,r=>by cases h
end
theorem og (S:Sto) : ∀ (f:Nat) (u:U) (d:PyData),toD S f u=some d->d.canLay0=true/\d.depth<=f
 | 0,u,d,h=>by cases u <;> cases h
 | f+1,.non,d,h=>by cases h;exact⟨by simp [gv],by simp [iO]⟩
 | f+1,.bl b,d,h=>by cases h;exact⟨by simp [gv],by simp [iO]⟩
 | f+1,.int i,d,h=>by cases h;exact⟨by simp [gv],by simp [iO]⟩
 | f+1,.str x,d,h=>by
   unfold toD at h
   split at h
   ·rename_i q;cases h;exact⟨q,by simp [iO]⟩
   ·cases h
 | f+1,.tup us,d,h=>by
   unfold toD at h
   cases e:cQ (toD S f) us with
   | none=>rw [e] at h;cases h
   | some ds=>
     rw [e] at h;cases h
     obtain⟨a,b⟩:=n8 (md (fun x y q=>og S f x y q) e)
     exact⟨by simpa [gv] using a,by simp only [iO];omega⟩
 | f+1,.ref n,d,h=>by
   unfold toD at h
   cases e0:getL S n with
   | none=>rw [e0] at h;cases h
   | some us=>
     rw [e0] at h
     simp only [ah] at h
     cases e:cQ (toD S f) us with
     | none=>rw [e] at h;cases h
     | some ds=>
       rw [e] at h;cases h
       obtain⟨a,b⟩:=n8 (md (fun x y q=>og S f x y q) e)
       exact⟨by simpa [gv] using a,by simp only [iO];omega⟩
 | f+1,.obj a,d,h=>by cases h
noncomputable def oS (K:ak) (H:Hp) (v:V) (d:PyData):Prop:=m7 K H v d/\d.canLay0=true/\d.depth<=40
noncomputable def Jt (K:ak):R2:=fun x y H Q => ∃ a b,oS K H x a/\oS K H y b/\Q (.bl (iW a b)) H
noncomputable def IR (K:ak):R2:=fun x y H Q => ∃ a b,oS K H x a/\oS K H y b/\Q (.bl (!iW a b)) H
theorem ko {K:ak}{H:Hp}{v:V}{d:PyData} (h:oS K H v d):SeqAt.shaped d=true:=by
 unfold SeqAt.shaped
 rw [h.2.1,decide_eq_true (br h.2.2 (by decide))];rfl
section
variable {X:Cx}
theorem FA (hu:X.A.units+64 < cLine):OpR X (compareOp .Eq) (Jt X.K):=by
 intro pins s σ H x y v u Q I rx ry h
 obtain⟨a,b,ha,hb,q⟩:=h
 obtain⟨as,r1⟩:=ha.1.reads I rx
 obtain⟨bs,r2⟩:=hb.1.reads I ry
 exact SeqAt.compareEq_shaped r1 r2 (ko ha) (ko hb) hu ⟨.bl _,H,I,rfl,q⟩
theorem GB (hu:X.A.units+64 < cLine):OpR X (compareOp .NotEq) (IR X.K):=by
 intro pins s σ H x y v u Q I rx ry h
 obtain⟨a,b,ha,hb,q⟩:=h
 obtain⟨as,r1⟩:=ha.1.reads I rx
 obtain⟨bs,r2⟩:=hb.1.reads I ry
 exact SeqAt.compareNe_shaped r1 r2 (ko ha) (ko hb) hu ⟨.bl _,H,I,rfl,q⟩
end
section
variable {K:KX}{μ:List Addr}{S:Sto}{H:Hp}
theorem tL {u:U}{v:V}{d:PyData} (hr:HR K μ S H) (r:RU H μ u v) (h:toD S 40 u=some d):oS K H v d:=⟨oh hr 40 u d h v r,og S 40 u d h⟩
theorem wX {x y:U}{b:Bool} (h:eqU S x y=some b) : ∃ a c,toD S 40 x=some a/\toD S 40 y=some c/\b=iW a c:=by
 unfold eqU at h
 cases e1:toD S 40 x with
 | none=>rw [e1] at h;cases h
 | some a=>
   rw [e1] at h
   simp only [ah] at h
   cases e2:toD S 40 y with
   | none=>rw [e2] at h;cases h
   | some c=>rw [e2] at h;cases h;exact⟨a,c,rfl,rfl,rfl⟩
theorem GX:OpU K (Jt K) oEq:=by
 intro μ S H x y vx vy u S' Q hr rx ry e a
 unfold oEq at e
 cases q:eqU S x y with
 | none=>rw [q] at e;cases e
 | some b=>
   rw [q] at e;cases e
   obtain⟨d1,d2,e1,e2,rfl⟩:=wX q
   exact⟨d1,d2,tL hr rx e1,tL hr ry e2,a.now hr fO⟩
theorem G9:OpU K (IR K) oNe:=by
 intro μ S H x y vx vy u S' Q hr rx ry e a
 unfold oNe at e
 cases q:eqU S x y with
 | none=>rw [q] at e;cases e
 | some b=>
   rw [q] at e;cases e
   obtain⟨d1,d2,e1,e2,rfl⟩:=wX q
   exact⟨d1,d2,tL hr rx e1,tL hr ry e2,a.now hr fO⟩
end
end G
end
section
namespace G
open PySem PySem.Spec L2
open PyProof.Rows hiding St
section
section
variable {K:KX}{σ:St}{H:Hp}{Q:VK}
end
section
variable {M:Mo}{X:Cx}{k:Nat}{N:List Str}{ns:List (Str×NameKind)}{a b c e:Expr}{es:List Expr}{ma mb mc:ME}{mt:MT}{mas:MA}{pos p1 p2:Pos}{x:Str}
inductive sP (M:Mo) (X:Cx):Option Expr->Option ME->Prop where
 | none:sP M X .none .none
 | some {e:Expr}{m:ME}:PE X e (tM M.K m)->sP M X (.some e) (.some m)
end
noncomputable def tF (a b:ME):ME:=fun ρ S=>bnd (a ρ S) fun x S1=>match x with
 | .bl true=>b ρ S1
 | .bl false=>some (.bl false,S1)
 | _=>none
noncomputable def mOr (a b:ME):ME:=fun ρ S=>bnd (a ρ S) fun x S1=>match x with
 | .bl true=>some (.bl true,S1)
 | .bl false=>b ρ S1
 | _=>none
noncomputable def Dx:U->Sto->Res U:=fun x S=>match x with
 | .bl b=>some (.bl (!b),S)
 | _=>none
section
variable {K:KX}{σ:St}{H:Hp}{Q:VK}
theorem Gm {a b:ME} (h:tM K (tF a b) σ H Q):Eh (tM K a) (tM K b) σ H Q:=by
 obtain⟨μ,S,ρ,u,S',hr,er,e,k⟩:=h
 obtain⟨x,S1,e1,e⟩:=aZ e
 refine⟨μ,S,ρ,x,S1,hr,er,e1,fun μ1 vx H1 p1 k1 hr1 rx => ?_⟩
 split at e
 ·exact⟨true,iD rx,mh ⟨μ1,S1,ρ,u,S',hr1,er.mono k1 p1,e,k.mono p1 k1⟩⟩
 ·cases e
  exact⟨false,iD rx,mw (k μ1 _ H1 p1 k1 hr1 fO)⟩
 ·cases e
theorem Jp {a b:ME} (h:tM K (mOr a b) σ H Q):HD (tM K a) (tM K b) σ H Q:=by
 obtain⟨μ,S,ρ,u,S',hr,er,e,k⟩:=h
 obtain⟨x,S1,e1,e⟩:=aZ e
 refine⟨μ,S,ρ,x,S1,hr,er,e1,fun μ1 vx H1 p1 k1 hr1 rx => ?_⟩
 split at e
 ·cases e
  exact⟨true,iD rx,mh (k μ1 _ H1 p1 k1 hr1 fO)⟩
 ·exact⟨false,iD rx,mw ⟨μ1,S1,ρ,u,S',hr1,er.mono k1 p1,e,k.mono p1 k1⟩⟩
 ·cases e
theorem FI {a:ME} (h:tM K (m1 Dx a) σ H Q):DU (tM K a) σ H Q:=by
 obtain⟨μ,S,ρ,u,S',hr,er,e,k⟩:=h
 obtain⟨x,S1,e1,e⟩:=aZ e
 refine⟨μ,S,ρ,x,S1,hr,er,e1,fun μ1 vx H1 p1 k1 hr1 rx => ?_⟩
 unfold Dx at e
 split at e
 ·cases e
  exact⟨_,iD rx,k μ1 _ H1 p1 k1 hr1 fO⟩
 ·cases e
end
section
variable {X:Cx}{a b:Expr}{ta:TA}{p pos:Pos}
noncomputable def AV (ta:TA):TE:=fun σ H Q=>ta σ H fun vs H1 => ∃ j:Int,vs = [.int j] /\ -(2 ^ 62)<=j/\j < 2 ^ 62 /\ ∀ r,H1 r=none->Q (.ref r) (upd H1 r (.rng 0 j))
noncomputable def ze (ta:TA):TE:=fun σ H Q=>ta σ H fun vs H1 => ∃ i j:Int,vs = [.int i,.int j]/\(-(2 ^ 62)<=i/\i < 2 ^ 62 /\ -(2 ^ 62)<=j/\j < 2 ^ 62) /\ ∀ r,H1 r=none->Q (.ref r) (upd H1 r (.rng i j))
theorem um {pins:List (Addr×Obj)}{σ:St}{H:Hp}{s:Shared}{Q:VK}{lo hi:Int}{t u v:Tok}{tk:Nat} (I:Inv X pins σ H s) (q : ∀ r,H r=none->Q (.ref r) (upd H r (.rng lo hi))) :
  EP X pins σ Q (.ref s.heap.objs.size) { s with heap:=s.heap.push { cls := .type "range",data := .fields #[.int lo t,.int hi u,.int 1 v] },toks:=tk }:=by
 refine⟨.ref s.heap.objs.size,_,I.laid (t':=tk) (o := .rng lo hi) (fun b ob q=>af _ q) (aj _) ?_,rfl,q _ (I.hok.fresh (aj _))⟩
 exact⟨t,u,v,ay _ rfl⟩
theorem wt (hg:Gl X "range") (hm:X.mg "range"=none) (ha:PA X [a] ta) (hs:starEach [a] X.env = [(false,eval a X.env)]:=by rfl):PE X (.Call (.Name "range" p) [a] [] pos) (AV ta):=by
 intro pins s σ H Q I h
 refine Call_ (j5 I hg hm boot_range (cn (thn (ha pos pins s σ H _ I h) fun us s1 ⟨vs,H1,I1,r1,q1⟩ => ?_) (by rw [hs];rfl) rfl))
 obtain⟨j,e,q1,q2,q⟩:=q1
 subst e
 cases r1 with
 | cons r rr=>
   cases rr
   obtain⟨t,rfl⟩:=r
   exact call_range_1 (um I1 q)
theorem xh (hg:Gl X "range") (hm:X.mg "range"=none) (ha:PA X [a,b] ta) (hs:starEach [a,b] X.env = [(false,eval a X.env),(false,eval b X.env)]:=by rfl) (hs2:starEach [b] X.env = [(false,eval b X.env)]:=by rfl) :
  PE X (.Call (.Name "range" p) [a,b] [] pos) (ze ta):=by
 intro pins s σ H Q I h
 refine Call_ (j5 I hg hm boot_range (cn (thn (ha pos pins s σ H _ I h) fun us s1 ⟨vs,H1,I1,r1,q1⟩ => ?_) (by rw [hs,hs2]) (by rw [hs2];rfl)))
 obtain⟨i,j,e,⟨q1,q2,q3,q4⟩,q⟩:=q1
 subst e
 cases r1 with
 | cons r rr=>
   cases rr with
   | cons r' rr=>
     cases rr
     obtain⟨t,rfl⟩:=r
     obtain⟨t',rfl⟩:=r'
     exact call_range_2 (um I1 q)
theorem sk : ∀ {xs:List V}{us:List Value},xs.length=us.length->(∀ (i:Nat) (x:V) (u:Value),xs[i]? = some x->us[i]? = some u->RelV x u)->bP xs us
 | [],[],_,_ => .nil
 | [],_::_,h,_=>by simp at h
 | _::_,[],h,_=>by simp at h
 | x::xs,u::us,h,k => .cons (k 0 x u rfl rfl) (sk (by simpa using h) fun i y w h1 h2=>k (i+1) y w (by simpa using h1) (by simpa using h2))
noncomputable def jD (i:Int) (n:Nat):List V:=(ar n).map fun (k:Nat) => .int (i+k)
theorem kS (hc:X.calm=true):fN X (.type "list") (fun xs H Q => ∃ r lo hi,xs = [.ref r]/\H r=some (.rng lo hi)/\(-(2 ^ 62)<=lo/\lo < 2 ^ 62 /\ -(2 ^ 62)<=hi/\hi < 2 ^ 62)/\(hi - lo).toNat<=sizeLine /\ ∀ l,H l=none->Q (.ref l) (upd H l (.lst (jD lo (hi - lo).toNat)))):=by
 intro pins s σ H xs us Q I rs h
 obtain⟨r,lo,hi,rfl,hr,⟨h1,h2,h3,h4⟩,hz,q⟩:=h
 cases rs with
 | cons r1 rr=>
   cases rr
   cases (show _=be r from r1)
   obtain⟨t,u,v,e⟩:=I.hok r _ hr
   have hn:cY lo hi 1=((hi - lo).toNat:Nat):=by rw [rangeSize_one];split <;> omega
   refine call_list_range (n:=(hi - lo).toNat) (I.ok.hd hc) e (small_one h1 h2 h3 h4) hn (by rw [sizeLine_eq] at hz;exact hz) fun h' tk acc c' hk hl hacc => ?_
   obtain⟨hsz,hit⟩:=hacc
   refine⟨.ref s.heap.objs.size,_,I.laid (t':=tk) (o := .lst (jD lo (hi - lo).toNat)) hk (aj _) ?_,rfl,q _ (I.hok.fresh (aj _))⟩
   refine⟨by rw [jD,aq,aY];exact hz,acc.toList,c',?_,by simpa using hl⟩
   refine sk (by rw [jD,aq,aY,dX,hsz]) fun i x w h5 h6 => ?_
   have hlt:i < (hi - lo).toNat:=by
    have:=(ae.mp h5).1
    rwa [jD,aq,aY] at this
   have hx:(jD lo (hi - lo).toNat)[i]? = some (.int (lo+i)):=by simp [jD,hlt]
   rw [hx] at h5;cases h5
   obtain⟨t',e'⟩:=hit i w (by simpa using h6)
   exact⟨t',by rw [e'];simp⟩
end
end
end G
end
section
namespace G
open PySem PySem.Spec L2
open PyProof.Rows hiding St
section
theorem w5 {H:Hp}{μ:List Addr} (i:Int) (n:Nat):RUs H μ (bh i n) (jD i n):=by
 unfold bh jD
 induction n with
 | zero=>simpa using RUs.nil
 | succ n ih=>rw [dP,dv,dv];exact ih.append (.cons d7 .nil)
section
variable {K:KX}{σ:St}{H:Hp}{Q:VK}
noncomputable def rLR:List V->Hp->VK->Prop:=fun xs H Q => ∃ r lo hi,xs = [.ref r]/\H r=some (.rng lo hi)/\(-(2 ^ 62)<=lo/\lo < 2 ^ 62 /\ -(2 ^ 62)<=hi/\hi < 2 ^ 62)/\(hi - lo).toNat<=sizeLine /\ ∀ l,H l=none->Q (.ref l) (upd H l (.lst (jD lo (hi - lo).toNat)))
theorem HR.rng {μ:List Addr}{S:Sto}{p:Addr}{i j:Int} (h:HR K μ S H) (hp:H p=none):HR K μ S (upd H p (.rng i j)):=by
 have kp:bj H (upd H p (.rng i j)):=bj.new hp
 refine⟨h.len,h.inj,fun m c b q1 q2=>(h.cell m c b q1 q2).mono kp (Pre.refl _) (fun hc => ?_) fun o u hf => ?_,h.ext.upd kp (Pre.refl _) fun o1 q=>by rw [hp] at q;cases q⟩
 ·obtain⟨o,e,_⟩:=(h.cell m _ b q1 q2).has hc
  exact bg (bf e hp)
 ·rw [bg (bf hf hp)];exact hf
theorem wZ {μ:List Addr}{S1:Sto}{i j:Int}{r:Addr} (hr1:HR K μ S1 H) (ho:okR i/\okR j) (hz:(bh i (j - i).toNat).length<=big) (k:Aft K μ H (.ref S1.length) (S1 ++ [.lst (bh i (j - i).toNat)]) Q) (hrn:H r=none):rLR [.ref r] (upd H r (.rng i j)) Q:=by
 refine⟨r,i,j,rfl,bS,⟨ho.1.1,ho.1.2,ho.2.1,ho.2.2⟩,?_,fun l hl => ?_⟩
 ·unfold bh big at hz;rw [aq,aY] at hz;rw [sizeLine_eq];exact hz
 ·exact ky (k.mono (Pre.refl _) (bj.new hrn)) (hr1.rng hrn) (w5 _ _) hl
theorem AE {a:MA} (h:tM K (gW (iR1 a)) σ H Q):tCB rLR (nq (AV (tMA K a)) tH) σ H Q:=by
 obtain⟨μ,S,ρ,u,S',hr,er,e,k⟩:=h
 obtain⟨src,S1,e1,e⟩:=aZ e
 obtain⟨xs,S2,e2,e1⟩:=aZ e1
 refine⟨μ,S,ρ,xs,S2,hr,er,e2,fun μ1 vs H1 p1 k1 hr1 rs => ?_⟩
 split at e1
 ·rename_i j
  split at e1
  ·rename_i hj
   cases e1
   simp only at e
   split at e
   ·rename_i hz
    cases e
    obtain⟨v,r,rfl,rx,rn⟩:=rs.inv
    rw [rn.nil_inv,b0 rx]
    refine⟨j,rfl,hj.1,hj.2,fun r hrn => ?_⟩
    have ez:(j - 0).toNat=j.toNat:=by simp
    exact wZ (i:=0) hr1 ⟨⟨by decide,by decide⟩,hj⟩ (by rw [ez];exact hz) (by rw [ez];exact k.mono p1 k1) hrn
   ·cases e
  ·cases e1
 ·cases e1
theorem AX {a:MA} (h:tM K (gW (iR2 a)) σ H Q):tCB rLR (nq (ze (tMA K a)) tH) σ H Q:=by
 obtain⟨μ,S,ρ,u,S',hr,er,e,k⟩:=h
 obtain⟨src,S1,e1,e⟩:=aZ e
 obtain⟨xs,S2,e2,e1⟩:=aZ e1
 refine⟨μ,S,ρ,xs,S2,hr,er,e2,fun μ1 vs H1 p1 k1 hr1 rs => ?_⟩
 split at e1
 ·rename_i i j
  split at e1
  ·rename_i hj
   cases e1
   simp only at e
   split at e
   ·rename_i hz
    cases e
    obtain⟨v,r,rfl,rx,rs⟩:=rs.inv
    obtain⟨w,r,rfl,ry,rn⟩:=rs.inv
    rw [rn.nil_inv,b0 rx,b0 ry]
    exact⟨i,j,rfl,⟨hj.1.1,hj.1.2,hj.2.1,hj.2.2⟩,fun r hrn=>wZ hr1 hj hz (k.mono p1 k1) hrn⟩
   ·cases e
  ·cases e1
 ·cases e1
end
noncomputable def lY:List String := ["NoneType","bool","int","str","list","tuple","dict"]
noncomputable def jh:List String := ["bool","int","str","list","tuple","dict"]
theorem Fx (K:ak) {t T:String} (ht:t∈lY) (hT:T∈jh):PySem.W.kitOne K (.type t) (.type T)=some (B6 t T):=by
 simp only [lY,jh,aG,df,or_false] at ht hT
 rcases ht with rfl | rfl | rfl | rfl | rfl | rfl | rfl <;> rcases hT with rfl | rfl | rfl | rfl | rfl | rfl <;> first | rfl | kernel_rfl
theorem zC {X:Cx}:fN X (.builtin "isinstance") (fun xs H Q => ∃ x t T,xs = [x,.ty T]/\lq X.K H x (.type t)/\t∈lY/\T∈jh/\Q (.bl (B6 t T)) H):=by
 intro pins s σ H xs us Q I rs h
 obtain⟨x,t,T,rfl,ty,ht,hT,q⟩:=h
 cases rs with
 | cons r1 rr=>
   cases rr with
   | cons r2 rr=>
     cases rr
     cases (show _=vg T from r2)
     exact yw I r1 ty (Fx X.K ht hT) fun tk=>⟨.bl _,H,I.tok _,rfl,q⟩
theorem Je {K:KX}{μ:List Addr}{S:Sto}{H:Hp}{x:U}{v:V}{t:String} (hr:HR K μ S H) (r:RU H μ x v) (e:tyU S x=some t):lq K H v (.type t)/\t∈lY:=by
 unfold tyU at e
 split at e
 ·cases e;rw [show v = .non by simpa only [RU] using r];exact⟨.non,by decide⟩
 ·cases e;rw [iD r];exact⟨.bl _,by decide⟩
 ·cases e;rw [b0 r];exact⟨.int _,by decide⟩
 ·cases e;rw [show v = .str _ by simpa only [RU] using r];exact⟨.str _,by decide⟩
 ·cases e;obtain⟨a,vs,rfl,ha,_⟩:=gS r;exact⟨.tup ha,by decide⟩
 ·split at e
  ·rename_i q
   cases e
   obtain⟨a,rfl,ha⟩:=dW r
   obtain⟨vs,e1,_⟩:=hr.cell _ _ a q ha
   exact⟨.lst e1,by decide⟩
  ·rename_i q
   cases e
   obtain⟨a,rfl,ha⟩:=dW r
   obtain⟨vs,e1,_⟩:=hr.cell _ _ a q ha
   exact⟨.dK e1,by decide⟩
  ·cases e
 ·cases e
theorem Jd {K:KX}{σ:St}{H:Hp}{Q:VK}{a:ME}{T:String} (hT:T∈jh) (h:tM K (m1 (jE T) a) σ H Q) :
  tCB (fun xs H Q => ∃ x t T,xs = [x,.ty T]/\lq K H x (.type t)/\t∈lY/\T∈jh/\Q (.bl (B6 t T)) H) (nq (tM K a) (nq (tC (.ty T)) tH)) σ H Q:=by
 obtain⟨μ,S,ρ,u,S',hr,er,e,k⟩:=h
 obtain⟨x,S1,e1,e⟩:=aZ e
 refine⟨μ,S,ρ,x,S1,hr,er,e1,fun μ1 vx H1 p1 k1 hr1 rx => ?_⟩
 unfold jE at e
 cases q:tyU S1 x with
 | none=>rw [q] at e;cases e
 | some t=>
   rw [q] at e;cases e
   obtain⟨ty,ht⟩:=Je hr1 rx q
   exact⟨vx,t,T,rfl,ty,ht,hT,k μ1 _ H1 p1 k1 hr1 fO⟩
noncomputable def AL (S:Sto) (x:U) (us:List U):Option Nat:=(cQ (toD S 39) us).bind fun ds=>(toD S 40 x).bind fun d=>ds.findIdx? fun y=>iW y d
noncomputable def gq:List U->List U->Sto->Res U:=fun us xs S=>match xs with
 | [x]=>(AL S x us).map fun k=>(.int k,S)
 | _=>none
noncomputable def GL (K:ak) (to:TE) (t:TA):TE:=fun σ H Q=>to σ H fun x H1=>(∃ p ys,x = .ref p/\H1 p=some (.tup ys))/\t σ H1 fun xs H2 => ∃ p ys v ds d j,x = .ref p/\xs = [v]/\H2 p=some (.tup ys) /\
 jA K H2 ys ds/\jz ds=true/\iq ds<=40/\oS K H2 v d/\ds.findIdx? (fun y=>iW y d)=some j/\Q (.int j) H2
theorem zi {X:Cx}{o e:Expr}{es:List Expr}{to:TE}{t:TA}{apos cpos:Pos} (hu:X.A.units+64 < cLine) (ho:PE X o to) (ha:PA X (e::es) t)
  (hbase:attributeBase o "index" X.env (eval o X.env)=eval o X.env:=by rfl)
  (hfew:((backTo cpos (starEach (e::es) X.env)).all (fun x => !x.1)&&(backToKw cpos (keywordEach [] X.env)).all (fun x=>x.1.isSome)
   && decide ((e::es).length+([]:List Keyword).length+(if ([]:List Keyword).isEmpty then 0 else 1) < 30))=true:=by rfl)
  (hline:(apos.endLine == cpos.line)=true:=by rfl) (hs:starEach (e::es) X.env=(false,eval e X.env)::starEach es X.env:=by rfl) (hplain:(backTo cpos (starEach es X.env)).any (·.1)=false:=by rfl) :
  PE X (.Call (.Attribute o "index" apos) (e::es) [] cpos) (GL X.K to t):=by
 intro pins s σ H Q I h
 refine wpAny_Call_method_late hbase hfew hline rfl (thn (ho pins s σ H _ I h) fun v s1 ⟨x,H1,I1,r1,⟨p,ys,hx,hp⟩,q1⟩ => ?_)
 subst hx
 cases (show v=be p from r1)
 obtain⟨_,its,rv,⟨o1,e1,c1,n1,d1⟩,o2,e2,c2⟩:=I1.hok p _ hp
 refine⟨"tuple",_,PySem.F.plainAttrs_tuple,vn,PySem.F.type_tuple_index,⟨o1,e1,c1⟩,fun a ea=>by cases ea;exact⟨o2,e2,c2⟩,?_⟩
 have hA:=ha cpos pins s1 σ H1 _ I1 q1
 rw [hs] at hA ⊢
 refine kN (by show (false||(backTo cpos (starEach es X.env)).any (·.1))=false;rw [hplain] <;> rfl) (mK ?_)
 refine thn hA fun us s2 ⟨vs,H2,I2,r2,q2⟩ => ?_
 obtain⟨p',ys',v',ds,d,j,hx,hxs,hp',rd,hl,hdp,hd,hj,q⟩:=q2
 cases hx
 subst hxs
 cases r2 with
 | cons ra rr=>
   cases rr
   obtain⟨_,its2,rv2,⟨⟨cls,dd,data,sl⟩,e3,c3,n3,d3⟩,_⟩:=I2.hok p _ hp'
   simp only at c3 d3
   subst c3 d3
   obtain⟨as,rds⟩:=rd.reads I2 rv2
   obtain⟨bs,rdv⟩:=hd.1.reads I2 ra
   have hlen:its2.length=ds.length:=SeqAt.ReadsAll.length _ _ _ rds
   have hjl:j < ds.length:=by
    obtain⟨h1,_⟩:=dI.mp hj
    exact h1
   have hmap:=SeqAt.readsAll_map ds _ _ hl rds
   have hget : ∀ (m:Nat) (h1:m < its2.length) (h2:m < ds.length),SeqAt.readOf s2.heap its2[m]=ds[m]:=fun m h1 h2=>by
    have:=congrArg (fun l=>l[m]?) hmap
    simp [h1,h2] at this
    exact this
   have heq:=SeqAt.items_eqAt (A:=X.A) (vs:=its2.toArray) (by simpa using rds) rdv hl hd.2.1 (by have:=Nat.min_le_left (iq ds) d.depth;omega)
   obtain⟨h1,h2,h3⟩:=dI.mp hj
   refine call_meets vn ⟨_,e3,rfl⟩ PySem.F.entry_tuple_index (PySem.F.args_tuple_index_2 _ _)
    (qh p its2.toArray n3 dd sl _ (fun y=>iW (SeqAt.readOf s2.heap y) d) j (by rw [aC];omega) ?_ ?_) ⟨e3,heq,?_⟩
   ·have:=hget j (by omega) hjl
    simp only [BC,this];exact h2
   ·intro m hm hmj
    rw [aC] at hm
    have:=hget m hm (by omega)
    simp only [BC,this]
    simpa using h3 m hmj
   ·exact⟨.int j,H2,I2.tok _,⟨_,rfl⟩,q⟩
theorem BG {K:KX}{σ:St}{H:Hp}{Q:VK}{o:ME}{a:MA} (h:tM K (mMT gq o a) σ H Q):GL K (tM K o) (tMA K a) σ H Q:=by
 obtain⟨μ,S,ρ,u,S',hr,er,e,k⟩:=h
 obtain⟨x,S1,e1,e⟩:=aZ e
 refine⟨μ,S,ρ,x,S1,hr,er,e1,fun μ1 vx H1 p1 k1 hr1 rx => ?_⟩
 cases x with
 | tup us=>
   obtain⟨xs,S2,e2,e⟩:=aZ e
   obtain⟨p,vs,rfl,hp,rs⟩:=gS rx
   refine⟨⟨p,vs,rfl,hp⟩,μ1,S1,ρ,xs,S2,hr1,er.mono k1 p1,e2,fun μ2 ws H2 p2 k2 hr2 rws => ?_⟩
   unfold gq at e
   split at e
   ·rename_i x
    obtain⟨v,r,rfl,rx',rn⟩:=rws.inv
    rw [rn.nil_inv]
    cases q:AL S2 x us with
    | none=>rw [q] at e;cases e
    | some j=>
      rw [q] at e;cases e
      unfold AL at q
      cases q1:cQ (toD S' 39) us with
      | none=>rw [q1] at q;cases q
      | some ds=>
        rw [q1] at q
        simp only [ah] at q
        cases q2:toD S' 40 x with
        | none=>rw [q2] at q;cases q
        | some d=>
          rw [q2] at q
          simp only [ah] at q
          obtain⟨l1,l2⟩:=n8 (md (fun x y z=>og S' 39 x y z) q1)
          exact⟨p,vs,v,ds,d,j,rfl,rfl,k2 p vs hp,oa hr2 (oh hr2 39) q1 (RUs.mono k2 p2 _ _ rs),l1,by omega,tL hr2 rx' q2,q,k μ2 _ H2 (p1.trans p2) (k1.trans k2) hr2 d7⟩
   ·cases e
 | _=>cases e
end
end G
end
section
namespace G
open PySem PySem.Spec L2
open PyProof.Rows hiding St
section
theorem Dj {h h':Heap}{o:Obj} (hk : ∀ b x,b ∉ [h.objs.size]->(h.push o).get? b=some x->h'.get? b=some x) : ∀ b x,h.get? b=some x->h'.get? b=some x:=
 fun b x e=>hk b x (fun hm=>by rw [cx.mp hm] at e;exact bD _ (aw e)) (af _ e)
theorem wc (bs:List Bool):((ar bs.length).all fun i=>(bs[i]?).getD true)=bs.all id:=by
 rw [Bool.eq_iff_iff,bU,bU]
 constructor
 ·intro h b hb
  obtain⟨i,hi,rfl⟩:=List.getElem_of_mem hb
  have:=h i (aU.mpr hi)
  simpa [aS hi] using this
 ·intro h i hi
  have hi':=aU.mp hi
  simp only [aS hi',Option.getD_some]
  exact h _ (hV hi')
theorem yC {bs:List Bool} : ∀ {us:List Value}{i:Nat}{v:Value},bP (bs.map V.bl) us->us[i]? = some v -> ∃ b,bs[i]? = some b/\v = .bool b:=fun {us i v} r h=>by
 have hl:=r.length
 rw [aq] at hl
 have hi:i < bs.length:=by rw [hl];exact (ae.mp h).1
 obtain⟨u,hu,ru⟩:=r.get (i:=i) (x := .bl bs[i]) (by simp [hi])
 rw [h] at hu;cases hu
 exact⟨bs[i],by simp [hi],ru⟩
section
variable {X:Cx}
theorem yJ (hc:X.calm=true):fN X (.builtin "all") (fun xs H Q => ∃ (p:Addr) (bs:List Bool),xs = [.ref p]/\SqL X.K H p (bs.map V.bl)/\Q (.bl (bs.all id)) H):=by
 intro pins s σ H xs us Q I rs h
 obtain⟨p,bs,rfl,hS,q⟩:=h
 cases rs with
 | cons r1 rr=>
   cases rr
   cases (show _=be p from r1)
   obtain⟨its,rv,pl,_⟩:=I.list hS
   have hl:=pl.isList
   have hlt:p < s.heap.objs.size:=by obtain⟨_,e,_⟩:=hl;exact aw e
   refine call_all_walk (vk hl ?_)
   refine⟨s.heap.objs.size,[s.heap.objs.size,p],[s.heap.objs.size],its.toArray.size,_,_,fun i=>(bs[i]?).getD true,rfl,Walks.list (A:=X.A.in1) (I.ok.hd hc) _ p (bb hlt) its.toArray,
    ⟨⟨_,ay _ rfl,rfl,rfl⟩,hl.push _⟩,fun i v s' Q' E' hP hQ => ?_,fun h' tk hk => ?_⟩
   ·obtain⟨b,e,rfl⟩:=yC rv (by simpa using hP)
    simp only [e,Option.getD_some] at hQ
    exact fo hQ
   ·have e:((ar its.toArray.size).all fun i=>(bs[i]?).getD true)=bs.all id:=by
     rw [aC,<- rv.length,aq];exact wc bs
    rw [e]
    exact⟨.bl _,H,I.kept (Dj hk),rfl,q⟩
end
noncomputable def kf:U->Option Bool
 | .bl b=>some b
 | _=>none
noncomputable def sj:MF:=fun us S=>match us with
 | [.ref n]=>(getL S n).bind fun xs=>(cQ kf xs).map fun bs=>(.bl (bs.all id),S)
 | _=>none
theorem ub {H:Hp}{μ:List Addr} : ∀ {us:List U}{vs:List V}{bs:List Bool},RUs H μ us vs->cQ kf us=some bs->vs=bs.map V.bl
 | [],vs,bs,r,e=>by cases e;rw [r.nil_inv];rfl
 | u::us,vs,bs,r,e=>by
   obtain⟨v,r',rfl,a,b⟩:=r.inv
   unfold cQ at e
   cases u with
   | bl x=>
     simp only [kf,ah] at e
     cases q:cQ kf us with
     | none=>rw [q] at e;cases e
     | some cs=>
       rw [q] at e;cases e
       rw [iD a,ub b q];rfl
   | _=>cases e
section
variable {K:KX}
theorem EK:oP K (fun xs H Q => ∃ (p:Addr) (bs:List Bool),xs = [.ref p]/\SqL K H p (bs.map V.bl)/\Q (.bl (bs.all id)) H) sj:=by
 intro μ S H us vs u S' Q hr rs e a
 unfold sj at e
 split at e
 ·rename_i n
  obtain⟨v,r,rfl,rx,rn⟩:=rs.inv
  rw [rn.nil_inv]
  cases q:getL S n with
  | none=>rw [q] at e;cases e
  | some xs=>
    rw [q] at e
    simp only [ah] at e
    cases q2:cQ kf xs with
    | none=>rw [q2] at e;cases e
    | some bs=>
      rw [q2] at e;cases e
      obtain⟨p,rfl,hp⟩:=dW rx
      obtain⟨p',ys,hp',hs,r'⟩:=hr.sq q
      rw [hp] at hp';cases hp'
      rw [ub r' q2] at hs
      exact⟨p,bs,rfl,hs,a.now hr fO⟩
 ·cases e
end
end
end G
end
section
namespace G
open PySem PySem.Spec L2
open PyProof.Rows hiding St
section
noncomputable def fV:U->Option V
 | .non=>some .non
 | .bl b=>some (.bl b)
 | .int i=>some (.int i)
 | .str x=>some (.str x)
 | _=>none
noncomputable def fX:F2:=fun x y S=>match fi S y with
 | some kvs=>(keyOf x).map fun k=>(.bl (!(hG kvs k).isSome),S)
 | none=>(fV x).bind fun vx=>(dO S y).bind fun ys=>(cQ fV ys).map fun vs=>(.bl (!inV vx vs),S)
theorem xo {H:Hp}{μ:List Addr}{u:U}{v w:V} (e:fV u=some v) (r:RU H μ u w):w=v/\kR v=true:=by
 cases u <;> simp only [fV,dB,reduceCtorEq] at e <;> subst e <;> exact⟨by simpa only [RU] using r,rfl⟩
theorem ue {H:Hp}{μ:List Addr} : ∀ {us:List U}{vs ws:List V},cQ fV us=some vs->RUs H μ us ws->ws=vs/\vs.all kR=true
 | [],vs,ws,e,r=>by cases e;rw [r.nil_inv];exact⟨rfl,rfl⟩
 | u::us,vs,ws,e,r=>by
   obtain⟨v,r',rfl,a,b⟩:=r.inv
   unfold cQ at e
   cases q1:fV u with
   | none=>rw [q1] at e;cases e
   | some x=>
     cases q2:cQ fV us with
     | none=>rw [q1,q2] at e;cases e
     | some xs=>
       rw [q1,q2] at e;cases e
       obtain⟨e1,f1⟩:=xo q1 a
       obtain⟨e2,f2⟩:=ue q2 b
       exact⟨by rw [e1,e2],by rw [bT,f1,f2];rfl⟩
section
variable {K:KX}
noncomputable def IW (K:ak) (neg:Bool):R2:=fun y x H Q=>rIn K neg y x H Q \/ ∃ a o,x = .ref a/\sM H a y o/\Q (.bl (if neg then !o.isSome else o.isSome)) H
theorem xY {X:Cx} (hu:X.A.units+1 < cLine):OpR X (compareOp .NotIn) (IW X.K true):=by
 intro pins s σ H x y v u Q I rx ry h
 rcases h with h | ⟨a,o,rfl,g,q⟩
 ·exact rN pins s σ H x y v u Q I rx ry h
 ·obtain rfl:u=be a:=ry
  exact Cq hu I g rx fun s3 I3=>⟨.bl (!o.isSome),H,I3,rfl,q⟩
theorem zM:OpU K (IW K true) fX:=by
 intro μ S H x y vx vy u S' Q hr rx ry e a
 unfold fX at e
 split at e
 ·rename_i kvs qd
  cases qk:keyOf x with
  | none=>rw [qk] at e;cases e
  | some kk=>
    rw [qk] at e;cases e
    obtain⟨p,vs,rfl,hp,r⟩:=hr.dic ry qd
    have hl:kvs.length=vs.length:=by have:=r.len;rwa [aq] at this
    refine .inr ⟨p,_,rfl,.inl ⟨_,kk,.inl hp,lW rx qk,rfl⟩,?_⟩
    simp only [if_true]
    rw [t9 hl]
    exact a.now hr fO
 refine .inl ?_
 cases q1:fV x with
 | none=>rw [q1] at e;cases e
 | some fx=>
   cases q2:dO S y with
   | none=>rw [q1,q2] at e;cases e
   | some ys=>
     cases q3:cQ fV ys with
     | none=>rw [q1,q2] at e;simp only [ah,q3] at e;cases e
     | some vs=>
       rw [q1,q2] at e;simp only [ah,q3] at e;cases e
       obtain⟨rfl,f1⟩:=xo q1 rx
       obtain⟨p,zs,rfl,hs,r'⟩:=hr.seq ry q2
       obtain⟨rfl,f2⟩:=ue q3 r'
       exact⟨p,zs,rfl,hs,f1,f2,a.now hr fO⟩
noncomputable def oIs:F2:=fun x y S=>match x,y with
 | .bl i,.bl j=>some (.bl (i == j),S)
 | .bl _,.non=>some (.bl false,S)
 | .non,.bl _=>some (.bl false,S)
 | .non,.non=>some (.bl true,S)
 | .tup _,.non=>some (.bl false,S)
 | .ref _,.non=>some (.bl false,S)
 | .int _,.non=>some (.bl false,S)
 | _,_=>none
noncomputable def rIs (neg:Bool):R2:=fun x y H Q=>(∃ i j,x = .bl i/\y = .bl j/\Q (.bl (if neg then i != j else i == j)) H)\/(∃ i,x = .bl i/\y = .non/\Q (.bl neg) H) \/
 (∃ j,x = .non/\y = .bl j/\Q (.bl neg) H)\/(x = .non/\y = .non/\Q (.bl (!neg)) H) \/
 (∃ p,x = .ref p/\y = .non/\Q (.bl neg) H)\/(∃ i,x = .int i/\y = .non/\Q (.bl neg) H)
theorem E8 {X:Cx}:OpR X (compareOp .Is) (rIs false):=by
 intro pins s σ H x y v u Q I rx ry h
 rcases h with⟨i,j,rfl,rfl,q⟩ | ⟨i,rfl,rfl,q⟩ | ⟨j,rfl,rfl,q⟩ | ⟨rfl,rfl,q⟩ | ⟨p,rfl,rfl,q⟩ | ⟨i,rfl,rfl,q⟩
 ·cases rx;cases ry
  exact is_bool ⟨.bl _,H,I,rfl,q⟩
 ·cases rx;cases ry
  exact is_bool_none ⟨.bl _,H,I,rfl,q⟩
 ·cases rx;cases ry
  exact aK ⟨.bl _,H,I,rfl,q⟩
 ·cases rx;cases ry
  exact is_none_none ⟨.bl _,H,I,rfl,q⟩
 ·cases rx;cases ry
  exact aK ⟨.bl _,H,I,rfl,q⟩
 ·obtain⟨t,rfl⟩:=rx;cases ry
  exact aK ⟨.bl _,H,I,rfl,q⟩
theorem lC {H:Hp}{μ:List Addr}{v:V} (h:RU H μ .non v):v = .non:=by simpa only [RU] using h
theorem JM:OpU K (rIs false) oIs:=by
 intro μ S H x y vx vy u S' Q hr rx ry e a
 unfold oIs at e
 split at e <;> cases e
 ·rw [iD rx,iD ry];exact .inl ⟨_,_,rfl,rfl,a.now hr fO⟩
 ·rw [iD rx,lC ry];exact .inr (.inl ⟨_,rfl,rfl,a.now hr fO⟩)
 ·rw [lC rx,iD ry];exact .inr (.inr (.inl ⟨_,rfl,rfl,a.now hr fO⟩))
 ·rw [lC rx,lC ry];exact .inr (.inr (.inr (.inl ⟨rfl,rfl,a.now hr fO⟩)))
 ·obtain⟨p,_,rfl,_⟩:=gS rx
  rw [lC ry];exact .inr (.inr (.inr (.inr (.inl ⟨_,rfl,rfl,a.now hr fO⟩))))
 ·obtain⟨p,rfl,_⟩:=dW rx
  rw [lC ry];exact .inr (.inr (.inr (.inr (.inl ⟨_,rfl,rfl,a.now hr fO⟩))))
 ·rw [b0 rx,lC ry];exact .inr (.inr (.inr (.inr (.inr ⟨_,rfl,rfl,a.now hr fO⟩))))
noncomputable def iJ:Nat->List U->Sto->Res U:=fun n xs S=>match xs with
 | [.ref m]=>match S[n]?,S[m]? with
   | some (.lst us),some (.lst ws)=>if us.length+ws.length<=big then some (.non,S.set n (.lst (us++ws))) else none
   | _,_=>none
 | _=>none
theorem xT:MtU K wF iJ:=by
 intro μ S H n p us vs u S' Q hr hp rs e a
 unfold iJ at e
 split at e
 ·rename_i m
  split at e
  ·rename_i xs ws q q2
   split at e
   ·rename_i hc
    cases e
    obtain⟨v,r,rfl,rx,rn⟩:=rs.inv
    rw [rn.nil_inv]
    obtain⟨b,rfl,hb⟩:=dW rx
    obtain⟨ys,e0,r0⟩:=hr.cell n _ p q hp
    obtain⟨zs,e1,r1⟩:=hr.cell m _ b q2 hb
    refine⟨p,b,ys,zs,rfl,rfl,e0,e1,?_,rY a hr q hp (r0.append r1) m9⟩
    have:=r0.len;have:=r1.len;unfold big at hc;rw [sizeLine_eq];omega
   ·cases e
  ·cases e
 ·cases e
end
noncomputable def nu (ns:List Int):List Int:=ns.mergeSort fun i j=>decide (i<=j)
noncomputable def pB:U->Option Int
 | .int i=>some i
 | _=>none
noncomputable def vB (n:Nat):Prop:=n < 64
noncomputable instance (n:Nat):Decidable (vB n):=bO _
noncomputable def ll:L2.Key×U->Option Int
 | (.inl i,_)=>some i
 | _=>none
noncomputable def qH (S:Sto) (x:U):Option (List Int):=match fi S x with
 | some kvs=>cQ ll kvs
 | none=>(dO S x).bind fun xs=>cQ pB xs
noncomputable def dR:MF:=fun us S=>match us with
 | [x]=>(qH S x).bind fun ns=>if vB ns.length then some (.ref S.length,S ++ [.lst ((nu ns).map U.int)]) else none
 | _=>none
theorem hW (ns:List Int):(nu ns).Perm ns:=List.mergeSort_perm _ _
theorem uh (ns:List Int):(nu ns).Pairwise (· <= ·):=by
 have h:=List.pairwise_mergeSort (le:=fun (i j:Int)=>decide (i<=j)) (fun a b c h1 h2=>by simp at *;omega) (fun a b=>by simp;omega) ns
 exact h.imp fun h=>by simpa using h
theorem nr : ∀ {as bs:List Int},as.Perm bs->as.Pairwise (· <= ·)->bs.Pairwise (· <= ·)->as=bs
 | [],bs,p,_,_=>by rw [List.nil_perm.mp p]
 | a::as,[],p,_,_=>by cases List.perm_nil.mp p
 | a::as,b::bs,p,h1,h2=>by
   rw [List.pairwise_cons] at h1 h2
   have e:a=b:=by
    have m1:a∈b::bs:=p.subset (by simp)
    have m2:b∈a::as:=p.symm.subset (by simp)
    rcases aG.mp m1 with e | m1
    ·exact e
    ·rcases aG.mp m2 with e | m2
     ·exact e.symm
     ·have:=h1.1 b m2;have:=h2.1 a m1;omega
   subst e
   rw [nr (List.perm_cons _ |>.mp p) h1.2 h2.2]
theorem tS {ns ms:List Int} (p:ms.Perm ns) (h:ms.Pairwise (· <= ·)):ms=nu ns:=nr (p.trans (hW ns).symm) h (uh ns)
theorem wB {H:Hp}{μ:List Addr} : ∀ {us:List U}{vs:List V}{ns:List Int},RUs H μ us vs->cQ pB us=some ns->vs=ns.map V.int
 | [],vs,ns,r,e=>by cases e;rw [r.nil_inv];rfl
 | u::us,vs,ns,r,e=>by
   obtain⟨v,r',rfl,a,b⟩:=r.inv
   unfold cQ at e
   cases u with
   | int x=>
     simp only [pB,ah] at e
     cases q:cQ pB us with
     | none=>rw [q] at e;cases e
     | some cs=>
       rw [q] at e;cases e
       rw [b0 a,wB b q];rfl
   | _=>cases e
theorem intsAre_of : ∀ {ns:List Int}{us:List Value},bP (ns.map V.int) us->IntsAre us ns
 | [],us,r=>by cases r;exact .nil
 | n::ns,us,r=>by
   cases r with
   | cons a b=>
     obtain⟨t,rfl⟩:=a
     exact .cons n t (intsAre_of b)
theorem mS : ∀ {ns:List Int}{us:List Value},IntsAre us ns->bP (ns.map V.int) us
 | _,_,.nil => .nil
 | _,_,.cons n t r => .cons ⟨t,rfl⟩ (mS r)
theorem iG : ∀ {ns:List Int}{us:List Value},IntsAre us ns->us.length=ns.length
 | _,_,.nil=>rfl
 | _,_,.cons n t r=>by simp [iG r]
theorem wd {prog:Program}{w:World}{A:Around}{E:Value->Shared->Prop}{s:Shared}{Q:List Value->Shared->Prop} (it:Addr) {T:String}{o:Obj}{items:Array Value}{n:Nat} (hT:T="list"\/T="tuple")
  (ho:s.heap.get? it=some o) (hc:o.cls = .type T) (hd:o.data = .seq items n) (hsz:items.size<=sizeLine)
  (hQ : ∀ h',(∀ b o',s.heap.get? b=some o'->h'.get? b=some o')->s.heap.objs.size<=h'.objs.size->Q items.toList { s with heap:=h' }) :
  aI (model prog w) A (collect (.ref it)) Q E s:=by
 unfold collect
 refine ag (Bu (fe nj ?_))
 rw [dh nk _]
 show aI _ A.in1 (newList [] >>= fun l=>again (.builtin "list.__iadd__" ⟨[l,.ref it],[]⟩)) _ _ s
 refine ag (dZ (aK ⟨plainId_quiet fh _,fe tm ?_⟩))
 rw [dh fh _]
 have hS:(s.heap.push { cls := .type "list",data := .seq ([]:List Value).toArray }).get? s.heap.objs.size=some { cls := .type "list",data := .seq #[] 0 }:=ay _ rfl
 have hS₂:=eO (dg (· ++ items)) hS rfl
 refine cf (wpAny_extend_seq (hsz:=hsz) (A:=A) (R:=fun r s'=>r = .ok (.ret (.ref s.heap.objs.size))/\s'={ s with heap:=(s.heap.push { cls := .type "list",data := .seq ([]:List Value).toArray }).update s.heap.objs.size (dg (· ++ items)) })
  (s:={ s with heap:=s.heap.push { cls := .type "list",data := .seq ([]:List Value).toArray } }) _ it _ 0 hT hS (af _ ho) hc hd ⟨rfl,rfl⟩) (fun fin s' h => ?_) (fun e s' h=>absurd h.1 (by simp))
 have fin':aI (model prog w) A (match be s.heap.objs.size with
   | be a=>do
     match (<- load a).data with
      | pU xs _=>pure xs.toList
      | _=>unsupported "internal:collect"
   | _=>unsupported "internal:collect") Q E { s with heap:=(s.heap.push { cls := .type "list",data := .seq ([]:List Value).toArray }).update s.heap.objs.size (dg (· ++ items)) }:=by
  show aI _ A (load s.heap.objs.size >>= _) _ _ _
  refine ag (Bq hS₂ (aK ?_))
  show Q ((#[]:Array Value)++items).toList _
  rw [show ((#[]:Array Value)++items).toList=items.toList by simp]
  exact hQ _ (fun b o' hb=>(cN _ _ (dA (aw hb))).trans (af _ hb)) (by rw [Heap.size_update,size_push'];exact iw _)
 cases fin with
 | done f=>
   obtain⟨e,rfl⟩:=h
   cases e
   exact fin'
 | again c'=>exact⟨h.1,jF h.2 fun r s'' hr=>by obtain⟨rfl,rfl⟩:=hr;exact fin'⟩
theorem pG {prog:Program}{w:World}{A:Around}{E:Value->Shared->Prop}{s:Shared}{l:Addr}{T:String}{o:Obj}{n:Nat}{vs:List Value}{ns:List Int}{Q:Value->Shared->Prop} (hT:T="list"\/T="tuple")
  (ho:s.heap.get? l=some o) (hc:o.cls = .type T) (hd:o.data = .seq vs.toArray n) (hI:IntsAre vs ns) (h64:vs.length < 64)
  (h : ∀ (out:Array Value) (ns':List Int) (a:Addr) (e:Nat) (h':Heap),IntsAre out.toList ns'->ns'.Perm ns->ns'.Pairwise (· <= ·)->s.heap.objs.size<=a->(∀ b o',s.heap.get? b=some o'->h'.get? b=some o') ->
   h'.get? a=some (seqObj "list" out e)->Q (.ref a) { s with heap:=h' }) :
  aI (model prog w) A (call (.builtin "sorted") [.ref l]) Q E s:=by
 refine vv kind_sorted plain_sorted entry_sorted (args_sorted1 _) ?_
 unfold Builtin.«sorted»
 refine ag (m:=checkCount "sorted" 1 1 _) (aK ?_)
 refine ag (wd l hT ho hc hd (by rw [aC,sizeLine_eq];omega) fun h1 hk hle => ?_)
 refine ag (wpAny_newList ?_)
 have hoL:(h1.push (seqObj "list" vs.toArray 0)).get? h1.objs.size=some (seqObj "list" vs.toArray 0):=ay _ rfl
 show aI _ _ _ _ _ { s with heap:=h1.push (seqObj "list" vs.toArray 0) }
 refine ag (iV (fL slot_list_sort ⟨_,hoL,rfl⟩ entry_list_sort (list_sort_tree hoL hI h64 fun out ns' a1 a2 a3=>⟨_,rfl,?_⟩) (args_list_sort _)))
 obtain⟨e,he⟩:=sortedHeap_at (out:=out) hoL
 exact aK ⟨_,rfl,h out ns' _ e _ a1 a2 a3 hle (fun b o' hb=>by
  have hb1:=hk b o' hb
  have hlt:=aw hb1
  rw [sortedHeap_old (bb hlt) (by rw [size_push'];exact dr hlt),Heap.get?_push_ne _ _ _ (bb hlt)]
  exact hb1) he⟩
theorem rC {prog:Program}{w:World}{A:Around}{E:Value->Shared->Prop}{s:Shared}{Q:List Value->Shared->Prop}{d:Addr}{vs:List (Key×Value)}{ep:Nat} (hh:A.handled=none) (hS:(d == sysModules)=false) (hm:s.heap.DictAt (de prog w) d vs ep) (hn:vs.length<=sizeLine)
  (hQ : ∀ s' acc,(∀ b o,s.heap.get? b=some o->s'.heap.get? b=some o)->s'.gens=s.gens->s'.drawn=s.drawn->s'.os=s.os->ItemsOf (fun i v => ∃ k x,vs[i]? = some (k,x)/\(de prog w).is k v=true) acc vs.length->s.heap.objs.size<=s'.heap.objs.size->Q acc.toList s'):aI (model prog w) A (collect (.ref d)) Q E s:=by
 have hdl:d < s.heap.objs.size:=hm.lt_size
 let lo:Obj:={ cls := .type "list",data := .seq ([]:List Value).toArray }
 let io:Obj:={ cls := .type "dict_keyiterator",data := .fields #[.ref d,.int 0 0,.int vs.length 0,.int ep 0] }
 have hm1:(s.heap.push lo).DictAt (de prog w) d vs ep:=hm.push lo
 have hT1:Shared.TypeIs { s with heap:=s.heap.push lo } (.ref d) "dict":=hm1.dictOf.typeIs
 unfold collect
 refine ag (Bu (fe nj ?_))
 rw [dh nk _]
 show aI _ A.in1 (newList [] >>= fun l=>again (.builtin "list.__iadd__" ⟨[l,.ref d],[]⟩)) _ _ s
 refine ag (dZ (aK ⟨plainId_quiet fh _,fe tm ?_⟩))
 rw [dh fh _]
 show aI _ A.in1 (nQ (.ref s.heap.objs.size) (.ref d) (.ref s.heap.objs.size)) _ _ _
 unfold nQ
 refine ag (wpAny_typeOf hT1 ?_)
 have hne:pV (.ref s.heap.objs.size) (.ref d)=false:=by simp [pV];exact dA hdl
 rw [if_neg (by rw [hne];decide)]
 refine ag (wpAny_pyIter_dict hS hm1 ?_)
 refine ag (iV ?_)
 unfold Builtin.List.listLengthHint
 have hT2:Shared.TypeIs { s with heap:=(s.heap.push lo).push io } (.ref d) "dict":=(hm1.push io).dictOf.typeIs
 refine ag (wpAny_specialOf hT2 PySem.F.slot_dict_len.lookup ?_)
 generalize hid:("dict.__len__":String)=id0
 wp_delta
 rw [show splitId id0=some ("dict","__len__") from by subst hid;decide +kernel]
 subst hid
 refine ag (wpAny_isInstance (b:=true) hT2 (by rw [isSubtype_type];kernel_rfl) ?_)
 simp only [Bool.not_true,eu,if_false]
 rw [if_pos (by decide +kernel)]
 refine ag (wpAny_typeOf hT2 (aK ?_))
 rw [if_pos (by decide +kernel)]
 refine ag (Bs (ag ?_))
 have hne2:s.heap.objs.size≠(s.heap.push lo).objs.size:=by rw [aW];omega
 have hL1:((s.heap.push lo).push io).get? s.heap.objs.size=some lo:=af _ (ay _ rfl)
 show aI _ A.in1 (updateSeq s.heap.objs.size (·.push .none) >>= fun _=>updateSeq s.heap.objs.size (·.pop)) _ _ _
 refine ag (wpAny_updateSeq hL1 rfl ?_)
 have hL2:=eO (dg (·.push eh)) hL1 rfl
 refine wpAny_updateSeq hL2 rfl ?_
 have hL3:=eO (dg (·.pop)) hL2 rfl
 have oth : ∀ b o,b≠s.heap.objs.size->((s.heap.push lo).push io).get? b=some o->((((s.heap.push lo).push io).update s.heap.objs.size (dg (·.push eh))).update s.heap.objs.size (dg (·.pop))).get? b=some o:=
  fun b o hb e=>(cN _ _ (dH hb)).trans ((cN _ _ (dH hb)).trans e)
 have hI:(s.heap.push lo).objs.size=s.heap.objs.size+1:=aW ..
 have hdI:d≠(s.heap.push lo).objs.size:=by rw [hI];exact bb (dr hdl)
 have W:=(Walks.dictKeys (prog:=prog) (w:=w) (A:=A.in1) (knd:=de prog w) hh (s.heap.push lo).objs.size d hdI vs ep).toS
 have hSf:s.heap.objs.size ∉ [(s.heap.push lo).objs.size,d]:=by
  rw [hI]
  intro z
  rcases aG.mp z with z | z
  ·omega
  ·rw [cx] at z;exact absurd z (dA hdl)
 have it0:((s.heap.push lo).push io).IsKeyIter (s.heap.push lo).objs.size d 0 vs.length ep:=⟨io,ay _ rfl,rfl,rfl⟩
 refine aK ⟨plainId_quiet F.plain_extend_loop _,codeAny_extend_loopS W hn s.heap.objs.size hSf _ vs.length 0 _ _ _ rfl (b9 _) ?_ hL3 (ItemsOf.nil _) fun s' acc' c' hmv hS' hacc => ?_⟩
 ·exact⟨it0.at fun o e=>oth _ o (dH hne2) e,(hm1.push io).at' fun o e=>oth _ o (bb hdl) e⟩
 ·show aI _ A (load s.heap.objs.size >>= _) _ _ s'
  refine ag (Bq hS' (aK (hQ s' acc' (fun b o e => ?_) hmv.gens hmv.drawn hmv.os hacc (di (aw hS')))))
  have hb:b < s.heap.objs.size:=aw e
  refine hmv.heap b o ?_ (oth b o (bb hb) (af _ (af _ e)))
  rw [hI]
  intro z
  rcases aG.mp z with z | z
  ·exact absurd z (bb hb)
  ·rw [cx] at z;exact absurd z (bb (dr hb))
theorem qW : ∀ {l:List Value}{ns:List Int},l.length=ns.length->(∀ (j:Nat) (v:Value),l[j]? = some v -> ∃ i t,ns[j]? = some i/\v = .int i t)->IntsAre l ns
 | [],[],_,_ => .nil
 | [],_::_,h,_=>by simp at h
 | _::_,[],h,_=>by simp at h
 | v::l,n::ns,h,k=>by
   obtain⟨i,t,e,rfl⟩:=k 0 v rfl
   simp at e;subst e
   exact .cons n t (qW (by simpa using h) fun j w hj=>by simpa using k (j+1) w (by simpa using hj))
theorem uT {prog:Program}{w:World}{A:Around}{E:Value->Shared->Prop}{s:Shared}{d:Addr}{vs:List (Key×Value)}{ns:List Int}{Q:Value->Shared->Prop} (hh:A.handled=none) (hS:(d == sysModules)=false) (hm:s.heap.DictOf (de prog w) d vs) (hk:vs.map (·.1)=ns.map dF) (h64:ns.length < 64)
  (h : ∀ (out:Array Value) (ns':List Int) (a:Addr) (e:Nat) (h':Heap) (tk:Nat),IntsAre out.toList ns'->ns'.Perm ns->ns'.Pairwise (· <= ·)->s.heap.objs.size<=a->(∀ b o',s.heap.get? b=some o'->h'.get? b=some o') ->
   h'.get? a=some (seqObj "list" out e)->Q (.ref a) { s with heap:=h',toks:=tk }) :
  aI (model prog w) A (call (.builtin "sorted") [.ref d]) Q E s:=by
 obtain⟨ep,hm⟩:=hm.dictAt
 have hlen:vs.length=ns.length:=by have:=congrArg s9 hk;simpa using this
 refine vv kind_sorted plain_sorted entry_sorted (args_sorted1 _) ?_
 unfold Builtin.«sorted»
 refine ag (m:=checkCount "sorted" 1 1 _) (aK (ag (rC hh hS hm (by rw [hlen,sizeLine_eq];omega) fun s1 acc hk1 hg hdr hos hacc hle => ?_)))
 have hI:IntsAre acc.toList ns:=qW (by rw [<- hlen,<- hacc.1];simp) fun j v hj=>by
  obtain⟨k,x,e,ik⟩:=hacc.2 j v (by simpa using hj)
  have e2:(vs.map (·.1))[j]? = some k:=by rw [bo,e];rfl
  rw [hk,bo] at e2
  cases q:ns[j]? with
  | none=>rw [q] at e2;cases e2
  | some i=>
    rw [q] at e2
    have e3:dF i=k:=bB e2
    subst e3
    rcases dm (show oC (dF i) v=true from ik) with⟨i',t,e4,e5⟩ | ⟨y,t,e4,_⟩
    ·cases e4;exact⟨_,t,rfl,e5⟩
    ·cases e4
 have hal:acc.toList.length < 64:=by rw [iG hI];exact h64
 refine ag (wpAny_newList ?_)
 have hoL:(s1.heap.push (seqObj "list" acc 0)).get? s1.heap.objs.size=some (seqObj "list" acc.toList.toArray 0):=ay _ rfl
 show aI _ _ _ _ _ { s1 with heap:=s1.heap.push (seqObj "list" acc 0) }
 refine ag (iV (fL slot_list_sort ⟨_,hoL,rfl⟩ entry_list_sort (list_sort_tree hoL hI hal fun out ns' a1 a2 a3=>⟨_,rfl,?_⟩) (args_list_sort _)))
 obtain⟨e,he⟩:=sortedHeap_at (out:=out) hoL
 have hq:=h out ns' _ e _ s1.toks a1 a2 a3 hle (fun b o' hb=>by
  have hb1:=hk1 b o' hb
  have hlt:=aw hb1
  rw [sortedHeap_old (bb hlt) (by rw [size_push'];exact dr hlt),Heap.get?_push_ne _ _ _ (bb hlt)]
  exact hb1) he
 rw [<- hg,<- hdr,<- hos] at hq
 exact aK ⟨_,rfl,hq⟩
section
variable {X:Cx}
noncomputable def wO (K:ak):List V->Hp->VK->Prop:=fun xs H Q => ∃ (p:Addr) (ns:List Int),xs = [.ref p]/\((SqL K H p (ns.map V.int)\/SqT K H p (ns.map V.int)) \/ ∃ kvs,H p=some (.dK kvs)/\kvs.map (·.1)=ns.map dF)/\ns.length < 64 /\ ∀ l,H l=none->Q (.ref l) (upd H l (.lst ((nu ns).map V.int)))
theorem BH {kvs:List (Key×V)}{vs:List (Key×Value)} (h:KV kvs vs):vs.map (·.1)=kvs.map (·.1):=by
 induction h with
 | nil=>rfl
 | cons a _ ih=>rw [bz,bz,ih,a.1]
theorem uk (hc:X.calm=true):fN X (.builtin "sorted") (wO X.K):=by
 intro pins s σ H xs us Q I rs h
 obtain⟨p,ns,rfl,hS,h64,q⟩:=h
 cases rs with
 | cons r1 rr=>
   cases rr
   cases (show _=be p from r1)
   have fin : ∀ (out:Array Value) (ns':List Int) (a:Addr) (e:Nat) (h':Heap) (tk:Nat),IntsAre out.toList ns'->ns'.Perm ns->ns'.Pairwise (· <= ·)->s.heap.objs.size<=a->(∀ b o',s.heap.get? b=some o'->h'.get? b=some o') ->
    h'.get? a=some (seqObj "list" out e)->EP X pins σ Q (.ref a) { s with heap:=h',toks:=tk }:=by
    intro out ns' a e h' tk a1 a2 a3 hle hk he
    have e':=tS a2 a3
    subst e'
    refine⟨.ref a,_,I.laid (t':=tk) (o := .lst ((nu ns).map V.int)) hk hle ?_,rfl,q _ (I.hok.fresh hle)⟩
    refine⟨by rw [aq,(hW ns).length_eq,sizeLine_eq];omega,out.toList,e,mS a1,?_⟩
    rw [he]
   rcases hS with (hS | hS) | ⟨kvs,hp,hks⟩
   ·obtain⟨its,rv,pl,_⟩:=I.list hS
    have hl:=pl.isList
    obtain⟨o,ho,hc,n,hd⟩:=hl
    have hI:=intsAre_of rv
    exact pG (.inl rfl) ho hc hd hI (by rw [iG hI];exact h64) fun out ns' a e h'=>fin out ns' a e h' s.toks
   ·obtain⟨its,rv,pl,_⟩:=I.tuple hS
    obtain⟨o,ho,hc,n,hd⟩:=pl
    have hI:=intsAre_of rv
    exact pG (.inr rfl) ho hc hd hI (by rw [iG hI];exact h64) fun out ns' a e h'=>fin out ns' a e h' s.toks
   ·obtain⟨_,hsm,vs,rel,dd⟩:=(show dz X.prog X.w H s.heap p (.dK kvs) from I.hok p _ hp)
    exact uT (I.ok.hd hc) hsm dd (by rw [BH rel];exact hks) h64 fin
end
section
variable {K:KX}
theorem o6 {H:Hp}{μ:List Addr} : ∀ ns:List Int,RUs H μ (ns.map U.int) (ns.map V.int)
 | [] => .nil
 | n::ns => .cons d7 (o6 ns)
theorem wI : ∀ {kvs:List (Key×U)}{vs:List V},kvs.length=vs.length->(dV kvs vs).map (·.1)=kvs.map (·.1)
 | [],_,_=>rfl
 | _::_,[],h=>by simp at h
 | kv::kvs,v::vs,h=>by
   show kv.1::(dV kvs vs).map (·.1)=kv.1::kvs.map (·.1)
   rw [wI (by simpa using h)]
theorem qE : ∀ {kvs:List (Key×U)}{ns:List Int},cQ ll kvs=some ns->kvs.map (·.1)=ns.map dF
 | [],ns,h=>by cases h;rfl
 | (k,u)::kvs,ns,h=>by
   unfold cQ at h
   cases k with
   | inr x=>cases h
   | inl i=>
     simp only [ll,ah] at h
     cases q:cQ ll kvs with
     | none=>rw [q] at h;cases h
     | some ms=>
       rw [q] at h;cases h
       rw [bz,qE q];rfl
theorem yh:oP K (wO K) dR:=by
 intro μ S H us vs u S' Q hr rs e a
 unfold dR at e
 split at e
 ·rename_i x
  obtain⟨v,r,rfl,rx,rn⟩:=rs.inv
  rw [rn.nil_inv]
  cases q:qH S x with
  | none=>rw [q] at e;cases e
  | some ns=>
    rw [q] at e;simp only [ah] at e
    split at e
    rotate_left
    ·cases e
    rename_i hc
    cases e
    unfold qH at q
    split at q
    ·rename_i kvs qd
     obtain⟨p,ws,rfl,hp,r'⟩:=hr.dic rx qd
     have hl:kvs.length=ws.length:=by have:=r'.len;rwa [aq] at this
     exact⟨p,ns,rfl,.inr ⟨_,hp,by rw [wI hl];exact qE q⟩,hc,fun l hl=>ky a hr (o6 _) hl⟩
    ·cases q1:dO S x with
     | none=>rw [q1] at q;cases q
     | some ws=>
       rw [q1] at q
       obtain⟨p,ys,rfl,hs,r'⟩:=hr.seq rx q1
       rw [wB r' q] at hs
       exact⟨p,ns,rfl,.inl hs,hc,fun l hl=>ky a hr (o6 _) hl⟩
 ·cases e
end
section
variable {X:Cx}
end
section
variable {K:KX}
end
end
end G
end
section
namespace G
open PySem PySem.Spec L2
open PyProof.Rows hiding St
section
noncomputable def JR (n m:Nat):Prop:=n < 4000/\m < 64
noncomputable instance (n m:Nat):Decidable (JR n m):=bO _
end
end G
end
section
namespace G
open PySem PySem.Spec L2
open PyProof.Rows hiding St
section
section
variable {prog:Program}{w:World}{A:Around}{E:Value->Shared->Prop}{s:Shared}
end
section
variable {X:Cx}{e:Expr}{te:TE}{pos p2 p3 p4:Pos}{j:Nat}
end
section
variable {K:KX}{σ:St}{H:Hp}{Q:VK}
end
end
end G
end
section
namespace G
open PySem PySem.Spec L2
open PyProof.Rows hiding St
section
noncomputable def jC:ME:=fun _ S=>some (.ref S.length,S ++ [.dic []])
noncomputable def pE (k v:ME):ME:=fun ρ S=>bnd (k ρ (S ++ [.dic []])) fun x S1=>bnd (v ρ S1) fun y S2=>(keyOf x).bind fun kk=>match S2[S.length]? with
 | some (.dic [])=>some (.ref S.length,S2.set S.length (.dic [(kk,y)]))
 | _=>none
section
variable {K:KX}{σ:St}{H:Hp}{Q:VK}
theorem w9 {μ:List Addr}{S:Sto}{p:Addr} (hr:HR K μ S H) (hp:H p=none):HR K (μ ++ [p]) (S ++ [.dic []]) (upd H p (.dK [])):=
 hr.newC hp rfl ⟨[],bS,.nil⟩
theorem xy {μ:List Addr}{S:Sto}{p:Addr} (hr:HR K μ S H):(μ ++ [p])[S.length]? = some p:=by
 rw [<- hr.len,av (aj _)];simp
theorem EM (h:tM K jC σ H Q):A5 σ H Q:=by
 obtain⟨μ,S,ρ,u,S',hr,er,e,k⟩:=h
 cases e
 intro p hp
 exact k (μ ++ [p]) _ _ ⟨[p],rfl⟩ (bj.new hp) (w9 hr hp) (oZ (xy hr))
theorem Gg {a b:ME} (h:tM K (pE a b) σ H Q):DL [(tM K a,tM K b)] σ H Q:=by
 obtain⟨μ,S,ρ,u,S',hr,er,e,k⟩:=h
 intro p hp
 obtain⟨x,S1,e1,e⟩:=aZ e
 obtain⟨y,S2,e2,e⟩:=aZ e
 have pre:Pre μ (μ ++ [p]):=⟨[p],rfl⟩
 refine⟨μ ++ [p],S ++ [.dic []],ρ,x,S1,w9 hr hp,er.mono (bj.new hp) pre,e1,fun μ1 vx H1 p1 k1 hr1 rx => ?_⟩
 refine⟨μ1,S1,ρ,y,S2,hr1,er.mono ((bj.new hp).trans k1) (pre.trans p1),e2,fun μ2 vy H2 p2 k2 hr2 ry => ?_⟩
 cases qk:keyOf x with
 | none=>rw [qk] at e;cases e
 | some kk=>
   rw [qk] at e
   simp only [ah] at e
   split at e
   ·rename_i q
    cases e
    have hm:=p2.get (p1.get (xy hr (p:=p)))
    obtain⟨vs,e0,r0⟩:=hr2.cell _ _ p q hm
    have hv:vs = []:=r0.nil_inv
    subst hv
    have kw:bj H2 (upd H2 p (.dK (m6 [] [(kk,vy)]))):=bj.wrG e0 fun _ z=>by cases z
    refine⟨e0,[(kk,vy)],?_,by simp,?_⟩
    ·rw [lW (RU.mono k2 p2 _ _ rx) qk];rfl
    ·refine k μ2 _ _ (pre.trans (p1.trans p2)) ((bj.new hp).trans (k1.trans (k2.trans kw))) (hr2.wrC q hm rfl rfl ⟨[vy],by rw [bS];rfl,.cons (RU.mono kw (Pre.refl _) _ _ ry) .nil⟩) (oZ hm)
   ·cases e
noncomputable def Hx (i:Int):Prop:=i.natAbs.log2 < 1920
noncomputable instance (i:Int):Decidable (Hx i):=bO _
end
end
end G
end
section
namespace G
open PySem PySem.Spec L2
open PyProof.Rows hiding St
section
abbrev MG:=U->Rho->Sto->Option (Rho×Sto)
abbrev MGs:=List U->Rho->Sto->Option (Rho×Sto)
noncomputable def gN (i:Nat):MG:=fun u ρ S=>some (ρ.set i (some u),S)
noncomputable def gSb (o i:ME):MG:=fun x ρ S=>bnd (o ρ S) fun p S2=>bnd (i ρ S2) fun j S3=>match p with
 | .ref n=>match S3[n]? with
   | some (.lst us)=>(match j with
     | .int k=>(L2.ixN us.length k).map fun m=>(ρ,S3.set n (.lst (us.set m x)))
     | _=>none)
   | some (.dic kvs)=>(keyOf j).bind fun k=>if kvs.length < big then some (ρ,S3.set n (.dic (iT kvs k x))) else none
   | _=>none
 | _=>none
noncomputable def kT:MGs:=fun us ρ S=>match us with
 | []=>some (ρ,S)
 | _=>none
noncomputable def dM (g:MG) (r:MGs):MGs:=fun us ρ S=>match us with
 | []=>none
 | u::us=>(g u ρ S).bind fun p=>r us p.1 p.2
noncomputable def gTp (n:Nat) (gs:MGs):MG:=fun u ρ S=>match u with
 | .tup us=>if us.length=n then gs us ρ S else none
 | _=>none
noncomputable def yb (e:ME) (g:MG):MS:=fun ρ S=>bnd (e ρ S) fun x S1=>(g x ρ S1).map fun p=>(.nx,p.1,p.2)
noncomputable def tG (K:KX) (g:MG):TG:=fun v σ H Q => ∃ μ S ρ u r,HR K μ S H/\ER H μ ρ σ/\RU H μ u v/\g u ρ S=some r /\ ∀ μ' σ' H',Pre μ μ'->bj H H'->HR K μ' r.2 H'->ER H' μ' r.1 σ'->Q σ' H'
noncomputable def tGs (K:KX) (g:MGs):TGs:=fun vs σ H Q => ∃ μ S ρ us r,HR K μ S H/\ER H μ ρ σ/\RUs H μ us vs/\g us ρ S=some r /\ ∀ μ' σ' H',Pre μ μ'->bj H H'->HR K μ' r.2 H'->ER H' μ' r.1 σ'->Q σ' H'
theorem PG.con {X:Cx}{tg:Expr}{t u:TG} (h:PG X tg t) (k : ∀ v σ H Q,u v σ H Q->t v σ H Q):PG X tg u:=fun pins s σ H v w Q I r q=>h pins s σ H v w Q I r (k _ _ _ _ q)
theorem PGs.con {X:Cx}{tg:List Expr}{t u:TGs} (h:PGs X tg t) (k : ∀ v σ H Q,u v σ H Q->t v σ H Q):PGs X tg u:=fun pins s σ H v w Q I r q=>h pins s σ H v w Q I r (k _ _ _ _ q)
section
variable {K:KX}{σ:St}{H:Hp}{Q:St->Hp->Prop}{v:V}{D:Ends}
theorem Km {i:Nat} (h:tG K (gN i) v σ H Q):ix i v σ H Q:=by
 obtain⟨μ,S,ρ,u,r,hr,er,ru,e,k⟩:=h
 cases e
 exact k μ _ H (Pre.refl _) (bj.refl _) hr (er.set ru i)
theorem Hy {o i:ME} (h:tG K (gSb o i) v σ H Q):GA (tM K o) (tM K i) Ae v σ H Q:=by
 obtain⟨μ,S,ρ,x,r,hr,er,rx,e,k⟩:=h
 obtain⟨p,S2,e2,e⟩:=aZ e
 obtain⟨j,S3,e3,e⟩:=aZ e
 refine⟨μ,S,ρ,_,S2,hr,er,e2,fun μ2 vo H2 p2 k2 hr2 ro => ?_⟩
 refine⟨μ2,S2,ρ,_,S3,hr2,er.mono k2 p2,e3,fun μ3 vi H3 p3 k3 hr3 ri => ?_⟩
 have rx3:RU H3 μ3 x v:=RU.mono (k2.trans k3) (p2.trans p3) _ _ rx
 split at e
 ·rename_i n _
  obtain⟨a,rfl,ha⟩:=dW ro
  have ha3:=p3.get ha
  split at e
  ·rename_i us q
   split at e
   rotate_left
   ·cases e
   rename_i kk
   cases z:ixN us.length kk with
   | none=>rw [z] at e;cases e
   | some m'=>
     rw [z] at e;cases e
     obtain⟨vs,e0,r0⟩:=hr3.cell n _ a q ha3
     refine .inl ⟨a,vs,kk,m',rfl,b0 ri,e0,by rw [<- r0.len];exact z,?_⟩
     have kw:bj H3 (upd H3 a (.lst (vs.set m' v))):=bj.wr e0
     exact k μ3 _ _ (p2.trans p3) (k2.trans (k3.trans kw)) (hr3.wr q ha3 (r0.set rx3 m')) (er.mono (k2.trans (k3.trans kw)) (p2.trans p3))
  ·rename_i kvs q
   cases qk:keyOf j with
   | none=>rw [qk] at e;cases e
   | some kk=>
     rw [qk] at e
     simp only [ah] at e
     split at e
     ·rename_i hz
      cases e
      obtain⟨vs,e0,r0⟩:=hr3.cell n _ a q ha3
      have hl:kvs.length=vs.length:=by have:=r0.len;rwa [aq] at this
      obtain⟨ws,ew,rw'⟩:=wM (k:=kk) rx3 r0
      have kw:bj H3 (upd H3 a (.dK (putK (dV kvs vs) kk v))):=bj.wrG e0 fun _ z=>by cases z
      refine .inr ⟨a,_,rfl,.inl ⟨_,kk,e0,lW ri qk,by rw [vR hl,sizeLine_eq];exact hz,rfl⟩,?_⟩
      exact k μ3 _ _ (p2.trans p3) (k2.trans (k3.trans kw)) (hr3.wrC q ha3 rfl rfl ⟨ws,by rw [ew];exact bS,RUs.mono kw (Pre.refl _) _ _ rw'⟩) (er.mono (k2.trans (k3.trans kw)) (p2.trans p3))
     ·cases e
  ·cases e
 ·cases e
theorem Ff {vs:List V} (h:tGs K kT vs σ H Q):IS vs σ H Q:=by
 obtain⟨μ,S,ρ,us,r,hr,er,rs,e,k⟩:=h
 cases us with
 | nil=>cases e;exact⟨rs.nil_inv,k μ _ H (Pre.refl _) (bj.refl _) hr er⟩
 | cons u us=>cases e
theorem B8 {g:MG}{gs:MGs}{vs:List V} (h:tGs K (dM g gs) vs σ H Q):DH (tG K g) (tGs K gs) vs σ H Q:=by
 obtain⟨μ,S,ρ,us,r,hr,er,rs,e,k⟩:=h
 cases us with
 | nil=>cases e
 | cons u us=>
   obtain⟨v,vr,rfl,ra,rb⟩:=rs.inv
   cases q:g u ρ S with
   | none=>rw [show dM g gs (u::us) ρ S=(g u ρ S).bind fun p=>gs us p.1 p.2 from rfl,q] at e;cases e
   | some p=>
     rw [show dM g gs (u::us) ρ S=(g u ρ S).bind fun p=>gs us p.1 p.2 from rfl,q] at e
     refine⟨v,vr,rfl,μ,S,ρ,u,p,hr,er,ra,q,fun μ1 σ1 H1 p1 k1 hr1 er1 => ?_⟩
     exact⟨μ1,p.2,p.1,us,r,hr1,er1,RUs.mono k1 p1 _ _ rb,e,fun μ2 σ2 H2 p2 k2=>k μ2 σ2 H2 (p1.trans p2) (k1.trans k2)⟩
theorem Il {n:Nat}{gs:MGs} (h:tG K (gTp n gs) v σ H Q):Hq K n (tGs K gs) v σ H Q:=by
 obtain⟨μ,S,ρ,u,r,hr,er,ru,e,k⟩:=h
 unfold gTp at e
 split at e
 ·rename_i us
  split at e
  ·rename_i hl
   obtain⟨a,vs,rfl,ha,rs⟩:=gS ru
   exact⟨a,vs,rfl,.inl (.inl ha),by rw [<- rs.len];exact hl,μ,S,ρ,us,r,hr,er,rs,e,k⟩
  ·cases e
 ·cases e
theorem Ij {m:ME}{g:MG} (h:tMS K (yb m g) D σ H):yz (tM K m) (tG K g) D σ H:=by
 obtain⟨μ,S,ρ,r,hr,er,e,k⟩:=h
 obtain⟨x,S1,e1,e⟩:=aZ e
 cases q:g x ρ S1 with
 | none=>rw [q] at e;cases e
 | some p=>
   rw [q] at e;cases e
   exact⟨μ,S,ρ,x,S1,hr,er,e1,fun μ1 vx H1 p1 k1 hr1 rx=>⟨μ1,S1,ρ,x,p,hr1,er.mono k1 p1,rx,q,fun μ2 σ2 H2 p2 k2 hr2 er2=>k μ2 σ2 H2 (p1.trans p2) (k1.trans k2) hr2 er2⟩⟩
end
theorem tQ {a b c d:Expr}{p1 p2 p p3:Pos}{k k2:Nat}{vs:List Expr}{env:Env}:swappedStores [.Tuple [.Subscript a b p1,.Subscript c d p2] k p] (.Tuple vs k2 p3) env=pure none:=by
 unfold swappedStores
 simp only [List.filterMap_cons_none,List.filterMap_nil]
 split
 ·rfl
 ·split
  ·rfl
  ·rfl
end
end G
end
section
namespace G
open PySem PySem.Spec L2
open PyProof.Rows hiding St
section
noncomputable def ud (g:MG) (b:MS):List U->MS
 | [],ρ,S=>some (.nx,ρ,S)
 | x::xs,ρ,S=>(g x ρ S).bind fun p=>aft (b p.1 p.2) (ud g b xs)
noncomputable def qB (g:MG) (b:MS) (n:Nat):Nat->Nat->MS
 | 0,_,_,_=>none
 | f+1,k,ρ,S=>(getL S n).bind fun us=>match us[k]? with
   | none=>some (.nx,ρ,S)
   | some x=>(g x ρ S).bind fun p=>aft (b p.1 p.2) (qB g b n f (k+1))
noncomputable def Ei (g:MG) (b:MS) (n:Nat):Nat->Nat->MS
 | 0,_,_,_=>none
 | f+1,k,ρ,S=>(getL S n).bind fun us=>match us[k]? with
   | none=>some (.nx,ρ,S)
   | some x=>(g (.tup [.int k,x]) ρ S).bind fun p=>aft (b p.1 p.2) (Ei g b n f (k+1))
noncomputable def nC (g:MG) (b:MS) (n:Nat) (us:List U):Nat->Nat->MS
 | 0,_,_,_=>none
 | f+1,k,ρ,S=>(getL S n).bind fun xs=>match xs[k]? with
   | none=>some (.nx,ρ,S)
   | some x=>match us[k]? with
     | none=>some (.nx,ρ,S)
     | some y=>(g (.tup [x,y]) ρ S).bind fun p=>aft (b p.1 p.2) (nC g b n us f (k+1))
noncomputable def HM (g:MG) (b:MS):Src->MS
 | .imm us=>ud g b us
 | .mut n=>qB g b n fuel 0
 | .enl n=>Ei g b n fuel 0
 | .zlt n us=>nC g b n us fuel 0
noncomputable def kU (g:MG) (it:MI) (b:MS):MS:=fun ρ S=>bnd (it ρ S) fun src S1=>HM g b src ρ S1
section
variable {K:KX}{σ:St}{H:Hp}{Q:VK}{D:Ends}
theorem oT {g:MG}{b:MS}{ρ:Rho}{S:Sto}{x:U}{v:V}{μ μ0:List Addr}{H0:Hp}{k:MS}{r:Fl×Rho×Sto}{N:St->Hp->Prop} (hr:HR K μ S H) (er:ER H μ ρ σ) (rx:RU H μ x v) (e:((g x ρ S).bind fun p=>aft (b p.1 p.2) k)=some r) (p:Pre μ0 μ) (kp:bj H0 H) (fl:FlP K μ0 H0 D r)
  (hN : ∀ μ1 σ1 H1 ρ1 S1,Pre μ0 μ1->bj H0 H1->HR K μ1 S1 H1->ER H1 μ1 ρ1 σ1->k ρ1 S1=some r->N σ1 H1):tG K g v σ H fun σ2 H2=>tMS K b { D with nx:=N,ct:=N,bk:=D.nx } σ2 H2:=by
 cases q:g x ρ S with
 | none=>rw [q] at e;cases e
 | some y=>
   rw [q] at e
   exact⟨μ,S,ρ,x,y,hr,er,rx,q,fun μ1 σ1 H1 p1 k1 hr1 er1=>lS hr1 er1 e (p.trans p1) (kp.trans k1) fl hN⟩
theorem Dr {g:MG}{b:MS}{us:List U}{vs:List V}{ρ:Rho}{S:Sto}{μ:List Addr}{a:Addr}{r:Fl×Rho×Sto} (hr:HR K μ S H) (er:ER H μ ρ σ) (e:ud g b us ρ S=some r) (fl:FlP K μ H D r) (ha:H a=some (.tup vs)) (ru:RUs H μ us vs) :
  ∃ W:Nat->Nat->St->Hp->Prop,(∃ m,W 0 m σ H) /\ ∀ k m σ H,W k m σ H ->
   ((Itt K a).stop k H/\D.nx σ H)\/((Itt K a).go k H /\ ∃ N:St->Hp->Prop,(∀ σ' H',N σ' H' -> ∃ m',m' < m/\W (k+1) m' σ' H') /\ ∀ x H',(Itt K a).yld k H x H'->tG K g x σ H' fun σ2 H2=>tMS K b { D with nx:=N,ct:=N,bk:=D.nx } σ2 H2):=by
 refine⟨fun k m σ1 H1=>m+k=us.length /\ ∃ μ1 S1 ρ1,Pre μ μ1/\bj H H1/\HR K μ1 S1 H1/\ER H1 μ1 ρ1 σ1/\ud g b (us.drop k) ρ1 S1=some r,⟨us.length,rfl,μ,S,ρ,Pre.refl _,bj.refl _,hr,er,e⟩,?_⟩
 rintro k m σ1 H1 ⟨hm,μ1,S1,ρ1,p1,k1,hr1,er1,e1⟩
 have hq:SqT K H1 a vs := .inl (.inl (k1 a vs ha))
 cases m with
 | zero=>
   have hk:k=us.length:=by omega
   subst hk
   rw [rq] at e1
   cases e1
   exact .inl ⟨⟨vs,hq,by rw [ru.len];exact aj _⟩,fl μ1 σ1 H1 p1 k1 hr1 er1⟩
 | succ m=>
   have hk:k < us.length:=by omega
   have hu:us[k]? = some us[k]:=by simp [hk]
   obtain⟨v,hv,rv⟩:=ru.get hu
   rw [drop_cons hu] at e1
   refine .inr ⟨⟨vs,v,hq,hv⟩,fun σ2 H2 => ∃ μ2 S2 ρ2,Pre μ μ2/\bj H H2/\HR K μ2 S2 H2/\ER H2 μ2 ρ2 σ2/\ud g b (us.drop (k+1)) ρ2 S2=some r,fun σ' H' w=>⟨m,cg _,by omega,w⟩,fun x H' y => ?_⟩
   obtain⟨e',y⟩:=y
   subst e'
   have hx:=y vs hq
   rw [hv] at hx;cases hx
   exact oT hr1 er1 (RU.mono k1 p1 _ _ rv) e1 p1 k1 fl fun μ2 σ2 H2 ρ2 S2 p2 k2 hr2 er2 e2=>⟨μ2,S2,ρ2,p2,k2,hr2,er2,e2⟩
theorem CB {g:MG}{b:MS}{n f:Nat}{ρ:Rho}{S:Sto}{μ:List Addr}{a:Addr}{r:Fl×Rho×Sto} (hr:HR K μ S H) (er:ER H μ ρ σ) (e:qB g b n f 0 ρ S=some r) (fl:FlP K μ H D r) (ha:μ[n]? = some a) :
  ∃ W:Nat->Nat->St->Hp->Prop,(∃ m,W 0 m σ H) /\ ∀ k m σ H,W k m σ H ->
   ((Itl K a).stop k H/\D.nx σ H)\/((Itl K a).go k H /\ ∃ N:St->Hp->Prop,(∀ σ' H',N σ' H' -> ∃ m',m' < m/\W (k+1) m' σ' H') /\ ∀ x H',(Itl K a).yld k H x H'->tG K g x σ H' fun σ2 H2=>tMS K b { D with nx:=N,ct:=N,bk:=D.nx } σ2 H2):=by
 refine⟨fun k m σ1 H1 => ∃ μ1 S1 ρ1,Pre μ μ1/\bj H H1/\HR K μ1 S1 H1/\ER H1 μ1 ρ1 σ1/\qB g b n m k ρ1 S1=some r,⟨f,μ,S,ρ,Pre.refl _,bj.refl _,hr,er,e⟩,?_⟩
 rintro k m σ1 H1 ⟨μ1,S1,ρ1,p1,k1,hr1,er1,e1⟩
 cases m with
 | zero=>cases e1
 | succ m=>
   unfold qB at e1
   cases q:getL S1 n with
   | none=>rw [q] at e1;cases e1
   | some us=>
     rw [q] at e1
     simp only [ah] at e1
     obtain⟨a',vs,ha',hs,rs⟩:=hr1.sq q
     rw [p1.get ha] at ha';cases ha'
     cases z:us[k]? with
     | none=>
       rw [z] at e1
       cases e1
       refine .inl ⟨⟨vs,hs,?_⟩,fl μ1 σ1 H1 p1 k1 hr1 er1⟩
       rw [<- rs.len];exact cX.mp z
     | some u=>
       rw [z] at e1
       obtain⟨v,hv,rv⟩:=rs.get z
       refine .inr ⟨⟨vs,v,hs,hv⟩,fun σ2 H2 => ∃ μ2 S2 ρ2,Pre μ μ2/\bj H H2/\HR K μ2 S2 H2/\ER H2 μ2 ρ2 σ2/\qB g b n m (k+1) ρ2 S2=some r,fun σ' H' w=>⟨m,cg _,w⟩,fun x H' y => ?_⟩
       obtain⟨e',y⟩:=y
       subst e'
       have hx:=y vs hs
       rw [hv] at hx;cases hx
       exact oT hr1 er1 rv e1 p1 k1 fl fun μ2 σ2 H2 ρ2 S2 p2 k2 hr2 er2 e2=>⟨μ2,S2,ρ2,p2,k2,hr2,er2,e2⟩
theorem Ed {g:MG}{a:ME}{b:MS} (h:tMS K (kU g (cM a) b) D σ H):qc (fun σ H R=>q9 K (tM K a) σ H R\/yu K (tM K a) σ H R) (tG K g) (tMS K b) D σ H:=by
 obtain⟨μ,S,ρ,r,hr,er,e,fl⟩:=h
 obtain⟨src,S1,e1,e⟩:=aZ e
 refine vG hr er e1 (fun μ1 H1 us p vs p1 k1 hr1 hs hp rs => ?_) fun μ1 H1 n p p1 k1 hr1 hs hp => ?_
 ·subst hs
  exact Dr hr1 (er.mono k1 p1) e (fl.mono p1 k1) hp rs
 ·subst hs
  exact CB hr1 (er.mono k1 p1) e (fl.mono p1 k1) hp
theorem Ek {a:MA}{R:It->Hp->Prop}{μ:List Addr}{S S1:Sto}{ρ:Rho}{src:Src} (hr:HR K μ S H) (er:ER H μ ρ σ) (e:rA a ρ S=some (src,S1))
  (hR : ∀ μ1 H1 n us p q vs,Pre μ μ1->bj H H1->HR K μ1 S1 H1->src = .zlt n us->μ1[n]? = some p->H1 q=some (.tup vs)->RUs H1 μ1 us vs->R (Itz K p q) H1):xf K (tMA K a) σ H R:=by
 obtain⟨xs,S2,e1,e⟩:=aZ e
 split at e
 ·rename_i n us
  cases q:getL S2 n with
  | none=>rw [q] at e;cases e
  | some ws=>
    rw [q] at e
    simp only [aT,dB,Prod.mk.injEq] at e
    obtain⟨e2,e3⟩:=e
    subst e3
    refine⟨μ,S,ρ,_,_,hr,er,e1,fun μ1 vs H1 p1 k1 hr1 rs => ?_⟩
    obtain⟨v,r,rfl,rx,rn⟩:=rs.inv
    obtain⟨v2,r2,rfl,ry,rn2⟩:=rn.inv
    rw [rn2.nil_inv]
    obtain⟨p,rfl,hp⟩:=dW rx
    obtain⟨p2,vs,rfl,hp2,r⟩:=gS ry
    obtain⟨a',zs,ha',hs,_⟩:=hr1.sq q
    rw [hp] at ha';cases ha'
    exact⟨p,p2,zs,vs,rfl,hs,.inl (.inl hp2),hR μ1 H1 n us p p2 vs p1 k1 hr1 e2.symm hp hp2 r⟩
 ·cases e
theorem CC {g:MG}{b:MS}{n f:Nat}{us:List U}{vs:List V}{ρ:Rho}{S:Sto}{μ:List Addr}{a c:Addr}{r:Fl×Rho×Sto} (hr:HR K μ S H) (er:ER H μ ρ σ) (e:nC g b n us f 0 ρ S=some r) (fl:FlP K μ H D r) (ha:μ[n]? = some a) (hc:H c=some (.tup vs)) (ru:RUs H μ us vs) :
  ∃ W:Nat->Nat->St->Hp->Prop,(∃ m,W 0 m σ H) /\ ∀ k m σ H,W k m σ H ->
   ((Itz K a c).stop k H/\D.nx σ H)\/((Itz K a c).go k H /\ ∃ N:St->Hp->Prop,(∀ σ' H',N σ' H' -> ∃ m',m' < m/\W (k+1) m' σ' H') /\ ∀ x H',(Itz K a c).yld k H x H'->tG K g x σ H' fun σ2 H2=>tMS K b { D with nx:=N,ct:=N,bk:=D.nx } σ2 H2):=by
 refine⟨fun k m σ1 H1 => ∃ μ1 S1 ρ1,Pre μ μ1/\bj H H1/\HR K μ1 S1 H1/\ER H1 μ1 ρ1 σ1/\nC g b n us m k ρ1 S1=some r,⟨f,μ,S,ρ,Pre.refl _,bj.refl _,hr,er,e⟩,?_⟩
 rintro k m σ1 H1 ⟨μ1,S1,ρ1,p1,k1,hr1,er1,e1⟩
 have hq:SqT K H1 c vs := .inl (.inl (k1 c vs hc))
 cases m with
 | zero=>cases e1
 | succ m=>
   unfold nC at e1
   cases q:getL S1 n with
   | none=>rw [q] at e1;cases e1
   | some xs=>
     rw [q] at e1
     simp only [ah] at e1
     obtain⟨a',ws,ha',hs,rs⟩:=hr1.sq q
     rw [p1.get ha] at ha';cases ha'
     cases z:xs[k]? with
     | none=>
       rw [z] at e1
       cases e1
       refine .inl ⟨⟨ws,vs,hs,hq,.inl ?_⟩,fl μ1 σ1 H1 p1 k1 hr1 er1⟩
       rw [<- rs.len];exact cX.mp z
     | some u=>
       rw [z] at e1
       obtain⟨v,hv,rv⟩:=rs.get z
       cases z2:us[k]? with
       | none=>
         simp only [z2] at e1
         cases e1
         refine .inl ⟨⟨ws,vs,hs,hq,.inr ?_⟩,fl μ1 σ1 H1 p1 k1 hr1 er1⟩
         rw [<- ru.len];exact cX.mp z2
       | some y=>
         simp only [z2] at e1
         obtain⟨v2,hv2,rv2⟩:=ru.get z2
         refine .inr ⟨⟨ws,v,vs,v2,hs,hv,hq,hv2⟩,fun σ2 H2 => ∃ μ2 S2 ρ2,Pre μ μ2/\bj H H2/\HR K μ2 S2 H2/\ER H2 μ2 ρ2 σ2/\nC g b n us m (k+1) ρ2 S2=some r,fun σ' H' w=>⟨m,cg _,w⟩,fun x H' yl => ?_⟩
         obtain⟨T,w1,w2,hy1,hy2,hT,rfl,rfl⟩:=yl
         have hyk:=hy1 ws hs
         rw [hv] at hyk;cases hyk
         have hyk2:=hy2 vs hq
         rw [hv2] at hyk2;cases hyk2
         have kp:bj H1 (upd H1 T (.tup [v,v2])):=bj.new hT
         have rx:RU (upd H1 T (.tup [v,v2])) μ1 (.tup [u,y]) (.ref T):=iQ bS (.cons (RU.mono kp (Pre.refl _) _ _ rv) (.cons (RU.mono (k1.trans kp) p1 _ _ rv2) .nil))
         exact oT (hr1.tup hT) (er1.mono kp (Pre.refl _)) rx e1 p1 (k1.trans kp) fl fun μ2 σ2 H2 ρ2 S2 p2 k2 hr2 er2 e2=>⟨μ2,S2,ρ2,p2,k2,hr2,er2,e2⟩
theorem Hb {g:MG}{a:MA}{b:MS} (h:tMS K (kU g (rA a) b) D σ H):qc (xf K (tMA K a)) (tG K g) (tMS K b) D σ H:=by
 obtain⟨μ,S,ρ,r,hr,er,e,fl⟩:=h
 obtain⟨src,S1,e1,e⟩:=aZ e
 refine Ek hr er e1 fun μ1 H1 n us p q vs p1 k1 hr1 hs hp hq rs => ?_
 subst hs
 exact CC hr1 (er.mono k1 p1) e (fl.mono p1 k1) hp hq rs
end
end
end G
end
section
namespace G
open PySem PySem.Spec L2
open PyProof.Rows hiding St
section
section
variable {K:KX}{σ:St}{H:Hp}{Q:VK}
end
end
end G
end
section
namespace G
open PySem PySem.Spec L2
open PyProof.Rows hiding St
section
section
variable {prog:Program}{w:World}{A:Around}{E:Value->Shared->Prop}{s:Shared}
theorem qf {Q:List Value->Shared->Prop}{r:Addr}{a b c:Int}{t u v:Tok}{n:Nat} (hh:A.handled=none) (hr:IsRange s.heap r a b c t u v) (hsmall:kn a b c=true)
  (hn:cY a b c=n) (hlen:n<=2 ^ 24)
  (hQ : ∀ (h':Heap) (tk:Nat) (acc:Array Value),(∀ b o,s.heap.get? b=some o->h'.get? b=some o)->s.heap.objs.size<=h'.objs.size->ItemsOf (fun i v => ∃ t,v = .int (a+i*c) t) acc n->Q acc.toList { s with heap:=h',toks:=tk }) :
  aI (model prog w) A (collect (.ref r)) Q E s:=by
 unfold collect
 refine ag (Bu (fe nj ?_))
 rw [dh nk _]
 show aI _ A.in1 (newList [] >>= fun l=>again (.builtin "list.__iadd__" ⟨[l,.ref r],[]⟩)) _ _ s
 refine ag (dZ (aK ⟨plainId_quiet fh _,fe tm ?_⟩))
 rw [dh fh _]
 have hS:(s.heap.push { cls := .type "list",data := .seq ([]:List Value).toArray }).get? s.heap.objs.size=some { cls := .type "list",data := .seq #[] 0 }:=ay _ rfl
 have lt : ∀ b o,s.heap.get? b=some o->b≠s.heap.objs.size:=fun b o e=>bb (aw e)
 refine cf (wpAny_extend_range (A:=A) (R:=fun x s' => ∃ h' tk acc c',x = .ok (.ret (.ref s.heap.objs.size))/\s'={ s with heap:=h',toks:=tk }/\(∀ b o,s.heap.get? b=some o->h'.get? b=some o) /\
   h'.get? s.heap.objs.size=some { cls := .type "list",dict:=none,data := .seq acc c',slots := #[] }/\ItemsOf (fun i v => ∃ t,v = .int (a+i*c) t) acc n)
  (s:={ s with heap:=s.heap.push { cls := .type "list",data := .seq ([]:List Value).toArray } }) hh (af _ hr) hsmall hn hlen s.heap.objs.size (.ref s.heap.objs.size) 0 hS
  fun h' tk acc c' hk hS' hacc=>⟨h',tk,acc,c',rfl,rfl,fun b o e=>hk b o (lt b o e) (af _ e),hS',hacc⟩) (fun fin s' h => ?_) (fun e s' h=>by obtain⟨_,_,_,_,h,_⟩:=h;cases h)
 have fin' : ∀ x s',(∃ h' tk acc c',x=(.ok (.ret (.ref s.heap.objs.size)):Result)/\s'={ s with heap:=h',toks:=tk }/\(∀ b o,s.heap.get? b=some o->h'.get? b=some o) /\
   h'.get? s.heap.objs.size=some { cls := .type "list",dict:=none,data := .seq acc c',slots := #[] }/\ItemsOf (fun i v => ∃ t,v = .int (a+i*c) t) acc n)->x = .ok (.ret (.ref s.heap.objs.size))/\aI (model prog w) A (match be s.heap.objs.size with
   | be a=>do
     match (<- load a).data with
      | pU xs _=>pure xs.toList
      | _=>unsupported "internal:collect"
   | _=>unsupported "internal:collect") Q E s':=by
  rintro x s' ⟨h',tk,acc,c',rfl,rfl,hk,hS',hacc⟩
  refine⟨rfl,?_⟩
  show aI _ A (load s.heap.objs.size >>= _) _ _ _
  refine ag (Bq hS' (aK ?_))
  exact hQ h' tk acc hk (di (aw hS')) hacc
 cases fin with
 | done f=>
   obtain⟨e,q⟩:=fin' _ _ h
   cases e
   exact q
 | again c'=>exact⟨h.1,jF h.2 fun r s'' hr=>by
   obtain⟨e,q⟩:=fin' _ _ hr
   subst e
   exact q⟩
theorem jW {Q₁:Value->Shared->Prop}{r:Addr}{a b c:Int}{t u v:Tok}{n:Nat} (hh:A.handled=none) (hr:IsRange s.heap r a b c t u v) (hsmall:kn a b c=true)
  (hn:cY a b c=n) (hlen:n<=2 ^ 24)
  (h : ∀ (h':Heap) (tk:Nat) (acc:Array Value),(∀ b o,s.heap.get? b=some o->h'.get? b=some o)->s.heap.objs.size<=h'.objs.size->ItemsOf (fun i v => ∃ t,v = .int (a+i*c) t) acc n->Q₁ (.ref h'.objs.size) { s with heap:=h'.push { cls := .type "tuple",data := .seq acc },toks:=tk }) :
  pS (model prog w) A (.call (.builtin "tuple.__new__") ⟨[.type "tuple",.ref r],[]⟩) (wants Q₁ E) s:=by
 refine codeAny_of_tree ?_
 show aI _ A.in1 (do checkBuiltinCall "tuple.__new__" ⟨[.type "tuple",.ref r],[]⟩;again (.builtin "tuple.__new__" ⟨[.type "tuple",.ref r],[]⟩)) _ _ s
 refine ag (wpAny_of_eq (F.newCall_tuple_1 _) (aK ⟨plainId_quiet F.plain_tuple_new _,fe F.entry_tuple_new ?_⟩))
 rw [dh F.plain_tuple_new _]
 have hsub:=sub_tuple_self
 have hinit:=init_tuple_lookup
 have hmh:=madeHere_tuple
 have hTI:s.TypeIs (.ref r) "range":=⟨_,hr,rfl⟩
 have hh1:A.in1.handled=none:=hh
 wp_walk using wpAny_typeOf hTI,qf hh1 hr hsmall hn hlen
 intro h' tk acc hk hle hacc
 show aI _ _ (pM acc.toList.toArray >>= fun v=>ret v) _ _ _
 unfold pM
 refine ag (dZ ?_ (by show acc.toList.toArray.size<=sizeLine;simp only [Array.toArray_toList];rw [hacc.1,sizeLine_eq];exact hlen))
 refine aK ?_
 have e:acc.toList.toArray=acc:=by simp
 rw [e]
 exact h h' tk acc hk hle hacc
theorem mY {Q:Value->Shared->Prop}{r:Addr}{a b c:Int}{t u v:Tok}{n:Nat} (hh:A.handled=none) (hr:IsRange s.heap r a b c t u v) (hsmall:kn a b c=true)
  (hn:cY a b c=n) (hlen:n<=2 ^ 24)
  (h : ∀ (h':Heap) (tk:Nat) (acc:Array Value),(∀ b o,s.heap.get? b=some o->h'.get? b=some o)->s.heap.objs.size<=h'.objs.size->ItemsOf (fun i v => ∃ t,v = .int (a+i*c) t) acc n->Q (.ref h'.objs.size) { s with heap:=h'.push { cls := .type "tuple",data := .seq acc },toks:=tk }) :
  aI (model prog w) A (call (.type "tuple") [.ref r]) Q E s:=by
 refine callType_codes (Q₁:=fun obj s₁=>s₁.TypeIs obj "tuple"/\Q obj s₁) F.called_tuple (F.typeCall_tuple_1 _) F.entry_object_init
  (jW hh hr hsmall hn hlen fun h' tk acc hk hle hacc=>⟨⟨_,ay _ rfl,rfl⟩,h h' tk acc hk hle hacc⟩) fun obj s₁ h₁ => ?_
 exact⟨h₁.1,F.args_object_init_2 obj _,object_init_meets F.called_tuple.init.lookup F.called_tuple.made (by decide) prog w A.in1 _ s₁ ⟨h₁.1,rfl,h₁.2⟩⟩
end
theorem j7 {X:Cx} (hc:X.calm=true):fN X (.type "tuple") (fun xs H Q => ∃ r lo hi,xs = [.ref r]/\H r=some (.rng lo hi)/\(-(2 ^ 62)<=lo/\lo < 2 ^ 62 /\ -(2 ^ 62)<=hi/\hi < 2 ^ 62)/\(hi - lo).toNat<=sizeLine /\ ∀ l,H l=none->Q (.ref l) (upd H l (.tup (jD lo (hi - lo).toNat)))):=by
 intro pins s σ H xs us Q I rs h
 obtain⟨r,lo,hi,rfl,hr,⟨h1,h2,h3,h4⟩,hz,q⟩:=h
 cases rs with
 | cons r1 rr=>
   cases rr
   cases (show _=be r from r1)
   obtain⟨t,u,v,e⟩:=I.hok r _ hr
   have hn:cY lo hi 1=((hi - lo).toNat:Nat):=by rw [rangeSize_one];split <;> omega
   refine mY (n:=(hi - lo).toNat) (I.ok.hd hc) e (small_one h1 h2 h3 h4) hn (by rw [sizeLine_eq] at hz;exact hz) fun h' tk acc hk hle hacc => ?_
   obtain⟨hsz,hit⟩:=hacc
   refine⟨.ref h'.objs.size,_,I.laid (t':=tk) (o := .tup (jD lo (hi - lo).toNat)) (fun b o e=>af _ (hk b o e)) hle ?_,rfl,q _ (I.hok.fresh hle)⟩
   refine⟨by rw [jD,aq,aY];exact hz,acc.toList,?_,qu _ _,_,ay _ rfl,rfl⟩
   refine sk (by rw [jD,aq,aY,dX,hsz]) fun i x w h5 h6 => ?_
   have hlt:i < (hi - lo).toNat:=by
    have:=(ae.mp h5).1
    rwa [jD,aq,aY] at this
   have hx:(jD lo (hi - lo).toNat)[i]? = some (.int (lo+i)):=by simp [jD,hlt]
   rw [hx] at h5;cases h5
   obtain⟨t',e'⟩:=hit i w (by simpa using h6)
   exact⟨t',by rw [e'];simp⟩
section
variable {K:KX}{σ:St}{H:Hp}{Q:VK}
noncomputable def rTR:List V->Hp->VK->Prop:=fun xs H Q => ∃ r lo hi,xs = [.ref r]/\H r=some (.rng lo hi)/\(-(2 ^ 62)<=lo/\lo < 2 ^ 62 /\ -(2 ^ 62)<=hi/\hi < 2 ^ 62)/\(hi - lo).toNat<=sizeLine /\ ∀ l,H l=none->Q (.ref l) (upd H l (.tup (jD lo (hi - lo).toNat)))
theorem uy {μ:List Addr}{S1:Sto}{i j:Int}{r:Addr} (hr1:HR K μ S1 H) (ho:okR i/\okR j) (hz:(bh i (j - i).toNat).length<=big) (k:Aft K μ H (.tup (bh i (j - i).toNat)) S1 Q) (hrn:H r=none):rTR [.ref r] (upd H r (.rng i j)) Q:=by
 refine⟨r,i,j,rfl,bS,⟨ho.1.1,ho.1.2,ho.2.1,ho.2.2⟩,?_,fun l hl => ?_⟩
 ·unfold bh big at hz;rw [aq,aY] at hz;rw [sizeLine_eq];exact hz
 ·have k2:=k.mono (Pre.refl _) (bj.new hrn (o := .rng i j))
  exact k2 μ _ _ (Pre.refl _) (bj.new hl) ((hr1.rng hrn).tup hl) (iQ bS (RUs.mono (bj.new hl) (Pre.refl _) _ _ (w5 _ _)))
theorem Ci {a:MA} (h:tM K (kX (iR1 a)) σ H Q):tCB rTR (nq (AV (tMA K a)) tH) σ H Q:=by
 obtain⟨μ,S,ρ,u,S',hr,er,e,k⟩:=h
 obtain⟨src,S1,e1,e⟩:=aZ e
 obtain⟨xs,S2,e2,e1⟩:=aZ e1
 refine⟨μ,S,ρ,xs,S2,hr,er,e2,fun μ1 vs H1 p1 k1 hr1 rs => ?_⟩
 split at e1
 ·rename_i j
  split at e1
  ·rename_i hj
   cases e1
   simp only at e
   split at e
   ·rename_i hz
    cases e
    obtain⟨v,r,rfl,rx,rn⟩:=rs.inv
    rw [rn.nil_inv,b0 rx]
    refine⟨j,rfl,hj.1,hj.2,fun r hrn => ?_⟩
    have ez:(j - 0).toNat=j.toNat:=by simp
    exact uy (i:=0) hr1 ⟨⟨by decide,by decide⟩,hj⟩ (by rw [ez];exact hz) (by rw [ez];exact k.mono p1 k1) hrn
   ·cases e
  ·cases e1
 ·cases e1
theorem BS {a:MA} (h:tM K (kX (iR2 a)) σ H Q):tCB rTR (nq (ze (tMA K a)) tH) σ H Q:=by
 obtain⟨μ,S,ρ,u,S',hr,er,e,k⟩:=h
 obtain⟨src,S1,e1,e⟩:=aZ e
 obtain⟨xs,S2,e2,e1⟩:=aZ e1
 refine⟨μ,S,ρ,xs,S2,hr,er,e2,fun μ1 vs H1 p1 k1 hr1 rs => ?_⟩
 split at e1
 ·rename_i i j
  split at e1
  ·rename_i hj
   cases e1
   simp only at e
   split at e
   ·rename_i hz
    cases e
    obtain⟨v,r,rfl,rx,rs⟩:=rs.inv
    obtain⟨w,r,rfl,ry,rn⟩:=rs.inv
    rw [rn.nil_inv,b0 rx,b0 ry]
    exact⟨i,j,rfl,⟨hj.1.1,hj.1.2,hj.2.1,hj.2.2⟩,fun r hrn=>uy hr1 hj hz (k.mono p1 k1) hrn⟩
   ·cases e
  ·cases e1
 ·cases e1
end
end
end G
end
section
namespace G
open PySem PySem.Spec L2
open PyProof.Rows hiding St
section
noncomputable def vE (i:Nat) (f:Addr) (φ:MF) (a:MA):ME:=fun ρ S=>match ρ[i]? with
 | some (some (.obj g))=>if g=f then mFn φ a ρ S else none
 | _=>none
noncomputable def lx (is:List Nat) (ρ:Rho):Option (List U):=cQ (fun i=>(ρ[i]?).bind id) is
noncomputable def oI (np:Nat) (ml:ME) (cs:List U):MF:=fun us S=>if us.length=np then ml (us.map some++cs.map some) S else none
noncomputable def jZ (F:Addr->MF->MF) (np:Nat) (is:List Nat) (ml:ME) (ma:ME):ME:=fun ρ S=>bnd (ma ρ S) fun x S1=>(lx is ρ).bind fun cs=>
 open Classical in
 if h : ∃ r,∀ f,F f (oI np ml cs) [x,.obj f] S1=some r then some h.choose else none
theorem uX {F:Addr->MF->MF}{np:Nat}{is:List Nat}{ml ma:ME}{ρ:Rho}{S S1:Sto}{x:U}{cs:List U}{r:U×Sto} (ha:ma ρ S=some (x,S1)) (hc:lx is ρ=some cs) (h : ∀ f,F f (oI np ml cs) [x,.obj f] S1=some r) :
  jZ F np is ml ma ρ S=some r:=by
 have hx : ∃ r,∀ f,F f (oI np ml cs) [x,.obj f] S1=some r:=⟨r,h⟩
 unfold jZ
 rw [ha]
 simp only [aD,hc,ah]
 rw [dif_pos hx]
 have e:=(hx.choose_spec 0).symm.trans (h 0)
 exact e
end
structure Lam (M:Mo) (f:Addr) (k:Nat) (ps:List Str) (φ:MF):Prop where
 ex : ∃ fd:FuncData,((∃ (oc:Value) (od:Option Addr) (sl:Array (Option Value)),M.base.get? f=some ⟨oc,od,.func fd,sl⟩)\/ck M.K (.ref f)=true)/\Binds M.K fd ps []/\kL M.P M.w M.K M.mg M.base CX0 k f fd ps (spM M.K φ)
section
variable {M:Mo}{X:Cx}{k:Nat}{N:List Str}{ns:List (Str×NameKind)}{e:Expr}{es:List Expr}{mas:MA}{x:Str}{p1 pos:Pos}
theorem Dq {f:Addr}{φ:MF}{ps:List Str}{k':Nat} (S:Sc M X k N ns) (F:Lam M f k' ps φ) (hk:k'<=k) (i:Nat) (hi:N[i]? = some x) (hv:qb ns x=true) (ha:PA X (e::es) (tMA M.K mas))
  (hd:(x == ("__debug__":Str))=false) (hcd:(x == ("__classdict__":Str))=false)
  (he:starEach (e::es) X.env=(false,eval e X.env)::starEach es X.env) (hpl:(backTo pos (starEach es X.env)).any (·.1)=false) :
  PE X (.Call (.Name x p1) (e::es) [] pos) (tM M.K (vE i f φ mas)):=by
 obtain⟨fd,hf,hb,F⟩:=F.ex
 rw [<- S.hP,<- S.hw,<- S.hK,<- S.hm,<- S.hb] at F
 rw [<- S.hb,<- S.hK] at hf
 rw [<- S.hK] at hb
 intro pins s σ H Q I h
 obtain⟨μ,S0,ρ,u,S',hr,er,q,aft⟩:=h
 unfold vE at q
 split at q
 rotate_left
 ·cases q
 rename_i g hg
 split at q
 rotate_left
 ·cases q
 rename_i hgf
 subst hgf
 obtain⟨v,hσ,rv⟩:=er.get i _ hg
 have hv':v = .ref g:=by simpa only [RU] using rv
 subst hv'
 refine eQ (thn (Bb (X:=X) (by rw [S.hN];exact hi) (S.vis hv) hd hcd pins s σ H (fun v H1=>v = .ref g/\H1=H) I ⟨_,hσ,rfl,rfl⟩) fun w s1 ⟨v,H1,I1,r1,e1,e2⟩ => ?_)
 subst e1;subst e2
 obtain rfl:w=be g:=r1
 have hc:xn (spM M.K φ) [] E0 (tMA M.K mas) σ H1 Q:=zz ⟨μ,S0,ρ,u,S',hr,er,q,aft⟩
 have hA:=ha pos pins s1 σ H1 _ I1 hc
 rcases hf with⟨oc,od,sl,hf⟩ | hf
 rotate_left
 ·exact ni (h₀:=X.base) I1.ok.mod.kin hf (thn hA fun us s2 ⟨vs,H2,I2,r2,q2⟩=>⟨I2.kIn,su F (S.room.mono hk) hb .nil wD I2 r2 q2⟩) he hpl
 rw [he]
 refine PySem.W.callWith_of (P:=fun h=>h.get? g=some ⟨oc,od,.func fd,sl⟩) (by show ((false||(backTo pos (starEach es X.env)).any (·.1))||false)=false;rw [hpl];rfl)
  (fun h q=>⟨.frame,.inl rfl,(PySem.W.Looks.ld (part:=none) q).andThen .now⟩) (mK ?_)
 rw [he] at hA
 refine thn hA fun us s2 ⟨vs,H2,I2,r2,q2⟩=>⟨I2.bk g _ hf,?_⟩
 exact su F (S.room.mono hk) hb .nil wD I2 r2 q2
end
end G
end
section
namespace G
open PySem PySem.Spec L2
open PySem.W (envX kla_fn kla_obj CodeHd tabObj)
open PyProof.Rows hiding St
structure kl (ps fs:List Str) (scope:Scope):Prop where
 kind:scope.kind = .function
 co:scope.isCoroutine=false
 gen:scope.isGenerator=false
 nd:(ps++fs).Nodup
 par : ∀ p∈ps,scope.names.lookup p=some .local\/scope.names.lookup p=some .cell
 cel : ∀ x∈scope.names,x.2 = .cell->scope.names.lookup x.1=some .cell
 fre : ∀ y∈scope.names,y.2 = .free->y.1∈fs
 free : ∀ y∈fs,scope.names.lookup y=some .free
theorem lA : ∀ (names:List (Str×NameKind)) (n:Nat) (a b:List (Str×Addr)),cellsFrom n names (a++b)=cellsFrom n names a++b
 | [],_,_,_=>rfl
 | (x,k)::r,n,a,b=>by
   unfold cellsFrom
   cases k == bR with
   | true=>exact lA r (n+1) ((x,n)::a) b
   | false=>exact lA r n a b
theorem yp (names:List (Str×NameKind)) (n:Nat) (b:List (Str×Addr)):cellsFrom n names b=cellsFrom n names []++b:=lA names n [] b
theorem mX : ∀ (names:List (Str×NameKind)) (n:Nat) (a:List (Str×Addr)) {x:Str}{c:Addr},(x,c)∈cellsFrom n names a->(x,bR)∈names\/(x,c)∈a
 | [],_,_,_,_,h => .inr h
 | (y,k)::r,n,a,x,c,h=>by
   unfold cellsFrom at h
   split at h
   ·rename_i hk
    rcases mX r (n+1) _ h with h | h
    ·exact .inl (az _ h)
    ·rcases aG.mp h with e | h
     ·cases e;rw [eq_of_beq hk];exact .inl aV
     ·exact .inr h
   ·exact (mX r n a h).imp (az _) id
theorem fg {α:Type}{x:Str}{c:α} : ∀ {a b:List (Str×α)},a.lookup x=some c->(a++b).lookup x=some c
 | a,b,h=>by rw [fR,h];rfl
theorem gR {α:Type}{x:Str} : ∀ {a b:List (Str×α)},a.lookup x=none->(a++b).lookup x=b.lookup x
 | a,b,h=>by rw [fR,h];rfl
theorem fT {α:Type}{x:Str}{c:α}{a b:List (Str×α)} (h:(a++b).lookup x=some c):a.lookup x=some c\/(a.lookup x=none/\b.lookup x=some c):=by
 cases q:a.lookup x with
 | some d=>rw [fg q] at h;exact .inl h
 | none=>rw [gR q] at h;exact .inr ⟨rfl,h⟩
theorem oR {f g:Str×Value->PUnit->Sem (ForInStep PUnit)} : ∀ {l:List (Str×Value)},(∀ x∈l,∀ u,f x u=g x u)->forIn l nR f=forIn l nR g
 | [],_=>rfl
 | x::l,h=>by
   rw [eJ,eJ,h x aV]
   have ih:=oR (l:=l) fun y hy=>h y (az _ hy)
   congr 1
   funext r
   cases r with
   | done u=>rfl
   | yield u=>exact ih
theorem vP {env:Env}{cs:List (Str×Addr)}{x:Str}{v:Value} (h:env.kindOf x=some .local\/env.cells.lookup x=cs.lookup x):storeName env x v=storeName { env with cells:=cs } x v:=by
 rcases h with h | h
 ·have h':Env.kindOf { env with cells:=cs } x=some .local:=h
  unfold storeName
  rw [h,h']
  rfl
 ·have e:cellOf env x=cellOf { env with cells:=cs } x:=by unfold cellOf;rw [h]
  unfold storeName
  rw [e]
  rfl
theorem CY {M:Model}{A:Around}{E:Value->Shared->Prop}{s:Shared}{scope:Scope}{g:Addr}{cl:List (Str×Addr)}{binds:List (Str×Value)}{qual:Str}{func:Option Addr}{code:Value}{bt:Addr}{Q:Env->Shared->Prop} (hk:scope.kind = .function)
  (hb : ∀ x∈binds,scope.names.lookup x.1=some .local\/scope.names.lookup x.1=some .cell)
  (hQ : ∀ s',InCallC s s.heap.objs.size (bindL (fun x=>scope.names.lookup x) binds fun _=>none) (cellsFrom (s.heap.objs.size+1) scope.names []) (bindC (fun x=>scope.names.lookup x) binds fun _=>none) s' ->
   Q (newEnv scope s.heap.objs.size g (cellsFrom (s.heap.objs.size+1) scope.names []++cl) qual func code none bt) s') :
  aI M A (newFunctionEnv scope g cl binds qual func code none bt) Q E s:=by
 have ok:CellsOk (pushCells (s.heap.push { cls := .type "frame",data := .dict #[] }) scope.names) (s.heap.objs.size+1) (cellsFrom (s.heap.push { cls := .type "frame",data := .dict #[] }).objs.size scope.names []):=
  cellsFrom_ok scope.names _ _ [] ⟨fun _ _ z=>(nomatch z),fv⟩ (by rw [aW];omega)
 rw [aW] at ok
 have inC:InCallC s s.heap.objs.size (fun _=>none) (cellsFrom (s.heap.objs.size+1) scope.names []) (fun _=>none) { s with heap:=pushCells (s.heap.push { cls := .type "frame",data := .dict #[] }) scope.names }:=
  ⟨⟨⟨_,s.toks,rfl⟩,(Heap.Ns.new s.heap (.type "frame")).keeps fun b o e=>pushCells_keeps _ _ b o e,fun b o e=>pushCells_keeps _ _ b o (af _ e),aj _⟩,
   fun n c hc=>(ok.empty n c (mem_of_lookup hc)).1,ok.apart,fun n c hm=>Nat.lt_of_succ_le (ok.empty n c hm).2⟩
 simp only [newFunctionEnv,Option.isSome_none,eu,if_false]
 refine ag (wpAny_alloc (ag (wpAny_layCells _ (fun nm kd cs=>by cases q:kd == bR <;> simp [q]) _ _ _ _ ?_)))
 rw [show ({ s with heap:=s.heap.push { cls := .type "frame",data := .dict #[] } }:Shared).heap.objs.size=s.heap.objs.size+1 from aW ..,yp]
 refine ag ?_
 have same : ∀ x∈binds,∀ v:Value,storeName (newEnv scope s.heap.objs.size g (cellsFrom (s.heap.objs.size+1) scope.names []++cl) qual func code none bt) x.1 v=storeName (newEnv scope s.heap.objs.size g (cellsFrom (s.heap.objs.size+1) scope.names []) qual func code none bt) x.1 v:=fun x hx v=>by
  refine vP (env:=newEnv scope s.heap.objs.size g (cellsFrom (s.heap.objs.size+1) scope.names []++cl) qual func code none bt) ?_
  rcases hb x hx with h | h
  ·exact .inl h
  ·obtain⟨c,hc⟩:=ig (n:=s.heap.objs.size+1) h
   exact .inr (by rw [hc];exact fg hc)
 show aI M A (forIn binds nR fun x _=>(do storeName (newEnv scope s.heap.objs.size g (cellsFrom (s.heap.objs.size+1) scope.names []++cl) qual func code none bt) x.1 x.2;pure (cH nR))) _ E _
 rw [oR (g:=fun x _=>(do storeName (newEnv scope s.heap.objs.size g (cellsFrom (s.heap.objs.size+1) scope.names []) qual func code none bt) x.1 x.2;pure (cH nR))) fun x hx u=>by rw [same x hx]]
 refine wpAny_bindParams (s₀:=s) (env:=newEnv scope s.heap.objs.size g (cellsFrom (s.heap.objs.size+1) scope.names []) qual func code none bt) _ (fun _ _ _=>rfl) hk binds _ _ _ _ inC (fun x hx => ?_) fun s' x=>aK (hQ s' x)
 rcases hb x hx with h | h
 ·exact .inl h
 ·obtain⟨c,hc⟩:=ig (n:=s.heap.objs.size+1) h
  exact .inr ⟨h,by show ((cellsFrom (s.heap.objs.size+1) scope.names []).lookup x.1).isSome=true;rw [hc];rfl⟩
noncomputable def kY (base:Heap) (cl:List (Str×Addr)):List Str->List V->Prop
 | [],[]=>True
 | y::fs,v::vs=>(∃ c o u,cl.lookup y=some c/\base.get? c=some o/\o.data = .cell (some u)/\RelV v u)/\kY base cl fs vs
 | _,_=>False
theorem kY.len {base:Heap}{cl:List (Str×Addr)} : ∀ {fs:List Str}{vs:List V},kY base cl fs vs->fs.length=vs.length
 | [],[],_=>rfl
 | _::_,_::_,h=>by simp [kY.len h.2]
 | [],_::_,h=>h.elim
 | _::_,[],h=>h.elim
theorem kY.get {base:Heap}{cl:List (Str×Addr)} : ∀ {fs:List Str}{vs:List V}{i:Nat}{y:Str}{v:V},kY base cl fs vs->fs[i]? = some y->vs[i]? = some v -> ∃ c o u,cl.lookup y=some c/\base.get? c=some o/\o.data = .cell (some u)/\RelV v u
 | [],_,i,y,v,_,h1,_=>by simp at h1
 | _::_,[],i,y,v,h,_,_=>h.elim
 | _::_,_::_,0,y,v,h,h1,h2=>by
   simp at h1 h2;subst h1;subst h2
   exact h.1
 | _::_,_::_,i+1,y,v,h,h1,h2=>kY.get (i:=i) h.2 (by simpa using h1) (by simpa using h2)
noncomputable def rH (qual:Str) (scope:Scope) (L f:Addr) (cd:Value) (cl:List (Str×Addr)):Env:=envX qual scope L f cd (cellsFrom (L+1) scope.names []++cl)
noncomputable def A7 (P:Program) (w:World) (K:ak) (mg:Str->Option Value) (base:Heap) (N:List Str) (qual:Str) (scope:Scope) (f:Addr) (cd:Value) (cl:List (Str×Addr)) (A:Around) (outer:List Env) (s:Shared) (H:Hp):Cx where
 prog:=P
 w:=w
 K:=K
 mg:=mg
 base:=base
 A:=A.deeper (rH qual scope s.heap.objs.size f cd cl)
 N:=N
 s₀:=s
 H₀:=H
 env:=rH qual scope s.heap.objs.size f cd cl
 outer:=outer
 stack:=rH qual scope s.heap.objs.size f cd cl::outer
 ex := []
 calm:=true
 fn:=fun x=>scope.names.lookup x == some .cell
 pn := []
 xe:=fun _ _=>False
theorem Dd {P:Program}{w:World}{K:ak}{mg:Str->Option Value}{base:Heap}{ps fs:List Str}{qual:Str}{scope:Scope}{f:Addr}{cd:Value}{cl:List (Str×Addr)}{A:Around}{outer:List Env}{s s1:Shared}{H:Hp}{us:List Value}{vs cv:List V}
  (S:kl ps fs scope) (hd:A.handled=none) (e0:xP P w K mg base A outer s H) (hl:vs.length=ps.length) (r:bP vs us) (C:kY base cl fs cv)
  (hcl : ∀ y c,cl.lookup y=some c -> ∃ o v,base.get? c=some o/\o.data = .cell v) (inj : ∀ x y c,cl.lookup x=some c->cl.lookup y=some c->x=y)
  (x:InCallC s s.heap.objs.size (bindL (fun y=>scope.names.lookup y) (ps.zip us) fun _=>none) (cellsFrom (s.heap.objs.size+1) scope.names []) (bindC (fun y=>scope.names.lookup y) (ps.zip us) fun _=>none) s1) :
  Inv (A7 P w K mg base (ps++fs) qual scope f cd cl A outer s H) [] (vs.map some++cv.map some) H s1:=by
 obtain⟨h1,tk,rfl,hk⟩:=x.done
 have ndP:ps.Nodup:=(pW.mp S.nd).1
 have newc : ∀ y c,(cellsFrom (s.heap.objs.size+1) scope.names []).lookup y=some c->scope.names.lookup y=some .cell/\s.heap.objs.size < c:=fun y c e=>by
  have m:=mem_of_lookup e
  rcases mX _ _ _ m with z | z
  ·exact⟨S.cel _ z rfl,x.above y c m⟩
  ·simp at z
 have oldc : ∀ y c,cl.lookup y=some c->c < s.heap.objs.size/\(∃ v,h1.IsCell c v)/\H c=none:=fun y c e=>by
  obtain⟨o,v,e1,e2⟩:=hcl y c e
  exact⟨aw (e0.bs c o e1).1,⟨v,o,hk _ _ (e0.bs c o e1).1,e2⟩,(e0.bs c o e1).2⟩
 have frc : ∀ y∈fs,(cellsFrom (s.heap.objs.size+1) scope.names []).lookup y=none:=fun y hy=>by
  cases q:(cellsFrom (s.heap.objs.size+1) scope.names []).lookup y with
  | none=>rfl
  | some c=>
    have:=(newc y c q).1
    rw [S.free y hy] at this;cases this
 have noA : ∀ b:Addr,b∉(A7 P w K mg base (ps++fs) qual scope f cd cl A outer s H).ex:=fun b z=>absurd (show b∈([]:List Addr) from z) (by simp)
 refine⟨⟨e0.mod,S.kind,rfl,rfl,aj _,fun y z c e1 e2 => ?_,fun y hy => ?_,fun y c hy e => ?_,fun _=>hd,y9 e0.frames,.inr ⟨rfl,rfl⟩,fun b z=>absurd z (noA b),e0.bs,e0.bsz,fun b _ _=>noA b,fun b z=>absurd z (noA b),e0.funs,e0.frf⟩,
  rfl,e0.bare,Un.kept hk,⟨_,x.toInCall.ns,fun i y v h2 h3 h4 => ?_⟩,fun y c h => ?_,e0.hok.fresh (aj _),fun y c h => ?_,fun p hp=>absurd (show p∈([]:List (Addr×Obj)) from hp) (by simp),e0.hok.kept hk,?_⟩
 ·rcases fT e1 with e1 | ⟨_,e1⟩
  ·rcases fT e2 with e2 | ⟨_,e2⟩
   ·exact name_of_addr x.apart (mem_of_lookup e1) (mem_of_lookup e2)
   ·exact absurd (qy (newc y c e1).2 (oldc z c e2).1) (bD _)
  ·rcases fT e2 with e2 | ⟨_,e2⟩
   ·exact absurd (qy (newc z c e2).2 (oldc y c e1).1) (bD _)
   ·exact inj y z c e1 e2
 ·have hy:scope.names.lookup y=some .cell\/scope.names.lookup y=some .free:=hy
  rcases hy with hy | hy
  ·obtain⟨c,hc⟩:=ig (n:=s.heap.objs.size+1) hy
   exact⟨c,fg hc⟩
  ·have hf:=S.fre _ (mem_of_lookup hy) rfl
   obtain⟨i,hi⟩:=List.getElem?_of_mem hf
   have hi2:i < cv.length:=by rw [<- C.len];exact (ae.mp hi).1
   obtain⟨c,o,u,e,_⟩:=C.get hi (aS hi2)
   exact⟨c,(gR (frc y hf)).trans e⟩
 ·rcases fT e with e | ⟨_,e⟩
  ·exact di (newc y c e).2
  ·have hy':scope.names.lookup y=some .cell:=eq_of_beq hy
   obtain⟨c',hc'⟩:=ig (n:=s.heap.objs.size+1) hy'
   rename_i z
   rw [hc'] at z;cases z
 ·have hN:(ps++fs)[i]? = some y:=h2
  by_cases hi:i < ps.length
  ·rw [aM hi] at hN
   rw [aM (by simpa [hl] using hi),bo] at h3
   cases e:vs[i]? with
   | none=>rw [e] at h3;cases h3
   | some a=>
     rw [e] at h3;cases h3
     obtain⟨u,hu,rv⟩:=r.get e
     refine⟨u,rv,?_⟩
     rcases S.par y (bL hN) with kd | kd
     ·exact .inl ⟨kd,mV ndP hN hu kd⟩
     ·obtain⟨c,hc⟩:=ig (n:=s.heap.objs.size+1) kd
      refine .inr ⟨.inl kd,c,fg hc,?_⟩
      have z:=x.cell y c hc
      rw [mQ ndP hN hu (by show scope.names.lookup y≠_;rw [kd];decide)] at z
      exact z
  ·rw [av (by omega)] at hN
   rw [av (by simp;omega),bo] at h3
   simp only [aq,hl] at h3
   cases e:cv[i - ps.length]? with
   | none=>rw [e] at h3;cases h3
   | some a=>
     rw [e] at h3;cases h3
     have hf:=bL hN
     obtain⟨c,o,u,e1,e2,e3,e4⟩:=C.get hN e
     exact⟨u,e4,.inr ⟨.inr (S.free y hf),c,(gR (frc y hf)).trans e1,o,hk _ _ (e0.bs c o e2).1,e3⟩⟩
 ·rcases fT h with e | ⟨_,e⟩
  ·exact⟨_,x.cell y c e⟩
  ·exact (oldc y c e).2.1
 ·rcases fT h with e | ⟨_,e⟩
  ·exact e0.hok.fresh (di (newc y c e).2)
  ·exact (oldc y c e).2.2
 ·show (vs.map some++cv.map some).length=(ps++fs).length
  simp [hl,C.len]
theorem E4 {M:Mo} (h0:M.mkr=none) {name qual:Str}{params:Arguments}{body:Expr}{scope:Scope}{cl:List (Str×Addr)}{pm ctv:Value}{c f:Addr}{oc:Obj}{ws:Array Value}{t:Tok}{ps fs:List Str}{k:Nat}{ml:ME}{od:Option Addr}{fc:Value}{fsl:Array (Option Value)}
  (hf:M.base.get? f=some ⟨fc,od,.func (kla_fn name qual params body scope cl pm (.ref c) ctv),fsl⟩) (hc:(c,oc)∈M.K.cds) (hoc:oc.data = .fields ws) (hq:ws[1]? = some (.str qual t))
  (S:kl ps fs scope) (C:kY M.base cl fs M.K.capv) (hcl : ∀ y c,cl.lookup y=some c -> ∃ o v,M.base.get? c=some o/\o.data = .cell v) (inj : ∀ x y c,cl.lookup x=some c->cl.lookup y=some c->x=y)
  (hb : ∀ X,Sc M X k (ps++fs) scope.names->PE X body (tM M.K ml)) :
  kL M.P M.w M.K M.mg M.base CX0 (k+1) f (kla_fn name qual params body scope cl pm (.ref c) ctv) ps (spM M.K (oI ps.length ml M.K.caps)):=by
 have len : ∀ vs H Q E,spM M.K (oI ps.length ml M.K.caps) vs H Q E->vs.length=ps.length:=fun vs H Q E h=>by
  obtain⟨μ,S',us,u,S'',hr,rs,e,_⟩:=h
  unfold oI at e
  split at e
  ·rename_i hl;rw [<- rs.len];exact hl
  ·cases e
 refine⟨len,fun A outer s H args us vs Q E hr e0 hbd r hsp => ?_⟩
 have hl:=len _ _ _ _ hsp
 obtain⟨μ,S1,zs,u,S2,hR,rs,e,ka⟩:=hsp
 have hco:s.heap.get? c=some oc:=(e0.hok c _ (hR.ext.cds _ hc)).1
 have lim:s.heap.NoLimit:=e0.mod.nolimit.keeps fun b o e=>(e0.bs b o e).1
 refine PySem.W.kla_callFunE hr.depth (e0.bs f _ hf).1 rfl S.co S.gen rfl ⟨c,oc,ws,t,rfl,hco,hoc,hq⟩ (hbd _ _ _ _ ?_)
 refine CY S.kind (fun x hx=>S.par _ (lE hx).1) fun s1 x=>⟨lim.keeps x.toInCall.keep,?_⟩
 show pS _ _ (.expr body (rH qual scope s.heap.objs.size f (.ref c) cl)) _ _
 have I:=Dd (qual:=qual) (f:=f) (cd := .ref c) S hr.hd e0 hl r C hcl inj x
 have SS:Sc M (A7 M.P M.w M.K M.mg M.base (ps++fs) qual scope f (.ref c) cl A outer s H) k (ps++fs) scope.names:=
  ⟨rfl,rfl,rfl,rfl,rfl,rfl,S.nd,rfl,fun _ h=>h,fun y h=>⟨h,by show (scope.names.lookup y == some .cell)=true;rw [h];rfl⟩,fun _ h => .inr h,fun _ h=>h,hr.deeper _,pL,fun c q h=>by rw [h0] at h;cases h⟩
 unfold oI at e
 split at e
 rotate_left
 ·cases e
 have er:ER H μ (zs.map some++M.K.caps.map some) (vs.map some++M.K.capv.map some):=by
  have all:=rs.append hR.ext.cap
  refine⟨by simp [rs.len,hR.ext.cap.len],fun i w hw => ?_⟩
  rw [<- dv,bo] at hw
  cases q:(zs++M.K.caps)[i]? with
  | none=>rw [q] at hw;cases hw
  | some w'=>
    rw [q] at hw;cases hw
    obtain⟨v,hv,rv⟩:=all.get q
    exact⟨v,by rw [<- dv,bo,hv];rfl,rv⟩
 refine PySem.W.kla_codeExpr (cf (hb _ SS [] _ _ H Q I ⟨μ,S1,_,u,S2,hR,er,e,ka⟩) (fun v s' hs => ?_) fun e s' hs=>hs.elim)
 obtain⟨x,H',J,rv,q⟩:=hs
 exact⟨x,H',J.os,J.bare,J.base,J.hok,rv,q⟩
noncomputable def fj (cells:List (Str×Addr)):List (Str×NameKind)->List (Str×Addr)->List (Str×Addr)
 | [],acc=>acc
 | (y,k)::r,acc=>if k == .free then (match cells.lookup y with
   | some c=>fj cells r ((y,c)::acc)
   | none=>fj cells r acc) else fj cells r acc
theorem vK {env:Env}{scope:Scope} (h : ∀ y∈scope.names,y.2 = .free -> ∃ c,env.cells.lookup y.1=some c):closureFor scope env=pure (fj env.cells scope.names []):=by
 unfold closureFor
 have key : ∀ (l:List (Str×NameKind)) (acc:List (Str×Addr)),(∀ y∈l,y.2 = .free -> ∃ c,env.cells.lookup y.1=some c) ->
   (forIn l acc fun (x:Str×NameKind) (r:List (Str×Addr))=>if (x.2 == aJ)=true then (do let a <- cellOf env x.1;pure (cH ((x.1,a)::r))) else pure (cH r):Sem _)=pure (fj env.cells l acc):=by
  intro l
  induction l with
  | nil=>intro acc _;rfl
  | cons y l ih=>
    intro acc hh
    rw [eJ]
    unfold fj
    cases q:y.2 == aJ with
    | true=>
      obtain⟨c,hc⟩:=hh y aV (eq_of_beq q)
      have e:cellOf env y.1=pure c:=by unfold cellOf;rw [hc]
      simp only [if_true,e,pure_bind,hc]
      exact ih _ fun z hz=>hh z (az _ hz)
    | false=>
      simp only [eu,if_false,pure_bind]
      exact ih _ fun z hz=>hh z (az _ hz)
 have e:=key scope.names [] h
 show (forIn scope.names ([]:List (Str×Addr)) _ >>= fun r=>pure r:Sem _)=_
 rw [bind_pure]
 refine Eq.trans ?_ e
 congr 1
theorem kE {cells:List (Str×Addr)} : ∀ (l:List (Str×NameKind)) (acc:List (Str×Addr)) {y:Str}{c:Addr},(y,c)∈fj cells l acc->(y,c)∈acc\/(cells.lookup y=some c/\(y,aJ)∈l)
 | [],acc,y,c,h => .inl h
 | (z,k)::l,acc,y,c,h=>by
   unfold fj at h
   split at h
   ·rename_i hk
    split at h
    ·rename_i d hd
     rcases kE l _ h with h | h
     ·rcases aG.mp h with e | h
      ·cases e;exact .inr ⟨hd,by rw [eq_of_beq hk];exact aV⟩
      ·exact .inl h
     ·exact .inr ⟨h.1,az _ h.2⟩
    ·exact (kE l _ h).imp id fun h=>⟨h.1,az _ h.2⟩
   ·exact (kE l _ h).imp id fun h=>⟨h.1,az _ h.2⟩
theorem kG {cells:List (Str×Addr)} : ∀ (l:List (Str×NameKind)) (acc:List (Str×Addr)) {y:Str}{c:Addr},(y,c)∈acc->(y,c)∈fj cells l acc
 | [],acc,y,c,h=>h
 | (z,k)::l,acc,y,c,h=>by
   unfold fj
   split
   ·split
    ·exact kG l _ (az _ h)
    ·exact kG l _ h
   ·exact kG l _ h
theorem kz {cells:List (Str×Addr)} : ∀ (l:List (Str×NameKind)) (acc:List (Str×Addr)) {y:Str}{c:Addr},(y,aJ)∈l->cells.lookup y=some c->(y,c)∈fj cells l acc
 | [],acc,y,c,h,_=>by simp at h
 | (z,k)::l,acc,y,c,h,hc=>by
   unfold fj
   rcases aG.mp h with e | h
   ·cases e
    simp only [beq_self_eq_true,if_true,hc]
    exact kG l _ aV
   ·split
    ·split
     ·exact kz l _ h hc
     ·exact kz l _ h hc
    ·exact kz l _ h hc
theorem lookup_mem {α:Type} : ∀ {l:List (Str×α)}{y:Str}{c:α},(y,c)∈l -> ∃ d,l.lookup y=some d
 | [],y,c,h=>by simp at h
 | (z,d)::l,y,c,h=>by
   rw [aL]
   cases q:y == z with
   | true=>exact⟨d,rfl⟩
   | false=>
     rcases aG.mp h with e | h
     ·cases e;simp at q
     ·exact lookup_mem h
theorem jl {cells:List (Str×Addr)}{l:List (Str×NameKind)}{y:Str}{c:Addr} (h:(fj cells l []).lookup y=some c):cells.lookup y=some c/\(y,aJ)∈l:=by
 rcases kE l [] (bJ h) with h | h
 ·simp at h
 ·exact h
theorem yD {cells:List (Str×Addr)}{l:List (Str×NameKind)}{y:Str}{c:Addr} (h:(y,aJ)∈l) (hc:cells.lookup y=some c):(fj cells l []).lookup y=some c:=by
 obtain⟨d,hd⟩:=lookup_mem (kz l [] h hc)
 have:=(jl hd).1
 rw [hc] at this;cases this
 exact hd
end G
end
section
namespace G
open PySem PySem.Spec L2
open PySem.W (envX kla_fn kla_obj CodeHd tabObj)
open PyProof.Rows hiding St
theorem v9 {pos:Pos}{a b:Int}{c cv:Value} (l:List Value) (h:TriplesOk l) (hc:codeAmong pos (l ++ [rawInt a,rawInt b,c])=some cv):codeAmong pos l=some cv\/cv=c:=by
 fun_induction TriplesOk l with
 | case1=>
   simp only [du,rawInt,codeAmong] at hc
   split at hc
   ·cases hc;exact .inr rfl
   ·cases hc
 | case2 x t y u z rest ih=>
   simp only [List.cons_append,codeAmong] at hc ⊢
   split at hc
   ·rename_i q;rw [if_pos q];exact .inl hc
   ·rename_i q;rw [if_neg q];exact ih h hc
 | case3 l h1 h2=>exact h.elim
section
variable {K:KX}{H:Hp}{μ:List Addr}{S:Sto}
theorem HR.table {P c:Addr}{ps:Array Value}{oc:Obj}{ws:Array Value}{t:Tok}{a b:Int}{q:Str} (h:HR K μ S H) (hP:H P=some (.tbl ps)) (hc:H c=none) (hoc:oc.data = .fields ws) (hq:ws[1]? = some (.str q t)) (un : ∀ r∈K.tabs,r.1=P->r.2=q) :
  bj H (upd (upd H c (.frz oc fz)) P (.tbl (ps ++ #[rawInt a,rawInt b,.ref c])))/\HR K μ S (upd (upd H c (.frz oc fz)) P (.tbl (ps ++ #[rawInt a,rawInt b,.ref c]))):=by
 have stay : ∀ x o,H x=some o->(∀ ps,o ≠ .tbl ps)->upd (upd H c (.frz oc fz)) P (.tbl (ps ++ #[rawInt a,rawInt b,.ref c])) x=some o:=fun x o e n=>by
  rw [bg (o5 e hP (n ps)),bg (bf e hc)];exact e
 have kp:bj H (upd (upd H c (.frz oc fz)) P (.tbl (ps ++ #[rawInt a,rawInt b,.ref c]))):=fun x vs e=>stay x _ e fun _ z=>by cases z
 have fr : ∀ x o u,H x=some (.frz o u)->upd (upd H c (.frz oc fz)) P (.tbl (ps ++ #[rawInt a,rawInt b,.ref c])) x=some (.frz o u):=fun x o u e=>stay x _ e fun _ z=>by cases z
 have hcP:c≠P:=(bf hP hc).symm
 refine⟨kp,h.len,h.inj,fun m d x q1 q2=>(h.cell m d x q1 q2).mono kp (Pre.refl _) (fun hd => ?_) fun o u e=>fr x o u e,RUs.mono kp (Pre.refl _) _ _ h.ext.cap,fun r hr=>fr _ _ _ (h.ext.cds r hr),fun r hr => ?_⟩
 ·obtain⟨o,e,_,_,nb⟩:=(h.cell m d x q1 q2).has hd
  rw [stay x o e nb,e]
 ·obtain⟨ps',e,tr,al⟩:=h.ext.tab r hr
  by_cases hr':r.1=P
  ·rw [hr',hP] at e
   cases e
   refine⟨ps ++ #[rawInt a,rawInt b,.ref c],by rw [hr',bS],by rw [BD];exact TriplesOk_snoc _ _ _ _ tr,fun pos cv hcv => ?_⟩
   rw [BD] at hcv
   rcases v9 _ tr hcv with z | z
   ·obtain⟨d,od,vs,t',e1,e2,e3,e4⟩:=al pos cv z
    exact⟨d,od,vs,t',e1,fr _ _ _ e2,e3,e4⟩
   ·exact⟨c,oc,ws,t,z,by rw [bg hcP,bS],hoc,by rw [un r hr hr'];exact hq⟩
  ·refine⟨ps',by rw [bg hr',bg (bf e hc)];exact e,tr,fun pos cv hcv => ?_⟩
   obtain⟨d,od,vs,t',e1,e2,e3,e4⟩:=al pos cv hcv
   exact⟨d,od,vs,t',e1,fr _ _ _ e2,e3,e4⟩
end
section
variable {X:Cx}{pins:List (Addr×Obj)}{σ:St}{H:Hp}{s:Shared}
theorem yI {P c:Addr}{ps more:Array Value}{oc ob:Obj}{h':Heap}{tk:Nat} (I:Inv X pins σ H s) (hP:H P=some (.tbl ps)) (hx:Heap.ExtBut P s.heap h') (hge:s.heap.objs.size<=c) (hc:h'.get? c=some oc) (htb:h'.get? P=some (tabObj (ps++more))) :
  Inv X pins σ (upd (upd H c (.frz oc fz)) P (.tbl (ps++more))) { s with heap:=h'.push ob,toks:=tk }:=by
 have hcn:H c=none:=I.hok.fresh hge
 have kp : ∀ b o,b≠P->s.heap.get? b=some o->(h'.push ob).get? b=some o:=fun b o n e=>af _ (hx b o n e)
 have nP : ∀ b,H b=none->b≠P:=fun b n z=>by rw [z,hP] at n;cases n
 have stay : ∀ x o,H x=some o->(∀ ps,o ≠ .tbl ps)->upd (upd H c (.frz oc fz)) P (.tbl (ps++more)) x=some o:=fun x o e n=>by
  rw [bg (o5 e hP (n ps)),bg (bf e hcn)];exact e
 refine I.step (g':=s.gens) (d':=s.drawn) (ch := []) (fun _ z=>nomatch z) (fun b o _ _ _ e n=>kp b o (nP b n) e) (fun b o _ _ _ e n=>⟨o.slots,kp b o (nP b n) e⟩)
  (fun b o _ e n=>by rw [bg (nP b n),bg (bb (aF (aw e) hge))];exact n) (fun b o _ e => ?_) (fun b xs e=>stay b _ e fun _ z=>by cases z) (fun b o u e=>stay b _ e fun _ z=>by cases z)
  (fun b qs e => ?_) (fun m hm => ?_) (fun b u e => ?_) I.bare
 ·by_cases hb:b=P
  ·exact⟨_,by rw [hb];exact af _ htb⟩
  ·exact⟨o,kp b o hb e⟩
 ·by_cases hb:b=P
  ·rw [hb,hP] at e
   cases e
   exact⟨more,by rw [hb,bS]⟩
  ·exact⟨#[],by rw [bg hb,bg (bf e hcn),e];simp⟩
 ·exact (hm.extBut hx (nP _ I.free)).push _
 ·by_cases hb:b=P
  ·rw [hb,bS] at e
   cases e
   rw [hb]
   exact af _ htb
  ·rw [bg hb] at e
   by_cases hbc:b=c
   ·rw [hbc,bS] at e
    cases e
    rw [hbc]
    exact⟨af _ hc,trivial,⟨_,af _ hc⟩,fun _ _ _ _=>trivial⟩
   ·rw [bg hbc] at e
    refine (I.hok b u e).stay (fun d v hd q=>kp d v ?_ q) (fun d q=>stay d _ q fun _ z=>by cases z) fun d xs q=>stay d _ q fun _ z=>by cases z
    rcases hd with z | z
    ·rw [z];exact hb
    ·exact o5 z hP (by intro z;cases z)
noncomputable def baseOf (h:Heap) (H:Hp) (fr:List Addr):Heap:=PySem.W.hideAll (pZ h H) fr
theorem ib {h:Heap}{H:Hp}{fr:List Addr}{b:Addr}{o:Obj} (e:h.get? b=some o) (n:H b=none) (hf:b∉fr):(baseOf h H fr).get? b=some o:=y6 _ (mG e n) hf
theorem yv {h:Heap}{H:Hp}{fr:List Addr}{b:Addr}{o:Obj} (e:(baseOf h H fr).get? b=some o):h.get? b=some o/\H b=none:=wN (Bp fr e)
theorem uO (I:Inv X pins σ H s) : ∀ b o,X.base.get? b=some o->(baseOf s.heap H (frs X.stack)).get? b=some o:=fun b o e=>
 ib (I.bs b o e).1 (I.bs b o e).2 fun z=>by
  have:=(I.stack.mem z).1
  rw [e] at this;cases this
theorem xO (I:Inv X pins σ H s):xP X.prog X.w X.K X.mg (baseOf s.heap H (frs X.stack)) X.A X.stack s H:=by
 have k:=uO I
 obtain⟨m1,m2,⟨mb,m3,m4⟩,m5⟩:=I.ok.mod
 refine⟨I.ok.frames,⟨m1.keeps k,m2.keeps k,⟨mb,m3.keeps k,m4⟩,m5.keeps k⟩,fun b o e=>yv e,by rw [baseOf,yU,qA];exact aj _,?_,I.stkFree,I.hok,I.bare⟩
 have all : ∀ l:List Env,(∀ b∈frs l,b∈frs X.stack)->s.heap.FunFrames X.base l->s.heap.FunFrames (baseOf s.heap H (frs X.stack)) l:=by
  intro l
  induction l with
  | nil=>intro _ _;trivial
  | cons env r ih=>
    intro hs hl
    obtain⟨hk,⟨L,o,hf,hn,ho,hd⟩,hr⟩:=hl
    have hL:L∈frs X.stack:=hs L (by unfold frs;rw [fC,hf];exact aV)
    exact⟨hk,⟨L,o,hf,yV _ hL,ho,hd⟩,ih (fun b hb=>hs b (by unfold frs;rw [fC,hf];exact az _ hb)) hr⟩
 exact all X.stack (fun _ h=>h) I.stack
end
end G
end
section
namespace G
open PySem PySem.Spec L2
open PySem.W (envX kla_fn kla_obj CodeHd tabObj)
open PyProof.Rows hiding St
noncomputable def gK (mg:Str->Option Value) (base:Heap):Prop := ∃ bm ob,mg "__builtins__"=some (.ref bm)/\bm≠builtinsNs/\base.get? bm=some ob/\ob.cls = .type "module"/\ob.dict=some builtinsNs/\ob.data = .plain
theorem gK.keeps {mg:Str->Option Value}{b b':Heap} (h:gK mg b) (k : ∀ a o,b.get? a=some o->b'.get? a=some o):gK mg b':=
 let ⟨bm,ob,e1,e2,e3,r⟩:=h;⟨bm,ob,e1,e2,k _ _ e3,r⟩
structure Mkr (M:Mo) (c P:Addr) (q:Str):Prop where
 hd : ∀ h:Heap,M.K.K.In h->CodeHd h c P
 bl:gK M.mg M.base
 gP:mainGlobals≠P
 mem:(P,q)∈M.K.tabs
 un : ∀ r∈M.K.tabs,r.1=P->r.2=q
noncomputable def KX.to (K:KX) (caps:List U) (capv:List V) (cds:List (Addr×Obj)):KX:=⟨K.K,caps,capv,cds,K.tabs⟩
noncomputable def Mo.to (M:Mo) (caps:List U) (capv:List V) (cds:List (Addr×Obj)) (base:Heap):Mo:=⟨M.P,M.w,M.K.to caps capv cds,M.mg,base,none⟩
structure FnC (M:Mo) (x:Str) (k:Nat) (ps:List Str) (F:Addr->MF->MF):Prop where
 ex : ∃ (f:Addr) (fd:FuncData),M.mg x=some (.ref f)/\ck M.K (.ref f)=true/\Binds M.K fd ps [] /\
  ∀ (caps:List U) (capv:List V) (cds:List (Addr×Obj)) (base:Heap) (g:Addr) (j:Nat) (lps:List Str) (φ:MF),gK M.mg base->k<=j->Lam (M.to caps capv cds base) g j lps φ ->
   kL M.P M.w M.K M.mg base CX0 (j+1) f fd ps (spM (M.K.to caps capv cds) (F g φ))
noncomputable def oQ (p:Arguments):Option (List Str):=match p with
 | ⟨[],[a],none,[],[],none,[]⟩=>some [a.arg]
 | ⟨[],[a,b],none,[],[],none,[]⟩=>some [a.arg,b.arg]
 | _=>none
theorem yO {p:Arguments}{ps:List Str} (h:oQ p=some ps) (nd:ps.Nodup) {K:ak}{name qual:Str}{body:Expr}{scope:Scope}{cl:List (Str×Addr)}{pm cdv ct:Value}:Binds K (kla_fn name qual p body scope cl pm cdv ct) ps []:=by
 unfold oQ at h
 split at h
 ·rename_i a
  cases h
  refine .all fun us hl => ?_
  match us,hl with
  | [x],_=>
    have e:([(a.arg,x)].lookup a.arg)=some x:=by simp [gf]
    simp [bindArgs,seqItems?,e]
    rfl
 ·rename_i a b
  cases h
  have hne:(b.arg == a.arg)=false:=by
   have:a.arg≠b.arg:=by simpa using nd
   simpa using dH this
  refine .all fun us hl => ?_
  match us,hl with
  | [x,y],_=>
    have e:([(a.arg,x),(b.arg,y)].lookup a.arg)=some x:=by simp [gf]
    have e2:([(a.arg,x),(b.arg,y)].lookup b.arg)=some y:=by simp [gf,hne]
    simp [bindArgs,seqItems?,e,e2]
    rfl
 ·cases h
theorem AR {p:Arguments}{ps:List Str} (h:oQ p=some ps) (env:Env):defaultsOf p env=([],[]):=by
 unfold oQ at h
 split at h
 ·rfl
 ·rfl
 ·cases h
section
variable {M:Mo}{X:Cx}{k:Nat}{N:List Str}{ns:List (Str×NameKind)}{pins:List (Addr×Obj)}{σ:St}{H:Hp}{s:Shared}
theorem tz (S:Sc M X k N ns) (I:Inv X pins σ H s) {y:Str}{c:Addr} (hy:ns.lookup y=some .cell) (hc:X.env.cells.lookup y=some c):c∉frs X.stack:=fun z=>by
 have fn:=(S.cel y hy).2
 rcases aG.mp (I.stkSub c z) with e | hb
 ·exact I.cne y c hc e
 ·obtain⟨_,o,ho,_⟩:=I.ok.funs.mem hb
  exact absurd (aF (aw ho) (I.ok.cab y c fn hc)) (bD _)
theorem xx (S:Sc M X k N ns) (I:Inv X pins σ H s) {μ:List Addr}{ρ:Rho} (er:ER H μ ρ σ) {names:List (Str×NameKind)} : ∀ {fs:List Str}{is:List Nat}{cs:List U},(∀ y∈fs,ns.lookup y=some .cell/\(y,aJ)∈names) ->
  cQ (fun y=>N.findIdx? (· == y)) fs=some is->lx is ρ=some cs -> ∃ cv,RUs H μ cs cv/\kY (baseOf s.heap H (frs X.stack)) (fj X.env.cells names []) fs cv
 | [],is,cs,_,h1,h2=>by cases h1;cases h2;exact⟨[],.nil,trivial⟩
 | y::fs,is,cs,hf,h1,h2=>by
   unfold cQ at h1
   cases e1:N.findIdx? (· == y) with
   | none=>rw [e1] at h1;cases h1
   | some i=>
     rw [e1] at h1
     simp only [ah] at h1
     cases e2:cQ (fun y=>N.findIdx? (· == y)) fs with
     | none=>rw [e2] at h1;cases h1
     | some is'=>
       rw [e2] at h1;cases h1
       unfold lx cQ at h2
       cases e3:(ρ[i]?).bind id with
       | none=>rw [e3] at h2;cases h2
       | some u=>
         rw [e3] at h2
         simp only [ah] at h2
         cases e4:cQ (fun i=>(ρ[i]?).bind id) is' with
         | none=>rw [e4] at h2;cases h2
         | some cs'=>
           rw [e4] at h2;cases h2
           obtain⟨cv,r1,r2⟩:=xx S I er (fun z hz=>hf z (az _ hz)) e2 (show lx is' ρ=some cs' from e4)
           have hρ:ρ[i]? = some (some u):=by
            cases q:ρ[i]? with
            | none=>rw [q] at e3;cases e3
            | some o=>rw [q] at e3;cases o with
              | none=>cases e3
              | some w=>cases e3;rfl
           obtain⟨v,hσ,rv⟩:=er.get i u hρ
           obtain⟨hi,hy,_⟩:=dI.mp e1
           have hN:X.N[i]? = some y:=by rw [S.hN,aS hi,eq_of_beq hy]
           obtain⟨m,hn,hl⟩:=I.loc
           have hcl:=(S.cel y (hf y aV).1).1
           obtain⟨w,rw',l⟩:=hl i y v hN hσ (.inr (.inl hcl))
           rcases l with⟨hk,_⟩ | ⟨_,c,hc,o,ho,hd⟩
           ·have hk':X.env.scope.names.lookup y=some .local:=hk
            rw [hcl] at hk';cases hk'
           ·refine⟨v::cv,.cons rv r1,⟨c,o,w,yD (hf y aV).2 hc,?_,hd,rw'⟩,r2⟩
            exact ib ho (I.freeC y c hc) (tz S I (hf y aV).1 hc)
theorem Co {F:Addr->MF->MF}{f0:Addr}{fd0:FuncData}{gps ps fs:List Str}{is:List Nat}{k' j:Nat}{ml:ME}{params:Arguments}{body:Expr}{scope:Scope}{qual:Str}{pm ctv:Value}{c' f:Addr}{oc:Obj}{ws:Array Value}{t:Tok}
  {μ:List Addr}{S1 S':Sto}{ρ:Rho}{x u:U}{cs:List U}{v1:V}{u1:Value}{Q:VK}
  (S:Sc M X k N ns) (hB:gK M.mg M.base) (hj:k'<=j+1) (hk:j+2<=k) (hbd:Binds M.K fd0 gps [])
  (FF : ∀ (caps:List U) (capv:List V) (cds:List (Addr×Obj)) (base:Heap) (g:Addr) (j:Nat) (lps:List Str) (φ:MF),gK M.mg base->k'<=j->Lam (M.to caps capv cds base) g j lps φ->kL M.P M.w M.K M.mg base CX0 (j+1) f0 fd0 gps (spM (M.K.to caps capv cds) (F g φ)))
  (hps:oQ params=some ps) (LS:kl ps fs scope) (hfs : ∀ y∈fs,ns.lookup y=some .cell/\(y,aJ)∈scope.names) (his:cQ (fun y=>N.findIdx? (· == y)) fs=some is)
  (hb : ∀ (caps:List U) (capv:List V) (cds:List (Addr×Obj)) (base:Heap),gK M.mg base -> ∀ (X':Cx),Sc (M.to caps capv cds base) X' j (ps++fs) scope.names->PE X' body (tM (M.K.to caps capv cds) ml))
  (I:Inv X pins σ H s) (hr:HR M.K μ S1 H) (er:ER H μ ρ σ) (hcs:lx is ρ=some cs) (spec:F f (oI ps.length ml cs) [x,.obj f] S1=some (u,S')) (rx:RU H μ x v1) (ru:RelV v1 u1) (aft:Aft M.K μ H u S' Q)
  (hf:s.heap.get? f=some (kla_obj "<lambda>" qual params body scope (fj X.env.cells scope.names []) pm c' ctv)) (hfn:H f=none) (hff:f∉frs X.stack) (hc:H c'=some (.frz oc fz)) (hoc:oc.data = .fields ws) (hq:ws[1]? = some (.str qual t)) :
  aI (model X.prog X.w) X.A (call (.ref f0) [u1,.ref f]) (EP X pins σ Q) X.xe s:=by
 obtain⟨cv,rc,C⟩:=xx S I er hfs his hcs
 have hB':gK M.mg (baseOf s.heap H (frs X.stack)):=hB.keeps fun a o e=>uO I a o (by rw [S.hb];exact e)
 have lam:Lam (M.to cs cv (M.K.cds ++ [(c',oc)]) (baseOf s.heap H (frs X.stack))) f (j+1) ps (oI ps.length ml cs):=by
  refine⟨_,.inl ⟨_,_,_,ib hf hfn hff⟩,yO hps (pW.mp LS.nd).1,?_⟩
  refine E4 (M:=M.to cs cv (M.K.cds ++ [(c',oc)]) (baseOf s.heap H (frs X.stack))) rfl (ib hf hfn hff) (aR _ aV) hoc hq LS C (fun y c e => ?_) (fun y z c e1 e2=>I.ok.inj y z c (jl e1).1 (jl e2).1) (hb _ _ _ _ hB')
  obtain⟨e1,e2⟩:=jl e
  obtain⟨v,o,ho,hd⟩:=I.cell y c e1
  exact⟨o,v,ib ho (I.freeC y c e1) (tz S I (hfs y (LS.fre _ e2 rfl)).1 e1),hd⟩
 have FO:=FF _ _ _ _ f (j+1) ps _ hB' hj lam
 rw [<- S.hP,<- S.hw,<- S.hK,<- S.hm] at FO
 have hr':HR (M.K.to cs cv (M.K.cds ++ [(c',oc)])) μ S1 H:=⟨hr.len,hr.inj,hr.cell,rc,fun q hq=>by
  rcases bx.mp hq with z | z
  ·exact hr.ext.cds q z
  ·have e:q=(c',oc):=by simpa using z
   rw [e];exact hc,hr.ext.tab⟩
 have hsp:spM (M.K.to cs cv (M.K.cds ++ [(c',oc)])) (F f (oI ps.length ml cs)) [v1,.ref f] H Q E0:=by
  refine⟨μ,S1,[x,.obj f],u,S',hr',.cons rx (.cons (by simp only [RU]) .nil),spec,fun μ' v H' p' k' hr2 ru2 => ?_⟩
  refine aft μ' v H' p' k' ⟨hr2.len,hr2.inj,hr2.cell,RUs.mono k' p' _ _ hr.ext.cap,fun q hq=>hr2.ext.cds q (bA _ hq),hr2.ext.tab⟩ ru2
 have hl:([u1,be f] ++ []).length=gps.length:=by have:=FO.len _ _ _ _ hsp;simpa using this
 rw [<- S.hK] at hbd
 refine wpAny_call (jF (FO.run X.A X.stack s H ⟨[u1,.ref f],[]⟩ [u1,.ref f] [v1,.ref f] Q E0 (S.room.mono hk) (xO I) (hbd s _ I.kIn hl) (.cons ru (.cons rfl .nil)) hsp) fun r s' hq => ?_)
 cases r with
 | error e=>exact hq.elim
 | ok fl=>
   cases fl with
   | ret u=>exact I.after hq
   | next=>exact bZ hq
   | brk=>exact bZ hq
   | cont=>exact bZ hq
theorem Df {F:Addr->MF->MF}{gps ps fs:List Str}{is:List Nat}{k' j:Nat}{ml ma:ME}{g q:Str}{c P:Addr}{params:Arguments}{a body:Expr}{scope:Scope}{p1 lp pos:Pos}
  (S:Sc M X k N ns) (FC:FnC M g k' gps F) (hj:k'<=j+1) (hk:j+2<=k) (hmk:M.mkr=some (c,q)) (MK:Mkr M c P (q++"<lambda>"))
  (hg:dY ns g=true) (hgd:(g == ("__debug__":Str))=false) (ha:PE X a (tM M.K ma)) (hs:starEach [a,.Lambda params body scope lp] X.env=(false,eval a X.env)::starEach [.Lambda params body scope lp] X.env)
  (hps:oQ params=some ps) (LS:kl ps fs scope) (hfs : ∀ y∈fs,ns.lookup y=some .cell/\(y,aJ)∈scope.names) (his:cQ (fun y=>N.findIdx? (· == y)) fs=some is)
  (hb : ∀ (caps:List U) (capv:List V) (cds:List (Addr×Obj)) (base:Heap),gK M.mg base -> ∀ (X':Cx),Sc (M.to caps capv cds base) X' j (ps++fs) scope.names->PE X' body (tM (M.K.to caps capv cds) ml)) :
  PE X (.Call (.Name g p1) [a,.Lambda params body scope lp] [] pos) (tM M.K (jZ F ps.length is ml ma)):=by
 intro pins s σ H Q I h
 obtain⟨μ,S0,ρ,u,S',hr,er,qm,aft⟩:=h
 unfold jZ at qm
 obtain⟨x,S1,e1,qm⟩:=aZ qm
 cases hcs:lx is ρ with
 | none=>rw [hcs] at qm;cases qm
 | some cs=>
 rw [hcs] at qm
 simp only [ah] at qm
 split at qm
 rotate_left
 ·cases qm
 rename_i hx
 have spec : ∀ f,F f (oI ps.length ml cs) [x,.obj f] S1=some (u,S'):=fun f=>(hx.choose_spec f).trans qm
 obtain⟨f0,fd0,hm,hkp,hbd,FF⟩:=FC.ex
 rw [<- S.hK] at hkp
 refine eQ (nZ I (S.gl hg) (by rw [S.hm];exact hm) ?_ hgd)
 refine ni (h₀:=X.base) I.ok.mod.kin hkp ?_ hs rfl
 rw [hs]
 show aI _ _ (spliced ((false,eval a X.env)::backTo pos (starEach [.Lambda params body scope lp] X.env))) _ _ s
 refine nN (thn (ha pins s σ H (fun v H1 => ∃ μ1,Pre μ μ1/\bj H H1/\HR M.K μ1 S1 H1/\RU H1 μ1 x v) I ⟨μ,S0,ρ,x,S1,hr,er,e1,fun μ' v H' p k hr' ru=>⟨μ',p,k,hr',ru⟩⟩) fun u1 s1 ⟨v1,H1,I1,r1,μ1,pr1,kp1,hr1,rx1⟩ => ?_)
 obtain⟨hcode,hqual⟩:=S.cod c q hmk
 obtain⟨ps0,hP,tr,al⟩:=hr1.ext.tab _ MK.mem
 have hPh:s1.heap.get? P=some (tabObj ps0):=I1.hok P _ hP
 have kin:M.K.K.In s1.heap:=by have:=I1.kIn;rwa [S.hK] at this
 have C:CodeHd s1.heap c P:=MK.hd _ kin
 have hgl:s1.heap.Ns mainGlobals X.mg:=I1.mod.glob.keeps I1.bk
 obtain⟨bm,ob,b1,b2,b5,b6,b7,b8⟩:=MK.bl
 have b5':s1.heap.get? bm=some ob:=I1.bk bm ob (by rw [S.hb];exact b5)
 have b3:bm≠mainGlobals:=fun z=>by
  obtain⟨o,es,ep,e,hd,_⟩:=hgl
  rw [<- z,b5'] at e;cases e;rw [b8] at hd;cases hd
 have b4:bm≠P:=fun z=>by
  rw [z,hPh] at b5';cases b5';cases b8
 have BA:s1.heap.BuiltinsAt X.mg P:=⟨bm,ob,by rw [S.hm];exact b1,b2,b3,b4,b5',b6,b7,b8⟩
 have hclo:closureFor scope X.env=pure (fj X.env.cells scope.names []):=vK fun y hy hyf=>I.ok.has y.1 (.inl (S.cel y.1 (hfs y.1 (LS.fre y hy hyf)).1).1)
 show aI _ _ (spliced [(false,eval (.Lambda params body scope lp) X.env)]) _ _ s1
 refine nN (PySem.W.kla_eval (AR hps _) ?_)
 have fin : ∀ (H2:Hp) (s2:Shared) (c' f:Addr) (ctv:Value) (oc:Obj) (ws:Array Value) (t:Tok),Inv X pins σ H2 s2->bj H1 H2->HR M.K μ1 S1 H2 ->
   s2.heap.get? f=some (kla_obj "<lambda>" (X.env.qual++"<lambda>") params body scope (fj X.env.cells scope.names []) ((X.mg "__name__").getD .none) c' ctv)->H2 f=none->s1.heap.objs.size<=f->H2 c'=some (.frz oc fz)->oc.data = .fields ws->ws[1]? = some (.str (q++"<lambda>") t) ->
   aI (model X.prog X.w) X.A (spliced []) (fun vs s₂=>X.K.In s₂.heap/\aI (model X.prog X.w) X.A (call (.ref f0) ([]++(u1::be f::vs))) (EP X pins σ Q) X.xe s₂) X.xe s2:=by
  intro H2 s2 c' f ctv oc ws t I2 kp2 hr2 hf hfn hfs' hc hoc hq
  have hff:f∉frs X.stack:=fun z=>by
   obtain⟨_,o,ho,_⟩:=I1.stack.mem z
   exact absurd (aF (aw ho) hfs') (bD _)
  rw [<- hqual] at hq
  exact Calls.spliced_nil ⟨I2.kIn,Co S MK.bl hj hk hbd FF hps LS hfs his hb I2 hr2 (er.mono (kp1.trans kp2) pr1) hcs (spec f) (RU.mono kp2 (Pre.refl _) _ _ rx1) r1 (aft.mono pr1 (kp1.trans kp2)) hf hfn hff hc hoc hq⟩
 cases ham:codeAmong lp ps0.toList with
 | none=>
   refine PySem.W.kla_makeFunction (mg:=X.mg) hclo I1.ok.glob hgl hcode C hPh tr ham MK.gP BA fun c' ctv h' tk hx hge hlt hrec htb => ?_
   obtain⟨c2,oc,ws,t,e,hoc,hd,hq'⟩:=hrec
   cases e
   have I2:=yI (ob:=kla_obj "<lambda>" (X.env.qual++"<lambda>") params body scope (fj X.env.cells scope.names []) ((X.mg "__name__").getD .none) c' ctv) (tk:=tk) I1 hP hx hge hoc htb
   rw [hqual] at hq'
   obtain⟨kp2,hr2⟩:=hr1.table (a:=(lp.line:Int)) (b:=(lp.col:Int)) hP (I1.hok.fresh hge) hd hq' MK.un
   have hsz:s1.heap.objs.size<=h'.objs.size:=br hge (di hlt)
   refine fin _ _ c' h'.objs.size ctv oc ws t I2 kp2 hr2 (ay _ rfl) ?_ hsz ?_ hd hq'
   ·rw [bg (dA (aw htb)),bg (dA hlt)]
    exact I1.hok.fresh hsz
   ·rw [bg (bf hP (I1.hok.fresh hge)).symm,bS]
 | some cv=>
   obtain⟨c',oc,ws,t,rfl,hfr,hd,hq'⟩:=al lp cv ham
   refine PySem.W.kla_makeFunctionHit (mg:=X.mg) hclo I1.ok.glob hgl hcode C hPh tr ham BA fun ctv h' tk hk hsz => ?_
   have I2:=I1.kept (t':=tk) (h':=h'.push (kla_obj "<lambda>" (X.env.qual++"<lambda>") params body scope (fj X.env.cells scope.names []) ((X.mg "__name__").getD .none) c' ctv)) (fun b o e=>af _ (hk b o e))
   exact fin H1 _ c' h'.objs.size ctv oc ws t I2 (bj.refl _) hr1 (ay _ rfl) (I1.hok.fresh hsz) hsz hfr hd hq'
end
end G
end
section
namespace G
open PySem PySem.Spec L2
open PyProof.Rows hiding St
section
abbrev NS:=List (Str×NameKind)
structure Tb where
 D:List (Str×MF)
 C:List (Str×U)
 L:List (Str×Addr×MF)
 H:List (Str×(Addr->MF->MF))
 mkr:Bool
noncomputable def Tb.bare (T:Tb):Tb:=⟨T.D,T.C,[],T.H,false⟩
noncomputable def frees (sc:Scope):List Str:=(sc.names.filter fun y=>y.2 == .free).map (·.1)
noncomputable def vZ (ps:List Str) (sc:Scope) (ns:NS):Bool:=
 sc.kind == .function && !sc.isCoroutine && !sc.isGenerator&&decide ((ps++frees sc).Nodup)&&ps.all (fun p=>sc.names.lookup p == some .local||sc.names.lookup p == some .cell)&&sc.names.all (fun y => !(y.2 == .cell)||sc.names.lookup y.1 == some .cell)&&(frees sc).all fun y=>sc.names.lookup y == some .free&&ns.lookup y == some .cell
noncomputable def notStar:Expr->Bool
 | .Starred _ _=>false
 | _=>true
noncomputable def kD:Expr->Bool
 | .ListComp _ _ _ _=>false
 | .SetComp _ _ _ _=>false
 | .DictComp _ _ _ _ _=>false
 | _=>true
noncomputable def jn:Expr->Bool
 | .Set _ _ _=>false
 | _=>true
noncomputable def kg:Expr->Bool
 | .Slice _ _ _ _=>false
 | _=>true
noncomputable def notTuple:Expr->Bool
 | .Tuple _ _ _=>false
 | _=>true
noncomputable def nS:List Expr->Bool
 | [.Subscript _ _ _,.Subscript _ _ _]=>true
 | _=>false
noncomputable def baseOk:Expr->Bool
 | .Call (.Name _ _) [] [] _=>false
 | _=>true
noncomputable def plainT:Expr->Bool
 | .Name _ _=>true
 | .Call _ _ _ _=>true
 | .Subscript _ _ _=>true
 | .Constant _ _ _=>true
 | _=>false
noncomputable def dummy (N:List Str):Str:=⟨#[N.length+1]⟩
noncomputable def yQ (N:List Str) (x:Str):List Str:=(N.map fun y=>if y == x then dummy N else y) ++ [x]
noncomputable def eM (x:Str):Bool := !(x == ("__debug__":Str)) && !(x == ("__classdict__":Str))
noncomputable def slot (N:List Str) (x:Str):Option Nat:=N.findIdx? (· == x)
noncomputable def FN (g:Str):Option MF:=
 if g == ("len":Str) then some bW else if g == ("tuple":Str) then some bG
 else if g == ("max":Str) then some p9 else if g == ("min":Str) then some mE else if g == ("all":Str) then some sj
 else if g == ("sorted":Str) then some dR    else none
noncomputable def i4:List Str := ["len","tuple","list","max","min","range","isinstance","bool","int","str","dict","all","any","sorted","reversed","zip","enumerate","set","sum","repr"]
noncomputable def zI (t:Str):Option String:=
 if t == ("tuple":Str) then some "tuple" else if t == ("list":Str) then some "list" else if t == ("int":Str) then some "int"
 else if t == ("bool":Str) then some "bool" else if t == ("str":Str) then some "str" else if t == ("dict":Str) then some "dict" else none
noncomputable def FP:Operator->Option F2
 | .Add=>some cW
 | .Sub=>some pD
 | .Mult=>some d6
 | .FloorDiv=>some oDiv
 | .Mod=>some oMod
 | .Pow=>some se
 | _=>none
noncomputable def AQ:CmpOp->Option F2
 | .Lt=>some oLt
 | .LtE=>some oLe
 | .Gt=>some oGt
 | .GtE=>some oGe
 | .Eq=>some oEq
 | .NotEq=>some oNe
 | .NotIn=>some fX
 | .Is=>some oIs
 | _=>none
noncomputable def sNo:MS:=fun _ _=>none
noncomputable def Im:MS:=fun ρ S=>some (.bk,ρ,S)
noncomputable def Iy:MS:=fun ρ S=>some (.ct,ρ,S)
noncomputable def Aw (name:Str) (ma:ME) (mas:MA):Option ME:=
 if name == ("append":Str) then some (mML bH ma mas) else if name == ("pop":Str) then some (mML jv ma mas)
 else if name == ("index":Str) then some (mMT gq ma mas)
 else if name == ("extend":Str) then some (mML iJ ma mas) else none
structure Rc where
 e:Tb->List Str->NS->Expr->Option ME
 c:Tb->List Str->NS->Str->List Expr->Option ME
 v:Tb->List Str->NS->Str->List Expr->Option ME
 o:Tb->List Str->NS->Option Expr->Option (Option ME)
 t:Tb->List Str->NS->Expr->Option MT
 l:Tb->List Str->NS->Bool->List Expr->Option MT
 f:Tb->List Str->NS->List Expr->Option MT
 a:Tb->List Str->NS->List Expr->Option MA
 i:Tb->List Str->NS->Expr->Option MI
 g:Tb->List Str->NS->Expr->Option MG
 gs:Tb->List Str->NS->List Expr->Option MGs
 s:Tb->List Str->NS->Stmt->Option MS
 b:Tb->List Str->NS->List Stmt->Option MS
section
variable (R:Rc) (T:Tb) (N:List Str) (ns:NS)
noncomputable def Jy:Const->Option ME
 | .int i=>some (mC (.int i))
 | .bool b=>some (mC (.bl b))
 | .none=>some (mC .non)
 | .str x=>some (mC (.str x))
 | _=>none
noncomputable def eUn (a:Expr):UnaryOp->Option ME
 | .USub=>(R.e T N ns a).map (m1 h9)
 | .Not=>(R.e T N ns a).map (m1 Dx)
 | _=>none
noncomputable def eBo (op:BoolOp) (p:Pos):List Expr->Option ME
 | []=>none
 | [a]=>R.e T N ns a
 | a::b::r=>(R.e T N ns a).bind fun ma=>match op with
   | .And=>(R.e T N ns (.BoolOp .And (b::r) p)).map (tF ma)
   | .Or=>(R.e T N ns (.BoolOp .Or (b::r) p)).map (mOr ma)
noncomputable def eCm (a:Expr):List CmpOp->List Expr->Option ME
 | [op],[b]=>if jn b then (R.e T N ns a).bind fun ma=>(R.e T N ns b).bind fun mb=>(AQ op).map fun f=>m2 f ma mb else none
 | _,_=>none
noncomputable def eSb (a:Expr):Expr->Option ME
 | .Slice _ _ _ _=>none
 | b=>if kg b then (R.e T N ns a).bind fun ma=>(R.e T N ns b).map (m2 oIx ma) else none
noncomputable def eDi:List (Option Expr)->List Expr->Option ME
 | [],[]=>some jC
 | [some a],[b]=>(R.e T N ns a).bind fun ma=>(R.e T N ns b).map (pE ma)
 | _,_=>none
noncomputable def eLt (elt it:Expr) (ifs:List Expr) (scope:Scope):Expr->Option ME
 | .Name x _=>if scope.kind == .function&&mz N (yQ N x) ns scope.names x&&jn it then
    (R.i T N ns it).bind fun mi=>(R.f T (yQ N x) scope.names ifs).bind fun mt=>(R.e T (yQ N x) scope.names elt).map (bX mi mt)
   else none
 | _=>none
noncomputable def eLc (elt:Expr) (scope:Scope):List Comprehension->Option ME
 | [c]=>if c.is_async=0 then eLt R T N ns elt c.iter c.ifs scope c.target else none
 | _=>none
noncomputable def eRg (g:Str):List Expr->Option ME
 | [a]=>(R.a T N ns [a]).map fun m=>if g == ("list":Str) then gW (iR1 m) else kX (iR1 m)
 | [a,b]=>(R.a T N ns [a,b]).map fun m=>if g == ("list":Str) then gW (iR2 m) else kX (iR2 m)
 | _=>none
noncomputable def eC1 (g:Str):Expr->Option ME
 | .Call (.Name r q) rs [] rp=>if (g == ("list":Str)||g == ("tuple":Str))&&r == ("range":Str) then (if dY ns r then eRg R T N ns g rs else none) else R.c T N ns g [.Call (.Name r q) rs [] rp]
 | a=>R.c T N ns g [a]
noncomputable def eIs (g t:Str) (tp:Pos) (a:Expr):Option ME:=
 if g == ("isinstance":Str) then (if dY ns t&&notStar a then (zI t).bind fun c=>(R.e T N ns a).map (m1 (jE c)) else none) else R.c T N ns g [a,.Name t tp]
noncomputable def IP (g:Str) (a:Expr) (p:Arguments) (b:Expr) (sc:Scope):Option ME:=
 if T.mkr&&notStar a then (oQ p).bind fun ps=>
    if vZ ps sc ns then (cQ (fun y=>N.findIdx? (· == y)) (frees sc)).bind fun is=>(R.e T N ns a).bind fun ma=>(R.e T.bare (ps++frees sc) sc.names b).bind fun ml=>(T.H.lookup g).map fun F=>jZ F ps.length is ml ma else none
   else none
noncomputable def eC2 (g:Str) (a:Expr):Expr->Option ME
 | .Name t tp=>eIs R T N ns g t tp a
 | .Lambda p b sc _=>IP R T N ns g a p b sc
 | b=>R.c T N ns g [a,b]
noncomputable def eCf (g:Str):List Expr->Option ME
 | []=>(T.D.lookup g).map fun mf=>mFn mf ai
 | [a]=>eC1 R T N ns g a
 | [a,b]=>eC2 R T N ns g a b
 | a::b::c::r=>R.c T N ns g (a::b::c::r)
noncomputable def eMe (o:Expr) (name:Str) (p q:Pos):List Expr->Option ME
 | []=>if baseOk o&&(p.endLine == q.line)&&name == ("pop":Str) then (R.e T N ns o).map fun mo=>mML so mo ai else none
 | [a]=>if baseOk o&&(p.endLine == q.line)&&notStar a then (R.e T N ns o).bind fun mo=>(R.a T N ns [a]).bind (Aw name mo) else none
 | _=>none
noncomputable def eCa (as:List Expr) (q:Pos):Expr->Option ME
 | .Name g _=>if dY ns g&&eM g then eCf R T N ns g as else R.v T N ns g as
 | .Attribute o name p=>eMe R T N ns o name p q as
 | _=>none
end
noncomputable def sE (R:Rc) (T:Tb):List Str->NS->Expr->Option ME:=fun N ns e=>match e with
  | .Name x _=>if eM x then (if qb ns x then (slot N x).map ab else if dY ns x then (T.C.lookup x).map mC else none) else none
  | .Constant c _ _=>Jy c
  | .BinOp a op b _=>(R.e T N ns a).bind fun ma=>(R.e T N ns b).bind fun mb=>(FP op).map fun f=>m2 f ma mb
  | .UnaryOp op a _=>eUn R T N ns a op
  | .BoolOp op vs p=>eBo R T N ns op p vs
  | .Compare a ops bs _=>eCm R T N ns a ops bs
  | .IfExp c a b _=>(R.t T N ns c).bind fun mc=>(R.e T N ns a).bind fun ma=>(R.e T N ns b).map (uR mc ma)
  | .Subscript a b _=>eSb R T N ns a b
  | .Dict ks vs _=>eDi R T N ns ks vs
  | .Tuple es _ _=>(R.a T N ns es).map ft
  | .List es _=>(R.a T N ns es).map cm
  | .ListComp elt gens scope _=>eLc R T N ns elt scope gens
  | .Call f as kws q=>if kws.isEmpty then eCa R T N ns as q f else none
  | _=>none
noncomputable def sC (R:Rc) (T:Tb):List Str->NS->Str->List Expr->Option ME:=fun N ns g as=>(R.a T N ns as).bind fun mas=>match FN g with
  | some mf=>some (mFn mf mas)
  | none=>(T.D.lookup g).map fun mf=>mFn mf mas
noncomputable def sV (R:Rc) (T:Tb):List Str->NS->Str->List Expr->Option ME:=fun N ns g as=>match as with
 | []=>none
 | a::as=>if qb ns g&&eM g then (T.L.lookup g).bind fun q=>(slot N g).bind fun i=>(R.a T N ns (a::as)).map (vE i q.1 q.2) else none
noncomputable def sO (R:Rc) (T:Tb):List Str->NS->Option Expr->Option (Option ME):=fun N ns o=>match o with
  | none=>some none
  | some e=>(R.e T N ns e).map some
noncomputable def sT (R:Rc) (T:Tb):List Str->NS->Expr->Option MT:=fun N ns e=>match e with
  | .UnaryOp .Not a _=>(R.t T N ns a).map nL
  | .BoolOp .And vs _=>R.l T N ns true vs
  | .BoolOp .Or vs _=>R.l T N ns false vs
  | .Compare a [op] [b] _=>if jn b then (R.e T N ns a).bind fun ma=>(R.e T N ns b).bind fun mb=>(AQ op).map fun f=>cOf (m2 f ma mb) else none
  | e=>if plainT e then (R.e T N ns e).map cOf else none
noncomputable def sL (R:Rc) (T:Tb):List Str->NS->Bool->List Expr->Option MT:=fun N ns b vs=>match vs with
  | []=>none
  | [a]=>R.t T N ns a
  | a::r=>(R.t T N ns a).bind fun ma=>(R.l T N ns b r).map fun mr=>if b then tK ma mr else cOr ma mr
noncomputable def sF (R:Rc) (T:Tb):List Str->NS->List Expr->Option MT:=fun N ns ifs=>match ifs with
  | []=>some cTT
  | [c]=>R.t T N ns c
  | _=>none
noncomputable def sA (R:Rc) (T:Tb):List Str->NS->List Expr->Option MA:=fun N ns es=>match es with
  | []=>some ai
  | e::r=>if notStar e then (R.e T N ns e).bind fun m=>(R.a T N ns r).map (aa m) else none
noncomputable def sI (R:Rc) (T:Tb):List Str->NS->Expr->Option MI:=fun N ns e=>match e with
  | .Call (.Name g q) as [] p=>
    if g == ("range":Str) then
     if dY ns g then match as with
      | [a]=>(R.a T N ns [a]).map iR1
      | [a,b]=>(R.a T N ns [a,b]).map iR2
      | _=>none
     else none
    else (R.e T N ns (.Call (.Name g q) as [] p)).map cM
  | e=>(R.e T N ns e).map cM
noncomputable def sG (R:Rc) (T:Tb):List Str->NS->Expr->Option MG:=fun N ns e=>match e with
  | .Name x _=>if oM ns x then (slot N x).map gN else none
  | .Subscript a b _=>if kg b then (R.e T N ns a).bind fun ma=>(R.e T N ns b).map (gSb ma) else none
  | .Tuple es _ _=>(R.gs T N ns es).map (gTp es.length)
  | _=>none
noncomputable def sGs (R:Rc) (T:Tb):List Str->NS->List Expr->Option MGs:=fun N ns es=>match es with
  | []=>some kT
  | e::r=>if notStar e then (R.g T N ns e).bind fun g=>(R.gs T N ns r).map (dM g) else none
noncomputable def FL (R:Rc) (T:Tb) (N:List Str) (ns:NS) (e:Expr):Option MI:=match e with
  | .Call (.Name g q) [a,b] [] p=>if g == ("zip":Str) then (if dY ns g then (R.a T N ns [a,b]).map rA else none) else (R.e T N ns (.Call (.Name g q) [a,b] [] p)).map cM
  | e=>(R.e T N ns e).map cM
noncomputable def eIt (R:Rc) (T:Tb) (N:List Str) (ns:NS) (e:Expr):Option MI:=match e with
  | e=>FL R T N ns e
noncomputable def FK (R:Rc) (T:Tb) (N:List Str) (ns:NS) (y:Str) (elt it:Expr) (ifs:List Expr) (scope:Scope):Expr->Option MS
 | .Name x _=>
   if oM ns y&&(scope.kind == .function&&mz N (yQ N x) ns scope.names x&&jn it) then
    (slot N y).bind fun i=>(R.i T N ns it).bind fun mi=>(R.f T (yQ N x) scope.names ifs).bind fun mt=>(R.e T (yQ N x) scope.names elt).map fun me=>bC i (bX mi mt me)
   else none
 | _=>none
noncomputable def Ia (R:Rc) (T:Tb) (N:List Str) (ns:NS) (y:Str) (elt:Expr) (scope:Scope):List Comprehension->Option MS
 | [c]=>if c.is_async=0 then FK R T N ns y elt c.iter c.ifs scope c.target else none
 | _=>none
noncomputable def E2 (R:Rc) (T:Tb) (N:List Str) (ns:NS) (x:Str):Expr->Option MS
 | .ListComp elt gens scope _=>Ia R T N ns x elt scope gens
 | e=>if oM ns x&&kD e then (slot N x).bind fun i=>(R.e T N ns e).map (bC i) else none
noncomputable def Em (R:Rc) (T:Tb) (N:List Str) (ns:NS) (e:Expr):Expr->Option MS
  | .Name x _=>E2 R T N ns x e
  | .Subscript a b _=>if kD e&&kg b then (R.e T N ns a).bind fun ma=>(R.e T N ns b).bind fun mb=>(R.e T N ns e).map (dy ma mb) else none
  | .Tuple ts kt pt=>if kD e&&(notTuple e||nS ts) then (R.g T N ns (.Tuple ts kt pt)).bind fun g=>(R.e T N ns e).map fun me=>yb me g else none
  | _=>none
noncomputable def sAs (R:Rc) (T:Tb) (N:List Str) (ns:NS) (e:Expr):List Expr->Option MS
 | [t]=>Em R T N ns e t
 | _=>none
noncomputable def sAu (R:Rc) (T:Tb) (N:List Str) (ns:NS) (x:Str) (e:Expr):Operator->Option MS
  | .Add=>none
  | _=>none
noncomputable def Iv (R:Rc) (T:Tb) (N:List Str) (ns:NS) (op:Operator) (e:Expr):Expr->Option MS
 | .Name x _=>sAu R T N ns x e op
 | _=>none
noncomputable def sRt (R:Rc) (T:Tb) (N:List Str) (ns:NS):Option Expr->Option MS
 | some e=>(R.e T N ns e).map cK
 | none=>some (cK (mC .non))
noncomputable def sFo (R:Rc) (T:Tb) (N:List Str) (ns:NS) (it:Expr) (body:List Stmt):Expr->Option MS
  | .Name x _=>if oM ns x&&jn it then (slot N x).bind fun i=>(R.i T N ns it).bind fun mi=>(R.b T N ns body).map (dD i mi) else none
  | .Tuple ts kt pt=>if jn it then (R.g T N ns (.Tuple ts kt pt)).bind fun g=>(eIt R T N ns it).bind fun mi=>(R.b T N ns body).map (kU g mi) else none
  | _=>none
noncomputable def JG (R:Rc) (T:Tb) (N:List Str) (ns:NS) (t it:Expr) (body:List Stmt):List Stmt->Option MS
 | []=>sFo R T N ns it body t
 | _=>none
noncomputable def sWh (R:Rc) (T:Tb) (N:List Str) (ns:NS) (c:Expr) (body:List Stmt):List Stmt->Option MS
 | []=>(R.t T N ns c).bind fun mc=>(R.b T N ns body).map (gU mc)
 | _=>none
noncomputable def sS (R:Rc) (T:Tb):List Str->NS->Stmt->Option MS:=fun N ns st=>match st with
  | .Assign ts e _=>sAs R T N ns e ts
  | .AugAssign t op e _=>Iv R T N ns op e t
  | .Expr e _=>if kD e then (R.e T N ns e).map cy else none
  | .Return o _=>sRt R T N ns o
  | .If c a b _=>(R.t T N ns c).bind fun mc=>(R.b T N ns a).bind fun ma=>(R.b T N ns b).map (sIf mc ma)
  | .For t it body els _=>JG R T N ns t it body els
  | .While c body els _=>sWh R T N ns c body els
  | .Pass _=>some cJ
  | .Break _=>some Im
  | .Raise _ _ _=>some sNo
  | .Continue _=>some Iy
  | _=>none
noncomputable def sB (R:Rc) (T:Tb):List Str->NS->List Stmt->Option MS:=fun N ns sts=>match sts with
  | []=>some cJ
  | [s]=>R.s T N ns s
  | s::r=>(R.s T N ns s).bind fun ms=>(R.b T N ns r).map (ba ms)
noncomputable def rc:Nat->Rc
 | 0=>⟨fun _ _ _ _=>none,fun _ _ _ _ _=>none,fun _ _ _ _ _=>none,fun _ _ _ _=>none,fun _ _ _ _=>none,fun _ _ _ _ _=>none,fun _ _ _ _=>none,fun _ _ _ _=>none,fun _ _ _ _=>none,fun _ _ _ _=>none,fun _ _ _ _=>none,fun _ _ _ _=>none,fun _ _ _ _=>none⟩
 | n+1=>⟨sE (rc n),sC (rc n),sV (rc n),sO (rc n),sT (rc n),sL (rc n),sF (rc n),sA (rc n),sI (rc n),sG (rc n),sGs (rc n),sS (rc n),sB (rc n)⟩
abbrev cE (T:Tb) (n:Nat):=(rc n).e T
abbrev cC (T:Tb) (n:Nat):=(rc n).c T
abbrev cV (T:Tb) (n:Nat):=(rc n).v T
abbrev cO (T:Tb) (n:Nat):=(rc n).o T
abbrev cT (T:Tb) (n:Nat):=(rc n).t T
abbrev cL (T:Tb) (n:Nat):=(rc n).l T
abbrev cF (T:Tb) (n:Nat):=(rc n).f T
abbrev cA (T:Tb) (n:Nat):=(rc n).a T
abbrev cI (T:Tb) (n:Nat):=(rc n).i T
abbrev cG (T:Tb) (n:Nat):=(rc n).g T
abbrev cGs (T:Tb) (n:Nat):=(rc n).gs T
abbrev cS (T:Tb) (n:Nat):=(rc n).s T
abbrev cB (T:Tb) (n:Nat):=(rc n).b T
end
end G
end
section
namespace G
open PySem PySem.Spec L2
open PyProof.Rows hiding St
section
variable {env:Env}{e a b o:Expr}{es:List Expr}{pos q:Pos}
theorem bY (h:notStar e=true) (es:List Expr) (env:Env):starEach (e::es) env=(false,eval e env)::starEach es env:=by
 cases e <;> first | rfl | cases h
theorem sg (pos:Pos) (env:Env) : ∀ {es:List Expr},es.all notStar=true->(backTo pos (starEach es env)).any (·.1)=false
 | [],_=>rfl
 | e::es,h=>by
   rw [bT,aB] at h
   rw [bY h.1]
   show (false||(backTo pos (starEach es env)).any (·.1))=false
   rw [sg pos env h.2];rfl
theorem Bi (h:plainT e=true) (env:Env) : ∀ whole,isTrue e env whole=(do let v <- whole;standAt e.pos;holding [v] (truthy v)):=by
 intro whole
 cases e <;> first | rfl | cases h
theorem nY (h:jn e=true) (env:Env) : ∀ x,foldedSetIterable e env x=pure x:=by
 intro x
 cases e <;> first | rfl | cases h
theorem xq (h:jn b=true) (op:CmpOp):behindInMarks op b=false:=by
 cases b <;> first | rfl | cases h
theorem Js (h:kg b=true):sU b:=by
 intro o i
 cases b <;> first | rfl | cases h
theorem mD (h:baseOk o=true) (name:Str) (env:Env):attributeBase o name env (eval o env)=eval o env:=by
 cases o with
 | Call f as ks p=>
   cases f with
   | Name x p=>
     cases as with
     | nil=>cases ks with
       | nil=>cases h
       | cons k ks=>rfl
     | cons a as=>rfl
   | _=>rfl
 | _=>rfl
theorem sx (h:kD e=true) (t:Option Expr) (line:Nat) (env:Env):swapsWith e t line env=pure false:=by
 cases e <;> first | rfl | cases h
theorem wz (h:kD e=true) (t:Expr) (line:Nat) (env:Env):swapsWithSole [t] e line env=pure false:=by
 unfold swapsWithSole
 exact sx h _ _ _
theorem rL (h:notStar a=true) (q:Pos) (env:Env):((backTo q (starEach [a] env)).all (fun x => !x.1)&&(backToKw q (keywordEach [] env)).all (fun x=>x.1.isSome)
   && decide ([a].length+([]:List Keyword).length+(if ([]:List Keyword).isEmpty then 0 else 1) < 30))=true:=by
 rw [bY h];rfl
theorem zR (h:kg b=true) (env:Env) : ∀ v,assign (.Subscript a b pos) env v=(do
   let ov <- holding [v] (eval a env)
   let iv <- holding [v,ov] (eval b env)
   standAt pos
   holding [v,ov,iv] (setItem ov iv v)
   release [v,ov,iv] []):=by
 intro v
 cases b <;> first | rfl | cases h
theorem tV (h:notStar e=true) (es:List Expr) (env:Env):assignEach (e::es) env=(false,assign e env)::assignEach es env:=by
 cases e <;> first | rfl | cases h
theorem wQ (env:Env) : ∀ es:List Expr,es.all notStar=true->(assignEach es env).length=es.length/\(assignEach es env).findIdx? (·.1)=none
 | [],_=>⟨rfl,rfl⟩
 | e::es,h=>by
   rw [bT,aB] at h
   obtain⟨a,b⟩:=wQ env es h.2
   rw [tV h.1]
   exact⟨by simp [a],by rw [List.findIdx?_cons];simp [b]⟩
theorem t6 {ts:List Expr}{kt:Nat}{pt:Pos} (h:(notTuple e||nS ts)=true):swappedStores [.Tuple ts kt pt] e env=pure none:=by
 cases e with
 | Tuple vs k2 p2=>
   have h':nS ts=true:=h
   unfold nS at h'
   split at h'
   ·exact tQ
   ·cases h'
 | _=>rfl
theorem vM:swappedStores [.Subscript a b pos] e env=pure none:=by
 cases e <;> rfl
end
theorem iH {T:Tb} : ∀ {n:Nat}{N:List Str}{ns:NS}{es:List Expr}{m:MA},cA T n N ns es=some m->es.all notStar=true
 | 0,_,_,_,_,h=>by simp [cA,rc] at h
 | n+1,_,_,[],_,h=>rfl
 | n+1,N,ns,e::es,m,h=>by
   simp only [cA,rc,sA] at h
   split at h
   ·rename_i hs
    cases e1:(rc n).e T N ns e with
    | none=>rw [e1] at h;cases h
    | some me=>
      rw [e1] at h
      simp only [ah] at h
      cases e2:(rc n).a T N ns es with
      | none=>rw [e2] at h;cases h
      | some mr=>rw [bT,hs,iH e2];rfl
   ·cases h
theorem uL {T:Tb} : ∀ {n:Nat}{N:List Str}{ns:NS}{es:List Expr}{m:MGs},cGs T n N ns es=some m->es.all notStar=true
 | 0,_,_,_,_,h=>by simp [cGs,rc] at h
 | n+1,_,_,[],_,h=>rfl
 | n+1,N,ns,e::es,m,h=>by
   simp only [cGs,rc,sGs] at h
   split at h
   ·rename_i hs
    cases e1:(rc n).g T N ns e with
    | none=>rw [e1] at h;cases h
    | some me=>
      rw [e1] at h
      simp only [ah] at h
      cases e2:(rc n).gs T N ns es with
      | none=>rw [e2] at h;cases h
      | some mr=>rw [bT,hs,uL e2];rfl
   ·cases h
theorem slot_get {N:List Str}{x:Str}{i:Nat} (h:slot N x=some i):N[i]? = some x:=by
 unfold slot at h
 obtain⟨h1,h2,_⟩:=dI.mp h
 rw [aS h1,eq_of_beq h2]
theorem fI {x:Str} (h:eM x=true):(x == ("__debug__":Str))=false/\(x == ("__classdict__":Str))=false:=by
 unfold eM at h
 rw [aB] at h
 simpa using h
theorem bind_eq {α β:Type}{o:Option α}{f:α->Option β}{b:β} (h:o.bind f=some b) : ∃ a,o=some a/\f a=some b:=by
 cases o with
 | none=>cases h
 | some a=>exact⟨a,rfl,h⟩
theorem map_eq {α β:Type}{o:Option α}{f:α->β}{b:β} (h:o.map f=some b) : ∃ a,o=some a/\f a=b:=by
 cases o with
 | none=>cases h
 | some a=>exact⟨a,rfl,bB h⟩
section
variable {M:Mo}{X:Cx}{k:Nat}{N:List Str}{ns:NS}{a b c e:Expr}{es:List Expr}{ma mb mc:ME}{mt:MT}{mas:MA}{pos p1 p2:Pos}{x:Str}
theorem JC (S:Sc M X k N ns) (hg:dY ns "all"=true) (hm:M.mg "all"=none) (ha:PA X (e::es) (tMA M.K mas)) (he:starEach (e::es) X.env=(false,eval e X.env)::starEach es X.env) (hpl:(backTo pos (starEach es X.env)).any (·.1)=false) :
  PE X (.Call (.Name "all" p1) (e::es) [] pos) (tM M.K (mFn sj mas)):=
 PE.con (i6 (S.hK▸yJ S.calm) (S.gl hg) (by rw [S.hm];exact hm) PyProof.Rows.boot_all ha (by decide) (by decide) he hpl) fun _ _ _ h=>xJ EK h
theorem Gp {ts:List Expr}{kt:Nat}{pt:Pos}{a b:Expr} (S:Sc M X k N ns) (hg:dY ns "zip"=true) (hm:M.mg "zip"=none) (ha:PA X [a,b] (tMA M.K mas)) (hs:starEach [a,b] X.env=(false,eval a X.env)::starEach [b] X.env) (hs2:starEach [b] X.env = [(false,eval b X.env)]):PI X (.Tuple ts kt pt) (.Call (.Name "zip" p1) [a,b] [] pos) (xf M.K (tMA M.K mas)):=
 S.hK▸EO (S.gl hg) (by rw [S.hm];exact hm) ha hs hs2
theorem zU (S:Sc M X k N ns) (hg:dY ns "sorted"=true) (hm:M.mg "sorted"=none) (ha:PA X (e::es) (tMA M.K mas)) (he:starEach (e::es) X.env=(false,eval e X.env)::starEach es X.env) (hpl:(backTo pos (starEach es X.env)).any (·.1)=false) :
  PE X (.Call (.Name "sorted" p1) (e::es) [] pos) (tM M.K (mFn dR mas)):=
 PE.con (i6 (S.hK▸uk S.calm) (S.gl hg) (by rw [S.hm];exact hm) PyProof.Rows.boot_sorted ha (by decide) (by decide) he hpl) fun _ _ _ h=>xJ yh h
theorem An (S:Sc M X k N ns) (ho:PE X b (tM M.K mb)) (ha:PA X [a] (tMA M.K mas)) (hb:baseOk b=true) (hs:notStar a=true) (hl:(p1.endLine == pos.line)=true):PE X (.Call (.Attribute b "extend" p1) [a] [] pos) (tM M.K (mML iJ mb mas)):=by
 exact PE.con (zD fJ PySem.F.slot_list_extend PySem.F.type_list_extend ym ho ha (mD hb _ _) (rL hs _ _) hl (bY hs _ _) rfl) fun _ _ _ h=>S.hK▸FG xT h
theorem HB {op:CmpOp}{f:F2} (S:Sc M X k N ns) (h:AQ op=some f) : ∃ r,OpR X (compareOp op) r/\OpU M.K r f:=by
 cases op <;> simp only [AQ,dB,reduceCtorEq] at h <;> subst h
 ·exact⟨_,S.hK▸FA S.room.units,GX⟩
 ·exact⟨_,S.hK▸GB S.room.units,G9⟩
 ·exact⟨_,IM,rM⟩
 ·exact⟨_,Iu,rM⟩
 ·exact⟨_,Hm,rM⟩
 ·exact⟨_,HF,rM⟩
 ·exact⟨_,E8,JM⟩
 ·exact⟨_,S.hK▸xY (by have:=S.room.units;omega),zM⟩
theorem FH {N':List Str}{scope:Scope}{px py spos:Pos}{iter elt:Expr}{ifs:List Expr}{wi:TI}{mi:MI}{y:Str} (S:Sc M X k N ns) (i:Nat) (hy:N[i]? = some y) (ho:oM ns y=true) (hk:scope.kind = .function) (ok:mz N N' ns scope.names x=true) (hi:PI X (.Name x px) iter wi)
  (ht : ∀ X',Sc M X' k N' scope.names->PTs X' ifs (tMT M.K mt)) (he : ∀ X',Sc M X' k N' scope.names->PE X' elt (tM M.K mc)) (hr : ∀ σ H Q,tM M.K (bX mi mt mc) σ H Q->ny wi (tMT M.K mt) (tM M.K mc) σ H Q)
  (hs : ∀ x,foldedSetIterable iter X.env x=pure x):PS X (.Assign [.Name y py] (.ListComp elt [⟨.Name x px,iter,ifs,0⟩] scope pos) spos) (tMS M.K (bC i (bX mi mt mc))):=by
 have C:=rf S hk ok
 have e : ∃ b,swapsWith (.ListComp elt [⟨.Name x px,iter,ifs,0⟩] scope pos) (some (.Name y py)) spos.line X.env=pure b:=⟨_,rfl⟩
 obtain⟨b,e⟩:=e
 cases b with
 | true=>exact PS.con (B4 (by rw [S.hN];exact S.nd) (by rw [S.hN];exact hy) (S.lo ho).1 S.calm C hi (fun s₂ H₂ fp=>ht _ (rP S C s₂ H₂ fp)) (fun s₂ H₂ fp=>he _ (rP S C s₂ H₂ fp)) e hs (S.lo ho).2) fun _ _ _ h=>hr _ _ _ (DI h)
 | false=>exact DS S i hy ho (Al S hk ok hi ht he hr hs) e
theorem Fe:PE X (.Dict [] [] pos) (tM M.K jC):=PE.con zO fun _ _ _ h=>EM h
theorem Fu (ha:PE X a (tM M.K ma)) (hb:PE X b (tM M.K mb)):PE X (.Dict [some a] [b] pos) (tM M.K (pE ma mb)):=
 PE.con (B5 (AW ha hb BO) rfl rfl (by simp) (by simp)) fun _ _ _ h=>Gg h
theorem Bh {as:Expr}{q rp:Pos} (S:Sc M X k N ns) (hg:dY ns "list"=true) (hm:M.mg "list"=none) (hg2:dY ns "range"=true) (hm2:M.mg "range"=none) (ha:PA X [as] (tMA M.K mas)) (hs:notStar as=true) :
  PE X (.Call (.Name "list" p1) [.Call (.Name "range" q) [as] [] rp] [] pos) (tM M.K (gW (iR1 mas))):=
 PE.con (iZ (kS S.calm) (S.gl hg) (by rw [S.hm];exact hm) rz (jt (wt (S.gl hg2) (by rw [S.hm];exact hm2) ha (by rw [bY hs];rfl)) mT) (by decide) (by decide)) fun _ _ _ h=>AE h
theorem Be {as bs:Expr}{q rp:Pos} (S:Sc M X k N ns) (hg:dY ns "list"=true) (hm:M.mg "list"=none) (hg2:dY ns "range"=true) (hm2:M.mg "range"=none) (ha:PA X [as,bs] (tMA M.K mas)) (hs:notStar as=true) (hs2:notStar bs=true) :
  PE X (.Call (.Name "list" p1) [.Call (.Name "range" q) [as,bs] [] rp] [] pos) (tM M.K (gW (iR2 mas))):=
 PE.con (iZ (kS S.calm) (S.gl hg) (by rw [S.hm];exact hm) rz (jt (xh (S.gl hg2) (by rw [S.hm];exact hm2) ha (by rw [bY hs,bY hs2];rfl) (by rw [bY hs2];rfl)) mT) (by decide) (by decide)) fun _ _ _ h=>AX h
theorem Dz {as:Expr}{q rp:Pos} (S:Sc M X k N ns) (hg:dY ns "tuple"=true) (hm:M.mg "tuple"=none) (hg2:dY ns "range"=true) (hm2:M.mg "range"=none) (ha:PA X [as] (tMA M.K mas)) (hs:notStar as=true) :
  PE X (.Call (.Name "tuple" p1) [.Call (.Name "range" q) [as] [] rp] [] pos) (tM M.K (kX (iR1 mas))):=
 PE.con (iZ (j7 S.calm) (S.gl hg) (by rw [S.hm];exact hm) iX (jt (wt (S.gl hg2) (by rw [S.hm];exact hm2) ha (by rw [bY hs];rfl)) mT) (by decide) (by decide)) fun _ _ _ h=>Ci h
theorem Cf {as bs:Expr}{q rp:Pos} (S:Sc M X k N ns) (hg:dY ns "tuple"=true) (hm:M.mg "tuple"=none) (hg2:dY ns "range"=true) (hm2:M.mg "range"=none) (ha:PA X [as,bs] (tMA M.K mas)) (hs:notStar as=true) (hs2:notStar bs=true) :
  PE X (.Call (.Name "tuple" p1) [.Call (.Name "range" q) [as,bs] [] rp] [] pos) (tM M.K (kX (iR2 mas))):=
 PE.con (iZ (j7 S.calm) (S.gl hg) (by rw [S.hm];exact hm) iX (jt (xh (S.gl hg2) (by rw [S.hm];exact hm2) ha (by rw [bY hs,bY hs2];rfl) (by rw [bY hs2];rfl)) mT) (by decide) (by decide)) fun _ _ _ h=>BS h
theorem G2 {t:Str}{c:String} (S:Sc M X k N ns) (hg:dY ns "isinstance"=true) (hm:M.mg "isinstance"=none) (hg2:dY ns t=true) (hm2:M.mg t=none) (hb:bootBuiltins t=some (.type c)) (hc:c∈jh) (hn:t≠"__name__") (hd:(t == ("__debug__":Str))=false)
  (ha:PE X a (tM M.K ma)) (hs:notStar a=true):PE X (.Call (.Name "isinstance" p1) [a,.Name t p2] [] pos) (tM M.K (m1 (jE c) ma)):=by
 refine PE.con (i6 zC (S.gl hg) (by rw [S.hm];exact hm) PyProof.Rows.boot_isinstance (jt ha (jt (BJ (v := .ty c) (S.gl hg2) (by rw [S.hm];exact hm2) hb rfl hn hd) mT) (bY hs _ _)) (by decide) (by decide) (bY hs _ _) rfl) fun _ _ _ h => ?_
 rw [S.hK]
 exact Jd hc h
theorem Dn (S:Sc M X k N ns) (ho:PE X b (tM M.K mb)) (ha:PA X [a] (tMA M.K mas)) (hb:baseOk b=true) (hs:notStar a=true) (hl:(p1.endLine == pos.line)=true):PE X (.Call (.Attribute b "index" p1) [a] [] pos) (tM M.K (mMT gq mb mas)):=by
 refine PE.con (t:=GL M.K (tM M.K mb) (tMA M.K mas)) ?_ fun _ _ _ h=>BG h
 rw [<- S.hK]
 exact zi S.room.units ho ha (mD hb _ _) (rL hs _ _) hl (bY hs _ _) rfl
theorem Fz (S:Sc M X k N ns) (ho:PE X b (tM M.K mb)) (hb:baseOk b=true) (hl:(p1.endLine == pos.line)=true):PE X (.Call (.Attribute b "pop" p1) [] [] pos) (tM M.K (mML so mb ai)):=by
 exact PE.con (ES fJ xD xE Fg ho (mD hb _ _) hl) fun _ _ _ h=>S.hK▸G6 Es h
section
variable {X:Cx}
end
theorem J5 {st:Stmt}:PS X st (tMS M.K sNo):=by
 intro pins s σ H D I h
 obtain⟨μ,S,ρ,r,hr,er,e,kk⟩:=h
 cases e
theorem HE:PS X (.Break pos) (tMS M.K Im):=PS.con AY fun D σ H h=>by
 obtain⟨μ,S,ρ,r,hr,er,e,kk⟩:=h
 cases e
 exact kk μ σ H (Pre.refl _) (bj.refl _) hr er
theorem Ja:PS X (.Continue pos) (tMS M.K Iy):=PS.con uG fun D σ H h=>by
 obtain⟨μ,S,ρ,r,hr,er,e,kk⟩:=h
 cases e
 exact kk μ σ H (Pre.refl _) (bj.refl _) hr er
theorem Eo:PS X (.Pass pos) (tMS M.K cJ):=PS.con B3 fun D σ H h=>Bf h
theorem Ey:PS X (.Return none pos) (tMS M.K (cK (mC .non))):=PS.con Cd fun D σ H h=>by
 obtain⟨μ,S,ρ,r,hr,er,e,kk⟩:=h
 cases e
 exact kk μ _ H (Pre.refl _) (bj.refl _) hr m9
theorem Ga (ha:PE X a (tM M.K ma)) (hb:PE X (.BoolOp .And (b::es) pos) (tM M.K mb)):PE X (.BoolOp .And (a::b::es) pos) (tM M.K (tF ma mb)):=PE.con (Fm ha hb) fun _ _ _ h=>Gm h
theorem Ig (ha:PE X a (tM M.K ma)) (hb:PE X (.BoolOp .Or (b::es) pos) (tM M.K mb)):PE X (.BoolOp .Or (a::b::es) pos) (tM M.K (mOr ma mb)):=PE.con (Jh ha hb) fun _ _ _ h=>Jp h
theorem GP (ha:PE X a (tM M.K ma)):PE X (.UnaryOp .Not a pos) (tM M.K (m1 Dx ma)):=PE.con (GK ha) fun _ _ _ h=>FI h
end
end G
end
section
namespace G
open PySem PySem.Spec L2
open PyProof.Rows hiding St
structure TOk (M:Mo) (T:Tb) (k:Nat):Prop where
 D : ∀ x mf,T.D.lookup x=some mf -> ∃ k' ps,k'<=k/\Fn M x k' ps mf
 C : ∀ x u,T.C.lookup x=some u -> ∃ g v,M.mg x=some g/\RelV v g /\ ∀ H μ,RU H μ u v
 B : ∀ x∈i4,M.mg x=none
 L : ∀ x q,T.L.lookup x=some q -> ∃ k' ps,k'<=k/\Lam M q.1 k' ps q.2
 mkr:T.mkr=true -> ∃ c q P,M.mkr=some (c,q)/\Mkr M c P (q++"<lambda>")
noncomputable def GOk (M:Mo) (T:Tb) (k:Nat):Prop:=TOk M T k/\(T.mkr=true -> ∃ j,j+2<=k/\(∀ x F,T.H.lookup x=some F -> ∃ k' ps,k'<=j+1/\FnC M x k' ps F) /\ ∀ caps capv cds base,gK M.mg base->TOk (M.to caps capv cds base) T.bare j)
noncomputable def IOk (M:Mo) (X:Cx) (tg it:Expr) (mi:MI):Prop := ∃ wi,PI X tg it wi /\
 (∀ i ms D σ H,tMS M.K (dD i mi ms) D σ H->qc wi (ix i) (tMS M.K ms) D σ H) /\
 (∀ mt mc σ H Q,tM M.K (bX mi mt mc) σ H Q->ny wi (tMT M.K mt) (tM M.K mc) σ H Q)
structure Snd (M:Mo) (T:Tb) (k n:Nat):Prop where
 e : ∀ N ns e m,cE T n N ns e=some m -> ∀ X,Sc M X k N ns->PE X e (tM M.K m)
 c : ∀ N ns g as m,cC T n N ns g as=some m->dY ns g=true->eM g=true -> ∀ a r,as=a::r -> ∀ X p1 pos,Sc M X k N ns->PE X (.Call (.Name g p1) as [] pos) (tM M.K m)
 v : ∀ N ns g as m,cV T n N ns g as=some m -> ∀ a r,as=a::r -> ∀ X p1 pos,Sc M X k N ns->PE X (.Call (.Name g p1) as [] pos) (tM M.K m)
 v0 : ∀ N ns g m,cV T n N ns g []≠some m
 o : ∀ N ns o m,cO T n N ns o=some m -> ∀ X,Sc M X k N ns->sP M X o m
 t : ∀ N ns e m,cT T n N ns e=some m -> ∀ X,Sc M X k N ns->PT X e (tMT M.K m)
 l : ∀ N ns b vs m pos,cL T n N ns b vs=some m -> ∀ X,Sc M X k N ns->PW X (.BoolOp (if b then .And else .Or) vs pos) (tMT M.K m)
 f : ∀ N ns vs m,cF T n N ns vs=some m -> ∀ X,Sc M X k N ns->PTs X vs (tMT M.K m)
 a : ∀ N ns es m,cA T n N ns es=some m -> ∀ X,Sc M X k N ns->PA X es (tMA M.K m)
 i : ∀ N ns tg it m,cI T n N ns it=some m -> ∀ X,Sc M X k N ns->IOk M X tg it m
 g : ∀ N ns e m,cG T n N ns e=some m -> ∀ X,Sc M X k N ns->PG X e (tG M.K m)
 gs : ∀ N ns es m,cGs T n N ns es=some m -> ∀ X,Sc M X k N ns->PGs X es (tGs M.K m)
 s : ∀ N ns st m,cS T n N ns st=some m -> ∀ X,Sc M X k N ns->PS X st (tMS M.K m)
 b : ∀ N ns sts m,cB T n N ns sts=some m -> ∀ X,Sc M X k N ns->PSs X sts (tMS M.K m)
theorem d8 {α:Type}{x:α}{P:Prop} (h:(none:Option α)=some x):P:=by cases h
theorem Kg (M:Mo) (T:Tb) (k:Nat):Snd M T k 0:=
 ⟨fun _ _ _ _ h=>d8 h,fun _ _ _ _ _ h=>d8 h,fun _ _ _ _ _ h=>d8 h,fun _ _ _ _ h=>d8 h,fun _ _ _ _ h=>d8 h,fun _ _ _ _ h=>d8 h,fun _ _ _ _ _ _ h=>d8 h,fun _ _ _ _ h=>d8 h,fun _ _ _ _ h=>d8 h,fun _ _ _ _ _ h=>d8 h,fun _ _ _ _ h=>d8 h,fun _ _ _ _ h=>d8 h,fun _ _ _ _ h=>d8 h,fun _ _ _ _ h=>d8 h⟩
section
variable {M:Mo}{T:Tb}{k n:Nat}
theorem Gz {N:List Str}{ns:NS}{X:Cx}{a b:Expr}{ma mb:ME}{op:Operator}{f:F2}{pos:Pos} (h:FP op=some f) (S:Sc M X k N ns) (ha:PE X a (tM M.K ma)) (hb:PE X b (tM M.K mb)):PE X (.BinOp a op b pos) (tM M.K (m2 f ma mb)):=by
 cases op <;> simp only [FP,dB,reduceCtorEq] at h <;> subst h
 ·exact JO S ha hb
 ·exact Ju ha hb
 ·exact Hd S ha hb
 ·exact JB ha hb
 ·exact Jl ha hb
 ·exact Jz ha hb
theorem Ak {N:List Str}{ns:NS}{X:Cx}{a b:Expr}{ma mb:ME}{op:CmpOp}{f:F2}{pos:Pos} (h:AQ op=some f) (S:Sc M X k N ns) (ha:PE X a (tM M.K ma)) (hb:PE X b (tM M.K mb)) (hs:jn b=true) :
  PE X (.Compare a [op] [b] pos) (tM M.K (m2 f ma mb))/\PT X (.Compare a [op] [b] pos) (tMT M.K (cOf (m2 f ma mb))):=by
 obtain⟨r,ho,ou⟩:=HB S h
 exact⟨PE.con (BP ho ha hb (xq hs _)) fun _ _ _ h=>rS ou h,PT.con (Dl ho ha hb (xq hs _)) fun _ _ _ h=>zK (fun _ q=>rS ou q) h⟩
theorem GM {t:Str}{c:String} (h:zI t=some c):bootBuiltins t=some (.type c)/\c∈jh/\t≠"__name__"/\(t == ("__debug__":Str))=false/\t∈i4:=by
 unfold zI at h
 repeat' split at h
 all_goals first
  | cases h
    done
  | (rename_i q
     cases h
     rw [eq_of_beq q]
     exact⟨by decide +kernel,by decide,by decide +kernel,by decide +kernel,by decide +kernel⟩)
theorem Dc {N:List Str}{ns:NS}{X:Cx}{g:Str}{e:Expr}{es:List Expr}{mas:MA}{p1 pos:Pos}{mf:MF} (O:TOk M T k) (h:FN g=some mf) (hg:dY ns g=true) (S:Sc M X k N ns) (ha:PA X (e::es) (tMA M.K mas)) (hs:(e::es).all notStar=true) :
  PE X (.Call (.Name g p1) (e::es) [] pos) (tM M.K (mFn mf mas)):=by
 rw [bT,aB] at hs
 have he:=bY hs.1 es X.env
 have hp:=sg pos X.env hs.2
 unfold FN at h
 repeat' split at h
 all_goals first
  | (cases h;done)
  | (rename_i q
     cases h
     rw [eq_of_beq q] at hg ⊢
     first
      | exact Aq S hg (O.B _ (by decide +kernel)) ha he hp
      | exact B9 S hg (O.B _ (by decide +kernel)) ha he hp
      | exact GY S hg (O.B _ (by decide +kernel)) ha he hp
      | exact Ii S hg (O.B _ (by decide +kernel)) ha he hp
      | exact JC S hg (O.B _ (by decide +kernel)) ha he hp
      | exact zU S hg (O.B _ (by decide +kernel)) ha he hp)
theorem BE {N:List Str}{ns:NS}{X:Cx}{name:Str}{a o:Expr}{mo m:ME}{mas:MA}{p1 pos:Pos} (h:Aw name mo mas=some m) (S:Sc M X k N ns) (ho:PE X o (tM M.K mo)) (ha:PA X [a] (tMA M.K mas)) (hb:baseOk o=true) (hl:(p1.endLine == pos.line)=true) (hs:notStar a=true) :
  PE X (.Call (.Attribute o name p1) [a] [] pos) (tM M.K m):=by
 unfold Aw at h
 repeat' split at h
 all_goals first
  | (cases h;done)
  | (rename_i q
     cases h
     rw [eq_of_beq q]
     first
      | exact zj S ho ha (mD hb _ _) (rL hs _ _) hl (bY hs _ _) rfl
      | exact BK S ho ha (mD hb _ _) (rL hs _ _) hl (bY hs _ _) rfl
      | exact Dn S ho ha hb hs hl
      | exact An S ho ha hb hs hl)
end
end G
end
section
namespace G
open PySem PySem.Spec L2
open PyProof.Rows hiding St
section
variable {M:Mo}{T:Tb}{k n:Nat}
theorem uI {ps:List Str}{sc:Scope}{ns:NS} (h:vZ ps sc ns=true):kl ps (frees sc) sc /\ ∀ y∈frees sc,ns.lookup y=some .cell/\(y,aJ)∈sc.names:=by
 unfold vZ at h
 simp only [aB,bU,Bool.not_eq_true',decide_eq_true_eq] at h
 obtain⟨⟨⟨⟨⟨⟨h1,h2⟩,h3⟩,h4⟩,h5⟩,h6⟩,h7⟩:=h
 have fm : ∀ y∈frees sc,(y,aJ)∈sc.names:=fun y hy=>by
  obtain⟨z,hz,e⟩:=aQ.mp hy
  obtain⟨a,b⟩:=fK.mp hz
  obtain⟨z1,z2⟩:=z
  cases e
  have:z2 = .free:=eq_of_beq b
  rw [this] at a;exact a
 refine⟨⟨eq_of_beq h1,h2,h3,h4,fun p hp => ?_,fun x hx e => ?_,fun y hy e=>aQ.mpr ⟨y,fK.mpr ⟨hy,by rw [e];rfl⟩,rfl⟩,fun y hy=>eq_of_beq (h7 y hy).1⟩,fun y hy=>⟨eq_of_beq (h7 y hy).2,fm y hy⟩⟩
 ·have:=h5 p hp
  rw [lF] at this
  exact this.imp eq_of_beq eq_of_beq
 ·have:=h6 x hx
  rw [e] at this
  simpa using this
theorem HU (O:TOk M T k) (R:Snd M T k n) : ∀ N ns g as m,cV T (n+1) N ns g as=some m -> ∀ a r,as=a::r -> ∀ X p1 pos,Sc M X k N ns->PE X (.Call (.Name g p1) as [] pos) (tM M.K m):=by
 intro N ns g as m h a r e X p1 pos S
 subst e
 simp only [cV,rc,sV] at h
 split at h
 ·rename_i hs
  rw [aB] at hs
  obtain⟨q,e1,h⟩:=bind_eq h
  obtain⟨i,e2,h⟩:=bind_eq h
  obtain⟨mas,e3,rfl⟩:=map_eq h
  obtain⟨k',ps,hk,F⟩:=O.L _ _ e1
  have hst:=iH e3
  rw [bT,aB] at hst
  obtain⟨n1,n2⟩:=fI hs.2
  exact Dq S F hk i (slot_get e2) hs.1 (R.a _ _ _ _ e3 X S) n1 n2 (bY hst.1 _ _) (sg _ _ hst.2)
 ·cases h
section
variable {N:List Str}{ns:NS}{X:Cx}{m:ME}
theorem BX {c:Const}{j}{pos:Pos} (h:Jy c=some m):PE X (.Constant c j pos) (tM M.K m):=by
 cases c <;> first | (cases h;done) | skip
 all_goals cases h
 all_goals first | exact G4 | exact J0 | exact Ik | exact PE.con Gv fun _ _ _ q=>r_c (fun _ _=>by simp only [RU]) q
theorem FU (R:Snd M T k n) {op:UnaryOp}{a:Expr}{pos:Pos} (h:eUn (rc n) T N ns a op=some m) (S:Sc M X k N ns):PE X (.UnaryOp op a pos) (tM M.K m):=by
 cases op <;> first | (cases h;done) | skip
 all_goals obtain⟨ma,e1,rfl⟩:=map_eq h
 all_goals first | exact HN (R.e _ _ _ _ e1 X S) | exact GP (R.e _ _ _ _ e1 X S)
theorem GC (R:Snd M T k n) {op:BoolOp}{vs:List Expr}{p:Pos} (h:eBo (rc n) T N ns op p vs=some m) (S:Sc M X k N ns):PE X (.BoolOp op vs p) (tM M.K m):=by
 unfold eBo at h
 split at h
 ·cases h
 ·exact F4 (R.e _ _ _ _ h X S)
 ·obtain⟨ma,e1,h⟩:=bind_eq h
  cases op
  ·obtain⟨mb,e2,rfl⟩:=map_eq h
   exact Ga (R.e _ _ _ _ e1 X S) (R.e _ _ _ _ e2 X S)
  ·obtain⟨mb,e2,rfl⟩:=map_eq h
   exact Ig (R.e _ _ _ _ e1 X S) (R.e _ _ _ _ e2 X S)
theorem FM (R:Snd M T k n) {a:Expr}{ops:List CmpOp}{bs:List Expr}{pos:Pos} (h:eCm (rc n) T N ns a ops bs=some m) (S:Sc M X k N ns):PE X (.Compare a ops bs pos) (tM M.K m):=by
 unfold eCm at h
 split at h
 ·split at h
  ·rename_i hs
   obtain⟨ma,e1,h⟩:=bind_eq h
   obtain⟨mb,e2,h⟩:=bind_eq h
   obtain⟨f,e3,rfl⟩:=map_eq h
   exact (Ak e3 S (R.e _ _ _ _ e1 X S) (R.e _ _ _ _ e2 X S) hs).1
  ·cases h
 ·cases h
theorem Fq (R:Snd M T k n) {a b:Expr}{pos:Pos} (h:eSb (rc n) T N ns a b=some m) (S:Sc M X k N ns):PE X (.Subscript a b pos) (tM M.K m):=by
 unfold eSb at h
 split at h
 ·cases h
 ·split at h
  ·rename_i hs
   obtain⟨ma,e1,h⟩:=bind_eq h
   obtain⟨mb,e2,rfl⟩:=map_eq h
   exact Kd S (R.e _ _ _ _ e1 X S) (R.e _ _ _ _ e2 X S) (Js hs)
  ·cases h
theorem FR (R:Snd M T k n) {ks:List (Option Expr)}{vs:List Expr}{pos:Pos} (h:eDi (rc n) T N ns ks vs=some m) (S:Sc M X k N ns):PE X (.Dict ks vs pos) (tM M.K m):=by
 unfold eDi at h
 split at h
 ·cases h;exact Fe
 ·obtain⟨ma,e1,h⟩:=bind_eq h
  obtain⟨mb,e2,rfl⟩:=map_eq h
  exact Fu (R.e _ _ _ _ e1 X S) (R.e _ _ _ _ e2 X S)
 ·cases h
theorem El (R:Snd M T k n) {elt:Expr}{scope:Scope}{gens:List Comprehension}{pos:Pos} (h:eLc (rc n) T N ns elt scope gens=some m) (S:Sc M X k N ns):PE X (.ListComp elt gens scope pos) (tM M.K m):=by
 unfold eLc at h
 split at h
 rotate_left
 ·cases h
 rename_i c
 obtain⟨tg,it,ifs,ia⟩:=c
 split at h
 rotate_left
 ·cases h
 rename_i h0
 have h0':ia=0:=h0
 subst h0'
 have h:eLt (rc n) T N ns elt it ifs scope tg=some m:=h
 unfold eLt at h
 split at h
 ·split at h
  ·rename_i hs
   rw [aB,aB] at hs
   obtain⟨mi,e1,h⟩:=bind_eq h
   obtain⟨mt,e2,h⟩:=bind_eq h
   obtain⟨mc,e3,rfl⟩:=map_eq h
   obtain⟨wi,h1,_,h3⟩:=R.i _ _ _ _ _ e1 X S
   exact Al S (eq_of_beq hs.1.1) hs.1.2 h1 (fun X' S'=>R.f _ _ _ _ e2 X' S') (fun X' S'=>R.e _ _ _ _ e3 X' S') (h3 mt mc) (nY hs.2 _)
  ·cases h
 ·cases h
theorem Fw (O:TOk M T k) (R:Snd M T k n) {g:Str}{rs:List Expr}{p1 q rp pos:Pos} (h:eRg (rc n) T N ns g rs=some m) (S:Sc M X k N ns) (hl:g="list"\/g="tuple") (hg:dY ns g=true) (hr:dY ns "range"=true) :
  PE X (.Call (.Name g p1) [.Call (.Name "range" q) rs [] rp] [] pos) (tM M.K m):=by
 unfold eRg at h
 split at h
 ·obtain⟨ma,e1,rfl⟩:=map_eq h
  have hst:=iH e1
  simp only [bT,lg,jJ] at hst
  rcases hl with rfl | rfl
  ·rw [if_pos (by decide +kernel)]
   exact Bh S hg (O.B _ (by decide +kernel)) hr (O.B _ (by decide +kernel)) (R.a _ _ _ _ e1 X S) hst
  ·rw [if_neg (by decide +kernel)]
   exact Dz S hg (O.B _ (by decide +kernel)) hr (O.B _ (by decide +kernel)) (R.a _ _ _ _ e1 X S) hst
 ·obtain⟨ma,e1,rfl⟩:=map_eq h
  have hst:=iH e1
  simp only [bT,lg,jJ,aB] at hst
  rcases hl with rfl | rfl
  ·rw [if_pos (by decide +kernel)]
   exact Be S hg (O.B _ (by decide +kernel)) hr (O.B _ (by decide +kernel)) (R.a _ _ _ _ e1 X S) hst.1 hst.2
  ·rw [if_neg (by decide +kernel)]
   exact Cf S hg (O.B _ (by decide +kernel)) hr (O.B _ (by decide +kernel)) (R.a _ _ _ _ e1 X S) hst.1 hst.2
 ·cases h
theorem GI (Gk:GOk M T k) (R:Snd M T k n) (RA : ∀ M T k,GOk M T k->Snd M T k n) {g:Str}{as:List Expr}{p1 pos:Pos} (h:eCf (rc n) T N ns g as=some m) (S:Sc M X k N ns) (hg:dY ns g=true) (hn:eM g=true) :
  PE X (.Call (.Name g p1) as [] pos) (tM M.K m):=by
 have O:=Gk.1
 unfold eCf at h
 split at h
 ·obtain⟨mf,e1,rfl⟩:=map_eq h
  obtain⟨k',ps,hk,F⟩:=O.D _ _ e1
  exact CJ S F hk hg (fI hn).1
 ·unfold eC1 at h
  split at h
  ·split at h
   ·rename_i hl
    rw [aB,lF] at hl
    split at h
    ·rename_i hr
     rw [eq_of_beq hl.2] at hr ⊢
     exact Fw O R h S (hl.1.imp eq_of_beq eq_of_beq) hg hr
    ·cases h
   ·exact R.c _ _ _ _ _ h hg hn _ _ rfl X _ _ S
  ·exact R.c _ _ _ _ _ h hg hn _ _ rfl X _ _ S
 ·unfold eC2 at h
  split at h
  ·unfold eIs at h
   split at h
   ·rename_i hl
    split at h
    ·rename_i ht
     obtain⟨c,e1,h⟩:=bind_eq h
     obtain⟨ma,e2,rfl⟩:=map_eq h
     obtain⟨c1,c2,c3,c4,c5⟩:=GM e1
     rw [aB] at ht
     rw [eq_of_beq hl] at hg ⊢
     exact G2 S hg (O.B _ (by decide +kernel)) ht.1 (O.B _ c5) c1 c2 c3 c4 (R.e _ _ _ _ e2 X S) ht.2
    ·cases h
   ·exact R.c _ _ _ _ _ h hg hn _ _ rfl X _ _ S
  ·unfold IP at h
   split at h
   ·rename_i hs
    rw [aB] at hs
    obtain⟨hT,hst⟩:=hs
    obtain⟨ps,e0,h⟩:=bind_eq h
    split at h
    ·rename_i hl
     obtain⟨is,e1,h⟩:=bind_eq h
     obtain⟨ma,e2,h⟩:=bind_eq h
     obtain⟨ml,e3,h⟩:=bind_eq h
     obtain⟨F,e4,rfl⟩:=map_eq h
     obtain⟨c,q,P,hmk,MK⟩:=O.mkr hT
     obtain⟨j,hj,hH,hB⟩:=Gk.2 hT
     obtain⟨k',gps,hk',FC⟩:=hH _ _ e4
     obtain⟨LS,hfs⟩:=uI hl
     exact Df S FC hk' hj hmk MK hg (fI hn).1 (R.e _ _ _ _ e2 X S) (bY hst _ _) e0 LS hfs e1
      fun caps capv cds base hb X' S'=>(RA _ _ _ ⟨hB caps capv cds base hb,fun z=>by cases z⟩).e _ _ _ _ e3 X' S'
    ·cases h
   ·cases h
  ·exact R.c _ _ _ _ _ h hg hn _ _ rfl X _ _ S
 ·exact R.c _ _ _ _ _ h hg hn _ _ rfl X _ _ S
theorem E5 (R:Snd M T k n) {o:Expr}{name:Str}{p q:Pos}{as:List Expr} (h:eMe (rc n) T N ns o name p q as=some m) (S:Sc M X k N ns):PE X (.Call (.Attribute o name p) as [] q) (tM M.K m):=by
 unfold eMe at h
 split at h
 ·split at h
  ·rename_i hs
   rw [aB,aB] at hs
   obtain⟨mo,e1,rfl⟩:=map_eq h
   rw [eq_of_beq hs.2]
   exact Fz S (R.e _ _ _ _ e1 X S) hs.1.1 hs.1.2
  ·cases h
 ·split at h
  ·rename_i hs
   rw [aB,aB] at hs
   obtain⟨mo,e1,h⟩:=bind_eq h
   obtain⟨mas,e2,h⟩:=bind_eq h
   exact BE h S (R.e _ _ _ _ e1 X S) (R.a _ _ _ _ e2 X S) hs.1.1 hs.1.2 hs.2
  ·cases h
 ·cases h
end
theorem Jn (Gk:GOk M T k) (R:Snd M T k n) (RA : ∀ M T k,GOk M T k->Snd M T k n) : ∀ N ns e m,cE T (n+1) N ns e=some m -> ∀ X,Sc M X k N ns->PE X e (tM M.K m):=by
 have O:=Gk.1
 intro N ns e m h X S
 have h:sE (rc n) T N ns e=some m:=h
 cases e with
 | Name x p=>
   have h:(if eM x then (if qb ns x then (slot N x).map ab else if dY ns x then (T.C.lookup x).map mC else none) else none)=some m:=h
   split at h
   ·rename_i hn
    obtain⟨n1,n2⟩:=fI hn
    split at h
    ·rename_i hv
     obtain⟨i,e1,rfl⟩:=map_eq h
     exact Ho S i (slot_get e1) hv n1 n2
    ·split at h
     ·rename_i hg
      obtain⟨u,e1,rfl⟩:=map_eq h
      obtain⟨g,v,hm,r,hv⟩:=O.C _ _ e1
      exact Fj S hg hm r hv n1
     ·cases h
   ·cases h
 | Constant c j p=>exact BX h
 | BinOp a op b p=>
   obtain⟨ma,e1,h⟩:=bind_eq (show ((rc n).e T N ns a).bind _=some m from h)
   obtain⟨mb,e2,h⟩:=bind_eq h
   obtain⟨f,e3,rfl⟩:=map_eq h
   exact Gz e3 S (R.e _ _ _ _ e1 X S) (R.e _ _ _ _ e2 X S)
 | UnaryOp op a p=>exact FU R h S
 | BoolOp op vs p=>exact GC R h S
 | Compare a ops bs p=>exact FM R h S
 | IfExp c a b p=>
   obtain⟨mc,e1,h⟩:=bind_eq (show ((rc n).t T N ns c).bind _=some m from h)
   obtain⟨ma,e2,h⟩:=bind_eq h
   obtain⟨mb,e3,rfl⟩:=map_eq h
   exact IF (R.t _ _ _ _ e1 X S) (R.e _ _ _ _ e2 X S) (R.e _ _ _ _ e3 X S)
 | Subscript a b p=>exact Fq R h S
 | Dict ks vs p=>exact FR R h S
 | Tuple es j p=>
   obtain⟨ma,e1,rfl⟩:=map_eq (show ((rc n).a T N ns es).map ft=some m from h)
   exact HP (R.a _ _ _ _ e1 X S)
 | List es p=>
   obtain⟨ma,e1,rfl⟩:=map_eq (show ((rc n).a T N ns es).map cm=some m from h)
   exact Hv (R.a _ _ _ _ e1 X S)
 | ListComp elt gens scope p=>exact El R h S
 | Call f as kws q=>
   have h:(if kws.isEmpty then eCa (rc n) T N ns as q f else none)=some m:=h
   cases kws with
   | cons w ws=>cases h
   | nil=>
     have h:eCa (rc n) T N ns as q f=some m:=h
     unfold eCa at h
     split at h
     ·split at h
      ·rename_i hs
       rw [aB] at hs
       exact GI Gk R RA h S hs.1 hs.2
      ·cases as with
       | nil=>exact absurd h (R.v0 _ _ _ _)
       | cons a r=>exact R.v _ _ _ _ _ h _ _ rfl X _ _ S
     ·exact E5 R h S
     ·cases h
 | _=>cases h
theorem HS (O:TOk M T k) (R:Snd M T k n) : ∀ N ns g as m,cC T (n+1) N ns g as=some m->dY ns g=true->eM g=true -> ∀ a r,as=a::r -> ∀ X p1 pos,Sc M X k N ns->PE X (.Call (.Name g p1) as [] pos) (tM M.K m):=by
 intro N ns g as m h hg hn a r e X p1 pos S
 subst e
 simp only [cC,rc,sC] at h
 obtain⟨mas,e1,h⟩:=bind_eq h
 have hst:=iH e1
 split at h
 ·rename_i mf hb
  cases h
  exact Dc O hb hg S (R.a _ _ _ _ e1 X S) hst
 ·obtain⟨mf,e2,rfl⟩:=map_eq h
  obtain⟨k',ps,hk,F⟩:=O.D _ _ e2
  rw [bT,aB] at hst
  exact Fy S F hk hg (R.a _ _ _ _ e1 X S) (fI hn).1 (bY hst.1 _ _) (sg _ _ hst.2)
theorem Hz (R:Snd M T k n) : ∀ N ns o m,cO T (n+1) N ns o=some m -> ∀ X,Sc M X k N ns->sP M X o m:=by
 intro N ns o m h X S
 simp only [cO,rc,sO] at h
 split at h
 ·cases h;exact .none
 ·obtain⟨me,e1,rfl⟩:=map_eq h
  exact .some (R.e _ _ _ _ e1 X S)
theorem I0 (R:Snd M T k n) : ∀ N ns e m,cT T (n+1) N ns e=some m -> ∀ X,Sc M X k N ns->PT X e (tMT M.K m):=by
 intro N ns e m h X S
 simp only [cT,rc,sT] at h
 split at h
 ·obtain⟨ma,e1,rfl⟩:=map_eq h
  exact Ih (R.t _ _ _ _ e1 X S)
 ·exact PW.pt (R.l _ _ true _ _ _ h X S)
 ·exact PW.pt (R.l _ _ false _ _ _ h X S)
 ·split at h
  ·rename_i hs
   obtain⟨ma,e1,h⟩:=bind_eq h
   obtain⟨mb,e2,h⟩:=bind_eq h
   obtain⟨f,e3,rfl⟩:=map_eq h
   exact (Ak e3 S (R.e _ _ _ _ e1 X S) (R.e _ _ _ _ e2 X S) hs).2
  ·cases h
 ·split at h
  ·rename_i hs
   obtain⟨ma,e1,rfl⟩:=map_eq h
   exact ID (R.e _ _ _ _ e1 X S) (Bi hs _)
  ·cases h
theorem G3 (R:Snd M T k n) : ∀ N ns b vs m pos,cL T (n+1) N ns b vs=some m -> ∀ X,Sc M X k N ns->PW X (.BoolOp (if b then .And else .Or) vs pos) (tMT M.K m):=by
 intro N ns b vs m pos h X S
 simp only [cL,rc,sL] at h
 split at h
 ·cases h
 ·cases b
  ·exact JJ (R.t _ _ _ _ h X S)
  ·exact E9 (R.t _ _ _ _ h X S)
 ·rename_i a r hr
  obtain⟨ma,e1,h⟩:=bind_eq h
  obtain⟨mr,e2,rfl⟩:=map_eq h
  cases r with
  | nil=>exact (hr rfl).elim
  | cons c r=>
    have h2:=R.l _ _ b _ _ pos e2 X S
    cases b
    ·exact J7 (R.t _ _ _ _ e1 X S) h2
    ·exact JD (R.t _ _ _ _ e1 X S) h2
theorem IG (R:Snd M T k n) : ∀ N ns vs m,cF T (n+1) N ns vs=some m -> ∀ X,Sc M X k N ns->PTs X vs (tMT M.K m):=by
 intro N ns vs m h X S
 simp only [cF,rc,sF] at h
 split at h
 ·cases h;exact Fh
 ·exact Hk (R.t _ _ _ _ h X S)
 ·cases h
theorem JE (R:Snd M T k n) : ∀ N ns es m,cA T (n+1) N ns es=some m -> ∀ X,Sc M X k N ns->PA X es (tMA M.K m):=by
 intro N ns es m h X S
 simp only [cA,rc,sA] at h
 split at h
 ·cases h;exact Ip
 ·split at h
  ·rename_i hs
   obtain⟨ma,e1,h⟩:=bind_eq h
   obtain⟨mr,e2,rfl⟩:=map_eq h
   exact F6 (R.e _ _ _ _ e1 X S) (R.a _ _ _ _ e2 X S) (bY hs _ _)
  ·cases h
theorem zh {N:List Str}{ns:NS}{X:Cx}{tg e:Expr}{m:ME} (S:Sc M X k N ns) (h:PE X e (tM M.K m)):IOk M X tg e (cM m):=
 ⟨_,Gj S h,fun _ _ _ _ _ q=>Kk q,fun _ _ _ _ _ q=>JY q⟩
theorem JP (O:TOk M T k) (R:Snd M T k n) : ∀ N ns tg it m,cI T (n+1) N ns it=some m -> ∀ X,Sc M X k N ns->IOk M X tg it m:=by
 intro N ns tg it m h X S
 simp only [cI,rc,sI] at h
 split at h
 ·split at h
  ·rename_i hr
   split at h
   ·rename_i hg
    rw [eq_of_beq hr] at hg ⊢
    split at h
    ·obtain⟨ma,e1,rfl⟩:=map_eq h
     have hst:=iH e1
     simp only [bT,lg,jJ] at hst
     exact⟨_,Hh S hg (O.B _ (by decide +kernel)) (R.a _ _ _ _ e1 X S) (bY hst _ _),fun _ _ _ _ _ q=>IA q,fun _ _ _ _ _ q=>Hi q⟩
    ·obtain⟨ma,e1,rfl⟩:=map_eq h
     have hst:=iH e1
     simp only [bT,lg,jJ,aB] at hst
     exact⟨_,IK S hg (O.B _ (by decide +kernel)) (R.a _ _ _ _ e1 X S) (by rw [bY hst.1,bY hst.2];rfl) (by rw [bY hst.2];rfl),fun _ _ _ _ _ q=>Jv q,fun _ _ _ _ _ q=>Ie q⟩
    ·cases h
   ·cases h
  ·obtain⟨ma,e1,rfl⟩:=map_eq h
   exact zh S (R.e _ _ _ _ e1 X S)
 ·obtain⟨ma,e1,rfl⟩:=map_eq h
  exact zh S (R.e _ _ _ _ e1 X S)
theorem Ib (R:Snd M T k n) : ∀ N ns e m,cG T (n+1) N ns e=some m -> ∀ X,Sc M X k N ns->PG X e (tG M.K m):=by
 intro N ns e m h X S
 simp only [cG,rc,sG] at h
 split at h
 ·split at h
  ·rename_i hs
   obtain⟨i,e1,rfl⟩:=map_eq h
   exact PG.con (xb (by rw [S.hN];exact S.nd) (by rw [S.hN];exact slot_get e1) (S.lo hs).1 (S.lo hs).2) fun _ _ _ _ q=>Km q
  ·cases h
 ·split at h
  ·rename_i hs
   obtain⟨ma,e1,h⟩:=bind_eq h
   obtain⟨mb,e2,rfl⟩:=map_eq h
   exact PG.con (AU (R.e _ _ _ _ e1 X S) (R.e _ _ _ _ e2 X S) (xg (by have:=S.room.units;omega)) (zR hs _)) fun _ _ _ _ q=>Hy q
  ·cases h
 ·obtain⟨gs,e1,rfl⟩:=map_eq h
  obtain⟨h1,h2⟩:=wQ X.env _ (uL e1)
  refine PG.con (EJ S.calm (R.gs _ _ _ _ e1 X S) h1 h2) fun _ _ _ _ q => ?_
  rw [S.hK]
  exact Il q
 ·cases h
theorem Ez (R:Snd M T k n) : ∀ N ns es m,cGs T (n+1) N ns es=some m -> ∀ X,Sc M X k N ns->PGs X es (tGs M.K m):=by
 intro N ns es m h X S
 simp only [cGs,rc,sGs] at h
 split at h
 ·cases h;exact PGs.con Dk fun _ _ _ _ q=>Ff q
 ·split at h
  ·rename_i hs
   obtain⟨g,e1,h⟩:=bind_eq h
   obtain⟨gs,e2,rfl⟩:=map_eq h
   exact PGs.con (AH (R.g _ _ _ _ e1 X S) (R.gs _ _ _ _ e2 X S) (by rw [tV hs];rfl)) fun _ _ _ _ q=>B8 q
  ·cases h
theorem Cz (O:TOk M T k) (R:Snd M T k n) {N:List Str}{ns:NS}{it:Expr}{mi:MI}{X:Cx}{ts:List Expr}{kt:Nat}{pt:Pos} (h:FL (rc n) T N ns it=some mi) (S:Sc M X k N ns) :
  ∃ wi,PI X (.Tuple ts kt pt) it wi /\ ∀ g mb D σ H,tMS M.K (kU g mi mb) D σ H->qc wi (tG M.K g) (tMS M.K mb) D σ H:=by
 unfold FL at h
 split at h
 ·split at h
  ·rename_i hr
   split at h
   ·rename_i hg
    rw [eq_of_beq hr] at hg ⊢
    obtain⟨ma,e1,rfl⟩:=map_eq h
    have hst:=iH e1
    simp only [bT,lg,jJ,aB] at hst
    exact⟨_,Gp S hg (O.B _ (by decide +kernel)) (R.a _ _ _ _ e1 X S) (bY hst.1 _ _) (bY hst.2 _ _),fun _ _ _ _ _ q=>Hb q⟩
   ·cases h
  ·obtain⟨ma,e1,rfl⟩:=map_eq h
   exact⟨_,Gj S (R.e _ _ _ _ e1 X S),fun _ _ _ _ _ q=>Ed q⟩
 ·obtain⟨ma,e1,rfl⟩:=map_eq h
  exact⟨_,Gj S (R.e _ _ _ _ e1 X S),fun _ _ _ _ _ q=>Ed q⟩
theorem E1 (O:TOk M T k) (R:Snd M T k n) {N:List Str}{ns:NS}{it:Expr}{mi:MI}{X:Cx}{ts:List Expr}{kt:Nat}{pt:Pos} (h:eIt (rc n) T N ns it=some mi) (S:Sc M X k N ns) :
  ∃ wi,PI X (.Tuple ts kt pt) it wi /\ ∀ g mb D σ H,tMS M.K (kU g mi mb) D σ H->qc wi (tG M.K g) (tMS M.K mb) D σ H:=by
 unfold eIt at h
 ·exact Cz O R h S
theorem BM {N:List Str}{ns:NS}{X:Cx}{m:MS} (R:Snd M T k n) {y:Str}{elt it tg:Expr}{ifs:List Expr}{scope:Scope}{p1:Pos}{p2 p3:Pos} (h:FK (rc n) T N ns y elt it ifs scope tg=some m) (S:Sc M X k N ns) :
  PS X (.Assign [.Name y p1] (.ListComp elt [⟨tg,it,ifs,0⟩] scope p2) p3) (tMS M.K m):=by
 unfold FK at h
 split at h
 ·split at h
  ·rename_i hs
   rw [aB,aB,aB] at hs
   obtain⟨i,e0,h⟩:=bind_eq h
   obtain⟨mi,e1,h⟩:=bind_eq h
   obtain⟨mt,e2,h⟩:=bind_eq h
   obtain⟨mc,e3,rfl⟩:=map_eq h
   obtain⟨wi,h1,_,h3⟩:=R.i _ _ _ _ _ e1 X S
   exact FH S i (slot_get e0) hs.1 (eq_of_beq hs.2.1.1) hs.2.1.2 h1 (fun X' S'=>R.f _ _ _ _ e2 X' S') (fun X' S'=>R.e _ _ _ _ e3 X' S') (h3 mt mc) (nY hs.2.2 _)
  ·cases h
 ·cases h
theorem CK {N:List Str}{ns:NS}{X:Cx}{m:MS} (R:Snd M T k n) {x:Str}{e:Expr}{p1:Pos}{p3:Pos} (h:E2 (rc n) T N ns x e=some m) (S:Sc M X k N ns):PS X (.Assign [.Name x p1] e p3) (tMS M.K m):=by
 unfold E2 at h
 split at h
 ·unfold Ia at h
  split at h
  ·rename_i c
   obtain⟨tg,it,ifs,ia⟩:=c
   split at h
   ·rename_i h0
    have h0':ia=0:=h0
    subst h0'
    exact BM R h S
   ·cases h
  ·cases h
 ·split at h
  ·rename_i hs
   rw [aB] at hs
   obtain⟨i,e1,h⟩:=bind_eq h
   obtain⟨me,e2,rfl⟩:=map_eq h
   exact DS S i (slot_get e1) hs.1 (R.e _ _ _ _ e2 X S) (sx hs.2 _ _ _)
  ·cases h
theorem Dt {N:List Str}{ns:NS}{X:Cx}{m:MS} (R:Snd M T k n) {t e:Expr}{p3:Pos} (h:Em (rc n) T N ns e t=some m) (S:Sc M X k N ns):PS X (.Assign [t] e p3) (tMS M.K m):=by
 unfold Em at h
 split at h
 ·exact CK R h S
 ·split at h
  ·rename_i hs
   rw [aB] at hs
   obtain⟨ma,e1,h⟩:=bind_eq h
   obtain⟨mb,e2,h⟩:=bind_eq h
   obtain⟨me,e3,rfl⟩:=map_eq h
   exact BN S (R.e _ _ _ _ e1 X S) (R.e _ _ _ _ e2 X S) (R.e _ _ _ _ e3 X S) (wz hs.1 _ _ _) vM rfl (zR hs.2 _)
  ·cases h
 ·split at h
  ·rename_i hs
   rw [aB] at hs
   obtain⟨g,e1,h⟩:=bind_eq h
   obtain⟨me,e2,rfl⟩:=map_eq h
   exact PS.con (Bk (R.e _ _ _ _ e2 X S) (R.g _ _ _ _ e1 X S) (wz hs.1 _ _ _) (t6 hs.2) rfl) fun _ _ _ q=>Ij q
  ·cases h
 ·cases h
theorem ET {N:List Str}{ns:NS}{X:Cx}{m:MS} (R:Snd M T k n) {x:Str}{e:Expr}{op:Operator}{p1:Pos}{p3:Pos} (h:sAu (rc n) T N ns x e op=some m) (S:Sc M X k N ns):PS X (.AugAssign (.Name x p1) op e p3) (tMS M.K m):=by
 unfold sAu at h
 split at h
 ·cases h
 ·cases h
theorem F5 {N:List Str}{ns:NS}{X:Cx}{m:MS} (O:TOk M T k) (R:Snd M T k n) {t it:Expr}{body:List Stmt}{p3:Pos} (h:sFo (rc n) T N ns it body t=some m) (S:Sc M X k N ns):PS X (.For t it body [] p3) (tMS M.K m):=by
 unfold sFo at h
 split at h
 ·split at h
  ·rename_i hs
   rw [aB] at hs
   obtain⟨i,e1,h⟩:=bind_eq h
   obtain⟨mi,e2,h⟩:=bind_eq h
   obtain⟨mb,e3,rfl⟩:=map_eq h
   obtain⟨wi,h1,h2,_⟩:=R.i _ _ _ _ _ e2 X S
   exact G7 S i (slot_get e1) hs.1 h1 (R.b _ _ _ _ e3 X S) (h2 i mb) (nY hs.2 _)
  ·cases h
 ·rename_i ts kt pt
  split at h
  ·rename_i hs
   obtain⟨g,e1,h⟩:=bind_eq h
   obtain⟨mi,e2,h⟩:=bind_eq h
   obtain⟨mb,e3,rfl⟩:=map_eq h
   obtain⟨wi,h1,h2⟩:=E1 O R (ts:=ts) (kt:=kt) (pt:=pt) e2 S
   exact PS.con (zq S.own S.calm h1 (R.g _ _ _ _ e1 X S) (R.b _ _ _ _ e3 X S) (nY hs _)) fun _ _ _ q=>h2 _ _ _ _ _ q
  ·cases h
 ·cases h
theorem G0 (O:TOk M T k) (R:Snd M T k n) : ∀ N ns st m,cS T (n+1) N ns st=some m -> ∀ X,Sc M X k N ns->PS X st (tMS M.K m):=by
 intro N ns st m h X S
 simp only [cS,rc,sS] at h
 split at h
 ·unfold sAs at h
  split at h
  ·exact Dt R h S
  ·cases h
 ·unfold Iv at h
  split at h
  ·exact ET R h S
  ·cases h
 ·split at h
  ·rename_i hs
   obtain⟨me,e2,rfl⟩:=map_eq h
   exact Fc (R.e _ _ _ _ e2 X S) (sx hs _ _ _)
  ·cases h
 ·unfold sRt at h
  split at h
  ·obtain⟨me,e2,rfl⟩:=map_eq h
   exact Iq (R.e _ _ _ _ e2 X S)
  ·cases h;exact Ey
 ·obtain⟨mc,e1,h⟩:=bind_eq h
  obtain⟨ma,e2,h⟩:=bind_eq h
  obtain⟨mb,e3,rfl⟩:=map_eq h
  exact JS (R.t _ _ _ _ e1 X S) (R.b _ _ _ _ e2 X S) (R.b _ _ _ _ e3 X S)
 ·unfold JG at h
  split at h
  ·exact F5 O R h S
  ·cases h
 ·unfold sWh at h
  split at h
  ·obtain⟨mc,e1,h⟩:=bind_eq h
   obtain⟨mb,e2,rfl⟩:=map_eq h
   exact CU S (R.t _ _ _ _ e1 X S) (R.b _ _ _ _ e2 X S)
  ·cases h
 ·cases h;exact Eo
 ·cases h;exact HE
 ·cases h;exact J5
 ·cases h;exact Ja
 ·cases h
theorem JQ (R:Snd M T k n) : ∀ N ns sts m,cB T (n+1) N ns sts=some m -> ∀ X,Sc M X k N ns->PSs X sts (tMS M.K m):=by
 intro N ns sts m h X S
 simp only [cB,rc,sB] at h
 split at h
 ·cases h;exact Ic
 ·exact G8 (R.s _ _ _ _ h X S)
 ·obtain⟨ma,e1,h⟩:=bind_eq h
  obtain⟨mr,e2,rfl⟩:=map_eq h
  exact Iw (R.s _ _ _ _ e1 X S) (R.b _ _ _ _ e2 X S)
theorem snd : ∀ n M T k,GOk M T k->Snd M T k n
 | 0,M,T,k,_=>Kg M T k
 | n+1,M,T,k,Gk=>by
   have RA:=snd n
   have R:=RA M T k Gk
   exact⟨Jn Gk R RA,HS Gk.1 R,HU Gk.1 R,fun N ns g m h=>(by cases (show (none:Option ME)=some m from h)),Hz R,I0 R,G3 R,IG R,JE R,JP Gk.1 R,Ib R,Ez R,G0 Gk.1 R,JQ R⟩
theorem GOk.of (O:TOk M T k) (h:T.mkr=false):GOk M T k:=⟨O,fun z=>by rw [h] at z;cases z⟩
theorem wJ {x qual:Str}{st:Stmt}{f:Addr}{fd:FuncData}{N ps:List Str}{ms:MS}{fu:Nat} (O:TOk M T k) (h0:M.mkr=none) (h1:T.mkr=false) (F:Fun M.K x qual st f fd) (S:bw N ps (ax st)) (hm:M.mg x=some (.ref f)) (hb:Binds M.K fd ps [])
  (h:cB T fu N (ax st).names (bc st)=some ms):Fn M x (k+1) ps (run ps.length N.length ms):=
 ⟨f,fd,hm,F.2,hb,Bg h0 F S fun X S'=>(snd fu M T k (.of O h1)).b _ _ _ _ h X S'⟩
end
end G
end
section
namespace G
open PySem PySem.Spec L2
open PyProof.Rows hiding St
structure Def (K:ak) (x:Str) (st:Stmt):Prop where
 ex : ∃ f fd,gg K mainGlobals x=some (some (.ref f))/\Fun K x x st f fd
theorem cR {K:ak}{x:Str}{st:Stmt}{f:Addr}{od an:Option Addr}{sl:Array (Option Value)}{oc kV doc pm cd ct:Value} (a:gg K mainGlobals x=some (some (.ref f)))
  (l:K.lookup f=some ⟨oc,od,.func (cu x x (ff st) (bc st) (ax st) .none kV doc pm an cd ct),sl⟩) (c:gc K cd x=true) (k:ck K (.ref f)=true):Def K x st:=
 ⟨f,_,a,GT l c k⟩
section
variable {M:Mo}{T:Tb}{k:Nat}{h:Heap}{x:Str}{st:Stmt}{N ps:List Str}{ms:MS}{fu:Nat}
theorem Def.fn (O:TOk M T k) (h0:M.mkr=none) (h1:T.mkr=false) (X:M.K.K.In h) (Gn:h.Ns mainGlobals M.mg) (D:Def M.K x st) (S:bw N ps (ax st))
  (hb : ∀ (kV doc pm:Value) (an:Option Addr) (cdv ct:Value) (us:List Value),us.length=ps.length->bindArgs (cu x x (ff st) (bc st) (ax st) .none kV doc pm an cdv ct) ⟨us,[]⟩=pure (ps.zip us))
  (hc:cB T fu N (ax st).names (bc st)=some ms):Fn M x (k+1) ps (run ps.length N.length ms):=by
 obtain⟨f,fd,a,F⟩:=D.ex
 exact wJ O h0 h1 F S (mN X Gn a) (F.binds hb) hc
theorem TOk.mono {j:Nat} (O:TOk M T k) (hj:k<=j):TOk M T j where
 D:=fun y g hy=>let ⟨k',ps',hk,F'⟩:=O.D y g hy;⟨k',ps',br hk hj,F'⟩
 C:=O.C
 B:=O.B
 L:=fun y q hy=>let ⟨k',ps',hk,F'⟩:=O.L y q hy;⟨k',ps',br hk hj,F'⟩
 mkr:=O.mkr
theorem TOk.cons {j:Nat}{mf:MF} (O:TOk M T k) (F:Fn M x j ps mf) (hj:k<=j):TOk M ⟨(x,mf)::T.D,T.C,T.L,T.H,T.mkr⟩ j where
 D:=fun y g hy=>by
  rw [aL] at hy
  cases e:y == x with
  | true=>rw [e] at hy;cases hy;rw [eq_of_beq e];exact⟨j,ps,aj _,F⟩
  | false=>
    rw [e] at hy
    obtain⟨k',ps',hk,F'⟩:=O.D y g hy
    exact⟨k',ps',br hk hj,F'⟩
 C:=O.C
 B:=O.B
 L:=(O.mono hj).L
 mkr:=O.mkr
theorem TOk.setH {Hs:List (Str×(Addr->MF->MF))} (O:TOk M T k):TOk M ⟨T.D,T.C,T.L,Hs,T.mkr⟩ k:=⟨O.D,O.C,O.B,O.L,O.mkr⟩
theorem TOk.nil (X:M.K.K.In h) (Gn:h.Ns mainGlobals M.mg) (B : ∀ x∈i4,gg M.K mainGlobals x=some none):TOk M ⟨[],[],[],[],false⟩ 0 where
 D:=fun y g hy=>by cases hy
 C:=fun y g hy=>by cases hy
 B:=fun y hy=>PySem.W.mg_none_of X Gn (B y hy)
 L:=fun y g hy=>by cases hy
 mkr:=fun h=>by cases h
theorem Def.fnC {y:Str}{msC:Addr->MF->MS} (O : ∀ caps capv cds base,gK M.mg base->TOk (M.to caps capv cds base) T k) (h1:T.mkr=false) (hL:T.L = []) (X:M.K.K.In h) (Gn:h.Ns mainGlobals M.mg) (D:Def M.K x st) (S:bw N ps (ax st))
  (hb : ∀ (kV doc pm:Value) (an:Option Addr) (cdv ct:Value) (us:List Value),us.length=ps.length->bindArgs (cu x x (ff st) (bc st) (ax st) .none kV doc pm an cdv ct) ⟨us,[]⟩=pure (ps.zip us))
  (hc : ∀ g φ,cB ⟨T.D,T.C,[(y,g,φ)],T.H,T.mkr⟩ fu N (ax st).names (bc st)=some (msC g φ)):FnC M x k ps fun g φ=>run ps.length N.length (msC g φ):=by
 obtain⟨f,fd,a,F⟩:=D.ex
 refine⟨f,fd,mN X Gn a,F.2,F.binds hb,fun caps capv cds base g j lps φ hbb hkj lam => ?_⟩
 have O':TOk (M.to caps capv cds base) ⟨T.D,T.C,[(y,g,φ)],T.H,T.mkr⟩ j:=by
  have O1:=(O caps capv cds base hbb).mono hkj
  refine⟨O1.D,O1.C,O1.B,fun z q hz => ?_,fun hm=>by rw [h1] at hm;cases hm⟩
  rw [aL] at hz
  cases e:z == y with
  | true=>rw [e] at hz;cases hz;exact⟨j,lps,aj _,lam⟩
  | false=>rw [e] at hz;cases hz
 exact Bg (M:=M.to caps capv cds base) rfl F S fun X' S'=>(snd fu _ _ _ (.of O' h1)).b _ _ _ _ (hc g φ) X' S'
end
structure nK (K:ak) (x:Str) (st:Stmt) (c P:Addr):Prop where
 ex : ∃ (f:Addr) (oc:Value) (od:Option Addr) (kV doc pm:Value) (an:Option Addr) (ct:Value) (sl:Array (Option Value)),gg K mainGlobals x=some (some (.ref f)) /\
  K.lookup f=some ⟨oc,od,.func (cu x x (ff st) (bc st) (ax st) .none kV doc pm an (.ref c) ct),sl⟩/\gc K (.ref c) x=true/\ck K (.ref f)=true
 cd : ∃ (vs:Array Value) (od:Option Addr) (sl:Array (Option Value)) (file:Str) (tf:Tok) (flags:Int) (tg:Tok) (inF:Bool) (text:Int) (tt:Tok),K.lookup c=some ⟨.type "code",od,.fields vs,sl⟩/\vs[11]? = some (.ref P)/\vs.getD 11 .none = .ref P/\vs.getD 18 .none = .str file tf /\
  vs.getD 7 .none = .int flags tg/\vs.getD 9 .none = .bool inF/\vs.getD 10 .none = .int text tt/\c≠P
section
variable {M:Mo}{T:Tb}{k:Nat}{h:Heap}{x:Str}{st:Stmt}{N ps:List Str}{ms:MS}{fu:Nat}{c P:Addr}
theorem nK.mkr (D:nK M.K x st c P) (B:gK M.mg M.base) (X:M.K.K.In h) (Gn:h.Ns mainGlobals M.mg) {q:Str} (hm:(P,q)∈M.K.tabs) (nd:(M.K.tabs.map (·.1)).Nodup) (hg:mainGlobals≠P):Mkr M c P q where
 hd:=fun h' X'=>by
  obtain⟨vs,od,sl,file,tf,flags,tg,inF,text,tt,e,r⟩:=D.cd
  obtain⟨r1,r2,r3,r4,r5,r6,r7⟩:=r
  exact⟨_,vs,file,tf,flags,tg,inF,text,tt,X' _ _ e,rfl,rfl,r1,r2,r3,r4,r5,r6,r7⟩
 bl:=B
 gP:=hg
 mem:=hm
 un:=fun r hr e=>by
  have key : ∀ (l:List (Addr×Str)),(l.map (·.1)).Nodup->r∈l->(P,q)∈l->r.2=q:=by
   intro l
   induction l with
   | nil=>intro _ h;simp at h
   | cons y l ih=>
     intro nd h1 h2
     rw [bz,dq] at nd
     rcases aG.mp h1 with h1 | h1
     ·rcases aG.mp h2 with h2 | h2
      ·rw [h1,<- h2]
      ·exact absurd (aQ.mpr ⟨_,h2,rfl⟩) (by rw [<- e,h1] at *;exact nd.1)
     ·rcases aG.mp h2 with h2 | h2
      ·exact absurd (aQ.mpr ⟨r,h1,e⟩) (by rw [<- h2] at nd;exact nd.1)
      ·exact ih nd.2 h1 h2
  exact key _ nd hr hm
theorem nK.fn (D:nK M.K x st c P) (h0:M.mkr=none) (O : ∀ caps capv cds base,gK M.mg base->TOk (M.to caps capv cds base) T k) (O0:TOk M T k) (hL:T.L = []) (h1:T.mkr=false) (hH : ∀ y F,T.H.lookup y=some F -> ∃ k' ps,k'<=k+1/\FnC M y k' ps F) (MK:Mkr M c P (x++".<locals>."++"<lambda>"))
  (X:M.K.K.In h) (Gn:h.Ns mainGlobals M.mg) (S:bw N ps (ax st))
  (hb : ∀ (kV doc pm:Value) (an:Option Addr) (cdv ct:Value) (us:List Value),us.length=ps.length->bindArgs (cu x x (ff st) (bc st) (ax st) .none kV doc pm an cdv ct) ⟨us,[]⟩=pure (ps.zip us))
  (hc:cB ⟨T.D,T.C,T.L,T.H,true⟩ fu N (ax st).names (bc st)=some ms):Fn M x (k+3) ps (run ps.length N.length ms):=by
 obtain⟨f,oc,od,kV,doc,pm,an,ct,sl,a,lk,hcd,hkp⟩:=D.ex
 let M1:Mo:=⟨M.P,M.w,M.K,M.mg,M.base,some (c,x++".<locals>.")⟩
 have O1:TOk M1 ⟨T.D,T.C,T.L,T.H,true⟩ (k+2):=by
  have Om:=O0.mono (show k<=k+2 by omega)
  refine⟨fun y g hy => ?_,Om.C,Om.B,fun y q hy => ?_,fun _=>⟨c,x++".<locals>.",P,rfl,MK.hd,MK.bl,MK.gP,MK.mem,MK.un⟩⟩
  ·obtain⟨k',ps',hk,F'⟩:=Om.D y g hy
   exact⟨k',ps',hk,⟨F'.ex⟩⟩
  ·rw [show (⟨T.D,T.C,T.L,T.H,true⟩:Tb).L=T.L from rfl,hL] at hy
   cases hy
 have G1:GOk M1 ⟨T.D,T.C,T.L,T.H,true⟩ (k+2):=⟨O1,fun _=>⟨k,aj _,fun y F hy=>by
  obtain⟨k',ps',hk,FC⟩:=hH y F hy
  exact⟨k',ps',hk,⟨FC.ex⟩⟩,fun caps capv cds base hbb=>by
   have Ob:=O caps capv cds base hbb
   exact⟨Ob.D,Ob.C,Ob.B,fun y q hy=>(by cases hy),fun z=>(by cases z)⟩⟩⟩
 refine⟨f,_,mN X Gn a,hkp,.all (hb kV doc pm an (.ref c) ct),?_⟩
 have len : ∀ vs H Q E,spM M.K (run ps.length N.length ms) vs H Q E->vs.length=ps.length:=fun vs H Q E h=>by
  obtain⟨μ,S',us,u,S'',hr,rs,e,_⟩:=h
  unfold run at e
  split at e
  ·rename_i hl;rw [<- rs.len];exact hl
  ·cases e
 refine L2.wJ lk hcd S len fun A outer s H vs Q E hr h=>⟨tMS M.K ms,((snd fu M1 _ _ G1).b _ _ _ _ hc _ (Sc.def (M:=M1) S hr fun c' q' hq=>by cases hq;exact⟨rfl,rfl⟩)).nox,?_⟩
 obtain⟨μ,S1,us,u,S2,hr,rs,e,ka⟩:=h
 unfold run at e
 split at e
 ·rename_i hl
  have er:=qI (N:=N) rs
  rw [hl] at er
  split at e
  ·rename_i w ρ' S3 q
   cases e
   exact⟨μ,S1,_,_,hr,er,q,ka⟩
  ·rename_i ρ' S3 q
   cases e
   exact⟨μ,S1,_,_,hr,er,q,fun μ' σ' H' p' k' hr' er'=>ka μ' _ H' p' k' hr' m9⟩
  ·cases e
 ·cases e
end
section
variable {M:Mo}
theorem oj {Hs:List (Str×(Addr->MF->MF))}{j k:Nat} (h : ∀ y F,Hs.lookup y=some F -> ∃ k' ps,k'<=j/\FnC M y k' ps F) (hj:j<=k) : ∀ y F,Hs.lookup y=some F -> ∃ k' ps,k'<=k/\FnC M y k' ps F:=fun y F hy=>
 let ⟨k',ps,a,b⟩:=h y F hy;⟨k',ps,br a hj,b⟩
theorem Dg {Hs:List (Str×(Addr->MF->MF))}{i j k:Nat}{x:Str}{F0:Addr->MF->MF}{ps:List Str} (h : ∀ y F,Hs.lookup y=some F -> ∃ k' ps,k'<=j/\FnC M y k' ps F) (F1:FnC M x i ps F0) (hi:i<=k) (hj:j<=k) : ∀ y F,((x,F0)::Hs).lookup y=some F -> ∃ k' ps,k'<=k/\FnC M y k' ps F:=fun y F hy=>by
 rw [aL] at hy
 cases e:y == x with
 | true=>rw [e] at hy;cases hy;rw [eq_of_beq e];exact⟨i,ps,hi,F1⟩
 | false=>rw [e] at hy;exact oj h hj y F hy
end
theorem wC {K:ak}{x:Str}{st:Stmt}{f c P:Addr}{od an od':Option Addr}{sl sl':Array (Option Value)}{oc kV doc pm ct:Value}{vs:Array Value}{file:Str}{tf tg tt:Tok}{flags text:Int}{inF:Bool} (a:gg K mainGlobals x=some (some (.ref f)))
  (l:K.lookup f=some ⟨oc,od,.func (cu x x (ff st) (bc st) (ax st) .none kV doc pm an (.ref c) ct),sl⟩) (cc:gc K (.ref c) x=true) (k:ck K (.ref f)=true)
  (e:K.lookup c=some ⟨.type "code",od',.fields vs,sl'⟩) (r1:vs[11]? = some (.ref P)) (r2:vs.getD 11 .none = .ref P) (r3:vs.getD 18 .none = .str file tf) (r4:vs.getD 7 .none = .int flags tg) (r5:vs.getD 9 .none = .bool inF) (r6:vs.getD 10 .none = .int text tt) (r7:c≠P):nK K x st c P:=
 ⟨⟨f,oc,od,kV,doc,pm,an,ct,sl,a,l,cc,k⟩,⟨vs,od',sl',file,tf,flags,tg,inF,text,tt,e,r1,r2,r3,r4,r5,r6,r7⟩⟩
theorem GU {l:kJ}{w:World}{K:ak}{h:Heap}{mg:Str->Option Value}{fa:Addr}{st:Stmt}{N:List Str}{ms:MS}{fu k:Nat}{T:Tb} (X:K.In h) (Gn:h.Ns mainGlobals mg) (hfa:mg "law"=some (.ref fa))
  (D:Def K "law" st) (S:bw N ["script"] (ax st))
  (hb : ∀ (kV doc pm:Value) (an:Option Addr) (cdv ct:Value) (us:List Value),us.length = ["script"].length->bindArgs (cu "law" "law" (ff st) (bc st) (ax st) .none kV doc pm an cdv ct) ⟨us,[]⟩=pure ((["script"]:List Str).zip us))
  {tabs:List (Addr×Str)} (h1:T.mkr=false) (hO : ∀ base:Heap,gK mg base->TOk ⟨l.prog,w,⟨K,[],[],[],tabs⟩,mg,base,none⟩ T k) (hc:cB T fu N (ax st).names (bc st)=some ms) :
  ∃ fd:FuncData,(∀ (s:Shared) (v:Value),BindsTo s fd ⟨[v],[]⟩ [("script",v)]) /\ ∀ base:Heap,K.In base->base.Ns mainGlobals mg->gK mg base->kL l.prog w K mg base CX0 (k+1) fa fd ["script"] (spM ⟨K,[],[],[],tabs⟩ (run 1 N.length ms)):=by
 obtain⟨f,fd,a,F⟩:=D.ex
 have e:=hfa.symm.trans (mN X Gn a)
 cases e
 refine⟨fd,fun s v => ?_,fun base _ _ hbb=>Bg (M:=⟨l.prog,w,⟨K,[],[],[],tabs⟩,mg,base,none⟩) rfl F S fun X' S'=>(snd fu _ _ _ (.of (hO base hbb) h1)).b _ _ _ _ hc X' S'⟩
 obtain⟨oc,od,kV,doc,pm,an,cdv,ct,osl,rfl,lk,hcd⟩:=F.ex
 exact .of_eq (hb kV doc pm an cdv ct [v] rfl)
theorem Hg {K:ak}{tabs:List (Addr×Str)}{H:Hp}{a:Addr}{ns:List Int}{m:MF} (hT : ∀ q∈tabs,vw H q.1 q.2) (hS:SqL K H a (ns.map V.int)) (hm : ∀ S:Sto,S.length=1->getL S 0=some (ns.map U.int) -> ∃ S',m [.ref 0] S=some (.bl true,S')) :
  spM ⟨K,[],[],[],tabs⟩ m [.ref a] H (fun v _=>v = .bl true) fun _ _ _=>False:=by
 have key : ∃ c:Cell,kQ ⟨K,[],[],[],tabs⟩ H [a] a c/\getL [c] 0=some (ns.map U.int):=by
  rcases hS with (h | ⟨o,h⟩) | h
  ·exact⟨.lst (ns.map U.int),⟨_,h,RUs.ints ns⟩,rfl⟩
  ·exact⟨.frz (ns.map U.int),⟨_,.inl ⟨o,h⟩,RUs.ints ns⟩,rfl⟩
  ·exact⟨.frz (ns.map U.int),⟨_,.inr (.inr h),RUs.ints ns⟩,rfl⟩
 obtain⟨c,hc,hg⟩:=key
 obtain⟨S',e⟩:=hm [c] rfl hg
 refine⟨[a],[c],[.ref 0],.bl true,S',⟨rfl,fun n m us ws q1 q2 _ _ _ => ?_,fun n c' b q1 q2 => ?_,⟨.nil,fun q hq=>(nomatch hq),hT⟩⟩,.cons (oZ rfl) .nil,e,fun μ' v H' _ _ _ r=>iD r⟩
 ·have h1:=(ae.mp q1).1
  have h2:=(ae.mp q2).1
  simp at h1 h2;omega
 ·have h1:=(ae.mp q1).1
  simp at h1;subst h1
  cases q1;cases q2
  exact hc
end G
end
section
namespace G
open PySem PySem.Spec L2
open PySem.W (CodeHd tabObj tabIn)
open PyProof.Rows hiding St
theorem nK.tab {K:ak}{x:Str}{st:Stmt}{c P:Addr} (D:nK K x st c P):tabIn K x=some (c,P):=by
 obtain⟨f,oc,od,kV,doc,pm,an,ct,sl,e1,e2,_⟩:=D.ex
 obtain⟨vs,od',sl',file,tf,flags,tg,inF,text,tt,e3,e4,_⟩:=D.cd
 unfold tabIn
 simp only [e1,e2,e3,e4]
noncomputable def tJ (K:ak) (tabs:List (Addr×Str)) (a:Addr) (o:Obj) (xs:List V):Hp:=fun b=>
 if b∈tabs.map (·.1) then some (.tbl #[]) else if b=a/\K.lookup a=none then some (.frz o (.lst xs)) else none
section
variable {P:Program}{w:World}{K:ak}{mg mb:Str->Option Value}{k:Nat}{fa a:Addr}{fd:FuncData}{x:Str}{sp:Sp}{s:Shared}{vs:List Value}{ns:List Int}{tabs:List (Addr×Str)}
theorem B7 (kx:K.In s.heap) (hns:s.heap.Ns mainGlobals mg) (hb:s.heap.Ns builtinsNs mb) (hbb : ∀ x:Str,x≠"__name__"->mb x=bootBuiltins x) (hlim:s.heap.NoLimit) (hbm:gK mg s.heap) (hg:s.gens = #[])
  (ha:s.heap.get? a=some { cls := .type "list",data := .seq vs.toArray }) (hi:IntsAre vs ns) (hl:ns.length<=sizeLine) (hr:ja k callerA)
  (hT : ∀ r∈tabs,K.lookup r.1=none /\ ∃ c,s.heap.TableAt c r.1 #[])
  (F : ∀ base:Heap,K.In base->base.Ns mainGlobals mg->gK mg base->kL P w K mg base CX0 k fa fd [x] sp) (hbind : ∀ (s:Shared) (u:Value),BindsTo s fd ⟨[u],[]⟩ [(x,u)])
  (hsp : ∀ H:Hp,(∀ r∈tabs,vw H r.1 r.2)->SqL K H a (ns.map V.int)->sp [.ref a] H (fun v _=>v = .bl true) fun _ _ _=>False) :
  pS (model P w) callerA (.call (.ref fa) ⟨[.ref a],[]⟩) (fun r s'=>r = .ok (.ret (.bool true))/\OldK s.heap s'.heap/\s'.os=s.os/\AllBare s'.gens) s:=by
 have rv:=mS hi
 have lenV:=hi.length
 let o:Obj:={ cls := .type "list",data := .seq vs.toArray }
 let H:=tJ K tabs a o (ns.map V.int)
 have hH:H=tJ K tabs a o (ns.map V.int):=rfl
 have tab : ∀ b,b∈tabs.map (·.1)->H b=some (.tbl #[])/\K.lookup b=none /\ ∃ c,s.heap.TableAt c b #[]:=fun b hb=>by
  obtain⟨r,hr,e⟩:=aQ.mp hb
  subst e
  exact⟨if_pos hb,hT r hr⟩
 have anot:a∉tabs.map (·.1):=fun z=>by
  obtain⟨_,_,c,ht⟩:=tab a z
  have e:=ht.2
  rw [ha] at e
  cases e
 have Hof : ∀ b u,H b=some u->(b∈tabs.map (·.1)/\u = .tbl #[])\/(b=a/\K.lookup a=none/\u = .frz o (.lst (ns.map V.int))):=fun b u e=>by
  rw [hH] at e
  unfold tJ at e
  split at e
  ·rename_i z;cases e;exact .inl ⟨z,rfl⟩
  ·split at e
   ·rename_i z;cases e;exact .inr ⟨z.1,z.2,rfl⟩
   ·cases e
 have nodic : ∀ {b:Addr}{o:Obj}{es:Array DictEntry}{ep:Nat},s.heap.get? b=some o->o.data = .dict es ep->H b=none:=fun {b o' es ep} e d=>by
  cases q:H b with
  | none=>rfl
  | some u=>
    rcases Hof b u q with⟨z,_⟩ | ⟨z,_⟩
    ·obtain⟨_,_,c,ht⟩:=tab b z
     have e2:=ht.2
     rw [e] at e2;cases e2;cases d
    ·subst z
     rw [ha] at e;cases e;cases d
 have nsK : ∀ {b:Addr}{m:Str->Option Value},s.heap.Ns b m->(pZ s.heap H).Ns b m:=fun {b m} ⟨o,es,ep,e,d,r⟩=>⟨o,es,ep,mG e (nodic e d),d,r⟩
 have hKb:K.In (pZ s.heap H):=fun b o' e=>mG (kx b o' e) (by
  cases q:H b with
  | none=>rfl
  | some u=>
    rcases Hof b u q with⟨z,_⟩ | ⟨z,z2,_⟩
    ·rw [(tab b z).2.1] at e;cases e
    ·rw [z,z2] at e;cases e)
 have hok:HOk P w H s.heap:=fun b u e=>by
  rcases Hof b u e with⟨z,rfl⟩ | ⟨rfl,z2,rfl⟩
  ·obtain⟨_,_,c,ht⟩:=tab b z
   exact ht.2
  ·exact⟨ha,by rw [aq];exact hl,vs,_,rv,ha⟩
 have hS:SqL K H a (ns.map V.int):=by
  cases hk:K.lookup a with
  | some o'=>
    have e:=kx a o' hk
    rw [ha] at e
    cases e
    exact .inr ⟨_,vs.toArray,_,hk,rfl,rfl,rfl,by rw [aC,lenV];exact hl,by simpa using rv⟩
  | none=>exact .inl (.inr ⟨o,by show tJ K tabs a o (ns.map V.int) a=_;unfold tJ;rw [if_neg anot,if_pos ⟨rfl,hk⟩]⟩)
 have hM:Mod K mg (pZ s.heap H):=⟨hKb,nsK hns,⟨mb,nsK hb,hbb⟩,let ⟨mc,h1,h2⟩:=hlim;⟨mc,nsK h1,h2⟩⟩
 have e0:xP P w K mg (pZ s.heap H) callerA [] s H:=⟨rfl,hM,fun b o e=>wN e,Nat.le_of_eq (qA _ _),trivial,fun b hb=>absurd (show b∈([]:List Addr) from hb) (by simp),hok,.of_eq hg⟩
 have hBb:gK mg (pZ s.heap H):=by
  obtain⟨bm,ob,e1,e2,e3,e4,e5,e6⟩:=hbm
  refine⟨bm,ob,e1,e2,mG e3 ?_,e4,e5,e6⟩
  cases q:H bm with
  | none=>rfl
  | some u=>
    rcases Hof bm u q with⟨z,_⟩ | ⟨z,_⟩
    ·obtain⟨_,_,c,ht⟩:=tab bm z
     have e:=ht.2
     rw [e3] at e;cases e;cases e6
    ·rw [z,ha] at e3;cases e3;cases e6
 have hTR : ∀ r∈tabs,vw H r.1 r.2:=fun r hr=>⟨#[],(tab r.1 (aQ.mpr ⟨r,hr,rfl⟩)).1,trivial,fun pos cv h=>by cases h⟩
 refine jF ((F _ hKb (nsK hns) hBb).run callerA [] s H ⟨[.ref a],[]⟩ [.ref a] [.ref a] _ _ hr e0 (hbind s (.ref a)) (.cons rfl .nil) (hsp H hTR hS)) fun r s' h => ?_
 cases r with
 | error e=>exact h.elim
 | ok fl=>
   cases fl with
   | next=>exact bZ h
   | brk=>exact bZ h
   | cont=>exact bZ h
   | ret u=>
     obtain⟨v,H',os,bare,un,hok',r',q⟩:=h
     have q':v = .bl true:=q
     subst q'
     obtain rfl:u=vf true:=r'
     refine⟨rfl,⟨fun b o' e => ?_,fun b o' e=>un.there b o' e (by simp)⟩,os,bare⟩
     cases q:H b with
     | none=>exact .inl (un.keep b o' e q (by intro z;exact absurd (show b∈([]:List Addr) from z) (by simp)) (by simp))
     | some u=>
       rcases Hof b u q with⟨z,rfl⟩ | ⟨rfl,_,rfl⟩
       ·obtain⟨_,_,c,ht⟩:=tab b z
        obtain⟨more,e2⟩:=un.tbls b #[] q
        have e3:s'.heap.get? b=some { cls := .none,data := .fields (#[]++more) }:=hok' b _ e2
        have e4:=ht.2
        rw [e] at e4
        cases e4
        exact .inr (.inl ⟨ht.isCodeTable,rfl,#[],more,rfl,e3⟩)
       ·obtain⟨e2,_⟩:=hok' b _ (un.frzs b _ _ q)
        rw [ha] at e
        cases e
        exact .inl e2
end
theorem AZ {l:kJ}{n k:Nat}{q:Program}{loose:List Str}{XP:(Str->Option Value)->Heap->Prop}{YP:World->Heap->Prop}{d:DefRec}{K:Params->ak}{x:Str}
  (hn:l.most=some n) (hn2:n<=sizeLine) (hdf:d.params.defaults = []) (hr:ja k callerA) (hY : ∀ (w:World) (h:Heap),YP w h->(K w.params).In h)
  (F : ∀ (w:World) (mg:Str->Option Value) (fa:Addr) (h:Heap),(K w.params).In h->h.Ns mainGlobals mg->mg d.name=some (.ref fa) -> ∃ (tabs:List (Addr×Str)) (fd:FuncData) (sp:Sp),
   (∀ r∈tabs,(K w.params).lookup r.1=none /\ ∃ x d c,(recsOf q).find? (fun e=>e.name == x)=some d/\tabIn (K w.params) x=some (c,r.1)) /\
   (∀ (s:Shared) (u:Value),BindsTo s fd ⟨[u],[]⟩ [(x,u)])/\(∀ base:Heap,(K w.params).In base->base.Ns mainGlobals mg->gK mg base->kL l.prog w (K w.params) mg base CX0 k fa fd [x] sp) /\
   ∀ (H:Hp) (a:Addr) (ns:List Int),ns.length<=n->(∀ r∈tabs,vw H r.1 r.2)->SqL (K w.params) H a (ns.map V.int)->sp [.ref a] H (fun v _=>v = .bl true) fun _ _ _=>False) :
  PySem.W.WalkO q loose XP YP l.row.toRowW d [] (fun f vs=>PySem.call f vs):=by
 refine Att.attach_call hn hdf fun w s₀ s₁ mg mb fa o pm cd doc a vs ns G Y ho hd hcd hmg hobj hints hlen hg => ?_
 have kx:=hY w _ Y
 obtain⟨tabs,fd,sp,hT,hb,hF,hsp⟩:=F w mg fa _ kx G.T.g hmg
 refine B7 (tabs:=tabs) kx G.T.g G.T.b G.T.builtins G.T.nolimit G.T.bmain hg hobj hints (br hlen hn2) hr (fun r hr => ?_) hF hb fun H h1 h2=>hsp H a ns hlen h1 h2
 obtain⟨h1,x',d',c,h2,h3⟩:=hT r hr
 obtain⟨h4,h5⟩:=PySem.W.tab_of G.T kx h2 h3
 exact⟨h1,c,h4.tab h5⟩
end G
end
section
namespace G
open PySem PySem.Spec L2
theorem us0 {p:List Value->Prop} (h:p []) : ∀ us:List Value,us.length=0->p us
 | [],_=>h
theorem us1 {p:List Value->Prop} (h : ∀ a,p [a]) : ∀ us:List Value,us.length=1->p us
 | [a],_=>h a
theorem us2 {p:List Value->Prop} (h : ∀ a b,p [a,b]) : ∀ us:List Value,us.length=2->p us
 | [a,b],_=>h a b
theorem us3 {p:List Value->Prop} (h : ∀ a b c,p [a,b,c]) : ∀ us:List Value,us.length=3->p us
 | [a,b,c],_=>h a b c
noncomputable def Bd (x:Str) (st:Stmt) (ps:List Str):Prop := ∀ (kV doc pm:Value) (an:Option Addr) (cdv ct:Value) (us:List Value),us.length=ps.length->bindArgs (cu x x (ff st) (bc st) (ax st) .none kV doc pm an cdv ct) ⟨us,[]⟩=pure (ps.zip us)
structure Ch (P:Program) (w:World) (K:ak) (mg:Str->Option Value) (tabs:List (Addr×Str)) (T:Tb) (k:Nat):Prop where
 o : ∀ (caps:List U) (capv:List V) (cds:List (Addr×Obj)) (base:Heap),gK mg base->TOk ⟨P,w,⟨K,caps,capv,cds,tabs⟩,mg,base,none⟩ T k
 h : ∀ (caps:List U) (capv:List V) (cds:List (Addr×Obj)) (base:Heap),gK mg base -> ∀ y F,T.H.lookup y=some F -> ∃ k' ps,k'<=k/\FnC ⟨P,w,⟨K,caps,capv,cds,tabs⟩,mg,base,none⟩ y k' ps F
section
variable {P:Program}{w:World}{K:ak}{mg:Str->Option Value}{tabs:List (Addr×Str)}{T T':Tb}{k j:Nat}{h:Heap}{x:Str}{st:Stmt}{N ps:List Str}{ms:MS}{fu:Nat}
theorem Ch.dfn (c:Ch P w K mg tabs T k) (O : ∀ (caps:List U) (capv:List V) (cds:List (Addr×Obj)) (base:Heap),gK mg base->TOk ⟨P,w,⟨K,caps,capv,cds,tabs⟩,mg,base,none⟩ T' k) (h1:T'.mkr=false) (X:K.In h) (Gn:h.Ns mainGlobals mg) (D:Def K x st) (S:bw N ps (ax st)) (hb:Bd x st ps)
  (hc:cB T' fu N (ax st).names (bc st)=some ms):Ch P w K mg tabs ⟨(x,run ps.length N.length ms)::T.D,T.C,T.L,T.H,T.mkr⟩ (k+1):=
 ⟨fun a b d e f=>(c.o a b d e f).cons (D.fn (M:=⟨P,w,⟨K,a,b,d,tabs⟩,mg,e,none⟩) (O a b d e f) rfl h1 X Gn S hb hc) (iw k),fun a b d e f=>oj (c.h a b d e f) (iw k)⟩
theorem Ch.cls {y:Str}{msC:Addr->MF->MS} (c:Ch P w K mg tabs T k) (h1:T.mkr=false) (hL:T.L = []) (X:K.In h) (Gn:h.Ns mainGlobals mg) (D:Def K x st) (S:bw N ps (ax st)) (hb:Bd x st ps)
  (hc : ∀ g φ,cB ⟨T.D,T.C,[(y,g,φ)],T.H,T.mkr⟩ fu N (ax st).names (bc st)=some (msC g φ)):Ch P w K mg tabs ⟨T.D,T.C,T.L,(x,fun g φ=>run ps.length N.length (msC g φ))::T.H,T.mkr⟩ k:=
 ⟨fun a b d e f=>(c.o a b d e f).setH,fun a b d e f=>Dg (c.h a b d e f) (D.fnC (M:=⟨P,w,⟨K,a,b,d,tabs⟩,mg,e,none⟩) c.o h1 hL X Gn S hb hc) (aj k) (aj k)⟩
theorem Ch.lam_ {a p:Addr} (c:Ch P w K mg tabs T k) (h1:T.mkr=false) (hL:T.L = []) (hm:(p,x++".<locals>."++"<lambda>")∈tabs) (nd:(tabs.map (·.1)).Nodup) (hg:mainGlobals≠p) (X:K.In h) (Gn:h.Ns mainGlobals mg) (D:nK K x st a p) (S:bw N ps (ax st)) (hb:Bd x st ps)
  (hc:cB ⟨T.D,T.C,T.L,T.H,true⟩ fu N (ax st).names (bc st)=some ms):Ch P w K mg tabs ⟨(x,run ps.length N.length ms)::T.D,T.C,T.L,T.H,T.mkr⟩ (k+3):=
 ⟨fun a b d e f=>(c.o a b d e f).cons (D.fn (M:=⟨P,w,⟨K,a,b,d,tabs⟩,mg,e,none⟩) rfl c.o (c.o a b d e f) hL h1 (oj (c.h a b d e f) (iw k)) (D.mkr (M:=⟨P,w,⟨K,a,b,d,tabs⟩,mg,e,none⟩) f X Gn hm nd hg) X Gn S hb hc) (fA k 3),fun a b d e f=>oj (c.h a b d e f) (fA k 3)⟩
end
end G
end
section
namespace W
open PySem PySem.Spec L2 G
section
noncomputable def eY:MS:=ba (sIf (cOf (m2 oLt (ab 1) (mFn bW (aa (ab 0) ai)))) (cK (m2 oIx (ab 0) (ab 1))) cJ) (cK (mC (.int 0)))
noncomputable def gp:MF:=run 2 2 eY
noncomputable def iB:MS:=ba (bC 2 (mFn gp (aa (ab 0) (aa (ab 1) ai)))) (ba (sIf (cOf (m2 oGe (ab 2) (m2 se (mC (.int 10)) (mC (.int 18))))) (cK (cm (aa (m2 pD (ab 2) (m2 se (mC (.int 10)) (mC (.int 18)))) (aa (mC (.bl true)) ai)))) cJ) (cK (cm (aa (m2 oMod (ab 2) (mC (.int 2147483647))) (aa (mC (.bl false)) ai)))))
noncomputable def iz:MF:=run 2 3 iB
noncomputable def jw:MS:=ba (sIf (cOf (m2 oIx (ab 0) (mC (.int 1)))) (ba (bC 2 (m2 oMod (m2 oIx (ab 0) (mC (.int 0))) (ab 1))) (ba (dy (ab 0) (mC (.int 0)) (m2 oDiv (m2 oIx (ab 0) (mC (.int 0))) (ab 1))) (cK (ab 2)))) cJ) (ba (dy (ab 0) (mC (.int 0)) (m2 oMod (m2 cW (m2 d6 (m2 oIx (ab 0) (mC (.int 0))) (mC (.int 48271))) (mC (.int 29))) (mC (.int 2147483647)))) (ba (bC 3 (m2 oMod (m2 cW (m2 cW (m2 d6 (m2 oIx (ab 0) (mC (.int 0))) (m2 oIx (ab 0) (mC (.int 0)))) (m2 d6 (mC (.int 39373)) (m2 oIx (ab 0) (mC (.int 0))))) (mC (.int 7))) (mC (.int 2147483629)))) (ba (bC 3 (m2 oMod (m2 cW (m2 d6 (ab 3) (ab 3)) (m2 d6 (mC (.int 16807)) (ab 3))) (mC (.int 2147483587)))) (cK (m2 oMod (m2 oDiv (ab 3) (mC (.int 8))) (ab 1))))))
noncomputable def aX:MF:=run 2 4 jw
noncomputable def kj:MS:=cK (mFn bG (aa (bX (iR1 (aa (ab 0) ai)) cTT (mFn bG (aa (bX (iR1 (aa (ab 0) ai)) cTT (m2 oMod (m2 cW (ab 1) (ab 2)) (ab 0))) ai))) ai))
noncomputable def cb:MF:=run 1 1 kj
noncomputable def j8:MS:=ba (bC 1 (cm ai)) (ba (dD 2 (iR1 (aa (m2 d6 (mC (.int 2)) (ab 0)) ai)) (ba (bC 3 (cm ai)) (ba (dD 4 (iR1 (aa (m2 d6 (mC (.int 2)) (ab 0)) ai)) (ba (bC 5 (m2 oMod (m2 cW (m2 oMod (ab 2) (ab 0)) (m2 d6 (m2 oIx (cm (aa (mC (.int 1)) (aa (m1 h9 (mC (.int 1))) ai))) (m2 oDiv (ab 2) (ab 0))) (m2 oMod (ab 4) (ab 0)))) (ab 0))) (cy (mML bH (ab 3) (aa (m2 cW (ab 5) (m2 d6 (ab 0) (m2 oMod (m2 cW (m2 oDiv (ab 2) (ab 0)) (m2 oDiv (ab 4) (ab 0))) (mC (.int 2))))) ai))))) (cy (mML bH (ab 1) (aa (mFn bG (aa (ab 3) ai)) ai)))))) (cK (mFn bG (aa (ab 1) ai))))
noncomputable def eD:MF:=run 1 6 j8
noncomputable def iR:MS:=ba (bC 0 (cm (aa (cm (aa (mC (.int 0)) (aa (mC (.int 0)) (aa (mC (.int 0)) (aa (mC (.int 0)) ai))))) (aa (cm (aa (mC (.int 0)) (aa (mC (.int 1)) (aa (mC (.int 0)) (aa (mC (.int 1)) ai))))) (aa (cm (aa (mC (.int 0)) (aa (mC (.int 1)) (aa (mC (.int 1)) (aa (mC (.int 0)) ai))))) (aa (cm (aa (mC (.int 0)) (aa (mC (.int 0)) (aa (mC (.int 1)) (aa (mC (.int 1)) ai))))) ai)))))) (ba (bC 1 (cm (aa (cm (aa (mC (.int 0)) (aa (mC (.int 1)) (aa (mC (.int 2)) (aa (mC (.int 3)) ai))))) (aa (cm (aa (mC (.int 1)) (aa (mC (.int 0)) (aa (mC (.int 3)) (aa (mC (.int 2)) ai))))) (aa (cm (aa (mC (.int 2)) (aa (mC (.int 3)) (aa (mC (.int 0)) (aa (mC (.int 1)) ai))))) (aa (cm (aa (mC (.int 3)) (aa (mC (.int 2)) (aa (mC (.int 1)) (aa (mC (.int 0)) ai))))) ai)))))) (ba (bC 2 (cm ai)) (ba (dD 3 (iR1 (aa (mC (.int 8)) ai)) (ba (bC 4 (cm ai)) (ba (dD 5 (iR1 (aa (mC (.int 8)) ai)) (ba (bC 6 (m2 oMod (m2 cW (m2 cW (ab 3) (ab 5)) (m2 oIx (m2 oIx (ab 0) (m2 oDiv (ab 3) (mC (.int 2)))) (m2 oDiv (ab 5) (mC (.int 2))))) (mC (.int 2)))) (cy (mML bH (ab 4) (aa (m2 cW (m2 d6 (mC (.int 2)) (m2 oIx (m2 oIx (ab 1) (m2 oDiv (ab 3) (mC (.int 2)))) (m2 oDiv (ab 5) (mC (.int 2))))) (ab 6)) ai))))) (cy (mML bH (ab 2) (aa (mFn bG (aa (ab 4) ai)) ai)))))) (cK (mFn bG (aa (ab 2) ai))))))
noncomputable def eW:MF:=run 0 7 iR
noncomputable def lu:MS:=ba (bC 2 (mFn bW (aa (ab 1) ai))) (ba (bC 3 (cm ai)) (ba (dD 4 (iR1 (aa (m2 d6 (mFn bW (aa (ab 0) ai)) (ab 2)) ai)) (ba (bC 5 (cm ai)) (ba (dD 6 (iR1 (aa (m2 d6 (mFn bW (aa (ab 0) ai)) (ab 2)) ai)) (ba (bC 7 (m2 oIx (m2 oIx (ab 0) (m2 oDiv (ab 4) (ab 2))) (m2 oDiv (ab 6) (ab 2)))) (cy (mML bH (ab 5) (aa (m2 cW (m2 d6 (ab 7) (ab 2)) (m2 oIx (m2 oIx (ab 1) (m2 oMod (ab 4) (ab 2))) (m2 oMod (ab 6) (ab 2)))) ai))))) (cy (mML bH (ab 3) (aa (mFn bG (aa (ab 5) ai)) ai)))))) (cK (mFn bG (aa (ab 3) ai)))))
noncomputable def ji:MF:=run 2 8 lu
noncomputable def jS:MS:=cK (mFn bG (aa (bX (cM (ab 1)) cTT (mFn bG (aa (bX (cM (ab 1)) cTT (mMT gq (ab 1) (aa (m2 oIx (m2 oIx (ab 0) (ab 2)) (ab 3)) ai))) ai))) ai))
noncomputable def iC:MF:=run 2 2 jS
noncomputable def ki:MS:=ba (bC 2 (gW (iR2 (aa (mC (.int 1)) (aa (ab 1) ai))))) (cK (m2 cW (ft (aa (mC (.int 0)) ai)) (mFn bG (aa (bX (iR1 (aa (m2 pD (ab 1) (mC (.int 1))) ai)) cTT (mML jv (ab 2) (aa (mFn aX (aa (ab 0) (aa (mFn bW (aa (ab 2) ai)) ai))) ai))) ai))))
noncomputable def iL:MF:=run 2 3 ki
noncomputable def j4:MS:=ba (bC 2 (mFn aX (aa (ab 0) (aa (mC (.int 8)) ai)))) (ba (bC 3 (mFn cb (aa (m2 cW (mC (.int 1)) (mFn aX (aa (ab 0) (aa (ab 1) ai)))) ai))) (ba (sIf (cOr (cOf (m2 oEq (ab 2) (mC (.int 1)))) (cOf (m2 oEq (ab 2) (mC (.int 2))))) (bC 3 (mFn eD (aa (m2 cW (mC (.int 1)) (mFn aX (aa (ab 0) (aa (m2 oDiv (ab 1) (mC (.int 2))) ai)))) ai))) cJ) (ba (sIf (tK (cOf (m2 oEq (ab 2) (mC (.int 3)))) (cOf (m2 oGt (ab 1) (mC (.int 7))))) (bC 3 (mFn eW ai)) cJ) (ba (sIf (cOf (m2 oGt (ab 2) (mC (.int 3)))) (ba (bC 4 (m2 cW (mC (.int 2)) (mFn aX (aa (ab 0) (aa (mC (.int 3)) ai))))) (ba (bC 5 (m2 oIx (cm (aa (mFn cb (aa (ab 4) ai)) (aa (mFn eD (aa (ab 4) ai)) ai))) (mFn aX (aa (ab 0) (aa (mC (.int 2)) ai))))) (ba (sIf (cOf (m2 oGt (mFn bW (aa (ab 5) ai)) (ab 1))) (bC 5 (mFn cb (aa (ab 4) ai))) cJ) (bC 3 (mFn ji (aa (ab 5) (aa (mFn cb (aa (m2 cW (mC (.int 1)) (mFn aX (aa (ab 0) (aa (m2 oDiv (ab 1) (mFn bW (aa (ab 5) ai))) ai)))) ai)) ai))))))) cJ) (ba (sIf (cOf (m2 oEq (mFn aX (aa (ab 0) (aa (mC (.int 3)) ai))) (mC (.int 0)))) (bC 3 (mFn iC (aa (ab 3) (aa (mFn iL (aa (ab 0) (aa (mFn bW (aa (ab 3) ai)) ai))) ai)))) cJ) (cK (ab 3)))))))
noncomputable def j0:MF:=run 2 6 j4
end
end W
end
section
namespace W
structure Grp (m:Nat) (T:Nat->Nat->Nat):Prop where
 pos:0 < m
 cl : ∀ i j,i < m->j < m->T i j < m
 l0 : ∀ i,i < m->T 0 i=i
 r0 : ∀ i,i < m->T i 0=i
 inv : ∀ i,i < m -> ∃ j,j < m/\T i j=0/\T j i=0
 as : ∀ i j k,i < m->j < m->k < m->T (T i j) k=T i (T j k)
noncomputable def dS (n:Nat):Nat->Nat->Nat:=fun i j=>(i+j) % n
theorem jc {n:Nat} (h:0 < n):Grp n (dS n) where
 pos:=h
 cl:=fun i j _ _=>lH _ h
 l0:=fun i hi=>by unfold dS;rw [dj];exact bu hi
 r0:=fun i hi=>by unfold dS;rw [lI];exact bu hi
 inv:=fun i hi=>by
  by_cases h0:i=0
  ·subst h0;exact⟨0,h,by simp [dS],by simp [dS]⟩
  ·refine⟨n - i,by omega,?_,?_⟩ <;> unfold dS
   ·rw [show i+(n - i)=n by omega,lJ]
   ·rw [show n - i+i=n by omega,lJ]
 as:=fun i j k _ _ _=>by
  unfold dS
  rw [lM,Nat.add_mod_mod,yY]
noncomputable def fk (n:Nat):Nat->Nat->Nat:=fun i j=>
 (if i < n then (i % n+j % n) % n else (i % n+(n - j % n)) % n)+n*((i / n+j / n) % 2)
theorem half {n i:Nat} (h:i < 2*n):(i < n/\i % n=i/\i / n=0)\/(n<=i/\i % n=i - n/\i / n=1):=by
 by_cases hi:i < n
 ·exact .inl ⟨hi,bu hi,fB hi⟩
 ·refine .inr ⟨by omega,?_,?_⟩
  ·rw [Nat.mod_eq_sub_mod (by omega),bu (by omega)]
  ·exact Nat.div_eq_of_lt_le (by omega) (by omega)
theorem dU {n a b:Nat} (ha:a < n) (hb:b < n):fk n a b=(a+b) % n:=by
 unfold fk
 rw [if_pos ha,bu ha,bu hb,fB ha,fB hb];simp
theorem BY {n a:Nat} (ha:a < n):(n+a) / n=1:=Nat.div_eq_of_lt_le (by omega) (by omega)
theorem CA {n a:Nat} (ha:a < n):(n+a) % n=a:=by rw [Nat.add_mod_left];exact bu ha
theorem gh {n a b:Nat} (ha:a < n) (hb:b < n):fk n a (n+b)=n+(a+b) % n:=by
 unfold fk
 rw [if_pos ha,bu ha,CA hb,fB ha,BY hb];simp;omega
theorem gm {n a b:Nat} (ha:a < n) (hb:b < n):fk n (n+a) b=n+(a+(n - b)) % n:=by
 unfold fk
 rw [if_neg (by omega),CA ha,bu hb,fB hb,BY ha];simp;omega
theorem gn {n a b:Nat} (ha:a < n) (hb:b < n):fk n (n+a) (n+b)=(a+(n - b)) % n:=by
 unfold fk
 rw [if_neg (by omega),CA ha,CA hb,BY ha,BY hb];simp
theorem Kl {n a b:Nat} (ha:a < n) (hb:b < n):(a+b) % n=if a+b < n then a+b else a+b - n:=by
 split
 ·exact bu (by assumption)
 ·rw [Nat.mod_eq_sub_mod (by omega),bu (by omega)]
theorem J1 {n a b:Nat} (ha:a < n) (hb:b < n):(a+(n - b)) % n=if b<=a then a - b else a+n - b:=by
 split
 ·rw [show a+(n - b)=(a - b)+n by omega,jK,bu (by omega)]
 ·rw [bu (by omega)];omega
theorem kc {n i:Nat} (h:i < 2*n):(i < n) \/ ∃ a,a < n/\i=n+a:=by
 by_cases hi:i < n
 ·exact .inl hi
 ·exact .inr ⟨i - n,by omega,by omega⟩
theorem CT {n a b c:Nat}:((a+b) % n+c) % n=(a+(b+c) % n) % n:=by rw [lM,Nat.add_mod_mod,yY]
theorem JH {n a b c:Nat} (hb:b < n) (hc:c < n):((a+(n - b)) % n+(n - c)) % n=(a+(n - (b+c) % n)) % n:=by
 rw [lM,Kl hb hc]
 split
 ·rw [show a+(n - b)+(n - c)=a+(n - (b+c))+n by omega,jK]
 ·rw [show a+(n - b)+(n - c)=a+(n - (b+c - n)) by omega]
theorem H9 {n a b c:Nat} (hb:b < n) (hc:c < n):((a+(n - b)) % n+c) % n=(a+(n - (b+(n - c)) % n)) % n:=by
 rw [lM,J1 hb hc]
 split
 ·rw [show a+(n - b)+c=a+(n - (b - c)) by omega]
 ·rw [show a+(n - b)+c=a+(n - (b+n - c))+n by omega,jK]
theorem tw {n:Nat} (h:0 < n):Grp (2*n) (fk n):=by
 have ml : ∀ x,x % n < n:=fun x=>lH _ h
 have cl : ∀ i j,i < 2*n->j < 2*n->fk n i j < 2*n:=fun i j hi hj=>by
  rcases kc hi with hi | ⟨a,ha,rfl⟩ <;> rcases kc hj with hj | ⟨b,hb,rfl⟩
  ·rw [dU hi hj];have:=ml (i+j);omega
  ·rw [gh hi hb];have:=ml (i+b);omega
  ·rw [gm ha hj];have:=ml (a+(n - j));omega
  ·rw [gn ha hb];have:=ml (a+(n - b));omega
 refine⟨by omega,cl,fun i hi => ?_,fun i hi => ?_,fun i hi => ?_,fun i j k hi hj hk => ?_⟩
 ·rcases kc hi with hi | ⟨a,ha,rfl⟩
  ·rw [dU h hi,dj,bu hi]
  ·rw [gh h ha,dj,bu ha]
 ·rcases kc hi with hi | ⟨a,ha,rfl⟩
  ·rw [dU hi h,lI,bu hi]
  ·rw [gm ha h,Nat.sub_zero,jK,bu ha]
 ·rcases kc hi with hi | ⟨a,ha,rfl⟩
  ·by_cases h0:i=0
   ·subst h0;exact⟨0,by omega,by rw [dU h h];simp,by rw [dU h h];simp⟩
   ·have hl:n - i < n:=by omega
    refine⟨n - i,by omega,?_,?_⟩
    ·rw [dU hi hl,show i+(n - i)=n by omega,lJ]
    ·rw [dU hl hi,show n - i+i=n by omega,lJ]
  ·refine⟨n+a,by omega,?_,?_⟩ <;> rw [gn ha ha,show a+(n - a)=n by omega,lJ]
 ·rcases kc hi with hi | ⟨a,ha,rfl⟩ <;> rcases kc hj with hj | ⟨b,hb,rfl⟩ <;> rcases kc hk with hk | ⟨c,hc,rfl⟩
  ·rw [dU hi hj,dU hj hk,dU (ml _) hk,dU hi (ml _),CT]
  ·rw [dU hi hj,gh hj hc,gh (ml _) hc,gh hi (ml _),CT]
  ·rw [gh hi hb,gm hb hk,gm (ml _) hk,gh hi (ml _),CT]
  ·rw [gh hi hb,gn hb hc,gn (ml _) hc,dU hi (ml _),CT]
  ·rw [gm ha hj,dU hj hk,gm (ml _) hk,gm ha (ml _),JH hj hk]
  ·rw [gm ha hj,gh hj hc,gn (ml _) hc,gn ha (ml _),JH hj hc]
  ·rw [gn ha hb,gm hb hk,dU (ml _) hk,gn ha (ml _),H9 hb hk]
  ·rw [gn ha hb,gn hb hc,gh (ml _) hc,gm ha (ml _),H9 hb hc]
noncomputable def lO (m:Nat) (A B:Nat->Nat->Nat):Nat->Nat->Nat:=fun i j=>A (i / m) (j / m)*m+B (i % m) (j % m)
theorem vH {m a b:Nat} (hb:b < m):(a*m+b) / m=a/\(a*m+b) % m=b:=by
 have hm:0 < m:=by omega
 constructor
 ·rw [jf,Nat.mul_add_div hm,fB hb];rfl
 ·rw [jf,Nat.mul_add_mod,bu hb]
theorem Ar {k m:Nat}{A B:Nat->Nat->Nat} (ga:Grp k A) (gb:Grp m B):Grp (k*m) (lO m A B):=by
 have hm:=gb.pos
 have dl : ∀ i,i < k*m->i / m < k:=fun i hi=>Nat.div_lt_of_lt_mul (by rw [jf];exact hi)
 have rl : ∀ i,i % m < m:=fun i=>lH _ hm
 have lt : ∀ a b,a < k->b < m->a*m+b < k*m:=fun a b ha hb=>by
  have:(a+1)*m<=k*m:=cD m ha
  rw [Nat.add_mul] at this;omega
 refine⟨Nat.mul_pos ga.pos hm,fun i j hi hj=>lt _ _ (ga.cl _ _ (dl i hi) (dl j hj)) (gb.cl _ _ (rl i) (rl j)),fun i hi => ?_,fun i hi => ?_,fun i hi => ?_,fun i j l hi hj hl => ?_⟩
 ·unfold lO;rw [Nat.zero_div,Nat.zero_mod,ga.l0 _ (dl i hi),gb.l0 _ (rl i),jf];exact vp i m
 ·unfold lO;rw [Nat.zero_div,Nat.zero_mod,ga.r0 _ (dl i hi),gb.r0 _ (rl i),jf];exact vp i m
 ·obtain⟨a,ha,a1,a2⟩:=ga.inv _ (dl i hi)
  obtain⟨b,hb,b1,b2⟩:=gb.inv _ (rl i)
  obtain⟨p1,p2⟩:=vH (a:=a) hb
  refine⟨a*m+b,lt a b ha hb,?_,?_⟩ <;> unfold lO <;> rw [p1,p2]
  ·rw [a1,b1];simp
  ·rw [a2,b2];simp
 ·unfold lO
  obtain⟨p1,p2⟩:=vH (a:=A (i / m) (j / m)) (gb.cl _ _ (rl i) (rl j))
  obtain⟨q1,q2⟩:=vH (a:=A (j / m) (l / m)) (gb.cl _ _ (rl j) (rl l))
  rw [p1,p2,q1,q2,ga.as _ _ _ (dl i hi) (dl j hj) (dl l hl),gb.as _ _ _ (rl i) (rl j) (rl l)]
noncomputable def Jw:List (List Nat) := [[0,1,2,3,4,5,6,7],[1,0,3,2,5,4,7,6],[2,3,1,0,6,7,5,4],[3,2,0,1,7,6,4,5],[4,5,7,6,1,0,2,3],[5,4,6,7,0,1,3,2],[6,7,4,5,3,2,1,0],[7,6,5,4,2,3,0,1]]
noncomputable def eP:Nat->Nat->Nat:=fun i j=>(Jw.getD i []).getD j 0
noncomputable def q1:Bool:=(ar 8).all fun i=>(eP 0 i == i)&&(eP i 0 == i)&&((ar 8).any fun j=>(eP i j == 0)&&(eP j i == 0))&&(ar 8).all fun j=>decide (eP i j < 8)&&(ar 8).all fun k=>eP (eP i j) k == eP i (eP j k)
theorem Jk:q1=true:=by decide +kernel
theorem xX:Grp 8 eP:=by
 have h:=bU.mp Jk
 have g : ∀ i,i < 8->_:=fun i hi=>h i (aU.mpr hi)
 simp only [aB,bU,d5,aU,beq_iff_eq,decide_eq_true_eq] at g
 refine⟨by decide,fun i j hi hj=>((g i hi).2 j hj).1,fun i hi=>(g i hi).1.1.1,fun i hi=>(g i hi).1.1.2,fun i hi => ?_,fun i j k hi hj hk=>((g i hi).2 j hj).2 k hk⟩
 obtain⟨j,hj,a,b⟩:=(g i hi).1.2
 exact⟨j,hj,a,b⟩
structure Ord (m:Nat) (o p:Nat->Nat):Prop where
 ol : ∀ i,i < m->o i < m
 pl : ∀ i,i < m->p i < m
 po : ∀ i,i < m->p (o i)=i
 op : ∀ i,i < m->o (p i)=i
 o0:o 0=0
noncomputable def jT (T:Nat->Nat->Nat) (o p:Nat->Nat):Nat->Nat->Nat:=fun i j=>p (T (o i) (o j))
theorem xG {m:Nat}{T:Nat->Nat->Nat}{o p:Nat->Nat} (g:Grp m T) (h:Ord m o p):Grp m (jT T o p):=by
 have p0:p 0=0:=by have:=h.po 0 g.pos;rwa [h.o0] at this
 refine⟨g.pos,fun i j hi hj=>h.pl _ (g.cl _ _ (h.ol i hi) (h.ol j hj)),fun i hi => ?_,fun i hi => ?_,fun i hi => ?_,fun i j k hi hj hk => ?_⟩
 ·unfold jT;rw [h.o0,g.l0 _ (h.ol i hi),h.po i hi]
 ·unfold jT;rw [h.o0,g.r0 _ (h.ol i hi),h.po i hi]
 ·obtain⟨j,hj,a,b⟩:=g.inv _ (h.ol i hi)
  refine⟨p j,h.pl j hj,?_,?_⟩ <;> unfold jT <;> rw [h.op j hj]
  ·rw [a,p0]
  ·rw [b,p0]
 ·unfold jT
  rw [h.op _ (g.cl _ _ (h.ol i hi) (h.ol j hj)),h.op _ (g.cl _ _ (h.ol j hj) (h.ol k hk)),g.as _ _ _ (h.ol i hi) (h.ol j hj) (h.ol k hk)]
end W
end
section
namespace W
theorem oJ {α:Type} : ∀ (l:List α) (i:Nat) (h:i < l.length),(l[i]::l.eraseIdx i).Perm l
 | x::l,0,_=>by simp
 | x::l,i+1,h=>by
   have h':i < l.length:=by simpa using h
   have:=oJ l i h'
   simp only [List.getElem_cons_succ,yX]
   exact (List.Perm.swap _ _ _).trans (this.cons x)
theorem CN {l:List Nat} (nd:l.Nodup) {i:Nat} (h:i < l.length):l.idxOf l[i]=i:=by
 have h1:l.idxOf l[i] < l.length:=jL.mpr (hV h)
 have h2:=List.getElem_idxOf h1
 exact (List.getElem_inj nd).mp h2
structure m8 (m:Nat) (l:List Nat):Prop where
 perm:l.Perm (ar m)
 z:l[0]? = some 0
noncomputable def oF (l:List Nat):Nat->Nat:=fun i=>l.getD i 0
noncomputable def pF (l:List Nat):Nat->Nat:=fun x=>l.idxOf x
section
variable {m:Nat}{l:List Nat}
theorem m8.len (h:m8 m l):l.length=m:=by have:=h.perm.length_eq;simpa using this
theorem m8.nd (h:m8 m l):l.Nodup:=h.perm.nodup_iff.mpr List.nodup_range
theorem m8.mem (h:m8 m l) {x:Nat}:x∈l↔x < m:=by rw [h.perm.mem_iff,aU]
theorem m8.get (h:m8 m l) {i:Nat} (hi:i < m):l[i]? = some (oF l i):=by
 have hl:i < l.length:=by rw [h.len];exact hi
 simp [oF,hl]
theorem m8.ord (h:m8 m l):Ord m (oF l) (pF l) where
 ol:=fun i hi=>h.mem.mp (bL (h.get hi))
 pl:=fun x hx=>by
  have:=jL.mpr (h.mem.mpr hx)
  rw [h.len] at this;exact this
 po:=fun i hi=>by
  have hl:i < l.length:=by rw [h.len];exact hi
  have e:oF l i=l[i]:=by simp [oF,hl]
  unfold pF;rw [e];exact CN h.nd hl
 op:=fun x hx=>by
  have h1:=jL.mpr (h.mem.mpr hx)
  have h2:=List.getElem_idxOf h1
  unfold oF pF
  rw [bp,aS h1,h2];rfl
 o0:=by
  unfold oF
  rw [bp,h.z];rfl
end
theorem yF {m:Nat}{xs:List Nat} (hm:0 < m) (h:xs.Perm (aP 1 (m - 1))):m8 m (0::xs):=by
 refine⟨?_,rfl⟩
 have e:ar m=0::aP 1 (m - 1):=by
  rw [ir]
  have:m=(m - 1)+1:=by omega
  rw [this,hU]
  simp
 rw [e]
 exact h.cons 0
end W
end
section
namespace W
section
variable {m:Nat}{T:Nat->Nat->Nat}
theorem Grp.cancel (g:Grp m T) {a b c:Nat} (ha:a < m) (hb:b < m) (hc:c < m) (h:T a b=T a c):b=c:=by
 obtain⟨i,hi,h1,h2⟩:=g.inv a ha
 have e1:T i (T a b)=b:=by rw [<- g.as i a b hi ha hb,h2,g.l0 b hb]
 have e2:T i (T a c)=c:=by rw [<- g.as i a c hi ha hc,h2,g.l0 c hc]
 rw [<- e1,<- e2,h]
theorem Grp.cancelR (g:Grp m T) {a b c:Nat} (ha:a < m) (hb:b < m) (hc:c < m) (h:T b a=T c a):b=c:=by
 obtain⟨i,hi,h1,h2⟩:=g.inv a ha
 have e1:T (T b a) i=b:=by rw [g.as b a i hb ha hi,h1,g.r0 b hb]
 have e2:T (T c a) i=c:=by rw [g.as c a i hc ha hi,h1,g.r0 c hc]
 rw [<- e1,<- e2,h]
theorem Grp.inv1 (g:Grp m T) {i:Nat} (hi:i < m) : ∃ j,j < m/\T i j=0/\T j i=0 /\ ∀ k,k < m->T i k=0->k=j:=by
 obtain⟨j,hj,h1,h2⟩:=g.inv i hi
 exact⟨j,hj,h1,h2,fun k hk h=>g.cancel hi hk hj (h.trans h1.symm)⟩
noncomputable def pw (T:Nat->Nat->Nat) (x:Nat):Nat->Nat
 | 0=>0
 | n+1=>T (pw T x n) x
theorem gE (g:Grp m T) {x:Nat} (hx:x < m) : ∀ n,pw T x n < m
 | 0=>g.pos
 | n+1=>g.cl _ _ (gE g hx n) hx
theorem o9 (g:Grp m T) {x:Nat} (hx:x < m) (a:Nat) : ∀ b,pw T x (a+b)=T (pw T x a) (pw T x b)
 | 0=>by show pw T x a=T (pw T x a) 0;rw [g.r0 _ (gE g hx a)]
 | b+1=>by
   show T (pw T x (a+b)) x=T (pw T x a) (T (pw T x b) x)
   rw [o9 g hx a b,g.as _ _ _ (gE g hx a) (gE g hx b) hx]
theorem xa (g:Grp m T) {x a b:Nat} (hx:x < m) (hab:a<=b) (h:pw T x a=pw T x b):pw T x (b - a)=0:=by
 have e:b=a+(b - a):=by omega
 rw [e,o9 g hx] at h
 have e2:T (pw T x a) 0=T (pw T x a) (pw T x (b - a)):=by rw [g.r0 _ (gE g hx a)];exact h
 exact (g.cancel (gE g hx a) g.pos (gE g hx _) e2).symm
end
theorem oK : ∀ (m:Nat) (l:List Nat),l.Nodup->(∀ x∈l,x < m)->l.length<=m
 | 0,l,_,h=>by
   cases l with
   | nil=>simp
   | cons x l=>exact absurd (h x (by simp)) (by omega)
 | m+1,l,nd,h=>by
   have h1:=oK m (l.erase m) (nd.erase m) fun x hx=>by
    have hx2:=(List.Nodup.mem_erase_iff nd).mp hx
    have:=h x hx2.2
    have:=hx2.1
    omega
   have h2:l.length<=(l.erase m).length+1:=by
    rw [List.length_erase]
    split <;> omega
   omega
theorem AS {m:Nat}{f:Nat->Nat} (h : ∀ i,i<=m->f i < m) : ∃ i j,i < j/\j<=m/\f i=f j:=by
 apply cP
 intro no
 have inj : ∀ i j,i < j->j<=m->f i≠f j:=fun i j h1 h2 e=>no ⟨i,j,h1,h2,e⟩
 have nd:((ar (m+1)).map f).Nodup:=by
  rw [dC,jH]
  refine eT ?_ (lh (n:=m+1))
  intro a b ha hb hab
  exact inj a b hab (by have:=aU.mp hb;omega)
 have:=oK m _ nd (fun x hx=>by
  obtain⟨i,hi,rfl⟩:=aQ.mp hx
  exact h i (by have:=aU.mp hi;omega))
 simp at this
 omega
theorem least {P:Nat->Prop} : ∀ n,P n -> ∃ k,k<=n/\P k /\ ∀ j,j < k -> ¬ P j:=by
 intro n
 induction n using Nat.strongRecOn with
 | ind n ih=>
   intro h
   by_cases hx : ∃ j,j < n/\P j
   ·obtain⟨j,hj,hp⟩:=hx
    obtain⟨k,h1,h2,h3⟩:=ih j hj hp
    exact⟨k,by omega,h2,h3⟩
   ·exact⟨n,aj _,h,fun j hj hp=>hx ⟨j,hj,hp⟩⟩
theorem Grp.ord {m:Nat}{T:Nat->Nat->Nat} (g:Grp m T) {x:Nat} (hx:x < m) : ∃ n,1<=n/\n<=m/\pw T x n=0 /\ ∀ k,1<=k->k < n->pw T x k≠0:=by
 obtain⟨a,b,h1,h2,h3⟩:=AS (m:=m) (f:=pw T x) fun i _=>gE g hx i
 have h4:=xa g hx (di h1) h3
 obtain⟨n,k1,⟨k2,k3⟩,k4⟩:=least (P:=fun n=>1<=n/\pw T x n=0) (b - a) ⟨by omega,h4⟩
 exact⟨n,k2,by omega,k3,fun j j1 j2 j3=>k4 j j2 ⟨j1,j3⟩⟩
theorem lT {p:Nat->Bool} : ∀ (n s k:Nat),s<=k->k < s+n->p k=true->(∀ j,s<=j->j < k->p j=false)->((aP s n).filter p)[0]? = some k
 | 0,s,k,h1,h2,_,_=>by omega
 | n+1,s,k,h1,h2,hp,hn=>by
   rw [hU,List.filter_cons]
   by_cases hs:s=k
   ·subst hs;simp [hp]
   ·rw [hn s (aj _) (by omega)]
    simp only [eu,if_false]
    exact lT n (s+1) k (by omega) (by omega) hp fun j h1 h2=>hn j (by omega) h2
theorem idx_map {f:Nat->Nat}{x:Nat} : ∀ (n s k:Nat),s<=k->k < s+n->f k=x->(∀ j,s<=j->j < k->f j≠x)->((aP s n).map f).idxOf x=k - s
 | 0,s,k,h1,h2,_,_=>by omega
 | n+1,s,k,h1,h2,hp,hn=>by
   rw [hU,bz,List.idxOf_cons]
   by_cases hs:s=k
   ·subst hs;simp [hp]
   ·have hb:(f s == x)=false:=by simpa using hn s (aj _) (by omega)
    rw [hb]
    simp only [cond_false]
    rw [idx_map n (s+1) k (by omega) (by omega) hp fun j h1 h2=>hn j (by omega) h2]
    omega
end W
end
section
namespace W
open L2 G
noncomputable def Ex (S S':Sto):Prop := ∃ t,S'=S++t
theorem Ex.refl (S:Sto):Ex S S:=⟨[],by simp⟩
theorem Ex.trans {S S1 S2:Sto} (a:Ex S S1) (b:Ex S1 S2):Ex S S2:=by
 obtain⟨t,rfl⟩:=a
 obtain⟨u,rfl⟩:=b
 exact⟨t++u,by simp⟩
theorem Ex.push (S:Sto) (c:Cell):Ex S (S ++ [c]):=⟨[c],rfl⟩
theorem Ex.get {S S':Sto} (h:Ex S S') {n:Nat} (hn:n < S.length):S'[n]? = S[n]? := by
 obtain⟨t,rfl⟩:=h
 exact aM hn
theorem Ex.some {S S':Sto} (h:Ex S S') {n:Nat}{c:Cell} (e:S[n]? = some c):S'[n]? = some c:=by
 rw [h.get (ae.mp e).1];exact e
theorem Ex.len {S S':Sto} (h:Ex S S'):S.length<=S'.length:=by
 obtain⟨t,rfl⟩:=h
 simp
noncomputable def kM (n:Nat) (S:Sto):Prop := ∃ s b,S[n]? = some (.lst [.int s,.bl b])
structure Stp (n:Nat) (S S':Sto):Prop where
 len:S.length<=S'.length
 same : ∀ m,m < S.length->m≠n->S'[m]? = S[m]?
 st:kM n S'
theorem Stp.refl {n:Nat}{S:Sto} (h:kM n S):Stp n S S:=⟨aj _,fun _ _ _=>rfl,h⟩
theorem Stp.trans {n:Nat}{S S1 S2:Sto} (a:Stp n S S1) (b:Stp n S1 S2):Stp n S S2:=
 ⟨br a.len b.len,fun m h1 h2=>(b.same m (aF h1 a.len) h2).trans (a.same m h1 h2),b.st⟩
theorem kM.lt {n:Nat}{S:Sto} (h:kM n S):n < S.length:=by
 obtain⟨s,b,e⟩:=h
 exact (ae.mp e).1
theorem kM.ex {n:Nat}{S S':Sto} (h:kM n S) (e:Ex S S'):kM n S':=by
 obtain⟨s,b,q⟩:=h
 exact⟨s,b,e.some q⟩
theorem Stp.ex {n:Nat}{S S':Sto} (h:kM n S) (e:Ex S S'):Stp n S S':=⟨e.len,fun m h1 _=>e.get h1,h.ex e⟩
theorem Stp.some {n:Nat}{S S':Sto} (h:Stp n S S') {m:Nat}{c:Cell} (hm:m≠n) (e:S[m]? = some c):S'[m]? = some c:=by
 rw [h.same m (ae.mp e).1 hm];exact e
theorem xm {n:Nat}{S:Sto}{many:Int} (h:kM n S) (hm:0 < many) (hm2:many < 1073741824) :
  ∃ r S',aX [.ref n,.int many] S=some (.int r,S')/\0<=r/\r < many/\Stp n S S'/\S'.length=S.length:=by
 obtain⟨s,b,e⟩:=h
 have hn:=(ae.mp e).1
 have hd:ox many:=⟨hm,hm2⟩
 have hd8:ox 8:=⟨by decide,by decide⟩
 cases b with
 | true=>
   refine⟨s % many,S.set n (.lst [.int (s / many),.bl true]),?_,vq _ (by omega),pN _ hm,⟨by simp,fun m h1 h2=>by rw [aA (dH h2)],⟨s / many,true,by rw [aH hn]⟩⟩,by simp⟩
   simp [aX,G.run,jw,ba,sIf,cOf,m2,ab,mC,bnd,oIx,fi,dO,getL,e,atI,ixN,bC,oMod,oDiv,hm,hd,dy,cK]
 | false=>
   have b1 : ∀ x m:Int,0 < m->m < 4294967296->iE (x % m) (x % m):=fun x m h1 h2=>by
    have h3:=vq x (show m≠0 by omega)
    have h4:=pN x h1
    exact .inl ⟨by omega,by omega⟩
   have hg : ∀ c:Cell,(S.set n c)[n]? = Option.some c:=fun c=>aH hn
   have k1:iE s 48271 := .inr ⟨by decide,by decide⟩
   have k2:=b1 (s*48271+29) 2147483647 (by decide) (by decide)
   generalize hs1:(s*48271+29) % 2147483647=s1 at k2
   have k3:iE 39373 s1 := .inl ⟨by decide,by decide⟩
   have k4:=b1 (s1*s1+39373*s1+7) 2147483629 (by decide) (by decide)
   generalize hm1:(s1*s1+39373*s1+7) % 2147483629=m1 at k4
   have k5:iE 16807 m1 := .inl ⟨by decide,by decide⟩
   refine⟨(m1*m1+16807*m1) % 2147483587 / 8 % many,S.set n (.lst [.int s1,.bl false]),?_,vq _ (by omega),pN _ hm,⟨by simp,fun m h1 h2=>by rw [aA (dH h2)],⟨s1,false,by rw [aH hn]⟩⟩,by simp⟩
   simp [aX,G.run,jw,ba,sIf,cOf,m2,ab,mC,bnd,oIx,fi,dO,getL,e,atI,ixN,bC,oMod,oDiv,cW,d6,hm,hd,dy,cK,cJ,hg,k1,k2,k3,k4,k5,hs1,hm1,hd8]
end W
end
section
namespace W
open L2 G
section
theorem oN {i:Nat}{b:MS} (P:Nat->Rho->Sto->Prop) : ∀ (us:List U) (k:Nat) (ρ:Rho) (S:Sto),P k ρ S ->
  (∀ (j:Nat) (u:U) (ρ:Rho) (S:Sto),us[j]? = some u->P (k+j) ρ S -> ∃ ρ' S',b (ρ.set i (some u)) S=some (.nx,ρ',S')/\P (k+j+1) ρ' S') ->
  ∃ ρ' S',sN i b us ρ S=some (.nx,ρ',S')/\P (k+us.length) ρ' S'
 | [],k,ρ,S,h,_=>⟨ρ,S,rfl,h⟩
 | u::us,k,ρ,S,h,st=>by
   obtain⟨ρ1,S1,e1,h1⟩:=st 0 u ρ S rfl h
   obtain⟨ρ2,S2,e2,h2⟩:=oN P us (k+1) ρ1 S1 h1 fun j v ρ S hj hp=>by
    have:=st (j+1) v ρ S (by simpa using hj) (by rw [show k+(j+1)=k+1+j by omega];exact hp)
    rw [show k+(j+1)+1=k+1+j+1 by omega] at this
    exact this
   refine⟨ρ2,S2,?_,by rw [show k+(u::us).length=k+1+us.length by simp;omega];exact h2⟩
   show aft (b (ρ.set i (some u)) S) (sN i b us)=_
   rw [e1];exact e2
theorem kA {e:ME}{ρ:Rho} (g:Nat->U) (P:Nat->Sto->Prop) : ∀ (us:List U) (k:Nat) (acc:List U) (S:Sto),P k S ->
  (∀ (j:Nat) (u:U) (S:Sto),us[j]? = some u->P (k+j) S -> ∃ S',e (ρ ++ [some u]) S=some (g (k+j),S')/\P (k+j+1) S') ->
  ∃ S',eU cTT e ρ us acc S=some (acc++(ar us.length).map (fun j=>g (k+j)),S')/\P (k+us.length) S'
 | [],k,acc,S,h,_=>⟨S,by simp [eU],h⟩
 | u::us,k,acc,S,h,st=>by
   obtain⟨S1,e1,h1⟩:=st 0 u S rfl h
   obtain⟨S2,e2,h2⟩:=kA g P us (k+1) (acc ++ [g k]) S1 h1 fun j v S hj hp=>by
    have:=st (j+1) v S (by simpa using hj) (by rw [show k+(j+1)=k+1+j by omega];exact hp)
    rw [show k+(j+1)+1=k+1+j+1 by omega,show k+(j+1)=k+1+j by omega] at this
    exact this
   refine⟨S2,?_,by rw [show k+(u::us).length=k+1+us.length by simp;omega];exact h2⟩
   show bnd (cTT (ρ ++ [some u]) S) _=_
   simp only [cTT,aD,if_true]
   rw [e1]
   simp only [aD,lI]
   rw [e2]
   simp only [aN,dB,Prod.mk.injEq,and_true]
   rw [cz,List.range_succ_eq_map,bz,fq]
   simp only [List.singleton_append,lI,List.append_cancel_left_eq,List.cons.injEq,true_and]
   apply d0
   intro j _
   simp only [Function.comp]
   congr 1;omega
noncomputable def ya (n:Nat) (g:Nat->U):U := .tup ((ar n).map g)
theorem om {n:Nat} (h:n < big):okR (n:Int):=by
 unfold big at h
 exact⟨by omega,by omega⟩
theorem jP {ρ:Rho}{S S0:Sto}{a:ME}{u:U} (ha:a ρ S=some (u,S0)):aa a ai ρ S=some ([u],S0):=by
 simp only [aa,ai,ha,aD]
theorem E6 {ρ:Rho}{S S0:Sto}{a:MA}{j:Int} (ha:a ρ S=some ([.int j],S0)) (h:okR j):iR1 a ρ S=some (.imm (bh 0 j.toNat),S0):=by
 unfold iR1
 rw [ha]
 exact if_pos h
theorem ku {ρ:Rho}{S S0:Sto}{a:ME}{n:Nat} (ha:a ρ S=some (.int n,S0)) (h:n < big):iR1 (aa a ai) ρ S=some (.imm (bh 0 n),S0):=by
 rw [E6 (jP ha) (om h),jI]
theorem jq {ρ:Rho}{S S0 S1:Sto}{it:MI}{t:MT}{e:ME}{us ys:List U} (hi:it ρ S=some (.imm us,S0)) (h:eU t e ρ us [] S0=some (ys,S1)) (hz:ys.length < big):bX it t e ρ S=some (.ref S1.length,S1 ++ [.lst ys]):=by
 simp only [bX,hi,aD,Ap,h]
 exact if_pos hz
theorem eF {ρ:Rho}{S S1:Sto}{a:ME}{ys:List U} (h:a ρ S=some (.ref S1.length,S1 ++ [.lst ys])):mFn bG (aa a ai) ρ S=some (.tup ys,S1 ++ [.lst ys]):=by
 unfold mFn
 rw [jP h]
 show (dO (S1 ++ [Cell.lst ys]) (.ref S1.length)).map _=_
 have:dO (S1 ++ [Cell.lst ys]) (.ref S1.length)=some ys:=by
  show getL (S1 ++ [Cell.lst ys]) S1.length=_
  unfold getL
  rw [av (aj _)]
  simp
 rw [this];rfl
theorem DE {ρ:Rho}{S S0:Sto}{a e:ME}{n:Nat} (ha:a ρ S=some (.int n,S0)) (hn:n < big) (g:Nat->U) (P:Nat->Sto->Prop) (h0:P 0 S0)
  (hs : ∀ (j:Nat) (S:Sto),j < n->P j S -> ∃ S',e (ρ ++ [some (.int j)]) S=some (g j,S')/\P (j+1) S') :
  ∃ S',mFn bG (aa (bX (iR1 (aa a ai)) cTT e) ai) ρ S=some (ya n g,S' ++ [.lst ((ar n).map g)])/\P n S':=by
 obtain⟨S1,e1,h1⟩:=kA (e:=e) (ρ:=ρ) g P (bh 0 n) 0 [] S0 h0 fun j u S hj hp=>by
  have hl:j < n:=by have:=(ae.mp hj).1;simpa [bh] using this
  have hu:(bh 0 n)[j]? = some (.int j):=by simp [bh,hl]
  rw [hu] at hj;cases hj
  simpa using hs j S hl (by simpa using hp)
 have hlen:(bh 0 n).length=n:=by simp [bh]
 simp only [hlen,dj,du] at e1 h1
 exact⟨S1,eF (jq (ku ha hn) e1 (by rw [aq,aY];exact hn)),h1⟩
theorem IJ {ρ:Rho}{S S0:Sto}{a e:ME}{us:List U} (ha:a ρ S=some (.tup us,S0)) (hn:us.length < big) (g:Nat->U) (P:Nat->Sto->Prop) (h0:P 0 S0)
  (hs : ∀ (j:Nat) (u:U) (S:Sto),us[j]? = some u->P j S -> ∃ S',e (ρ ++ [some u]) S=some (g j,S')/\P (j+1) S') :
  ∃ S',mFn bG (aa (bX (cM a) cTT e) ai) ρ S=some (ya us.length g,S' ++ [.lst ((ar us.length).map g)])/\P us.length S':=by
 obtain⟨S1,e1,h1⟩:=kA (e:=e) (ρ:=ρ) g P us 0 [] S0 h0 fun j u S hj hp=>by
  simpa using hs j u S hj (by simpa using hp)
 simp only [dj,du] at e1 h1
 exact⟨S1,eF (jq (it:=cM a) (us:=us) (by unfold cM;rw [ha];rfl) e1 (by rw [aq,aY];exact hn)),h1⟩
noncomputable def lZ (m:Nat) (T:Nat->Nat->Nat) (i:Nat):U:=ya m fun j => .int (T i j)
noncomputable def tab (m:Nat) (T:Nat->Nat->Nat):U:=ya m (lZ m T)
theorem kr {α:Type}{f:Nat->α}{m i:Nat} (h:i < m):atI ((ar m).map f) (i:Int)=some (f i):=by
 simp [atI,ixN,h]
theorem jQ {n:Nat}{S:Sto} (h:0 < n) (hn:n < big) : ∃ S',cb [.int n] S=some (tab n (dS n),S')/\Ex S S':=by
 have key : ∃ S',mFn bG (aa (bX (iR1 (aa (ab 0) ai)) cTT (mFn bG (aa (bX (iR1 (aa (ab 0) ai)) cTT (m2 oMod (m2 cW (ab 1) (ab 2)) (ab 0))) ai))) ai) [some (.int n)] S=some (ya n (lZ n (dS n)),S' ++ [.lst ((ar n).map (lZ n (dS n)))])/\Ex S S':=by
  refine DE (S0:=S) (by simp [ab]) hn _ (fun _ S'=>Ex S S') (Ex.refl S) fun i S1 hi hx => ?_
  obtain⟨S2,e2,h2⟩:=DE (ρ := [some (.int n),some (.int i)]) (S:=S1) (S0:=S1) (a:=ab 0) (e:=m2 oMod (m2 cW (ab 1) (ab 2)) (ab 0)) (n:=n) (by simp [ab]) hn (fun j => .int (dS n i j)) (fun _ S'=>S'=S1) rfl fun j S' hj hx=>by
   refine⟨S',?_,hx⟩
   have h0:(0:Int) < n:=by omega
   simp only [m2,ab,List.cons_append,du,yZ,y3,aD,cW,oMod,h0,if_true,dS,kO,vt]
  subst h2
  exact⟨S2 ++ [_],e2,hx.trans (Ex.push _ _)⟩
 obtain⟨S',e,hx⟩:=key
 refine⟨S' ++ [.lst ((ar n).map (lZ n (dS n)))],?_,hx.trans (Ex.push _ _)⟩
 simp only [cb,G.run,kj,cK,cz,fM,bz,pT,lK,List.replicate_zero,iM,if_true,e,aD,tab]
end
end W
end
section
namespace W
open L2 G
section
theorem qF {n:Nat} (h:0 < n) (h2:n < 1000):ox (n:Int):=⟨by omega,by omega⟩
theorem nU {i j:Int} (h1 : -1000000000<=i) (h2:i<=1000000000):iE i j := .inl ⟨by omega,by omega⟩
theorem qZ {n:Nat}{j:Int} (h:n < 1000000):iE (n:Int) j:=nU (by omega) (by omega)
noncomputable def Agr (L:List Nat) (ρ0 ρ:Rho):Prop:=ρ.length=ρ0.length /\ ∀ i,i∉L->ρ[i]? = ρ0[i]?
theorem Agr.refl (L:List Nat) (ρ:Rho):Agr L ρ ρ:=⟨rfl,fun _ _=>rfl⟩
theorem Agr.set {L:List Nat}{ρ0 ρ:Rho}{i:Nat}{v:Option U} (h:Agr L ρ0 ρ) (hi:i∈L):Agr L ρ0 (ρ.set i v):=
 ⟨by rw [eI];exact h.1,fun j hj=>by rw [aA (by rintro rfl;exact hj hi)];exact h.2 j hj⟩
structure Sm (b:Nat) (S0 S:Sto):Prop where
 len:S0.length<=S.length
 same : ∀ m,m < b->S[m]? = S0[m]?
theorem Sm.trans {b:Nat}{S0 S1 S2:Sto} (a:Sm b S0 S1) (c:Sm b S1 S2):Sm b S0 S2:=⟨br a.len c.len,fun m h=>(c.same m h).trans (a.same m h)⟩
theorem Sm.ex {b:Nat}{S0 S:Sto} (h:Ex S0 S) (hb:b<=S0.length):Sm b S0 S:=⟨h.len,fun m hm=>h.get (aF hm hb)⟩
theorem Sm.set {b n:Nat}{S0 S:Sto}{c:Cell} (h:Sm b S0 S) (hn:b<=n):Sm b S0 (S.set n c):=
 ⟨by rw [eI];exact h.len,fun m hm=>by rw [aA (by omega)];exact h.same m hm⟩
structure Wr (r:Nat) (S S':Sto):Prop where
 len:S.length<=S'.length
 same : ∀ m,m < S.length->m≠r->S'[m]? = S[m]?
theorem Wr.trans {r:Nat}{S S1 S2:Sto} (a:Wr r S S1) (b:Wr r S1 S2):Wr r S S2:=
 ⟨br a.len b.len,fun m h1 h2=>(b.same m (aF h1 a.len) h2).trans (a.same m h1 h2)⟩
theorem Wr.refl (r:Nat) (S:Sto):Wr r S S:=⟨aj _,fun _ _ _=>rfl⟩
theorem Wr.ex {r:Nat}{S S':Sto} (h:Ex S S'):Wr r S S':=⟨h.len,fun m hm _=>h.get hm⟩
theorem Wr.set (r:Nat) (S:Sto) (c:Cell):Wr r S (S.set r c):=⟨by simp,fun m _ h=>aA (dH h)⟩
theorem Wr.sm {r b:Nat}{S S':Sto} (h:Wr r S S') (hb:b<=r) (hr:b<=S.length):Sm b S S':=⟨h.len,fun m hm=>h.same m (by omega) (by omega)⟩
theorem mn {ρ:Rho}{i:Nat}{v:Option U} (h:i < ρ.length):(ρ.set i v)[i]? = some v:=aH h
theorem var_eq {ρ:Rho}{S:Sto}{i:Nat}{u:U} (h:ρ[i]? = some (some u)):ab i ρ S=some (u,S):=by simp only [ab,h]
theorem Bm {ρ:Rho}{S:Sto}{i:Nat}{a:ME}{n:Nat}{b:MS} (ha:a ρ S=some (.int n,S)) (h:n < big):dD i (iR1 (aa a ai)) b ρ S=sN i b (bh 0 n) ρ S:=by
 unfold dD
 rw [ku ha h]
 rfl
theorem fS {ρ:Rho}{S:Sto}{i:Nat}{a:ME}{n:Nat}{b:MS} (ha:a ρ S=some (.int n,S)) (h:n < big) (P:Nat->Rho->Sto->Prop) (h0:P 0 ρ S)
  (st : ∀ (j:Nat) (ρ:Rho) (S:Sto),j < n->P j ρ S -> ∃ ρ' S',b (ρ.set i (some (.int j))) S=some (.nx,ρ',S')/\P (j+1) ρ' S') :
  ∃ ρ' S',dD i (iR1 (aa a ai)) b ρ S=some (.nx,ρ',S')/\P n ρ' S':=by
 rw [Bm ha h]
 obtain⟨ρ',S',e,q⟩:=oN (i:=i) (b:=b) P (bh 0 n) 0 ρ S h0 fun j u ρ S hj hp=>by
  have hl:j < n:=by have:=(ae.mp hj).1;simpa [bh] using this
  have hu:(bh 0 n)[j]? = some (.int j):=by simp [bh,hl]
  rw [hu] at hj;cases hj
  simpa using st j ρ S hl (by simpa using hp)
 have hlen:(bh 0 n).length=n:=by simp [bh]
 rw [hlen,dj] at q
 exact⟨ρ',S',e,q⟩
theorem append_eq {ρ:Rho}{S S1:Sto}{o a:ME}{r:Nat}{u:U}{row:List U} (ho:o ρ S=some (.ref r,S)) (ha:a ρ S=some (u,S1)) (hr:S[r]? = some (Cell.lst row)) (hr1:S1[r]? = some (Cell.lst row)) (hl:row.length < big) :
  cy (mML bH o (aa a ai)) ρ S=some (.nx,ρ,S1.set r (Cell.lst (row ++ [u]))):=by
 simp only [cy,mML,ho,aD,getL,hr,ah,jP ha,bH,hr1,hl,if_true]
theorem iY {ρ:Rho}{S:Sto}{a:ME}{r:Nat}{row:List U} (ha:a ρ S=some (.ref r,S)) (hr:S[r]? = some (Cell.lst row)):mFn bG (aa a ai) ρ S=some (.tup row,S):=by
 simp only [mFn,jP ha,aD,bG,dO,getL,hr,aT]
theorem build {fs rs is js:Nat}{L:List Nat}{ρ0:Rho}{S0:Sto}{bIn:MS}{a:ME}{m:Nat}{T:Nat->Nat->Nat} (hm:m < big) (h1:rs∈L) (h2:is∈L) (h3:js∈L) (h4:fs∉L) (d1:rs≠is) (d2:js≠is) (d3:js≠rs)
  (l1:rs < ρ0.length) (l2:is < ρ0.length) (l3:js < ρ0.length) (hf:ρ0[fs]? = some (some (.ref S0.length)))
  (ha : ∀ ρ S,Agr L ρ0 ρ->Sm S0.length S0 S->a ρ S=some (.int m,S))
  (hb : ∀ (i j r:Nat) (ρ:Rho) (S:Sto) (row:List U),i < m->j < m->Agr L ρ0 ρ->ρ[is]? = some (some (.int i))->ρ[js]? = some (some (.int j))->ρ[rs]? = some (some (.ref r))->Sm S0.length S0 S->S0.length < r->S[r]? = some (Cell.lst row)->row.length < big ->
   ∃ ρ' S',bIn ρ S=some (.nx,ρ',S')/\Agr L ρ0 ρ'/\ρ'[is]? = some (some (.int i))/\ρ'[rs]? = some (some (.ref r))/\Wr r S S'/\S'[r]? = some (Cell.lst (row ++ [.int (T i j)]))) :
  ∃ ρ' S',dD is (iR1 (aa a ai)) (ba (bC rs (cm ai)) (ba (dD js (iR1 (aa a ai)) bIn) (cy (mML bH (ab fs) (aa (mFn bG (aa (ab rs) ai)) ai))))) ρ0 (S0 ++ [Cell.lst []])=some (.nx,ρ',S') /\
   Agr L ρ0 ρ'/\Sm S0.length S0 S'/\S'[S0.length]? = some (Cell.lst ((ar m).map (lZ m T))):=by
 have s0:Sm S0.length S0 (S0 ++ [Cell.lst []]):=Sm.ex (Ex.push _ _) (aj _)
 refine fS (P:=fun k ρ S=>Agr L ρ0 ρ/\Sm S0.length S0 S/\S0.length < S.length/\S[S0.length]? = some (Cell.lst ((ar k).map (lZ m T)))) (ha _ _ (Agr.refl _ _) s0) hm ⟨Agr.refl _ _,s0,by simp,by rw [av (aj _)];simp⟩ ?_ |>.imp fun ρ' h=>h.imp fun S' h=>⟨h.1,h.2.1,h.2.2.1,h.2.2.2.2⟩
 rintro i ρ S hi ⟨g1,g2,g3,g4⟩
 have r0:S.length < (S ++ [Cell.lst ([]:List U)]).length:=by simp
 have e0:bC rs (cm ai) (ρ.set is (some (.int i))) S=some (.nx,(ρ.set is (some (.int i))).set rs (some (.ref S.length)),S ++ [Cell.lst []]):=by
  have hz:([]:List U).length<=big:=b9 _
  simp only [bC,cm,ai,aD,hz,if_true]
 have ga:Agr L ρ0 ((ρ.set is (some (.int i))).set rs (some (.ref S.length))):=(g1.set h2).set h1
 have gs:Sm S0.length S0 (S ++ [Cell.lst ([]:List U)]):=g2.trans (Sm.ex (Ex.push _ _) g2.len)
 obtain⟨ρ1,S1,e1,q1,q2,q3,q4,q5⟩:=fS (b:=bIn) (i:=js) (P:=fun k ρ1 S1=>Agr L ρ0 ρ1/\ρ1[is]? = some (some (.int i))/\ρ1[rs]? = some (some (.ref S.length))/\Wr S.length (S ++ [Cell.lst ([]:List U)]) S1/\S1[S.length]? = some (Cell.lst ((ar k).map fun j => .int (T i j))))
  (ha _ _ ga gs) hm ⟨ga,by rw [aA d1,mn (by rw [g1.1];exact l2)],by rw [mn (by rw [eI,g1.1];exact l1)],Wr.refl _ _,by rw [av (aj _)];simp⟩ (by
   rintro j ρ1 S1 hj ⟨q1,q2,q3,q4,q5⟩
   have sm1:Sm S0.length S0 S1:=gs.trans (q4.sm (di g3) (by simp;omega))
   obtain⟨ρ2,S2,f1,f2,f3,f4,f5,f6⟩:=hb i j S.length (ρ1.set js (some (.int j))) S1 _ hi hj (q1.set h3) (by rw [aA d2];exact q2) (mn (by rw [q1.1];exact l3)) (by rw [aA d3];exact q3) sm1 g3 q5 (by rw [aq,aY];omega)
   exact⟨ρ2,S2,f1,f2,f3,f4,q4.trans f5,by rw [f6,dP,dv];rfl⟩)
 have g5:S1[S0.length]? = some (Cell.lst ((ar i).map (lZ m T))):=by
  rw [q4.same _ (by simp;omega) (by omega),(Ex.push S _).get g3];exact g4
 have sm1:Sm S0.length S0 S1:=gs.trans (q4.sm (di g3) (by simp;omega))
 have hfv:ab fs ρ1 S1=some (.ref S0.length,S1):=var_eq (by rw [q1.2 fs h4];exact hf)
 have e2:=append_eq (o:=ab fs) hfv (iY (a:=ab rs) (var_eq q3) q5) g5 g5 (by rw [aq,aY];omega)
 refine⟨ρ1,S1.set S0.length (Cell.lst ((ar (i+1)).map (lZ m T))),?_,q1,sm1.set (aj _),?_,?_⟩
 ·simp only [ba,e0,e1,e2]
  rw [dP,dv];rfl
 ·rw [eI];have:=q4.len;simp at this;omega
 ·exact aH (by have:=q4.len;simp at this;omega)
noncomputable def nV:MS:=ba (bC 5 (m2 oMod (m2 cW (m2 oMod (ab 2) (ab 0)) (m2 d6 (m2 oIx (cm (aa (mC (.int 1)) (aa (m1 h9 (mC (.int 1))) ai))) (m2 oDiv (ab 2) (ab 0))) (m2 oMod (ab 4) (ab 0)))) (ab 0))) (cy (mML bH (ab 3) (aa (m2 cW (ab 5) (m2 d6 (ab 0) (m2 oMod (m2 cW (m2 oDiv (ab 2) (ab 0)) (m2 oDiv (ab 4) (ab 0))) (mC (.int 2))))) ai)))
theorem yE {n i j c:Int}{f r:Nat}{x y:Option U}{S:Sto}{row:List U} (h0:0 < n) (hd:ox n) (hc:atI [U.int 1,U.int (-1)] (i / n)=some (.int c)) (k1:iE c (j % n)) (k2:iE n ((i / n+j / n) % 2))
  (hr:(S ++ [Cell.lst [U.int 1,U.int (-1)]])[r]? = some (Cell.lst row)) (hl:row.length < big) :
  nV ([some (U.int n),some (U.ref f),some (U.int i),some (U.ref r),x,y].set 4 (some (U.int j))) S =
   some (Fl.nx,[some (U.int n),some (U.ref f),some (U.int i),some (U.ref r),some (U.int j),some (U.int ((i % n+c*(j % n)) % n))],(S ++ [Cell.lst [U.int 1,U.int (-1)]]).set r (Cell.lst (row ++ [U.int ((i % n+c*(j % n)) % n+n*((i / n+j / n) % 2))]))):=by
 have hb2:2<=big:=by decide
 simp [nV,ba,bC,m2,m1,ab,mC,cm,aa,ai,bnd,oMod,cW,d6,oDiv,oIx,fi,h9,dO,getL,h0,hd,hb2,hc,k1,k2,cy,mML,bH,hr,hl]
theorem zQ {n i j f r:Nat}{x y:Option U}{S:Sto}{row:List U} (hn:0 < n) (hn2:n < 1000) (hi:i < 2*n) (hj:j < 2*n) (hr:S[r]? = some (Cell.lst row)) (hl:row.length < big) :
  ∃ z,nV ([some (U.int n),some (U.ref f),some (U.int i),some (U.ref r),x,y].set 4 (some (U.int j))) S =
   some (Fl.nx,[some (U.int n),some (U.ref f),some (U.int i),some (U.ref r),some (U.int j),z],(S ++ [Cell.lst [U.int 1,U.int (-1)]]).set r (Cell.lst (row ++ [U.int (fk n i j:Nat)]))):=by
 have hd:=qF hn hn2
 have h0:(0:Int) < n:=by omega
 have hr2:=(Ex.push S (Cell.lst [U.int 1,U.int (-1)])).some hr
 have hk:iE (n:Int) (((i:Int) / n+j / n) % 2):=qZ (by omega)
 have hc : ∃ c:Int,atI [U.int 1,U.int (-1)] ((i:Int) / n)=some (.int c)/\iE c ((j:Int) % n)/\((i:Int) % n+c*((j:Int) % n)) % n+n*(((i:Int) / n+j / n) % 2)=(fk n i j:Nat):=by
  rcases half hi with⟨h1,h2,h3⟩ | ⟨h1,h2,h3⟩
  ·refine⟨1,?_,nU (by omega) (by omega),?_⟩
   ·have:(i:Int) / n=0:=by rw [<- tq,h3];rfl
    rw [this];rfl
   ·unfold fk
    rw [if_pos h1,Int.one_mul]
    push_cast
    rfl
  ·refine⟨-1,?_,nU (by omega) (by omega),?_⟩
   ·have:(i:Int) / n=1:=by rw [<- tq,h3];rfl
    rw [this];rfl
   ·unfold fk
    have hjm:j % n < n:=lH _ hn
    rw [if_neg (by omega)]
    have e1:((i:Int) % n + -1*((j:Int) % n)) % n=((i % n+(n - j % n)) % n:Nat):=by
     have e2:((n - j % n:Nat):Int)=(n:Int) - (j:Int) % n:=by omega
     rw [kO,vt,e2,kO]
     rw [show (i:Int) % n+((n:Int) - (j:Int) % n)=((i:Int) % n + -1*((j:Int) % n))+n by omega,Int.add_emod_right]
    rw [e1]
    push_cast
    rfl
 obtain⟨c,c1,c2,c3⟩:=hc
 rw [<- c3]
 exact⟨_,yE h0 hd c1 c2 hk hr2 hl⟩
end
end W
end
section
namespace W
open L2 G
section
theorem aO {a b:MS}{ρ ρ1:Rho}{S S1:Sto} (h:a ρ S=some (.nx,ρ1,S1)):ba a b ρ S=b ρ1 S1:=by simp only [ba,h]
theorem cj {e:ME}{ρ:Rho}{S S1:Sto}{u:U} (h:e ρ S=some (u,S1)):cK e ρ S=some (.rt u,ρ,S1):=by simp only [cK,h,aD]
theorem bq {e:ME}{ρ:Rho}{S S1:Sto}{u:U}{i:Nat} (h:e ρ S=some (u,S1)):bC i e ρ S=some (.nx,ρ.set i (some u),S1):=by simp only [bC,h,aD]
theorem iK {ρ:Rho}{S:Sto}:cm ai ρ S=some (.ref S.length,S ++ [Cell.lst []]):=by
 have hz:([]:List U).length<=big:=b9 _
 simp only [cm,ai,aD,hz,if_true]
theorem cw {k n:Nat}{b:MS}{us:List U}{S S1:Sto}{u:U}{ρ:Rho} (hl:us.length=k) (h:b (us.map some++aE (n - k) none) S=some (.rt u,ρ,S1)):G.run k n b us S=some (u,S1):=by
 simp only [G.run,hl,if_true,h]
theorem Sm.toEx {S S':Sto} (h:Sm S.length S S'):Ex S S':=by
 refine⟨S'.drop S.length,List.ext_getElem? fun i => ?_⟩
 by_cases hi:i < S.length
 ·rw [aM hi];exact h.same i hi
 ·rw [av (by omega),List.getElem?_drop];congr 1;omega
theorem Kh {ρ:Rho} (h:ρ.length=6) : ∃ a b c d e f,ρ = [a,b,c,d,e,f]:=by
 match ρ,h with
 | [a,b,c,d,e,f],_=>exact⟨a,b,c,d,e,f,rfl⟩
theorem tW {n:Nat}{S:Sto} (hn:0 < n) (hn2:n < 1000) : ∃ S',eD [.int n] S=some (tab (2*n) (fk n),S')/\Ex S S':=by
 have hbig:2*n < big:=by unfold big;omega
 obtain⟨ρ1,S1,e1,q1,q2,q3⟩:=build (fs:=1) (rs:=3) (is:=2) (js:=4) (L := [2,3,4,5]) (ρ0 := [some (.int n),some (.ref S.length),none,none,none,none]) (S0:=S) (bIn:=nV) (a:=m2 d6 (mC (.int 2)) (ab 0)) (m:=2*n) (T:=fk n)
  hbig (by decide) (by decide) (by decide) (by decide) (by decide) (by decide) (by decide) (by simp) (by simp) (by simp) rfl
  (fun ρ S' g s=>by
   have h0:ρ[0]? = some (some (.int n)):=g.2 0 (by decide)
   have hk:iE 2 (n:Int):=nU (by decide) (by decide)
   simp only [m2,mC,aD,var_eq h0,d6,hk,if_true]
   rfl)
  (fun i j r ρ S' row hi hj g gi gj gr s hr he hl=>by
   obtain⟨a,b,c,d,e,f,rfl⟩:=Kh g.1
   have h0:some a=some (some (.int n)):=g.2 0 (by decide)
   have h1:some b=some (some (.ref S.length)):=g.2 1 (by decide)
   simp only [dB,yZ,y3] at h0 h1 gi gj gr
   subst h0 h1 gi gj gr
   obtain⟨z,ez⟩:=zQ (f:=S.length) (x:=none) (y:=f) hn hn2 hi hj he hl
   refine⟨_,_,ez,⟨rfl,fun k hk => ?_⟩,rfl,rfl,(Wr.ex (Ex.push _ _)).trans (Wr.set _ _ _),?_⟩
   ·match k with
    | 0=>rfl
    | 1=>rfl
    | 2=>exact absurd (by decide) hk
    | 3=>exact absurd (by decide) hk
    | 4=>exact absurd (by decide) hk
    | 5=>exact absurd (by decide) hk
    | k+6=>rfl
   ·exact aH (by have:=(ae.mp he).1;simp;omega))
 have e2:mFn bG (aa (ab 1) ai) ρ1 S1=some (tab (2*n) (fk n),S1):=iY (var_eq (by rw [q1.2 1 (by decide)];rfl)) q3
 refine⟨S1,cw (ρ:=ρ1) rfl ?_,?_⟩
 ·show j8 [some (.int n),none,none,none,none,none] S=_
  exact (aO (bq iK)).trans ((aO e1).trans (cj e2))
 ·exact q2.toEx
end
end W
end
section
namespace W
open L2 G
section
section
variable {ρ:Rho}{S S1 S2:Sto}{a b:ME}
theorem op2 {f:F2}{x y:U}{r:Res U} (ha:a ρ S=some (x,S1)) (hb:b ρ S1=some (y,S2)) (h:f x y S2=r):m2 f a b ρ S=r:=by simp only [m2,ha,hb,aD,h]
theorem AO {us:List U}{z:Int}{u:U} (ha:a ρ S=some (.tup us,S1)) (hb:b ρ S1=some (.int z,S2)) (h:atI us z=some u):m2 oIx a b ρ S=some (u,S2):=op2 ha hb (by simp only [oIx,fi,dO,ah,h,aT])
theorem uP {n:Nat}{us:List U}{z:Int}{u:U} (ha:a ρ S=some (.ref n,S1)) (hb:b ρ S1=some (.int z,S2)) (hn:S2[n]? = some (Cell.lst us)) (h:atI us z=some u):m2 oIx a b ρ S=some (u,S2):=op2 ha hb (by simp only [oIx,fi,dO,getL,hn,ah,h,aT])
theorem Hr {x y:Int} (ha:a ρ S=some (.int x,S1)) (hb:b ρ S1=some (.int y,S2)):m2 cW a b ρ S=some (.int (x+y),S2):=op2 ha hb rfl
theorem AD {x y:Int} (ha:a ρ S=some (.int x,S1)) (hb:b ρ S1=some (.int y,S2)):m2 pD a b ρ S=some (.int (x - y),S2):=op2 ha hb rfl
theorem Hu {x y:Int} (ha:a ρ S=some (.int x,S1)) (hb:b ρ S1=some (.int y,S2)) (h:iE x y):m2 d6 a b ρ S=some (.int (x*y),S2):=op2 ha hb (if_pos h)
theorem Jr {x y:Int} (ha:a ρ S=some (.int x,S1)) (hb:b ρ S1=some (.int y,S2)) (h:ox y):m2 oDiv a b ρ S=some (.int (x / y),S2):=op2 ha hb (if_pos h)
theorem DG {x y:Int} (ha:a ρ S=some (.int x,S1)) (hb:b ρ S1=some (.int y,S2)) (h:0 < y):m2 oMod a b ρ S=some (.int (x % y),S2):=op2 ha hb (if_pos h)
theorem c_i {z:Int}:mC (.int z) ρ S=some (.int z,S):=rfl
theorem DZ {us:List U} (ha:a ρ S=some (.tup us,S1)):mFn bW (aa a ai) ρ S=some (.int us.length,S1):=by
 simp only [mFn,jP ha,aD,bW,fi,dO,aT]
theorem len_tab {m:Nat}{T:Nat->Nat->Nat} (ha:a ρ S=some (tab m T,S1)):mFn bW (aa a ai) ρ S=some (.int m,S1):=by
 rw [DZ (us:=(ar m).map (lZ m T)) ha,aq,aY]
theorem ip {m i:Nat}{T:Nat->Nat->Nat} (hi:i < m) (ha:a ρ S=some (tab m T,S1)) (hb:b ρ S1=some (.int i,S2)):m2 oIx a b ρ S=some (lZ m T i,S2):=AO ha hb (kr hi)
theorem iP {m i j:Nat}{T:Nat->Nat->Nat} (hj:j < m) (ha:a ρ S=some (lZ m T i,S1)) (hb:b ρ S1=some (.int j,S2)):m2 oIx a b ρ S=some (.int (T i j),S2):=AO ha hb (kr hj)
theorem qD {x y:Nat} (ha:a ρ S=some (.int x,S1)) (hb:b ρ S1=some (.int y,S2)) (h:0 < y) (h2:y < 1000):m2 oDiv a b ρ S=some (.int (x / y:Nat),S2):=by rw [Jr ha hb (qF h h2),tq]
theorem Bl {x y:Nat} (ha:a ρ S=some (.int x,S1)) (hb:b ρ S1=some (.int y,S2)) (h:0 < y):m2 oMod a b ρ S=some (.int (x % y:Nat),S2):=by rw [DG ha hb (by omega),kO]
theorem Ah {x y:Nat} (ha:a ρ S=some (.int x,S1)) (hb:b ρ S1=some (.int y,S2)) (h:x < 1000000):m2 d6 a b ρ S=some (.int (x*y:Nat),S2):=by rw [Hu ha hb (qZ h),Int.natCast_mul]
theorem add_n {x y:Nat} (ha:a ρ S=some (.int x,S1)) (hb:b ρ S1=some (.int y,S2)):m2 cW a b ρ S=some (.int (x+y:Nat),S2):=by rw [Hr ha hb,vt]
end
theorem Agr.of {L:List Nat}{ρ0 ρ:Rho}{i:Nat}{v:Option U} (h:Agr L ρ0 ρ) (hi:i∉L) (e:ρ0[i]? = some v):ρ[i]? = some v:=(h.2 i hi).trans e
noncomputable def Gq:MS:=ba (bC 7 (m2 oIx (m2 oIx (ab 0) (m2 oDiv (ab 4) (ab 2))) (m2 oDiv (ab 6) (ab 2)))) (cy (mML bH (ab 5) (aa (m2 cW (m2 d6 (ab 7) (ab 2)) (m2 oIx (m2 oIx (ab 1) (m2 oMod (ab 4) (ab 2))) (m2 oMod (ab 6) (ab 2)))) ai)))
theorem Cs {k m:Nat}{A B:Nat->Nat->Nat}{S:Sto} (hk:0 < k) (hk2:k < 1000) (hm:0 < m) (hm2:m < 1000) (ca : ∀ i j,i < k->j < k->A i j < k) : ∃ S',ji [tab k A,tab m B] S=some (tab (k*m) (lO m A B),S')/\Ex S S':=by
 have hkm:k*m < 1000000:=by
  calc k*m<=999*m:=cD m (by omega)
   _<=999*999:=Nat.mul_le_mul_left 999 (by omega)
   _ < 1000000:=by decide
 have hbig:k*m < big:=by unfold big;omega
 have dl : ∀ i,i < k*m->i / m < k:=fun i hi=>Nat.div_lt_of_lt_mul (by rw [jf];exact hi)
 have rl : ∀ i,i % m < m:=fun i=>lH _ hm
 obtain⟨ρ1,S1,e1,q1,q2,q3⟩:=build (fs:=3) (rs:=5) (is:=4) (js:=6) (L := [4,5,6,7]) (ρ0 := [some (tab k A),some (tab m B),some (.int m),some (.ref S.length),none,none,none,none]) (S0:=S) (bIn:=Gq) (a:=m2 d6 (mFn bW (aa (ab 0) ai)) (ab 2)) (m:=k*m) (T:=lO m A B)
  hbig (by decide) (by decide) (by decide) (by decide) (by decide) (by decide) (by decide) (by simp) (by simp) (by simp) rfl
  (fun ρ S' g s=>Ah (len_tab (var_eq (g.of (by decide) rfl))) (var_eq (g.of (by decide) rfl)) (by omega))
  (fun i j r ρ S' row hi hj g gi gj gr s hr he hl=>by
   have v0 : ∀ S',ab 0 ρ S'=some (tab k A,S'):=fun S'=>var_eq (g.of (by decide) rfl)
   have v2 : ∀ S',ab 2 ρ S'=some (.int m,S'):=fun S'=>var_eq (g.of (by decide) rfl)
   have e7:m2 oIx (m2 oIx (ab 0) (m2 oDiv (ab 4) (ab 2))) (m2 oDiv (ab 6) (ab 2)) ρ S'=some (.int (A (i / m) (j / m)),S'):=
    iP (dl j hj) (ip (dl i hi) (v0 _) (qD (var_eq gi) (v2 _) hm hm2)) (qD (var_eq gj) (v2 _) hm hm2)
   have hlen:ρ.length=8:=g.1
   have g':Agr [4,5,6,7] _ (ρ.set 7 (some (.int (A (i / m) (j / m))))):=g.set (by decide)
   have w2 : ∀ S',ab 2 (ρ.set 7 (some (.int (A (i / m) (j / m))))) S'=some (.int m,S'):=fun S'=>var_eq (g'.of (by decide) rfl)
   have w1 : ∀ S',ab 1 (ρ.set 7 (some (.int (A (i / m) (j / m))))) S'=some (tab m B,S'):=fun S'=>var_eq (g'.of (by decide) rfl)
   have w7 : ∀ S',ab 7 (ρ.set 7 (some (.int (A (i / m) (j / m))))) S'=some (.int (A (i / m) (j / m)),S'):=fun S'=>var_eq (mn (by omega))
   have n4:(ρ.set 7 (some (.int (A (i / m) (j / m)))))[4]? = some (some (.int i)):=by rw [aA (by decide)];exact gi
   have n5:(ρ.set 7 (some (.int (A (i / m) (j / m)))))[5]? = some (some (.ref r)):=by rw [aA (by decide)];exact gr
   have n6:(ρ.set 7 (some (.int (A (i / m) (j / m)))))[6]? = some (some (.int j)):=by rw [aA (by decide)];exact gj
   have hA:A (i / m) (j / m) < 1000000:=qy (ca _ _ (dl i hi) (dl j hj)) (by omega)
   have ev:m2 cW (m2 d6 (ab 7) (ab 2)) (m2 oIx (m2 oIx (ab 1) (m2 oMod (ab 4) (ab 2))) (m2 oMod (ab 6) (ab 2))) (ρ.set 7 (some (.int (A (i / m) (j / m))))) S'=some (.int (lO m A B i j:Nat),S'):=
    add_n (Ah (w7 _) (w2 _) hA) (iP (rl j) (ip (rl i) (w1 _) (Bl (var_eq n4) (w2 _) hm)) (Bl (var_eq n6) (w2 _) hm))
   exact⟨_,_,(aO (bq e7)).trans (append_eq (var_eq n5) ev he he hl),g',n4,n5,Wr.set _ _ _,aH (ae.mp he).1⟩)
 have e2:mFn bG (aa (ab 3) ai) ρ1 S1=some (tab (k*m) (lO m A B),S1):=iY (var_eq (q1.of (by decide) rfl)) q3
 refine⟨S1,cw (ρ:=ρ1) rfl ?_,q2.toEx⟩
 show lu [some (tab k A),some (tab m B),none,none,none,none,none,none] S=_
 exact (aO (bq (len_tab (var_eq rfl)))).trans ((aO (bq iK)).trans ((aO e1).trans (cj e2)))
end
end W
end
section
namespace W
open L2 G
section
noncomputable def lr:Nat->Nat->Nat:=fun a b=>([[0,0,0,0],[0,1,0,1],[0,1,1,0],[0,0,1,1]].getD a []).getD b 0
noncomputable def uu:Nat->Nat->Nat:=fun a b=>([[0,1,2,3],[1,0,3,2],[2,3,0,1],[3,2,1,0]].getD a []).getD b 0
noncomputable def ur (i j:Nat):Nat:=2*uu (i / 2) (j / 2)+(i+j+lr (i / 2) (j / 2)) % 2
theorem Am:((ar 8).all fun i=>(ar 8).all fun j=>ur i j == eP i j)=true:=by decide +kernel
theorem xQ {i j:Nat} (hi:i < 8) (hj:j < 8):ur i j=eP i j:=by
 have h:=bU.mp (bU.mp Am i (aU.mpr hi)) j (aU.mpr hj)
 exact eq_of_beq h
noncomputable def BF:MS:=ba (bC 6 (m2 oMod (m2 cW (m2 cW (ab 3) (ab 5)) (m2 oIx (m2 oIx (ab 0) (m2 oDiv (ab 3) (mC (.int 2)))) (m2 oDiv (ab 5) (mC (.int 2))))) (mC (.int 2)))) (cy (mML bH (ab 4) (aa (m2 cW (m2 d6 (mC (.int 2)) (m2 oIx (m2 oIx (ab 1) (m2 oDiv (ab 3) (mC (.int 2)))) (m2 oDiv (ab 5) (mC (.int 2))))) (ab 6)) ai)))
noncomputable def nh (T:Nat->Nat->Nat) (a:Nat):Cell := .lst ((ar 4).map fun b => .int (T a b))
noncomputable def uK (s:Nat):Cell := .lst ((ar 4).map fun a => .ref (s+a))
noncomputable def ten (s:Nat):Sto := [nh lr 0,nh lr 1,nh lr 2,nh lr 3,uK s,nh uu 0,nh uu 1,nh uu 2,nh uu 3,uK (s+5)]
theorem look {S S':Sto}{n k:Nat}{c:Cell} (s:Sm (S++ten S.length).length (S++ten S.length) S') (hk:(ten S.length)[k]? = some c) (hn:n=S.length+k):S'[n]? = some c:=by
 have hl:k < (ten S.length).length:=(ae.mp hk).1
 rw [s.same n (by rw [bE];omega),av (by omega),hn]
 rw [show S.length+k - S.length=k by omega];exact hk
theorem vd {S S':Sto}{ρ:Rho}{v p q x y:Nat}{T:Nat->Nat->Nat} (hv:ρ[v]? = some (some (.ref x))) (hx:S'[x]? = some (uK y)) (hy : ∀ a,a < 4->S'[y+a]? = some (nh T a)) {i j:Nat} (hi:ρ[p]? = some (some (.int i))) (hj:ρ[q]? = some (some (.int j))) (li:i < 8) (lj:j < 8) :
  m2 oIx (m2 oIx (ab v) (m2 oDiv (ab p) (mC (.int 2)))) (m2 oDiv (ab q) (mC (.int 2))) ρ S'=some (.int (T (i / 2) (j / 2)),S'):=
 uP (uP (var_eq hv) (qD (y:=2) (var_eq hi) c_i (by decide) (by decide)) hx (kr (by omega))) (qD (y:=2) (var_eq hj) c_i (by decide) (by decide)) (hy _ (by omega)) (kr (by omega))
theorem iy {ρ:Rho}{S:Sto}{x y z w:Int}:cm (aa (mC (.int x)) (aa (mC (.int y)) (aa (mC (.int z)) (aa (mC (.int w)) ai)))) ρ S=some (.ref S.length,S ++ [Cell.lst [.int x,.int y,.int z,.int w]]):=by
 have hz:4<=big:=by decide
 simp [cm,aa,mC,ai,aD,hz]
theorem uS {ρ:Rho}{S S1 S2 S3 S4:Sto}{a b c d:ME}{x y z w:U} (ha:a ρ S=some (x,S1)) (hb:b ρ S1=some (y,S2)) (hc:c ρ S2=some (z,S3)) (hd:d ρ S3=some (w,S4)) :
  cm (aa a (aa b (aa c (aa d ai)))) ρ S=some (.ref S4.length,S4 ++ [Cell.lst [x,y,z,w]]):=by
 have hz:4<=big:=by decide
 simp only [cm,aa,ai,aD,ha,hb,hc,hd]
 simp [hz]
theorem vW {S:Sto} : ∃ S',eW [] S=some (tab 8 eP,S')/\Ex S S':=by
 have e0:=uS (ρ := [none,none,none,none,none,none,none]) (S:=S) (iy (x:=0) (y:=0) (z:=0) (w:=0)) (iy (x:=0) (y:=1) (z:=0) (w:=1)) (iy (x:=0) (y:=1) (z:=1) (w:=0)) (iy (x:=0) (y:=0) (z:=1) (w:=1))
 have e1:=uS (ρ := [some (.ref (S.length+4)),none,none,none,none,none,none]) (S:=S++(ten S.length).take 5) (iy (x:=0) (y:=1) (z:=2) (w:=3)) (iy (x:=1) (y:=0) (z:=3) (w:=2)) (iy (x:=2) (y:=3) (z:=0) (w:=1)) (iy (x:=3) (y:=2) (z:=1) (w:=0))
 have e0':=e0.trans (b:=_) (c:=some (U.ref (S.length+4),S++(ten S.length).take 5)) (by simp [ten,nh,uK,lr,dP])
 have e1':=e1.trans (b:=_) (c:=some (U.ref (S.length+9),S++ten S.length)) (by simp [ten,nh,uK,lr,uu,dP])
 obtain⟨ρ1,S1,f1,q1,q2,q3⟩:=build (fs:=2) (rs:=4) (is:=3) (js:=5) (L := [3,4,5,6]) (ρ0 := [some (.ref (S.length+4)),some (.ref (S.length+9)),some (.ref (S++ten S.length).length),none,none,none,none]) (S0:=S++ten S.length) (bIn:=BF) (a:=mC (.int 8)) (m:=8) (T:=eP)
  (by decide) (by decide) (by decide) (by decide) (by decide) (by decide) (by decide) (by decide) (by simp) (by simp) (by simp) rfl
  (fun ρ S' g s=>rfl)
  (fun i j r ρ S' row hi hj g gi gj gr s hr he hl=>by
   have hlen:ρ.length=7:=g.1
   have hs : ∀ a,a < 4->S'[S.length+a]? = some (nh lr a):=fun a ha=>look (k:=a) s (by match a,ha with | 0,_=>rfl | 1,_=>rfl | 2,_=>rfl | 3,_=>rfl) rfl
   have hkk : ∀ a,a < 4->S'[S.length+5+a]? = some (nh uu a):=fun a ha=>look (k:=5+a) s (by match a,ha with | 0,_=>rfl | 1,_=>rfl | 2,_=>rfl | 3,_=>rfl) (by omega)
   have t1:=vd (S:=S) (T:=lr) (v:=0) (g.of (by decide) rfl) (look (k:=4) s rfl rfl) hs gi gj hi hj
   have e6:m2 oMod (m2 cW (m2 cW (ab 3) (ab 5)) (m2 oIx (m2 oIx (ab 0) (m2 oDiv (ab 3) (mC (.int 2)))) (m2 oDiv (ab 5) (mC (.int 2))))) (mC (.int 2)) ρ S'=some (.int ((i+j+lr (i / 2) (j / 2)) % 2:Nat),S'):=
    Bl (y:=2) (add_n (add_n (var_eq gi) (var_eq gj)) t1) c_i (by decide)
   have g':Agr [3,4,5,6] _ (ρ.set 6 (some (.int ((i+j+lr (i / 2) (j / 2)) % 2:Nat)))):=g.set (by decide)
   have n3:(ρ.set 6 (some (.int ((i+j+lr (i / 2) (j / 2)) % 2:Nat))))[3]? = some (some (.int i)):=by rw [aA (by decide)];exact gi
   have n4:(ρ.set 6 (some (.int ((i+j+lr (i / 2) (j / 2)) % 2:Nat))))[4]? = some (some (.ref r)):=by rw [aA (by decide)];exact gr
   have n5:(ρ.set 6 (some (.int ((i+j+lr (i / 2) (j / 2)) % 2:Nat))))[5]? = some (some (.int j)):=by rw [aA (by decide)];exact gj
   have t2:=vd (S:=S) (T:=uu) (v:=1) (g'.of (by decide) rfl) (look (k:=9) s rfl rfl) hkk n3 n5 hi hj
   have ev:m2 cW (m2 d6 (mC (.int 2)) (m2 oIx (m2 oIx (ab 1) (m2 oDiv (ab 3) (mC (.int 2)))) (m2 oDiv (ab 5) (mC (.int 2))))) (ab 6) (ρ.set 6 (some (.int ((i+j+lr (i / 2) (j / 2)) % 2:Nat)))) S'=some (.int (eP i j:Nat),S'):=by
    rw [<- xQ hi hj]
    exact add_n (Ah (x:=2) c_i t2 (by decide)) (var_eq (mn (by omega)))
   exact⟨_,_,(aO (bq e6)).trans (append_eq (var_eq n4) ev he he hl),g',n3,n4,Wr.set _ _ _,aH (ae.mp he).1⟩)
 have f2:mFn bG (aa (ab 2) ai) ρ1 S1=some (tab 8 eP,S1):=iY (var_eq (q1.of (by decide) rfl)) q3
 refine⟨S1,cw (ρ:=ρ1) rfl ?_,Ex.trans ⟨ten S.length,rfl⟩ q2.toEx⟩
 show iR [none,none,none,none,none,none,none] S=_
 exact (aO (bq e0')).trans ((aO (bq e1')).trans ((aO (bq iK)).trans ((aO f1).trans (cj f2))))
end
end W
end
section
namespace W
open L2 G
section
theorem mW {e:ME}{ρ:Rho} (P:List U->Sto->Prop) : ∀ (us acc:List U) (S:Sto),P acc S ->
  (∀ (k:Nat) (acc':List U) (u:U) (S:Sto),us[k]? = some u->acc'.length=acc.length+k->P acc' S -> ∃ v S',e (ρ ++ [some u]) S=some (v,S')/\P (acc' ++ [v]) S') ->
  ∃ ys S',eU cTT e ρ us acc S=some (ys,S')/\P ys S'/\ys.length=acc.length+us.length
 | [],acc,S,h,_=>⟨acc,S,rfl,h,by simp⟩
 | u::us,acc,S,h,st=>by
   obtain⟨v,S1,e1,h1⟩:=st 0 acc u S rfl (by simp) h
   obtain⟨ys,S2,e2,h2,h3⟩:=mW P us (acc ++ [v]) S1 h1 fun k acc' w S hk hl hp=>st (k+1) acc' w S (by simpa using hk) (by simp at hl;omega) hp
   refine⟨ys,S2,?_,h2,by simp at h3 ⊢;omega⟩
   show bnd (cTT (ρ ++ [some u]) S) _=_
   simp only [cTT,aD,if_true]
   rw [e1]
   exact e2
theorem yH {ρ:Rho}{S S0:Sto}{a e:ME}{n:Nat} (ha:a ρ S=some (.int n,S0)) (hn:n < big) (P:List U->Sto->Prop) (h0:P [] S0)
  (hs : ∀ (k:Nat) (acc:List U) (S:Sto),k < n->acc.length=k->P acc S -> ∃ v S',e (ρ ++ [some (.int k)]) S=some (v,S')/\P (acc ++ [v]) S') :
  ∃ ys S',mFn bG (aa (bX (iR1 (aa a ai)) cTT e) ai) ρ S=some (.tup ys,S' ++ [.lst ys])/\P ys S'/\ys.length=n:=by
 obtain⟨ys,S1,e1,h1,h2⟩:=mW (e:=e) (ρ:=ρ) P (bh 0 n) [] S0 h0 fun k acc u S hk hl hp=>by
  have hlt:k < n:=by have:=(ae.mp hk).1;simpa [bh] using this
  have hu:(bh 0 n)[k]? = some (.int k):=by simp [bh,hlt]
  rw [hu] at hk;cases hk
  exact hs k acc S hlt (by simpa using hl) hp
 have hlen:(bh 0 n).length=n:=by simp [bh]
 rw [hlen] at h2
 simp only [fM,dj] at h2
 exact⟨ys,S1,eF (jq (ku ha hn) e1 (by rw [h2];exact hn)),h1,h2⟩
theorem Stp.set {n r:Nat}{S S':Sto}{c:Cell} (h:Stp n S S') (hr:S.length<=r) (hn:r≠n):Stp n S (S'.set r c):=by
 refine⟨by rw [eI];exact h.len,fun m h1 h2=>by rw [aA (by omega)];exact h.same m h1 h2,?_⟩
 obtain⟨s,b,e⟩:=h.st
 exact⟨s,b,by rw [aA hn];exact e⟩
theorem Stp.step {n:Nat}{S S1 S2:Sto} (a:Stp n S S1) (e:Ex S1 S2):Stp n S S2:=a.trans (Stp.ex a.st e)
theorem dn {f:MF}{ρ:Rho}{S S1 S2:Sto}{a b:ME}{x y:U}{r:Res U} (ha:a ρ S=some (x,S1)) (hb:b ρ S1=some (y,S2)) (h:f [x,y] S2=r):mFn f (aa a (aa b ai)) ρ S=r:=by
 simp only [mFn,aa,ai,ha,hb,aD,h]
theorem fQ {f:MF}{ρ:Rho}{S S1:Sto}{a:ME}{x:U}{r:Res U} (ha:a ρ S=some (x,S1)) (h:f [x] S1=r):mFn f (aa a ai) ρ S=r:=by
 simp only [mFn,jP ha,aD,h]
theorem uM {ρ:Rho}{S:Sto}{a:ME}{r:Nat}{us:List U} (ha:a ρ S=some (.ref r,S)) (hr:S[r]? = some (Cell.lst us)):mFn bW (aa a ai) ρ S=some (.int us.length,S):=
 fQ ha (by simp only [bW,fi,dO,getL,hr,aT])
theorem qK {α β:Type} (f:α->β) : ∀ (l:List α) (j:Nat),(l.map f).eraseIdx j=(l.eraseIdx j).map f
 | [],_=>rfl
 | _::_,0=>rfl
 | x::l,j+1=>by simp [qK f l j]
noncomputable def ao (l:List Nat):List U:=l.map fun (x:Nat)=>U.int x
theorem uN {ρ:Rho}{S S1:Sto}{o a:ME}{r:Nat}{l:List Nat}{j:Nat} (ho:o ρ S=some (.ref r,S)) (ha:a ρ S=some (.int j,S1)) (hr:S[r]? = some (Cell.lst (ao l))) (hr1:S1[r]? = some (Cell.lst (ao l))) (hj:j < l.length) (hl:l.length < big) :
  mML jv o (aa a ai) ρ S=some (.int l[j],S1.set r (Cell.lst (ao (l.eraseIdx j)))):=by
 have hok:okR (j:Int):=om (by omega)
 have hx:ixN (ao l).length (j:Int)=some j:=by
  have:(ao l).length=l.length:=by simp [ao]
  rw [this];simp [ixN,hj]
 have hg:(ao l)[j]? = some (.int l[j]):=by simp [ao,hj]
 have he:(ao l).eraseIdx j=ao (l.eraseIdx j):=qK _ _ _
 simp only [mML,ho,aD,getL,hr,ah,jP ha,jv,hr1,hok,if_true,hx,hg,aT,he]
theorem qG {ρ:Rho}{S:Sto}{a b:ME}{i j:Int} (ha:a ρ S=some (.int i,S)) (hb:b ρ S=some (.int j,S)) (h1:okR i) (h2:okR j) (hz:(bh i (j - i).toNat).length<=big):gW (iR2 (aa a (aa b ai))) ρ S=some (.ref S.length,S ++ [Cell.lst (bh i (j - i).toNat)]):=by
 have e:iR2 (aa a (aa b ai)) ρ S=some (.imm (bh i (j - i).toNat),S):=by
  unfold iR2
  simp only [aa,ai,ha,hb,aD]
  exact if_pos ⟨h1,h2⟩
 simp only [gW,e,aD,hz,if_true]
theorem cat_t {ρ:Rho}{S S1 S2:Sto}{a b:ME}{xs ys:List U} (ha:a ρ S=some (.tup xs,S1)) (hb:b ρ S1=some (.tup ys,S2)) (hz:xs.length+ys.length<=big):m2 cW a b ρ S=some (.tup (xs++ys),S2):=op2 ha hb (by simp only [cW,hz,if_true])
theorem jx (m:Nat) (hm:0 < m):bh 1 ((m:Int) - 1).toNat=ao (aP 1 (m - 1)):=by
 have e:((m:Int) - 1).toNat=m - 1:=by omega
 rw [e]
 unfold bh ao
 rw [List.range'_eq_map_range,fq]
 apply d0
 intro k _
 simp
theorem zo {n m:Nat}{S:Sto} (h:kM n S) (hm:0 < m) (hm2:m < 1000) : ∃ l S',iL [.ref n,.int m] S=some (.tup (ao l),S')/\Stp n S S'/\m8 m l:=by
 have hn:=h.lt
 have hbig:m < big:=by unfold big;omega
 have e0:gW (iR2 (aa (mC (.int 1)) (aa (ab 1) ai))) [some (.ref n),some (.int m),none] S=some (.ref S.length,S ++ [Cell.lst (ao (aP 1 (m - 1)))]):=by
  rw [qG (i:=1) (j:=m) rfl (var_eq rfl) ⟨by decide,by decide⟩ (om hbig) (by rw [jx m hm];simp [ao];omega),jx m hm]
 have st0:Stp n S (S ++ [Cell.lst (ao (aP 1 (m - 1)))]):=Stp.ex h (Ex.push _ _)
 obtain⟨ys,S1,e1,⟨tk,rem,rfl,q1,q2,q3⟩,e2⟩:=yH (ρ := [some (.ref n),some (.int m),some (.ref S.length)]) (S:=S ++ [Cell.lst (ao (aP 1 (m - 1)))]) (S0:=S ++ [Cell.lst (ao (aP 1 (m - 1)))])
  (a:=m2 pD (ab 1) (mC (.int 1))) (e:=mML jv (ab 2) (aa (mFn aX (aa (ab 0) (aa (mFn bW (aa (ab 2) ai)) ai))) ai)) (n:=m - 1)
  (by rw [AD (var_eq rfl) c_i];congr 3;omega) (by omega)
  (fun acc S' => ∃ tk rem:List Nat,acc=ao tk/\S'[S.length]? = some (Cell.lst (ao rem))/\(tk++rem).Perm (aP 1 (m - 1))/\Stp n S S')
  ⟨[],aP 1 (m - 1),rfl,by rw [av (aj _)];simp,by simp,st0⟩
  (by
   rintro k acc S' hk hl ⟨tk,rem,rfl,q1,q2,q3⟩
   have htk:tk.length=k:=by simpa [ao] using hl
   have hrem:rem.length=m - 1 - k:=by
    have:=q2.length_eq
    simp at this;omega
   obtain⟨r,S2,t1,t2,t3,t4,t5⟩:=xm (many:=(rem.length:Int)) q3.st (by omega) (by omega)
   obtain⟨j,rfl⟩:=zb t2
   have hj:j < rem.length:=by omega
   have ho : ∀ S',ab 2 ([some (U.ref n),some (.int m),some (.ref S.length)] ++ [some (.int k)]) S'=some (.ref S.length,S'):=fun S'=>var_eq rfl
   have hv : ∀ S',ab 0 ([some (U.ref n),some (.int m),some (.ref S.length)] ++ [some (.int k)]) S'=some (.ref n,S'):=fun S'=>var_eq rfl
   have hlen:mFn bW (aa (ab 2) ai) ([some (U.ref n),some (.int m),some (.ref S.length)] ++ [some (.int k)]) S'=some (.int rem.length,S'):=by
    rw [uM (ho _) q1];simp [ao]
   have q1':S2[S.length]? = some (Cell.lst (ao rem)):=t4.some (by omega) q1
   refine⟨_,_,uN (ho _) (dn (hv _) hlen t1) q1 q1' hj (by omega),tk ++ [rem[j]],rem.eraseIdx j,by simp [ao],?_,?_,?_⟩
   ·exact aH (ae.mp q1').1
   ·refine List.Perm.trans ?_ q2
    rw [aN]
    exact (oJ rem j hj).append_left tk
   ·exact (q3.trans t4).set (aj _) (by omega))
 have hrem:rem = []:=by
  have:=q2.length_eq
  simp [ao] at this e2
  exact dk (by omega)
 subst hrem
 rw [iM] at q2
 refine⟨0::tk,S1 ++ [Cell.lst (ao tk)],cw (ρ := [some (.ref n),some (.int m),some (.ref S.length)]) rfl ?_,q3.step (Ex.push _ _),yF hm q2⟩
 show ki [some (.ref n),some (.int m),none] S=_
 refine (aO (bq e0)).trans (cj ?_)
 have ez:ft (aa (mC (.int 0)) ai) [some (.ref n),some (.int m),some (.ref S.length)] (S ++ [Cell.lst (ao (aP 1 (m - 1)))])=some (.tup [.int 0],S ++ [Cell.lst (ao (aP 1 (m - 1)))]):=by
  have hb1:1<=big:=by decide
  simp [ft,jP (show mC (.int 0) _ _=some (U.int 0,S ++ [Cell.lst (ao (aP 1 (m - 1)))]) from rfl),aD,hb1]
 exact cat_t ez e1 (by simp [ao] at e2 ⊢;omega)
theorem Di {S:Sto}{f:Nat}{i:Int}:toD S (f+1) (.int i)=some (.int i):=rfl
theorem pv {S:Sto}{f:Nat} : ∀ (l:List Nat),cQ (toD S (f+1)) (ao l)=some (l.map fun (x:Nat)=>eK x)
 | []=>rfl
 | x::l=>by
   show (toD S (f+1) (.int x)).bind _=_
   rw [Di]
   simp only [ah]
   rw [show pX (fun (x:Nat)=>U.int x) l=ao l from rfl,pv l]
   rfl
theorem u0 (x:Nat) : ∀ (l:List Nat),x∈l->(l.map fun (x:Nat)=>eK x).findIdx? (fun y=>dJ y (.int x))=some (l.idxOf x)
 | [],h=>by simp at h
 | y::l,h=>by
   have e:dJ (.int y) (.int x)=decide (y=x):=by
    simp [dJ]
    by_cases hxy:y=x
    ·subst hxy;simp
    ·have : ¬ ((y:Int)=x):=by omega
     simp [hxy,this]
   rw [bz,List.findIdx?_cons,e,List.idxOf_cons]
   by_cases hxy:y=x
   ·subst hxy;simp
   ·have hm:x∈l:=by
     rcases aG.mp h with z | z
     ·exact absurd z.symm hxy
     ·exact z
    have hb:(y == x)=false:=by simpa using hxy
    rw [u0 x l hm]
    simp [hxy,hb]
theorem De {S:Sto}{x:Nat}{l:List Nat} (h:x∈l):AL S (.int x) (ao l)=some (l.idxOf x):=by
 unfold AL
 rw [pv l]
 simp only [ah]
 rw [show toD S 40 (.int x)=some (.int x) from rfl]
 exact u0 x l h
theorem ug {ρ:Rho}{S S1:Sto}{o a:ME}{l:List Nat}{x:Nat} (ho:o ρ S=some (.tup (ao l),S)) (ha:a ρ S=some (.int x,S1)) (h:x∈l):mMT gq o (aa a ai) ρ S=some (.int (l.idxOf x:Nat),S1):=by
 simp only [mMT,ho,aD,jP ha,gq,De h,aT]
 rfl
theorem ot {l:List Nat}{j:Nat}{u:U} (h:(ao l)[j]? = some u):j < l.length/\u = .int (oF l j):=by
 have hl:j < l.length:=by have:=(ae.mp h).1;simpa [ao] using this
 have:(ao l)[j]? = some (.int l[j]):=by simp [ao,hl]
 rw [this] at h;cases h
 exact⟨hl,by simp [oF,hl]⟩
theorem bM (l:List Nat):(ao l).length=l.length:=by simp [ao]
theorem AN {m:Nat}{T:Nat->Nat->Nat}{l:List Nat}{S:Sto} (hm:m < big) (g : ∀ i j,i < m->j < m->T i j < m) (ho:m8 m l) : ∃ S',iC [tab m T,.tup (ao l)] S=some (tab m (jT T (oF l) (pF l)),S')/\Ex S S':=by
 have hlen:=ho.len
 obtain⟨S1,e1,h1⟩:=IJ (ρ := [some (tab m T),some (.tup (ao l))]) (S:=S) (S0:=S) (a:=ab 1) (us:=ao l) (e:=mFn bG (aa (bX (cM (ab 1)) cTT (mMT gq (ab 1) (aa (m2 oIx (m2 oIx (ab 0) (ab 2)) (ab 3)) ai))) ai))
  (var_eq rfl) (by rw [bM,hlen];exact hm) (lZ m (jT T (oF l) (pF l))) (fun _ S'=>Ex S S') (Ex.refl _) (by
   intro i u S' hu hx
   obtain⟨hi,rfl⟩:=ot hu
   rw [hlen] at hi
   obtain⟨S2,e2,h2⟩:=IJ (ρ := [some (tab m T),some (.tup (ao l)),some (.int (oF l i))]) (S:=S') (S0:=S') (a:=ab 1) (us:=ao l) (e:=mMT gq (ab 1) (aa (m2 oIx (m2 oIx (ab 0) (ab 2)) (ab 3)) ai))
    (var_eq rfl) (by rw [bM,hlen];exact hm) (fun j => .int (jT T (oF l) (pF l) i j)) (fun _ S''=>S''=S') rfl (by
     intro j u S'' hu hx
     obtain⟨hj,rfl⟩:=ot hu
     rw [hlen] at hj
     refine⟨S'',?_,hx⟩
     exact ug (var_eq rfl) (iP (ho.ord.ol j hj) (ip (ho.ord.ol i hi) (var_eq rfl) (var_eq rfl)) (var_eq rfl)) (ho.mem.mpr (g _ _ (ho.ord.ol i hi) (ho.ord.ol j hj))))
   subst h2
   rw [bM,hlen] at e2
   exact⟨_,e2,hx.trans (Ex.push _ _)⟩)
 rw [bM,hlen] at e1
 exact⟨_,cw (ρ := [some (tab m T),some (.tup (ao l))]) rfl (show jS [some (tab m T),some (.tup (ao l))] S=_ from cj e1),h1.trans (Ex.push _ _)⟩
end
end W
end
section
namespace W
open L2 G
section
theorem zB {ρ:Rho}{S S1 S2:Sto}{a b:ME}{x y:Int} (ha:a ρ S=some (.int x,S1)) (hb:b ρ S1=some (.int y,S2)):m2 oEq a b ρ S=some (.bl (x == y),S2):=op2 ha hb rfl
theorem Bn {ρ:Rho}{S S1 S2:Sto}{a b:ME}{x y:Int} (ha:a ρ S=some (.int x,S1)) (hb:b ρ S1=some (.int y,S2)):m2 oGt a b ρ S=some (.bl (decide (y < x)),S2):=op2 ha hb rfl
theorem of_eq {ρ:Rho}{S S1:Sto}{a:ME}{b:Bool} (h:a ρ S=some (.bl b,S1)):cOf a ρ S=some (b,S1):=by simp only [cOf,h,aD]
theorem or_eq {ρ:Rho}{S S1 S2:Sto}{a b:MT}{x y:Bool} (ha:a ρ S=some (x,S1)) (hb:b ρ S1=some (y,S2)) (e:x=true->S2=S1):cOr a b ρ S=some (x||y,S2):=by
 cases x
 ·simp [cOr,ha,hb,aD]
 ·simp [cOr,ha,aD,e rfl]
theorem and_eq {ρ:Rho}{S S1 S2:Sto}{a b:MT}{x y:Bool} (ha:a ρ S=some (x,S1)) (hb:b ρ S1=some (y,S2)) (e:x=false->S2=S1):tK a b ρ S=some (x&&y,S2):=by
 cases x
 ·simp [tK,ha,aD,e rfl]
 ·simp [tK,ha,hb,aD]
theorem mI {c:MT}{a b:MS}{ρ:Rho}{S S1:Sto} (h:c ρ S=some (true,S1)):sIf c a b ρ S=a ρ S1:=by simp [sIf,h,aD]
theorem kK {c:MT}{a b:MS}{ρ:Rho}{S S1:Sto} (h:c ρ S=some (false,S1)):sIf c a b ρ S=b ρ S1:=by simp [sIf,h,aD]
theorem ij {n m:Nat}{S:Sto} (h:kM n S) (hm:0 < m) (hm2:m < 1000) : ∃ r S',aX [.ref n,.int m] S=some (.int (r:Nat),S')/\r < m/\Stp n S S':=by
 obtain⟨r,S',e,h1,h2,h3,_⟩:=xm (many:=(m:Int)) h (by omega) (by omega)
 obtain⟨r,rfl⟩:=zb h1
 exact⟨r,S',e,by omega,h3⟩
noncomputable def gA:MS:=sIf (cOr (cOf (m2 oEq (ab 2) (mC (.int 1)))) (cOf (m2 oEq (ab 2) (mC (.int 2))))) (bC 3 (mFn eD (aa (m2 cW (mC (.int 1)) (mFn aX (aa (ab 0) (aa (m2 oDiv (ab 1) (mC (.int 2))) ai)))) ai))) cJ
noncomputable def gB:MS:=sIf (tK (cOf (m2 oEq (ab 2) (mC (.int 3)))) (cOf (m2 oGt (ab 1) (mC (.int 7))))) (bC 3 (mFn eW ai)) cJ
noncomputable def gC:MS:=sIf (cOf (m2 oGt (ab 2) (mC (.int 3)))) (ba (bC 4 (m2 cW (mC (.int 2)) (mFn aX (aa (ab 0) (aa (mC (.int 3)) ai))))) (ba (bC 5 (m2 oIx (cm (aa (mFn cb (aa (ab 4) ai)) (aa (mFn eD (aa (ab 4) ai)) ai))) (mFn aX (aa (ab 0) (aa (mC (.int 2)) ai))))) (ba (sIf (cOf (m2 oGt (mFn bW (aa (ab 5) ai)) (ab 1))) (bC 5 (mFn cb (aa (ab 4) ai))) cJ) (bC 3 (mFn ji (aa (ab 5) (aa (mFn cb (aa (m2 cW (mC (.int 1)) (mFn aX (aa (ab 0) (aa (m2 oDiv (ab 1) (mFn bW (aa (ab 5) ai))) ai)))) ai)) ai))))))) cJ
noncomputable def gD:MS:=sIf (cOf (m2 oEq (mFn aX (aa (ab 0) (aa (mC (.int 3)) ai))) (mC (.int 0)))) (bC 3 (mFn iC (aa (ab 3) (aa (mFn iL (aa (ab 0) (aa (mFn bW (aa (ab 3) ai)) ai))) ai)))) cJ
structure Gs (n most way:Nat) (S0:Sto) (ρ:Rho) (S:Sto):Prop where
 ex : ∃ m T x y,ρ = [some (.ref n),some (.int most),some (.int way),some (tab m T),x,y]/\Grp m T/\m<=most
 st:Stp n S0 S
section
variable {n most way:Nat}{S0 S:Sto}{ρ:Rho}
theorem JF (h6:6<=most) (hm:most < 1000) (g:Gs n most way S0 ρ S) : ∃ ρ' S',gA ρ S=some (.nx,ρ',S')/\Gs n most way S0 ρ' S':=by
 obtain⟨⟨m,T,x,y,rfl,gr,hle⟩,st⟩:=g
 have hc:=or_eq (of_eq (zB (ρ := [some (.ref n),some (.int most),some (.int way),some (tab m T),x,y]) (S:=S) (a:=ab 2) (b:=mC (.int 1)) (var_eq rfl) c_i)) (of_eq (zB (a:=ab 2) (b:=mC (.int 2)) (var_eq rfl) c_i)) fun _=>rfl
 cases hb:(((way:Int) == 1)||((way:Int) == 2)) with
 | false=>
   rw [hb] at hc
   exact⟨_,S,kK hc,⟨m,T,x,y,rfl,gr,hle⟩,st⟩
 | true=>
   rw [hb] at hc
   obtain⟨r,S1,e1,w1,s1⟩:=ij (m:=most / 2) st.st (by omega) (by omega)
   obtain⟨S2,e2,s2⟩:=tW (n:=1+r) (S:=S1) (by omega) (by omega)
   refine⟨_,S2,(mI hc).trans (bq (fQ (x := .int (1+r:Nat)) (add_n (x:=1) c_i (dn (var_eq rfl) (qD (y:=2) (var_eq rfl) c_i (by decide) (by decide)) e1)) e2)),⟨_,_,x,y,rfl,tw (by omega),by omega⟩,(st.trans s1).step s2⟩
theorem HJ (g:Gs n most way S0 ρ S) : ∃ ρ' S',gB ρ S=some (.nx,ρ',S')/\Gs n most way S0 ρ' S':=by
 obtain⟨⟨m,T,x,y,rfl,gr,hle⟩,st⟩:=g
 have hc:=and_eq (of_eq (zB (ρ := [some (.ref n),some (.int most),some (.int way),some (tab m T),x,y]) (S:=S) (a:=ab 2) (b:=mC (.int 3)) (var_eq rfl) c_i)) (of_eq (Bn (a:=ab 1) (b:=mC (.int 7)) (var_eq rfl) c_i)) fun _=>rfl
 cases hb:(((way:Int) == 3)&&decide ((7:Int) < most)) with
 | false=>
   rw [hb] at hc
   exact⟨_,S,kK hc,⟨m,T,x,y,rfl,gr,hle⟩,st⟩
 | true=>
   rw [hb] at hc
   obtain⟨S2,e2,s2⟩:=vW (S:=S)
   have h7:(7:Int) < most:=by simp at hb;exact hb.2
   refine⟨_,S2,(mI hc).trans (bq (show mFn eW ai _ S=_ from e2)),⟨_,_,x,y,rfl,xX,by omega⟩,st.step s2⟩
theorem Ac {ρ:Rho}{S S1 S2:Sto}{a b:ME}{x y:U} (ha:a ρ S=some (x,S1)) (hb:b ρ S1=some (y,S2)):cm (aa a (aa b ai)) ρ S=some (.ref S2.length,S2 ++ [Cell.lst [x,y]]):=by
 have hz:2<=big:=by decide
 simp [cm,aa,ai,aD,ha,hb,hz]
theorem HA (h6:6<=most) (hm:most < 1000) (g:Gs n most way S0 ρ S) : ∃ ρ' S',gC ρ S=some (.nx,ρ',S')/\Gs n most way S0 ρ' S':=by
 obtain⟨⟨m,T,x,y,rfl,gr,hle⟩,st⟩:=g
 have hbig : ∀ x,x<=most->x < big:=fun x hx=>by unfold big;omega
 have hc:=of_eq (Bn (ρ := [some (.ref n),some (.int most),some (.int way),some (tab m T),x,y]) (S:=S) (a:=ab 2) (b:=mC (.int 3)) (var_eq rfl) c_i)
 cases hb:decide ((3:Int) < way) with
 | false=>
   rw [hb] at hc
   exact⟨_,S,kK hc,⟨m,T,x,y,rfl,gr,hle⟩,st⟩
 | true=>
   rw [hb] at hc
   obtain⟨r,S1,e1,w1,s1⟩:=ij (m:=3) st.st (by decide) (by decide)
   have f1:m2 cW (mC (.int 2)) (mFn aX (aa (ab 0) (aa (mC (.int 3)) ai))) [some (.ref n),some (.int most),some (.int way),some (tab m T),x,y] S=some (.int (2+r:Nat),S1):=
    add_n (x:=2) c_i (dn (var_eq rfl) c_i e1)
   obtain⟨S2,e2,s2⟩:=jQ (n:=2+r) (S:=S1) (by omega) (hbig _ (by omega))
   obtain⟨S3,e3,s3⟩:=tW (n:=2+r) (S:=S2) (by omega) (by omega)
   have st3:Stp n S0 (S3 ++ [Cell.lst [tab (2+r) (dS (2+r)),tab (2*(2+r)) (fk (2+r))]]):=(((st.trans s1).step s2).step s3).step (Ex.push _ _)
   obtain⟨q,S4,e4,w4,s4⟩:=ij (m:=2) st3.st (by decide) (by decide)
   have hcell:S4[S3.length]? = some (Cell.lst [tab (2+r) (dS (2+r)),tab (2*(2+r)) (fk (2+r))]):=by
    refine s4.some ?_ (by rw [av (aj _)];simp)
    have:=(((st.trans s1).step s2).step s3).st.lt
    omega
   have one : ∃ k K,atI [tab (2+r) (dS (2+r)),tab (2*(2+r)) (fk (2+r))] (q:Int)=some (tab k K)/\Grp k K/\k<=8:=by
    have:q=0\/q=1:=by omega
    rcases this with rfl | rfl
    ·exact⟨_,_,rfl,jc (by omega),by omega⟩
    ·exact⟨_,_,rfl,tw (by omega),by omega⟩
   obtain⟨k,K,hix,gk,hk8⟩:=one
   have f5:m2 oIx (cm (aa (mFn cb (aa (ab 4) ai)) (aa (mFn eD (aa (ab 4) ai)) ai))) (mFn aX (aa (ab 0) (aa (mC (.int 2)) ai))) [some (.ref n),some (.int most),some (.int way),some (tab m T),some (.int (2+r:Nat)),y] S1=some (tab k K,S4):=
    uP (Ac (fQ (x := .int (2+r:Nat)) (var_eq rfl) e2) (fQ (x := .int (2+r:Nat)) (var_eq rfl) e3)) (dn (var_eq rfl) c_i e4) hcell hix
   have st4:=st3.trans s4
   have cut : ∃ k' K' S5,sIf (cOf (m2 oGt (mFn bW (aa (ab 5) ai)) (ab 1))) (bC 5 (mFn cb (aa (ab 4) ai))) cJ [some (.ref n),some (.int most),some (.int way),some (tab m T),some (.int (2+r:Nat)),some (tab k K)] S4 =
     some (.nx,[some (.ref n),some (.int most),some (.int way),some (tab m T),some (.int (2+r:Nat)),some (tab k' K')],S5)/\Grp k' K'/\k'<=most/\k'<=8/\Stp n S0 S5:=by
    have hc2:=of_eq (Bn (ρ := [some (.ref n),some (.int most),some (.int way),some (tab m T),some (.int (2+r:Nat)),some (tab k K)]) (S:=S4) (a:=mFn bW (aa (ab 5) ai)) (b:=ab 1) (len_tab (var_eq rfl)) (var_eq rfl))
    cases hb2:decide ((most:Int) < k) with
    | false=>
      rw [hb2] at hc2
      have : ¬ ((most:Int) < k):=by simpa using hb2
      exact⟨k,K,S4,kK hc2,gk,by omega,hk8,st4⟩
    | true=>
      rw [hb2] at hc2
      obtain⟨S5,e5,s5⟩:=jQ (n:=2+r) (S:=S4) (by omega) (hbig _ (by omega))
      exact⟨_,_,S5,(mI hc2).trans (bq (fQ (x := .int (2+r:Nat)) (var_eq rfl) e5)),jc (by omega),by omega,by omega,st4.step s5⟩
   obtain⟨k',K',S5,f6,gk',hkm,hk8',st5⟩:=cut
   have kp:=gk'.pos
   have hdiv:0 < most / k':=Nat.div_pos hkm kp
   have hdl:most / k'<=most:=Nat.div_le_self _ _
   obtain⟨t,S6,e6,w6,s6⟩:=ij (m:=most / k') st5.st hdiv (by omega)
   obtain⟨S7,e7,s7⟩:=jQ (n:=1+t) (S:=S6) (by omega) (hbig _ (by omega))
   obtain⟨S8,e8,s8⟩:=Cs (k:=k') (m:=1+t) (A:=K') (B:=dS (1+t)) (S:=S7) kp (by omega) (by omega) (by omega) gk'.cl
   have hsz:k'*(1+t)<=most:=br (Nat.mul_le_mul_left k' (by omega:1+t<=most / k')) (Nat.mul_div_le most k')
   refine⟨_,S8,(mI hc).trans ((aO (bq f1)).trans ((aO (bq f5)).trans ((aO f6).trans (bq (dn (var_eq rfl) (fQ (x := .int (1+t:Nat)) ?_ e7) e8))))),⟨_,_,_,_,rfl,Ar gk' (jc (by omega)),hsz⟩,((st5.trans s6).step s7).step s8⟩
   exact add_n (x:=1) c_i (dn (var_eq rfl) (qD (var_eq rfl) (len_tab (var_eq rfl)) kp (by omega)) e6)
theorem HI (hm:most < 1000) (g:Gs n most way S0 ρ S) : ∃ ρ' S',gD ρ S=some (.nx,ρ',S')/\Gs n most way S0 ρ' S':=by
 obtain⟨⟨m,T,x,y,rfl,gr,hle⟩,st⟩:=g
 obtain⟨r,S1,e1,w1,s1⟩:=ij (m:=3) st.st (by decide) (by decide)
 have hc:=of_eq (zB (ρ := [some (.ref n),some (.int most),some (.int way),some (tab m T),x,y]) (S:=S) (a:=mFn aX (aa (ab 0) (aa (mC (.int 3)) ai))) (b:=mC (.int 0)) (dn (var_eq rfl) c_i e1) c_i)
 cases hb:((r:Int) == 0) with
 | false=>
   rw [hb] at hc
   exact⟨_,S1,kK hc,⟨m,T,x,y,rfl,gr,hle⟩,st.trans s1⟩
 | true=>
   rw [hb] at hc
   obtain⟨l,S2,e2,s2,ol⟩:=zo (m:=m) s1.st gr.pos (by omega)
   obtain⟨S3,e3,s3⟩:=AN (m:=m) (T:=T) (S:=S2) (by unfold big;omega) gr.cl ol
   refine⟨_,S3,(mI hc).trans (bq (dn (var_eq rfl) (dn (var_eq rfl) (len_tab (var_eq rfl)) e2) e3)),⟨_,_,x,y,rfl,xG gr ol.ord,hle⟩,((st.trans s1).trans s2).step s3⟩
end
theorem Bc {n most:Nat}{S:Sto} (h:kM n S) (h6:6<=most) (hm:most < 1000) : ∃ m T S',j0 [.ref n,.int most] S=some (tab m T,S')/\Grp m T/\m<=most/\Stp n S S':=by
 have hbig : ∀ x,x<=most->x < big:=fun x hx=>by unfold big;omega
 obtain⟨way,S1,e1,w1,s1⟩:=ij (m:=8) h (by decide) (by decide)
 obtain⟨r2,S2,e2,w2,s2⟩:=ij (m:=most) s1.st (by omega) hm
 obtain⟨S3,e3,s3⟩:=jQ (n:=1+r2) (S:=S2) (by omega) (hbig _ (by omega))
 have f1:m2 cW (mC (.int 1)) (mFn aX (aa (ab 0) (aa (ab 1) ai))) [some (.ref n),some (.int most),some (.int way),none,none,none] S1=some (.int (1+r2:Nat),S2):=add_n (x:=1) (y:=r2) c_i (dn (var_eq rfl) (var_eq rfl) e2)
 have g0:Gs n most way S [some (.ref n),some (.int most),some (.int way),some (tab (1+r2) (dS (1+r2))),none,none] S3:=⟨⟨_,_,none,none,rfl,jc (by omega),by omega⟩,(s1.trans s2).step s3⟩
 obtain⟨ρ4,S4,e4,g4⟩:=JF h6 hm g0
 obtain⟨ρ5,S5,e5,g5⟩:=HJ g4
 obtain⟨ρ6,S6,e6,g6⟩:=HA h6 hm g5
 obtain⟨ρ7,S7,e7,g7⟩:=HI hm g6
 obtain⟨⟨m,T,x,y,rfl,gr,hle⟩,st⟩:=g7
 refine⟨m,T,S7,cw (ρ := [some (.ref n),some (.int most),some (.int way),some (tab m T),x,y]) rfl ?_,gr,hle,st⟩
 show j4 [some (.ref n),some (.int most),none,none,none,none] S=_
 exact (aO (bq (dn (var_eq rfl) c_i e1))).trans ((aO (bq (fQ f1 e3))).trans ((aO e4).trans ((aO e5).trans ((aO e6).trans ((aO e7).trans (cj (var_eq rfl)))))))
end
end W
end
section
namespace W
open L2 G
section
noncomputable def Scr (ns:List Int) (S:Sto):Prop:=getL S 0=some (ns.map U.int)
theorem Scr.ex {ns:List Int}{S S':Sto} (h:Scr ns S) (e : ∀ c,S[0]? = some c->S'[0]? = some c):Scr ns S':=by
 unfold Scr getL at h ⊢
 split at h
 ·rename_i us q;rw [e _ q];exact h
 ·rename_i us q;rw [e _ q];exact h
 ·cases h
 ·cases h
theorem Scr.lt {ns:List Int}{S:Sto} (h:Scr ns S):0 < S.length:=by
 unfold Scr getL at h
 split at h
 ·rename_i q;exact (ae.mp q).1
 ·rename_i q;exact (ae.mp q).1
 ·cases h
 ·cases h
theorem bV {α:Type} (S:List α) (c:α):(S ++ [c])[S.length]? = some c:=by
 rw [av (aj _)];simp
theorem IC {ρ:Rho}{S S1 S2:Sto}{a b:ME}{x y:Int} (ha:a ρ S=some (.int x,S1)) (hb:b ρ S1=some (.int y,S2)):m2 oLt a b ρ S=some (.bl (decide (x < y)),S2):=op2 ha hb rfl
theorem J2 {ρ:Rho}{S S1 S2:Sto}{a b:ME}{x y:Int} (ha:a ρ S=some (.int x,S1)) (hb:b ρ S1=some (.int y,S2)):m2 oGe a b ρ S=some (.bl (decide (y<=x)),S2):=op2 ha hb rfl
theorem DC {S:Sto}{r:Nat}{us:List U} (h:getL S r=some us):fi S (.ref r)=none:=by
 unfold getL at h
 show (match S[r]? with
  | some (.dic kvs)=>some kvs
  | _=>none)=none
 split at h <;> rename_i q <;> first | (cases h;done) | (rw [q])
theorem Ej {ρ:Rho}{S:Sto}{a:ME}{r:Nat}{us:List U} (ha:a ρ S=some (.ref r,S)) (hr:getL S r=some us):mFn bW (aa a ai) ρ S=some (.int us.length,S):=
 fQ ha (by simp only [bW,DC hr,dO,hr,aT])
theorem J9 {ρ:Rho}{S S1 S2:Sto}{a b:ME}{n:Nat}{us:List U}{z:Int}{u:U} (ha:a ρ S=some (.ref n,S1)) (hb:b ρ S1=some (.int z,S2)) (hn:getL S2 n=some us) (h:atI us z=some u):m2 oIx a b ρ S=some (u,S2):=op2 ha hb (by simp only [oIx,DC hn,dO,hn,ah,h,aT])
theorem n9 {α:Type}{us:List α}{k:Nat}{u:α} (h:us[k]? = some u):atI us (k:Int)=some u:=by
 have hk:k < us.length:=(ae.mp h).1
 simp [atI,ixN,hk]
 exact (ae.mp h).2
theorem CF {ns:List Int}{S:Sto}{k:Nat} (h:Scr ns S) : ∃ z,gp [.ref 0,.int k] S=some (.int z,S):=by
 have hc:=of_eq (IC (ρ := [some (.ref 0),some (.int k)]) (S:=S) (a:=ab 1) (b:=mFn bW (aa (ab 0) ai)) (var_eq rfl) (Ej (var_eq rfl) h))
 rw [aq] at hc
 cases hb:decide ((k:Int) < ns.length) with
 | true=>
   rw [hb] at hc
   have hk:k < ns.length:=by simpa using hb
   have e:=J9 (ρ := [some (.ref 0),some (.int k)]) (S:=S) (a:=ab 0) (b:=ab 1) (var_eq rfl) (var_eq rfl) h (n9 (k:=k) (u := .int ns[k]) (by simp [hk]))
   refine⟨ns[k],cw (ρ := [some (.ref 0),some (.int k)]) rfl ?_⟩
   show eY [some (.ref 0),some (.int k)] S=_
   unfold eY ba
   rw [mI hc,cj e]
 | false=>
   rw [hb] at hc
   refine⟨0,cw (ρ := [some (.ref 0),some (.int k)]) rfl ?_⟩
   show eY [some (.ref 0),some (.int k)] S=_
   exact (aO ((kK hc).trans rfl)).trans (cj c_i)
theorem DY {ρ:Rho}{S:Sto}:m2 se (mC (.int 10)) (mC (.int 18)) ρ S=some (.int (10 ^ (18:Int).toNat),S):=op2 rfl rfl (if_pos ⟨by decide,by decide,by decide⟩)
theorem zu {ns:List Int}{S:Sto}{k:Nat} (h:Scr ns S) : ∃ S',iz [.ref 0,.int k] S=some (.ref S.length,S')/\Ex S S'/\kM S.length S':=by
 obtain⟨z,e1⟩:=CF (k:=k) h
 have e2:bC 2 (mFn gp (aa (ab 0) (aa (ab 1) ai))) [some (.ref 0),some (.int k),none] S=some (.nx,[some (.ref 0),some (.int k),some (.int z)],S):=bq (dn (var_eq rfl) (var_eq rfl) e1)
 have hc:=of_eq (J2 (ρ := [some (.ref 0),some (.int k),some (.int z)]) (S:=S) (a:=ab 2) (var_eq rfl) DY)
 generalize hp:(10:Int) ^ (18:Int).toNat=p at hc
 have hpe : ∀ ρ (S:Sto),m2 se (mC (.int 10)) (mC (.int 18)) ρ S=some (.int p,S):=fun ρ S=>by rw [DY,hp]
 cases hb:decide (p<=z) with
 | true=>
   rw [hb] at hc
   have e3:=Ac (ρ := [some (.ref 0),some (.int k),some (.int z)]) (S:=S) (a:=m2 pD (ab 2) (m2 se (mC (.int 10)) (mC (.int 18)))) (b:=mC (.bl true)) (AD (var_eq rfl) (hpe _ _)) rfl
   refine⟨_,cw (ρ := [some (.ref 0),some (.int k),some (.int z)]) rfl ?_,Ex.push _ _,⟨z - p,true,bV _ _⟩⟩
   show iB [some (.ref 0),some (.int k),none] S=_
   refine (aO e2).trans ?_
   unfold ba
   rw [mI hc,cj e3]
 | false=>
   rw [hb] at hc
   have e3:=Ac (ρ := [some (.ref 0),some (.int k),some (.int z)]) (S:=S) (a:=m2 oMod (ab 2) (mC (.int 2147483647))) (b:=mC (.bl false)) (DG (var_eq rfl) c_i (by decide)) rfl
   refine⟨_,cw (ρ := [some (.ref 0),some (.int k),some (.int z)]) rfl ?_,Ex.push _ _,⟨z % 2147483647,false,bV _ _⟩⟩
   show iB [some (.ref 0),some (.int k),none] S=_
   exact (aO e2).trans ((aO ((kK hc).trans rfl)).trans (cj e3))
theorem uQ {i n:Nat}{b:MS} (us:List U) (P:Nat->Rho->Sto->Prop) (hl : ∀ k ρ S,P k ρ S->getL S n=some us)
  (st : ∀ (k:Nat) (u:U) (ρ:Rho) (S:Sto),us[k]? = some u->P k ρ S -> ∃ ρ' S',b (ρ.set i (some u)) S=some (.nx,ρ',S')/\P (k+1) ρ' S') :
  ∀ (f k:Nat) (ρ:Rho) (S:Sto),k<=us.length->us.length - k < f->P k ρ S -> ∃ ρ' S',forL i b n f k ρ S=some (.nx,ρ',S')/\P us.length ρ' S'
 | 0,k,ρ,S,h1,h2,_=>by omega
 | f+1,k,ρ,S,h1,h2,hp=>by
   unfold forL
   rw [hl k ρ S hp]
   simp only [ah]
   by_cases hk:k < us.length
   ·have hu:us[k]? = some us[k]:=by simp [hk]
    obtain⟨ρ1,S1,e1,p1⟩:=st k us[k] ρ S hu hp
    obtain⟨ρ2,S2,e2,p2⟩:=uQ us P hl st f (k+1) ρ1 S1 (by omega) (by omega) p1
    refine⟨ρ2,S2,?_,p2⟩
    simp only [hu,aft,e1,e2]
   ·have:k=us.length:=by omega
    subst this
    exact⟨ρ,S,by simp,hp⟩
theorem z7 {i n:Nat}{b:MS}{e:ME}{ρ:Rho}{S S1:Sto}{us:List U} (he:e ρ S=some (.ref n,S1)) (hu:us.length < 100000) (P:Nat->Rho->Sto->Prop) (h0:P 0 ρ S1) (hl : ∀ k ρ S,P k ρ S->getL S n=some us)
  (st : ∀ (k:Nat) (u:U) (ρ:Rho) (S:Sto),us[k]? = some u->P k ρ S -> ∃ ρ' S',b (ρ.set i (some u)) S=some (.nx,ρ',S')/\P (k+1) ρ' S') :
  ∃ ρ' S',dD i (cM e) b ρ S=some (.nx,ρ',S')/\P us.length ρ' S':=by
 obtain⟨ρ',S',e1,p1⟩:=uQ us P hl st fuel 0 ρ S1 (b9 _) (by unfold fuel;omega) h0
 refine⟨ρ',S',?_,p1⟩
 unfold dD cM
 rw [he]
 simp only [aD,hl 0 ρ S1 h0,aT]
 exact e1
theorem o3 {i:Nat}{b:MS}{e:ME}{ρ:Rho}{S S1:Sto}{us:List U} (he:e ρ S=some (.tup us,S1)) (P:Nat->Rho->Sto->Prop) (h0:P 0 ρ S1)
  (st : ∀ (k:Nat) (u:U) (ρ:Rho) (S:Sto),us[k]? = some u->P k ρ S -> ∃ ρ' S',b (ρ.set i (some u)) S=some (.nx,ρ',S')/\P (k+1) ρ' S') :
  ∃ ρ' S',dD i (cM e) b ρ S=some (.nx,ρ',S')/\P us.length ρ' S':=by
 obtain⟨ρ',S',e1,p1⟩:=oN (i:=i) (b:=b) P us 0 ρ S1 h0 fun j u ρ S hj hp=>by simpa using st j u ρ S hj (by simpa using hp)
 rw [dj] at p1
 refine⟨ρ',S',?_,p1⟩
 unfold dD cM
 rw [he]
 exact e1
noncomputable def yg (T:Nat->Nat->Nat) (w:List Nat):Nat:=w.foldl T 0
noncomputable def plc (T:Nat->Nat->Nat) (w:List Nat):List Nat:=(ar (w.length+1)).map fun k=>yg T (w.take k)
theorem zA {α:Type}{f:Nat->α}{k:Nat}:atI ((ar (k+1)).map f) (-1)=some (f k):=by
 have e:ixN ((ar (k+1)).map f).length (-1)=some k:=by
  rw [aq,aY]
  unfold ixN
  rw [if_neg (by omega),if_pos (by omega)]
  congr 1;omega
 unfold atI
 rw [e]
 simp
theorem i0 {l:List Nat}{k:Nat}{u:U} (h:(ao l)[k]? = some u) : ∃ x,l[k]? = some x/\u = .int x:=by
 obtain⟨hk,rfl⟩:=ot h
 exact⟨oF l k,by simp [oF,hk],rfl⟩
theorem HL {ρ:Rho}{S:Sto}:m1 h9 (mC (.int 1)) ρ S=some (.int (-1),S):=rfl
end
end W
end
section
namespace W
open L2 G
section
theorem ly : ∀ (a b:List Nat),bQ (a.map fun (x:Nat)=>eK x) (b.map fun (x:Nat)=>eK x)=decide (a=b)
 | [],[]=>by simp [bQ]
 | [],_::_=>by simp [bQ]
 | _::_,[]=>by simp [bQ]
 | x::a,y::b=>by
   simp only [bz,bQ,dJ,ly a b]
   by_cases h:x=y
   ·subst h;simp
   ·have : ¬ ((x:Int)=y):=by omega
    simp [h,this]
theorem oA {S:Sto}{f:Nat}{l:List Nat}:toD S (f+2) (.tup (ao l))=some (.tuple (l.map fun (x:Nat)=>eK x)):=by
 show (cQ (toD S (f+1)) (ao l)).map _=_
 rw [pv l];rfl
theorem CI {S:Sto}{a b:List Nat}:G.eqU S (.tup (ao a)) (.tup (ao b))=some (decide (a=b)):=by
 unfold G.eqU
 rw [oA (f:=38),oA (f:=38)]
 simp only [ah,aT,dJ,ly]
theorem isT {ρ:Rho}{S S1:Sto}{a:ME}{us:List U} (ha:a ρ S=some (.tup us,S1)):m1 (jE "tuple") a ρ S=some (.bl true,S1):=by
 simp only [m1,ha,aD,jE,tyU,aT]
 rfl
theorem not_eq {ρ:Rho}{S S1:Sto}{c:MT}{b:Bool} (h:c ρ S=some (b,S1)):nL c ρ S=some (!b,S1):=by simp only [nL,h,aD]
theorem zN {ns:List Int}{S:Sto}{ρ:Rho}{c:Nat} (h:Scr ns S) (hv:ρ[0]? = some (some (.ref 0))) (hl:ns.length<=63) : ∃ q:Nat,q < 1000/\mFn p9 (aa (mC (.int 1)) (aa (mFn mE (aa (mFn bW (aa (ab 0) ai)) (aa (mC (.int c)) ai))) ai)) ρ S=some (.int q,S):=by
 have e1:mFn mE (aa (mFn bW (aa (ab 0) ai)) (aa (mC (.int c)) ai)) ρ S=some (.int (if (c:Int) < (ns.map U.int).length then (c:Int) else (ns.map U.int).length),S):=dn (Ej (var_eq hv) h) c_i rfl
 have e2:=dn (f:=p9) (a:=mC (.int 1)) (S:=S) (ρ:=ρ) c_i e1 rfl
 rw [aq] at e2
 refine⟨max 1 (min ns.length c),by omega,?_⟩
 rw [e2]
 show some (U.int (if (if (c:Int) < ns.length then (c:Int) else ns.length) > 1 then (if (c:Int) < ns.length then (c:Int) else ns.length) else 1),S)=_
 have:(if (if (c:Int) < ns.length then (c:Int) else ns.length) > 1 then (if (c:Int) < ns.length then (c:Int) else ns.length) else 1)=((max 1 (min ns.length c):Nat):Int):=by
  by_cases h:(c:Int) < ns.length
  ·simp only [h,if_true];split <;> omega
  ·simp only [h,if_false];split <;> omega
 rw [this]
theorem pe {t:MT}{e:ME}{ρ:Rho} (p:Nat->Bool) (g:Nat->U) (P:Nat->Sto->Prop) : ∀ (us:List U) (k:Nat) (acc:List U) (S:Sto),P k S ->
  (∀ (j:Nat) (u:U) (S:Sto),us[j]? = some u->P (k+j) S -> ∃ S',t (ρ ++ [some u]) S=some (p (k+j),S')/\(p (k+j)=true -> ∃ S'',e (ρ ++ [some u]) S'=some (g (k+j),S'')/\P (k+j+1) S'')/\(p (k+j)=false->P (k+j+1) S')) ->
  ∃ S',eU t e ρ us acc S=some (acc++((aP k us.length).filter p).map g,S')/\P (k+us.length) S'
 | [],k,acc,S,h,_=>⟨S,by simp [eU],h⟩
 | u::us,k,acc,S,h,st=>by
   have rest : ∀ (acc':List U) (S1:Sto),P (k+1) S1 -> ∃ S',eU t e ρ us acc' S1=some (acc'++((aP (k+1) us.length).filter p).map g,S')/\P (k+(u::us).length) S':=fun acc' S1 h1=>by
    obtain⟨S2,e2,h2⟩:=pe p g P us (k+1) acc' S1 h1 fun j v S hj hp=>by
     have:=st (j+1) v S (by simpa using hj) (by rw [show k+(j+1)=k+1+j by omega];exact hp)
     rw [show k+(j+1)+1=k+1+j+1 by omega,show k+(j+1)=k+1+j by omega] at this
     exact this
    exact⟨S2,e2,by rw [show k+(u::us).length=k+1+us.length by simp;omega];exact h2⟩
   obtain⟨S1,e1,ht,hf⟩:=st 0 u S rfl h
   rw [lI] at e1 ht hf
   show ∃ S',bnd (t (ρ ++ [some u]) S) _=_/\_
   rw [e1]
   simp only [aD,cz,hU,List.filter_cons]
   cases hp:p k with
   | true=>
     obtain⟨S2,e2,h2⟩:=ht hp
     simp only [if_true]
     rw [e2]
     simp only [aD]
     obtain⟨S3,e3,h3⟩:=rest (acc ++ [g k]) S2 h2
     exact⟨S3,by rw [e3];simp,h3⟩
   | false=>
     simp only [eu,if_false]
     exact rest acc S1 (hf hp)
theorem uA {ρ:Rho}{S S0:Sto}{a e:ME}{t:MT}{n:Nat} (ha:a ρ S=some (.int n,S0)) (hn:n < big) (p:Nat->Bool) (g:Nat->U) (P:Nat->Sto->Prop) (h0:P 0 S0)
  (hs : ∀ (j:Nat) (S:Sto),j < n->P j S -> ∃ S',t (ρ ++ [some (.int j)]) S=some (p j,S')/\(p j=true -> ∃ S'',e (ρ ++ [some (.int j)]) S'=some (g j,S'')/\P (j+1) S'')/\(p j=false->P (j+1) S')) :
  ∃ S',bX (iR1 (aa a ai)) t e ρ S=some (.ref S'.length,S' ++ [.lst (((ar n).filter p).map g)])/\P n S':=by
 obtain⟨S1,e1,h1⟩:=pe (t:=t) (e:=e) (ρ:=ρ) p g P (bh 0 n) 0 [] S0 h0 fun j u S hj hp=>by
  have hl:j < n:=by have:=(ae.mp hj).1;simpa [bh] using this
  have hu:(bh 0 n)[j]? = some (.int j):=by simp [bh,hl]
  rw [hu] at hj;cases hj
  simpa using hs j S hl (by simpa using hp)
 have hlen:(bh 0 n).length=n:=by simp [bh]
 simp only [hlen,dj,du,<- ir] at e1 h1
 exact⟨S1,jq (ku ha hn) e1 (by
  rw [aq]
  exact pO (lN _ _) (by rw [aY];exact hn)),h1⟩
theorem Cj {ρ:Rho}{S S1:Sto}{a:ME}{us:List U}{u:U} (ha:a ρ S=some (.ref S1.length,S1 ++ [Cell.lst us])) (h:us[0]? = some u):m2 oIx a (mC (.int 0)) ρ S=some (u,S1 ++ [Cell.lst us]):=
 uP ha rfl (bV _ _) (n9 (k:=0) h)
theorem EC {ρ:Rho}{S S1 S2:Sto}{a b:ME}{x y:Nat} (ha:a ρ S=some (.int x,S1)) (hb:b ρ S1=some (.int y,S2)):m2 oEq a b ρ S=some (.bl (decide (x=y)),S2):=by
 rw [zB ha hb]
 congr 3
 by_cases h:x=y
 ·subst h;simp
 ·have : ¬ ((x:Int)=y):=by omega
  simp [h,this]
theorem F3 {ρ:Rho}{S S1 S2:Sto}{a b:ME}{x y:Nat} (ha:a ρ S=some (.int x,S1)) (hb:b ρ S1=some (.int y,S2)):m2 oNe a b ρ S=some (.bl (!decide (x=y)),S2):=by
 rw [op2 (f:=oNe) ha hb rfl]
 show some (U.bl (!((x:Int) == y)),S2)=_
 congr 4
 by_cases h:x=y
 ·subst h;simp
 ·have : ¬ ((x:Int)=y):=by omega
  simp [h,this]
theorem xu {α:Type} (f:α->Bool) : ∀ (l:List α),cQ kf (l.map fun x=>U.bl (f x))=some (l.map f)
 | []=>rfl
 | x::l=>by
   show (kf (.bl (f x))).bind _=_
   simp only [kf,ah]
   rw [xu f l];rfl
theorem Hc {ρ:Rho}{S S1:Sto}{a:ME}{α:Type}{l:List α}{f:α->Bool} (ha:a ρ S=some (.ref S1.length,S1 ++ [Cell.lst (l.map fun x=>U.bl (f x))])):mFn sj (aa a ai) ρ S=some (.bl (l.all f),S1 ++ [Cell.lst (l.map fun x=>U.bl (f x))]):=by
 refine fQ ha ?_
 simp only [sj,getL,bV,ah,xu,aT]
 rw [List.all_map];rfl
end
end W
end
section
namespace W
open L2 G
section
theorem FX {a b:MS}{ρ ρ1:Rho}{S S1:Sto}{u:U} (h:a ρ S=some (.rt u,ρ1,S1)):ba a b ρ S=some (.rt u,ρ1,S1):=by simp only [ba,h]
theorem Ai {m:Nat}{T:Nat->Nat->Nat}{i:Nat}:lZ m T i = .tup (ao ((ar m).map (T i))):=by
 unfold lZ ya ao
 rw [fq];rfl
noncomputable def unT (m:Nat) (T:Nat->Nat->Nat) (i:Nat):Nat:=((ar m).map (T i)).idxOf 0
theorem hJ {m:Nat}{T:Nat->Nat->Nat} (g:Grp m T) {i:Nat} (hi:i < m):unT m T i < m/\T i (unT m T i)=0/\T (unT m T i) i=0 /\ ∀ k,k < m->T i k=0->k=unT m T i:=by
 obtain⟨j,hj,h1,h2,h3⟩:=g.inv1 hi
 have e:unT m T i=j:=by
  unfold unT
  rw [ir,idx_map (k:=j) m 0 (b9 _) (by omega) h1 fun k _ hk h0=>by have:=h3 k (by omega) h0;omega]
  omega
 rw [e];exact⟨hj,h1,h2,h3⟩
theorem EL {m:Nat}{T:Nat->Nat->Nat} (g:Grp m T) {i:Nat} (hi:i < m):0∈(ar m).map (T i):=by
 obtain⟨h1,h2,_⟩:=hJ g hi
 exact aQ.mpr ⟨unT m T i,aU.mpr h1,h2⟩
theorem En {ρ:Rho}{S S1:Sto}{a:ME}{u:U} (ha:a ρ S=some (u,S1)):ft (aa a ai) ρ S=some (.tup [u],S1):=by
 have hb1:1<=big:=by decide
 simp [ft,jP ha,aD,hb1]
theorem or_false {ρ:Rho}{S S1 S2:Sto}{a b:MT} (ha:a ρ S=some (false,S1)) (hb:b ρ S1=some (false,S2)):cOr a b ρ S=some (false,S2):=by
 rw [or_eq ha hb (by intro z;cases z)];rfl
end
end W
end
section
namespace W
open L2 G
section
noncomputable def fP (l:List Nat):List Int:=l.map fun (x:Nat)=>(x:Int)
noncomputable def srt (l:List Nat):List Nat:=(nu (fP l)).map tu
theorem vO (l:List Nat):(nu (fP l)).map U.int=ao (srt l):=by
 unfold ao srt
 rw [fq]
 apply d0
 intro i hi
 have hm:=(hW (fP l)).mem_iff.mp hi
 obtain⟨x,_,rfl⟩:=aQ.mp hm
 rfl
theorem pI : ∀ l:List Nat,(fP l).map tu=l
 | []=>rfl
 | x::l=>by
   show tu (x:Int)::(fP l).map tu=x::l
   rw [pI l];rfl
theorem pj (l:List Nat):(srt l).Perm l:=by
 have h:=(hW (fP l)).map tu
 rw [pI] at h
 exact h
theorem xV {a b:List Nat} (p:a.Perm b):srt a=srt b:=by
 unfold srt
 rw [tS ((hW (fP a)).trans (p.map _)) (uh _)]
 rfl
theorem lQ {l:List Nat}{x:Nat}:x∈srt l↔x∈l:=(pj l).mem_iff
theorem nW (l:List Nat):(srt l).length=l.length:=(pj l).length_eq
theorem ph : ∀ (l:List Nat),cQ pB (ao l)=some (fP l)
 | []=>rfl
 | x::l=>by
   show (pB (.int x)).bind _=_
   simp only [pB,ah]
   rw [show pX (fun (x:Nat)=>U.int x) l=ao l from rfl,ph l]
   rfl
theorem qY : ∀ (l:List Nat),cQ tZ (ao l)=some (fP l)
 | []=>rfl
 | x::l=>by
   show (tZ (.int x)).bind _=_
   simp only [tZ,ah]
   rw [show pX (fun (x:Nat)=>U.int x) l=ao l from rfl,qY l]
   rfl
noncomputable def dE (l:List Nat):List (L2.Key×U):=l.map fun (x:Nat)=>(dF (x:Int),U.bl true)
theorem uw {S:Sto}{x:U}{l:List Nat} (h:qH S x=some (fP l)) (hl:l.length < 64):dR [x] S=some (.ref S.length,S ++ [.lst (ao (srt l))]):=by
 have ok:vB (fP l).length:=by unfold fP;rw [aq];exact hl
 simp only [dR,h,ah,ok,if_true,vO]
theorem uf {ρ:Rho}{S S1:Sto}{a:ME}{n:Nat}{l:List Nat} (ha:a ρ S=some (.ref n,S1)) (hn:S1[n]? = some (Cell.lst (ao l))) (hl:l.length < 64):mFn dR (aa a ai) ρ S=some (.ref S1.length,S1 ++ [.lst (ao (srt l))]):=
 fQ ha (uw (by simp only [qH,fi,hn,dO,getL,ah,ph]) hl)
noncomputable def nI (m:List (L2.Key×U)) (k:L2.Key):Bool:=(hG m k).isSome
theorem mH {m:List (L2.Key×U)}{k:L2.Key}:nI m k=true ↔ ∃ kv∈m,kv.1=k:=by
 unfold nI hG
 rw [oo,List.find?_isSome]
 simp
theorem rW {ρ:Rho}{S S1 S2:Sto}{a b:ME}{x:Int}{r:Nat}{kvs:List (L2.Key×U)} (ha:a ρ S=some (.int x,S1)) (hb:b ρ S1=some (.ref r,S2)) (hr:S2[r]? = some (Cell.dic kvs)):cOf (m2 fX a b) ρ S=some (!nI kvs (.inl x),S2):=
 of_eq (op2 ha hb (by simp only [fX,fi,hr,keyOf,aT,nI]))
theorem JV {ρ:Rho}{S:Sto}{o i:ME}{r:Nat}{x:Int}{kvs:List (L2.Key×U)} (ho:o ρ S=some (.ref r,S)) (hi:i ρ S=some (.int x,S)) (hr:S[r]? = some (Cell.dic kvs)) (hl:kvs.length < big):dy o i (mC (.bl true)) ρ S=some (.nx,ρ,S.set r (.dic (iT kvs (.inl x) (.bl true)))):=by
 simp only [dy,mC,aD,ho,hi,hr,keyOf,ah,hl,if_true]
section
variable {m:Nat}{T:Nat->Nat->Nat}{t n:Nat}
noncomputable def orb (T:Nat->Nat->Nat) (t n x:Nat):List Nat:=(ar n).map fun i=>T x (pw T t i)
theorem iA {x y:Nat}:y∈orb T t n x ↔ ∃ i,i < n/\y=T x (pw T t i):=by
 unfold orb
 rw [aQ]
 constructor
 ·rintro ⟨i,hi,rfl⟩;exact⟨i,aU.mp hi,rfl⟩
 ·rintro ⟨i,hi,rfl⟩;exact⟨i,aU.mpr hi,rfl⟩
theorem rE {x:Nat}:(orb T t n x).length=n:=by simp [orb]
theorem zf (g:Grp m T) (ht:t < m) {x:Nat} (hx:x < m) (i:Nat):T (T x (pw T t i)) t=T x (pw T t (i+1)):=by
 rw [show pw T t (i+1)=T (pw T t i) t from rfl,g.as x _ t hx (gE g ht i) ht]
theorem xw (g:Grp m T) (ht:t < m) (h0:pw T t n=0) (i:Nat):pw T t (n+i)=pw T t i:=by
 rw [o9 g ht n i,h0,g.l0 _ (gE g ht i)]
theorem kI (g:Grp m T) (ht:t < m) (h0:pw T t n=0) {x y z:Nat} (hx:x < m) (h1:y∈orb T t n x) (h2:z∈orb T t n y):z∈orb T t n x:=by
 obtain⟨i,hi,rfl⟩:=iA.mp h1
 obtain⟨j,hj,rfl⟩:=iA.mp h2
 have e:T (T x (pw T t i)) (pw T t j)=T x (pw T t (i+j)):=by rw [g.as _ _ _ hx (gE g ht i) (gE g ht j),o9 g ht i j]
 rw [e]
 by_cases hij:i+j < n
 ·exact iA.mpr ⟨i+j,hij,rfl⟩
 ·refine iA.mpr ⟨i+j - n,by omega,?_⟩
  rw [<- xw g ht h0 (i+j - n),show n+(i+j - n)=i+j by omega]
theorem zX (g:Grp m T) (hn:0 < n) {x:Nat} (hx:x < m):x∈orb T t n x:=iA.mpr ⟨0,hn,(g.r0 x hx).symm⟩
theorem mj (g:Grp m T) (ht:t < m) (hn:0 < n) (h0:pw T t n=0) {x y:Nat} (hx:x < m) (h:y∈orb T t n x):x∈orb T t n y:=by
 obtain⟨i,hi,rfl⟩:=iA.mp h
 have e:T (T x (pw T t i)) (pw T t (n - i))=x:=by
  rw [g.as _ _ _ hx (gE g ht i) (gE g ht (n - i)),<- o9 g ht i (n - i),show i+(n - i)=n by omega,h0,g.r0 x hx]
 by_cases hi0:i=0
 ·subst hi0
  refine iA.mpr ⟨0,hn,?_⟩
  have e1:T x (pw T t 0)=x:=g.r0 x hx
  rw [e1,e1]
 ·exact iA.mpr ⟨n - i,by omega,e.symm⟩
theorem EN (g:Grp m T) (ht:t < m) (h1 : ∀ k,1<=k->k < n->pw T t k≠0) {x i:Nat} (hx:x < m) (hi:1<=i) (hin:i < n):T x (pw T t i)≠x:=fun e=>by
 have:=g.cancel hx (gE g ht i) g.pos (e.trans (g.r0 x hx).symm)
 exact h1 i hi hin this
noncomputable def i8 (T:Nat->Nat->Nat) (t n x:Nat):Bool:=(orb T t n x).all fun y=>decide (x<=y)
theorem kH {x:Nat}:i8 T t n x=true ↔ ∀ y∈orb T t n x,x<=y:=by
 unfold i8
 rw [bU]
 simp
end
end
end W
end
section
namespace W
open L2 G
section
open PySem in
open PySem in
open PySem in
inductive Pl:pP->Prop where
 | non:Pl .none
 | bl (b:Bool):Pl (.bool b)
 | int (i:Int):i.natAbs < 10 ^ 12->Pl (.int i)
 | lst (xs:List pP):(∀ x∈xs,Pl x)->Pl (.list xs)
 | tup (xs:List pP):(∀ x∈xs,Pl x)->Pl (.tuple xs)
open PySem in
open PySem in
open PySem in
open PySem in
open PySem in
open PySem in
open PySem in
open PySem in
open PySem in
open PySem in
noncomputable def A8 (l:List Nat):pP := .tuple (l.map fun (x:Nat)=>eK x)
open PySem in
open PySem in
theorem kZ {f:MF}{ρ:Rho}{S S1 S2 S3:Sto}{a b c:ME}{x y z:U}{r:Res U} (ha:a ρ S=some (x,S1)) (hb:b ρ S1=some (y,S2)) (hc:c ρ S2=some (z,S3)) (h:f [x,y,z] S3=r):mFn f (aa a (aa b (aa c ai))) ρ S=r:=by
 simp only [mFn,aa,ai,ha,hb,hc,aD,h]
end
end W
end
section
namespace W
open L2 G
section
theorem oi {c:MT}{b:MS} (P:Nat->Rho->Sto->Prop) (Q:Rho->Sto->Prop)
  (hc : ∀ μ ρ S,P μ ρ S -> ∃ k S1,c ρ S=some (k,S1)/\(k=false->Q ρ S1)/\(k=true -> ∃ ρ' S' μ',μ' < μ/\b ρ S1=some (.nx,ρ',S')/\P μ' ρ' S')) :
  ∀ (f μ:Nat) (ρ:Rho) (S:Sto),μ < f->P μ ρ S -> ∃ ρ' S',whl c b f ρ S=some (.nx,ρ',S')/\Q ρ' S'
 | 0,μ,ρ,S,h,_=>by omega
 | f+1,μ,ρ,S,h,hp=>by
   obtain⟨k,S1,e,q1,q2⟩:=hc μ ρ S hp
   unfold whl
   rw [e]
   simp only [aD]
   cases k with
   | false=>exact⟨ρ,S1,by simp,q1 rfl⟩
   | true=>
     obtain⟨ρ1,S2,μ1,hl,e1,p1⟩:=q2 rfl
     obtain⟨ρ2,S3,e2,q⟩:=oi P Q hc f μ1 ρ1 S2 (by omega) p1
     exact⟨ρ2,S3,by simp only [if_true,aft,e1,e2],q⟩
section
variable {S x:Sto}{c e c' e':Cell}
theorem h0:(S ++ [c,e]++x)[S.length]? = some c:=by rw [aN,av (aj _)];simp
theorem h1:(S ++ [c,e]++x)[S.length+1]? = some e:=by rw [aN,av (by omega)];simp
theorem t0:(S ++ [c,e]++x).set S.length c'=S ++ [c',e]++x:=by
 rw [aN,cZ _ _ (aj _),lK,aN];rfl
theorem t1:(S ++ [c,e]++x).set (S.length+1) e'=S ++ [c,e']++x:=by
 rw [aN,cZ _ _ (by omega),show S.length+1 - S.length=1 by omega,aN];rfl
end
theorem pq {l:List Nat}{x:Nat}:nI (dE l) (.inl (x:Int))=decide (x∈l):=by
 have:nI (dE l) (.inl (x:Int))=true↔x∈l:=by
  rw [mH]
  unfold dE
  constructor
  ·rintro ⟨kv,hm,e⟩
   obtain⟨y,hy,rfl⟩:=aQ.mp hm
   have e':(y:Int)=x:=pQ e
   have:y=x:=by omega
   rw [<- this];exact hy
  ·intro h
   exact⟨_,aQ.mpr ⟨x,h,rfl⟩,rfl⟩
 by_cases h:x∈l
 ·rw [this.mpr h];simp [h]
 ·cases q:nI (dE l) (.inl (x:Int)) with
  | true=>exact absurd (this.mp q) h
  | false=>simp [h]
theorem BV {l:List Nat}{x:Nat} (h:x∉l):iT (dE l) (.inl (x:Int)) (.bl true)=dE (l ++ [x]):=by
 unfold iT
 rw [if_neg]
 ·simp [dE]
 ·intro z
  obtain⟨kv,hm,e⟩:=d5.mp z
  have:nI (dE l) (.inl (x:Int))=true:=mH.mpr ⟨kv,hm,of_decide_eq_true e⟩
  rw [pq] at this
  exact h (of_decide_eq_true this)
theorem z9 (l:List Nat):(dE l).length=l.length:=by simp [dE]
theorem Cu {ρ:Rho}{S:Sto}{o:ME}{r:Nat}{l:List Nat}{h:Nat} (ho:o ρ S=some (.ref r,S)) (hr:S[r]? = some (Cell.lst (ao (l ++ [h])))):mML so o ai ρ S=some (.int h,S.set r (Cell.lst (ao l))):=by
 simp only [mML,ho,aD,getL,hr,ah,ai,so]
 simp [ao,List.dropLast_concat]
inductive Rch (T:Nat->Nat->Nat) (ths:List Nat):Nat->Prop where
 | zero:Rch T ths 0
 | step {x y:Nat}:Rch T ths x->y∈ths->Rch T ths (T x y)
structure Dfs (m:Nat) (T:Nat->Nat->Nat) (ths:List Nat) (ks:List Nat) (C:Nat->Prop):Prop where
 nd:ks.Nodup
 lt : ∀ x∈ks,x < m
 z:0∈ks
 rc : ∀ x∈ks,Rch T ths x
 cl : ∀ x∈ks,C x \/ ∀ y∈ths,T x y∈ks
section
variable {m:Nat}{T:Nat->Nat->Nat}{ths ks st:List Nat}
theorem Dfs.all (d:Dfs m T ths ks fun _=>False) {x:Nat}:x∈ks↔Rch T ths x:=by
 refine⟨d.rc x,fun h => ?_⟩
 induction h with
 | zero=>exact d.z
 | step _ hy ih=>exact ((d.cl _ ih).resolve_left id) _ hy
theorem Dfs.len (d:Dfs m T ths ks C):ks.length<=m:=oK m ks d.nd d.lt
theorem Cp {a b:List Nat} (ha:a.Nodup) (hb:b.Nodup) (h : ∀ x,x∈a↔x∈b):a.Perm b:=(List.perm_ext_iff_of_nodup ha hb).mpr fun x=>h x
noncomputable def tryD (T:Nat->Nat->Nat) (h y:Nat) (p:List Nat×List Nat):List Nat×List Nat:=if T h y∈p.1 then p else (p.1 ++ [T h y],p.2 ++ [T h y])
structure Inn (m:Nat) (T:Nat->Nat->Nat) (ths:List Nat) (h k:Nat) (p:List Nat×List Nat) (μ:Nat):Prop where
 d:Dfs m T ths p.1 fun x=>x∈p.2\/x=h
 sub : ∀ x∈p.2,x∈p.1
 hk:h∈p.1
 hh : ∀ y∈ths.take k,T h y∈p.1
 ms:2*(m - p.1.length)+p.2.length<=μ
theorem Inn.try {h k μ y:Nat}{p:List Nat×List Nat} (g:Grp m T) (ht : ∀ x∈ths,x < m) (n:Inn m T ths h k p μ) (hy:ths[k]? = some y):Inn m T ths h (k+1) (tryD T h y p) μ:=by
 have hym:y∈ths:=bL hy
 have htk:ths.take (k+1)=ths.take k ++ [y]:=by rw [pY,hy];rfl
 unfold tryD
 split
 ·rename_i hin
  refine⟨n.d,n.sub,n.hk,fun z hz => ?_,n.ms⟩
  rw [htk] at hz
  rcases bx.mp hz with hz | hz
  ·exact n.hh z hz
  ·simp at hz;rw [hz];exact hin
 ·rename_i hin
  have nd:(p.1 ++ [T h y]).Nodup:=by
   rw [pW]
   exact⟨n.d.nd,by simp,fun a ha b hb=>by simp at hb;rintro rfl;exact hin (hb▸ha)⟩
  have hlt:T h y < m:=g.cl _ _ (n.d.lt h n.hk) (ht y hym)
  have lt : ∀ x∈p.1 ++ [T h y],x < m:=fun x hx=>by
   rcases bx.mp hx with hx | hx
   ·exact n.d.lt x hx
   ·simp at hx;omega
  refine⟨⟨nd,lt,bA _ n.d.z,fun x hx => ?_,fun x hx => ?_⟩,fun x hx => ?_,bA _ n.hk,fun z hz => ?_,?_⟩
  ·rcases bx.mp hx with hx | hx
   ·exact n.d.rc x hx
   ·simp at hx;rw [hx];exact .step (n.d.rc h n.hk) hym
  ·rcases bx.mp hx with hx | hx
   ·rcases n.d.cl x hx with (c | c) | c
    ·exact .inl (.inl (bA _ c))
    ·exact .inl (.inr c)
    ·exact .inr fun y hy=>bA _ (c y hy)
   ·exact .inl (.inl (aR _ hx))
  ·rcases bx.mp hx with hx | hx
   ·exact bA _ (n.sub x hx)
   ·exact aR _ hx
  ·rw [htk] at hz
   rcases bx.mp hz with hz | hz
   ·exact bA _ (n.hh z hz)
   ·simp at hz;rw [hz];exact aR _ (by simp)
  ·have:=oK m _ nd lt
   have:=n.ms
   simp only [bE,cz,fM] at *
   omega
structure vz (m:Nat) (T:Nat->Nat->Nat) (ths ks st:List Nat) (μ:Nat):Prop where
 d:Dfs m T ths ks fun x=>x∈st
 sub : ∀ x∈st,x∈ks
 ms:2*(m - ks.length)+st.length<=μ
theorem vz.start (hm:0 < m):vz m T ths [0] [0] (2*m):=
 ⟨⟨by simp,by simpa using hm,by simp,fun x hx=>by simp at hx;rw [hx];exact .zero,fun x hx => .inl hx⟩,fun x hx=>hx,by simp;omega⟩
theorem vz.pop {h μ:Nat} (s:vz m T ths ks (st ++ [h]) (μ+1)):Inn m T ths h 0 (ks,st) μ:=
 ⟨⟨s.d.nd,s.d.lt,s.d.z,s.d.rc,fun x hx=>(s.d.cl x hx).imp (fun c=>by simpa using c) id⟩,fun x hx=>s.sub x (bA _ hx),s.sub h (by simp),by simp,by have:=s.ms;simp only [bE,cz,fM] at this;show 2*(m - ks.length)+st.length<=μ;omega⟩
theorem Inn.done {h μ:Nat}{p:List Nat×List Nat} (n:Inn m T ths h ths.length p μ):vz m T ths p.1 p.2 μ:=
 ⟨⟨n.d.nd,n.d.lt,n.d.z,n.d.rc,fun x hx=>by
  rcases n.d.cl x hx with (c | c) | c
  ·exact .inl c
  ·subst c;exact .inr fun y hy=>n.hh y (by rw [List.take_length];exact hy)
  ·exact .inr c⟩,n.sub,n.ms⟩
end
end
end W
end
section
namespace W
open L2 G
section
section
variable {m:Nat}{T:Nat->Nat->Nat}{ths:List Nat}{S x:Sto}{v:U}
noncomputable def spR (m:Nat) (T:Nat->Nat->Nat) (v:U) (S:Sto) (r:List (Option U)):Rho := [some (tab m T),some v,some (.ref S.length),some (.ref (S.length+1))]++r
noncomputable def Wk (S:Sto) (v:U) (ths:List Nat):Prop:=v = .tup (ao ths) \/ ∃ r,v = .ref r/\S[r]? = some (.lst (ao ths))/\ths.length < 1000
noncomputable def Ay:MT:=cOf (m2 oGt (mFn bW (aa (ab 3) ai)) (mC (.int 0)))
theorem Inn.st_le {h k μ:Nat}{p:List Nat×List Nat} (n:Inn m T ths h k p μ) (hμ:μ < 1000) (hm:m < 64):p.1.length < big/\p.2.length < big:=by
 have:=n.ms
 have:=n.d.len
 unfold big
 omega
theorem xp {α:Type} : ∀ {l:List α},l ≠ [] -> ∃ a b,l=a ++ [b]
 | l,h=>⟨l.dropLast,l.getLast h,(List.dropLast_concat_getLast h).symm⟩
theorem zd {ρ:Rho}{S S1:Sto}{a:ME}{x:U} (ha:a ρ S=some (x,S1)):cm (aa a ai) ρ S=some (.ref S1.length,S1 ++ [Cell.lst [x]]):=by
 have hq:1<=big:=by decide
 simp [cm,aa,ai,aD,ha,hq]
end
end
end W
end
section
namespace W
open L2 G
section
noncomputable def tups (ls:List (List Nat)):List U:=ls.map fun l=>U.tup (ao l)
theorem qX {S:Sto}{f:Nat} : ∀ (ls:List (List Nat)),cQ (toD S (f+2)) (tups ls)=some (ls.map A8)
 | []=>rfl
 | l::ls=>by
   show (toD S (f+2) (.tup (ao l))).bind _=_
   rw [oA]
   simp only [ah]
   have:=qX (S:=S) (f:=f) ls
   unfold tups at this
   rw [this]
   rfl
theorem uD {S:Sto}{n:Nat}{ls:List (List Nat)} (h:S[n]? = some (Cell.lst (tups ls))):toD S 40 (.ref n)=some (.list (ls.map A8)):=by
 show (getL S n).bind _=_
 unfold getL
 rw [h]
 simp only [ah]
 rw [qX (f:=37)]
 rfl
theorem uc : ∀ (a b:List (List Nat)),bQ (a.map A8) (b.map A8)=decide (a=b)
 | [],[]=>by simp [bQ]
 | [],_::_=>by simp [bQ]
 | _::_,[]=>by simp [bQ]
 | x::a,y::b=>by
   rw [bz,bz,bQ,uc a b]
   unfold A8
   rw [dJ,ly]
   by_cases h:x=y
   ·subst h;simp
   ·simp [h]
open PySem in
structure Sml (ls:List (List Nat)):Prop where
 len:ls.length<=64
 each : ∀ l∈ls,l.length<=64
 lt : ∀ l∈ls,∀ x∈l,x < 1000
open PySem in
open PySem in
open PySem in
theorem Da {l:List Nat}{x:Nat}:inV (.int x) (l.map fun (y:Nat)=>V.int y)=decide (x∈l):=by
 unfold inV
 rw [List.any_map]
 by_cases h:x∈l
 ·rw [decide_eq_true h,d5]
  exact⟨x,h,by simp [eqV]⟩
 ·rw [decide_eq_false h,List.any_eq_false]
  intro y hy
  have:y≠x:=fun e=>h (e▸hy)
  simp [eqV];omega
theorem qT : ∀ (l:List Nat),cQ fV (ao l)=some (l.map fun (y:Nat)=>V.int y)
 | []=>rfl
 | x::l=>by
   show (fV (.int x)).bind _=_
   simp only [fV,ah]
   have:=qT l
   unfold ao at this
   rw [this];rfl
theorem Eb {S:Sto}{r:Nat}{us:List U} (h:S[r]? = some (Cell.lst us)):fi S (.ref r)=none:=by
 simp only [fi,h]
theorem Dh {ρ:Rho}{S S1 S2:Sto}{a b:ME}{x n:Nat}{l:List Nat} (ha:a ρ S=some (.int x,S1)) (hb:b ρ S1=some (.ref n,S2)) (hn:S2[n]? = some (Cell.lst (ao l))):cOf (m2 fX a b) ρ S=some (!decide (x∈l),S2):=by
 refine of_eq (op2 ha hb ?_)
 simp only [fX,Eb hn,fV,ah,dO,getL,hn,qT,aT,Da]
noncomputable def sdF (r:Nat->List Nat):Nat->List (List Nat)×List Nat
 | 0=>([],[])
 | k+1=>if k∈(sdF r k).2 then sdF r k else ((sdF r k).1 ++ [srt (r k)],(sdF r k).2++r k)
noncomputable def putN (l:List Nat) (x:Nat):List Nat:=if x∈l then l else l ++ [x]
theorem zJ {l:List Nat}{x y:Nat}:y∈putN l x↔y∈l\/y=x:=by
 unfold putN
 split
 ·rename_i h
  exact⟨.inl,fun z=>z.elim id fun e=>e▸h⟩
 ·simp
theorem Ao {l:List Nat}{x:Nat}:iT (dE l) (.inl (x:Int)) (.bl true)=dE (putN l x):=by
 unfold putN
 split
 ·rename_i h
  unfold iT
  have:((dE l).any fun kv=>decide (kv.1=dF (x:Int)))=true:=by
   rw [d5]
   exact⟨_,aQ.mpr ⟨x,h,rfl⟩,by simp⟩
  rw [if_pos this]
  unfold dE
  rw [fq]
  apply d0
  intro y _
  simp only [Function.comp]
  split <;> simp_all
 ·rename_i h
  exact BV h
theorem oz : ∀ {xs l:List Nat}{y:Nat},y∈xs.foldl putN l↔y∈l\/y∈xs
 | [],l,y=>by simp
 | x::xs,l,y=>by
   rw [lG,oz,zJ]
   simp [or_assoc]
theorem Bo {l:List Nat}{x:Nat}:(putN l x).length<=l.length+1:=by
 unfold putN;split <;> simp
theorem lR : ∀ {xs l:List Nat},(xs.foldl putN l).length<=l.length+xs.length
 | [],l=>by simp
 | x::xs,l=>by
   have:=lR (xs:=xs) (l:=putN l x)
   have:=Bo (l:=l) (x:=x)
   simp only [lG,cz]
   omega
noncomputable def pcF (r:Nat->List Nat) (ext:Nat->Sto):Nat->List (List Nat)×List Nat×Sto
 | 0=>([],[],[])
 | k+1=>if k∈(pcF r ext k).2.1 then pcF r ext k else ((pcF r ext k).1 ++ [srt (r k)],(srt (r k)).foldl putN (pcF r ext k).2.1,(pcF r ext k).2.2++ext k)
theorem vJ {r:Nat->List Nat}{ext:Nat->Sto} : ∀ k,(pcF r ext k).1=(sdF r k).1 /\ ∀ y,y∈(pcF r ext k).2.1↔y∈(sdF r k).2
 | 0=>⟨rfl,fun y=>Iff.rfl⟩
 | k+1=>by
   obtain⟨h1,h2⟩:=vJ (r:=r) (ext:=ext) k
   unfold pcF sdF
   by_cases h:k∈(sdF r k).2
   ·rw [if_pos h,if_pos ((h2 k).mpr h)];exact⟨h1,h2⟩
   ·rw [if_neg h,if_neg fun z=>h ((h2 k).mp z)]
    refine⟨by rw [h1],fun y => ?_⟩
    rw [oz,h2,lQ,bx]
theorem zS {r:Nat->List Nat}{ext:Nat->Sto}{B:Nat} (hr : ∀ k,(r k).length<=B) : ∀ k,(pcF r ext k).1.length<=k/\(pcF r ext k).2.1.length<=k*B
 | 0=>by simp [pcF]
 | k+1=>by
   have:=zS (ext:=ext) hr k
   have:=hr k
   unfold pcF
   rw [je]
   split
   ·omega
   ·have h:=lR (xs:=srt (r k)) (l:=(pcF r ext k).2.1)
    rw [nW] at h
    simp;omega
noncomputable def bK (S:Sto) (p:List (List Nat)×List Nat×Sto):Sto:=S ++ [.lst (tups p.1),.dic (dE p.2.1)]++p.2.2
noncomputable def oX (g:kP) (φ:MF):MS:=sIf (cOf (m2 fX (ab 4) (ab 3))) (ba (bC 5 (vE 1 g φ (aa (ab 4) ai))) (ba (cy (mML bH (ab 2) (aa (ab 5) ai))) (dD 6 (cM (ab 5)) (dy (ab 3) (ab 6) (mC (.bl true)))))) cJ
noncomputable def mq (g:kP) (φ:MF):MS:=ba (bC 2 (cm ai)) (ba (bC 3 jC) (ba (dD 4 (cM (ab 0)) (oX g φ)) (cK (ab 2))))
theorem qQ {S x:Sto}{c:Cell}{ρ:Rho}{xs l:List Nat} (h5:ρ[5]? = some (some (.tup (ao xs)))) (h3:ρ[3]? = some (some (.ref (S.length+1)))) (h7:ρ.length=7) (hb:l.length+xs.length < big) :
  ∃ v,dD 6 (cM (ab 5)) (dy (ab 3) (ab 6) (mC (.bl true))) ρ (S ++ [c,.dic (dE l)]++x)=some (.nx,ρ.set 6 v,S ++ [c,.dic (dE (xs.foldl putN l))]++x):=by
 obtain⟨ρ',S',e,⟨v,rfl⟩,rfl⟩:=o3 (i:=6) (b:=dy (ab 3) (ab 6) (mC (.bl true))) (e:=ab 5) (ρ:=ρ) (S:=S ++ [c,.dic (dE l)]++x) (us:=ao xs) (var_eq h5)
  (fun k ρ' S'=>(∃ v,ρ'=ρ.set 6 v)/\S'=S ++ [c,.dic (dE ((xs.take k).foldl putN l))]++x) ⟨⟨ρ[6]'(by omega),by simp⟩,by simp⟩ (by
  rintro k u ρ' S' hu ⟨⟨v,rfl⟩,rfl⟩
  obtain⟨y,hy,rfl⟩:=i0 hu
  rw [List.set_set]
  have g3:(ρ.set 6 (some (.int y)))[3]? = some (some (.ref (S.length+1))):=by rw [aA (by decide)];exact h3
  have g6:(ρ.set 6 (some (.int y)))[6]? = some (some (.int y)):=aH (by omega)
  have e:=JV (ρ:=ρ.set 6 (some (.int y))) (o:=ab 3) (i:=ab 6) (var_eq g3) (var_eq g6) (h1 (S:=S) (x:=x) (c:=c) (e := .dic (dE ((xs.take k).foldl putN l)))) (by
   rw [z9]
   have:=lR (xs:=xs.take k) (l:=l)
   have:(xs.take k).length<=xs.length:=by rw [rj];omega
   omega)
  rw [t1,Ao] at e
  refine⟨_,_,e,⟨_,rfl⟩,?_⟩
  rw [pY,hy,List.foldl_append]
  rfl)
 rw [bM,List.take_length] at e
 exact⟨v,e⟩
theorem yB {m:Nat}{r:Nat->List Nat}{ext:Nat->Sto}{S:Sto}{φ:MF} (hm:m < 64) (hr : ∀ k,(r k).length<=64) (hφ : ∀ i (S:Sto),i < m->φ [.int (i:Nat)] S=some (.tup (ao (srt (r i))),S++ext i)) (g:kP) :
  G.run 2 7 (mq g φ) [.tup (ao (ar m)),.obj g] S=some (.ref S.length,bK S (pcF r ext m)):=by
 obtain⟨ρ1,S1,e1,⟨a,b,c,rfl⟩,e1'⟩:=o3 (i:=4) (e:=ab 0) (us:=ao (ar m)) (b:=oX g φ) (ρ := [some (.tup (ao (ar m))),some (.obj g),some (.ref S.length),some (.ref (S.length+1)),none,none,none]) (S:=bK S (pcF r ext 0)) (var_eq rfl)
  (fun k ρ S'=>(∃ a b c,ρ = [some (.tup (ao (ar m))),some (.obj g),some (.ref S.length),some (.ref (S.length+1)),a,b,c])/\S'=bK S (pcF r ext k)) ⟨⟨_,_,_,rfl⟩,rfl⟩ (by
   rintro k u ρ S' hu ⟨⟨a,b,c,rfl⟩,rfl⟩
   obtain⟨k',hk',rfl⟩:=i0 hu
   have hk:k < m:=by have:=(ae.mp hk').1;simpa using this
   rw [nF hk] at hk'
   cases hk'
   have bd:=zS (ext:=ext) hr k
   have ec:=rW (ρ := [some (.tup (ao (ar m))),some (.obj g),some (.ref S.length),some (.ref (S.length+1)),some (.int k),b,c]) (a:=ab 4) (b:=ab 3) (x:=k) (var_eq rfl) (var_eq rfl) (show (bK S (pcF r ext k))[S.length+1]? = _ from h1)
   rw [pq] at ec
   by_cases hin:k∈(pcF r ext k).2.1
   ·rw [decide_eq_true hin] at ec
    refine⟨_,_,(kK ec).trans rfl,⟨_,_,_,rfl⟩,?_⟩
    rw [pcF,if_pos hin]
   ·rw [decide_eq_false hin] at ec
    have e5:vE 1 g φ (aa (ab 4) ai) [some (.tup (ao (ar m))),some (.obj g),some (.ref S.length),some (.ref (S.length+1)),some (.int k),b,c] (bK S (pcF r ext k))=some (.tup (ao (srt (r k))),bK S (pcF r ext k)++ext k):=by
     show (if g=g then mFn φ (aa (ab 4) ai) _ _ else none)=_
     rw [if_pos rfl]
     exact fQ (var_eq rfl) (hφ k _ hk)
    have hx:bK S (pcF r ext k)++ext k=S ++ [.lst (tups (pcF r ext k).1),.dic (dE (pcF r ext k).2.1)]++((pcF r ext k).2.2++ext k):=by simp [bK]
    rw [hx] at e5
    have e6:=append_eq (ρ := [some (.tup (ao (ar m))),some (.obj g),some (.ref S.length),some (.ref (S.length+1)),some (.int k),some (.tup (ao (srt (r k)))),c]) (o:=ab 2) (a:=ab 5) (u := .tup (ao (srt (r k)))) (var_eq rfl) (var_eq rfl) (h0 (S:=S) (x:=(pcF r ext k).2.2++ext k) (c := .lst (tups (pcF r ext k).1)) (e := .dic (dE (pcF r ext k).2.1))) h0 (by simp only [tups,aq];unfold big;omega)
    rw [t0] at e6
    obtain⟨v,e7⟩:=qQ (S:=S) (x:=(pcF r ext k).2.2++ext k) (c := .lst (tups (pcF r ext k).1 ++ [.tup (ao (srt (r k)))])) (ρ := [some (.tup (ao (ar m))),some (.obj g),some (.ref S.length),some (.ref (S.length+1)),some (.int k),some (.tup (ao (srt (r k)))),c]) (xs:=srt (r k)) (l:=(pcF r ext k).2.1) rfl rfl rfl (by
     rw [nW]
     have:=hr k
     have h3:k*64<=64*64:=cD _ (by omega)
     unfold big;omega)
    refine⟨_,_,(mI ec).trans ((aO (bq e5)).trans ((aO e6).trans e7)),⟨_,_,_,rfl⟩,?_⟩
    rw [pcF,if_neg hin]
    simp [bK,tups])
 rw [bM,aY] at e1'
 subst e1'
 refine cw (ρ := [some (.tup (ao (ar m))),some (.obj g),some (.ref S.length),some (.ref (S.length+1)),a,b,c]) rfl ?_
 show mq g φ [some (.tup (ao (ar m))),some (.obj g),none,none,none,none,none] S=_
 have e2:jC [some (.tup (ao (ar m))),some (.obj g),some (.ref S.length),none,none,none,none] (S ++ [Cell.lst []])=some (.ref (S.length+1),bK S (pcF r ext 0)):=by
  simp [jC,bK,pcF,tups,dE]
 exact (aO (bq iK)).trans ((aO (bq e2)).trans ((aO e1).trans (cj (var_eq rfl))))
theorem Gr {ρ:Rho}{S:Sto}{e:ME}{part:List Nat}{f:Nat->Nat}{i:Nat} (hi:ρ[i]? = some (some (.tup (ao part)))) (hl:part.length < 64) (he : ∀ (x:Nat) (S:Sto),x∈part->e (ρ ++ [some (.int x)]) S=some (.int (f x:Nat),S)) :
  mFn bG (aa (mFn dR (aa (bX (cM (ab i)) cTT e) ai)) ai) ρ S=some (.tup (ao (srt (part.map f))),S ++ [.lst (ao (part.map f)),.lst (ao (srt (part.map f)))]):=by
 have hz:(part.map f).length < 64:=by rw [aq];exact hl
 obtain⟨S1,e1,rfl⟩:=kA (e:=e) (ρ:=ρ) (fun j => .int (f (oF part j):Nat)) (fun _ S'=>S'=S) (ao part) 0 [] S rfl (by
  rintro j u S' hu rfl
  obtain⟨x,hx,rfl⟩:=i0 hu
  refine⟨S',?_,rfl⟩
  have:oF part (0+j)=x:=by rw [dj];unfold oF;rw [bp,hx];rfl
  rw [this]
  exact he x S' (bL hx))
 have hm:(ar (ao part).length).map (fun j=>U.int (f (oF part (0+j)):Nat))=ao (part.map f):=by
  unfold ao
  apply List.ext_getElem?
  intro j
  rw [bo,bo,bo]
  by_cases h:j < part.length
  ·rw [nF (by simpa using h),aS h]
   simp [oF,bp,h]
  ·rw [Bv (by simpa using h),Bv (by omega)];rfl
 rw [hm,du] at e1
 have e2:=jq (it:=cM (ab i)) (us:=ao part) (by unfold cM;rw [var_eq hi];rfl) e1 (by rw [bM];unfold big;omega)
 have e3:=eF (uf e2 (bV _ _) hz)
 rw [e3]
 simp
theorem map_len {part:List Nat}{f:Nat->Nat} (h:part.length < 64):(part.map f).length<=64:=by rw [aq];omega
noncomputable def sy (T:Nat->Nat->Nat) (part:List Nat) (left:Bool) (x:Nat):List Nat:=part.map fun o=>if left then T x o else T o x
noncomputable def atM:MS:=cK (kX (iR1 (aa (mFn bW (aa (ab 0) ai)) ai)))
theorem DT {m:Nat}{T:Nat->Nat->Nat}{S:Sto} (hm:m < 1000):G.run 1 1 atM [tab m T] S=some (.tup (ao (ar m)),S):=by
 refine cw (ρ := [some (tab m T)]) rfl (cj ?_)
 have e1:=ku (ρ := [some (tab m T)]) (S:=S) (a:=mFn bW (aa (ab 0) ai)) (n:=m) (len_tab (var_eq rfl)) (by unfold big;omega)
 have e2:bh 0 m=ao (ar m):=by
  unfold bh ao
  apply d0
  intro k _
  simp
 rw [e2] at e1
 have hz:(ao (ar m)).length<=big:=by rw [bM,aY];unfold big;omega
 show kX (iR1 (aa (mFn bW (aa (ab 0) ai)) ai)) [some (tab m T)] S=_
 simp only [kX,e1,aD,hz,if_true]
noncomputable def lsM:MS:=cK (jZ (fun g φ=>G.run 2 7 (mq g φ)) 1 [0,1] (mFn bG (aa (mFn dR (aa (bX (cM (ab 2)) cTT (m2 oIx (m2 oIx (ab 1) (ab 0)) (ab 3))) ai)) ai)) (mFn (G.run 1 1 atM) (aa (ab 0) ai)))
noncomputable def AI (m:Nat) (T:Nat->Nat->Nat) (part:List Nat) (left:Bool):List (List Nat):=(sdF (sy T part left) m).1
section
variable {m:Nat}{T:Nat->Nat->Nat}{part:List Nat}{S:Sto}
theorem qV {left:Bool}{ext:Nat->Sto}:Ex S (bK S (pcF (sy T part left) ext m))/\(bK S (pcF (sy T part left) ext m))[S.length]? = some (Cell.lst (tups (AI m T part left))):=by
 refine⟨⟨_,by unfold bK;rw [aN]⟩,?_⟩
 have:=h0 (S:=S) (x:=(pcF (sy T part left) ext m).2.2) (c := .lst (tups (pcF (sy T part left) ext m).1)) (e := .dic (dE (pcF (sy T part left) ext m).2.1))
 rw [(vJ m).1] at this
 unfold bK
 rw [(vJ m).1]
 exact this
theorem Ct (g:Grp m T) (hm:m < 64) (hl:part.length < 64) (hp : ∀ x∈part,x < m) : ∃ S',G.run 2 2 lsM [tab m T,.tup (ao part)] S=some (.ref S.length,S')/\Ex S S'/\S'[S.length]? = some (Cell.lst (tups (AI m T part true))):=by
 refine⟨bK S (pcF (sy T part true) (fun i => [.lst (ao (sy T part true i)),.lst (ao (srt (sy T part true i)))]) m),cw (ρ := [some (tab m T),some (.tup (ao part))]) rfl (show lsM [some (tab m T),some (.tup (ao part))] S=_ from cj ?_),qV.1,qV.2⟩
 refine uX (cs := [tab m T,.tup (ao part)]) (fQ (f:=G.run 1 1 atM) (var_eq rfl) (DT (by omega))) rfl fun f=>yB hm (fun k=>map_len hl) (fun i S' hi => ?_) f
 exact Gr (ρ := [some (.int (i:Nat)),some (tab m T),some (.tup (ao part))]) (f:=fun o=>if true then T i o else T o i) rfl hl fun x S hx=>iP (T:=T) (i:=i) (j:=x) (hp x hx) (ip hi (var_eq rfl) (var_eq rfl)) (var_eq rfl)
end
theorem zv {n m t:Nat}{ρ:Rho}{S S0:Sto}{a:ME}{sv mv:ME} (ha:a ρ S=some (.int t,S0)) (ht:t < 1000) (h:kM n S0) (hm:0 < m) (hm2:m < 1000)
  (hs : ∀ z (S:Sto),sv (ρ ++ [z]) S=some (.ref n,S)) (hv : ∀ z (S:Sto),mv (ρ ++ [z]) S=some (.int m,S)) :
  ∃ w S',bX (iR1 (aa a ai)) cTT (mFn aX (aa sv (aa mv ai))) ρ S=some (.ref S'.length,S' ++ [.lst (ao w)])/\Stp n S0 S'/\(∀ x∈w,x < m)/\w.length=t:=by
 obtain⟨ys,S1,e1,⟨w,rfl,q1,q2⟩,q3⟩:=mW (e:=mFn aX (aa sv (aa mv ai))) (ρ:=ρ) (fun acc S' => ∃ w,acc=ao w/\(∀ x∈w,x < m)/\Stp n S0 S') (bh 0 t) [] S0 ⟨[],rfl,by simp,Stp.refl h⟩ (by
  rintro k acc u S' hk hl ⟨w,rfl,q1,q2⟩
  obtain⟨r,S2,e2,h2,h3⟩:=ij (m:=m) q2.st hm hm2
  refine⟨_,S2,dn (hs _ _) (hv _ _) e2,w ++ [r],by simp [ao],fun x hx => ?_,q2.trans h3⟩
  rcases bx.mp hx with hx | hx
  ·exact q1 x hx
  ·simp at hx;omega)
 have hlen:(bh 0 t).length=t:=by simp [bh]
 have hw:w.length=t:=by rw [bM] at q3;simpa [hlen] using q3
 exact⟨w,S1,jq (ku ha (by unfold big;omega)) e1 (by rw [bM,hw];unfold big;omega),q2,q1,hw⟩
end
end W
end
section
namespace W
open L2 G
section
theorem lD {t:MT}{e:ME}{ρ:Rho}{S:Sto}{p:U->Bool}{f:U->U} : ∀ (us acc:List U),(∀ u∈us,t (ρ ++ [some u]) S=some (p u,S))->(∀ u∈us,p u=true->e (ρ ++ [some u]) S=some (f u,S)) ->
  eU t e ρ us acc S=some (acc++(us.filter p).map f,S)
 | [],acc,_,_=>by simp [eU]
 | u::us,acc,ht,he=>by
   unfold eU
   rw [ht u (by simp)]
   simp only [aD]
   cases hp:p u with
   | true=>
     rw [if_pos rfl,he u (by simp) hp]
     simp only [aD]
     rw [lD us _ (fun v hv=>ht v (az _ hv)) (fun v hv=>he v (az _ hv)),List.filter_cons_of_pos hp]
     simp
   | false=>
     rw [if_neg bI,lD us _ (fun v hv=>ht v (az _ hv)) (fun v hv=>he v (az _ hv)),List.filter_cons_of_neg (by rw [hp];decide)]
theorem xH {t:MT}{e a:ME}{ρ:Rho}{S S1:Sto}{us:List U}{p:U->Bool}{f:U->U} (ha:a ρ S=some (.tup us,S1)) (hl:us.length < big) (ht : ∀ u∈us,t (ρ ++ [some u]) S1=some (p u,S1)) (he : ∀ u∈us,p u=true->e (ρ ++ [some u]) S1=some (f u,S1)) :
  bX (cM a) t e ρ S=some (.ref S1.length,S1 ++ [.lst ((us.filter p).map f)]):=by
 have hi:cM a ρ S=some (.imm us,S1):=by simp only [cM,ha,aD]
 have e1:=lD us [] ht he
 rw [du] at e1
 refine jq hi e1 ?_
 have:=lN p us
 rw [aq];omega
theorem vL {t:MT}{e a:ME}{ρ:Rho}{S S1:Sto}{l:List Nat}{p:Nat->Bool}{f:Nat->U} (ha:a ρ S=some (.tup (ao l),S1)) (hl:l.length < big) (ht : ∀ x∈l,t (ρ ++ [some (.int x)]) S1=some (p x,S1)) (he : ∀ x∈l,p x=true->e (ρ ++ [some (.int x)]) S1=some (f x,S1)) :
  bX (cM a) t e ρ S=some (.ref S1.length,S1 ++ [.lst ((l.filter p).map f)]):=by
 have nat : ∀ u∈ao l,∃ x∈l,u = .int (x:Nat):=fun u hu=>by
  obtain⟨x,hx,rfl⟩:=aQ.mp hu;exact⟨x,hx,rfl⟩
 let g:U->Nat:=fun u=>match u with | .int i=>i.toNat | _=>0
 have gx : ∀ x:Nat,g (.int x)=x:=fun x=>by simp [g]
 have h:=xH (t:=t) (e:=e) (p:=fun u=>p (g u)) (f:=fun u=>f (g u)) ha (by rw [bM];exact hl) (fun u hu=>by
  obtain⟨x,hx,rfl⟩:=nat u hu
  rw [gx];exact ht x hx) (fun u hu hp=>by
  obtain⟨x,hx,rfl⟩:=nat u hu
  rw [gx] at hp ⊢;exact he x hx hp)
 rw [h]
 have:((ao l).filter fun u=>p (g u)).map (fun u=>f (g u))=(l.filter p).map f:=by
  unfold ao
  rw [List.filter_map,fq]
  have e1:(fun u=>p (g u))∘(fun (x:Nat)=>U.int x)=p:=by funext x;simp [gx]
  have e2:(fun u=>f (g u))∘(fun (x:Nat)=>U.int x)=f:=by funext x;simp [gx]
  rw [e1,e2]
 rw [this]
section
variable {m:Nat}{T:Nat->Nat->Nat}{st left:List Nat}{S:Sto}
theorem FS {ρ:Rho}{S S1 S2:Sto}{a b:ME}{x y:List Nat} (ha:a ρ S=some (.tup (ao x),S1)) (hb:b ρ S1=some (.tup (ao y),S2)) (hl:x.length+y.length<=big):m2 cW a b ρ S=some (.tup (ao (x++y)),S2):=by
 refine op2 ha hb ?_
 simp only [cW]
 rw [if_pos (by rw [bM,bM];exact hl)]
 simp [ao]
theorem Hw {ρ:Rho}{S S1 S2:Sto}{a b:ME}{x y:List Nat} (ha:a ρ S=some (.tup (ao x),S1)) (hb:b ρ S1=some (.tup (ao y),S2)) (hl:x.length+y.length < 1000):m2 cW a b ρ S=some (.tup (ao (x++y)),S2):=
 FS ha hb (by unfold big;omega)
end
end
end W
end
section
namespace W
open L2 G
section
abbrev Nod:=List Nat×List Nat
noncomputable def uW (th:List Nat):Nat:=(th.getLast?).getD 0
theorem oE {l:List Nat}{x:Nat}:uW (l ++ [x])=x:=by simp [uW]
theorem CV {th:List Nat} (h:th ≠ []):atI (ao th) (-1)=some (.int (uW th:Nat)):=by
 obtain⟨l,x,rfl⟩:=xp h
 rw [oE]
 have hl:(ao (l ++ [x])).length=l.length+1:=by simp [ao]
 unfold atI
 have:L2.ixN (ao (l ++ [x])).length (-1)=some l.length:=by
  rw [hl];unfold L2.ixN
  rw [if_neg (by omega),if_pos (by omega)]
  congr 1;omega
 rw [this]
 simp [ao]
noncomputable def kids (T:Nat->Nat->Nat) (st:List Nat) (p:Nod):List Nod:=(st.filter fun s => !decide (T (uW p.2) s∈p.2)).map fun s=>(p.1 ++ [s],p.2 ++ [T (uW p.2) s])
noncomputable def EV (T:Nat->Nat->Nat) (st:List Nat) (L:Nod->List (List Nat)):Nat->Nod->List (List Nat)
 | 0,p=>L p
 | k+1,p=>(kids T st p).flatMap (EV T st L k)
section
variable {m:Nat}{T:Nat->Nat->Nat}{st:List Nat}{S x:Sto}{F:List (List Nat)}{ln:List Nod}{ρ:Rho}
end
noncomputable def DN (b:Nat):Nat->Nat
 | 0=>1
 | k+1=>1+b*DN b k
noncomputable def msr (b m:Nat) (ln:List Nod):Nat:=(ln.map fun p=>DN b (m - 1 - p.1.length)).sum
noncomputable def rest (T:Nat->Nat->Nat) (st:List Nat) (L:Nod->List (List Nat)) (m:Nat) (ln:List Nod):List (List Nat):=ln.reverse.flatMap fun p=>EV T st L (m - 1 - p.1.length) p
structure Nd (m:Nat) (p:Nod):Prop where
 le:p.1.length<=m - 1
 len:p.2.length=p.1.length+1
 lt : ∀ x∈p.2,x < m
section
variable {m:Nat}{T:Nat->Nat->Nat}{st:List Nat}{L:Nod->List (List Nat)}{ln:List Nod}{p:Nod}
end
end
end W
end
section
namespace W
open L2 G
section
theorem IL {ρ:Rho}{S S1 S2:Sto}{a b:ME}{x y:Nat} (ha:a ρ S=some (.int x,S1)) (hb:b ρ S1=some (.int y,S2)):mFn mE (aa a (aa b ai)) ρ S=some (.int (min x y:Nat),S2):=by
 refine dn ha hb ?_
 show some (U.int (if (y:Int) < x then (y:Int) else x),S2)=_
 congr 3
 split <;> omega
section
variable {m:Nat}{T:Nat->Nat->Nat}{st:List Nat}{S:Sto}
structure Sv (m:Nat) (T:Nat->Nat->Nat) (st:List Nat) (L:Nod->List (List Nat)) (F:List (List Nat)) (ln:List Nod) (μ:Nat):Prop where
 nd : ∀ p∈ln,Nd m p
 tot:F++rest T st L m ln=EV T st L (m - 1) ([],[0])
 ms:msr st.length m ln<=μ
 bd:μ<=30000
theorem xK {ρ:Rho}{S S1:Sto}{o a:ME}{r k:Nat}{us ws:List U} (ho:o ρ S=some (.ref r,S)) (ha:a ρ S=some (.ref k,S1)) (hr:S[r]? = some (Cell.lst us)) (hr1:S1[r]? = some (Cell.lst us)) (hk:S1[k]? = some (Cell.lst ws)) (hl:us.length+ws.length<=big) :
  cy (mML iJ o (aa a ai)) ρ S=some (.nx,ρ,S1.set r (.lst (us++ws))):=by
 simp only [cy,mML,ho,aD,getL,hr,ah,aa,ai,ha,iJ,hr1,hk]
 rw [if_pos hl]
 simp only [aD]
end
end
end W
end
section
namespace W
open L2 G
section
theorem Ex.set {S S':Sto}{r:Nat}{c:Cell} (h:Ex S S') (hr:S.length<=r):Ex S (S'.set r c):=by
 obtain⟨t,rfl⟩:=h
 exact⟨t.set (r - S.length) c,by rw [cZ _ _ hr]⟩
section
variable {m:Nat}{T:Nat->Nat->Nat}{st:List Nat}
structure Lft (m:Nat) (th left:List Nat):Prop where
 nd:left.Nodup
 mem : ∀ y,y∈left↔y < m/\y∉th
end
structure Lng (ls:List (List Nat)):Prop where
 len:ls.length<=9000
 each : ∀ l∈ls,l.length<=8
 lt : ∀ l∈ls,∀ x∈l,x < 1000
open PySem in
open PySem in
section
variable {m:Nat}{T:Nat->Nat->Nat}{st:List Nat}{S:Sto}
end
end
end W
end
section
namespace W
open L2 G
section
abbrev Rds:=List (Nat×List Nat)
noncomputable def kF (ks:Rds):List Nat:=ks.map Prod.fst
noncomputable def dN (ks:Rds):List (L2.Key×U):=ks.map fun p=>(dF (p.1:Int),U.tup (ao p.2))
theorem A2 {ks:Rds}{x:Nat}:nI (dN ks) (.inl (x:Int))=decide (x∈kF ks):=by
 have:nI (dN ks) (.inl (x:Int))=true↔x∈kF ks:=by
  rw [mH]
  unfold dN kF
  constructor
  ·rintro ⟨kv,hm,e⟩
   obtain⟨y,hy,rfl⟩:=aQ.mp hm
   have e':(y.1:Int)=x:=pQ e
   exact aQ.mpr ⟨y,hy,by omega⟩
  ·intro h
   obtain⟨y,hy,rfl⟩:=aQ.mp h
   exact⟨_,aQ.mpr ⟨y,hy,rfl⟩,rfl⟩
 by_cases h:x∈kF ks
 ·rw [this.mpr h];simp [h]
 ·cases q:nI (dN ks) (.inl (x:Int)) with
  | true=>exact absurd (this.mp q) h
  | false=>simp [h]
theorem Jo {ks:Rds}{x:Nat}{w:List Nat} (h:x∉kF ks):iT (dN ks) (.inl (x:Int)) (.tup (ao w))=dN (ks ++ [(x,w)]):=by
 unfold iT
 rw [if_neg]
 ·simp [dN]
 ·intro z
  obtain⟨kv,hm,e⟩:=d5.mp z
  have:nI (dN ks) (.inl (x:Int))=true:=mH.mpr ⟨kv,hm,of_decide_eq_true e⟩
  rw [A2] at this
  exact h (of_decide_eq_true this)
theorem x8 (ks:Rds):(dN ks).length=ks.length:=by simp [dN]
theorem pd : ∀ (ks:Rds),cQ ll (dN ks)=some (fP (kF ks))
 | []=>rfl
 | x::l=>by
   show (ll (dF (x.1:Int),U.tup (ao x.2))).bind _=_
   simp only [ll,ah]
   rw [show pX (fun (p:Nat×List Nat)=>(dF (p.1:Int),U.tup (ao p.2))) l=dN l from rfl,pd l]
   rfl
noncomputable def fW (ks:Rds) (x:Nat):List Nat:=((ks.find? fun p=>decide (p.1=x)).map Prod.snd).getD []
theorem DJ {x:Nat} : ∀ {ks:Rds},x∈kF ks->hG (dN ks) (.inl (x:Int))=some (.tup (ao (fW ks x)))
 | [],h=>by simp [kF] at h
 | p::ks,h=>by
   unfold hG fW dN
   rw [bz,bF,bF]
   by_cases e:p.1=x
   ·have:(dF (p.1:Int):L2.Key) = .inl (x:Int):=by rw [e]
    simp [e]
   ·have e1 : ¬ ((dF (p.1:Int):L2.Key) = .inl (x:Int)):=fun z=>e (by have:=pQ z;omega)
    simp only [decide_eq_false e,decide_eq_false e1]
    have h':x∈kF ks:=by
     rcases aG.mp (show x∈p.1::kF ks from h) with z | z
     ·exact absurd z.symm e
     ·exact z
    exact DJ (ks:=ks) h'
theorem lz {x:Nat} : ∀ {ks:Rds},x∈kF ks->(x,fW ks x)∈ks
 | [],h=>by simp [kF] at h
 | p::ks,h=>by
   unfold fW
   rw [bF]
   by_cases e:p.1=x
   ·rw [decide_eq_true e]
    show (x,p.2)∈p::ks
    rw [<- e];exact aV
   ·have h':x∈kF ks:=by
     rcases aG.mp (show x∈p.1::kF ks from h) with z | z
     ·exact absurd z.symm e
     ·exact z
    rw [decide_eq_false e]
    exact az _ (lz (ks:=ks) h')
structure Rd (T:Nat->Nat->Nat) (ths:List Nat) (ks:Rds):Prop where
 go : ∀ p∈ks,yg T p.2=p.1
 by' : ∀ p∈ks,∀ y∈p.2,y∈ths
 len : ∀ p∈ks,p.2.length < ks.length
section
variable {m:Nat}{T:Nat->Nat->Nat}{ths:List Nat}{S x:Sto}{v:U}
noncomputable def d9 (S:Sto) (p:Rds×List Nat) (x:Sto):Sto:=S ++ [.dic (dN p.1),.lst (ao p.2)]++x
noncomputable def wm (T:Nat->Nat->Nat) (h y:Nat) (p:Rds×List Nat):Rds×List Nat:=if T h y∈kF p.1 then p else (p.1 ++ [(T h y,fW p.1 h ++ [y])],p.2 ++ [T h y])
noncomputable def cvR (p:Rds×List Nat):List Nat×List Nat:=(kF p.1,p.2)
theorem CP {h y:Nat}{p:Rds×List Nat}:cvR (wm T h y p)=tryD T h y (cvR p):=by
 by_cases e:T h y∈kF p.1
 ·rw [wm,if_pos e,tryD,if_pos (show T h y∈(cvR p).1 from e)]
 ·rw [wm,if_neg e,tryD,if_neg (show ¬ T h y∈(cvR p).1 from e)]
  simp [cvR,kF]
theorem BZ {h y:Nat}{p:Rds×List Nat} (hr:Rd T ths p.1) (hh:h∈kF p.1) (hy:y∈ths):Rd T ths (wm T h y p).1:=by
 unfold wm
 split
 ·exact hr
 ·have hm:=lz hh
  refine⟨fun q hq => ?_,fun q hq => ?_,fun q hq => ?_⟩
  ·rcases bx.mp hq with hq | hq
   ·exact hr.go q hq
   ·simp at hq;subst hq
    show yg T (fW p.1 h ++ [y])=T h y
    have:=hr.go _ hm
    unfold yg at this ⊢
    rw [List.foldl_append,this];rfl
  ·rcases bx.mp hq with hq | hq
   ·exact hr.by' q hq
   ·simp at hq;subst hq
    intro z hz
    rcases bx.mp hz with hz | hz
    ·exact hr.by' _ hm z hz
    ·simp at hz;rw [hz];exact hy
  ·rw [bE]
   rcases bx.mp hq with hq | hq
   ·have:=hr.len q hq;simp;omega
   ·simp at hq;subst hq
    have:=hr.len _ hm
    simp at this ⊢;omega
theorem FJ {ρ:Rho}{S S1 S2:Sto}{a b:ME}{r:Nat}{y:Nat}{kvs:List (L2.Key×U)}{u:U} (ha:a ρ S=some (.ref r,S1)) (hb:b ρ S1=some (.int (y:Nat),S2)) (hr:S2[r]? = some (Cell.dic kvs)) (h:hG kvs (.inl (y:Int))=some u):m2 oIx a b ρ S=some (u,S2):=
 op2 ha hb (by simp only [oIx,fi,hr,keyOf,ah,h,aT])
theorem DW {ρ:Rho}{S:Sto}{o i e:ME}{r:Nat}{z:Int}{u:U}{kvs:List (L2.Key×U)} (he:e ρ S=some (u,S)) (ho:o ρ S=some (.ref r,S)) (hi:i ρ S=some (.int z,S)) (hr:S[r]? = some (Cell.dic kvs)) (hl:kvs.length < big):dy o i e ρ S=some (.nx,ρ,S.set r (.dic (iT kvs (.inl z) u))):=by
 simp only [dy,he,aD,ho,hi,hr,keyOf,ah,hl,if_true]
noncomputable def mZ:MS:=ba (bC 6 (m2 oIx (m2 oIx (ab 0) (ab 4)) (ab 5))) (sIf (cOf (m2 fX (ab 6) (ab 2))) (ba (dy (ab 2) (ab 6) (m2 cW (m2 oIx (ab 2) (ab 4)) (ft (aa (ab 5) ai)))) (cy (mML bH (ab 3) (aa (ab 6) ai)))) cJ)
noncomputable def Ef:MS:=ba (bC 4 (mML so (ab 3) ai)) (dD 5 (cM (ab 1)) mZ)
noncomputable def wK:MS:=ba (bC 2 (pE (mC (.int 0)) (ft ai))) (ba (bC 3 (cm (aa (mC (.int 0)) ai))) (ba (gU Ay Ef) (cK (ab 2))))
noncomputable def spM:MS:=cK (mFn bG (aa (mFn dR (aa (mFn (G.run 2 7 wK) (aa (ab 0) (aa (ab 1) ai))) ai)) ai))
theorem xW {c:Option U}{h y:Nat}{p:Rds×List Nat} (hh:h < m) (hy:y < m) (hk:h∈kF p.1) (hr:Rd T ths p.1) (l1:p.1.length < 1000) (l2:p.2.length < big) :
  mZ (spR m T v S [some (.int h),some (.int y),c]) (d9 S p x)=some (.nx,spR m T v S [some (.int h),some (.int y),some (.int (T h y:Nat))],d9 S (wm T h y p) x):=by
 have e6:m2 oIx (m2 oIx (ab 0) (ab 4)) (ab 5) (spR m T v S [some (.int h),some (.int y),c]) (d9 S p x)=some (.int (T h y:Nat),d9 S p x):=iP hy (ip hh (var_eq rfl) (var_eq rfl)) (var_eq rfl)
 refine (aO (bq e6)).trans ?_
 show sIf _ _ _ (spR m T v S [some (.int h),some (.int y),some (.int (T h y:Nat))]) (d9 S p x)=_
 have ec:=rW (ρ:=spR m T v S [some (.int h),some (.int y),some (.int (T h y:Nat))]) (a:=ab 6) (b:=ab 2) (x:=T h y) (var_eq rfl) (var_eq rfl) (show (d9 S p x)[S.length]? = _ from h0)
 rw [A2] at ec
 unfold wm
 by_cases hin:T h y∈kF p.1
 ·rw [if_pos hin]
  rw [decide_eq_true hin] at ec
  exact kK ec
 ·rw [if_neg hin]
  rw [decide_eq_false hin] at ec
  refine (mI ec).trans ?_
  have hrl:=hr.len _ (lz hk)
  have ea:m2 cW (m2 oIx (ab 2) (ab 4)) (ft (aa (ab 5) ai)) (spR m T v S [some (.int h),some (.int y),some (.int (T h y:Nat))]) (d9 S p x)=some (.tup (ao (fW p.1 h ++ [y])),d9 S p x):=Hw (x:=fW p.1 h) (y := [y]) (FJ (y:=h) (var_eq rfl) (var_eq rfl) (show (d9 S p x)[S.length]? = _ from h0) (DJ hk)) (En (var_eq rfl)) (by simp at hrl ⊢;omega)
  have e1:=DW (o:=ab 2) (i:=ab 6) ea (var_eq rfl) (var_eq rfl) (show (d9 S p x)[S.length]? = _ from h0) (by rw [x8];unfold big;omega)
  rw [Jo hin,show (d9 S p x).set S.length (.dic (dN (p.1 ++ [(T h y,fW p.1 h ++ [y])])))=d9 S (p.1 ++ [(T h y,fW p.1 h ++ [y])],p.2) x from t0] at e1
  refine (aO e1).trans ?_
  have e2:=append_eq (ρ:=spR m T v S [some (.int h),some (.int y),some (.int (T h y:Nat))]) (o:=ab 3) (a:=ab 6) (var_eq rfl) (var_eq rfl) (show (d9 S (p.1 ++ [(T h y,fW p.1 h ++ [y])],p.2) x)[S.length+1]? = _ from h1) h1 (by rw [bM];exact l2)
  rw [show (d9 S (p.1 ++ [(T h y,fW p.1 h ++ [y])],p.2) x).set (S.length+1) _=S ++ [.dic (dN (p.1 ++ [(T h y,fW p.1 h ++ [y])])),_]++x from t1] at e2
  rw [e2]
  simp [d9,ao]
theorem Cr {a b c:Option U}{h μ:Nat}{p:Rds×List Nat} (g:Grp m T) (hm:m < 64) (hμ:μ < 1000) (ht : ∀ z∈ths,z < m) (hv:Wk S v ths) (n:Inn m T ths h 0 (cvR p) μ) (hr:Rd T ths p.1) :
  ∃ b' c' q,dD 5 (cM (ab 1)) mZ (spR m T v S [some (.int h),b,c]) (d9 S p x)=some (.nx,spR m T v S [some (.int h),b',c'],d9 S q x)/\Inn m T ths h ths.length (cvR q) μ/\Rd T ths q.1:=by
 have hh:h < m:=n.d.lt h n.hk
 have stp : ∀ (k:Nat) (u:U) (ρ:Rho) (S':Sto),(ao ths)[k]? = some u->(∃ b c q,S'=d9 S q x/\ρ=spR m T v S [some (.int h),b,c]/\Inn m T ths h k (cvR q) μ/\Rd T ths q.1) -> ∃ ρ' S'',mZ (ρ.set 5 (some u)) S'=some (.nx,ρ',S'') /\ ∃ b c q,S''=d9 S q x/\ρ'=spR m T v S [some (.int h),b,c]/\Inn m T ths h (k+1) (cvR q) μ/\Rd T ths q.1:=by
  rintro k u ρ S' hu ⟨b,c,q,rfl,rfl,q3,q4⟩
  obtain⟨y,hy,rfl⟩:=i0 hu
  have l:=q3.st_le hμ hm
  have hym:=bL hy
  have l1:q.1.length < 1000:=by have:=q3.d.len;simp only [cvR,kF,aq] at this;omega
  refine⟨_,_,xW (S:=S) (x:=x) (v:=v) (c:=c) hh (ht y hym) q3.hk q4 l1 l.2,_,_,_,rfl,rfl,?_,BZ q4 q3.hk hym⟩
  rw [CP]
  exact q3.try g ht hy
 rcases hv with rfl | ⟨r,rfl,hr1,hl⟩
 ·obtain⟨ρ',S',e,b',c',q,rfl,rfl,q3,q4⟩:=o3 (i:=5) (b:=mZ) (e:=ab 1) (ρ:=spR m T (.tup (ao ths)) S [some (.int h),b,c]) (S:=d9 S p x) (us:=ao ths) (var_eq rfl) _ ⟨b,c,p,rfl,rfl,n,hr⟩ stp
  rw [bM] at q3
  exact⟨b',c',q,e,q3,q4⟩
 ·have hrl:=(ae.mp hr1).1
  obtain⟨ρ',S',e,b',c',q,rfl,rfl,q3,q4⟩:=z7 (i:=5) (b:=mZ) (e:=ab 1) (ρ:=spR m T (.ref r) S [some (.int h),b,c]) (S:=d9 S p x) (us:=ao ths) (var_eq rfl) (by rw [bM];omega) _ ⟨b,c,p,rfl,rfl,n,hr⟩
   (by
    rintro k ρ S' ⟨b,c,q,rfl,_⟩
    unfold getL d9
    rw [aN,aM hrl,hr1]) stp
  rw [bM] at q3
  exact⟨b',c',q,e,q3,q4⟩
theorem Ab (g:Grp m T) (hm:m < 64) (ht : ∀ z∈ths,z < m) (hv:Wk S v ths) : ∃ ks S',G.run 2 7 wK [tab m T,v] S=some (.ref S.length,S')/\Ex S S'/\S'[S.length]? = some (.dic (dN ks))/\Dfs m T ths (kF ks) (fun _=>False)/\Rd T ths ks:=by
 have hp:=g.pos
 obtain⟨ρ',S1,e1,⟨r,ks,x,rfl,rfl,d,hr⟩⟩:=oi (c:=Ay) (b:=Ef) (fun μ ρ S' => ∃ a b c p x,ρ=spR m T v S [a,b,c]/\S'=d9 S p x/\vz m T ths (kF p.1) p.2 μ/\μ < 1000/\Rd T ths p.1)
  (fun ρ S' => ∃ r ks x,ρ=spR m T v S r/\S'=d9 S (ks,[]) x/\Dfs m T ths (kF ks) (fun _=>False)/\Rd T ths ks) (by
  rintro μ ρ S' ⟨a,b,c,p,x,rfl,rfl,s,hμ,hr⟩
  have ec:Ay (spR m T v S [a,b,c]) (d9 S p x)=some (decide ((0:Int) < (ao p.2).length),d9 S p x):=of_eq (Bn (uM (var_eq rfl) h1) c_i)
  refine⟨_,_,ec,fun hf => ?_,fun hf => ?_⟩
  ·have h2:p.2 = []:=by
    have:=of_decide_eq_false hf
    rw [bM] at this
    exact List.length_eq_zero_iff.mp (by omega)
   refine⟨_,p.1,x,rfl,by rw [<- h2],?_,hr⟩
   have:=s.d
   rw [h2] at this
   exact⟨this.nd,this.lt,this.z,this.rc,fun x hx=>(this.cl x hx).imp (by simp) id⟩
  ·have h2:p.2 ≠ []:=fun e=>by rw [e] at hf;simp [ao] at hf
   obtain⟨st,h,e⟩:=xp h2
   obtain⟨ks,s2⟩:=p
   subst e
   cases μ with
   | zero=>have:=s.ms;simp at this
   | succ μ=>
   have e4:bC 4 (mML so (ab 3) ai) (spR m T v S [a,b,c]) (d9 S (ks,st ++ [h]) x)=some (.nx,spR m T v S [some (.int h),b,c],d9 S (ks,st) x):=by
    rw [bq (i:=4) (Cu (ρ:=spR m T v S [a,b,c]) (S:=d9 S (ks,st ++ [h]) x) (o:=ab 3) (r:=S.length+1) (var_eq rfl) h1)]
    rw [show (d9 S (ks,st ++ [h]) x).set (S.length+1) (Cell.lst (ao st))=d9 S (ks,st) x from t1]
    rfl
   obtain⟨b',c',q,e5,i,hq⟩:=Cr (S:=S) (x:=x) (a:=a) (b:=b) (c:=c) (p:=(ks,st)) g hm (by omega) ht hv s.pop hr
   exact⟨_,_,μ,cg _,(aO e4).trans e5,_,_,_,q,x,rfl,rfl,i.done,by omega,hq⟩) fuel (2*m) (spR m T v S [none,none,none]) (d9 S ([(0,[])],[0]) []) (by unfold fuel;omega) ⟨_,_,_,([(0,[])],[0]),[],rfl,rfl,vz.start hp,by omega,⟨fun p hp=>by simp at hp;subst hp;rfl,fun p hp=>by simp at hp;subst hp;simp,fun p hp=>by simp at hp;subst hp;simp⟩⟩
 refine⟨ks,_,cw (ρ:=spR m T v S r) rfl ?_,?_,(show (d9 S (ks,[]) x)[S.length]? = _ from h0),d,hr⟩
 ·show wK [some (tab m T),some v,none,none,none,none,none] S=_
  have ed:pE (mC (.int 0)) (ft ai) [some (tab m T),some v,none,none,none,none,none] S=some (.ref S.length,S ++ [.dic (dN [(0,[])])]):=by
   simp [pE,mC,ft,ai,aD,keyOf,dN,ao]
  refine (aO (bq ed)).trans ((aO (bq (zd c_i))).trans ?_)
  refine (aO (ρ1:=spR m T v S r) (S1:=d9 S (ks,[]) x) ?_).trans (cj (var_eq rfl))
  rw [<- e1]
  simp [gU,d9,spR,ao]
 ·unfold d9;rw [aN];exact⟨_,rfl⟩
theorem F7 (g:Grp m T) (hm:m < 64) (ht : ∀ z∈ths,z < m) (hv:Wk S v ths) : ∃ ks S',G.run 2 2 spM [tab m T,v] S=some (.tup (ao (srt ks)),S')/\Ex S S'/\Dfs m T ths ks fun _=>False:=by
 obtain⟨ks,S1,e1,x1,q1,d,_⟩:=Ab (v:=v) g hm ht hv
 have hl:(kF ks).length < 64:=pO d.len hm
 have e2:mFn dR (aa (mFn (G.run 2 7 wK) (aa (ab 0) (aa (ab 1) ai))) ai) [some (tab m T),some v] S=some (.ref S1.length,S1 ++ [.lst (ao (srt (kF ks)))]):=fQ (dn (var_eq rfl) (var_eq rfl) e1) (uw (by simp only [qH,fi,q1,pd]) hl)
 exact⟨kF ks,_,cw (ρ := [some (tab m T),some v]) rfl (cj (eF e2)),x1.trans (Ex.push _ _),d⟩
theorem Iz (g:Grp m T) (hm:m < 64) (ht : ∀ z∈ths,z < m) : ∃ ks S',G.run 2 2 spM [tab m T,.tup (ao ths)] S=some (.tup (ao (srt ks)),S')/\Ex S S'/\Dfs m T ths ks fun _=>False:=F7 g hm ht (.inl rfl)
end
end
end W
end
section
namespace W
open L2 G
section
section
variable {m:Nat}{T:Nat->Nat->Nat}
abbrev Lt (m:Nat) (w:List Nat):Prop := ∀ x∈w,x < m
theorem DB (g:Grp m T) {x:Nat} (hx:x < m):unT m T x < m:=(hJ g hx).1
theorem JT (g:Grp m T) {x:Nat} (hx:x < m):T x (unT m T x)=0:=(hJ g hx).2.1
noncomputable def pre (T:Nat->Nat->Nat) (w:List Nat):List Nat:=(ar w.length).map fun k=>yg T (w.take k)
structure All (m:Nat) (l:List Nat):Prop where
 nd:l.Nodup
 lt:Lt m l
 len:l.length=m
theorem All.mem {l:List Nat} (h:All m l) {x:Nat} (hx:x < m):x∈l:=by
 apply cP
 intro z
 have:=oK m (x::l) (dq.mpr ⟨z,h.nd⟩) (fun y hy=>(aG.mp hy).elim (fun e=>e▸hx) (h.lt y))
 have:=h.len
 simp at *
 omega
theorem All.map {f:Nat->Nat}{l:List Nat} (h:All m l) (lt : ∀ x,x < m->f x < m) (inj : ∀ x y,x < m->y < m->f x=f y->x=y):All m (l.map f):=by
 refine⟨?_,fun x hx => ?_,by simp [h.len]⟩
 ·rw [dC,jH]
  exact eT (fun ha hb hab e=>hab (inj _ _ (h.lt _ ha) (h.lt _ hb) e)) (dC.mp h.nd)
 ·obtain⟨y,hy,rfl⟩:=aQ.mp hx
  exact lt y (h.lt y hy)
structure Rnd (m:Nat) (T:Nat->Nat->Nat) (w:List Nat):Prop where
 home:yg T w=0
 all:All m (pre T w)
structure Gd (T:Nat->Nat->Nat) (st:List Nat) (p:Nod):Prop where
 pl:p.2=plc T p.1
 nd:p.2.Nodup
 by' : ∀ x∈p.1,x∈st
end
theorem Er {ρ:Rho}{S S1 S2:Sto}{a b:ME}{x y:Bool} (ha:a ρ S=some (.bl x,S1)) (hb:x=true->b ρ S1=some (.bl y,S2)) (hf:x=false->S2=S1):tF a b ρ S=some (.bl (x&&y),S2):=by
 cases x with
 | true=>simp only [tF,ha,aD,hb rfl,Bool.true_and]
 | false=>simp only [tF,ha,aD,hf rfl,Bool.false_and]
theorem Kc {ρ:Rho}{S S1 S2:Sto}{a b:ME}{x y:List Nat} (ha:a ρ S=some (.tup (ao x),S1)) (hb:b ρ S1=some (.tup (ao y),S2)):m2 oEq a b ρ S=some (.bl (decide (x=y)),S2):=
 op2 ha hb (by simp only [oEq,CI,aT])
section
variable {m:Nat}{T:Nat->Nat->Nat}{st w:List Nat}{S:Sto}
theorem AC {ρ:Rho}{S:Sto}{e a:ME}{l:List Nat}{f:Nat->U} (ha:a ρ S=some (.tup (ao l),S)) (hl:l.length < 10000000) (he : ∀ x∈l,e (ρ ++ [some (.int x)]) S=some (f x,S)):bX (cM a) cTT e ρ S=some (.ref S.length,S ++ [.lst (l.map f)]):=by
 have h:=vL (t:=cTT) (e:=e) (ρ:=ρ) (S:=S) (a:=a) (l:=l) (p:=fun _=>true) (f:=f) ha (by unfold big;omega) (fun _ _=>rfl) (fun x hx _=>he x hx)
 rwa [List.filter_eq_self.mpr (fun _ _=>rfl)] at h
end
end
end W
end
section
namespace W
open L2 G
section
section
variable {m:Nat}{T:Nat->Nat->Nat}
structure Sn (m:Nat) (T:Nat->Nat->Nat) (p:List Nat):Prop where
 lt:Lt m p
 nd:(plc T p).Nodup
 cl : ∀ x∈plc T p,∀ y∈plc T p,T x y∈plc T p
end
section
variable {m:Nat}{T:Nat->Nat->Nat}{S:Sto}
abbrev Pln (m:Nat) (T:Nat->Nat->Nat):Prop := ∀ i j,i < m->j < m->T i j=T j i
theorem Jg {ρ:Rho}{S S1 S2:Sto}{a b:ME}{s k:Nat} (ha:a ρ S=some (.tup (ao [s]),S1)) (hb:b ρ S1=some (.int (k:Nat),S2)) (hk:k < 1000):m2 d6 a b ρ S=some (.tup (ao (aE k s)),S2):=by
 refine op2 ha hb ?_
 have h:xi (ao [s]).length (k:Int):=⟨by omega,by omega,by simp [ao],by simp [ao]⟩
 simp only [d6,if_pos h,jI]
 congr 2
 simp [ao]
end
end
end W
end
section
namespace W
open L2 G
section
section
variable {m:Nat}{T:Nat->Nat->Nat}{S:Sto}
structure Pg (n most:Nat) (S0:Sto) (ρ:Rho) (S:Sto):Prop where
 h : ∃ m T,ρ = [some (.ref n),some (.int (most:Nat)),some (tab m T)]/\Grp m T/\Pln m T/\m<=most
 st:Stp n S0 S
end
end
end W
end
section
namespace W
open L2 G
section
end
end W
end
section
namespace W
open L2 G
section
inductive Smp:U->Prop where
 | non:Smp .non
 | bl (b:Bool):Smp (.bl b)
 | int (i:Int):Smp (.int i)
 | str (x:PySem.Str):Smp (.str x)
 | tup (us:List U):Smp (.tup us)
inductive Thg (S:Sto):U->Prop where
 | non:Thg S .non
 | bl (b:Bool):Thg S (.bl b)
 | int (i:Int):Thg S (.int i)
 | str (x:PySem.Str):Thg S (.str x)
 | tup {us:List U} (h : ∀ v∈us,Smp v) (hl:us.length < 64):Thg S (.tup us)
 | lst {n:Nat}{xs:List U} (h:S[n]? = some (Cell.lst xs)):Thg S (.ref n)
 | dic {n:Nat}{kv:List (L2.Key×U)} (h:S[n]? = some (Cell.dic kv)):Thg S (.ref n)
end
end W
end
section
namespace W
open L2 G
section
section
variable {m:Nat}{T:Nat->Nat->Nat}{S:Sto}{u:U}{st:List Nat}
theorem mc {ρ:Rho}{S1 S2:Sto}{a:ME}{r:MA}{x:U}{xs:List U} (ha:a ρ S=some (x,S1)) (hr:r ρ S1=some (xs,S2)):aa a r ρ S=some (x::xs,S2):=by simp only [aa,ha,hr,aD]
theorem ml {ρ:Rho}{S1:Sto}{r:MA}{xs:List U} (h:r ρ S=some (xs,S1)) (hl:xs.length < 1000):cm r ρ S=some (.ref S1.length,S1 ++ [.lst xs]):=by
 have:xs.length<=big:=by unfold big;omega
 simp only [cm,h,aD,this,if_true]
theorem u9 : ∀ (a b:List Nat),a.Nodup->(∀ x∈a,x∈b)->b.length<=a.length->a.Perm b
 | [],b,_,_,h=>by
   have e:b = []:=dk (by simpa using h)
   rw [e]
 | x::a,b,h,hs,hl=>by
   have hx:=hs x (by simp)
   have h2:=List.length_erase_of_mem hx
   have h1:=u9 a (b.erase x) (dq.mp h).2 (fun y hy=>(List.mem_erase_of_ne (fun e:y=x=>(dq.mp h).1 (by rw [<- e];exact hy))).mpr (hs y (az _ hy))) (by simp only [cz] at hl;omega)
   exact (h1.cons x).trans (List.perm_cons_erase hx).symm
end
end
end W
end
section
namespace W
open L2 G
section
noncomputable def itF (f:Nat->Nat):Nat->Nat->Nat
 | 0,x=>x
 | k+1,x=>f (itF f k x)
structure Inj (m:Nat) (f:Nat->Nat):Prop where
 lt : ∀ x,x < m->f x < m
 inj : ∀ x y,x < m->y < m->f x=f y->x=y
section
variable {m:Nat}{f:Nat->Nat}
theorem jr (h:Inj m f) {x:Nat} (hx:x < m) : ∀ k,itF f k x < m
 | 0=>hx
 | k+1=>h.lt _ (jr h hx k)
theorem sr {x:Nat} (j:Nat) : ∀ k,itF f (k+j) x=itF f k (itF f j x)
 | 0=>by rw [dj];rfl
 | k+1=>by rw [Nat.add_right_comm];show f (itF f (k+j) x)=f _;rw [sr j k]
theorem si (h:Inj m f) {x y:Nat} (hx:x < m) (hy:y < m) : ∀ k,itF f k x=itF f k y->x=y
 | 0,e=>e
 | k+1,e=>si h hx hy k (h.inj _ _ (jr h hx k) (jr h hy k) e)
noncomputable def j9 (m:Nat) (f:Nat->Nat) (x:Nat):Nat:=((ar m).find? fun k=>decide (itF f (k+1) x=x)).getD 0+1
theorem jU (h:Inj m f) {x:Nat} (hx:x < m):1<=j9 m f x/\j9 m f x<=m/\itF f (j9 m f x) x=x /\ ∀ k,1<=k->k < j9 m f x->itF f k x≠x:=by
 obtain⟨i,j,hij,hj,e⟩:=AS (m:=m) (f:=fun k=>itF f k x) fun i _=>jr h hx i
 have e1:itF f (j - i) x=x:=by
  have e:itF f i x=itF f j x:=e
  rw [show j=i+(j - i) by omega,sr] at e
  exact (si h hx (jr h hx _) i e).symm
 unfold j9
 cases q:(ar m).find? fun k=>decide (itF f (k+1) x=x) with
 | none=>
   have:=List.find?_eq_none.mp q (j - i - 1) (aU.mpr (by omega))
   rw [show j - i - 1+1=j - i by omega] at this
   simp [e1] at this
 | some i=>
   obtain⟨i1,i2,i3⟩:=List.find?_range_eq_some.mp q
   have i2:=aU.mp i2
   refine⟨by simp,by simp;omega,by simpa using i1,fun k k1 k2 z => ?_⟩
   simp at k2
   have:=i3 (k - 1) (by omega)
   rw [show k - 1+1=k by omega] at this
   simp [z] at this
noncomputable def rgK (f:Nat->Nat) (x k:Nat):List Nat:=(ar k).map fun i=>itF f i x
noncomputable def rg (m:Nat) (f:Nat->Nat) (x:Nat):List Nat:=rgK f x (j9 m f x)
theorem pk {x k:Nat}:rgK f x (k+1)=rgK f x k ++ [itF f k x]:=by simp [rgK,dP]
theorem nX {x k:Nat}:(rgK f x k).length=k:=by simp [rgK]
theorem jO {x:Nat}:(rg m f x).length=j9 m f x:=nX
theorem Ad (h:Inj m f) {x:Nat} (hx:x < m):Lt m (rg m f x):=fun y hy=>by
 obtain⟨i,_,rfl⟩:=aQ.mp hy
 exact jr h hx i
theorem JK (h:Inj m f) {x:Nat} (hx:x < m):(rg m f x).Nodup:=by
 obtain⟨p1,p2,p3,p4⟩:=jU h hx
 unfold rg rgK
 rw [dC,jH]
 refine eT (R:=fun a b=>a < b) ?_ lh
 intro a b ha hb hab e
 have hb:=aU.mp hb
 rw [show b=a+(b - a) by omega,sr] at e
 have:=si h hx (jr h hx _) a e
 exact p4 (b - a) (by omega) (by omega) this.symm
theorem CW (h:Inj m f) {x:Nat} (hx:x < m):x∈rg m f x:=aQ.mpr ⟨0,aU.mpr (jU h hx).1,rfl⟩
theorem oO (h:Inj m f) {x:Nat} (hx:x < m):j9 m f x<=m:=(jU h hx).2.1
theorem Dw (h:Inj m f) {x:Nat} (hx:x < m):j9 m f x=m ↔ ∀ y,y < m->y∈rg m f x:=by
 constructor
 ·intro e y hy
  exact (All.mk (JK h hx) (Ad h hx) (by rw [jO,e])).mem hy
 ·intro hy
  have:=(u9 (ar m) (rg m f x) List.nodup_range (fun y q=>hy y (aU.mp q)) (by rw [jO,aY];exact oO h hx)).length_eq
  rw [aY,jO] at this
  exact this.symm
end
noncomputable def sdG (q:Nat->List Nat):Nat->List (List Nat)×List Nat
 | 0=>([],[])
 | k+1=>if k∈(sdG q k).2 then sdG q k else ((sdG q k).1 ++ [q k],(sdG q k).2++q k)
noncomputable def pcG (q:Nat->List Nat) (ext:Nat->Sto):Nat->List (List Nat)×List Nat×Sto
 | 0=>([],[],[])
 | k+1=>if k∈(pcG q ext k).2.1 then pcG q ext k else ((pcG q ext k).1 ++ [q k],(q k).foldl putN (pcG q ext k).2.1,(pcG q ext k).2.2++ext k)
theorem vD {q:Nat->List Nat}{ext:Nat->Sto} : ∀ k,(pcG q ext k).1=(sdG q k).1 /\ ∀ y,y∈(pcG q ext k).2.1↔y∈(sdG q k).2
 | 0=>⟨rfl,fun y=>Iff.rfl⟩
 | k+1=>by
   obtain⟨i1,i2⟩:=vD (q:=q) (ext:=ext) k
   by_cases h:k∈(sdG q k).2
   ·rw [pcG,sdG,if_pos h,if_pos ((i2 k).mpr h)];exact⟨i1,i2⟩
   ·rw [pcG,sdG,if_neg h,if_neg (fun z=>h ((i2 k).mp z))]
    refine⟨by show _++_=_++_;rw [i1],fun y => ?_⟩
    show y∈(q k).foldl putN (pcG q ext k).2.1↔y∈(sdG q k).2++q k
    rw [oz,i2,bx]
theorem rD {q:Nat->List Nat} : ∀ k,(sdG q k).1.length<=k
 | 0=>aj _
 | k+1=>by
   have:=rD (q:=q) k
   rw [sdG]
   split
   ·omega
   ·simp;omega
theorem AF {q:Nat->List Nat}{B:Nat} : ∀ k,(∀ i,i < k->(q i).length<=B)->(sdG q k).2.length<=k*B
 | 0,_=>b9 _
 | k+1,h=>by
   have h1:=AF (q:=q) (B:=B) k fun i hi=>h i (by omega)
   have h2:=h k (cg _)
   rw [sdG,je]
   split
   ·omega
   ·simp;omega
theorem zp {q:Nat->List Nat}{ext:Nat->Sto}{B:Nat} : ∀ k,(∀ i,i < k->(q i).length<=B)->(pcG q ext k).1.length<=k/\(pcG q ext k).2.1.length<=k*B
 | 0,_=>⟨aj _,b9 _⟩
 | k+1,h=>by
   obtain⟨h1,h3⟩:=zp (q:=q) (ext:=ext) (B:=B) k fun i hi=>h i (by omega)
   have h2:=h k (cg _)
   rw [pcG,je]
   split
   ·exact⟨by omega,by omega⟩
   ·refine⟨by simp;omega,?_⟩
    have:=lR (xs:=q k) (l:=(pcG q ext k).2.1)
    show ((q k).foldl putN (pcG q ext k).2.1).length<=_
    omega
theorem v5 {m:Nat}{q:Nat->List Nat}{ext:Nat->Sto}{S:Sto}{φ:MF} (hm:m < 64) (hr : ∀ k,k < m->(q k).length<=64) (hφ : ∀ i (S':Sto),i < m->Ex S S'->φ [.int (i:Nat)] S'=some (.tup (ao (q i)),S'++ext i)) (g:kP) :
  G.run 2 7 (mq g φ) [.tup (ao (ar m)),.obj g] S=some (.ref S.length,bK S (pcG q ext m)):=by
 obtain⟨ρ1,S1,e1,⟨a,b,c,rfl⟩,e1'⟩:=o3 (i:=4) (e:=ab 0) (us:=ao (ar m)) (b:=oX g φ) (ρ := [some (.tup (ao (ar m))),some (.obj g),some (.ref S.length),some (.ref (S.length+1)),none,none,none]) (S:=bK S (pcG q ext 0)) (var_eq rfl)
  (fun k ρ S'=>(∃ a b c,ρ = [some (.tup (ao (ar m))),some (.obj g),some (.ref S.length),some (.ref (S.length+1)),a,b,c])/\S'=bK S (pcG q ext k)) ⟨⟨_,_,_,rfl⟩,rfl⟩ (by
   rintro k u ρ S' hu ⟨⟨a,b,c,rfl⟩,rfl⟩
   obtain⟨k',hk',rfl⟩:=i0 hu
   have hk:k < m:=by have:=(ae.mp hk').1;simpa using this
   rw [nF hk] at hk'
   cases hk'
   have bd:=zp (q:=q) (ext:=ext) (B:=64) k fun i hi=>hr i (by omega)
   have ec:=rW (ρ := [some (.tup (ao (ar m))),some (.obj g),some (.ref S.length),some (.ref (S.length+1)),some (.int k),b,c]) (a:=ab 4) (b:=ab 3) (x:=k) (var_eq rfl) (var_eq rfl) (show (bK S (pcG q ext k))[S.length+1]? = _ from h1)
   rw [pq] at ec
   by_cases hin:k∈(pcG q ext k).2.1
   ·rw [decide_eq_true hin] at ec
    refine⟨_,_,(kK ec).trans rfl,⟨_,_,_,rfl⟩,?_⟩
    rw [pcG,if_pos hin]
   ·rw [decide_eq_false hin] at ec
    have hex:Ex S (bK S (pcG q ext k)):=⟨_,by unfold bK;rw [aN]⟩
    have e5:vE 1 g φ (aa (ab 4) ai) [some (.tup (ao (ar m))),some (.obj g),some (.ref S.length),some (.ref (S.length+1)),some (.int k),b,c] (bK S (pcG q ext k))=some (.tup (ao (q k)),bK S (pcG q ext k)++ext k):=by
     show (if g=g then mFn φ (aa (ab 4) ai) _ _ else none)=_
     rw [if_pos rfl]
     exact fQ (var_eq rfl) (hφ k _ hk hex)
    have hx:bK S (pcG q ext k)++ext k=S ++ [.lst (tups (pcG q ext k).1),.dic (dE (pcG q ext k).2.1)]++((pcG q ext k).2.2++ext k):=by simp [bK]
    rw [hx] at e5
    have e6:=append_eq (ρ := [some (.tup (ao (ar m))),some (.obj g),some (.ref S.length),some (.ref (S.length+1)),some (.int k),some (.tup (ao (q k))),c]) (o:=ab 2) (a:=ab 5) (u := .tup (ao (q k))) (var_eq rfl) (var_eq rfl) (h0 (S:=S) (x:=(pcG q ext k).2.2++ext k) (c := .lst (tups (pcG q ext k).1)) (e := .dic (dE (pcG q ext k).2.1))) h0 (by simp only [tups,aq];unfold big;omega)
    rw [t0] at e6
    obtain⟨v,e7⟩:=qQ (S:=S) (x:=(pcG q ext k).2.2++ext k) (c := .lst (tups (pcG q ext k).1 ++ [.tup (ao (q k))])) (ρ := [some (.tup (ao (ar m))),some (.obj g),some (.ref S.length),some (.ref (S.length+1)),some (.int k),some (.tup (ao (q k))),c]) (xs:=q k) (l:=(pcG q ext k).2.1) rfl rfl rfl (by
     have:=hr k hk
     have h3:k*64<=64*64:=cD _ (by omega)
     unfold big;omega)
    refine⟨_,_,(mI ec).trans ((aO (bq e5)).trans ((aO e6).trans e7)),⟨_,_,_,rfl⟩,?_⟩
    rw [pcG,if_neg hin]
    simp [bK,tups])
 rw [bM,aY] at e1'
 subst e1'
 refine cw (ρ := [some (.tup (ao (ar m))),some (.obj g),some (.ref S.length),some (.ref (S.length+1)),a,b,c]) rfl ?_
 show mq g φ [some (.tup (ao (ar m))),some (.obj g),none,none,none,none,none] S=_
 have e2:jC [some (.tup (ao (ar m))),some (.obj g),some (.ref S.length),none,none,none,none] (S ++ [Cell.lst []])=some (.ref (S.length+1),bK S (pcG q ext 0)):=by
  simp [jC,bK,pcG,tups,dE]
 exact (aO (bq iK)).trans ((aO (bq e2)).trans ((aO e1).trans (cj (var_eq rfl))))
theorem nD {q:Nat->List Nat}{ext:Nat->Sto}{S:Sto}{m:Nat}:Ex S (bK S (pcG q ext m))/\(bK S (pcG q ext m))[S.length]? = some (Cell.lst (tups (sdG q m).1)):=by
 refine⟨⟨_,by unfold bK;rw [aN]⟩,?_⟩
 have:=h0 (S:=S) (x:=(pcG q ext m).2.2) (c := .lst (tups (pcG q ext m).1)) (e := .dic (dE (pcG q ext m).2.1))
 rw [(vD m).1] at this
 unfold bK
 rw [(vD m).1]
 exact this
theorem nc {q:Nat->List Nat} : ∀ {m:Nat},1<=m->(sdG q m).1[0]? = some (q 0)/\(∀ y,y∈q 0->y∈(sdG q m).2)
 | 0,h=>by omega
 | 1,_=>by simp [sdG]
 | m+2,_=>by
   obtain⟨h1,h2⟩:=nc (q:=q) (m:=m+1) (by omega)
   rw [sdG]
   split
   ·exact⟨h1,h2⟩
   ·refine⟨?_,fun y hy=>bA _ (h2 y hy)⟩
    rw [aM]
    ·exact h1
    ·exact (ae.mp h1).1
theorem wG {q:Nat->List Nat} : ∀ {m:Nat},1<=m->((sdG q m).1.length=1 ↔ ∀ y,y < m->0 < y->y∈q 0)/\((sdG q m).1.length=1->(sdG q m).2=q 0)
 | 0,h=>by omega
 | 1,_=>by
   refine⟨⟨fun _ y h1 h2=>by omega,fun _=>by simp [sdG]⟩,fun _=>by simp [sdG]⟩
 | m+2,_=>by
   obtain⟨h1,h2⟩:=wG (q:=q) (m:=m+1) (by omega)
   have h3:=(nc (q:=q) (m:=m+1) (by omega))
   have hpos:1<=(sdG q (m+1)).1.length:=(ae.mp h3.1).1
   rw [sdG]
   by_cases z:m+1∈(sdG q (m+1)).2
   ·rw [if_pos z]
    refine⟨⟨fun e y hy hy0 => ?_,fun hall=>h1.mpr fun y hy hy0=>hall y (by omega) hy0⟩,h2⟩
    by_cases hym:y=m+1
    ·subst hym;rw [h2 e] at z;exact z
    ·exact h1.mp e y (by omega) hy0
   ·rw [if_neg z]
    refine⟨⟨fun e => ?_,fun hall => ?_⟩,fun e => ?_⟩
    ·simp at e;rw [e] at hpos;simp at hpos
    ·exact absurd (h3.2 _ (hall (m+1) (by omega) (by omega))) z
    ·simp at e;rw [e] at hpos;simp at hpos
end
end W
end
namespace W
open PySem PySem.Spec L2 G
section
noncomputable def lB:MS:=ba (bC 2 (mFn j0 (aa (ab 0) (aa (ab 1) ai)))) (ba (sIf (cOf (m2 oLt (mFn bW (aa (ab 2) ai)) (mC (.int 3)))) (bC 2 (mFn cb (aa (m2 cW (mC (.int 3)) (mFn aX (aa (ab 0) (aa (m2 pD (ab 1) (mC (.int 2))) ai)))) ai))) cJ) (ba (bC 3 (gW (iR2 (aa (mC (.int 1)) (aa (mFn bW (aa (ab 2) ai)) ai))))) (ba (bC 4 (mML jv (ab 3) (aa (mFn aX (aa (ab 0) (aa (mFn bW (aa (ab 3) ai)) ai))) ai))) (ba (bC 5 (m2 oIx (ab 3) (mFn aX (aa (ab 0) (aa (mFn bW (aa (ab 3) ai)) ai))))) (cK (ft (aa (ab 2) (aa (ft (aa (mFn mE (aa (ab 4) (aa (ab 5) ai))) (aa (mFn p9 (aa (ab 4) (aa (ab 5) ai))) ai))) ai))))))))
noncomputable def fU:MF:=run 2 6 lB
noncomputable def jm:MS:=cK (m2 oIx (bX (iR1 (aa (mFn bW (aa (ab 0) ai)) ai)) (cOf (m2 oEq (m2 oIx (m2 oIx (ab 0) (ab 1)) (ab 2)) (mC (.int 0)))) (ab 2)) (mC (.int 0)))
noncomputable def gZ:MF:=run 2 2 jm
noncomputable def jR:MS:=ba (bC 2 (m2 oIx (m2 oIx (ab 0) (m2 oIx (ab 1) (mC (.int 0)))) (mFn gZ (aa (ab 0) (aa (m2 oIx (ab 1) (mC (.int 1))) ai))))) (ba (bC 3 (cm ai)) (ba (dD 4 (iR1 (aa (mFn bW (aa (ab 0) ai)) ai)) (ba (bC 5 (cm (aa (ab 4) ai))) (ba (gU (cOf (m2 oNe (m2 oIx (m2 oIx (ab 0) (m2 oIx (ab 5) (m1 h9 (mC (.int 1))))) (ab 2)) (ab 4))) (cy (mML bH (ab 5) (aa (m2 oIx (m2 oIx (ab 0) (m2 oIx (ab 5) (m1 h9 (mC (.int 1))))) (ab 2)) ai)))) (sIf (cOf (m2 oEq (mFn mE (aa (ab 5) ai)) (ab 4))) (cy (mML bH (ab 3) (aa (mFn bG (aa (mFn dR (aa (ab 5) ai)) ai)) ai))) cJ)))) (cK (ab 3))))
noncomputable def dQ:MF:=run 2 6 jR
noncomputable def nB:MS:=ba (bC 3 jC) (ba (kU (gTp 2 (dM (gN 4) (dM (gN 5) kT))) (rA (aa (mFn dQ (aa (ab 0) (aa (ab 1) ai))) (aa (ab 2) ai))) (dD 6 (cM (ab 4)) (dy (ab 3) (ab 6) (m2 oIx (ab 1) (ab 5))))) (cK (ab 3)))
noncomputable def iI:MF:=run 3 7 nB
noncomputable def nz:MS:=ba (bC 2 (cm ai)) (ba (bC 3 (cm ai)) (ba (dD 4 (iR1 (aa (mFn bW (aa (ab 0) ai)) ai)) (sIf (cOf (m2 fX (ab 4) (ab 3))) (ba (bC 5 (cm (aa (ab 4) ai))) (ba (gU (cOf (m2 oNe (m2 oIx (m2 oIx (ab 0) (m2 oIx (ab 5) (m1 h9 (mC (.int 1))))) (m2 oIx (ab 1) (m2 oIx (ab 5) (m1 h9 (mC (.int 1)))))) (ab 4))) (cy (mML bH (ab 5) (aa (m2 oIx (m2 oIx (ab 0) (m2 oIx (ab 5) (m1 h9 (mC (.int 1))))) (m2 oIx (ab 1) (m2 oIx (ab 5) (m1 h9 (mC (.int 1)))))) ai)))) (ba (cy (mML iJ (ab 3) (aa (ab 5) ai))) (cy (mML bH (ab 2) (aa (mFn bG (aa (ab 5) ai)) ai)))))) cJ)) (cK (ab 2))))
noncomputable def iF:MF:=run 2 6 nz
noncomputable def tN (g:kP) (φ:MF):MS:=ba (bC 2 (cm ai)) (ba (bC 3 jC) (ba (dD 4 (cM (ab 0)) (sIf (cOf (m2 fX (ab 4) (ab 3))) (ba (bC 5 (vE 1 g φ (aa (ab 4) ai))) (ba (cy (mML bH (ab 2) (aa (ab 5) ai))) (dD 6 (cM (ab 5)) (dy (ab 3) (ab 6) (mC (.bl true)))))) cJ)) (cK (ab 2))))
noncomputable def pJ (g:kP) (φ:MF):MF:=run 2 7 (tN g φ)
noncomputable def mF:MS:=cK (kX (iR1 (aa (mFn bW (aa (ab 0) ai)) ai)))
noncomputable def hC:MF:=run 1 1 mF
noncomputable def mJ:MS:=cK (jZ pJ 1 [0,1] (mFn bG (aa (mFn dR (aa (bX (cM (ab 2)) cTT (m2 oIx (m2 oIx (ab 1) (ab 0)) (ab 3))) ai)) ai)) (mFn hC (aa (ab 0) ai)))
noncomputable def ju:MF:=run 2 2 mJ
noncomputable def wW:MS:=ba (bC 2 (pE (mC (.int 0)) (ft ai))) (ba (bC 3 (cm (aa (mC (.int 0)) ai))) (ba (gU (cOf (m2 oGt (mFn bW (aa (ab 3) ai)) (mC (.int 0)))) (ba (bC 4 (mML so (ab 3) ai)) (dD 5 (cM (ab 1)) (ba (bC 6 (m2 oIx (m2 oIx (ab 0) (ab 4)) (ab 5))) (sIf (cOf (m2 fX (ab 6) (ab 2))) (ba (dy (ab 2) (ab 6) (m2 cW (m2 oIx (ab 2) (ab 4)) (ft (aa (ab 5) ai)))) (cy (mML bH (ab 3) (aa (ab 6) ai)))) cJ))))) (cK (ab 2))))
noncomputable def xt:MF:=run 2 7 wW
noncomputable def Av:MS:=cK (mFn bG (aa (mFn dR (aa (mFn xt (aa (ab 0) (aa (ab 1) ai))) ai)) ai))
noncomputable def v8:MF:=run 2 2 Av
noncomputable def pC:MS:=cK (mMT gq (m2 oIx (ab 0) (ab 1)) (aa (mC (.int 0)) ai))
noncomputable def oU:MF:=run 2 2 pC
noncomputable def mR:MS:=cK (m2 oIx (m2 oIx (ab 0) (m2 oIx (ab 1) (mC (.int 0)))) (mFn oU (aa (ab 0) (aa (m2 oIx (ab 1) (mC (.int 1))) ai))))
noncomputable def i5:MF:=run 2 2 mR
noncomputable def rT:MS:=cK (mFn ju (aa (ab 0) (aa (mFn v8 (aa (ab 0) (aa (ft (aa (mFn i5 (aa (ab 0) (aa (ab 1) ai))) ai)) ai))) ai)))
noncomputable def nT:MF:=run 2 2 rT
noncomputable def jN:MS:=ba (bC 3 jC) (ba (kU (gTp 2 (dM (gN 4) (dM (gN 5) kT))) (rA (aa (mFn nT (aa (ab 0) (aa (ab 1) ai))) (aa (ab 2) ai))) (dD 6 (cM (ab 4)) (dy (ab 3) (ab 6) (m2 oIx (ab 1) (ab 5))))) (cK (ab 3)))
noncomputable def dw:MF:=run 3 7 jN
noncomputable def nA:MS:=ba (bC 3 (cm (aa (ab 2) ai))) (ba (bC 4 (m2 oIx (m2 oIx (ab 0) (ab 2)) (m2 oIx (ab 1) (ab 2)))) (ba (gU (cOf (m2 oNe (ab 4) (ab 2))) (ba (cy (mML bH (ab 3) (aa (ab 4) ai))) (bC 4 (m2 oIx (m2 oIx (ab 0) (ab 4)) (m2 oIx (ab 1) (ab 4)))))) (cK (mFn bG (aa (ab 3) ai)))))
noncomputable def eB:MF:=run 3 5 nA
noncomputable def qO:MS:=ba (bC 3 (mFn dw (aa (ab 0) (aa (ab 1) (aa (ab 2) ai))))) (ba (bC 4 (mFn eB (aa (ab 0) (aa (ab 3) (aa (mC (.int 0)) ai))))) (cK (uR (cOf (m2 oEq (mFn bW (aa (ab 4) ai)) (mFn bW (aa (ab 0) ai)))) (mFn bG (aa (bX (cM (ab 4)) cTT (m2 oIx (ab 3) (ab 5))) ai)) (mC .non))))
noncomputable def kB:MF:=run 3 5 qO
noncomputable def wV:MS:=ba (bC 3 (mFn dw (aa (ab 0) (aa (ab 1) (aa (ab 2) ai))))) (cK (jZ pJ 1 [3,0] (mFn eB (aa (ab 2) (aa (ab 1) (aa (ab 0) ai)))) (mFn hC (aa (ab 0) ai))))
noncomputable def mB:MF:=run 3 4 wV
noncomputable def nv:MS:=ba (bC 3 (mFn iI (aa (ab 0) (aa (ab 1) (aa (ab 2) ai))))) (ba (bC 4 (mFn iF (aa (ab 0) (aa (ab 3) ai)))) (ba (dD 5 (iR1 (aa (mC (.int 2)) ai)) (ba (bC 6 (mFn mB (aa (ab 0) (aa (ab 1) (aa (ab 2) ai))))) (ba (sIf (cOr (nL (cOf (m1 (jE "list") (ab 6)))) (cOr (cOf (m2 oNe (ab 6) (ab 4))) (nL (cOf (mFn sj (aa (bX (cM (ab 6)) cTT (m1 (jE "tuple") (ab 8))) ai)))))) (cK (mC (.bl false))) cJ) (cy (mML bH (ab 6) (aa (ft ai) ai)))))) (ba (bC 7 (mFn kB (aa (ab 0) (aa (ab 1) (aa (ab 2) ai))))) (ba (sIf (cOf (m2 oGt (mFn bW (aa (ab 4) ai)) (mC (.int 1)))) (cK (m2 oIs (ab 7) (mC .non))) cJ) (cK (tF (m1 (jE "tuple") (ab 7)) (m2 oEq (ab 7) (mFn bG (aa (bX (cM (m2 oIx (ab 4) (mC (.int 0)))) cTT (m2 oIx (ab 3) (ab 8))) ai)))))))))
noncomputable def eA:MF:=run 3 8 nv
noncomputable def Eg:MS:=ba (dD 1 (iR1 (aa (mFn p9 (aa (mC (.int 1)) (aa (mFn mE (aa (mFn bW (aa (ab 0) ai)) (aa (mC (.int 6)) ai))) ai))) ai)) (ba (bC 2 (mFn iz (aa (ab 0) (aa (ab 1) ai)))) (ba (yb (mFn fU (aa (ab 2) (aa (mC (.int 24)) ai))) (gTp 2 (dM (gN 3) (dM (gN 4) kT)))) (ba (bC 5 (mFn bW (aa (mFn dQ (aa (ab 3) (aa (ab 4) ai))) ai))) (ba (bC 6 (cm (aa (m2 d6 (ft (aa (mC (.int 0)) ai)) (ab 5)) (aa (m2 d6 (ft (aa (mC (.int 1)) ai)) (ab 5)) ai)))) (ba (dD 7 (iR1 (aa (mC (.int 3)) ai)) (cy (mML bH (ab 6) (aa (mFn bG (aa (bX (iR1 (aa (ab 5) ai)) cTT (mFn aX (aa (ab 2) (aa (mC (.int 2)) ai)))) ai)) ai)))) (dD 8 (cM (ab 6)) (sIf (nL (cOf (mFn eA (aa (ab 3) (aa (ab 4) (aa (ab 8) ai)))))) (cK (mC (.bl false))) cJ)))))))) (cK (mC (.bl true)))
noncomputable def Io:MF:=run 1 9 Eg
end
section
open L2 G
theorem yM {m:Nat}{T:Nat->Nat->Nat}{S:Sto} (g:Grp m T) {i:Nat} (hi:i < m):oU [tab m T,.int i] S=some (.int (unT m T i),S):=by
 have h0:=EL g hi
 have e:=ip (ρ := [some (tab m T),some (.int i)]) (S:=S) (a:=ab 0) (b:=ab 1) hi (var_eq rfl) (var_eq rfl)
 rw [Ai] at e
 exact cw (ρ := [some (tab m T),some (.int i)]) rfl (show pC [some (tab m T),some (.int i)] S=_ from cj (ug (x:=0) e c_i h0))
theorem vA {m:Nat}{T:Nat->Nat->Nat}{S:Sto} (g:Grp m T) (hm:m < 100) {x:Nat} (hx:x < m) : ∃ S',gZ [tab m T,.int x] S=some (.int (unT m T x),S')/\Ex S S':=by
 obtain⟨u1,u2,u3,u4⟩:=hJ g hx
 obtain⟨S1,e1,h1⟩:=uA (ρ := [some (tab m T),some (.int x)]) (S:=S) (S0:=S) (a:=mFn bW (aa (ab 0) ai)) (t:=cOf (m2 oEq (m2 oIx (m2 oIx (ab 0) (ab 1)) (ab 2)) (mC (.int 0)))) (e:=ab 2) (n:=m) (len_tab (var_eq rfl)) (by unfold big;omega)
  (fun j=>decide (T x j=0)) (fun j => .int j) (fun _ S'=>S'=S) rfl (by
   rintro j S' hj rfl
   exact⟨S',of_eq (EC (y:=0) (iP hj (ip hx (var_eq rfl) (var_eq rfl)) (var_eq rfl)) c_i),fun _=>⟨S',var_eq rfl,rfl⟩,fun _=>rfl⟩)
 subst h1
 have d1:((((ar m).filter fun j=>decide (T x j=0)).map fun (j:Nat)=>U.int j)[0]?)=some (.int (unT m T x)):=by
  rw [bo,ir,lT (k:=unT m T x) m 0 (b9 _) (by omega) (by simpa using u2) fun j _ hj=>by
   have:T x j≠0:=fun h0=>by have:=u4 j (by omega) h0;omega
   simpa using this]
  rfl
 exact⟨_,cw (ρ := [some (tab m T),some (.int x)]) rfl (show jm [some (tab m T),some (.int x)] S1=_ from cj (Cj e1 d1)),Ex.push _ _⟩
theorem Ji {ρ:Rho}{S S1 S2:Sto}{a b:ME}{x y:Nat} (ha:a ρ S=some (.int x,S1)) (hb:b ρ S1=some (.int y,S2)):mFn p9 (aa a (aa b ai)) ρ S=some (.int (max x y:Nat),S2):=by
 refine dn ha hb ?_
 show some (U.int (if (y:Int) > x then (y:Int) else x),S2)=_
 congr 3
 split <;> omega
theorem IU {ρ:Rho}{S S1 S2:Sto}{a b:ME}{x y:U} (ha:a ρ S=some (x,S1)) (hb:b ρ S1=some (y,S2)):ft (aa a (aa b ai)) ρ S=some (.tup [x,y],S2):=by
 have hb2:2<=big:=by decide
 simp [ft,aa,ai,ha,hb,aD,hb2]
theorem Do {n:Nat}{S:Sto} (h:kM n S) : ∃ m T a b S',fU [.ref n,.int 24] S=some (.tup [tab m T,.tup [.int (a:Nat),.int (b:Nat)]],S')/\Grp m T/\3<=m/\m<=24/\a < m/\b < m/\Stp n S S':=by
 obtain⟨m0,T0,S1,e1,g0,hm0,st1⟩:=Bc (most:=24) h (by decide) (by decide)
 have key : ∃ m T S2,sIf (cOf (m2 oLt (mFn bW (aa (ab 2) ai)) (mC (.int 3)))) (bC 2 (mFn cb (aa (m2 cW (mC (.int 3)) (mFn aX (aa (ab 0) (aa (m2 pD (ab 1) (mC (.int 2))) ai)))) ai))) cJ [some (.ref n),some (.int 24),some (tab m0 T0),none,none,none] S1=some (.nx,[some (.ref n),some (.int 24),some (tab m T),none,none,none],S2)/\Grp m T/\3<=m/\m<=24/\Stp n S S2:=by
  have ec:cOf (m2 oLt (mFn bW (aa (ab 2) ai)) (mC (.int 3))) [some (.ref n),some (.int 24),some (tab m0 T0),none,none,none] S1=some (decide ((m0:Int) < 3),S1):=of_eq (IC (len_tab (var_eq rfl)) c_i)
  by_cases hlt:m0 < 3
  ·obtain⟨r,S2,e2,hr,st2⟩:=ij (m:=22) st1.st (by decide) (by decide)
   obtain⟨S3,e3,x3⟩:=jQ (n:=3+r) (S:=S2) (by omega) (by unfold big;omega)
   refine⟨3+r,dS (3+r),S3,?_,jc (by omega),by omega,by omega,(st1.trans st2).step x3⟩
   rw [show decide ((m0:Int) < 3)=true by simp;omega] at ec
   refine (mI ec).trans (bq (fQ (add_n (x:=3) c_i (dn (var_eq rfl) (AD (var_eq rfl) c_i) ?_)) e3))
   exact e2
  ·rw [show decide ((m0:Int) < 3)=false by simp;omega] at ec
   exact⟨m0,T0,S1,(kK ec).trans rfl,g0,by omega,hm0,st1⟩
 obtain⟨m,T,S2,e2,g,hm3,hm,st2⟩:=key
 have hn:=h.lt
 have hbig:m < big:=by unfold big;omega
 have e3:gW (iR2 (aa (mC (.int 1)) (aa (mFn bW (aa (ab 2) ai)) ai))) [some (.ref n),some (.int 24),some (tab m T),none,none,none] S2=some (.ref S2.length,S2 ++ [Cell.lst (ao (aP 1 (m - 1)))]):=by
  rw [qG (i:=1) (j:=m) rfl (len_tab (var_eq rfl)) ⟨by decide,by decide⟩ (om hbig) (by rw [jx m (by omega)];simp [ao];omega),jx m (by omega)]
 have st3:Stp n S (S2 ++ [Cell.lst (ao (aP 1 (m - 1)))]):=st2.step (Ex.push _ _)
 have g3:(S2 ++ [Cell.lst (ao (aP 1 (m - 1)))])[S2.length]? = some (Cell.lst (ao (aP 1 (m - 1)))):=bV _ _
 obtain⟨r,S4,e4,hr,st4⟩:=ij (m:=m - 1) st3.st (by omega) (by omega)
 have hne:S2.length≠n:=by have:=st2.len;omega
 have g4:S4[S2.length]? = some (Cell.lst (ao (aP 1 (m - 1)))):=st4.some hne g3
 have hlen:(aP 1 (m - 1)).length=m - 1:=by simp
 have l1:mFn bW (aa (ab 3) ai) [some (.ref n),some (.int 24),some (tab m T),some (.ref S2.length),none,none] (S2 ++ [Cell.lst (ao (aP 1 (m - 1)))])=some (.int (m - 1:Nat),S2 ++ [Cell.lst (ao (aP 1 (m - 1)))]):=by
  rw [uM (var_eq rfl) g3];simp [ao]
 have p1:=uN (ρ := [some (.ref n),some (.int 24),some (tab m T),some (.ref S2.length),none,none]) (o:=ab 3) (a:=mFn aX (aa (ab 0) (aa (mFn bW (aa (ab 3) ai)) ai))) (r:=S2.length) (j:=r) (l:=aP 1 (m - 1)) (var_eq rfl) (dn (var_eq rfl) l1 e4) g3 g4 (by rw [hlen];exact hr) (by rw [hlen];omega)
 have st5:Stp n S (S4.set S2.length (Cell.lst (ao ((aP 1 (m - 1)).eraseIdx r)))):=(st3.trans st4).set st2.len hne
 have g5:(S4.set S2.length (Cell.lst (ao ((aP 1 (m - 1)).eraseIdx r))))[S2.length]? = some (Cell.lst (ao ((aP 1 (m - 1)).eraseIdx r))):=aH (ae.mp g4).1
 have hle:((aP 1 (m - 1)).eraseIdx r).length=m - 2:=by rw [List.length_eraseIdx,if_pos (by rw [hlen];exact hr),hlen];omega
 obtain⟨q,S6,e6,hq,st6⟩:=ij (m:=m - 2) st5.st (by omega) (by omega)
 have g6:S6[S2.length]? = some (Cell.lst (ao ((aP 1 (m - 1)).eraseIdx r))):=st6.some hne g5
 have va:(aP 1 (m - 1))[r]'(by rw [hlen];exact hr) < m:=by simp;omega
 have hq':q < ((aP 1 (m - 1)).eraseIdx r).length:=by rw [hle];exact hq
 have vb:((aP 1 (m - 1)).eraseIdx r)[q]'hq' < m:=by
  have hin:=List.mem_of_mem_eraseIdx (hV hq')
  have:=(List.mem_range'_1.mp hin)
  omega
 generalize hA:(aP 1 (m - 1))[r]'(by rw [hlen];exact hr)=A at va p1
 generalize hB:((aP 1 (m - 1)).eraseIdx r)[q]'hq'=B at vb
 have l2:mFn bW (aa (ab 3) ai) [some (.ref n),some (.int 24),some (tab m T),some (.ref S2.length),some (.int A),none] (S4.set S2.length (Cell.lst (ao ((aP 1 (m - 1)).eraseIdx r))))=some (.int (m - 2:Nat),S4.set S2.length (Cell.lst (ao ((aP 1 (m - 1)).eraseIdx r)))):=by
  rw [uM (var_eq rfl) g5]
  simp only [ao,aq,hle]
 have i1:m2 oIx (ab 3) (mFn aX (aa (ab 0) (aa (mFn bW (aa (ab 3) ai)) ai))) [some (.ref n),some (.int 24),some (tab m T),some (.ref S2.length),some (.int A),none] (S4.set S2.length (Cell.lst (ao ((aP 1 (m - 1)).eraseIdx r))))=some (.int B,S6):=by
  refine uP (var_eq rfl) (dn (var_eq rfl) l2 e6) g6 (n9 ?_)
  unfold ao
  rw [bo,aS hq',hB];rfl
 refine⟨m,T,min A B,max A B,S6,cw (ρ := [some (.ref n),some (.int 24),some (tab m T),some (.ref S2.length),some (.int A),some (.int B)]) rfl ?_,g,hm3,hm,by omega,by omega,st5.trans st6⟩
 show lB [some (.ref n),some (.int 24),none,none,none,none] S=_
 exact (aO (bq (dn (var_eq rfl) (var_eq rfl) e1))).trans ((aO e2).trans ((aO (bq e3)).trans ((aO (bq p1)).trans ((aO (bq i1)).trans (cj (IU (var_eq rfl) (IU (IL (var_eq rfl) (var_eq rfl)) (Ji (var_eq rfl) (var_eq rfl)))))))))
theorem DP {ρ:Rho}{S S1:Sto}{a:ME}{x y:U} (ha:a ρ S=some (.tup [x,y],S1)):m2 oIx a (mC (.int 0)) ρ S=some (x,S1):=AO ha rfl rfl
theorem Ec {ρ:Rho}{S S1:Sto}{a:ME}{x y:U} (ha:a ρ S=some (.tup [x,y],S1)):m2 oIx a (mC (.int 1)) ρ S=some (y,S1):=AO ha rfl rfl
theorem B2 {m:Nat}{T:Nat->Nat->Nat}{S:Sto} (g:Grp m T) {a b:Nat} (ha:a < m) (hb:b < m):i5 [tab m T,.tup [.int (a:Nat),.int (b:Nat)]] S=some (.int (T a (unT m T b)),S):=
 cw (ρ := [some (tab m T),some (.tup [.int (a:Nat),.int (b:Nat)])]) rfl (show mR [some (tab m T),some (.tup [.int (a:Nat),.int (b:Nat)])] S=_ from cj (iP (hJ g hb).1 (ip ha (var_eq rfl) (DP (var_eq rfl))) (dn (var_eq rfl) (Ec (var_eq rfl)) (yM g hb))))
noncomputable def eE (m:Nat) (T:Nat->Nat->Nat) (t n:Nat):List (List Nat):=((ar m).filter (i8 T t n)).map fun x=>srt (orb T t n x)
abbrev dc (ls:List (List Nat)):List U:=tups ls
theorem oW {m:Nat}{T:Nat->Nat->Nat}{t n:Nat}:(eE m T t n).length<=m:=by
 unfold eE
 rw [aq]
 exact br (lN _ _) (by simp)
theorem kq {T:Nat->Nat->Nat}{t n k:Nat}:eE (k+1) T t n=eE k T t n++(if i8 T t n k then [srt (orb T t n k)] else []):=by
 unfold eE
 rw [dP,List.filter_append,dv]
 congr 1
 cases h:i8 T t n k <;> simp [h]
theorem Af {T:Nat->Nat->Nat}{m t n k:Nat} (g:Grp m T) (ht:t < m) (hn:0 < n) (h0:pw T t n=0) (hk:k < m):i8 T t n k=true ↔ ¬ ∃ x,x < k/\k∈orb T t n x:=by
 rw [kH]
 constructor
 ·rintro h ⟨x,hx,hm⟩
  have:=h x (mj g ht hn h0 (by omega) hm)
  omega
 ·intro h y hy
  refine Nat.le_of_not_lt fun hlt=>h ⟨y,hlt,mj g ht hn h0 hk hy⟩
theorem wU {T:Nat->Nat->Nat}{m t n:Nat} (g:Grp m T) (ht:t < m) (hn:0 < n) (h0:pw T t n=0) {r:Nat->List Nat} (hr : ∀ x,(r x).Perm (orb T t n x)) : ∀ k,k<=m ->
  (∀ y:Nat,y∈(sdF r k).2 ↔ ∃ x,x < k/\y∈orb T t n x)/\(sdF r k).1=eE k T t n
 | 0,_=>⟨fun y=>by
   constructor
   ·intro h;simp [sdF] at h
   ·rintro ⟨x,hx,_⟩;omega,rfl⟩
 | k+1,hk=>by
   obtain⟨i1,i2⟩:=wU g ht hn h0 hr k (by omega)
   have hmin:=Af g ht hn h0 (show k < m by omega)
   by_cases q:k∈(sdF r k).2
   ·have e:sdF r (k+1)=sdF r k:=by rw [sdF,if_pos q]
    obtain⟨x0,hx0,hm0⟩:=(i1 k).mp q
    have hf:i8 T t n k=false:=by
     cases w:i8 T t n k with
     | false=>rfl
     | true=>exact absurd ⟨x0,hx0,hm0⟩ (hmin.mp w)
    rw [e]
    refine⟨fun y=>(i1 y).trans ⟨?_,?_⟩,?_⟩
    ·rintro ⟨x,hx,hm⟩;exact⟨x,by omega,hm⟩
    ·rintro ⟨x,hx,hm⟩
     by_cases hxk:x=k
     ·subst hxk;exact⟨x0,hx0,kI g ht h0 (by omega) hm0 hm⟩
     ·exact⟨x,by omega,hm⟩
    ·rw [i2,kq,hf];simp
   ·have e:sdF r (k+1)=((sdF r k).1 ++ [srt (r k)],(sdF r k).2++r k):=by rw [sdF,if_neg q]
    have hf:i8 T t n k=true:=hmin.mpr fun h=>q ((i1 k).mpr h)
    rw [e]
    refine⟨fun y => ?_,?_⟩
    ·show y∈(sdF r k).2++r k↔_
     rw [bx,i1 y,(hr k).mem_iff]
     constructor
     ·rintro (⟨x,hx,hm⟩ | hm)
      ·exact⟨x,by omega,hm⟩
      ·exact⟨k,by omega,hm⟩
     ·rintro ⟨x,hx,hm⟩
      by_cases hxk:x=k
      ·subst hxk;exact .inr hm
      ·exact .inl ⟨x,by omega,hm⟩
    ·show (sdF r k).1 ++ [srt (r k)]=_
     rw [i2,kq,hf,xV (hr k)];simp
theorem F9 {T:Nat->Nat->Nat}{t:Nat}{x:Nat} (h:Rch T [t] x) : ∃ i,x=pw T t i:=by
 induction h with
 | zero=>exact⟨0,rfl⟩
 | step _ hy ih=>
   obtain⟨i,rfl⟩:=ih
   simp at hy
   subst hy
   exact⟨i+1,rfl⟩
theorem zE {T:Nat->Nat->Nat}{t:Nat} : ∀ i,Rch T [t] (pw T t i)
 | 0 => .zero
 | i+1 => .step (zE i) (by simp)
noncomputable def pws (T:Nat->Nat->Nat) (t n:Nat):List Nat:=(ar n).map (pw T t)
theorem zc {T:Nat->Nat->Nat}{m t n:Nat}{ks:List Nat} (g:Grp m T) (ht:t < m) (hn0:1<=n) (h1 : ∀ k,1<=k->k < n->pw T t k≠0) (h0:pw T t n=0) (d:Dfs m T [t] ks fun _=>False):ks.Perm (pws T t n):=by
 refine Cp d.nd ?_ fun x => ?_
 ·unfold pws
  rw [dC,jH]
  refine eT ?_ (lh (n:=n))
  intro a b ha hb hab e
  have hb:=aU.mp hb
  exact h1 (b - a) (by omega) (by omega) (xa g ht (by omega) e)
 ·rw [d.all]
  constructor
  ·intro h
   obtain⟨i,rfl⟩:=F9 h
   refine aQ.mpr ⟨i % n,aU.mpr (lH _ (by omega)),?_⟩
   have : ∀ q r,pw T t (n*q+r)=pw T t r:=fun q=>by
    induction q with
    | zero=>intro r;rw [Nat.mul_zero,dj]
    | succ q ih=>intro r;rw [Nat.mul_succ,yY,ih,xw g ht h0]
   have e:=this (i / n) (i % n)
   rw [vp] at e
   exact e.symm
  ·intro h
   obtain⟨i,_,rfl⟩:=aQ.mp h
   exact zE i
section
variable {m:Nat}{T:Nat->Nat->Nat}{t n:Nat}
theorem A6 {S:Sto} (g:Grp m T) (hm:m < 64) {a b:Nat} (ha:a < m) (hb:b < m) (he:t=T a (unT m T b)) (hn0:1<=n) (hn:n < 64) (h1 : ∀ k,1<=k->k < n->pw T t k≠0) (h0:pw T t n=0) :
  ∃ r S',nT [tab m T,.tup [.int (a:Nat),.int (b:Nat)]] S=some (.ref r,S')/\Ex S S'/\S.length<=r/\S'[r]? = some (.lst (dc (eE m T t n))):=by
 have ht:t < m:=by rw [he];exact g.cl _ _ ha (hJ g hb).1
 obtain⟨ks,S1,e1,x1,d⟩:=Iz (S:=S) (ths := [t]) g hm (by simpa using ht)
 have hp:=zc g ht hn0 h1 h0 d
 obtain⟨S2,e2,x2,q2⟩:=Ct (S:=S1) (part:=srt ks) g hm (by rw [nW,hp.length_eq];simpa [pws] using hn) (fun x hx=>d.lt x (lQ.mp hx))
 have hs:AI m T (srt ks) true=eE m T t n:=by
  refine (wU g ht (by omega) h0 (fun x => ?_) m (aj _)).2
  show (pX (fun o=>if true=true then T x o else T o x) (srt ks)).Perm (orb T t n x)
  have:(pX (fun o=>if true=true then T x o else T o x) (srt ks))=(srt ks).map (T x):=by simp
  rw [this]
  refine (((pj ks).trans hp).map (T x)).trans ?_
  rw [show (pws T t n).map (T x)=orb T t n x by simp [pws,orb,fq,Bw]]
 rw [hs] at q2
 have et:=B2 (S:=S) g ha hb
 rw [<- he] at et
 have e3:ft (aa (mFn i5 (aa (ab 0) (aa (ab 1) ai))) ai) [some (tab m T),some (.tup [.int (a:Nat),.int (b:Nat)])] S=some (.tup (ao [t]),S):=En (dn (f:=i5) (a:=ab 0) (b:=ab 1) (ρ := [some (tab m T),some (.tup [.int (a:Nat),.int (b:Nat)])]) (var_eq rfl) (var_eq rfl) et)
 exact⟨_,_,cw (ρ := [some (tab m T),some (.tup [.int (a:Nat),.int (b:Nat)])]) rfl (show rT [some (tab m T),some (.tup [.int (a:Nat),.int (b:Nat)])] S=_ from cj (dn (f:=ju) (a:=ab 0) (var_eq rfl) (dn (f:=v8) (a:=ab 0) (var_eq rfl) e3 e1) e2)),x1.trans x2,x1.len,q2⟩
end
section
variable {m:Nat}{T:Nat->Nat->Nat}{t n:Nat}
theorem AG {x k:Nat}:orb T t k x ++ [T x (pw T t k)]=orb T t (k+1) x:=by simp [orb,dP]
theorem Kj {k x:Nat}:ao (orb T t k x)=(ar k).map fun i=>U.int (T x (pw T t i):Nat):=by simp [ao,orb,fq,Bw]
theorem Jc {ρ:Rho}{S:Sto}{a:ME}{r:Nat}{l:List Nat} (ha:a ρ S=some (.ref r,S)) (hr:S[r]? = some (Cell.lst (ao l))) {y:Int} (hy:nH (fP l)=some y):mFn mE (aa a ai) ρ S=some (.int y,S):=
 fQ ha (by simp only [mE,getL,hr,ah,qY,hy,aT];try rfl)
theorem yN : ∀ (l:List Int),l ≠ [] -> ∃ y,nH l=some y
 | [],h=>absurd rfl h
 | x::xs,_=>by
   unfold nH
   cases nH xs with
   | none=>exact⟨_,rfl⟩
   | some k=>exact⟨_,rfl⟩
theorem zZ (g:Grp m T) (hn:0 < n) {x:Nat} (hx:x < m) : ∃ y:Nat,nH (fP (orb T t n x))=some (y:Int)/\decide (y=x)=i8 T t n x:=by
 have hs:=zX (t:=t) g hn hx
 obtain⟨z,hz⟩:=yN (fP (orb T t n x)) fun h=>by
  have:(fP (orb T t n x)).length=0:=by rw [h];rfl
  unfold fP at this
  rw [aq,rE] at this
  omega
 obtain⟨z1,z2⟩:=mO hz
 obtain⟨y,hy,rfl⟩:=aQ.mp z1
 refine⟨y,hz,?_⟩
 have hle : ∀ w∈orb T t n x,y<=w:=fun w hw=>by
  have:=z2 (w:Int) (aQ.mpr ⟨w,hw,rfl⟩)
  omega
 by_cases h:y=x
 ·subst h
  rw [decide_eq_true rfl,kH.mpr hle]
 ·rw [decide_eq_false h]
  cases w:i8 T t n x with
  | false=>rfl
  | true=>
    have q1:=kH.mp w y hy
    have q2:=hle x hs
    omega
theorem J4 {ρ:Rho}{S S1:Sto}{a:ME}{u:U} (ha:a ρ S=some (u,S1)):cm (aa a ai) ρ S=some (.ref S1.length,S1 ++ [.lst [u]]):=by
 have hb1:1<=big:=by decide
 simp [cm,jP ha,aD,hb1]
noncomputable def Ew:MT:=cOf (m2 oNe (m2 oIx (m2 oIx (ab 0) (m2 oIx (ab 5) (m1 h9 (mC (.int 1))))) (ab 2)) (ab 4))
noncomputable def GQ:MS:=cy (mML bH (ab 5) (aa (m2 oIx (m2 oIx (ab 0) (m2 oIx (ab 5) (m1 h9 (mC (.int 1))))) (ab 2)) ai))
theorem AK (g:Grp m T) (ht:t < m) (hn:n < 1000) (h1 : ∀ k,1<=k->k < n->pw T t k≠0) (h0:pw T t n=0) {B:Sto}{p f3:Option U}{x:Nat} (hx:x < m) : ∀ (d f i:Nat),i+d+1=n->d+1<=f ->
  whl Ew GQ f [some (tab m T),p,some (.int (t:Nat)),f3,some (.int (x:Nat)),some (.ref B.length)] (B ++ [.lst (ao (orb T t (i+1) x))]) =
   some (.nx,[some (tab m T),p,some (.int (t:Nat)),f3,some (.int (x:Nat)),some (.ref B.length)],B ++ [.lst (ao (orb T t n x))])
 | d,0,i,_,hf=>by omega
 | d,f+1,i,hd,hf=>by
   have e5:m2 oIx (ab 5) (m1 h9 (mC (.int 1))) [some (tab m T),p,some (.int (t:Nat)),f3,some (.int (x:Nat)),some (.ref B.length)] (B ++ [.lst (ao (orb T t (i+1) x))])=some (.int (T x (pw T t i):Nat),B ++ [.lst (ao (orb T t (i+1) x))]):=uP (var_eq rfl) HL (bV _ _) (by rw [Kj];exact zA)
   have e6:m2 oIx (m2 oIx (ab 0) (m2 oIx (ab 5) (m1 h9 (mC (.int 1))))) (ab 2) [some (tab m T),p,some (.int (t:Nat)),f3,some (.int (x:Nat)),some (.ref B.length)] (B ++ [.lst (ao (orb T t (i+1) x))])=some (.int (T x (pw T t (i+1)):Nat),B ++ [.lst (ao (orb T t (i+1) x))]):=by
    rw [<- zf g ht hx i]
    exact iP ht (ip (g.cl _ _ hx (gE g ht i)) (var_eq rfl) e5) (var_eq rfl)
   have ec:Ew _ _=_:=of_eq (F3 e6 (b:=ab 4) (y:=x) (var_eq rfl))
   unfold whl
   rw [ec]
   simp only [aD]
   by_cases hlt:i+1 < n
   ·have hne:=EN g ht h1 hx (i:=i+1) (by omega) hlt
    rw [decide_eq_false hne]
    simp only [Bool.not_false,if_true]
    have ea:=append_eq (ρ := [some (tab m T),p,some (.int (t:Nat)),f3,some (.int (x:Nat)),some (.ref B.length)]) (o:=ab 5) (var_eq rfl) e6 (bV _ _) (bV _ _) (by rw [bM,rE];unfold big;omega)
    rw [cZ _ _ (aj _),lK,show ao (orb T t (i+1) x) ++ [U.int (T x (pw T t (i+1)):Nat)]=ao (orb T t (i+1+1) x) by rw [<- AG (k:=i+1)];simp [ao]] at ea
    rw [show GQ _ _=_ from ea]
    cases d with
    | zero=>omega
    | succ d=>exact AK g ht hn h1 h0 hx d f (i+1) (by omega) (by omega)
   ·have hin:i+1=n:=by omega
    have he:T x (pw T t (i+1))=x:=by rw [hin,h0];exact g.r0 x hx
    rw [decide_eq_true he,hin]
    rfl
theorem cap {S x:Sto}{c c':Cell}:(S ++ [c]++x).set S.length c'=S ++ [c']++x:=by
 rw [aN,cZ _ _ (aj _),lK,aN];rfl
theorem cag {S x:Sto}{c:Cell}:(S ++ [c]++x)[S.length]? = some c:=by rw [aN,av (aj _)];simp
noncomputable def lsB:MS:=ba (bC 5 (cm (aa (ab 4) ai))) (ba (gU Ew GQ) (sIf (cOf (m2 oEq (mFn mE (aa (ab 5) ai)) (ab 4))) (cy (mML bH (ab 3) (aa (mFn bG (aa (mFn dR (aa (ab 5) ai)) ai)) ai))) cJ))
theorem qM {S:Sto} (g:Grp m T) (hm:m < 64) {a b:Nat} (ha:a < m) (hb:b < m) (he:t=T a (unT m T b)) (hn0:1<=n) (hn:n < 64) (h1 : ∀ k,1<=k->k < n->pw T t k≠0) (h0:pw T t n=0) :
  ∃ r S',dQ [tab m T,.tup [.int (a:Nat),.int (b:Nat)]] S=some (.ref r,S')/\Ex S S'/\S'[r]? = some (.lst (dc (eE m T t n))):=by
 have ht:t < m:=by rw [he];exact g.cl _ _ ha (hJ g hb).1
 obtain⟨S1,e1,x1⟩:=vA (S:=S) g (by omega) hb
 have e2:m2 oIx (m2 oIx (ab 0) (m2 oIx (ab 1) (mC (.int 0)))) (mFn gZ (aa (ab 0) (aa (m2 oIx (ab 1) (mC (.int 1))) ai))) [some (tab m T),some (.tup [.int (a:Nat),.int (b:Nat)]),none,none,none,none] S=some (.int (t:Nat),S1):=by
  rw [he]
  exact iP (hJ g hb).1 (ip ha (var_eq rfl) (DP (var_eq rfl))) (dn (var_eq rfl) (Ec (var_eq rfl)) e1)
 have e3:bC 3 (cm ai) [some (tab m T),some (.tup [.int (a:Nat),.int (b:Nat)]),some (.int (t:Nat)),none,none,none] S1=some (.nx,[some (tab m T),some (.tup [.int (a:Nat),.int (b:Nat)]),some (.int (t:Nat)),some (.ref S1.length),none,none],S1 ++ [.lst []]):=bq iK
 obtain⟨ρ4,S4,e4,⟨p4,q4,rfl⟩,x4,rfl⟩:=fS (i:=4) (a:=mFn bW (aa (ab 0) ai)) (n:=m) (b:=lsB) (ρ := [some (tab m T),some (.tup [.int (a:Nat),.int (b:Nat)]),some (.int (t:Nat)),some (.ref S1.length),none,none]) (S:=S1 ++ [.lst []]) (len_tab (var_eq rfl)) (by unfold big;omega)
  (fun k ρ S'=>(∃ p q,ρ = [some (tab m T),some (.tup [.int (a:Nat),.int (b:Nat)]),some (.int (t:Nat)),some (.ref S1.length),p,q]) /\ ∃ x,S'=S1 ++ [.lst (dc (eE k T t n))]++x) ⟨⟨none,none,rfl⟩,[],by simp [eE,tups]⟩ (by
   rintro k ρ S' hk ⟨⟨p,q,rfl⟩,x,rfl⟩
   have f5:cm (aa (ab 4) ai) [some (tab m T),some (.tup [.int (a:Nat),.int (b:Nat)]),some (.int (t:Nat)),some (.ref S1.length),some (.int (k:Nat)),q] (S1 ++ [.lst (dc (eE k T t n))]++x)=some (.ref (S1 ++ [Cell.lst (dc (eE k T t n))]++x:Sto).length,S1 ++ [.lst (dc (eE k T t n))]++x ++ [.lst (ao (orb T t (0+1) k))]):=by
    rw [show ao (orb T t (0+1) k) = [U.int (k:Nat)] by simp [ao,orb,pw,g.r0 k hk]]
    exact J4 (var_eq rfl)
   have f6:=AK (B:=S1 ++ [.lst (dc (eE k T t n))]++x) (p:=some (.tup [.int (a:Nat),.int (b:Nat)])) (f3:=some (.ref S1.length)) g ht (by omega) h1 h0 hk (n - 1) fuel 0 (by omega) (by unfold fuel;omega)
   obtain⟨y,hy,hyd⟩:=zZ (t:=t) g (by omega:0 < n) hk
   have c7:=of_eq (EC (ρ := [some (tab m T),some (.tup [.int (a:Nat),.int (b:Nat)]),some (.int (t:Nat)),some (.ref S1.length),some (.int (k:Nat)),some (.ref (S1 ++ [Cell.lst (dc (eE k T t n))]++x:Sto).length)]) (S:=S1 ++ [.lst (dc (eE k T t n))]++x ++ [.lst (ao (orb T t n k))]) (y:=k) (b:=ab 4) (Jc (a:=ab 5) (var_eq rfl) (bV _ _) hy) (var_eq rfl))
   rw [hyd] at c7
   have f8:=eF (uf (ρ := [some (tab m T),some (.tup [.int (a:Nat),.int (b:Nat)]),some (.int (t:Nat)),some (.ref S1.length),some (.int (k:Nat)),some (.ref (S1 ++ [Cell.lst (dc (eE k T t n))]++x:Sto).length)]) (S:=S1 ++ [.lst (dc (eE k T t n))]++x ++ [.lst (ao (orb T t n k))]) (a:=ab 5) (var_eq rfl) (bV _ _) (by rw [rE];exact hn))
   have hlen:=oW (m:=k) (T:=T) (t:=t) (n:=n)
   cases hi:i8 T t n k with
   | false=>
     rw [hi] at c7
     refine⟨_,_,(aO (bq f5)).trans ((aO f6).trans ((kK c7).trans rfl)),⟨_,_,rfl⟩,x ++ [.lst (ao (orb T t n k))],?_⟩
     rw [kq,hi];simp
   | true=>
     rw [hi] at c7
     have f9:=append_eq (o:=ab 3) (r:=S1.length) (row:=dc (eE k T t n)) (var_eq rfl) f8 (by rw [aN];exact cag) (by rw [aN,aN];exact cag) (by unfold dc tups;rw [aq];unfold big;omega)
     refine⟨_,_,(aO (bq f5)).trans ((aO f6).trans ((mI c7).trans f9)),⟨_,_,rfl⟩,x ++ [.lst (ao (orb T t n k))] ++ [.lst (ao (srt (orb T t n k)))],?_⟩
     rw [aN (S1 ++ [Cell.lst (dc (eE k T t n))]),aN (S1 ++ [Cell.lst (dc (eE k T t n))]),cap,kq,hi]
     simp [tups])
 refine⟨S1.length,_,cw (ρ := [some (tab m T),some (.tup [.int (a:Nat),.int (b:Nat)]),some (.int (t:Nat)),some (.ref S1.length),p4,q4]) rfl (show jR [some (tab m T),some (.tup [.int (a:Nat),.int (b:Nat)]),none,none,none,none] S=_ from (aO (bq e2)).trans ((aO e3).trans ((aO e4).trans (cj (var_eq rfl))))),x1.trans ⟨_,aN _ _ _⟩,cag⟩
end
theorem CH {ρ:Rho}{S S1 S2:Sto}{a b:ME}{n k:Nat}{ls:List (List Nat)} (ha:a ρ S=some (.ref n,S1)) (hb:b ρ S1=some (.ref k,S2)) (hn:S2[n]? = some (Cell.lst (dc ls))) (hk:S2[k]? = some (Cell.lst (dc ls))):m2 oNe a b ρ S=some (.bl false,S2):=by
 refine op2 ha hb ?_
 simp only [oNe,G.eqU,uD hn,uD hk,ah,aT,dJ,uc]
 simp
theorem isL {ρ:Rho}{S S1:Sto}{a:ME}{n:Nat}{us:List U} (ha:a ρ S=some (.ref n,S1)) (hn:S1[n]? = some (Cell.lst us)):m1 (jE "list") a ρ S=some (.bl true,S1):=by
 simp only [m1,ha,aD,jE,tyU,hn,aT]
 rfl
theorem qS {e:ME}{ρ:Rho}{n:Nat}{S:Sto}{us:List U}{g:U->U} (hu:getL S n=some us) (he : ∀ u∈us,e (ρ ++ [some u]) S=some (g u,S)) : ∀ (f i:Nat) (acc:List U),i<=us.length->us.length < i+f->jd cTT e ρ n f i acc S=some (acc++(us.drop i).map g,S)
 | 0,i,acc,h',h=>by omega
 | f+1,i,acc,h',h=>by
   unfold jd
   rw [hu]
   simp only [ah]
   cases q:us[i]? with
   | none=>
     have:us.drop i = []:=List.drop_eq_nil_iff.mpr (cX.mp q)
     rw [this];simp
   | some u=>
     obtain⟨hi,hu'⟩:=ae.mp q
     have hd:us.drop i=u::us.drop (i+1):=by rw [wq hi,hu']
     simp only [cTT,aD,if_true]
     rw [he u (bL q)]
     simp only [aD]
     rw [qS hu he f (i+1) _ (by omega) (by omega),hd]
     simp
theorem zx {ρ:Rho}{S:Sto}{n i:Nat}{ls:List (List Nat)} (hv:ρ[i]? = some (some (.ref n))) (h8:ρ.length=8) (hn:S[n]? = some (Cell.lst (dc ls))) (hl:ls.length < 1000) :
  ∃ S',mFn sj (aa (bX (cM (ab i)) cTT (m1 (jE "tuple") (ab 8))) ai) ρ S=some (.bl true,S')/\Ex S S':=by
 have hg:getL S n=some (dc ls):=by unfold getL;rw [hn]
 have e1:=qS (e:=m1 (jE "tuple") (ab 8)) (ρ:=ρ) (g:=fun _=>U.bl true) hg (fun u hu=>by
  obtain⟨l,_,rfl⟩:=aQ.mp hu
  exact isT (var_eq (by rw [av (by omega),h8];rfl))) fuel 0 [] (b9 _) (by unfold dc tups fuel;rw [aq];omega)
 rw [List.drop_zero,du] at e1
 have e2:bX (cM (ab i)) cTT (m1 (jE "tuple") (ab 8)) ρ S=some (.ref S.length,S ++ [Cell.lst ((dc ls).map fun x=>U.bl ((fun _=>true) x))]):=by
  have hz:((dc ls).map fun _=>U.bl true).length < big:=by rw [aq];unfold dc tups;rw [aq];unfold big;omega
  have hi:cM (ab i) ρ S=some (.mut n,S):=by
   simp only [cM,var_eq hv,aD,hg,aT]
  simp only [bX,hi,aD,Ap,e1]
  exact if_pos hz
 have e3:=Hc e2
 rw [show (dc ls).all (fun _=>true)=true by simp] at e3
 exact⟨_,e3,Ex.push _ _⟩
theorem Ce {D:List (L2.Key×U)}{k j:L2.Key}{u:U}:hG (iT D k u) j=if k=j then some u else hG D j:=by
 unfold hG iT
 by_cases h:(D.any fun kv=>decide (kv.1=k))=true
 ·rw [if_pos h]
  induction D with
  | nil=>simp at h
  | cons p D ih=>
    rw [bz,bF]
    by_cases hp:p.1=k
    ·rw [if_pos hp]
     by_cases hk:k=j
     ·subst hk
      simp [hp]
     ·have h1:decide (p.1=j)=false:=decide_eq_false (by rw [hp];exact hk)
      simp only [h1,if_neg hk]
      rw [bF,h1]
      simp only
      by_cases h2:(D.any fun kv=>decide (kv.1=k))=true
      ·have:=ih h2
       rw [if_neg hk] at this
       exact this
      ·have:D.map (fun kv=>if kv.1=k then (kv.1,u) else kv)=D:=by
        conv=>rhs;rw [<- List.map_id D]
        apply d0
        intro kv hkv
        have:kv.1≠k:=fun e=>h2 (d5.mpr ⟨kv,hkv,decide_eq_true e⟩)
        simp [this]
       rw [this]
    ·rw [if_neg hp]
     have h2:(D.any fun kv=>decide (kv.1=k))=true:=by
      rw [eN,decide_eq_false hp,Bool.false_or] at h
      exact h
     by_cases hj:p.1=j
     ·have hk:k≠j:=fun e=>hp (hj.trans e.symm)
      rw [if_neg hk,bF]
      simp [hj]
     ·have h1:decide (p.1=j)=false:=decide_eq_false hj
      rw [h1,bF,h1]
      simp only
      exact ih h2
 ·rw [if_neg h,List.find?_append]
  by_cases hk:k=j
  ·subst hk
   have:D.find? (fun kv=>decide (kv.1=k))=none:=by
    rw [List.find?_eq_none]
    intro kv hkv hd
    exact h (d5.mpr ⟨kv,hkv,hd⟩)
   rw [this,if_pos rfl]
   simp
  ·rw [if_neg hk]
   have : [((k,u):L2.Key×U)].find? (fun kv=>decide (kv.1=j))=none:=by simp [hk]
   rw [this,Option.or_none]
theorem As {D:List (L2.Key×U)}{k:L2.Key}{u:U}:(iT D k u).length<=D.length+1:=by
 unfold iT
 split
 ·simp
 ·simp
noncomputable def p5 (D:List (L2.Key×U)) (xs:List Nat) (v:Nat):List (L2.Key×U):=xs.foldl (fun D (x:Nat)=>iT D (.inl (x:Int)) (.int (v:Nat))) D
theorem oy {v:Nat} : ∀ {xs:List Nat}{D:List (L2.Key×U)},(p5 D xs v).length<=D.length+xs.length
 | [],D=>by simp [p5]
 | x::xs,D=>by
   have h1:=oy (v:=v) (xs:=xs) (D:=iT D (.inl (x:Int)) (.int (v:Nat)))
   have h2:=As (D:=D) (k := .inl (x:Int)) (u := .int (v:Nat))
   show (p5 (iT D (.inl (x:Int)) (.int (v:Nat))) xs v).length<=_
   simp only [cz];omega
theorem uz {v x:Nat} : ∀ {xs:List Nat}{D:List (L2.Key×U)},hG (p5 D xs v) (.inl (x:Int))=if x∈xs then some (.int (v:Nat)) else hG D (.inl (x:Int))
 | [],D=>by simp [p5]
 | y::xs,D=>by
   show hG (p5 (iT D (.inl (y:Int)) (.int (v:Nat))) xs v) _=_
   rw [uz,Ce]
   by_cases h:x∈xs
   ·simp [h]
   ·by_cases e:y=x
    ·subst e;simp
    ·have:(dF (y:Int):L2.Key) ≠ .inl (x:Int):=fun z=>e (by injection z with z;omega)
     simp [h,this,dH e]
section
variable {m:Nat}{T:Nat->Nat->Nat}{S:Sto}
noncomputable def stp (a b c:Nat):Nat:=if c=0 then a else b
noncomputable def dK (a b:Nat) (L:List (List Nat)) (c:List Nat):Nat->List (L2.Key×U)
 | 0 => []
 | k+1=>p5 (dK a b L c k) (L.getD k []) (stp a b (c.getD k 0))
noncomputable def sK (a b:Nat) (L:List (List Nat)) (c:List Nat):Nat->Nat->Option Nat
 | 0,_=>none
 | k+1,x=>if x∈L.getD k [] then some (stp a b (c.getD k 0)) else sK a b L c k x
theorem Au {a b x:Nat}{L:List (List Nat)}{c:List Nat} : ∀ k,hG (dK a b L c k) (.inl (x:Int))=(sK a b L c k x).map fun (v:Nat)=>U.int (v:Nat)
 | 0=>rfl
 | k+1=>by
   rw [dK,uz,sK]
   split
   ·rfl
   ·exact Au k
theorem z8 {a b:Nat}{L:List (List Nat)}{c:List Nat} (h : ∀ s∈L,s.length<=64) : ∀ k,(dK a b L c k).length<=k*64
 | 0=>b9 _
 | k+1=>by
   have h1:=z8 (a:=a) (b:=b) (c:=c) h k
   have h2:=oy (v:=stp a b (c.getD k 0)) (xs:=L.getD k []) (D:=dK a b L c k)
   have h3:(L.getD k []).length<=64:=by
    rw [bp]
    cases q:L[k]? with
    | none=>simp
    | some s=>simpa using h s (bL q)
   rw [dK,je];omega
theorem vC {a b x y:Nat}{L:List (List Nat)}{c:List Nat} : ∀ k,sK a b L c k x=some y->y=a\/y=b
 | 0,h=>by cases h
 | k+1,h=>by
   rw [sK] at h
   split at h
   ·injection h with h
    rw [<- h];unfold stp;split
    ·exact .inl rfl
    ·exact .inr rfl
   ·exact vC k h
theorem wA {a b x:Nat}{L:List (List Nat)}{c:List Nat} : ∀ k,(∃ i,i < k/\x∈L.getD i []) -> ∃ y,sK a b L c k x=some y
 | 0,⟨i,h,_⟩=>by omega
 | k+1,⟨i,h,hx⟩=>by
   rw [sK]
   by_cases z:x∈L.getD k []
   ·exact⟨_,if_pos z⟩
   ·rw [if_neg z]
    refine wA k ⟨i,?_,hx⟩
    rcases y4.mp h with q | q
    ·exact q
    ·subst q;exact absurd hx z
theorem tE {a b x y:Nat}{L:List (List Nat)}{c:List Nat} (h : ∀ s∈L,x∈s↔y∈s) : ∀ k,sK a b L c k x=sK a b L c k y
 | 0=>rfl
 | k+1=>by
   have:x∈L.getD k []↔y∈L.getD k []:=by
    rw [bp]
    cases q:L[k]? with
    | none=>simp
    | some s=>simpa using h s (bL q)
   rw [sK,sK,tE h k]
   by_cases z:x∈L.getD k []
   ·rw [if_pos z,if_pos (this.mp z)]
   ·rw [if_neg z,if_neg (fun w=>z (this.mpr w))]
noncomputable def chF (a b:Nat) (L:List (List Nat)) (c:List Nat) (x:Nat):Nat:=(sK a b L c L.length x).getD 0
noncomputable def goF (T:Nat->Nat->Nat) (ch:Nat->Nat) (x:Nat):Nat:=T x (ch x)
theorem Dy {t n x:Nat} (g:Grp m T) (ht:t < m) (hn:0 < n) (h0:pw T t n=0) (hx:x < m) : ∃ i,i < (eE m T t n).length/\x∈(eE m T t n).getD i []:=by
 have hself:x∈orb T t n x:=aQ.mpr ⟨0,aU.mpr hn,g.r0 x hx⟩
 obtain⟨y,hy,hmin⟩ : ∃ y∈orb T t n x,∀ z∈orb T t n x,y<=z:=by
  have : ∀ (l:List Nat),l ≠ [] -> ∃ y∈l,∀ z∈l,y<=z:=by
   intro l hl
   induction l with
   | nil=>exact absurd rfl hl
   | cons w l ih=>
     by_cases hl2:l = []
     ·subst hl2;exact⟨w,by simp,by simp⟩
     ·obtain⟨y,hy,hm⟩:=ih hl2
      by_cases hwy:w<=y
      ·exact⟨w,by simp,fun z hz=>by rcases aG.mp hz with rfl | hz;exact aj _;exact br hwy (hm z hz)⟩
      ·exact⟨y,az _ hy,fun z hz=>by rcases aG.mp hz with rfl | hz;omega;exact hm z hz⟩
  exact this _ (List.ne_nil_of_mem hself)
 have hym:y < m:=by
  obtain⟨i,_,rfl⟩:=aQ.mp hy
  exact g.cl _ _ hx (gE g ht i)
 have hxy:=mj g ht hn h0 hx hy
 have hmy:i8 T t n y=true:=kH.mpr fun z hz=>hmin z (kI g ht h0 hx hy hz)
 have hmem:srt (orb T t n y)∈eE m T t n:=aQ.mpr ⟨y,fK.mpr ⟨aU.mpr hym,hmy⟩,rfl⟩
 obtain⟨i,hi,e⟩:=List.mem_iff_getElem.mp hmem
 refine⟨i,hi,?_⟩
 rw [bp,aS hi]
 show x∈(eE m T t n)[i]
 rw [e];exact lQ.mpr hxy
theorem zH {t n x:Nat} (g:Grp m T) (ht:t < m) (hn:0 < n) (h0:pw T t n=0) (hx:x < m) : ∀ s∈eE m T t n,T x t∈s↔x∈s:=by
 intro s hs
 obtain⟨y,hy,rfl⟩:=aQ.mp hs
 have hym:=aU.mp (fK.mp hy).1
 have hxt:T x t∈orb T t n x:=by
  by_cases h1:n=1
  ·subst h1
   have:t=0:=by have:T 0 t=0:=h0;rwa [g.l0 t ht] at this
   subst this
   exact aQ.mpr ⟨0,by simp,rfl⟩
  ·refine aQ.mpr ⟨1,aU.mpr (by omega),?_⟩
   show T x (T 0 t)=T x t
   rw [g.l0 t ht]
 rw [lQ,lQ]
 constructor
 ·intro h
  exact kI g ht h0 hym h (mj g ht hn h0 hx hxt)
 ·intro h
  exact kI g ht h0 hym h hxt
theorem xc {t n:Nat} (hn:n<=64) : ∀ s∈eE m T t n,s.length<=64:=fun s hs=>by
 obtain⟨y,_,rfl⟩:=aQ.mp hs
 rw [nW];simpa [orb] using hn
theorem zk {a b t n x:Nat}{c:List Nat} (g:Grp m T) (ht:t < m) (hn:0 < n) (h0:pw T t n=0) (hx:x < m):sK a b (eE m T t n) c (eE m T t n).length x=some (chF a b (eE m T t n) c x):=by
 obtain⟨y,hy⟩:=wA (a:=a) (b:=b) (c:=c) _ (Dy g ht hn h0 hx)
 unfold chF;rw [hy];rfl
theorem go_inj {a b n:Nat}{c:List Nat} (g:Grp m T) (ha:a < m) (hb:b < m) (hn:0 < n) (h0:pw T (T a (unT m T b)) n=0):Inj m (goF T (chF a b (eE m T (T a (unT m T b)) n) c)):=by
 have hu:=DB g hb
 have ht:T a (unT m T b) < m:=g.cl _ _ ha hu
 generalize hL:eE m T (T a (unT m T b)) n=L
 have val : ∀ x,x < m->chF a b L c x=a\/chF a b L c x=b:=fun x hx=>by
  have:=zk (a:=a) (b:=b) (c:=c) g ht hn h0 hx
  rw [hL] at this
  exact vC _ this
 have same : ∀ x,x < m->chF a b L c (T x (T a (unT m T b)))=chF a b L c x:=fun x hx=>by
  unfold chF
  rw [tE (fun s hs=>zH g ht hn h0 hx s (hL▸hs))]
 have lt : ∀ x,x < m->chF a b L c x < m:=fun x hx=>by rcases val x hx with e | e <;> rw [e] <;> assumption
 have key : ∀ x y,x < m->y < m->T x a=T y b->y=T x (T a (unT m T b)):=fun x y hx hy e=>by
  rw [<- g.as x a _ hx ha hu,e,g.as y b _ hy hb hu,JT g hb,g.r0 y hy]
 refine⟨fun x hx=>g.cl _ _ hx (lt x hx),fun x y hx hy e => ?_⟩
 unfold goF at e
 by_cases hc:chF a b L c x=chF a b L c y
 ·rw [hc] at e
  exact g.cancelR (lt y hy) hx hy e
 ·rcases val x hx with e1 | e1 <;> rcases val y hy with e2 | e2
  ·exact absurd (e1.trans e2.symm) hc
  ·rw [e1,e2] at e
   have h:=same x hx
   rw [<- key x y hx hy e] at h
   exact absurd h.symm hc
  ·rw [e1,e2] at e
   have h:=same y hy
   rw [<- key y x hy hx e.symm] at h
   exact absurd h hc
  ·exact absurd (e1.trans e2.symm) hc
theorem qJ {g:MG}{b:MS}{n:Nat}{us:List U} (xs:List U) (hlen:us.length=xs.length) (P:Nat->Rho->Sto->Prop) (hl : ∀ k ρ S,P k ρ S->getL S n=some xs)
  (st : ∀ (k:Nat) (x y:U) (ρ:Rho) (S:Sto),xs[k]? = some x->us[k]? = some y->P k ρ S -> ∃ ρ1 S1 ρ' S',g (.tup [x,y]) ρ S=some (ρ1,S1)/\b ρ1 S1=some (.nx,ρ',S')/\P (k+1) ρ' S') :
  ∀ (f k:Nat) (ρ:Rho) (S:Sto),k<=xs.length->xs.length - k < f->P k ρ S -> ∃ ρ' S',nC g b n us f k ρ S=some (.nx,ρ',S')/\P xs.length ρ' S'
 | 0,k,ρ,S,h1,h2,_=>by omega
 | f+1,k,ρ,S,h1,h2,hp=>by
   unfold nC
   rw [hl k ρ S hp]
   simp only [ah]
   by_cases hk:k < xs.length
   ·have hu:xs[k]? = some xs[k]:=by simp [hk]
    have hk2:k < us.length:=by omega
    have hv:us[k]? = some us[k]:=by simp [hk2]
    obtain⟨ρ0,S0,ρ1,S1,e0,e1,p1⟩:=st k xs[k] us[k] ρ S hu hv hp
    obtain⟨ρ2,S2,e2,p2⟩:=qJ xs hlen P hl st f (k+1) ρ1 S1 (by omega) (by omega) p1
    refine⟨ρ2,S2,?_,p2⟩
    simp only [hu,hv,e0,ah,aft,e1,e2]
   ·have:k=xs.length:=by omega
    subst this
    exact⟨ρ,S,by simp,hp⟩
noncomputable def zgM (F:MF):MS:=ba (bC 3 jC) (ba (kU (gTp 2 (dM (gN 4) (dM (gN 5) kT))) (rA (aa (mFn F (aa (ab 0) (aa (ab 1) ai))) (aa (ab 2) ai))) (dD 6 (cM (ab 4)) (dy (ab 3) (ab 6) (m2 oIx (ab 1) (ab 5))))) (cK (ab 3)))
theorem zw {F:MF}{a b:Nat}{L:List (List Nat)}{c:List Nat}{tb:U} (hF : ∀ S,∃ r S',F [tb,.tup [.int (a:Nat),.int (b:Nat)]] S=some (.ref r,S')/\Ex S S'/\S'[r]? = some (.lst (dc L))) (hL : ∀ s∈L,s.length<=64) (hl:L.length < 64) (hc:c.length=L.length) (hc2 : ∀ x∈c,x < 2) :
  ∃ d S',G.run 3 7 (zgM F) [tb,.tup [.int (a:Nat),.int (b:Nat)],.tup (ao c)] S=some (.ref d,S')/\Ex S S'/\S'[d]? = some (.dic (dK a b L c L.length)):=by
 obtain⟨r,S1,e1,x1,g1⟩:=hF (S ++ [Cell.dic []])
 have d1:S1[S.length]? = some (Cell.dic []):=x1.some (bV _ _)
 have hrd:r≠S.length:=fun z=>by rw [z,d1] at g1;cases g1
 have hz:(dc L).length=L.length:=by simp [dc,tups]
 obtain⟨ρ2,S2,e2,⟨u4,u5,u6,rfl⟩,x2,q2,r2⟩:=qJ (g:=gTp 2 (dM (gN 4) (dM (gN 5) kT))) (b:=dD 6 (cM (ab 4)) (dy (ab 3) (ab 6) (m2 oIx (ab 1) (ab 5)))) (n:=r) (us:=ao c) (dc L) (by rw [bM,hz,hc])
  (fun k ρ S'=>(∃ u4 u5 u6,ρ = [some tb,some (.tup [.int (a:Nat),.int (b:Nat)]),some (.tup (ao c)),some (.ref S.length),u4,u5,u6])/\Ex S S'/\S'[S.length]? = some (.dic (dK a b L c k))/\S'[r]? = some (.lst (dc L))) (fun k ρ S' hp=>by unfold getL;rw [hp.2.2.2]) (by
   rintro k x y ρ S' hx hy ⟨⟨u4,u5,u6,rfl⟩,xs,qs,rs⟩
   have hk:k < L.length:=by have:=(ae.mp hx).1;rwa [hz] at this
   have hx':x = .tup (ao (L.getD k [])):=by
    unfold dc tups at hx
    rw [bo,aS hk] at hx
    rw [bp,aS hk]
    simpa using hx.symm
   subst hx'
   have hkc:k < c.length:=by omega
   have hy':y = .int (c.getD k 0:Nat):=by
    unfold ao at hy
    rw [bo,aS hkc] at hy
    rw [bp,aS hkc]
    simpa using hy.symm
   subst hy'
   have hcl:c.getD k 0 < 2:=by rw [bp,aS hkc];exact hc2 _ (hV hkc)
   have hsl:(L.getD k []).length<=64:=by rw [bp,aS hk];exact hL _ (hV hk)
   have hdl:=z8 (a:=a) (b:=b) (c:=c) hL k
   generalize hsd:L.getD k []=sd at *
   have hv : ∀ (z:Option U) (S':Sto),m2 oIx (ab 1) (ab 5) [some tb,some (.tup [.int (a:Nat),.int (b:Nat)]),some (.tup (ao c)),some (.ref S.length),some (.tup (ao sd)),some (.int (c.getD k 0:Nat)),z] S'=some (.int (stp a b (c.getD k 0):Nat),S'):=fun z S'=>by
    refine AO (us := [.int (a:Nat),.int (b:Nat)]) (var_eq rfl) (var_eq rfl) ?_
    generalize c.getD k 0=cc at hcl
    rcases y4.mp hcl with q | q
    ·have:cc=0:=by omega
     subst this;rfl
    ·subst q;rfl
   obtain⟨ρ3,S3,e3,⟨u6',rfl⟩,x3,q3,r3⟩:=o3 (i:=6) (e:=ab 4) (us:=ao sd) (b:=dy (ab 3) (ab 6) (m2 oIx (ab 1) (ab 5))) (ρ := [some tb,some (.tup [.int (a:Nat),.int (b:Nat)]),some (.tup (ao c)),some (.ref S.length),some (.tup (ao sd)),some (.int (c.getD k 0:Nat)),u6]) (S:=S') (S1:=S') (var_eq rfl)
    (fun j ρ S3=>(∃ z,ρ = [some tb,some (.tup [.int (a:Nat),.int (b:Nat)]),some (.tup (ao c)),some (.ref S.length),some (.tup (ao sd)),some (.int (c.getD k 0:Nat)),z])/\Ex S S3/\S3[S.length]? = some (.dic (p5 (dK a b L c k) (sd.take j) (stp a b (c.getD k 0))))/\S3[r]? = some (.lst (dc L)))
    ⟨⟨_,rfl⟩,xs,by simpa [p5] using qs,rs⟩ (by
     rintro j u ρ S3 hu ⟨⟨z,rfl⟩,x3,q3,r3⟩
     obtain⟨w,hw,rfl⟩:=i0 hu
     have hj:j < sd.length:=(ae.mp hw).1
     have hpl:=oy (v:=stp a b (c.getD k 0)) (xs:=sd.take j) (D:=dK a b L c k)
     have htl:(sd.take j).length<=64:=by rw [rj];omega
     have:=DW (ρ := [some tb,some (.tup [.int (a:Nat),.int (b:Nat)]),some (.tup (ao c)),some (.ref S.length),some (.tup (ao sd)),some (.int (c.getD k 0:Nat)),some (.int (w:Nat))]) (S:=S3) (o:=ab 3) (i:=ab 6) (hv _ S3) (var_eq rfl) (var_eq rfl) q3 (by
      have h3:k*64<=64*64:=cD _ (by omega)
      unfold big;omega)
     refine⟨_,_,this,⟨_,rfl⟩,x3.set (aj _),?_,?_⟩
     ·rw [aH (ae.mp q3).1,pY,hw]
      simp [p5]
     ·rw [aA (fun z=>hrd z.symm)];exact r3)
   rw [bM,List.take_of_length_le (aj _)] at q3
   refine⟨_,_,_,S3,rfl,e3,⟨_,_,_,rfl⟩,x3,?_,r3⟩
   rw [dK,hsd];exact q3) fuel 0 [some tb,some (.tup [.int (a:Nat),.int (b:Nat)]),some (.tup (ao c)),some (.ref S.length),none,none,none] S1 (b9 _) (by rw [hz];unfold fuel;omega) ⟨⟨_,_,_,rfl⟩,(Ex.push _ _).trans x1,d1,g1⟩
 rw [hz] at q2
 have hi:rA (aa (mFn F (aa (ab 0) (aa (ab 1) ai))) (aa (ab 2) ai)) [some tb,some (.tup [.int (a:Nat),.int (b:Nat)]),some (.tup (ao c)),some (.ref S.length),none,none,none] (S ++ [Cell.dic []])=some (.zlt r (ao c),S1):=by
  have h1:=mc (dn (f:=F) (a:=ab 0) (b:=ab 1) (ρ := [some tb,some (.tup [.int (a:Nat),.int (b:Nat)]),some (.tup (ao c)),some (.ref S.length),none,none,none]) (var_eq rfl) (var_eq rfl) e1) (mc (a:=ab 2) (x := .tup (ao c)) (var_eq rfl) (show ai _ _=_ from rfl))
  have h2:getL S1 r=some (dc L):=by unfold getL;rw [g1]
  simp only [rA,h1,aD,h2,aT]
 have ef:kU (gTp 2 (dM (gN 4) (dM (gN 5) kT))) (rA (aa (mFn F (aa (ab 0) (aa (ab 1) ai))) (aa (ab 2) ai))) (dD 6 (cM (ab 4)) (dy (ab 3) (ab 6) (m2 oIx (ab 1) (ab 5)))) [some tb,some (.tup [.int (a:Nat),.int (b:Nat)]),some (.tup (ao c)),some (.ref S.length),none,none,none] (S ++ [Cell.dic []])=some (.nx,[some tb,some (.tup [.int (a:Nat),.int (b:Nat)]),some (.tup (ao c)),some (.ref S.length),u4,u5,u6],S2):=by
  unfold kU
  rw [hi]
  exact e2
 exact⟨S.length,S2,cw (ρ := [some tb,some (.tup [.int (a:Nat),.int (b:Nat)]),some (.tup (ao c)),some (.ref S.length),u4,u5,u6]) rfl ((aO (bq rfl)).trans ((aO ef).trans (cj (var_eq rfl)))),x2,q2⟩
end
section
variable {m:Nat}{T:Nat->Nat->Nat}{S:Sto}{D:List (L2.Key×U)}{ch:Nat->Nat}
structure Cho (m:Nat) (T:Nat->Nat->Nat) (D:List (L2.Key×U)) (ch:Nat->Nat):Prop where
 val : ∀ x,x < m->hG D (.inl ((x:Nat):Int))=some (.int (ch x:Nat))
 lt : ∀ x,x < m->ch x < m
 inj:Inj m (goF T ch)
theorem wL {c c':Cell}:(S ++ [c]).set S.length c'=S ++ [c']:=by
 rw [cZ _ _ (aj _),lK];rfl
theorem Aa {ρ:Rho}{e:ME}{d y:Nat} (C:Cho m T D ch) (h0:ab 0 ρ S=some (tab m T,S)) (h1:ab 1 ρ S=some (.ref d,S)) (hd:S[d]? = some (.dic D)) (hy:y < m) (he:e ρ S=some (.int (y:Nat),S)):m2 oIx (m2 oIx (ab 0) e) (m2 oIx (ab 1) e) ρ S=some (.int (goF T ch y:Nat),S):=
 iP (T:=T) (i:=y) (j:=ch y) (C.lt y hy) (ip hy h0 he) (FJ h1 he hd (C.val y hy))
noncomputable def rfB:MS:=ba (cy (mML bH (ab 3) (aa (ab 4) ai))) (bC 4 (m2 oIx (m2 oIx (ab 0) (ab 4)) (m2 oIx (ab 1) (ab 4))))
theorem DO {d x:Nat} (C:Cho m T D ch) (hm:m < 64) (hd:S[d]? = some (.dic D)) (hx:x < m):eB [tab m T,.ref d,.int (x:Nat)] S=some (.tup (ao (rg m (goF T ch) x)),S ++ [.lst (ao (rg m (goF T ch) x))]):=by
 obtain⟨p1,p2,p3,p4⟩:=jU C.inj hx
 unfold rg
 generalize hn:j9 m (goF T ch) x=n at p1 p2 p3 p4
 obtain⟨ρ1,S1,e1,rfl,rfl⟩:=oi (c:=cOf (m2 oNe (ab 4) (ab 2))) (b:=rfB) (fun μ ρ S' => ∃ j,1<=j/\j<=n/\μ=n - j/\ρ = [some (tab m T),some (.ref d),some (.int (x:Nat)),some (.ref S.length),some (.int (itF (goF T ch) j x:Nat))]/\S'=S ++ [.lst (ao (rgK (goF T ch) x j))])
  (fun ρ S'=>ρ = [some (tab m T),some (.ref d),some (.int (x:Nat)),some (.ref S.length),some (.int (itF (goF T ch) n x:Nat))]/\S'=S ++ [.lst (ao (rgK (goF T ch) x n))]) (by
  rintro μ ρ S' ⟨j,j1,j2,rfl,rfl,rfl⟩
  have ec:=of_eq (F3 (ρ := [some (tab m T),some (.ref d),some (.int (x:Nat)),some (.ref S.length),some (.int (itF (goF T ch) j x:Nat))]) (S:=S ++ [.lst (ao (rgK (goF T ch) x j))]) (a:=ab 4) (b:=ab 2) (x:=itF (goF T ch) j x) (y:=x) (var_eq rfl) (var_eq rfl))
  refine⟨_,_,ec,fun hf => ?_,fun hf => ?_⟩
  ·have hin:itF (goF T ch) j x=x:=by simpa using hf
   have:j=n:=by
    apply cP
    intro z
    exact p4 j j1 (by omega) hin
   subst this
   exact⟨rfl,rfl⟩
  ·have hin:itF (goF T ch) j x≠x:=by simpa using hf
   have hj:j < n:=by
    apply cP
    intro z
    have:j=n:=by omega
    subst this
    exact hin p3
   have ea:=append_eq (ρ := [some (tab m T),some (.ref d),some (.int (x:Nat)),some (.ref S.length),some (.int (itF (goF T ch) j x:Nat))]) (S:=S ++ [.lst (ao (rgK (goF T ch) x j))]) (o:=ab 3) (a:=ab 4) (u := .int (itF (goF T ch) j x:Nat)) (var_eq rfl) (var_eq rfl) (bV _ _) (bV _ _) (by rw [bM,nX];unfold big;omega)
   have hs:(S ++ [Cell.lst (ao (rgK (goF T ch) x j))]).set S.length (.lst (ao (rgK (goF T ch) x j) ++ [.int (itF (goF T ch) j x:Nat)]))=S ++ [.lst (ao (rgK (goF T ch) x (j+1)))]:=by
    rw [wL,pk];simp [ao]
   rw [hs] at ea
   have hd':(S ++ [Cell.lst (ao (rgK (goF T ch) x (j+1)))])[d]? = some (.dic D):=(Ex.push _ _).some hd
   refine⟨_,_,n - (j+1),by omega,(aO ea).trans (bq (Aa C rfl rfl hd' (jr C.inj hx j) (var_eq rfl))),j+1,by omega,by omega,rfl,rfl,rfl⟩) fuel (n - 1) [some (tab m T),some (.ref d),some (.int (x:Nat)),some (.ref S.length),some (.int (goF T ch x:Nat))] (S ++ [.lst (ao [x])]) (by unfold fuel;omega) ⟨1,aj _,p1,rfl,rfl,rfl⟩
 refine cw (ρ := [some (tab m T),some (.ref d),some (.int (x:Nat)),some (.ref S.length),some (.int (itF (goF T ch) n x:Nat))]) rfl ?_
 have hd':(S ++ [Cell.lst [U.int (x:Nat)]])[d]? = some (.dic D):=(Ex.push _ _).some hd
 exact (aO (bq (zd (var_eq rfl)))).trans ((aO (bq (Aa C rfl rfl hd' hx (var_eq rfl)))).trans ((aO e1).trans (cj (iY (var_eq rfl) (bV _ _)))))
noncomputable def lrC:MT:=cOf (m2 oNe (m2 oIx (m2 oIx (ab 0) (m2 oIx (ab 5) (m1 h9 (mC (.int 1))))) (m2 oIx (ab 1) (m2 oIx (ab 5) (m1 h9 (mC (.int 1)))))) (ab 4))
noncomputable def lrB:MS:=cy (mML bH (ab 5) (aa (m2 oIx (m2 oIx (ab 0) (m2 oIx (ab 5) (m1 h9 (mC (.int 1))))) (m2 oIx (ab 1) (m2 oIx (ab 5) (m1 h9 (mC (.int 1)))))) ai))
theorem zW {d x:Nat}{a2 a3:Option U} (C:Cho m T D ch) (hm:m < 64) (hd:S[d]? = some (.dic D)) (hx:x < m):gU lrC lrB [some (tab m T),some (.ref d),a2,a3,some (.int (x:Nat)),some (.ref S.length)] (S ++ [.lst (ao [x])])=some (.nx,[some (tab m T),some (.ref d),a2,a3,some (.int (x:Nat)),some (.ref S.length)],S ++ [.lst (ao (rg m (goF T ch) x))]):=by
 obtain⟨p1,p2,p3,p4⟩:=jU C.inj hx
 unfold rg
 generalize hn:j9 m (goF T ch) x=n at p1 p2 p3 p4
 obtain⟨ρ1,S1,e1,rfl,rfl⟩:=oi (c:=lrC) (b:=lrB) (fun μ ρ S' => ∃ j,j+1<=n/\μ=n - (j+1)/\ρ = [some (tab m T),some (.ref d),a2,a3,some (.int (x:Nat)),some (.ref S.length)]/\S'=S ++ [.lst (ao (rgK (goF T ch) x (j+1)))])
  (fun ρ S'=>ρ = [some (tab m T),some (.ref d),a2,a3,some (.int (x:Nat)),some (.ref S.length)]/\S'=S ++ [.lst (ao (rgK (goF T ch) x n))]) (by
  rintro μ ρ S' ⟨j,j2,rfl,rfl,rfl⟩
  have hd':(S ++ [Cell.lst (ao (rgK (goF T ch) x (j+1)))])[d]? = some (.dic D):=(Ex.push _ _).some hd
  have hne:rgK (goF T ch) x (j+1) ≠ []:=fun z=>by have:=congrArg s9 z;rw [nX] at this;simp at this
  have hlast:atI (ao (rgK (goF T ch) x (j+1))) (-1)=some (.int (itF (goF T ch) j x:Nat)):=by rw [CV hne,pk,oE]
  have el:m2 oIx (ab 5) (m1 h9 (mC (.int 1))) [some (tab m T),some (.ref d),a2,a3,some (.int (x:Nat)),some (.ref S.length)] (S ++ [Cell.lst (ao (rgK (goF T ch) x (j+1)))])=some (.int (itF (goF T ch) j x:Nat),S ++ [Cell.lst (ao (rgK (goF T ch) x (j+1)))]):=uP (var_eq rfl) HL (bV _ _) hlast
  have eg:=Aa (ρ := [some (tab m T),some (.ref d),a2,a3,some (.int (x:Nat)),some (.ref S.length)]) C rfl rfl hd' (jr C.inj hx j) el
  have ec:=of_eq (F3 (b:=ab 4) (x:=itF (goF T ch) (j+1) x) (y:=x) eg (var_eq rfl))
  refine⟨_,_,ec,fun hf => ?_,fun hf => ?_⟩
  ·have hin:itF (goF T ch) (j+1) x=x:=by simpa using hf
   have:j+1=n:=by
    apply cP
    intro z
    exact p4 (j+1) (by omega) (by omega) hin
   subst this
   exact⟨rfl,rfl⟩
  ·have hin:itF (goF T ch) (j+1) x≠x:=by simpa using hf
   have hj:j+1 < n:=by
    apply cP
    intro z
    have:j+1=n:=by omega
    subst this
    exact hin p3
   have ea:=append_eq (ρ := [some (tab m T),some (.ref d),a2,a3,some (.int (x:Nat)),some (.ref S.length)]) (o:=ab 5) (var_eq rfl) eg (bV _ _) (bV _ _) (by rw [bM,nX];unfold big;omega)
   have hs:(S ++ [Cell.lst (ao (rgK (goF T ch) x (j+1)))]).set S.length (.lst (ao (rgK (goF T ch) x (j+1)) ++ [.int (goF T ch (itF (goF T ch) j x):Nat)]))=S ++ [.lst (ao (rgK (goF T ch) x (j+1+1)))]:=by
    rw [wL,pk (k:=j+1)];simp [ao,itF]
   rw [hs] at ea
   exact⟨_,_,n - (j+1+1),by omega,ea,j+1,by omega,rfl,rfl,rfl⟩) fuel (n - 1) [some (tab m T),some (.ref d),a2,a3,some (.int (x:Nat)),some (.ref S.length)] (S ++ [.lst (ao [x])]) (by unfold fuel;omega) ⟨0,p1,rfl,rfl,rfl⟩
 exact e1
noncomputable def lrF:MS:=sIf (cOf (m2 fX (ab 4) (ab 3))) (ba (bC 5 (cm (aa (ab 4) ai))) (ba (gU lrC lrB) (ba (cy (mML iJ (ab 3) (aa (ab 5) ai))) (cy (mML bH (ab 2) (aa (mFn bG (aa (ab 5) ai)) ai)))))) cJ
theorem xZ {d:Nat} (C:Cho m T D ch) (hm:m < 64) (hd:S[d]? = some (.dic D)) : ∃ S',iF [tab m T,.ref d] S=some (.ref S.length,S')/\Ex S S'/\S'[S.length]? = some (.lst (tups (sdG (rg m (goF T ch)) m).1)):=by
 have hq : ∀ i,i < m->(rg m (goF T ch) i).length<=64:=fun i hi=>by rw [jO];have:=oO C.inj hi;omega
 obtain⟨ρ1,S1,e1,⟨u4,u5,rfl⟩,x1,g1,_⟩:=fS (i:=4) (a:=mFn bW (aa (ab 0) ai)) (n:=m) (b:=lrF) (ρ := [some (tab m T),some (.ref d),some (.ref S.length),some (.ref (S.length+1)),none,none]) (S:=S ++ [.lst []] ++ [.lst []]) (len_tab (var_eq rfl)) (by unfold big;omega)
  (fun k ρ S'=>(∃ u v,ρ = [some (tab m T),some (.ref d),some (.ref S.length),some (.ref (S.length+1)),u,v])/\Ex S S'/\S'[S.length]? = some (.lst (tups (sdG (rg m (goF T ch)) k).1))/\S'[S.length+1]? = some (.lst (ao (sdG (rg m (goF T ch)) k).2)))
  ⟨⟨_,_,rfl⟩,(Ex.push _ _).trans (Ex.push _ _),(Ex.push _ _).some (bV _ _),by
   have:=bV (S ++ [Cell.lst []]) (Cell.lst [])
   rw [bE] at this
   exact this⟩ (by
   rintro k ρ S' hk ⟨⟨u,v,rfl⟩,x1,g1,g2⟩
   have ec:=Dh (ρ := [some (tab m T),some (.ref d),some (.ref S.length),some (.ref (S.length+1)),some (.int (k:Nat)),v]) (S:=S') (a:=ab 4) (b:=ab 3) (x:=k) (var_eq rfl) (var_eq rfl) g2
   by_cases hin:k∈(sdG (rg m (goF T ch)) k).2
   ·rw [decide_eq_true hin] at ec
    refine⟨_,S',(kK ec).trans rfl,⟨_,_,rfl⟩,x1,?_,?_⟩
    ·rw [sdG,if_pos hin];exact g1
    ·rw [sdG,if_pos hin];exact g2
   ·rw [decide_eq_false hin] at ec
    have hd1:=x1.some hd
    have ew:=zW (S:=S') (a2:=some (.ref S.length)) (a3:=some (.ref (S.length+1))) C hm hd1 hk
    have hbd:=AF (q:=rg m (goF T ch)) (B:=64) k fun i hi=>hq i (by omega)
    have hkl:=hq k hk
    have h64:k*64<=64*64:=cD _ (by omega)
    have l1:S.length+1 < S'.length:=(ae.mp g2).1
    generalize hR:rg m (goF T ch) k=R at ew hkl
    have ee:=xK (ρ := [some (tab m T),some (.ref d),some (.ref S.length),some (.ref (S.length+1)),some (.int (k:Nat)),some (.ref S'.length)]) (S:=S' ++ [.lst (ao R)]) (o:=ab 3) (a:=ab 5) (var_eq rfl) (var_eq rfl) ((Ex.push _ _).some g2) ((Ex.push _ _).some g2) (bV _ _) (by rw [bM,bM];unfold big;omega)
    have n1:(S' ++ [Cell.lst (ao R)]).set (S.length+1) (.lst (ao (sdG (rg m (goF T ch)) k).2++ao R))=S'.set (S.length+1) (.lst (ao ((sdG (rg m (goF T ch)) k).2++R))) ++ [Cell.lst (ao R)]:=by
     rw [List.set_append_left _ _ l1];simp [ao]
    rw [n1] at ee
    have pg : ∀ (X:Sto) (c:Cell),X.length=S'.length->(X ++ [c])[S'.length]? = some c:=fun X c h=>by rw [<- h];exact bV _ _
    have g3:(S'.set (S.length+1) (.lst (ao ((sdG (rg m (goF T ch)) k).2++R))) ++ [Cell.lst (ao R)])[S'.length]? = some (.lst (ao R)):=pg _ _ (by simp)
    have g4:(S'.set (S.length+1) (.lst (ao ((sdG (rg m (goF T ch)) k).2++R))) ++ [Cell.lst (ao R)])[S.length]? = some (.lst (tups (sdG (rg m (goF T ch)) k).1)):=(Ex.push _ _).some (by rw [aA (by omega)];exact g1)
    have g5:(S'.set (S.length+1) (.lst (ao ((sdG (rg m (goF T ch)) k).2++R))) ++ [Cell.lst (ao R)])[S.length+1]? = some (.lst (ao ((sdG (rg m (goF T ch)) k).2++R))):=(Ex.push _ _).some (aH l1)
    have x5:Ex S (S'.set (S.length+1) (.lst (ao ((sdG (rg m (goF T ch)) k).2++R))) ++ [Cell.lst (ao R)]):=(x1.set (by omega)).trans (Ex.push _ _)
    generalize S'.set (S.length+1) (.lst (ao ((sdG (rg m (goF T ch)) k).2++R))) ++ [Cell.lst (ao R)]=S5 at ee g3 g4 g5 x5
    have hfl:=rD (q:=rg m (goF T ch)) k
    have ea:=append_eq (ρ := [some (tab m T),some (.ref d),some (.ref S.length),some (.ref (S.length+1)),some (.int (k:Nat)),some (.ref S'.length)]) (S:=S5) (o:=ab 2) (r:=S.length) (var_eq rfl) (iY (a:=ab 5) (var_eq rfl) g3) g4 g4 (by unfold tups;rw [aq];unfold big;omega)
    refine⟨_,_,(mI ec).trans ((aO (bq (zd (var_eq rfl)))).trans ((aO ew).trans ((aO ee).trans ea))),⟨_,_,rfl⟩,x5.set (aj _),?_,?_⟩
    ·rw [aH (ae.mp g4).1,sdG,if_neg hin,hR]
     simp [tups]
    ·rw [aA (by omega),sdG,if_neg hin,hR]
     exact g5)
 refine⟨S1,cw (ρ := [some (tab m T),some (.ref d),some (.ref S.length),some (.ref (S.length+1)),u4,u5]) rfl ?_,x1,g1⟩
 have en:cm ai [some (tab m T),some (.ref d),some (.ref S.length),none,none,none] (S ++ [Cell.lst []])=some (.ref (S.length+1),S ++ [Cell.lst []] ++ [Cell.lst []]):=by
  rw [iK];simp
 exact (aO (bq iK)).trans ((aO (bq en)).trans ((aO e1).trans (cj (var_eq rfl))))
end
section
variable {m:Nat}{T:Nat->Nat->Nat}{S:Sto}{a b p:Nat}{c:List Nat}
abbrev tOf (m:Nat) (T:Nat->Nat->Nat) (a b:Nat):Nat:=T a (unT m T b)
abbrev lOf (m:Nat) (T:Nat->Nat->Nat) (a b p:Nat):List (List Nat):=eE m T (tOf m T a b) p
abbrev hX (m:Nat) (T:Nat->Nat->Nat) (a b p:Nat) (c:List Nat):Nat->Nat:=chF a b (lOf m T a b p) c
abbrev rOf (m:Nat) (T:Nat->Nat->Nat) (a b p:Nat) (c:List Nat):Nat->List Nat:=rg m (goF T (hX m T a b p c))
abbrev dOf (m:Nat) (T:Nat->Nat->Nat) (a b p:Nat) (c:List Nat):List (L2.Key×U):=dK a b (lOf m T a b p) c (lOf m T a b p).length
structure Two (m:Nat) (T:Nat->Nat->Nat) (a b p:Nat) (c:List Nat):Prop where
 g:Grp m T
 hm:m < 60
 ha:a < m
 hb:b < m
 n0:1<=p
 n:p < 60
 h1 : ∀ k,1<=k->k < p->pw T (tOf m T a b) k≠0
 h0:pw T (tOf m T a b) p=0
 cl:c.length=(lOf m T a b p).length
 c2 : ∀ x∈c,x < 2
theorem Two.cho (w:Two m T a b p c):Cho m T (dOf m T a b p c) (hX m T a b p c):=by
 have ht:tOf m T a b < m:=w.g.cl _ _ w.ha (DB w.g w.hb)
 have hv : ∀ x,x < m->sK a b (lOf m T a b p) c (lOf m T a b p).length x=some (hX m T a b p c x):=fun x hx=>zk w.g ht w.n0 w.h0 hx
 refine⟨fun x hx => ?_,fun x hx => ?_,go_inj w.g w.ha w.hb w.n0 w.h0⟩
 ·show hG (dK a b (lOf m T a b p) c (lOf m T a b p).length) _=_
  rw [Au,hv x hx];rfl
 ·rcases vC _ (hv x hx) with e | e
  ·rw [e];exact w.ha
  ·rw [e];exact w.hb
theorem Two.len (w:Two m T a b p c):(lOf m T a b p).length < 60:=pO oW w.hm
theorem qU (w:Two m T a b p c) : ∃ d S',dw [tab m T,.tup [.int (a:Nat),.int (b:Nat)],.tup (ao c)] S=some (.ref d,S')/\Ex S S'/\S'[d]? = some (.dic (dOf m T a b p c)):=
 zw (F:=nT) (fun S=>by
  obtain⟨r,S',e,x,_,q⟩:=A6 (S:=S) w.g (by have:=w.hm;omega) w.ha w.hb rfl w.n0 (by have:=w.n;omega) w.h1 w.h0
  exact⟨r,S',e,x,q⟩) (xc (by have:=w.n;omega)) (by have:=w.len;omega) w.cl w.c2
theorem A9 (w:Two m T a b p c) : ∃ d S',iI [tab m T,.tup [.int (a:Nat),.int (b:Nat)],.tup (ao c)] S=some (.ref d,S')/\Ex S S'/\S'[d]? = some (.dic (dOf m T a b p c)):=
 zw (F:=dQ) (fun S=>qM (S:=S) w.g (by have:=w.hm;omega) w.ha w.hb rfl w.n0 (by have:=w.n;omega) w.h1 w.h0) (xc (by have:=w.n;omega)) (by have:=w.len;omega) w.cl w.c2
theorem Bj (w:Two m T a b p c) : ∃ r S',mB [tab m T,.tup [.int (a:Nat),.int (b:Nat)],.tup (ao c)] S=some (.ref r,S')/\Ex S S'/\S.length<=r/\S'[r]? = some (.lst (tups (sdG (rOf m T a b p c) m).1)):=by
 obtain⟨d,S1,e1,x1,g1⟩:=qU (S:=S) w
 have C:=w.cho
 have hm:=w.hm
 refine⟨S1.length,bK S1 (pcG (rOf m T a b p c) (fun i => [.lst (ao (rOf m T a b p c i))]) m),cw (ρ := [some (tab m T),some (.tup [.int (a:Nat),.int (b:Nat)]),some (.tup (ao c)),some (.ref d)]) rfl ?_,x1.trans nD.1,x1.len,nD.2⟩
 refine (aO (bq (kZ (f:=dw) (var_eq rfl) (var_eq rfl) (var_eq rfl) e1))).trans (cj ?_)
 refine uX (cs := [.ref d,tab m T]) (fQ (f:=hC) (var_eq rfl) (DT (by omega))) rfl fun f=>v5 (by omega) (fun k hk=>by rw [jO];have:=oO C.inj hk;omega) (fun i S' hi hx => ?_) f
 exact kZ (ρ := [some (.int (i:Nat)),some (.ref d),some (tab m T)]) (f:=eB) (a:=ab 2) (b:=ab 1) (c:=ab 0) (var_eq rfl) (var_eq rfl) (var_eq rfl) (DO C (by omega) (hx.some g1) hi)
theorem tT {ρ:Rho}{e:ME}{d i j:Nat}{l:List Nat} (w:Two m T a b p c) (he:e ρ S=some (.tup (ao l),S)) (hl:Lt m l) (hll:l.length < 1000) (hd:S[d]? = some (.dic (dOf m T a b p c))) (hi : ∀ z,(ρ ++ [z])[i]? = some (some (.ref d))) (hj : ∀ z,(ρ ++ [z])[j]? = some z):mFn bG (aa (bX (cM e) cTT (m2 oIx (ab i) (ab j))) ai) ρ S=some (.tup (ao (l.map (hX m T a b p c))),S ++ [.lst (ao (l.map (hX m T a b p c)))]):=by
 have h:=AC (e:=m2 oIx (ab i) (ab j)) (ρ:=ρ) (S:=S) (a:=e) (l:=l) (f:=fun x => .int (hX m T a b p c x:Nat)) he (by omega) (fun x hx=>FJ (var_eq (hi _)) (var_eq (hj _)) hd (w.cho.val x (hl x hx)))
 rw [show (l.map fun x=>U.int (hX m T a b p c x:Nat))=ao (l.map (hX m T a b p c)) by simp [ao]] at h
 exact eF h
theorem Cn (w:Two m T a b p c) : ∃ S',kB [tab m T,.tup [.int (a:Nat),.int (b:Nat)],.tup (ao c)] S=some (if j9 m (goF T (hX m T a b p c)) 0=m then .tup (ao ((rOf m T a b p c 0).map (hX m T a b p c))) else .non,S')/\Ex S S':=by
 obtain⟨d,S1,e1,x1,g1⟩:=qU (S:=S) w
 have C:=w.cho
 have hm:=w.hm
 have hp:=w.g.pos
 have e2:=DO (S:=S1) C (by omega) g1 hp
 have g2:(S1 ++ [Cell.lst (ao (rOf m T a b p c 0))])[d]? = some (.dic (dOf m T a b p c)):=(Ex.push _ _).some g1
 have x2:Ex S (S1 ++ [Cell.lst (ao (rOf m T a b p c 0))]):=x1.trans (Ex.push _ _)
 generalize hS2:S1 ++ [Cell.lst (ao (rOf m T a b p c 0))]=S2 at e2 g2 x2
 have hl:mFn bW (aa (ab 4) ai) [some (tab m T),some (.tup [.int (a:Nat),.int (b:Nat)]),some (.tup (ao c)),some (.ref d),some (.tup (ao (rOf m T a b p c 0)))] S2=some (.int (j9 m (goF T (hX m T a b p c)) 0:Nat),S2):=by
  have:=DZ (ρ := [some (tab m T),some (.tup [.int (a:Nat),.int (b:Nat)]),some (.tup (ao c)),some (.ref d),some (.tup (ao (rOf m T a b p c 0)))]) (S:=S2) (a:=ab 4) (us:=ao (rOf m T a b p c 0)) (var_eq rfl)
  rwa [bM,jO] at this
 have ec:=of_eq (EC (b:=mFn bW (aa (ab 0) ai)) (y:=m) hl (len_tab (var_eq rfl)))
 have et:=tT (ρ := [some (tab m T),some (.tup [.int (a:Nat),.int (b:Nat)]),some (.tup (ao c)),some (.ref d),some (.tup (ao (rOf m T a b p c 0)))]) (S:=S2) (e:=ab 4) (i:=3) (j:=5) w (var_eq rfl) (Ad C.inj hp) (by rw [jO];have:=oO C.inj hp;omega) g2 (fun _=>rfl) (fun _=>rfl)
 by_cases z:j9 m (goF T (hX m T a b p c)) 0=m
 ·rw [decide_eq_true z] at ec
  have ei:uR (cOf (m2 oEq (mFn bW (aa (ab 4) ai)) (mFn bW (aa (ab 0) ai)))) (mFn bG (aa (bX (cM (ab 4)) cTT (m2 oIx (ab 3) (ab 5))) ai)) (mC .non) [some (tab m T),some (.tup [.int (a:Nat),.int (b:Nat)]),some (.tup (ao c)),some (.ref d),some (.tup (ao (rOf m T a b p c 0)))] S2=some (.tup (ao ((rOf m T a b p c 0).map (hX m T a b p c))),S2 ++ [.lst (ao ((rOf m T a b p c 0).map (hX m T a b p c)))]):=by
   simp only [uR,ec,aD,if_true]
   exact et
  rw [if_pos z]
  exact⟨_,cw (ρ := [some (tab m T),some (.tup [.int (a:Nat),.int (b:Nat)]),some (.tup (ao c)),some (.ref d),some (.tup (ao (rOf m T a b p c 0)))]) rfl ((aO (bq (kZ (f:=dw) (var_eq rfl) (var_eq rfl) (var_eq rfl) e1))).trans ((aO (bq (kZ (f:=eB) (var_eq rfl) (var_eq rfl) (c_i (z:=((0:Nat):Int))) e2))).trans (cj ei))),x2.trans (Ex.push _ _)⟩
 ·rw [decide_eq_false z] at ec
  have ei:uR (cOf (m2 oEq (mFn bW (aa (ab 4) ai)) (mFn bW (aa (ab 0) ai)))) (mFn bG (aa (bX (cM (ab 4)) cTT (m2 oIx (ab 3) (ab 5))) ai)) (mC .non) [some (tab m T),some (.tup [.int (a:Nat),.int (b:Nat)]),some (.tup (ao c)),some (.ref d),some (.tup (ao (rOf m T a b p c 0)))] S2=some (.non,S2):=by
   simp only [uR,ec,aD]
   rfl
  rw [if_neg z]
  exact⟨_,cw (ρ := [some (tab m T),some (.tup [.int (a:Nat),.int (b:Nat)]),some (.tup (ao c)),some (.ref d),some (.tup (ao (rOf m T a b p c 0)))]) rfl ((aO (bq (kZ (f:=dw) (var_eq rfl) (var_eq rfl) (var_eq rfl) e1))).trans ((aO (bq (kZ (f:=eB) (var_eq rfl) (var_eq rfl) (c_i (z:=((0:Nat):Int))) e2))).trans (cj ei))),x2⟩
noncomputable def GJ:MS:=ba (bC 6 (mFn mB (aa (ab 0) (aa (ab 1) (aa (ab 2) ai))))) (ba (sIf (cOr (nL (cOf (m1 (jE "list") (ab 6)))) (cOr (cOf (m2 oNe (ab 6) (ab 4))) (nL (cOf (mFn sj (aa (bX (cM (ab 6)) cTT (m1 (jE "tuple") (ab 8))) ai)))))) (cK (mC (.bl false))) cJ) (cy (mML bH (ab 6) (aa (ft ai) ai))))
theorem Dm (w:Two m T a b p c) : ∃ S',eA [tab m T,.tup [.int (a:Nat),.int (b:Nat)],.tup (ao c)] S=some (.bl true,S')/\Ex S S':=by
 have C:=w.cho
 have hm:=w.hm
 have hp:=w.g.pos
 obtain⟨d,S1,e1,x1,g1⟩:=A9 (S:=S) w
 obtain⟨S2,e2,x2,g2⟩:=xZ (S:=S1) C (by omega) g1
 have hZl:=rD (q:=rOf m T a b p c) m
 have hone:=wG (q:=rOf m T a b p c) (m:=m) hp
 have hfirst:=nc (q:=rOf m T a b p c) (m:=m) hp
 have hpos:1<=(sdG (rOf m T a b p c) m).1.length:=(ae.mp hfirst.1).1
 generalize hZ:(sdG (rOf m T a b p c) m).1=Z at g2 hZl hone hfirst hpos
 have hr4:S1.length < S2.length:=(ae.mp g2).1
 obtain⟨ρ3,S3,e3,⟨u5,u6,rfl⟩,x3⟩:=fS (i:=5) (a:=mC (.int 2)) (n:=2) (b:=GJ) (ρ := [some (tab m T),some (.tup [.int (a:Nat),.int (b:Nat)]),some (.tup (ao c)),some (.ref d),some (.ref S1.length),none,none,none]) (S:=S2) rfl (by decide)
  (fun _ ρ S'=>(∃ u v,ρ = [some (tab m T),some (.tup [.int (a:Nat),.int (b:Nat)]),some (.tup (ao c)),some (.ref d),some (.ref S1.length),u,v,none])/\Ex S2 S') ⟨⟨_,_,rfl⟩,Ex.refl _⟩ (by
   rintro j ρ S' hj ⟨⟨u,v,rfl⟩,xs⟩
   obtain⟨r6,S6,f6,x6,hr6,hc6⟩:=Bj (S:=S') w
   rw [hZ] at hc6
   have c1:=not_eq (of_eq (isL (ρ := [some (tab m T),some (.tup [.int (a:Nat),.int (b:Nat)]),some (.tup (ao c)),some (.ref d),some (.ref S1.length),some (.int (j:Nat)),some (.ref r6),none]) (S:=S6) (a:=ab 6) (var_eq rfl) hc6))
   have c2:=of_eq (CH (ρ := [some (tab m T),some (.tup [.int (a:Nat),.int (b:Nat)]),some (.tup (ao c)),some (.ref d),some (.ref S1.length),some (.int (j:Nat)),some (.ref r6),none]) (S:=S6) (a:=ab 6) (b:=ab 4) (var_eq rfl) (var_eq rfl) hc6 ((xs.trans x6).some g2))
   obtain⟨S7,f7,x7⟩:=zx (i:=6) (ρ := [some (tab m T),some (.tup [.int (a:Nat),.int (b:Nat)]),some (.tup (ao c)),some (.ref d),some (.ref S1.length),some (.int (j:Nat)),some (.ref r6),none]) (S:=S6) rfl rfl hc6 (by omega)
   have c3:=W.or_false c1 (W.or_false c2 (not_eq (of_eq f7)))
   have hc7:=x7.some hc6
   have f8:=append_eq (ρ := [some (tab m T),some (.tup [.int (a:Nat),.int (b:Nat)]),some (.tup (ao c)),some (.ref d),some (.ref S1.length),some (.int (j:Nat)),some (.ref r6),none]) (S:=S7) (o:=ab 6) (a:=ft ai) (u := .tup []) (var_eq rfl) rfl hc7 hc7 (by unfold tups;rw [aq];unfold big;omega)
   exact⟨_,_,(aO (bq (kZ (f:=mB) (var_eq rfl) (var_eq rfl) (var_eq rfl) f6))).trans ((aO ((kK c3).trans rfl)).trans f8),⟨_,_,rfl⟩,((xs.trans x6).trans x7).set (br xs.len hr6)⟩)
 obtain⟨S4,e4,x4⟩:=Cn (S:=S3) w
 have g4:S4[S1.length]? = some (.lst (tups Z)):=(x3.trans x4).some g2
 have gd:S4[d]? = some (.dic (dOf m T a b p c)):=((x2.trans x3).trans x4).some g1
 have X:Ex S S4:=((x1.trans x2).trans x3).trans x4
 generalize htold:(if j9 m (goF T (hX m T a b p c)) 0=m then U.tup (ao ((rOf m T a b p c 0).map (hX m T a b p c))) else .non)=told at e4
 have ln:mFn bW (aa (ab 4) ai) [some (tab m T),some (.tup [.int (a:Nat),.int (b:Nat)]),some (.tup (ao c)),some (.ref d),some (.ref S1.length),u5,u6,some told] S4=some (.int (Z.length:Nat),S4):=by
  have:=uM (ρ := [some (tab m T),some (.tup [.int (a:Nat),.int (b:Nat)]),some (.tup (ao c)),some (.ref d),some (.ref S1.length),u5,u6,some told]) (S:=S4) (a:=ab 4) (var_eq rfl) g4
  rwa [show (tups Z).length=Z.length by simp [tups]] at this
 have ec:=of_eq (Bn (b:=mC (.int 1)) ln (c_i (z:=1)))
 have head : ∀ r S',(ba (sIf (cOf (m2 oGt (mFn bW (aa (ab 4) ai)) (mC (.int 1)))) (cK (m2 oIs (ab 7) (mC .non))) cJ) (cK (tF (m1 (jE "tuple") (ab 7)) (m2 oEq (ab 7) (mFn bG (aa (bX (cM (m2 oIx (ab 4) (mC (.int 0)))) cTT (m2 oIx (ab 3) (ab 8))) ai)))))) [some (tab m T),some (.tup [.int (a:Nat),.int (b:Nat)]),some (.tup (ao c)),some (.ref d),some (.ref S1.length),u5,u6,some told] S4=some (.rt r,[some (tab m T),some (.tup [.int (a:Nat),.int (b:Nat)]),some (.tup (ao c)),some (.ref d),some (.ref S1.length),u5,u6,some told],S')->eA [tab m T,.tup [.int (a:Nat),.int (b:Nat)],.tup (ao c)] S=some (r,S'):=fun r S' h=>
  cw (ρ := [some (tab m T),some (.tup [.int (a:Nat),.int (b:Nat)]),some (.tup (ao c)),some (.ref d),some (.ref S1.length),u5,u6,some told]) rfl ((aO (bq (kZ (f:=iI) (var_eq rfl) (var_eq rfl) (var_eq rfl) e1))).trans ((aO (bq (dn (f:=iF) (var_eq rfl) (var_eq rfl) e2))).trans ((aO e3).trans ((aO (bq (kZ (f:=kB) (var_eq rfl) (var_eq rfl) (var_eq rfl) e4))).trans h))))
 have hfull:=Dw (f:=goF T (hX m T a b p c)) C.inj hp
 by_cases hz:Z.length=1
 ·have hall:=hone.1.mp hz
  have hper:j9 m (goF T (hX m T a b p c)) 0=m:=hfull.mpr fun y hy=>by
   by_cases y0:y=0
   ·subst y0;exact CW C.inj hp
   ·exact hall y hy (by omega)
  rw [if_pos hper] at htold
  subst htold
  rw [show decide ((1:Int) < (Z.length:Nat))=false by rw [hz];decide] at ec
  have e7:m2 oIx (ab 4) (mC (.int 0)) [some (tab m T),some (.tup [.int (a:Nat),.int (b:Nat)]),some (.tup (ao c)),some (.ref d),some (.ref S1.length),u5,u6,some (.tup (ao ((rOf m T a b p c 0).map (hX m T a b p c))))] S4=some (.tup (ao (rOf m T a b p c 0)),S4):=by
   refine uP (z:=((0:Nat):Int)) (var_eq rfl) c_i g4 (n9 ?_)
   unfold tups
   rw [bo,hfirst.1];rfl
  have e8:=tT (ρ := [some (tab m T),some (.tup [.int (a:Nat),.int (b:Nat)]),some (.tup (ao c)),some (.ref d),some (.ref S1.length),u5,u6,some (.tup (ao ((rOf m T a b p c 0).map (hX m T a b p c))))]) (S:=S4) (i:=3) (j:=8) w e7 (Ad C.inj hp) (by rw [jO];have:=oO C.inj hp;omega) gd (fun _=>rfl) (fun _=>rfl)
  have e9:=Kc (ρ := [some (tab m T),some (.tup [.int (a:Nat),.int (b:Nat)]),some (.tup (ao c)),some (.ref d),some (.ref S1.length),u5,u6,some (.tup (ao ((rOf m T a b p c 0).map (hX m T a b p c))))]) (S:=S4) (a:=ab 7) (var_eq rfl) e8
  rw [decide_eq_true rfl] at e9
  have ei:m1 (jE "tuple") (ab 7) [some (tab m T),some (.tup [.int (a:Nat),.int (b:Nat)]),some (.tup (ao c)),some (.ref d),some (.ref S1.length),u5,u6,some (.tup (ao ((rOf m T a b p c 0).map (hX m T a b p c))))] S4=some (.bl true,S4):=rfl
  exact⟨_,head _ _ ((aO ((kK ec).trans rfl)).trans (cj (Er ei (fun _=>e9) (fun z=>by cases z)))),X.trans (Ex.push _ _)⟩
 ·have hper:j9 m (goF T (hX m T a b p c)) 0≠m:=fun e=>hz (hone.1.mpr fun y hy _=>hfull.mp e y hy)
  rw [if_neg hper] at htold
  subst htold
  rw [show decide ((1:Int) < (Z.length:Nat))=true by apply decide_eq_true;omega] at ec
  exact⟨_,head _ _ (FX ((mI ec).trans (cj rfl))),X⟩
end
theorem zV (ns:List Int) (hl:ns.length<=63) (S:Sto) (h1:S.length=1) (h2:getL S 0=some (ns.map U.int)) : ∃ S',Io [.ref 0] S=some (.bl true,S'):=by
 obtain⟨q,hq,eq⟩:=zN (ρ := [some (.ref 0),none,none,none,none,none,none,none,none]) (c:=6) h2 rfl hl
 obtain⟨ρ1,S1,e1,_,_⟩:=fS (i:=1) (a:=mFn p9 (aa (mC (.int 1)) (aa (mFn mE (aa (mFn bW (aa (ab 0) ai)) (aa (mC (.int 6)) ai))) ai))) (n:=q)
  (b:=ba (bC 2 (mFn iz (aa (ab 0) (aa (ab 1) ai)))) (ba (yb (mFn fU (aa (ab 2) (aa (mC (.int 24)) ai))) (gTp 2 (dM (gN 3) (dM (gN 4) kT)))) (ba (bC 5 (mFn bW (aa (mFn dQ (aa (ab 3) (aa (ab 4) ai))) ai))) (ba (bC 6 (cm (aa (m2 d6 (ft (aa (mC (.int 0)) ai)) (ab 5)) (aa (m2 d6 (ft (aa (mC (.int 1)) ai)) (ab 5)) ai)))) (ba (dD 7 (iR1 (aa (mC (.int 3)) ai)) (cy (mML bH (ab 6) (aa (mFn bG (aa (bX (iR1 (aa (ab 5) ai)) cTT (mFn aX (aa (ab 2) (aa (mC (.int 2)) ai)))) ai)) ai)))) (dD 8 (cM (ab 6)) (sIf (nL (cOf (mFn eA (aa (ab 3) (aa (ab 4) (aa (ab 8) ai)))))) (cK (mC (.bl false))) cJ)))))))
  (ρ := [some (.ref 0),none,none,none,none,none,none,none,none]) (S:=S) eq (by unfold big;omega)
  (fun k ρ S'=>(∃ a b c d e f g h,ρ = [some (.ref 0),a,b,c,d,e,f,g,h])/\Scr ns S') ⟨⟨_,_,_,_,_,_,_,_,rfl⟩,h2⟩
  (by
   rintro k ρ S' hk ⟨⟨u1,u2,u3,u4,u5,u6,u7,u8,rfl⟩,hs⟩
   have h0:=hs.lt
   obtain⟨S2,f2,x2,st2⟩:=zu (k:=k) hs
   obtain⟨m,T,x,y,S3,f3,gr,hm3,hm,hx,hy,st3⟩:=Do st2
   have ht:T x (unT m T y) < m:=gr.cl x _ hx (hJ gr hy).1
   obtain⟨p,p1,p2,p3,p4⟩:=gr.ord ht
   obtain⟨r4,S4,f4,x4,hr4⟩:=qM (S:=S3) gr (by omega) hx hy rfl p1 (by omega) p4 p3
   have hLl:(lOf m T x y p).length<=m:=oW
   have two : ∀ c:List Nat,c.length=(lOf m T x y p).length->(∀ x∈c,x < 2)->Two m T x y p c:=fun c h1 h2=>⟨gr,by omega,hx,hy,p1,by omega,p4,p3,h1,h2⟩
   generalize hN:(lOf m T x y p).length=N at hLl two
   have a3:yb (mFn fU (aa (ab 2) (aa (mC (.int 24)) ai))) (gTp 2 (dM (gN 3) (dM (gN 4) kT))) [some (.ref 0),some (.int k),some (.ref S'.length),u3,u4,u5,u6,u7,u8] S2=some (.nx,[some (.ref 0),some (.int k),some (.ref S'.length),some (tab m T),some (.tup [.int (x:Nat),.int (y:Nat)]),u5,u6,u7,u8],S3):=by
    have:=dn (ρ := [some (.ref 0),some (.int k),some (.ref S'.length),u3,u4,u5,u6,u7,u8]) (S:=S2) (f:=fU) (a:=ab 2) (b:=mC (.int 24)) (var_eq rfl) c_i f3
    simp only [yb,this,aD]
    rfl
   have e5:mFn bW (aa (mFn dQ (aa (ab 3) (aa (ab 4) ai))) ai) [some (.ref 0),some (.int k),some (.ref S'.length),some (tab m T),some (.tup [.int (x:Nat),.int (y:Nat)]),u5,u6,u7,u8] S3=some (.int (N:Nat),S4):=by
    refine fQ (dn (f:=dQ) (a:=ab 3) (b:=ab 4) (var_eq rfl) (var_eq rfl) f4) ?_
    simp only [bW,Eb hr4,dO,getL,hr4,aT]
    rw [show (dc (eE m T (T x (unT m T y)) p)).length=N by rw [<- hN];simp [dc,tups]]
   have rep : ∀ (s:Nat) {ρ:Rho}{S:Sto},ρ[5]? = some (some (.int (N:Nat)))->m2 d6 (ft (aa (mC (.int (s:Nat))) ai)) (ab 5) ρ S=some (.tup (ao (aE N s)),S):=fun s ρ S h=>Jg (En c_i) (var_eq h) (by omega)
   have e6:=ml (mc (rep 0 (ρ := [some (.ref 0),some (.int k),some (.ref S'.length),some (tab m T),some (.tup [.int (x:Nat),.int (y:Nat)]),some (.int (N:Nat)),u6,u7,u8]) (S:=S4) rfl) (mc (rep 1 rfl) (show ai _ _=_ from rfl))) (by simp)
   have st4:Stp S'.length S2 (S4 ++ [Cell.lst [.tup (ao (aE N 0)),.tup (ao (aE N 1))]]):=(st3.step x4).step (Ex.push _ _)
   have h4:S'.length < S4.length:=aF st3.st.lt x4.len
   obtain⟨ρ7,S7,e7,⟨y7,W,rfl,s7,g7,l7,w7⟩,hs7⟩:=fS (i:=7) (a:=mC (.int 3)) (n:=3) (b:=cy (mML bH (ab 6) (aa (mFn bG (aa (bX (iR1 (aa (ab 5) ai)) cTT (mFn aX (aa (ab 2) (aa (mC (.int 2)) ai)))) ai)) ai))) (ρ := [some (.ref 0),some (.int k),some (.ref S'.length),some (tab m T),some (.tup [.int (x:Nat),.int (y:Nat)]),some (.int (N:Nat)),some (.ref S4.length),u7,u8]) (S:=S4 ++ [Cell.lst [.tup (ao (aE N 0)),.tup (ao (aE N 1))]]) rfl (by decide)
    (fun i ρ S7=>(∃ y7 W,ρ = [some (.ref 0),some (.int k),some (.ref S'.length),some (tab m T),some (.tup [.int (x:Nat),.int (y:Nat)]),some (.int (N:Nat)),some (.ref S4.length),y7,u8]/\kM S'.length S7/\S7[S4.length]? = some (.lst (tups W))/\W.length=2+i /\ ∀ w∈W,w.length=N /\ ∀ x∈w,x < 2)/\Scr ns S7)
    ⟨⟨_,[aE N 0,aE N 1],rfl,st4.st,bV _ _,rfl,by
     intro w hw
     simp only [aG,df,_root_.or_false] at hw
     rcases hw with rfl | rfl
     ·exact⟨by simp,fun x hx=>by rw [xF hx];decide⟩
     ·exact⟨by simp,fun x hx=>by rw [xF hx];decide⟩⟩,(hs.ex fun c h=>x2.some h).ex fun c h=>st4.some (by omega) h⟩ (by
     rintro i ρ S7 hi ⟨⟨y7,W,rfl,s7,g7,l7,w7⟩,hs7⟩
     obtain⟨w,S8,e8,st8,hw,hwl⟩:=zv (n:=S'.length) (m:=2) (t:=N) (sv:=ab 2) (mv:=mC (.int 2)) (ρ := [some (.ref 0),some (.int k),some (.ref S'.length),some (tab m T),some (.tup [.int (x:Nat),.int (y:Nat)]),some (.int (N:Nat)),some (.ref S4.length),some (.int (i:Nat)),u8]) (S:=S7) (a:=ab 5) (var_eq rfl) (by omega) s7 (by decide) (by decide) (fun z S=>var_eq rfl) (fun z S=>c_i)
     have g8:S8[S4.length]? = some (.lst (tups W)):=st8.some (by omega) g7
     have ea:=append_eq (ρ := [some (.ref 0),some (.int k),some (.ref S'.length),some (tab m T),some (.tup [.int (x:Nat),.int (y:Nat)]),some (.int (N:Nat)),some (.ref S4.length),some (.int (i:Nat)),u8]) (S:=S7) (o:=ab 6) (r:=S4.length) (var_eq rfl) (eF e8) g7 ((Ex.push _ _).some g8) (by unfold tups;rw [aq];unfold big;omega)
     refine⟨_,_,ea,⟨_,W ++ [w],rfl,?_,?_,by simp;omega,fun v hv => ?_⟩,?_⟩
     ·obtain⟨s,b,q⟩:=st8.st.ex (Ex.push _ (Cell.lst (ao w)))
      exact⟨s,b,by rw [aA (by omega)];exact q⟩
     ·rw [aH (by have:=(ae.mp g8).1;simp;omega)]
      simp [tups]
     ·rcases bx.mp hv with hv | hv
      ·exact w7 v hv
      ·rw [cx.mp hv];exact⟨hwl,hw⟩
     ·refine hs7.ex fun c h => ?_
      rw [aA (by omega)]
      exact (Ex.push _ _).some (st8.some (by omega) h))
   obtain⟨ρ9,S9,e9,⟨y8,rfl⟩,_,hs9⟩:=z7 (i:=8) (n:=S4.length) (e:=ab 6) (us:=tups W) (b:=sIf (nL (cOf (mFn eA (aa (ab 3) (aa (ab 4) (aa (ab 8) ai)))))) (cK (mC (.bl false))) cJ) (ρ := [some (.ref 0),some (.int k),some (.ref S'.length),some (tab m T),some (.tup [.int (x:Nat),.int (y:Nat)]),some (.int (N:Nat)),some (.ref S4.length),y7,u8]) (S:=S7) (var_eq rfl) (by unfold tups;rw [aq];omega)
    (fun i ρ S9=>(∃ z,ρ = [some (.ref 0),some (.int k),some (.ref S'.length),some (tab m T),some (.tup [.int (x:Nat),.int (y:Nat)]),some (.int (N:Nat)),some (.ref S4.length),y7,z])/\S9[S4.length]? = some (.lst (tups W))/\Scr ns S9)
    ⟨⟨_,rfl⟩,g7,hs7⟩ (fun i ρ S9 hp=>by unfold getL;rw [hp.2.1]) (by
     rintro i u ρ S9 hu ⟨⟨z,rfl⟩,g9,hs9⟩
     obtain⟨w,hw,rfl⟩:=aQ.mp (bL hu)
     obtain⟨wl,w2⟩:=w7 w hw
     obtain⟨S10,e10,x10⟩:=Dm (S:=S9) (two w wl w2)
     exact⟨_,S10,(kK (not_eq (of_eq (kZ (f:=eA) (a:=ab 3) (b:=ab 4) (c:=ab 8) (var_eq rfl) (var_eq rfl) (var_eq rfl) e10)))).trans rfl,⟨_,rfl⟩,x10.some g9,hs9.ex fun c h=>x10.some h⟩)
   exact⟨_,S9,(aO (bq (dn (var_eq rfl) (var_eq rfl) f2))).trans ((aO a3).trans ((aO (bq e5)).trans ((aO (bq e6)).trans ((aO e7).trans e9)))),⟨_,_,_,_,_,_,_,_,rfl⟩,hs9⟩)
 exact⟨S1,cw (ρ:=ρ1) rfl ((aO e1).trans (cj rfl))⟩
end
noncomputable def top (i:Nat):Stmt:=PySem.Challenge.pw_groupwalks_k52_rings_of_choices.main.body.getD i (.Pass ⟨0,0,0,0⟩)
abbrev eX:Stmt:=top 16
abbrev gw:Stmt:=top 17
abbrev ie:Stmt:=top 18
abbrev gJ:Stmt:=top 19
abbrev gH:Stmt:=top 20
abbrev eV:Stmt:=top 22
abbrev il:Stmt:=top 21
abbrev gF:Stmt:=top 24
abbrev gM:Stmt:=top 23
abbrev gz:Stmt:=top 25
abbrev ic:Stmt:=top 31
abbrev fF:Stmt:=top 27
abbrev gG:Stmt:=top 28
abbrev gO:Stmt:=top 29
abbrev gy:Stmt:=top 30
abbrev jX:Stmt:=top 6
abbrev fH:Stmt:=top 1
abbrev fG:Stmt:=top 7
abbrev lU:Stmt:=top 4
abbrev oB:Stmt:=top 5
abbrev jM:Stmt:=top 2
abbrev i7:Stmt:=top 9
abbrev lP:Stmt:=top 10
abbrev eC:Stmt:=top 11
abbrev gI:Stmt:=top 12
abbrev i9:Stmt:=top 14
abbrev mx:Stmt:=top 13
abbrev gL:Stmt:=top 32
abbrev wx:Stmt:=top 33
noncomputable def T0:Tb:=⟨[],[],[],[],false⟩
noncomputable def T1:Tb:=⟨("_law_cell_at",gp)::T0.D,T0.C,[],T0.H,false⟩
noncomputable def T2:Tb:=⟨("_law_state",iz)::T1.D,T1.C,[],T1.H,false⟩
noncomputable def T3:Tb:=⟨("_law_take",aX)::T2.D,T2.C,[],T2.H,false⟩
noncomputable def T4:Tb:=⟨("_law_clock",cb)::T3.D,T3.C,[],T3.H,false⟩
noncomputable def T5:Tb:=⟨("_law_flips",eD)::T4.D,T4.C,[],T4.H,false⟩
noncomputable def T6:Tb:=⟨("_law_quarter",eW)::T5.D,T5.C,[],T5.H,false⟩
noncomputable def T7:Tb:=⟨("_law_both",ji)::T6.D,T6.C,[],T6.H,false⟩
noncomputable def T8:Tb:=⟨("_law_named",iC)::T7.D,T7.C,[],T7.H,false⟩
noncomputable def T9:Tb:=⟨("_law_order",iL)::T8.D,T8.C,[],T8.H,false⟩
noncomputable def T10:Tb:=⟨("_law_group",j0)::T9.D,T9.C,[],T9.H,false⟩
noncomputable def T11:Tb:=⟨("_law_pair",fU)::T10.D,T10.C,[],T10.H,false⟩
noncomputable def T12:Tb:=⟨("_law_undone",gZ)::T11.D,T11.C,[],T11.H,false⟩
noncomputable def T13:Tb:=⟨("_law_sides",dQ)::T12.D,T12.C,[],T12.H,false⟩
noncomputable def T14:Tb:=⟨("_law_going",iI)::T13.D,T13.C,[],T13.H,false⟩
noncomputable def T15:Tb:=⟨("_law_rings",iF)::T14.D,T14.C,[],T14.H,false⟩
noncomputable def T16:Tb:=⟨T15.D,T15.C,[],("pieces",pJ)::T15.H,false⟩
noncomputable def T17:Tb:=⟨("all_things",hC)::T16.D,T16.C,[],T16.H,false⟩
noncomputable def T18:Tb:=⟨("left_sides",ju)::T17.D,T17.C,[],T17.H,false⟩
noncomputable def T19:Tb:=⟨("roads",xt)::T18.D,T18.C,[],T18.H,false⟩
noncomputable def T20:Tb:=⟨("span",v8)::T19.D,T19.C,[],T19.H,false⟩
noncomputable def T21:Tb:=⟨("undone",oU)::T20.D,T20.C,[],T20.H,false⟩
noncomputable def T22:Tb:=⟨("turn_of",i5)::T21.D,T21.C,[],T21.H,false⟩
noncomputable def T23:Tb:=⟨("sides",nT)::T22.D,T22.C,[],T22.H,false⟩
noncomputable def T24:Tb:=⟨("chosen_steps",dw)::T23.D,T23.C,[],T23.H,false⟩
noncomputable def T25:Tb:=⟨("ring_from",eB)::T24.D,T24.C,[],T24.H,false⟩
noncomputable def T26:Tb:=⟨("walk_of",kB)::T25.D,T25.C,[],T25.H,false⟩
noncomputable def T27:Tb:=⟨("rings",mB)::T26.D,T26.C,[],T26.H,false⟩
noncomputable def T28:Tb:=⟨("_law_right",eA)::T27.D,T27.C,[],T27.H,false⟩
theorem p7:cB T0 80 (["script","k"]:List Str) (ax eX).names (bc eX)=some eY:=by kernel_rfl
theorem pz:bw (["script","k"]:List Str) (["script","k"]:List Str) (ax eX):=⟨rfl,rfl,rfl,by decide +kernel,rfl,by decide +kernel,by decide +kernel⟩
theorem tI:cB T1 80 (["script","k","cell"]:List Str) (ax gw).names (bc gw)=some iB:=by kernel_rfl
theorem rV:bw (["script","k","cell"]:List Str) (["script","k"]:List Str) (ax gw):=⟨rfl,rfl,rfl,by decide +kernel,rfl,by decide +kernel,by decide +kernel⟩
theorem we:cB T2 80 (["state","many","found","mixed"]:List Str) (ax ie).names (bc ie)=some jw:=by kernel_rfl
theorem ux:bw (["state","many","found","mixed"]:List Str) (["state","many"]:List Str) (ax ie):=⟨rfl,rfl,rfl,by decide +kernel,rfl,by decide +kernel,by decide +kernel⟩
theorem tP:cB T3 80 (["n"]:List Str) (ax gJ).names (bc gJ)=some kj:=by kernel_rfl
theorem rG:bw (["n"]:List Str) (["n"]:List Str) (ax gJ):=⟨rfl,rfl,rfl,by decide +kernel,rfl,by decide +kernel,by decide +kernel⟩
theorem uE:cB T4 80 (["n","found","i","row","j","turn"]:List Str) (ax gH).names (bc gH)=some j8:=by kernel_rfl
theorem rR:bw (["n","found","i","row","j","turn"]:List Str) (["n"]:List Str) (ax gH):=⟨rfl,rfl,rfl,by decide +kernel,rfl,by decide +kernel,by decide +kernel⟩
theorem qj:cB T5 80 (["signs","kinds","found","one","row","other","sign"]:List Str) (ax eV).names (bc eV)=some iR:=by kernel_rfl
theorem pA:bw (["signs","kinds","found","one","row","other","sign"]:List Str) ([]:List Str) (ax eV):=⟨rfl,rfl,rfl,by decide +kernel,rfl,by decide +kernel,by decide +kernel⟩
theorem vF:cB T6 80 (["one","other","size","found","i","row","j","ahead"]:List Str) (ax il).names (bc il)=some lu:=by kernel_rfl
theorem tD:bw (["one","other","size","found","i","row","j","ahead"]:List Str) (["one","other"]:List Str) (ax il):=⟨rfl,rfl,rfl,by decide +kernel,rfl,by decide +kernel,by decide +kernel⟩
theorem tU:cB T7 80 (["group","order"]:List Str) (ax gF).names (bc gF)=some jS:=by kernel_rfl
theorem rJ:bw (["group","order"]:List Str) (["group","order"]:List Str) (ax gF):=⟨rfl,rfl,rfl,by decide +kernel,rfl,by decide +kernel,by decide +kernel⟩
theorem uC:cB T8 80 (["state","many","left"]:List Str) (ax gM).names (bc gM)=some ki:=by kernel_rfl
theorem sW:bw (["state","many","left"]:List Str) (["state","many"]:List Str) (ax gM):=⟨rfl,rfl,rfl,by decide +kernel,rfl,by decide +kernel,by decide +kernel⟩
theorem vc:cB T9 80 (["state","most","way","found","first","one"]:List Str) (ax gz).names (bc gz)=some j4:=by kernel_rfl
theorem rB:bw (["state","most","way","found","first","one"]:List Str) (["state","most"]:List Str) (ax gz):=⟨rfl,rfl,rfl,by decide +kernel,rfl,by decide +kernel,by decide +kernel⟩
theorem wa:cB T10 80 (["state","most","group","left","one","other"]:List Str) (ax ic).names (bc ic)=some lB:=by kernel_rfl
theorem tY:bw (["state","most","group","left","one","other"]:List Str) (["state","most"]:List Str) (ax ic):=⟨rfl,rfl,rfl,by decide +kernel,rfl,by decide +kernel,by decide +kernel⟩
theorem r9:cB T11 80 (["group","thing"]:List Str) (ax fF).names (bc fF)=some jm:=by kernel_rfl
theorem p6:bw (["group","thing"]:List Str) (["group","thing"]:List Str) (ax fF):=⟨rfl,rfl,rfl,by decide +kernel,rfl,by decide +kernel,by decide +kernel⟩
theorem uF:cB T12 80 (["group","steps","turn","found","thing","some"]:List Str) (ax gG).names (bc gG)=some jR:=by kernel_rfl
theorem rQ:bw (["group","steps","turn","found","thing","some"]:List Str) (["group","steps"]:List Str) (ax gG):=⟨rfl,rfl,rfl,by decide +kernel,rfl,by decide +kernel,by decide +kernel⟩
theorem uj:cB T13 80 (["group","steps","choice","going","side","number","thing"]:List Str) (ax gO).names (bc gO)=some nB:=by kernel_rfl
theorem sY:bw (["group","steps","choice","going","side","number","thing"]:List Str) (["group","steps","choice"]:List Str) (ax gO):=⟨rfl,rfl,rfl,by decide +kernel,rfl,by decide +kernel,by decide +kernel⟩
theorem uY:cB T14 80 (["group","going","found","seen","thing","ring"]:List Str) (ax gy).names (bc gy)=some nz:=by kernel_rfl
theorem sf:bw (["group","going","found","seen","thing","ring"]:List Str) (["group","going"]:List Str) (ax gy):=⟨rfl,rfl,rfl,by decide +kernel,rfl,by decide +kernel,by decide +kernel⟩
theorem Ag : ∀ g φ,cB ⟨T15.D,T15.C,[("piece_at",g,φ)],T15.H,T15.mkr⟩ 80 (["rising","piece_at","found","met","least","piece","one"]:List Str) (ax jX).names (bc jX)=some (tN g φ):=by intro g φ;kernel_rfl
theorem x9:bw (["rising","piece_at","found","met","least","piece","one"]:List Str) (["rising","piece_at"]:List Str) (ax jX):=⟨rfl,rfl,rfl,by decide +kernel,rfl,by decide +kernel,by decide +kernel⟩
theorem sJ:cB T16 80 (["group"]:List Str) (ax fH).names (bc fH)=some mF:=by kernel_rfl
theorem p8:bw (["group"]:List Str) (["group"]:List Str) (ax fH):=⟨rfl,rfl,rfl,by decide +kernel,rfl,by decide +kernel,by decide +kernel⟩
theorem rK:cB ⟨T17.D,T17.C,T17.L,T17.H,true⟩ 80 (["group","part"]:List Str) (ax fG).names (bc fG)=some mJ:=by kernel_rfl
theorem qg:bw (["group","part"]:List Str) (["group","part"]:List Str) (ax fG):=⟨rfl,rfl,rfl,by decide +kernel,rfl,by decide +kernel,by decide +kernel⟩
theorem B0:cB T18 80 (["group","things","found","waiting","place","thing","onward"]:List Str) (ax lU).names (bc lU)=some wW:=by kernel_rfl
theorem zm:bw (["group","things","found","waiting","place","thing","onward"]:List Str) (["group","things"]:List Str) (ax lU):=⟨rfl,rfl,rfl,by decide +kernel,rfl,by decide +kernel,by decide +kernel⟩
theorem GN:cB T19 80 (["group","things"]:List Str) (ax oB).names (bc oB)=some Av:=by kernel_rfl
theorem Ds:bw (["group","things"]:List Str) (["group","things"]:List Str) (ax oB):=⟨rfl,rfl,rfl,by decide +kernel,rfl,by decide +kernel,by decide +kernel⟩
theorem z6:cB T20 80 (["group","thing"]:List Str) (ax jM).names (bc jM)=some pC:=by kernel_rfl
theorem yx:bw (["group","thing"]:List Str) (["group","thing"]:List Str) (ax jM):=⟨rfl,rfl,rfl,by decide +kernel,rfl,by decide +kernel,by decide +kernel⟩
theorem yq:cB T21 80 (["group","steps"]:List Str) (ax i7).names (bc i7)=some mR:=by kernel_rfl
theorem vT:bw (["group","steps"]:List Str) (["group","steps"]:List Str) (ax i7):=⟨rfl,rfl,rfl,by decide +kernel,rfl,by decide +kernel,by decide +kernel⟩
theorem Dp:cB T22 80 (["group","steps"]:List Str) (ax lP).names (bc lP)=some rT:=by kernel_rfl
theorem AB:bw (["group","steps"]:List Str) (["group","steps"]:List Str) (ax lP):=⟨rfl,rfl,rfl,by decide +kernel,rfl,by decide +kernel,by decide +kernel⟩
theorem pH:cB T23 80 (["group","steps","choice","chosen","side","which","thing"]:List Str) (ax eC).names (bc eC)=some jN:=by kernel_rfl
theorem nJ:bw (["group","steps","choice","chosen","side","which","thing"]:List Str) (["group","steps","choice"]:List Str) (ax eC):=⟨rfl,rfl,rfl,by decide +kernel,rfl,by decide +kernel,by decide +kernel⟩
theorem uU:cB T24 80 (["group","chosen","first","ring","onward"]:List Str) (ax gI).names (bc gI)=some nA:=by kernel_rfl
theorem sD:bw (["group","chosen","first","ring","onward"]:List Str) (["group","chosen","first"]:List Str) (ax gI):=⟨rfl,rfl,rfl,by decide +kernel,rfl,by decide +kernel,by decide +kernel⟩
theorem yr:cB T25 80 (["group","steps","choice","chosen","ring"]:List Str) (ax i9).names (bc i9)=some qO:=by kernel_rfl
theorem vV:bw (["group","steps","choice","chosen","ring"]:List Str) (["group","steps","choice"]:List Str) (ax i9):=⟨rfl,rfl,rfl,by decide +kernel,rfl,by decide +kernel,by decide +kernel⟩
theorem BL:cB ⟨T26.D,T26.C,T26.L,T26.H,true⟩ 80 (["group","steps","choice","chosen"]:List Str) (ax mx).names (bc mx)=some wV:=by kernel_rfl
theorem zG:bw (["group","steps","choice","chosen"]:List Str) (["group","steps","choice"]:List Str) (ax mx):=⟨rfl,rfl,rfl,by decide +kernel,rfl,by decide +kernel,by decide +kernel⟩
theorem ve:cB T27 80 (["group","steps","choice","going","due","turn","found","told"]:List Str) (ax gL).names (bc gL)=some nv:=by kernel_rfl
theorem sH:bw (["group","steps","choice","going","due","turn","found","told"]:List Str) (["group","steps","choice"]:List Str) (ax gL):=⟨rfl,rfl,rfl,by decide +kernel,rfl,by decide +kernel,by decide +kernel⟩
theorem HZ:cB T28 80 (["script","k","state","group","steps","many","choices","turn","choice"]:List Str) (ax wx).names (bc wx)=some Eg:=by kernel_rfl
theorem FD:bw (["script","k","state","group","steps","many","choices","turn","choice"]:List Str) (["script"]:List Str) (ax wx):=⟨rfl,rfl,rfl,by decide +kernel,rfl,by decide +kernel,by decide +kernel⟩
theorem chain {P:Program}{w:World}{K:ak}{mg:Str->Option Value}{h:Heap}{k17 p17:Addr}{k26 p26:Addr} (X:K.In h) (Gn:h.Ns mainGlobals mg) (B : ∀ x∈i4,gg K mainGlobals x=some none)  (g17:mainGlobals≠p17) (g26:mainGlobals≠p26) (nd:([p17,p26]:List Addr).Nodup)
  (D0:Def K "_law_cell_at" eX) (D1:Def K "_law_state" gw) (D2:Def K "_law_take" ie) (D3:Def K "_law_clock" gJ) (D4:Def K "_law_flips" gH) (D5:Def K "_law_quarter" eV) (D6:Def K "_law_both" il) (D7:Def K "_law_named" gF) (D8:Def K "_law_order" gM) (D9:Def K "_law_group" gz) (D10:Def K "_law_pair" ic) (D11:Def K "_law_undone" fF) (D12:Def K "_law_sides" gG) (D13:Def K "_law_going" gO) (D14:Def K "_law_rings" gy) (D15:Def K "pieces" jX) (D16:Def K "all_things" fH) (D17:nK K "left_sides" fG k17 p17) (D18:Def K "roads" lU) (D19:Def K "span" oB) (D20:Def K "undone" jM) (D21:Def K "turn_of" i7) (D22:Def K "sides" lP) (D23:Def K "chosen_steps" eC) (D24:Def K "ring_from" gI) (D25:Def K "walk_of" i9) (D26:nK K "rings" mx k26 p26) (D27:Def K "_law_right" gL) : ∀ (caps:List U) (capv:List V) (cds:List (Addr×Obj)) (base:Heap),gK mg base->TOk ⟨P,w,⟨K,caps,capv,cds,[(p17,("left_sides":Str)++".<locals>."++"<lambda>"),(p26,("rings":Str)++".<locals>."++"<lambda>")]⟩,mg,base,none⟩ T28 31:=by
 have C0:Ch P w K mg [(p17,("left_sides":Str)++".<locals>."++"<lambda>"),(p26,("rings":Str)++".<locals>."++"<lambda>")] T0 0:=⟨fun _ _ _ _ _=>TOk.nil X Gn B,fun _ _ _ _ _ _ _ z=>by cases z⟩
 have nd:(([(p17,("left_sides":Str)++".<locals>."++"<lambda>"),(p26,("rings":Str)++".<locals>."++"<lambda>")]:List (Addr×Str)).map (·.1)).Nodup:=by simpa using nd
 have C1:Ch P w K mg _ T1 1:=C0.dfn C0.o rfl X Gn D0 pz (fun _ _ _ _ _ _=>us2 fun _ _=>rfl) p7
 have C2:Ch P w K mg _ T2 2:=C1.dfn C1.o rfl X Gn D1 rV (fun _ _ _ _ _ _=>us2 fun _ _=>rfl) tI
 have C3:Ch P w K mg _ T3 3:=C2.dfn C2.o rfl X Gn D2 ux (fun _ _ _ _ _ _=>us2 fun _ _=>rfl) we
 have C4:Ch P w K mg _ T4 4:=C3.dfn C3.o rfl X Gn D3 rG (fun _ _ _ _ _ _=>us1 fun _=>rfl) tP
 have C5:Ch P w K mg _ T5 5:=C4.dfn C4.o rfl X Gn D4 rR (fun _ _ _ _ _ _=>us1 fun _=>rfl) uE
 have C6:Ch P w K mg _ T6 6:=C5.dfn C5.o rfl X Gn D5 pA (fun _ _ _ _ _ _=>us0 rfl) qj
 have C7:Ch P w K mg _ T7 7:=C6.dfn C6.o rfl X Gn D6 tD (fun _ _ _ _ _ _=>us2 fun _ _=>rfl) vF
 have C8:Ch P w K mg _ T8 8:=C7.dfn C7.o rfl X Gn D7 rJ (fun _ _ _ _ _ _=>us2 fun _ _=>rfl) tU
 have C9:Ch P w K mg _ T9 9:=C8.dfn C8.o rfl X Gn D8 sW (fun _ _ _ _ _ _=>us2 fun _ _=>rfl) uC
 have C10:Ch P w K mg _ T10 10:=C9.dfn C9.o rfl X Gn D9 rB (fun _ _ _ _ _ _=>us2 fun _ _=>rfl) vc
 have C11:Ch P w K mg _ T11 11:=C10.dfn C10.o rfl X Gn D10 tY (fun _ _ _ _ _ _=>us2 fun _ _=>rfl) wa
 have C12:Ch P w K mg _ T12 12:=C11.dfn C11.o rfl X Gn D11 p6 (fun _ _ _ _ _ _=>us2 fun _ _=>rfl) r9
 have C13:Ch P w K mg _ T13 13:=C12.dfn C12.o rfl X Gn D12 rQ (fun _ _ _ _ _ _=>us2 fun _ _=>rfl) uF
 have C14:Ch P w K mg _ T14 14:=C13.dfn C13.o rfl X Gn D13 sY (fun _ _ _ _ _ _=>us3 fun _ _ _=>rfl) uj
 have C15:Ch P w K mg _ T15 15:=C14.dfn C14.o rfl X Gn D14 sf (fun _ _ _ _ _ _=>us2 fun _ _=>rfl) uY
 have C16:Ch P w K mg _ T16 15:=C15.cls rfl rfl X Gn D15 x9 (fun _ _ _ _ _ _=>us2 fun _ _=>rfl) Ag
 have C17:Ch P w K mg _ T17 16:=C16.dfn C16.o rfl X Gn D16 p8 (fun _ _ _ _ _ _=>us1 fun _=>rfl) sJ
 have C18:Ch P w K mg _ T18 19:=C17.lam_ rfl rfl (by simp) nd g17 X Gn D17 qg (fun _ _ _ _ _ _=>us2 fun _ _=>rfl) rK
 have C19:Ch P w K mg _ T19 20:=C18.dfn C18.o rfl X Gn D18 zm (fun _ _ _ _ _ _=>us2 fun _ _=>rfl) B0
 have C20:Ch P w K mg _ T20 21:=C19.dfn C19.o rfl X Gn D19 Ds (fun _ _ _ _ _ _=>us2 fun _ _=>rfl) GN
 have C21:Ch P w K mg _ T21 22:=C20.dfn C20.o rfl X Gn D20 yx (fun _ _ _ _ _ _=>us2 fun _ _=>rfl) z6
 have C22:Ch P w K mg _ T22 23:=C21.dfn C21.o rfl X Gn D21 vT (fun _ _ _ _ _ _=>us2 fun _ _=>rfl) yq
 have C23:Ch P w K mg _ T23 24:=C22.dfn C22.o rfl X Gn D22 AB (fun _ _ _ _ _ _=>us2 fun _ _=>rfl) Dp
 have C24:Ch P w K mg _ T24 25:=C23.dfn C23.o rfl X Gn D23 nJ (fun _ _ _ _ _ _=>us3 fun _ _ _=>rfl) pH
 have C25:Ch P w K mg _ T25 26:=C24.dfn C24.o rfl X Gn D24 sD (fun _ _ _ _ _ _=>us3 fun _ _ _=>rfl) uU
 have C26:Ch P w K mg _ T26 27:=C25.dfn C25.o rfl X Gn D25 vV (fun _ _ _ _ _ _=>us3 fun _ _ _=>rfl) yr
 have C27:Ch P w K mg _ T27 30:=C26.lam_ rfl rfl (by simp) nd g26 X Gn D26 zG (fun _ _ _ _ _ _=>us3 fun _ _ _=>rfl) BL
 have C28:Ch P w K mg _ T28 31:=C27.dfn C27.o rfl X Gn D27 sH (fun _ _ _ _ _ _=>us3 fun _ _ _=>rfl) ve
 exact fun caps capv cds base hbb=>(C28.o caps capv cds base hbb)
theorem all_mk {l:kJ}{w:World}{K:ak}{h:Heap}{mg:Str->Option Value}{fa:Addr}{q:Program}{k17 p17:Addr}{k26 p26:Addr} (X:K.In h) (Gn:h.Ns mainGlobals mg) (hfa:mg "law"=some (.ref fa)) (B : ∀ x∈i4,gg K mainGlobals x=some none)  (g17:mainGlobals≠p17) (g26:mainGlobals≠p26) (nd:([p17,p26]:List Addr).Nodup)
  (D0:Def K "_law_cell_at" eX) (D1:Def K "_law_state" gw) (D2:Def K "_law_take" ie) (D3:Def K "_law_clock" gJ) (D4:Def K "_law_flips" gH) (D5:Def K "_law_quarter" eV) (D6:Def K "_law_both" il) (D7:Def K "_law_named" gF) (D8:Def K "_law_order" gM) (D9:Def K "_law_group" gz) (D10:Def K "_law_pair" ic) (D11:Def K "_law_undone" fF) (D12:Def K "_law_sides" gG) (D13:Def K "_law_going" gO) (D14:Def K "_law_rings" gy) (D15:Def K "pieces" jX) (D16:Def K "all_things" fH) (D17:nK K "left_sides" fG k17 p17) (D18:Def K "roads" lU) (D19:Def K "span" oB) (D20:Def K "undone" jM) (D21:Def K "turn_of" i7) (D22:Def K "sides" lP) (D23:Def K "chosen_steps" eC) (D24:Def K "ring_from" gI) (D25:Def K "walk_of" i9) (D26:nK K "rings" mx k26 p26) (D27:Def K "_law_right" gL) (D28:Def K "law" wx) {d17:DefRec} (n17:K.lookup p17=none) (r17:(gX q).find? (fun e=>e.name == ("left_sides":Str))=some d17) {d26:DefRec} (n26:K.lookup p26=none) (r26:(gX q).find? (fun e=>e.name == ("rings":Str))=some d26) :
  ∃ (tabs:List (Addr×Str)) (fd:FuncData) (sp:Sp),(∀ r∈tabs,K.lookup r.1=none /\ ∃ x d c,(gX q).find? (fun e=>e.name == x)=some d/\PySem.W.tabIn K x=some (c,r.1))/\(∀ (s:Shared) (v:Value),BindsTo s fd ⟨[v],[]⟩ [("script",v)]) /\
   (∀ base:Heap,K.In base->base.Ns mainGlobals mg->gK mg base->kL l.prog w K mg base CX0 32 fa fd ["script"] sp) /\ ∀ (H:Hp) (a:Addr) (ns:List Int),ns.length<=63->(∀ r∈tabs,vw H r.1 r.2)->SqL K H a (ns.map V.int)->sp [.ref a] H (fun v _=>v = .bl true) fun _ _ _=>False:=by
 obtain⟨fd,h1,h2⟩:=GU (l:=l) (w:=w) (tabs := [(p17,("left_sides":Str)++".<locals>."++"<lambda>"),(p26,("rings":Str)++".<locals>."++"<lambda>")]) X Gn hfa D28 FD (fun _ _ _ _ _ _=>us1 fun _=>rfl) rfl (fun base hbb=>chain X Gn B   g17 g26 nd D0 D1 D2 D3 D4 D5 D6 D7 D8 D9 D10 D11 D12 D13 D14 D15 D16 D17 D18 D19 D20 D21 D22 D23 D24 D25 D26 D27 [] [] [] base hbb) HZ
 refine⟨[(p17,("left_sides":Str)++".<locals>."++"<lambda>"),(p26,("rings":Str)++".<locals>."++"<lambda>")],fd,_,?_,h1,h2,fun H a ns hl hT hS=>Hg hT hS fun S h1 h2=>zV ns hl S h1 h2⟩
 intro r hr
 simp only [aG,df,_root_.or_false] at hr
 rcases hr with rfl | rfl
 ·exact⟨n17,_,_,_,r17,D17.tab⟩
 ·exact⟨n26,_,_,_,r26,D26.tab⟩
theorem walk {l:kJ}{q:Program}{loose:List Str}{XP:(Str->Option Value)->Heap->Prop}{YP:World->Heap->Prop}{d:DefRec}{K:Params->ak} (hn:l.most=some 63) (hdf:d.params.defaults = [])
  (hY : ∀ (w:World) (h:Heap),YP w h->(K w.params).In h)
  (F : ∀ (w:World) (mg:Str->Option Value) (fa:Addr) (h:Heap),(K w.params).In h->h.Ns mainGlobals mg->mg d.name=some (.ref fa) -> ∃ (tabs:List (Addr×Str)) (fd:FuncData) (sp:Sp),
   (∀ r∈tabs,(K w.params).lookup r.1=none /\ ∃ x d c,(gX q).find? (fun e=>e.name == x)=some d/\PySem.W.tabIn (K w.params) x=some (c,r.1))/\(∀ (s:Shared) (v:Value),BindsTo s fd ⟨[v],[]⟩ [("script",v)]) /\
   (∀ base:Heap,(K w.params).In base->base.Ns mainGlobals mg->gK mg base->kL l.prog w (K w.params) mg base CX0 32 fa fd ["script"] sp) /\ ∀ (H:Hp) (a:Addr) (ns:List Int),ns.length<=63->(∀ r∈tabs,vw H r.1 r.2)->SqL (K w.params) H a (ns.map V.int)->sp [.ref a] H (fun v _=>v = .bl true) fun _ _ _=>False) :
  PySem.W.WalkO q loose XP YP l.row.toRowW d [] (fun f vs=>PySem.call f vs):=
 AZ (n:=63) (k:=32) (x:="script") hn (by decide) hdf ⟨rfl,by decide,by decide,rfl⟩ hY F
end W
open PySem PySem.W PyProof.Rows
set_option maxRecDepth 100000 in
set_option maxHeartbeats 0 in
theorem PySem.Challenge.cw_groupwalks_k52_rings_of_choices_holds : PySem.Challenge.rw_groupwalks_k52_rings_of_choices.Holds := by
 w_on;o_law;k_head;(case hw=>w_witness2)
 k_fill
 refine W.walk (l:=PySem.Challenge.rw_groupwalks_k52_rings_of_choices) rfl rfl (fun w h Y=>PySem.W.km_in_of Y) ?F
 case F=>
  intro w mg fa h KX Gh hmg
  refine' W.all_mk KX Gh hmg ?B  ?g17 ?g26 ?nd (G.cR ?a0 ?l0 ?c0 ?k0) (G.cR ?a1 ?l1 ?c1 ?k1) (G.cR ?a2 ?l2 ?c2 ?k2) (G.cR ?a3 ?l3 ?c3 ?k3) (G.cR ?a4 ?l4 ?c4 ?k4) (G.cR ?a5 ?l5 ?c5 ?k5) (G.cR ?a6 ?l6 ?c6 ?k6) (G.cR ?a7 ?l7 ?c7 ?k7) (G.cR ?a8 ?l8 ?c8 ?k8) (G.cR ?a9 ?l9 ?c9 ?k9) (G.cR ?a10 ?l10 ?c10 ?k10) (G.cR ?a11 ?l11 ?c11 ?k11) (G.cR ?a12 ?l12 ?c12 ?k12) (G.cR ?a13 ?l13 ?c13 ?k13) (G.cR ?a14 ?l14 ?c14 ?k14) (G.cR ?a15 ?l15 ?c15 ?k15) (G.cR ?a16 ?l16 ?c16 ?k16) (G.wC ?a17 ?l17 ?c17 ?k17 ?e17 ?u17 ?v17 ?w17 ?x17 ?y17 ?z17 ?t17) (G.cR ?a18 ?l18 ?c18 ?k18) (G.cR ?a19 ?l19 ?c19 ?k19) (G.cR ?a20 ?l20 ?c20 ?k20) (G.cR ?a21 ?l21 ?c21 ?k21) (G.cR ?a22 ?l22 ?c22 ?k22) (G.cR ?a23 ?l23 ?c23 ?k23) (G.cR ?a24 ?l24 ?c24 ?k24) (G.cR ?a25 ?l25 ?c25 ?k25) (G.wC ?a26 ?l26 ?c26 ?k26 ?e26 ?u26 ?v26 ?w26 ?x26 ?y26 ?z26 ?t26) (G.cR ?a27 ?l27 ?c27 ?k27) (G.cR ?a28 ?l28 ?c28 ?k28) ?n17 ?r17 ?n26 ?r26
  case B=>
   intro x hx
   simp only [G.i4,aG,df,or_false] at hx
   rcases hx with rfl | rfl | rfl | rfl | rfl | rfl | rfl | rfl | rfl | rfl | rfl | rfl | rfl | rfl | rfl | rfl | rfl | rfl | rfl | rfl
   all_goals k_is
  (case a0=>k_is);(case l0=>k_is);(case c0=>k_is);(case k0=>k_is)
  (case a1=>k_is);(case l1=>k_is);(case c1=>k_is);(case k1=>k_is)
  (case a2=>k_is);(case l2=>k_is);(case c2=>k_is);(case k2=>k_is)
  (case a3=>k_is);(case l3=>k_is);(case c3=>k_is);(case k3=>k_is)
  (case a4=>k_is);(case l4=>k_is);(case c4=>k_is);(case k4=>k_is)
  (case a5=>k_is);(case l5=>k_is);(case c5=>k_is);(case k5=>k_is)
  (case a6=>k_is);(case l6=>k_is);(case c6=>k_is);(case k6=>k_is)
  (case a7=>k_is);(case l7=>k_is);(case c7=>k_is);(case k7=>k_is)
  (case a8=>k_is);(case l8=>k_is);(case c8=>k_is);(case k8=>k_is)
  (case a9=>k_is);(case l9=>k_is);(case c9=>k_is);(case k9=>k_is)
  (case a10=>k_is);(case l10=>k_is);(case c10=>k_is);(case k10=>k_is)
  (case a11=>k_is);(case l11=>k_is);(case c11=>k_is);(case k11=>k_is)
  (case a12=>k_is);(case l12=>k_is);(case c12=>k_is);(case k12=>k_is)
  (case a13=>k_is);(case l13=>k_is);(case c13=>k_is);(case k13=>k_is)
  (case a14=>k_is);(case l14=>k_is);(case c14=>k_is);(case k14=>k_is)
  (case a15=>k_is);(case l15=>k_is);(case c15=>k_is);(case k15=>k_is)
  (case a16=>k_is);(case l16=>k_is);(case c16=>k_is);(case k16=>k_is)
  (case a17=>k_is);(case l17=>k_is);(case c17=>k_is);(case k17=>k_is)
  (case e17=>k_is);(case u17=>rfl);(case v17=>rfl);(case w17=>rfl);(case x17=>rfl);(case y17=>rfl);(case z17=>rfl);(case t17=>decide)
  (case a18=>k_is);(case l18=>k_is);(case c18=>k_is);(case k18=>k_is)
  (case a19=>k_is);(case l19=>k_is);(case c19=>k_is);(case k19=>k_is)
  (case a20=>k_is);(case l20=>k_is);(case c20=>k_is);(case k20=>k_is)
  (case a21=>k_is);(case l21=>k_is);(case c21=>k_is);(case k21=>k_is)
  (case a22=>k_is);(case l22=>k_is);(case c22=>k_is);(case k22=>k_is)
  (case a23=>k_is);(case l23=>k_is);(case c23=>k_is);(case k23=>k_is)
  (case a24=>k_is);(case l24=>k_is);(case c24=>k_is);(case k24=>k_is)
  (case a25=>k_is);(case l25=>k_is);(case c25=>k_is);(case k25=>k_is)
  (case a26=>k_is);(case l26=>k_is);(case c26=>k_is);(case k26=>k_is)
  (case e26=>k_is);(case u26=>rfl);(case v26=>rfl);(case w26=>rfl);(case x26=>rfl);(case y26=>rfl);(case z26=>rfl);(case t26=>decide)
  (case a27=>k_is);(case l27=>k_is);(case c27=>k_is);(case k27=>k_is)
  (case a28=>k_is);(case l28=>k_is);(case c28=>k_is);(case k28=>k_is)
  (case g17=>decide)
  (case g26=>decide)
  (case nd=>decide)
  (case n17=>kernel_rfl);(case r17=>rfl)
  (case n26=>kernel_rfl);(case r26=>rfl)
